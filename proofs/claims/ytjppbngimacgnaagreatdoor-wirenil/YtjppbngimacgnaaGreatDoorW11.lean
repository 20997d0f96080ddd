/- wire.Encode of a message that may not be. -/
import Derived.Test.YtjppbngimacgnaaGreatDoorW10
import Derived.Test.YtjppbngimacgnaaGreatDoorW7
set_option linter.unusedVariables false
set_option linter.unusedSimpArgs false
set_option linter.unnecessarySimpa false
namespace Go.Proofs.YtjppbngimacgnaaGreatDoor
open Go.RowKit

set_option maxHeartbeats 4000000 in
set_option maxRecDepth 100000 in
theorem Encode_no (m : Ms) (s : ByteArray) (a y : Int) (w : World)
    (hC : ∀ W, Chg w W [] → Calls Tryz.prog 24 #[.agg (msC m)] W fun e w' => ∃ v, e = .returned v ∧ Ft w' W.heap.size v s a y ∧ Chg W w' []) :
    Calls Tryz.prog 14 #[.agg (msC m)] w fun e w' => ∃ v, e = .returned (.tuple #[.slice none 0 0, v]) ∧ Ft w' w.heap.size v s a y ∧ Chg w w' [] := by
  have HC : Hid (∀ W, Chg w W [] → Calls Tryz.prog 24 #[.agg (msC m)] W fun e w' => ∃ v, e = .returned v ∧ Ft w' W.heap.size v s a y ∧ Chg W w' []) := hC
  clear hC
  go_enter Tryz.func14, Tryz.ntmps14
  go_wp2_with (first
    | (refine box_w rfl 56 _ rfl (msC m) rfl ?_; intro g w1 hg B k1)
    | (refine wpList_load_row rfl 56 _ rfl g rfl 56 _ (0, 0) _ B Tryz.underlying56 rfl (by rw [msC_size]; exact msInfo) ?_))
  refine (HC.out _ k1).mono ?_
  rintro e w2 ⟨v, rfl, hv, k2⟩
  have hv2 := hv.low k1.size
  obtain ⟨x, rfl, _, _⟩ := hv
  go_wp2_with fail
  go_ret2
  exact ⟨_, rfl, hv2, k1.trans1 k2⟩
end Go.Proofs.YtjppbngimacgnaaGreatDoor
