/- sha512.Pad of 2^61 and more, Compress of other than 128 bytes. -/
import Derived.Test.YtjcgjhncdaplcaaDoorH16
set_option linter.unusedVariables false
set_option linter.unusedSimpArgs false
set_option linter.unnecessarySimpa false
namespace Go.Proofs.YtjcgjhncdaplcaaDoor
open Go.RowKit

set_option maxRecDepth 100000 in
theorem Pad_big (n : Nat) (w : World) (hn : 2305843009213693952 ≤ n) : Calls Tryd.prog 20 #[.int .u64 n] w fun e w' => e = .returned (.tuple #[.slice none 0 0, .int .i64 1]) ∧ w' = w := by
  have hI : (2305843009213693952 : Int) ≤ (n : Int) := by omega
  clear hn
  go_enter Tryd.func20, Tryd.ntmps20
  go_wp2_with fail
  go_ret2
  exact ⟨rfl, rfl⟩
set_option maxHeartbeats 4000000 in
set_option maxRecDepth 100000 in
theorem Compress_len (p : Option Addr) (n c : Nat) (s : Nat → Nat) (w : World) (hn : ¬ n = 128) :
    Calls Tryd.prog 18 #[.agg (vC 8 s), .slice p n c] w fun e w' => e = .returned (.tuple #[.agg (vC 8 fun _ => 0), .int .i64 3]) ∧ Chg w w' [] := by
  have hI : ¬ (n : Int) = 128 := by omega
  have K0 := ((Chg.refl w []).alloc (.cells (vC 8 s) 53)).alloc (.cells z8 53)
  have F1 : Blk ((w.alloc (.cells (vC 8 s) 53)).alloc (.cells z8 53)) (w.heap.size + 1) z8 53 := by have q := Blk.new (w.alloc (.cells (vC 8 s) 53)) z8 53; simpa using q
  go_enter Tryd.func18, Tryd.ntmps18
  go_wp2_with (first | (refine wpList_build_c rfl 53 #[] rfl (vC 8 fun _ => 0) (by kernel_rfl) ?_) | (refine wpList_store_row rfl 53 _ _ rfl (w.heap.size + 1) _ rfl rfl 53 _ F1 (by rw [vC_size]; exact S8Info) (by rw [vC_size]; rfl) (vC_one _ _) ?_))
  exact bodyPost_ret (results_cell_tmp Tryd.results18 _ _ (w.heap.size + 1) 53 (vC 8 fun _ => 0) _ _ rfl rfl (F1.setRow _) Tryd.underlying53 rfl (by rw [vC_size]; exact S8Info)) rfl ⟨rfl, K0.setRowNew (by omega) _⟩
end Go.Proofs.YtjcgjhncdaplcaaDoor
