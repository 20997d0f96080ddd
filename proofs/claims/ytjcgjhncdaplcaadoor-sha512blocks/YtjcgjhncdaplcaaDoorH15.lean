/- == on digests; Hasher.Len. -/
import Derived.Test.YtjcgjhncdaplcaaDoorH14
set_option linter.unusedVariables false
set_option linter.unusedSimpArgs false
set_option linter.unnecessarySimpa false
namespace Go.Proofs.YtjcgjhncdaplcaaDoor
open Go.RowKit

theorem u8InfoE : ∃ i, Tryd.prog.info? 5 = some i := Option.isSome_iff_exists.1 (by kernel_rfl)
theorem u8CellsE : Tryd.prog.cellsOf 5 = 1 := by kernel_rfl
/-- Are 64 bytes the same? -/
def eqy (f g : Nat → Nat) : Bool := (List.range 64).all fun i => ((f i : Nat) : Int) == ((g i : Nat) : Int)
theorem eqy_self (f : Nat → Nat) : eqy f f = true := by simp [eqy]
@[go_sem] theorem eq_dig (f g : Nat → Nat) (w : World) : (Op.equalIn 10000 42 (.agg (yC 64 f)) (.agg (yC 64 g))).run Tryd.prog w = .ok (eqy f g) w := by
  obtain ⟨i, hi⟩ := u8InfoE
  rw [show (10000 : Nat) = 9998 + 1 + 1 from rfl, run_equalIn_array w 9999 _ _ Tryd.underlying42 hi, u8CellsE]
  exact eqItems_ints w 9998 Tryd.underlying5 _ _ (fun i => ((f i : Nat) : Int)) (fun i => ((g i : Nat) : Int)) (List.range 64) (fun j hj => ⟨yC_get 64 f j (by simpa using hj), yC_get 64 g j (by simpa using hj)⟩)
set_option maxRecDepth 100000 in
theorem Len_s (h n : Nat) (s t : Nat → Nat) (w : World) (hh : Blk w h (hC s t n) 96) :
    Calls Tryd.prog 32 #[.pointer (some ⟨h, 0, none⟩)] w fun e w' => e = .returned (.int .u64 n) ∧ w' = w := by
  have c1 := (hh.cell 136).trans (hC_taken s t n)
  go_enter Tryd.func32, Tryd.ntmps32
  go_wp2
  go_ret
  exact ⟨rfl, rfl⟩
end Go.Proofs.YtjcgjhncdaplcaaDoor
