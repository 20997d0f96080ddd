/- ScalarFermat: what the walk leans on. -/
import Derived.Test.YtcdgkhejbdlapabSfL
import Derived.Test.YtcdgkhejbdlapabWorks
import Derived.Deep.DeepCutAuto
import Derived.Deep.CutBlock
set_option linter.unusedVariables false
set_option linter.unusedSimpArgs false
set_option linter.unnecessarySimpa false
namespace Go.Proofs.Ytcdgkhejbdlapab
open Go.RowKit N

theorem iv_is (a : Int) : iv a = pw a 7237005577332262213973186563042994240857116359379907606001950938285454250987 := rfl
theorem ml_r (a b : Int) : R256 (ml a b) := r256_mod _
theorem ng_r (a : Int) : R256 (ng a) := r256_mod _
theorem pw_r (a : Int) (k : Nat) : R256 (pw a k) := r256_mod _
theorem leg_ml (a b : Int) : leg (ml a b) = leg a * leg b := leg_mul a b
theorem leg_ml2 (a : Int) : leg (ml a a) = 0 ∨ leg (ml a a) = 1 := leg_sq a
theorem pw_add_is (a : Int) (x y : Nat) : pw a (x + y) = ml (pw a x) (pw a y) := (pw_mul a x y _ rfl).symm
theorem pw_pw_is (a : Int) (x y : Nat) : pw (pw a x) y = pw (pw a y) x := by rw [pw_pwL a x y _ rfl, pw_pwL a y x (x * y) (Nat.mul_comm y x)]
theorem pw_ml_is (a b : Int) (x : Nat) : pw (ml a b) x = ml (pw a x) (pw b x) := by unfold ml; rw [pw_modL, pw_prodL]
theorem hfm_z (i : Nat) : hfm 0 i = orf 1 i := by unfold hfm; rw [if_neg (by omega)]
theorem hfm_at (i : Nat) : hfm i i = orf 1 i := by unfold hfm; rw [if_neg (by omega)]
theorem hfm_next (i : Nat) : hfm i (i + 1) = orf 1 (i + 1) := by unfold hfm; rw [if_neg (by omega)]
theorem hfm_step (i z : Nat) (h : hfb i = z) : ∀ j, j < 32 → hfm (i + 1) j = if j = i then z else hfm i j := by
  intro j _
  unfold hfm
  by_cases hj : j = i
  · subst hj; rw [if_pos (by omega), if_pos rfl, h]
  · rw [if_neg hj]
    by_cases h2 : j < i
    · rw [if_pos h2, if_pos (by omega)]
    · rw [if_neg h2, if_neg (by omega)]
theorem hfm_all (i : Nat) (h : i < 32) : hfm 32 i = hfb i := by unfold hfm; rw [if_pos h]
theorem hfb_lo (i x y : Nat) (h : i < 31) (hx : orf 1 i = x) (hy : orf 1 (i + 1) = y) : hfb i = x / 2 + 128 * (y % 2) := by unfold hfb; rw [if_pos h, hx, hy]
theorem hfb_hi (x : Nat) (hx : orf 1 31 = x) : hfb 31 = x / 2 := by unfold hfb; rw [if_neg (by omega), hx]
theorem hf_and' (i y : Nat) (h : i < 31) (hy : orf 1 (i + 1) = y) : bits .and .u8 (y : Int) 1 = ((y % 2 : Nat) : Int) := by have := hf_and ⟨i + 1, by omega⟩; simp only at this; rw [hy] at this; exact this
theorem hf_or' (i x y : Nat) (h : i < 31) (hx : orf 1 i = x) (hy : orf 1 (i + 1) = y) : bits .or .u8 ((x / 2 : Nat) : Int) ((128 * (y % 2) : Nat) : Int) = ((hfb i : Nat) : Int) := by have := hf_or ⟨i, h⟩; simp only at this; rw [hx, hy] at this; exact this
/-- The code of a body from a region of its own on. -/
def fromReg (k : Nat) : Code → Option Code
  | .seq (.region id o d) b => if id = k then some (.seq (.region id o d) b) else fromReg k b
  | .seq (.seq (.region id o d) c) b => if id = k then some (.seq (.seq (.region id o d) c) b) else fromReg k b
  | .seq _ b => fromReg k b
  | _ => none
noncomputable def code14 : Code := (Try.f4.body.bind (fromReg 14)).getD .skip
noncomputable def code23 : Code := (Try.f4.body.bind (fromReg 23)).getD .skip
end Go.Proofs.Ytcdgkhejbdlapab
