/- rimeref02.Power of nil and of bytes; the two ways' answers are the same. -/
import Derived.Test.YthpfdnkcepfbaaaDoorMgV
import Derived.Test.YthpfdnkcepfbaaaDoorMgI
set_option linter.unusedVariables false
set_option linter.unusedSimpArgs false
set_option linter.unnecessarySimpa false
namespace Go.Proofs.YthpfdnkcepfbaaaDoor
open Go.RowKit N

theorem pI (n e : Nat) : ((pN n e : Nat) : Int) = pwQ (n : Int) e := by unfold pN pwQ; rw [Int.natCast_emod, Int.natCast_pow, LN_eq]
theorem eqn_eqf {x : Int} (h : RL x) (y : Int) (hy : RL y) : eqn x y = eqf x y := by rw [eqn_eq h hy, eqf_eq (r256_rl h) (r256_rl hy)]
theorem leg_lgr (n : Nat) : lgr ((pN n 3618502788666131106986593281521497120428558179689953803000975469142727125494 : Nat) : Int) = leg (n : Int) := by
  unfold lgr leg
  rw [pI, eqn_eqf (pw_rl _ _) 0 ⟨by decide, by decide⟩, eqn_eqf (pw_rl _ _) 1 ⟨by decide, by decide⟩]
theorem bs_yC {w : World} {o m n : Nat} {F : Nat → Nat} {T : TypeId} (h : Blk w o (yC m F) T) (hn : n ≤ m) (hF : ∀ i, i < n → F i < 256) : Bs w o 0 n F :=
  ⟨h.lt, hF, fun i hi => by rw [Nat.zero_add, h.cell, yC_get _ _ _ (by omega)]⟩
theorem gvf_lt2 {f : Nat → Nat} {n : Nat} (hf : ∀ i, i < n → f i < 256) (i : Nat) : gvf f n i < 256 := by
  unfold gvf
  split
  · exact hf i (by assumption)
  · exact mkb_lt i
theorem nb_gvf (f : Nat → Nat) (n : Nat) : nb (gvf f n) 0 n = nb f 0 n := nb_congr _ _ n 0 (fun i _ hi => if_pos (by omega))
theorem gC_lit : giC (.slice none 0 0) (.slice none 0 0) = #[.slice none 0 0, .slice none 0 0, .slice none 0 0, .slice none 0 0, .slice none 0 0, .slice none 0 0, .slice none 0 0, .slice none 0 0, .slice none 0 0, .slice none 0 0, .slice none 0 0, .slice none 0 0, .slice none 0 0, .slice none 0 0, .slice none 0 0, .slice none 0 0, .slice none 0 0, .slice none 0 0, .slice none 0 0, .slice none 0 0, .slice none 0 0, .slice none 0 0, .slice none 0 0, .slice none 0 0, .slice none 0 0, .slice none 0 0, .slice none 0 0, .slice none 0 0, .slice none 0 0, .slice none 0 0] := by kernel_rfl
end Go.Proofs.YthpfdnkcepfbaaaDoor
