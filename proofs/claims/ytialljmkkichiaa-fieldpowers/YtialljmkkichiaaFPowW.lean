/- field.Power of bytes in memory, rimeref01.Power of nil and of bytes; small facts. -/
import Derived.Test.YtialljmkkichiaaGivI
set_option linter.unusedVariables false
set_option linter.unusedSimpArgs false
set_option linter.unnecessarySimpa false
namespace Go.Proofs.Ytialljmkkichiaa
open Go.RowKit N

theorem Power_rsl (a : Int) (ra : R256 a) (v : Value) (n : Nat) (f : Nat → Nat) (hn : n ≤ 140737488355328) (w : World) (hS : Sl w v n f) :
    Calls Try.prog 40 #[fe a, v] w fun e w' => e = .returned (fe (pw a (nb f 0 n))) ∧ Chg w w' [] := by
  rcases hS with ⟨rfl, rfl⟩ | ⟨g, o, cap, rfl, _, _, hb⟩
  · have e0 : pw a (nb f 0 0) = 1 := by show pw a 0 = 1; unfold pw; rw [Int.pow_zero]; rfl
    rw [e0]
    exact Power_rnil a ra w
  · exact Power_rs a ra g o n cap f (by omega) w hb
theorem bs_yC {w : World} {o m n : Nat} {F : Nat → Nat} {T : TypeId} (h : Blk w o (yC m F) T) (hn : n ≤ m) (hF : ∀ i, i < n → F i < 256) : Bs w o 0 n F :=
  ⟨h.lt, hF, fun i hi => by rw [Nat.zero_add, h.cell, yC_get _ _ _ (by omega)]⟩
theorem nb_cong (f g : Nat → Nat) : ∀ (j k : Nat), (∀ i, k ≤ i → i < k + j → f i = g i) → nb f k j = nb g k j
  | 0, _, _ => rfl
  | j + 1, k, h => by
    show f k + 256 * nb f (k + 1) j = g k + 256 * nb g (k + 1) j
    rw [h k (Nat.le_refl _) (by omega), nb_cong f g j (k + 1) (fun i h1 h2 => h i (by omega) (by omega))]
theorem nb_gvf (f : Nat → Nat) (n : Nat) : nb (gvf f n) 0 n = nb f 0 n := nb_cong _ _ n 0 (fun i _ hi => if_pos (by omega))
theorem gC_lit : gC (.slice none 0 0) (.slice none 0 0) = #[.slice none 0 0, .slice none 0 0, .slice none 0 0, .slice none 0 0, .slice none 0 0, .slice none 0 0, .slice none 0 0, .slice none 0 0, .slice none 0 0, .slice none 0 0, .slice none 0 0, .slice none 0 0, .slice none 0 0, .slice none 0 0, .slice none 0 0, .slice none 0 0, .slice none 0 0, .slice none 0 0, .slice none 0 0, .slice none 0 0, .slice none 0 0, .slice none 0 0, .slice none 0 0, .slice none 0 0, .slice none 0 0, .slice none 0 0, .slice none 0 0, .slice none 0 0, .slice none 0 0, .slice none 0 0] := by kernel_rfl
end Go.Proofs.Ytialljmkkichiaa
