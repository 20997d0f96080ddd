/- rimeref01.digits: the arithmetic. -/
import Derived.Test.YtialljmkkichiaaRModM
import Derived.Test.YtialljmkkichiaaFun6
set_option linter.unusedVariables false
set_option linter.unusedSimpArgs false
set_option linter.unnecessarySimpa false
namespace Go.Proofs.Ytialljmkkichiaa
open Go.RowKit N

/-- Digit i of bytes, when k of them have been taken. -/
def dfk (b : Nat → Nat) (k i : Nat) : Nat := (if 2 * i < k then b (2 * i) else 0) + (if 2 * i + 1 < k then 256 * b (2 * i + 1) else 0)
theorem dfk_zero (b : Nat → Nat) (i : Nat) : dfk b 0 i = 0 := by simp [dfk]
theorem dfk_even (b : Nat → Nat) (j i : Nat) : upd (dfk b (2 * j)) j (dfk b (2 * j) j + b (2 * j)) i = dfk b (2 * j + 1) i := by
  by_cases e : i = j
  · subst e
    rw [upd_same]
    unfold dfk
    rw [if_neg (by omega), if_neg (by omega), if_pos (by omega), if_neg (by omega)]
    omega
  · rw [upd_other _ _ _ _ e]
    unfold dfk
    by_cases h : 2 * i < 2 * j
    · rw [if_pos h, if_pos (by omega), if_pos (by omega), if_pos (by omega)]
    · rw [if_neg h, if_neg (by omega), if_neg (by omega), if_neg (by omega)]
theorem dfk_odd (b : Nat → Nat) (j i : Nat) : upd (dfk b (2 * j + 1)) j (dfk b (2 * j + 1) j + b (2 * j + 1) * 256) i = dfk b (2 * j + 1 + 1) i := by
  by_cases e : i = j
  · subst e
    rw [upd_same]
    unfold dfk
    rw [if_pos (by omega), if_neg (by omega), if_pos (by omega), if_pos (by omega)]
    omega
  · rw [upd_other _ _ _ _ e]
    unfold dfk
    by_cases h : 2 * i < 2 * j + 1
    · rw [if_pos h, if_pos (show 2 * i + 1 < 2 * j + 1 by omega), if_pos (show 2 * i < 2 * j + 1 + 1 by omega), if_pos (show 2 * i + 1 < 2 * j + 1 + 1 by omega)]
    · rw [if_neg h, if_neg (show ¬ 2 * i + 1 < 2 * j + 1 by omega), if_neg (show ¬ 2 * i < 2 * j + 1 + 1 by omega), if_neg (show ¬ 2 * i + 1 < 2 * j + 1 + 1 by omega)]
theorem dfk_lt (b : Nat → Nat) (n k i : Nat) (hk : k ≤ n) (h : ∀ j, j < n → b j < 256) : dfk b k i < 65536 := by
  unfold dfk
  by_cases h1 : 2 * i < k
  · have := h (2 * i) (by omega)
    rw [if_pos h1]
    by_cases h2 : 2 * i + 1 < k
    · have := h (2 * i + 1) (by omega)
      rw [if_pos h2]; omega
    · rw [if_neg h2]; omega
  · rw [if_neg h1, if_neg (by omega)]; omega
/-- The bytes, and behind place n nothing. -/
theorem nv_dfk (b : Nat → Nat) (n : Nat) : ∀ (m k : Nat), nv (dfk b n) k m = nb (ext b n) (2 * k) (2 * m)
  | 0, k => rfl
  | m + 1, k => by
    rw [nv_succ, nv_dfk b n m (k + 1), show 2 * (m + 1) = 2 * m + 1 + 1 by omega, nb_succ, nb_succ, show 2 * k + 1 + 1 = 2 * (k + 1) by omega]
    unfold dfk
    show _ = ext b n (2 * k) + 256 * (ext b n (2 * k + 1) + 256 * nb (ext b n) (2 * (k + 1)) (2 * m))
    have e1 : (if 2 * k < n then b (2 * k) else 0) = ext b n (2 * k) := rfl
    have e2 : (if 2 * k + 1 < n then 256 * b (2 * k + 1) else 0) = 256 * ext b n (2 * k + 1) := by unfold ext; split <;> simp
    rw [e1, e2]
    omega
theorem nb_ext_none (b : Nat → Nat) (n : Nat) : ∀ (m k : Nat), n ≤ k → nb (ext b n) k m = 0
  | 0, k, _ => rfl
  | m + 1, k, h => by rw [nb_succ, nb_ext_none b n m (k + 1) (by omega)]; unfold ext; rw [if_neg (by omega)]
theorem nb_congr (f g : Nat → Nat) : ∀ (m k : Nat), (∀ i, k ≤ i → i < k + m → f i = g i) → nb f k m = nb g k m
  | 0, k, _ => rfl
  | m + 1, k, h => by rw [nb_succ, nb_succ, h k (Nat.le_refl _) (by omega), nb_congr f g m (k + 1) (fun i h1 h2 => h i (by omega) (by omega))]
theorem nb_ext (b : Nat → Nat) (n m : Nat) (h : n ≤ m) : nb (ext b n) 0 m = nb b 0 n := by
  obtain ⟨r, rfl⟩ : ∃ r, m = n + r := ⟨m - n, by omega⟩
  rw [nb_add, nb_ext_none b n r (0 + n) (by omega), Nat.mul_zero, Nat.add_zero]
  exact nb_congr _ _ n 0 (fun i _ h2 => if_pos (by omega))
theorem nv_digits (b : Nat → Nat) (n : Nat) : nv (dfk b n) 0 ((n + 1) / 2) = nb b 0 n := by
  rw [nv_dfk, Nat.mul_zero, nb_ext b n _ (by omega)]
end Go.Proofs.Ytialljmkkichiaa
