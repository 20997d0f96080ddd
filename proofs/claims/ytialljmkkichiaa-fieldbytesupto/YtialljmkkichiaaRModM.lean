/- rimeref01.mod: the arithmetic. -/
import Derived.Test.YtialljmkkichiaaRNum
set_option linter.unusedVariables false
set_option linter.unusedSimpArgs false
set_option linter.unnecessarySimpa false
namespace Go.Proofs.Ytialljmkkichiaa
open Go.RowKit N

theorem nv_lin (a b : Nat → Nat) (c : Nat) : ∀ (m k : Nat), nv (fun j => a j + c * b j) k m = nv a k m + c * nv b k m
  | 0, k => by simp [nv]
  | m + 1, k => by
    rw [nv_succ, nv_succ, nv_succ, nv_lin a b c m (k + 1), Nat.mul_add, Nat.mul_add, ← Nat.mul_assoc, ← Nat.mul_assoc, Nat.mul_comm 65536 c]
    omega
theorem nv_shift (b : Nat → Nat) (s : Nat) : ∀ (m k : Nat), nv (fun j => b (j + s)) k m = nv b (k + s) m
  | 0, k => rfl
  | m + 1, k => by rw [nv_succ, nv_succ, nv_shift b s m (k + 1), show k + 1 + s = k + s + 1 by omega]
/-- l, and behind place n nothing. -/
def ext (l : Nat → Nat) (n j : Nat) : Nat := if j < n then l j else 0
theorem nv_ext_none (l : Nat → Nat) (n : Nat) : ∀ (m k : Nat), n ≤ k → nv (ext l n) k m = 0
  | 0, k, _ => rfl
  | m + 1, k, h => by rw [nv_succ, nv_ext_none l n m (k + 1) (by omega)]; unfold ext; rw [if_neg (by omega)]
theorem nv_ext (l : Nat → Nat) (n m : Nat) (h : n ≤ m) : nv (ext l n) 0 m = nv l 0 n := by
  obtain ⟨r, rfl⟩ : ∃ r, m = n + r := ⟨m - n, by omega⟩
  rw [nv_add, nv_ext_none l n r (0 + n) (by omega), Nat.mul_zero, Nat.add_zero]
  exact nv_congr _ _ n 0 (fun i _ h2 => if_pos (by omega))
/-- The sixteen sums, when k digits have been taken. -/
def fold (l : Nat → Nat) (k j : Nat) : Nat := ext l k j + 38 * ext l k (j + 16)
theorem fold_zero (l : Nat → Nat) (j : Nat) : fold l 0 j = 0 := by simp [fold, ext]
theorem fold_low (l : Nat → Nat) (k : Nat) (hk : k < 16) (j : Nat) (hj : j < 16) : upd (fold l k) k (fold l k k + l k) j = fold l (k + 1) j := by
  by_cases e : j = k
  · subst e
    rw [upd_same]
    unfold fold ext
    rw [if_neg (by omega), if_neg (by omega), if_pos (by omega), if_neg (by omega)]
    omega
  · rw [upd_other _ _ _ _ e]
    unfold fold ext
    rw [if_neg (show ¬ j + 16 < k by omega), if_neg (show ¬ j + 16 < k + 1 by omega)]
    by_cases h : j < k
    · rw [if_pos h, if_pos (by omega)]
    · rw [if_neg h, if_neg (by omega)]
theorem fold_high (l : Nat → Nat) (i : Nat) (hi : i < 16) (j : Nat) (hj : j < 16) : upd (fold l (i + 16)) i (fold l (i + 16) i + 38 * l (i + 16)) j = fold l (i + 16 + 1) j := by
  by_cases e : j = i
  · subst e
    rw [upd_same]
    unfold fold ext
    rw [if_pos (by omega), if_neg (by omega), if_pos (by omega), if_pos (by omega)]
    omega
  · rw [upd_other _ _ _ _ e]
    unfold fold ext
    rw [if_pos (show j < i + 16 by omega), if_pos (show j < i + 16 + 1 by omega)]
    by_cases h : j + 16 < i + 16
    · rw [if_pos h, if_pos (by omega)]
    · rw [if_neg h, if_neg (by omega)]
theorem fold_lt (l : Nat → Nat) (n k j : Nat) (hk : k ≤ n) (h : ∀ i, i < n → l i < 1099511627776) : fold l k j < 70368744177664 := by
  unfold fold ext
  by_cases h1 : j < k
  · have := h j (by omega)
    rw [if_pos h1]
    by_cases h2 : j + 16 < k
    · have := h (j + 16) (by omega)
      rw [if_pos h2]; omega
    · rw [if_neg h2]; omega
  · rw [if_neg h1, if_neg (by omega)]; omega
theorem pow16 : (65536 : Nat) ^ 16 = 115792089237316195423570985008687907853269984665640564039457584007913129639936 := by decide
theorem pow16_mod : (115792089237316195423570985008687907853269984665640564039457584007913129639936 : Nat) = 38 + PM * 2 := by unfold PM; decide
theorem mod_fold (A B : Nat) : (A + 38 * B) % PM = (A + 115792089237316195423570985008687907853269984665640564039457584007913129639936 * B) % PM := by
  rw [pow16_mod, Nat.add_mul, Nat.mul_assoc PM, ← Nat.add_assoc, Nat.add_mul_mod_self_left]
theorem nv_fold (l : Nat → Nat) (n : Nat) (hn : n ≤ 32) : nv (fold l n) 0 16 % PM = nv l 0 n % PM := by
  have e1 : nv (fold l n) 0 16 = nv (ext l n) 0 16 + 38 * nv (ext l n) 16 16 := by
    have := nv_lin (ext l n) (fun j => ext l n (j + 16)) 38 16 0
    rw [nv_shift (ext l n) 16 16 0, Nat.zero_add] at this
    exact this
  have e2 : nv l 0 n = nv (ext l n) 0 16 + 65536 ^ 16 * nv (ext l n) 16 16 := by
    rw [← nv_ext l n 32 hn]
    exact nv_add (ext l n) 16 0 16
  rw [e1, e2, pow16, mod_fold]

/-- One carry. -/
theorem carry_step (F G p c x fi : Nat) (h : G + p * c = F) (hx : x = fi + c) : G + p * (x % 65536) + p * 65536 * (x / 65536) = F + p * fi := by
  have h1 : x % 65536 + 65536 * (x / 65536) = fi + c := by omega
  rw [Nat.mul_assoc, Nat.add_assoc, ← Nat.mul_add, h1, Nat.mul_add]
  omega
/-- One turn of carries: G the digits' number, c what is carried out. -/
theorem turn_mod (G c V : Nat) (h : G + 115792089237316195423570985008687907853269984665640564039457584007913129639936 * c = V) : (G + 38 * c) % PM = V % PM := by rw [mod_fold, h]
/-- A number below the modulus, in its digits. -/
theorem mod_done (V n : Nat) (h : V % PM = n % PM) (hl : V < PM) : V = n % PM := by rw [← h, Nat.mod_eq_of_lt hl]
theorem less_mod (V n m : Nat) (h : V % PM = m % PM) (hv : V = n + PM) : n % PM = m % PM := by rw [← h, hv, Nat.add_mod_right]
/-- The digits behind q turns of carries. -/
def TB (q : Nat) (f : Nat → Nat) (m : Nat) : Prop := (∀ j, j < 16 → f j < 70368744177664) ∧ nv f 0 16 % PM = m % PM ∧
  (1 ≤ q → nv f 0 16 < 115792089237316195423570985008687907853269984665640564039457584007913129639936 + 137438953472) ∧
  (2 ≤ q → nv f 0 16 < 115792089237316195423570985008687907853269984665640564039457584007913129639936) ∧ (3 ≤ q → ∀ j, j < 16 → f j < 65536)
theorem turn_TB (q : Nat) (f g : Nat → Nat) (cy m : Nat) (h : TB q f m) (hlo : ∀ j, j < 16 → g j < 65536) (hv : nv g 0 16 + 65536 ^ 16 * cy = nv f 0 16) (hcy : cy < 2147483648) : TB (q + 1) (upd g 0 (g 0 + 38 * cy)) m := by
  obtain ⟨h0, h1, h2, h3, h4⟩ := h
  have hG : nv g 0 16 < 65536 ^ 16 := nv_lt g 16 0 (fun j _ hj => hlo j (by omega))
  have hV := nv_upd g 0 (38 * cy) 16 (by decide)
  rw [Nat.pow_zero, Nat.one_mul] at hV
  rw [pow16] at hv hG
  have g0 := hlo 0 (by decide)
  refine ⟨fun j hj => ?_, ?_, fun _ => ?_, fun h => ?_, fun h j hj => ?_⟩
  · by_cases e : j = 0
    · subst e; rw [upd_same]; omega
    · rw [upd_other _ _ _ _ e]; have := hlo j hj; omega
  · rw [hV, turn_mod _ _ _ hv, h1]
  · rw [hV]; omega
  · rw [hV]; have := h2 (by omega); omega
  · have h5 := h3 (by omega)
    have e0 : cy = 0 := by omega
    by_cases e : j = 0
    · subst e; rw [upd_same]; omega
    · rw [upd_other _ _ _ _ e]; exact hlo j hj
end Go.Proofs.Ytialljmkkichiaa
