/- rimeref01: Split and Join: the arithmetic. -/
import Derived.Test.YtialljmkkichiaaRVal
set_option linter.unusedVariables false
set_option linter.unusedSimpArgs false
set_option linter.unnecessarySimpa false
namespace Go.Proofs.Ytialljmkkichiaa
open Go.RowKit N

/-! ### Split -/
theorem pow_256 (q : Nat) : (256 : Nat) ^ q = 2 ^ (8 * q) := by rw [show (256 : Nat) = 2 ^ 8 by decide, ← Nat.pow_mul]
theorem bit_of (n q s : Nat) (hs : s < 8) : n / 256 ^ q % 256 / 2 ^ s % 2 = n / 2 ^ (8 * q + s) % 2 := by
  rw [Nat.pow_add, ← Nat.div_div_eq_div_mul, pow_256]
  generalize n / 2 ^ (8 * q) = x
  have h8 : s = 0 ∨ s = 1 ∨ s = 2 ∨ s = 3 ∨ s = 4 ∨ s = 5 ∨ s = 6 ∨ s = 7 := by omega
  rcases h8 with rfl | rfl | rfl | rfl | rfl | rfl | rfl | rfl <;> omega
/-- Limb j, when i bits have been taken. -/
def lf (n i j : Nat) : Nat := n / 2 ^ (51 * j) % 2 ^ (min (i - 51 * j) 51)
theorem lf_zero (n j : Nat) : lf n 0 j = 0 := by unfold lf; rw [Nat.zero_sub, Nat.zero_min, Nat.pow_zero, Nat.mod_one]
theorem lf_same (n j r : Nat) (hr : r < 51) : lf n (51 * j + r + 1) j = lf n (51 * j + r) j + (n / 2 ^ (51 * j + r) % 2) * 2 ^ r ∧ lf n (51 * j + r) j < 2 ^ r := by
  unfold lf
  rw [show min (51 * j + r + 1 - 51 * j) 51 = r + 1 by omega, show min (51 * j + r - 51 * j) 51 = r by omega, Nat.mod_pow_succ, Nat.pow_add, ← Nat.div_div_eq_div_mul, Nat.mul_comm (2 ^ r)]
  exact ⟨rfl, Nat.mod_lt _ (Nat.two_pow_pos r)⟩
theorem lf_other (n j r k : Nat) (hr : r < 51) (hk : k ≠ j) : lf n (51 * j + r + 1) k = lf n (51 * j + r) k := by
  unfold lf
  by_cases h : k < j
  · rw [show min (51 * j + r + 1 - 51 * k) 51 = 51 by omega, show min (51 * j + r - 51 * k) 51 = 51 by omega]
  · rw [show min (51 * j + r + 1 - 51 * k) 51 = 0 by omega, show min (51 * j + r - 51 * k) 51 = 0 by omega]
theorem lf_step (n j r k : Nat) (hr : r < 51) : upd (lf n (51 * j + r)) j (lf n (51 * j + r + 1) j) k = lf n (51 * j + r + 1) k := by
  by_cases e : k = j
  · subst e; rw [upd_same]
  · rw [upd_other _ _ _ _ e, lf_other n j r k hr e]
theorem two_r (r : Nat) (hr : r < 51) : 2 ^ r ≤ 1125899906842624 := by
  have h : 2 ^ r ≤ 2 ^ 50 := Nat.pow_le_pow_right (by decide) (by omega)
  exact Nat.le_trans h (by decide)
theorem or_limb (x b r : Nat) (hx : x < 2 ^ r) (hb : b < 2) (hr : r < 51) : bits .or .u64 ((x : Nat) : Int) ((b * 2 ^ r : Nat) : Int) = ((x + b * 2 ^ r : Nat) : Int) := by
  have h2 := two_r r hr
  have h3 : b * 2 ^ r ≤ 1 * 2 ^ r := Nat.mul_le_mul_right _ (by omega)
  rw [bits_or_u64_nat x (b * 2 ^ r) (by omega) (by omega), Nat.or_comm, nat_join r (b * 2 ^ r) x (Nat.mul_mod_left _ _) hx, Nat.add_comm]
theorem and_one (x : Nat) (hx : x < 256) : bits .and .u64 ((x : Nat) : Int) 1 = ((x % 2 : Nat) : Int) := by
  have h := bits_and_u64_nat x 1 (by omega) (by decide)
  rw [nat_mask1] at h
  exact h
/-- Five limbs below 2^51, of one number: they are its digits. -/
theorem limbs_of (l0 l1 l2 l3 l4 : Int) (n : Nat) (h0 : Li l0) (h1 : Li l1) (h2 : Li l2) (h3 : Li l3) (h4 : Li l4) (hv : V l0 l1 l2 l3 l4 = ((n : Nat) : Int)) :
    lc l0 l1 l2 l3 l4 = uC 5 (lf n 255) := by
  obtain ⟨a0, b0⟩ := h0; obtain ⟨a1, b1⟩ := h1; obtain ⟨a2, b2⟩ := h2; obtain ⟨a3, b3⟩ := h3; obtain ⟨a4, b4⟩ := h4
  unfold V at hv
  have e0 : l0 = ((lf n 255 0 : Nat) : Int) := by show l0 = ((n / 2 ^ 0 % 2 ^ 51 : Nat) : Int); omega
  have e1 : l1 = ((lf n 255 1 : Nat) : Int) := by show l1 = ((n / 2 ^ 51 % 2 ^ 51 : Nat) : Int); omega
  have e2 : l2 = ((lf n 255 2 : Nat) : Int) := by show l2 = ((n / 2 ^ 102 % 2 ^ 51 : Nat) : Int); omega
  have e3 : l3 = ((lf n 255 3 : Nat) : Int) := by show l3 = ((n / 2 ^ 153 % 2 ^ 51 : Nat) : Int); omega
  have e4 : l4 = ((lf n 255 4 : Nat) : Int) := by show l4 = ((n / 2 ^ 204 % 2 ^ 51 : Nat) : Int); omega
  unfold lc
  rw [e0, e1, e2, e3, e4]
  rfl

/-! ### Join -/
/-- Byte j of n. -/
def bf (n j : Nat) : Nat := n / 256 ^ j % 256
theorem bf_lt (n j : Nat) : bf n j < 256 := Nat.mod_lt _ (by decide)
theorem bf_zero (j : Nat) : bf 0 j = 0 := by unfold bf; rw [Nat.zero_div]
theorem bf_bit (n q s j : Nat) (hs : s < 8) (hn : n < 2 ^ (8 * q + s)) : bf (n + 2 ^ (8 * q + s)) j = (if j = q then bf n q + 2 ^ s else bf n j) ∧ bf n q < 2 ^ s := by
  have h2s : 2 ^ s ≤ 128 := Nat.le_trans (Nat.pow_le_pow_right (by decide) (show s ≤ 7 by omega)) (by decide)
  have hq : n / 256 ^ q < 2 ^ s := by
    rw [pow_256]
    apply Nat.div_lt_of_lt_mul
    rw [← Nat.pow_add]
    exact hn
  have hbq : bf n q = n / 256 ^ q := by unfold bf; exact Nat.mod_eq_of_lt (by omega)
  refine ⟨?_, by rw [hbq]; exact hq⟩
  have hp : 2 ^ (8 * q + s) = 256 ^ q * 2 ^ s := by rw [Nat.pow_add, pow_256]
  by_cases e : j = q
  · subst e
    rw [if_pos rfl, hbq]
    unfold bf
    rw [hp, Nat.add_mul_div_left _ _ (Nat.pow_pos (by decide))]
    exact Nat.mod_eq_of_lt (by omega)
  · rw [if_neg e]
    by_cases hj : j < q
    · obtain ⟨d, rfl⟩ : ∃ d, q = j + 1 + d := ⟨q - j - 1, by omega⟩
      unfold bf
      rw [hp, Nat.pow_add, Nat.pow_succ, Nat.mul_assoc, Nat.mul_assoc, Nat.add_mul_div_left _ _ (Nat.pow_pos (by decide)), Nat.add_mul_mod_self_left]
    · have hle : (256 : Nat) ^ (q + 1) ≤ 256 ^ j := Nat.pow_le_pow_right (by decide) (by omega)
      have hb1 : 2 ^ (8 * q + s) + 2 ^ (8 * q + s) ≤ 256 ^ (q + 1) := by
        rw [hp, ← Nat.mul_add, Nat.pow_succ]
        exact Nat.mul_le_mul_left _ (by omega)
      unfold bf
      rw [Nat.div_eq_of_lt (by omega), Nat.div_eq_of_lt (by omega)]
theorem nb_bf (n : Nat) : ∀ (m k : Nat), nb (bf n) k m = n / 256 ^ k % 256 ^ m
  | 0, k => by simp [nb, Nat.mod_one]
  | m + 1, k => by
    rw [nb_succ, nb_bf n m (k + 1)]
    unfold bf
    rw [Nat.pow_succ 256 k, ← Nat.div_div_eq_div_mul, Nat.pow_succ 256 m, Nat.mul_comm (256 ^ m) 256, Nat.mod_mul]
/-- The low k bits of x, in place. -/
def lowb (x p k : Nat) : Nat := x % 2 ^ k * 2 ^ p
theorem lowb_lt (x p k : Nat) : lowb x p k < 2 ^ (p + k) := by
  unfold lowb
  rw [Nat.add_comm, Nat.pow_add]
  exact Nat.mul_lt_mul_of_pos_right (Nat.mod_lt _ (Nat.two_pow_pos k)) (Nat.two_pow_pos p)
theorem lowb_step (x p k : Nat) : lowb x p (k + 1) = lowb x p k + (x / 2 ^ k % 2) * 2 ^ (p + k) := by
  unfold lowb
  rw [Nat.mod_pow_succ, Nat.add_mul, Nat.add_comm p k, Nat.pow_add, Nat.mul_comm (2 ^ k) (x / 2 ^ k % 2), Nat.mul_assoc]
theorem lowb_zero (x p : Nat) : lowb x p 0 = 0 := by unfold lowb; rw [Nat.pow_zero, Nat.mod_one, Nat.zero_mul]
theorem lowb_all (x p : Nat) (hx : x < 18446744073709551616) : lowb x p 64 = x * 2 ^ p := by unfold lowb; rw [Nat.mod_eq_of_lt (by omega)]
theorem or_byte (x s : Nat) (hs : s < 8) (hx : x < 2 ^ s) : bits .or .u8 ((x : Nat) : Int) ((2 ^ s : Nat) : Int) = ((x + 2 ^ s : Nat) : Int) := by
  have h2s : 2 ^ s ≤ 128 := Nat.le_trans (Nat.pow_le_pow_right (by decide) (show s ≤ 7 by omega)) (by decide)
  rw [u8_or_nat x (2 ^ s) (by omega) (by omega), Nat.or_comm, nat_join s (2 ^ s) x (Nat.mod_self _) hx, Nat.add_comm]
end Go.Proofs.Ytialljmkkichiaa
