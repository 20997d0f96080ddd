/- rimeref02.mul. -/
import Derived.Test.YtemjpibmefggnaaRAdd
set_option linter.unusedVariables false
set_option linter.unusedSimpArgs false
set_option linter.unnecessarySimpa false
namespace Go.Proofs.Ytemjpibmefggnaa
open Go.RowKit N

/-- The cells within a row of the product: below place m F's digits, from it on A's. -/
def rowC (F A m : Nat) : Nat → Nat := fun j => if j < m then dg F j else dg A j
theorem rowC_at (F A m : Nat) : rowC F A m m = dg A m := if_neg (by omega)
theorem dg_low (F p m j : Nat) (h : j < m) : dg (F + 4294967296 ^ m * p) j = dg F j := by
  unfold dg
  obtain ⟨r, rfl⟩ : ∃ r, m = j + (r + 1) := ⟨m - j - 1, by omega⟩
  rw [Nat.pow_add, Nat.mul_assoc, Nat.add_mul_div_left _ _ (Nat.pow_pos (by decide)), Nat.pow_succ, Nat.mul_comm (4294967296 ^ r), Nat.mul_assoc, Nat.add_mul_mod_self_left]
/-- One step within a row. -/
theorem row_step (F A m c p : Nat) (h : F / 4294967296 ^ m = A / 4294967296 ^ m + c) :
    dg (F + 4294967296 ^ m * p) m = (c + dg A m + p) % 4294967296 ∧ (F + 4294967296 ^ m * p) / 4294967296 ^ (m + 1) = A / 4294967296 ^ (m + 1) + (c + dg A m + p) / 4294967296 := by
  unfold dg
  have hP : 0 < 4294967296 ^ m := Nat.pow_pos (by decide)
  rw [Nat.pow_succ, ← Nat.div_div_eq_div_mul, ← Nat.div_div_eq_div_mul, Nat.add_mul_div_left _ _ hP, h]
  generalize A / 4294967296 ^ m = a
  omega
theorem row_cells (F A m c p : Nat) (h : F / 4294967296 ^ m = A / 4294967296 ^ m + c) : upd (rowC F A m) m ((c + dg A m + p) % 4294967296) = rowC (F + 4294967296 ^ m * p) A (m + 1) := by
  funext j
  unfold upd rowC
  by_cases e : j = m
  · subst e; rw [if_pos rfl, if_pos (by omega), (row_step F A j c p h).1]
  · rw [if_neg e]
    by_cases e2 : j < m
    · rw [if_pos e2, if_pos (by omega), dg_low F p m j e2]
    · rw [if_neg e2, if_neg (by omega)]
theorem dg_zero_high (A m j : Nat) (h : A < 4294967296 ^ m) (hj : m ≤ j) : dg A j = 0 := by
  unfold dg
  have : 4294967296 ^ m ≤ 4294967296 ^ j := Nat.pow_le_pow_right (by decide) hj
  rw [Nat.div_eq_of_lt (by omega)]
/-- The last cell of a row. -/
theorem row_end (F A m c : Nat) (hA : A < 4294967296 ^ m) (hF : F / 4294967296 ^ m = A / 4294967296 ^ m + c) (hc : c < 4294967296) : upd (rowC F A m) m c = dg F := by
  have hAz : A / 4294967296 ^ m = 0 := Nat.div_eq_of_lt hA
  rw [hAz, Nat.zero_add] at hF
  have hP : 0 < 4294967296 ^ m := Nat.pow_pos (by decide)
  have hFl : F < 4294967296 ^ (m + 1) := by
    have := Nat.lt_mul_div_succ F hP
    rw [hF] at this
    rw [Nat.pow_succ]
    exact Nat.lt_of_lt_of_le this (Nat.mul_le_mul_left _ (by omega))
  funext j
  unfold upd rowC
  by_cases e : j = m
  · subst e; rw [if_pos rfl]; unfold dg; rw [hF]; omega
  · rw [if_neg e]
    by_cases e2 : j < m
    · rw [if_pos e2]
    · rw [if_neg e2, dg_zero_high A m j hA (by omega), dg_zero_high F (m + 1) j hFl (by omega)]
theorem mod_succ (X i : Nat) : X % 4294967296 ^ (i + 1) = X % 4294967296 ^ i + 4294967296 ^ i * dg X i := by
  rw [Nat.pow_succ, Nat.mod_mul]; rfl
theorem row_bd (X Y i : Nat) (hY : Y < 4294967296 ^ 8) : X % 4294967296 ^ i * Y < 4294967296 ^ (i + 8) := by
  rw [Nat.pow_add]
  have hP : 0 < 4294967296 ^ i := Nat.pow_pos (by decide)
  have h1 := Nat.mod_lt X hP
  exact Nat.mul_lt_mul'' h1 hY
theorem p32 (x y : Nat) (hx : x < 4294967296) (hy : y < 4294967296) : x * y ≤ 18446744065119617025 := Nat.mul_le_mul (show x ≤ 4294967295 by omega) (show y ≤ 4294967295 by omega)

end Go.Proofs.Ytemjpibmefggnaa
