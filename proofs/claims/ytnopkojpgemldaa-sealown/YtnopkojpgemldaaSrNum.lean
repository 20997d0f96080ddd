/- The document's answer (rimeref12): numbers in digits of 32 bits. Plain arithmetic, and the cells that hold them. -/
import Derived.Test.YtnopkojpgemldaaSeP
set_option linter.unusedVariables false
set_option linter.unusedSimpArgs false
set_option linter.unnecessarySimpa false
namespace Go.Proofs.Ytnopkojpgemldaa
open Go.RowKit

/-! ### Cells -/
/-- n numbers, by a function. -/
def uC (n : Nat) (f : Nat → Nat) : Array Value := ((List.range n).map fun i => Value.int .u32 ((f i : Nat) : Int)).toArray
theorem uC_size (n : Nat) (f : Nat → Nat) : (uC n f).size = n := by simp [uC]
theorem uC_get (n : Nat) (f : Nat → Nat) (i : Nat) (h : i < n) : (uC n f)[i]? = some (.int .u32 ((f i : Nat) : Int)) := by simp [uC, h]
theorem uC_none (n : Nat) (f : Nat → Nat) (i : Nat) (h : ¬ i < n) : (uC n f)[i]? = none := Array.getElem?_eq_none (by rw [uC_size]; omega)
theorem uC_one (n : Nat) (f : Nat → Nat) : (uC n f).all (·.oneCell') = true := by
  rw [Array.all_eq_true]
  intro i hi
  have h : i < n := by rw [uC_size] at hi; exact hi
  have := uC_get n f i h
  rw [Array.getElem?_eq_getElem hi] at this
  injection this with this
  rw [this]
  rfl
theorem uC_congr (n : Nat) (f g : Nat → Nat) (h : ∀ i, i < n → f i = g i) : uC n f = uC n g := by
  apply Array.ext_getElem?
  intro i
  by_cases hi : i < n
  · rw [uC_get n f i hi, uC_get n g i hi, h i hi]
  · rw [uC_none n f i hi, uC_none n g i hi]
/-- One place turned. -/
def upd (f : Nat → Nat) (k x : Nat) : Nat → Nat := fun i => if i = k then x else f i
theorem upd_same (f : Nat → Nat) (k x : Nat) : upd f k x k = x := if_pos rfl
theorem upd_other (f : Nat → Nat) (k x i : Nat) (h : i ≠ k) : upd f k x i = f i := if_neg h
theorem uC_set (n : Nat) (f : Nat → Nat) (k x : Nat) : (uC n f).setIfInBounds k (.int .u32 ((x : Nat) : Int)) = uC n (upd f k x) := by
  apply Array.ext_getElem?
  intro i
  rw [Array.getElem?_setIfInBounds]
  by_cases hi : i < n
  · rw [uC_get n (upd f k x) i hi]
    by_cases hk : k = i
    · subst hk; rw [if_pos rfl, if_pos (by rw [uC_size]; exact hi), upd_same]
    · rw [if_neg hk, uC_get n f i hi, upd_other f k x i (fun e => hk e.symm)]
  · rw [uC_none n (upd f k x) i hi, uC_none n f i hi]
    split
    · rw [if_neg (by rw [uC_size]; omega)]
    · rfl

/-! ### Values -/
/-- The number of m digits, from place k on. -/
def nv (f : Nat → Nat) : Nat → Nat → Nat
  | _, 0 => 0
  | k, m + 1 => f k + 4294967296 * nv f (k + 1) m
theorem nv_zero (f : Nat → Nat) (k : Nat) : nv f k 0 = 0 := rfl
theorem nv_succ (f : Nat → Nat) (k m : Nat) : nv f k (m + 1) = f k + 4294967296 * nv f (k + 1) m := rfl
theorem nv_add (f : Nat → Nat) : ∀ (m k n : Nat), nv f k (m + n) = nv f k m + 4294967296 ^ m * nv f (k + m) n
  | 0, k, n => by simp [nv]
  | m + 1, k, n => by
    rw [show m + 1 + n = (m + n) + 1 by omega, nv_succ, nv_succ, nv_add f m (k + 1) n, Nat.pow_succ, show k + 1 + m = k + (m + 1) by omega, Nat.mul_add, ← Nat.mul_assoc, Nat.mul_comm (4294967296 ^ m) 4294967296, Nat.add_assoc]
theorem nv_snoc (f : Nat → Nat) (k m : Nat) : nv f k (m + 1) = nv f k m + 4294967296 ^ m * f (k + m) := by
  rw [nv_add f m k 1]
  simp [nv]
theorem nv_congr (f g : Nat → Nat) : ∀ (m k : Nat), (∀ i, k ≤ i → i < k + m → f i = g i) → nv f k m = nv g k m
  | 0, k, _ => rfl
  | m + 1, k, h => by rw [nv_succ, nv_succ, h k (Nat.le_refl _) (by omega), nv_congr f g m (k + 1) (fun i h1 h2 => h i (by omega) (by omega))]
theorem nv_lt (f : Nat → Nat) : ∀ (m k : Nat), (∀ i, k ≤ i → i < k + m → f i < 4294967296) → nv f k m < 4294967296 ^ m
  | 0, k, _ => by simp [nv]
  | m + 1, k, h => by
    have h0 := h k (Nat.le_refl _) (by omega)
    have ih := nv_lt f m (k + 1) (fun i h1 h2 => h i (by omega) (by omega))
    rw [nv_succ, Nat.pow_succ]
    omega
theorem nv_get (f : Nat → Nat) : ∀ (m k i : Nat), (∀ j, k ≤ j → j < k + m → f j < 4294967296) → i < m → nv f k m / 4294967296 ^ i % 4294967296 = f (k + i)
  | 0, k, i, _, hi => by omega
  | m + 1, k, 0, h, _ => by
    have := h k (Nat.le_refl _) (by omega)
    show nv f k (m + 1) / 4294967296 ^ 0 % 4294967296 = f k
    rw [nv_succ, Nat.pow_zero, Nat.div_one]
    omega
  | m + 1, k, i + 1, h, hi => by
    have h0 := h k (Nat.le_refl _) (by omega)
    have ih := nv_get f m (k + 1) i (fun j h1 h2 => h j (by omega) (by omega)) (by omega)
    rw [nv_succ, Nat.pow_succ, Nat.mul_comm (4294967296 ^ i), ← Nat.div_div_eq_div_mul, Nat.add_mul_div_left _ _ (by decide), Nat.div_eq_of_lt h0, Nat.zero_add, ih]
    rw [show k + 1 + i = k + (i + 1) by omega]
/-- Digit i of n. -/
def dg (n i : Nat) : Nat := n / 4294967296 ^ i % 4294967296
theorem dg_lt (n i : Nat) : dg n i < 4294967296 := Nat.mod_lt _ (by decide)
theorem nv_dg (n : Nat) : ∀ (m k : Nat), nv (dg n) k m = n / 4294967296 ^ k % 4294967296 ^ m
  | 0, k => by simp [nv, Nat.mod_one]
  | m + 1, k => by
    rw [nv_succ, nv_dg n m (k + 1)]
    unfold dg
    rw [Nat.pow_succ 4294967296 k, ← Nat.div_div_eq_div_mul, Nat.pow_succ 4294967296 m, Nat.mul_comm (4294967296 ^ m) 4294967296, Nat.mod_mul]
theorem nv_dg5 (n : Nat) (h : n < 1461501637330902918203684832716283019655932542976) : nv (dg n) 0 5 = n := by
  rw [nv_dg]
  simp
  omega
theorem dg_nv (f : Nat → Nat) (h : ∀ i, i < 5 → f i < 4294967296) (i : Nat) (hi : i < 5) : dg (nv f 0 5) i = f i := by
  unfold dg
  rw [nv_get f 5 0 i (fun j _ hj => h j (by omega)) hi, Nat.zero_add]
/-- The five digits of n. -/
def dC (n : Nat) : Array Value := uC 5 (dg n)
theorem dC_of (f : Nat → Nat) (h : ∀ i, i < 5 → f i < 4294967296) (n : Nat) (hn : nv f 0 5 = n) : uC 5 f = dC n := by
  subst hn
  exact uC_congr 5 _ _ (fun i hi => (dg_nv f h i hi).symm)
/-- One digit more. -/
theorem nv_upd_above (f : Nat → Nat) (j x k m : Nat) (h : k + m ≤ j) : nv (upd f j x) k m = nv f k m := nv_congr _ _ m k (fun i _ h2 => upd_other f j x i (by omega))
theorem nv_upd_below (f : Nat → Nat) (j x k m : Nat) (h : j < k) : nv (upd f j x) k m = nv f k m := nv_congr _ _ m k (fun i h1 _ => upd_other f j x i (by omega))
/-- A place that grows by x. -/
theorem nv_upd (f : Nat → Nat) (j x m : Nat) (h : j < m) : nv (upd f j (f j + x)) 0 m = nv f 0 m + 4294967296 ^ j * x := by
  obtain ⟨r, rfl⟩ : ∃ r, m = j + (1 + r) := ⟨m - j - 1, by omega⟩
  rw [nv_add (upd f j (f j + x)) j 0 (1 + r), nv_add f j 0 (1 + r), nv_upd_above f j _ 0 j (by omega), Nat.zero_add, nv_add (upd f j (f j + x)) 1 j r, nv_add f 1 j r, nv_upd_below f j _ (j + 1) r (by omega)]
  simp only [nv_succ, nv_zero, upd_same, Nat.mul_zero, Nat.add_zero]
  rw [Nat.mul_add, Nat.mul_add, Nat.mul_add]
  omega

/-! ### Comparing -/
theorem lex_lt (f g : Nat → Nat) (i : Nat) (hi : i < 5) (hg : ∀ j, j < i → g j < 4294967296) (h : g i < f i) (ht : ∀ j, i < j → j < 5 → f j = g j) : nv g 0 5 < nv f 0 5 := by
  obtain ⟨r, hr⟩ : ∃ r, 5 = i + (1 + r) := ⟨4 - i, by omega⟩
  have er : 4 - i = r := by omega
  have hT : nv f (i + 1) (4 - i) = nv g (i + 1) (4 - i) := nv_congr _ _ _ _ (fun j h1 h2 => ht j (by omega) (by omega))
  have hL : nv g 0 i < 4294967296 ^ i := nv_lt g i 0 (fun j _ h2 => hg j (by omega))
  rw [er] at hT
  rw [hr, nv_add g i 0 (1 + r), nv_add f i 0 (1 + r), Nat.zero_add, nv_add g 1 i r, nv_add f 1 i r, hT]
  simp only [nv_succ, nv_zero, Nat.mul_zero, Nat.add_zero]
  have hm : 4294967296 ^ i * (g i + 4294967296 ^ 1 * nv g (i + 1) r + 1) ≤ 4294967296 ^ i * (f i + 4294967296 ^ 1 * nv g (i + 1) r) := Nat.mul_le_mul_left _ (by omega)
  rw [Nat.mul_add _ _ 1, Nat.mul_one] at hm
  omega


/-! ### Twice -/
/-- What is carried into place i of 2 n + b. -/
def cy2 (n b i : Nat) : Nat := if i = 0 then b else dg n (i - 1) / 2147483648
theorem cy2_lt (n b i : Nat) (hb : b < 2) : cy2 n b i < 2 := by unfold cy2; split; exact hb; have := dg_lt n (i - 1); omega
theorem cy2_succ (n b i : Nat) : cy2 n b (i + 1) = dg n i / 2147483648 := by unfold cy2; rw [if_neg (by omega)]; rfl
theorem dg_twice (n b i : Nat) (hb : b < 2) : dg (2 * n + b) i = 2 * dg n i % 4294967296 + cy2 n b i := by
  unfold dg cy2
  cases i with
  | zero => simp only [Nat.pow_zero, Nat.div_one, if_true]; omega
  | succ i =>
    rw [if_neg (by omega), Nat.add_sub_cancel, Nat.pow_succ]
    have e : (2 * n + b) / (4294967296 ^ i * 4294967296) = n / 4294967296 ^ i / 2147483648 := by
      rw [show 4294967296 ^ i * 4294967296 = 2 * (4294967296 ^ i * 2147483648) from by omega, ← Nat.div_div_eq_div_mul, show (2 * n + b) / 2 = n from by omega, Nat.div_div_eq_div_mul]
    rw [e, ← Nat.div_div_eq_div_mul n (4294967296 ^ i) 4294967296]
    unfold dg
    generalize n / 4294967296 ^ i = X
    omega
end Go.Proofs.Ytnopkojpgemldaa
