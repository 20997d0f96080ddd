/- Values of polynomials as numbers. -/
import Derived.Test.YtmoahgeclmediabMgD
set_option linter.unusedVariables false
set_option linter.unusedSimpArgs false
set_option linter.unnecessarySimpa false
namespace Go.Proofs.Ytmoahgeclmediab
open Go.RowKit N

/-- The value, not reduced. -/
def pI (c : Nat → Int) (x : Int) : Nat → Nat → Int
  | _, 0 => 0
  | k, m + 1 => pI c x (k + 1) m * x + c k
theorem ev_pI (f : Nat → Nat) (x : Int) : ∀ m k, ev f x k m = pI (fun j => ((f j : Nat) : Int)) x k m % L
  | 0, _ => by unfold ev pI; unfold L; decide
  | m + 1, k => by
    unfold ev pI ma
    rw [ev_pI f x m (k + 1), Int.add_emod, Int.mul_emod, Int.emod_emod_of_dvd _ (Int.dvd_refl L), ← Int.mul_emod, ← Int.add_emod]
theorem pI_congr {c d : Nat → Int} {x : Int} : ∀ {m k : Nat}, (∀ i, k ≤ i → i < k + m → c i % L = d i % L) → pI c x k m % L = pI d x k m % L
  | 0, _, _ => rfl
  | m + 1, k, h => by
    unfold pI
    rw [Int.add_emod, Int.mul_emod, pI_congr (m := m) (k := k + 1) (fun i h1 h2 => h i (by omega) (by omega)), h k (by omega) (by omega), ← Int.mul_emod, ← Int.add_emod]
theorem pI_lin (c d : Nat → Int) (t x : Int) : ∀ m k, pI (fun j => c j + t * d j) x k m = pI c x k m + t * pI d x k m
  | 0, _ => by unfold pI; omega
  | m + 1, k => by
    unfold pI
    rw [pI_lin c d t x m (k + 1)]
    grind
theorem pI_zero (c : Nat → Int) (x : Int) : ∀ m k, (∀ i, k ≤ i → i < k + m → c i = 0) → pI c x k m = 0
  | 0, _, _ => rfl
  | m + 1, k, h => by
    unfold pI
    rw [pI_zero c x m (k + 1) (fun i h1 h2 => h i (by omega) (by omega)), h k (by omega) (by omega)]
    omega
/-- Coefficients behind the last one are 0. -/
theorem pI_cut (c : Nat → Int) (x : Int) (A : Nat) : ∀ p m k, k + m = A → pI (fun j => if j < A then c j else 0) x k (m + p) = pI c x k m
  | p, 0, k, h => by rw [Nat.zero_add]; exact pI_zero _ x p k (fun i h1 _ => if_neg (by omega))
  | p, m + 1, k, h => by
    rw [show m + 1 + p = (m + p) + 1 by omega]
    unfold pI
    rw [pI_cut c x A p m (k + 1) (by omega), if_pos (by omega)]
/-- The shares of a + t b. -/
theorem ev_sum (a b s : Nat → Nat) (A B n : Nat) (t x : Int) (hA : A ≤ n) (hB : B ≤ n) (hs : ∀ j, j < n → ((s j : Nat) : Int) % L = ((if j < A then ((a j : Nat) : Int) else 0) + t * (if j < B then ((b j : Nat) : Int) else 0)) % L) :
    ad (ev a x 0 A) (ml t (ev b x 0 B)) = ev s x 0 n := by
  rw [ev_pI s, pI_congr (d := fun j => (if j < A then ((a j : Nat) : Int) else 0) + t * (if j < B then ((b j : Nat) : Int) else 0)) (fun i _ h => hs i (by omega)), pI_lin (fun j => if j < A then ((a j : Nat) : Int) else 0) (fun j => if j < B then ((b j : Nat) : Int) else 0)]
  have e1 : pI (fun j => if j < A then ((a j : Nat) : Int) else 0) x 0 n = pI (fun j => ((a j : Nat) : Int)) x 0 A := by
    have := pI_cut (fun j => ((a j : Nat) : Int)) x A (n - A) A 0 (by omega)
    rwa [show A + (n - A) = n by omega] at this
  have e2 : pI (fun j => if j < B then ((b j : Nat) : Int) else 0) x 0 n = pI (fun j => ((b j : Nat) : Int)) x 0 B := by
    have := pI_cut (fun j => ((b j : Nat) : Int)) x B (n - B) B 0 (by omega)
    rwa [show B + (n - B) = n by omega] at this
  rw [e1, e2, ev_pI a, ev_pI b]
  unfold ad ml
  rw [Int.mul_emod, Int.emod_emod_of_dvd _ (Int.dvd_refl L), ← Int.mul_emod, ← Int.add_emod]
end Go.Proofs.Ytmoahgeclmediab
