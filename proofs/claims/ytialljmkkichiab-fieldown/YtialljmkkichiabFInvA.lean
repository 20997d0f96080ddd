/- Layer 1: field.InvertAll. -/
import Derived.Test.YtialljmkkichiabMkF
import Derived.Test.YtialljmkkichiabMath
import Derived.Test.YtialljmkkichiabFIsZ
import Derived.Test.YtialljmkkichiabPowers
set_option linter.unusedVariables false
set_option linter.unusedSimpArgs false
set_option linter.unnecessarySimpa false
namespace Go.Proofs.Ytialljmkkichiab
open Go.RowKit N

/-! ### Running products -/
/-- The product of those ahead of place i that are not 0. -/
def rsN (f : Nat → Nat) : Nat → Nat
  | 0 => 1
  | i + 1 => if f i % PN = 0 then rsN f i else rsN f i * (f i % PN) % PN
theorem PN_pos : 0 < PN := by unfold PN; decide
theorem rsN_lt (f : Nat → Nat) : ∀ i, rsN f i < PN
  | 0 => by show 1 < PN; unfold PN; decide
  | i + 1 => by
    show (if f i % PN = 0 then rsN f i else rsN f i * (f i % PN) % PN) < PN
    split
    · exact rsN_lt f i
    · exact Nat.mod_lt _ PN_pos
theorem rsN_zero {f : Nat → Nat} {i : Nat} (h : f i % PN = 0) : rsN f (i + 1) = rsN f i := if_pos h
theorem rsN_step {f : Nat → Nat} {i : Nat} (h : ¬ f i % PN = 0) : rsN f (i + 1) = rsN f i * (f i % PN) % PN := if_neg h
theorem not_dvd_mul {a b : Nat} (ha : ¬ PN ∣ a) (hb : ¬ PN ∣ b) : ¬ PN ∣ a * b := fun h => by
  rcases pr_p.euclid (q := PN) h with h | h
  · exact ha h
  · exact hb h
theorem rsN_ne (f : Nat → Nat) : ∀ i, ¬ PN ∣ rsN f i
  | 0 => by
    show ¬ PN ∣ 1
    intro h
    have := Nat.le_of_dvd (by decide) h
    unfold PN at this
    omega
  | i + 1 => by
    by_cases h : f i % PN = 0
    · rw [rsN_zero h]; exact rsN_ne f i
    · rw [rsN_step h]
      intro hd
      have h1 : PN ∣ rsN f i * (f i % PN) := (Nat.dvd_mod_iff (Nat.dvd_refl PN)).1 hd
      exact not_dvd_mul (rsN_ne f i) (fun h2 => h (by have := Nat.mod_eq_zero_of_dvd h2; rw [Nat.mod_mod] at this; exact this)) h1
/-- The inverse (0 where there is none). -/
abbrev ivq (a : Int) : Int := pw a 57896044618658097711785492504343953926634992332820282019728792003956564819947
theorem ivq_mul (n : Nat) (h : ¬ PN ∣ n) : ivq (n : Int) * (n : Int) % P = 1 := by
  have e : pw (n : Int) 57896044618658097711785492504343953926634992332820282019728792003956564819947 * pw (n : Int) 1 % P = pw (n : Int) 57896044618658097711785492504343953926634992332820282019728792003956564819948 := pw_mul (n : Int) _ _ _ (by decide)
  rw [pw_last n h, pw_one, m_mul_r] at e
  exact e
theorem ivq_zero (n : Nat) (h : PN ∣ n) : ivq (n : Int) = 0 := pw_none n _ (by decide) h
theorem ivq_bd (a : Int) : 0 ≤ ivq a ∧ ivq a < P := ⟨Int.emod_nonneg _ (by unfold P; decide), Int.emod_lt_of_pos _ (by unfold P; decide)⟩
/-- Whatever is 1 with n is its inverse. -/
theorem ivq_one {x : Int} {n : Nat} (hx0 : 0 ≤ x) (hx1 : x < P) (h : ¬ PN ∣ n) (e : x * (n : Int) % P = 1) : x = ivq (n : Int) := by
  have h1 : x * (ivq (n : Int) * (n : Int)) % P = x := by
    rw [← m_mul_r, ivq_mul n h, Int.mul_one, Int.emod_eq_of_lt hx0 hx1]
  have h2 : x * (ivq (n : Int) * (n : Int)) % P = ivq (n : Int) := by
    rw [show x * (ivq (n : Int) * (n : Int)) = x * (n : Int) * ivq (n : Int) by rw [Int.mul_comm (ivq (n : Int)), Int.mul_assoc], ← m_mul_l, e, Int.one_mul, Int.emod_eq_of_lt (ivq_bd _).1 (ivq_bd _).2]
  rw [← h1, h2]
theorem cast_mod (n : Nat) : ((n % PN : Nat) : Int) = (n : Int) % P := by rw [Int.natCast_emod, PN_eq]
theorem rs_cast {f : Nat → Nat} {i : Nat} (h : ¬ f i % PN = 0) : (rsN f i : Int) * ((f i : Nat) : Int) % P = (rsN f (i + 1) : Int) := by
  rw [rsN_step h, cast_mod, Int.natCast_mul, cast_mod, m_mul_r]
theorem zero_iff (n : Nat) : (decide ((n : Int) % P = 0)) = decide (n % PN = 0) := by
  rw [← cast_mod]
  congr 1
  rw [eq_iff_iff]
  constructor
  · intro h; omega
  · intro h; rw [h]; rfl
/-- One step back: what is answered at place i, and what goes on. -/
theorem back_out {f : Nat → Nat} {i : Nat} {R : Int} (h : ¬ f i % PN = 0) (hR : R * (rsN f (i + 1) : Int) % P = 1) : (rsN f i : Int) % P * R % P = ivq ((f i : Nat) : Int) := by
  refine ivq_one (Int.emod_nonneg _ (by unfold P; decide)) (Int.emod_lt_of_pos _ (by unfold P; decide)) (fun hd => h (Nat.mod_eq_zero_of_dvd hd)) ?_
  have e1 : (rsN f i : Int) % P * R % P * ((f i : Nat) : Int) % P = R * ((rsN f i : Int) * ((f i : Nat) : Int)) % P := by
    rw [m_mul_l, Int.mul_assoc, m_mul_l, Int.mul_left_comm]
  rw [e1, ← m_mul_r, rs_cast h, hR]
theorem back_rest {f : Nat → Nat} {i : Nat} {R : Int} (h : ¬ f i % PN = 0) (hR : R * (rsN f (i + 1) : Int) % P = 1) : R * (((f i : Nat) : Int) % P) % P * (rsN f i : Int) % P = 1 := by
  rw [m_mul_l, Int.mul_assoc, ← m_mul_r, m_mul_l, Int.mul_comm ((f i : Nat) : Int), rs_cast h, hR]
theorem first_R (f : Nat → Nat) (N : Nat) : ivq (rsN f N : Int) * (rsN f N : Int) % P = 1 := ivq_mul _ (rsN_ne f N)
theorem rs_pw (f : Nat → Nat) (i : Nat) : pw (rsN f i : Int) 1 = (rsN f i : Int) := by
  rw [pw_one]
  have h := rsN_lt f i
  have h2 : (rsN f i : Int) < (PN : Int) := by exact_mod_cast h
  rw [PN_eq] at h2
  exact Int.emod_eq_of_lt (by omega) h2
theorem rs_mod (f : Nat → Nat) (i : Nat) : (rsN f i : Int) % P = (rsN f i : Int) := by have := rs_pw f i; rw [pw_one] at this; exact this
theorem rs_256 (f : Nat → Nat) (i : Nat) : (rsN f i : Int) < 115792089237316195423570985008687907853269984665640564039457584007913129639936 := by
  have h := rsN_lt f i
  unfold PN at h
  omega
/-- Rows: running products ahead of i, inverses from i on. -/
def bkR (f : Nat → Nat) (i : Nat) : Nat → List Value := fun j => if j < i then feL (rsN f j : Int) else feL (ivq ((f j : Nat) : Int))
theorem bkR_step (f : Nat → Nat) (i : Nat) : upR (bkR f (i + 1)) i (feL (ivq ((f i : Nat) : Int))) = bkR f i := by
  funext j; unfold upR bkR
  by_cases h : j = i
  · subst h; rw [if_pos rfl, if_neg (by omega)]
  · rw [if_neg h]
    by_cases h2 : j < i
    · rw [if_pos h2, if_pos (by omega)]
    · rw [if_neg h2, if_neg (by omega)]
theorem bkR_ok (f : Nat → Nat) (i m : Nat) : Rok 32 m (bkR f i) := fun j _ => by
  unfold bkR
  split <;> exact feL_ok _
theorem bkR_at (f : Nat → Nat) (i : Nat) : bkR f (i + 1) i = feL (rsN f i : Int) := if_pos (by omega)
end Go.Proofs.Ytialljmkkichiab
