/- Numbers modulo P: sums and products of remainders; Fermat. -/
import Derived.Test.YtialljmkkichiabAlive
set_option linter.unusedVariables false
set_option linter.unusedSimpArgs false
set_option linter.unnecessarySimpa false
namespace Go.Proofs.Ytialljmkkichiab
open Go.RowKit N

theorem m_add_l (x y : Int) : (x % P + y) % P = (x + y) % P := by rw [Int.add_emod (x % P), Int.emod_emod_of_dvd _ (Int.dvd_refl P), ← Int.add_emod]
theorem m_add_r (x y : Int) : (x + y % P) % P = (x + y) % P := by rw [Int.add_comm, m_add_l, Int.add_comm]
theorem m_sub_l (x y : Int) : (x % P - y) % P = (x - y) % P := by rw [Int.sub_emod (x % P), Int.emod_emod_of_dvd _ (Int.dvd_refl P), ← Int.sub_emod]
theorem m_mul_l (x y : Int) : (x % P * y) % P = (x * y) % P := by rw [Int.mul_emod (x % P), Int.emod_emod_of_dvd _ (Int.dvd_refl P), ← Int.mul_emod]
theorem m_mul_r (x y : Int) : (x * (y % P)) % P = (x * y) % P := by rw [Int.mul_comm, m_mul_l, Int.mul_comm]

/-- Fermat. -/
theorem pw_nat (n k : Nat) : pw (n : Int) k = ((n ^ k % PN : Nat) : Int) := by
  unfold pw
  rw [← PN_eq, Int.natCast_emod, Int.natCast_pow]
theorem fermat_k (n k : Nat) (hk : k = PN - 1) (h : ¬ PN ∣ n) : n ^ k % PN = 1 := by
  subst hk
  exact fermat_one (q := PN) pr_p h
theorem pw_last (n : Nat) (h : ¬ PN ∣ n) : pw (n : Int) 57896044618658097711785492504343953926634992332820282019728792003956564819948 = 1 := by
  rw [pw_nat n 57896044618658097711785492504343953926634992332820282019728792003956564819948, fermat_k n 57896044618658097711785492504343953926634992332820282019728792003956564819948 (by decide +kernel) h]
  rfl
theorem pw_none (n k : Nat) (hk : k ≠ 0) (h : PN ∣ n) : pw (n : Int) k = 0 := by
  have f : n ^ k % PN = 0 := Nat.mod_eq_zero_of_dvd (Nat.dvd_trans h (dvd_pow_self' n hk))
  rw [pw_nat n k, f]
  rfl
theorem mod_zero_iff (n : Nat) : ((n : Int) % P = 0) ↔ PN ∣ n := by
  rw [← PN_eq, ← Int.natCast_emod]
  constructor
  · intro h; exact Nat.dvd_of_mod_eq_zero (by omega)
  · intro h; rw [Nat.mod_eq_zero_of_dvd h]; rfl

theorem same {x y : Int} (h : x = y) : eqf x y = true := by rw [h, eqf_self]

theorem own : ownKnob Try.prog.godebug = none := by kernel_rfl
theorem laidOut : laidOutB Try.prog = true := by kernel_rfl
end Go.Proofs.Ytialljmkkichiab
