/- Numbers modulo the order: sums and products of remainders; Fermat. -/
import Derived.Test.YthpfdnkcepfbaaaDoorWorks
import Derived.Test.YthpfdnkcepfbaaaDoorNum
set_option linter.unusedVariables false
set_option linter.unusedSimpArgs false
set_option linter.unnecessarySimpa false
namespace Go.Proofs.YthpfdnkcepfbaaaDoor
open Go.RowKit N

theorem m_add_l (x y : Int) : (x % L + y) % L = (x + y) % L := by rw [Int.add_emod (x % L), Int.emod_emod_of_dvd _ (Int.dvd_refl L), ← Int.add_emod]
theorem m_add_r (x y : Int) : (x + y % L) % L = (x + y) % L := by rw [Int.add_comm, m_add_l, Int.add_comm]
theorem m_sub_l (x y : Int) : (x % L - y) % L = (x - y) % L := by rw [Int.sub_emod (x % L), Int.emod_emod_of_dvd _ (Int.dvd_refl L), ← Int.sub_emod]
theorem m_mul_l (x y : Int) : (x % L * y) % L = (x * y) % L := by rw [Int.mul_emod (x % L), Int.emod_emod_of_dvd _ (Int.dvd_refl L), ← Int.mul_emod]
theorem m_mul_r (x y : Int) : (x * (y % L)) % L = (x * y) % L := by rw [Int.mul_comm, m_mul_l, Int.mul_comm]

/-- The order as a natural number. -/
def LN : Nat := 7237005577332262213973186563042994240857116359379907606001950938285454250989
theorem LN_eq : (LN : Int) = L := by unfold LN L; rfl
/-- Fermat. -/
theorem pw_nat (n k : Nat) : pwQ (n : Int) k = ((n ^ k % LN : Nat) : Int) := by
  unfold pwQ
  rw [← LN_eq, Int.natCast_emod, Int.natCast_pow]
theorem fermat_k (n k : Nat) (hk : k = LN - 1) (h : ¬ LN ∣ n) : n ^ k % LN = 1 := by
  subst hk
  exact fermat_one (q := LN) pr_l h
theorem pw_last (n : Nat) (h : ¬ LN ∣ n) : pwQ (n : Int) 7237005577332262213973186563042994240857116359379907606001950938285454250988 = 1 := by
  rw [pw_nat n 7237005577332262213973186563042994240857116359379907606001950938285454250988, fermat_k n 7237005577332262213973186563042994240857116359379907606001950938285454250988 (by decide +kernel) h]
  rfl
theorem pw_none (n k : Nat) (hk : k ≠ 0) (h : LN ∣ n) : pwQ (n : Int) k = 0 := by
  have f : n ^ k % LN = 0 := Nat.mod_eq_zero_of_dvd (Nat.dvd_trans h (dvd_pow_self' n hk))
  rw [pw_nat n k, f]
  rfl
theorem mod_zero_iff (n : Nat) : ((n : Int) % L = 0) ↔ LN ∣ n := by
  rw [← LN_eq, ← Int.natCast_emod]
  constructor
  · intro h; exact Nat.dvd_of_mod_eq_zero (by omega)
  · intro h; rw [Nat.mod_eq_zero_of_dvd h]; rfl

theorem same {x y : Int} (h : x = y) : eqf x y = true := by rw [h, eqf_self]

theorem own : ownKnob Tryd.prog.godebug = none := by kernel_rfl
theorem laidOut : laidOutB Tryd.prog = true := by kernel_rfl
end Go.Proofs.YthpfdnkcepfbaaaDoor
