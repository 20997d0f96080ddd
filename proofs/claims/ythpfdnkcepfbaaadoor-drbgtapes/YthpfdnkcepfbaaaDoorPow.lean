/- (*number).power: a number to the number of bytes. -/
import Derived.Test.YthpfdnkcepfbaaaDoorFun
import Derived.Test.YthpfdnkcepfbaaaDoorMgB
set_option linter.unusedVariables false
set_option linter.unusedSimpArgs false
set_option linter.unnecessarySimpa false
namespace Go.Proofs.YthpfdnkcepfbaaaDoor
open Go.RowKit N

/-- n to the power k, modulo the order. -/
def pwQ (n : Int) (k : Nat) : Int := n ^ k % L
theorem pw_mul (n : Int) (a b c : Nat) (h : a + b = c) : pwQ n a * pwQ n b % L = pwQ n c := by unfold pwQ; rw [← Int.mul_emod, ← Int.pow_add, h]
theorem pw_one (n : Int) : pwQ n 1 = n % L := by unfold pwQ; rw [Int.pow_succ, Int.pow_zero, Int.one_mul]
theorem pw_zero (n : Int) : pwQ n 0 = 1 := by unfold pwQ; rw [Int.pow_zero]; decide
theorem pw_rl (n : Int) (k : Nat) : RL (pwQ n k) := rl_mod _
theorem pw_dbl (n : Int) (e : Nat) : pwQ n e * pwQ n e % L = pwQ n (2 * e) := pw_mul n e e (2 * e) (by omega)
theorem pw_inc (n : Int) (e : Nat) : pwQ n e * (n % L) % L = pwQ n (e + 1) := by
  have h := pw_mul n e 1 (e + 1) (by omega)
  rw [pw_one] at h
  exact h
theorem pw_mod (n : Int) (k : Nat) : pwQ (n % L) k = pwQ n k := by
  unfold pwQ
  induction k with
  | zero => rw [Int.pow_zero, Int.pow_zero]
  | succ k ih => rw [Int.pow_succ, Int.mul_emod, ih, Int.emod_emod_of_dvd _ (Int.dvd_refl L), ← Int.mul_emod, ← Int.pow_succ]
/-- The number of the bytes from place k on, as many as m (the lowest first). -/
def nb (b : Nat → Nat) : Nat → Nat → Nat
  | _, 0 => 0
  | k, m + 1 => b k + 256 * nb b (k + 1) m
theorem bit_step (E b m : Nat) (hm : m < 8) : E * 2 ^ (m + 1) + b / 2 ^ (8 - (m + 1)) = 2 * (E * 2 ^ m + b / 2 ^ (8 - m)) + b / 2 ^ (7 - m) % 2 := by
  have e1 : 8 - m = (7 - m) + 1 := by omega
  have e2 : 8 - (m + 1) = 7 - m := by omega
  rw [e1, e2, Nat.pow_succ 2 (7 - m), ← Nat.div_div_eq_div_mul, Nat.pow_succ 2 m, ← Nat.mul_assoc]
  omega
theorem bit_test : ∀ m : Fin 8, ∀ b : Fin 256, bits .and .u8 ((b.val : Int) * 2 ^ m.val % 256) 128 = 128 * ((b.val / 2 ^ (7 - m.val) % 2 : Nat) : Int) := by decide +kernel
theorem numInfo : (Tryd.prog.info? 248).map (·.size) = some 4 := by kernel_rfl

end Go.Proofs.YthpfdnkcepfbaaaDoor
