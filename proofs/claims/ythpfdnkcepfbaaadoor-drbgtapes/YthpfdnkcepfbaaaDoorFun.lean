/- The functions of the package scalar over 32 bytes: Add, Sub, Mul, MulAdd, Neg, Canonical. -/
import Derived.Test.YthpfdnkcepfbaaaDoorMgT
set_option linter.unusedVariables false
set_option linter.unusedSimpArgs false
set_option linter.unnecessarySimpa false
namespace Go.Proofs.YthpfdnkcepfbaaaDoor
open Go.RowKit N

theorem r256_rl {n : Int} (h : RL n) : R256 n := by unfold RL at h; unfold R256; omega
theorem r256_mod (n : Int) : R256 (n % L) := r256_rl (rl_mod n)
theorem sub_nm (z x y : Nat) (n m : Int) (rn : RL n) (rm : RL m) (w : World) (hz : An w z) (hx : NumAt w x n) (hy : NumAt w y m) :
    Calls Tryd.prog 151 #[.pointer (some ⟨z, 0, none⟩), .pointer (some ⟨x, 0, none⟩), .pointer (some ⟨y, 0, none⟩)] w fun e w' => e = .returned (.tuple #[]) ∧ NumAt w' z ((n - m) % L) ∧ Chg w w' [z] :=
  (sub_any z x y n m rn rm w hz hx hy).mono fun _ _ ⟨a, b, c⟩ => ⟨a, b, Chg.of c⟩
theorem add_nm (z x y : Nat) (n m : Int) (rn : RL n) (rm : RL m) (w : World) (hz : An w z) (hx : NumAt w x n) (hy : NumAt w y m) :
    Calls Tryd.prog 159 #[.pointer (some ⟨z, 0, none⟩), .pointer (some ⟨x, 0, none⟩), .pointer (some ⟨y, 0, none⟩)] w fun e w' => e = .returned (.tuple #[]) ∧ NumAt w' z ((n + m) % L) ∧ Chg w w' [z] :=
  (add_any z x y n m rn rm w hz hx hy).mono fun _ _ ⟨a, b, c⟩ => ⟨a, b, Chg.of c⟩

theorem muladd_mod (a b c : Int) : (c % L + a % L * (b % L)) % L = (a * b + c) % L := by
  rw [Int.add_emod, Int.emod_emod_of_dvd _ (Int.dvd_refl L), ← Int.mul_emod, ← Int.add_emod, Int.add_comm]
end Go.Proofs.YthpfdnkcepfbaaaDoor
