/- FieldFermat: the walk, at each pair of signs. -/
import Derived.Test.YtialljmkkichiabEuler
import Derived.Test.YtialljmkkichiabAlive
set_option linter.unusedVariables false
set_option linter.unusedSimpArgs false
set_option linter.unnecessarySimpa false
namespace Go.Proofs.Ytialljmkkichiab
open Go.RowKit N

/-! The calls, with their answers under names. -/
def ml2 (a b : Int) : Int := a * b % P
def ng2 (a : Int) : Int := -a % P
theorem wrap_m1 : IntKind.i64.wrap (-1) = -1 := by decide +kernel
theorem wrap_1 : IntKind.i64.wrap 1 = 1 := by decide +kernel
theorem wrap_0 : IntKind.i64.wrap 0 = 0 := by decide +kernel
theorem qC1 : R256 1 := by unfold R256; decide
theorem r256_eu (a : Int) : R256 (eu a) := by unfold eu pw; exact r256_mod _
theorem r256_fm (a : Int) : R256 (fm a) := by unfold fm pw; exact r256_mod _
theorem Mul_q (a b : Int) (ra : R256 a) (rb : R256 b) (w : World) : Calls Try.prog 14 #[fe a, fe b] w fun e w' => e = .returned (fe (ml2 a b)) ∧ Chg w w' [] := Mul_fe a b ra rb w
theorem Neg_q (a : Int) (ra : R256 a) (w : World) : Calls Try.prog 13 #[fe a] w fun e w' => e = .returned (fe (ng2 a)) ∧ Chg w w' [] := Neg_fe a ra w
theorem Equal_q (a b : Int) (ra : R256 a) (rb : R256 b) (t : Bool) (h : eqf (a % P) (b % P) = t) (w : World) :
    Calls Try.prog 15 #[fe a, fe b] w fun e w' => e = .returned (.bool t) ∧ Chg w w' [] := by
  rw [← h]
  exact Equal_fe a b ra rb w

end Go.Proofs.Ytialljmkkichiab
