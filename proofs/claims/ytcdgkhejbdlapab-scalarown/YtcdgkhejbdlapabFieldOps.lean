/- ScalarField: a field: the walk. -/
import Derived.Test.YtcdgkhejbdlapabMath
set_option linter.unusedVariables false
set_option linter.unusedSimpArgs false
set_option linter.unnecessarySimpa false
namespace Go.Proofs.Ytcdgkhejbdlapab
open Go.RowKit N

theorem r256_c0 : R256 0 := by unfold R256; decide
theorem r256_c1 : R256 1 := by unfold R256; decide
def ad (a b : Int) : Int := (a + b) % L
def sb (a b : Int) : Int := (a - b) % L
def ml (a b : Int) : Int := a * b % L
def ma (a b c : Int) : Int := (a * b + c) % L
def ng (a : Int) : Int := -a % L
def cn (a : Int) : Int := a % L
def iv (a : Int) : Int := pw a 7237005577332262213973186563042994240857116359379907606001950938285454250987
theorem Add_o (a b : Int) (ra : R256 a) (rb : R256 b) (w : World) : Calls Try.prog 8 #[fe a, fe b] w fun e w' => e = .returned (fe (ad a b)) ∧ Chg w w' [] := Add_s a b ra rb w
theorem Sub_o (a b : Int) (ra : R256 a) (rb : R256 b) (w : World) : Calls Try.prog 13 #[fe a, fe b] w fun e w' => e = .returned (fe (sb a b)) ∧ Chg w w' [] := Sub_s a b ra rb w
theorem Mul_o (a b : Int) (ra : R256 a) (rb : R256 b) (w : World) : Calls Try.prog 9 #[fe a, fe b] w fun e w' => e = .returned (fe (ml a b)) ∧ Chg w w' [] := Mul_s a b ra rb w
theorem MulAdd_o (a b c : Int) (ra : R256 a) (rb : R256 b) (rc : R256 c) (w : World) : Calls Try.prog 10 #[fe a, fe b, fe c] w fun e w' => e = .returned (fe (ma a b c)) ∧ Chg w w' [] := MulAdd_s a b c ra rb rc w
theorem Neg_o (a : Int) (ra : R256 a) (w : World) : Calls Try.prog 12 #[fe a] w fun e w' => e = .returned (fe (ng a)) ∧ Chg w w' [] := Neg_s a ra w
theorem Invert_o (a : Int) (ra : R256 a) (h : eqn (cn a) 0 = false) (w : World) : Calls Try.prog 15 #[fe a] w fun e w' => e = .returned (.tuple #[fe (iv a), .int .i64 0]) ∧ Chg w w' [] := Invert_not a ra h w
theorem Canonical_is (a : Int) (ra : R256 a) (t : Bool) (h : eqf a (cn a) = t) (w : World) : Calls Try.prog 11 #[fe a] w fun e w' => e = .returned (.bool t) ∧ Chg w w' [] := by rw [← h]; exact Canonical_s a ra w
theorem IsZero_is (a : Int) (ra : R256 a) (t : Bool) (h : eqn (cn a) 0 = t) (w : World) : Calls Try.prog 16 #[fe a] w fun e w' => e = .returned (.bool t) ∧ Chg w w' [] := by rw [← h]; exact IsZero_s a ra w
theorem Compare_is (a b : Int) (ra : R256 a) (rb : R256 b) (t : Int) (h : cmpI (cn a) (cn b) = t) (w : World) : Calls Try.prog 14 #[fe a, fe b] w fun e w' => e = .returned (.int .i64 t) ∧ Chg w w' [] := by rw [← h]; exact Compare_s a b ra rb w

end Go.Proofs.Ytcdgkhejbdlapab
