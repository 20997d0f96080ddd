/- rimeref02.Neg, Sub, Mul, MulAdd, IsZero, Compare. -/
import Derived.Test.YtemjpibmefggnaaRMul
set_option linter.unusedVariables false
set_option linter.unusedSimpArgs false
set_option linter.unnecessarySimpa false
namespace Go.Proofs.Ytemjpibmefggnaa
open Go.RowKit N

def adP (x y : Nat) : Nat := (x + y) % LN
def mlP (x y : Nat) : Nat := x * y % LN
def ngP (x : Nat) : Nat := (LN - x % LN) % LN
theorem LN_256 : LN < 115792089237316195423570985008687907853269984665640564039457584007913129639936 := by unfold LN; decide
theorem adP_lt (x y : Nat) : adP x y < 115792089237316195423570985008687907853269984665640564039457584007913129639936 := Nat.lt_trans (Nat.mod_lt _ LN_pos) LN_256
theorem mlP_lt (x y : Nat) : mlP x y < 115792089237316195423570985008687907853269984665640564039457584007913129639936 := Nat.lt_trans (Nat.mod_lt _ LN_pos) LN_256
theorem ngP_lt (x : Nat) : ngP x < 115792089237316195423570985008687907853269984665640564039457584007913129639936 := Nat.lt_trans (Nat.mod_lt _ LN_pos) LN_256
theorem modL_lt (x : Nat) : x % LN < 115792089237316195423570985008687907853269984665640564039457584007913129639936 := Nat.lt_trans (Nat.mod_lt _ LN_pos) LN_256
theorem Add_p (n m : Nat) (hn : n < 115792089237316195423570985008687907853269984665640564039457584007913129639936) (hm : m < 115792089237316195423570985008687907853269984665640564039457584007913129639936) (w : World) : Calls Try.prog 24 #[fe (n : Int), fe (m : Int)] w fun e w' => e = .returned (fe ((adP n m : Nat) : Int)) ∧ Chg w w' [] := Add_r n m hn hm w
theorem u32InfoE : ∃ i, Try.prog.info? 84 = some i := Option.isSome_iff_exists.1 (by kernel_rfl)
theorem u32Cells : Try.prog.cellsOf 84 = 1 := by kernel_rfl
theorem NumGuard : Try.prog.eqGuardType Try.prog.depth 86 = false := by kernel_rfl
def eqD (x y : Nat) : Bool := (List.range 8).all fun i => ((dg x i : Nat) : Int) == ((dg y i : Nat) : Int)
theorem eqD_eq {x y : Nat} (hx : x < 115792089237316195423570985008687907853269984665640564039457584007913129639936) (hy : y < 115792089237316195423570985008687907853269984665640564039457584007913129639936) : eqD x y = decide (x = y) := by
  cases h : eqD x y
  · symm
    rw [decide_eq_false_iff_not]
    intro e
    rw [e] at h
    simp [eqD] at h
  · symm
    rw [decide_eq_true_eq]
    unfold eqD at h
    rw [List.all_eq_true] at h
    have hb : ∀ i, i < 8 → dg x i = dg y i := fun i hi => by have := h i (by simpa using hi); simp at this; omega
    rw [← nv_dg8 x hx, ← nv_dg8 y hy]
    exact nv_congr _ _ 8 0 (fun i _ hi => hb i (by omega))
end Go.Proofs.Ytemjpibmefggnaa
