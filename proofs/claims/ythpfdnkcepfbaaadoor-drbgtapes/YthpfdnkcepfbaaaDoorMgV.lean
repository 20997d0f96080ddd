/- Joined: RAdd, RMul, RFun, RCmp, RPower, RLeg. -/
import Derived.Test.YthpfdnkcepfbaaaDoorMgU
/- rimeref02.Add. -/
set_option linter.unusedVariables false
set_option linter.unusedSimpArgs false
set_option linter.unnecessarySimpa false
namespace Go.Proofs.YthpfdnkcepfbaaaDoor
open Go.RowKit N

/-- What is carried into place i of X + Y. -/
def cyA (X Y i : Nat) : Nat := (X % 4294967296 ^ i + Y % 4294967296 ^ i) / 4294967296 ^ i
theorem cyA_zero (X Y : Nat) : cyA X Y 0 = 0 := by simp [cyA, Nat.mod_one]
theorem cyA_le (X Y i : Nat) : cyA X Y i ≤ 1 := by
  unfold cyA
  have hP : 0 < 4294967296 ^ i := Nat.pow_pos (by decide)
  have h1 := Nat.mod_lt X hP
  have h2 := Nat.mod_lt Y hP
  have : (X % 4294967296 ^ i + Y % 4294967296 ^ i) / 4294967296 ^ i < 2 := Nat.div_lt_of_lt_mul (by omega)
  omega
theorem cyA_succ (X Y i : Nat) : cyA X Y (i + 1) = (cyA X Y i + dg X i + dg Y i) / 4294967296 := by
  unfold cyA dg
  rw [Nat.pow_succ, Nat.mod_mul, Nat.mod_mul]
  have hP : 0 < 4294967296 ^ i := Nat.pow_pos (by decide)
  generalize 4294967296 ^ i = P at *
  generalize X / P % 4294967296 = x
  generalize Y / P % 4294967296 = y
  rw [← Nat.div_div_eq_div_mul, show X % P + P * x + (Y % P + P * y) = X % P + Y % P + P * (x + y) by rw [Nat.mul_add]; omega, Nat.add_mul_div_left _ _ hP, Nat.add_assoc]
theorem dg_add (X Y i : Nat) : dg (X + Y) i = (cyA X Y i + dg X i + dg Y i) % 4294967296 := by
  unfold cyA dg
  have hP : 0 < 4294967296 ^ i := Nat.pow_pos (by decide)
  have e1 := Nat.div_add_mod X (4294967296 ^ i)
  have e2 := Nat.div_add_mod Y (4294967296 ^ i)
  generalize 4294967296 ^ i = P at *
  have e : (X + Y) / P = (X % P + Y % P) / P + (X / P + Y / P) := by
    rw [show X + Y = X % P + Y % P + P * (X / P + Y / P) by rw [Nat.mul_add]; omega, Nat.add_mul_div_left _ _ hP]
  rw [e]
  generalize (X % P + Y % P) / P = c
  generalize X / P = x
  generalize Y / P = y
  omega
/-- The first i digits of S, of nine. -/
def lowS (S i : Nat) : Nat → Nat := fun j => if j < i then dg S j else 0
theorem lowS_step (S i : Nat) : upd (lowS S i) i (dg S i) = lowS S (i + 1) := by
  funext j
  unfold upd lowS
  by_cases h : j = i
  · subst h; rw [if_pos rfl, if_pos (by omega)]
  · rw [if_neg h]
    by_cases h2 : j < i
    · rw [if_pos h2, if_pos (by omega)]
    · rw [if_neg h2, if_neg (by omega)]
theorem dg_high (n i : Nat) (hi : 8 ≤ i) (hn : n < 115792089237316195423570985008687907853269984665640564039457584007913129639936) : dg n i = 0 := by
  unfold dg
  have : 4294967296 ^ 8 ≤ 4294967296 ^ i := Nat.pow_le_pow_right (by decide) hi
  rw [Nat.div_eq_of_lt (by omega)]

end Go.Proofs.YthpfdnkcepfbaaaDoor

/- rimeref02.mul. -/
namespace Go.Proofs.YthpfdnkcepfbaaaDoor
open Go.RowKit N

/-- The cells within a row of the product: below place m F's digits, from it on A's. -/
def rowC (F A m : Nat) : Nat → Nat := fun j => if j < m then dg F j else dg A j
theorem rowC_at (F A m : Nat) : rowC F A m m = dg A m := if_neg (by omega)
theorem dg_low (F p m j : Nat) (h : j < m) : dg (F + 4294967296 ^ m * p) j = dg F j := by
  unfold dg
  obtain ⟨r, rfl⟩ : ∃ r, m = j + (r + 1) := ⟨m - j - 1, by omega⟩
  rw [Nat.pow_add, Nat.mul_assoc, Nat.add_mul_div_left _ _ (Nat.pow_pos (by decide)), Nat.pow_succ, Nat.mul_comm (4294967296 ^ r), Nat.mul_assoc, Nat.add_mul_mod_self_left]
/-- One step within a row. -/
theorem row_step (F A m c p : Nat) (h : F / 4294967296 ^ m = A / 4294967296 ^ m + c) :
    dg (F + 4294967296 ^ m * p) m = (c + dg A m + p) % 4294967296 ∧ (F + 4294967296 ^ m * p) / 4294967296 ^ (m + 1) = A / 4294967296 ^ (m + 1) + (c + dg A m + p) / 4294967296 := by
  unfold dg
  have hP : 0 < 4294967296 ^ m := Nat.pow_pos (by decide)
  rw [Nat.pow_succ, ← Nat.div_div_eq_div_mul, ← Nat.div_div_eq_div_mul, Nat.add_mul_div_left _ _ hP, h]
  generalize A / 4294967296 ^ m = a
  omega
theorem row_cells (F A m c p : Nat) (h : F / 4294967296 ^ m = A / 4294967296 ^ m + c) : upd (rowC F A m) m ((c + dg A m + p) % 4294967296) = rowC (F + 4294967296 ^ m * p) A (m + 1) := by
  funext j
  unfold upd rowC
  by_cases e : j = m
  · subst e; rw [if_pos rfl, if_pos (by omega), (row_step F A j c p h).1]
  · rw [if_neg e]
    by_cases e2 : j < m
    · rw [if_pos e2, if_pos (by omega), dg_low F p m j e2]
    · rw [if_neg e2, if_neg (by omega)]
theorem dg_zero_high (A m j : Nat) (h : A < 4294967296 ^ m) (hj : m ≤ j) : dg A j = 0 := by
  unfold dg
  have : 4294967296 ^ m ≤ 4294967296 ^ j := Nat.pow_le_pow_right (by decide) hj
  rw [Nat.div_eq_of_lt (by omega)]
/-- The last cell of a row. -/
theorem row_end (F A m c : Nat) (hA : A < 4294967296 ^ m) (hF : F / 4294967296 ^ m = A / 4294967296 ^ m + c) (hc : c < 4294967296) : upd (rowC F A m) m c = dg F := by
  have hAz : A / 4294967296 ^ m = 0 := Nat.div_eq_of_lt hA
  rw [hAz, Nat.zero_add] at hF
  have hP : 0 < 4294967296 ^ m := Nat.pow_pos (by decide)
  have hFl : F < 4294967296 ^ (m + 1) := by
    have := Nat.lt_mul_div_succ F hP
    rw [hF] at this
    rw [Nat.pow_succ]
    exact Nat.lt_of_lt_of_le this (Nat.mul_le_mul_left _ (by omega))
  funext j
  unfold upd rowC
  by_cases e : j = m
  · subst e; rw [if_pos rfl]; unfold dg; rw [hF]; omega
  · rw [if_neg e]
    by_cases e2 : j < m
    · rw [if_pos e2]
    · rw [if_neg e2, dg_zero_high A m j hA (by omega), dg_zero_high F (m + 1) j hFl (by omega)]
theorem mod_succ (X i : Nat) : X % 4294967296 ^ (i + 1) = X % 4294967296 ^ i + 4294967296 ^ i * dg X i := by
  rw [Nat.pow_succ, Nat.mod_mul]; rfl
theorem row_bd (X Y i : Nat) (hY : Y < 4294967296 ^ 8) : X % 4294967296 ^ i * Y < 4294967296 ^ (i + 8) := by
  rw [Nat.pow_add]
  have hP : 0 < 4294967296 ^ i := Nat.pow_pos (by decide)
  have h1 := Nat.mod_lt X hP
  exact Nat.mul_lt_mul'' h1 hY
theorem p32 (x y : Nat) (hx : x < 4294967296) (hy : y < 4294967296) : x * y ≤ 18446744065119617025 := Nat.mul_le_mul (show x ≤ 4294967295 by omega) (show y ≤ 4294967295 by omega)

end Go.Proofs.YthpfdnkcepfbaaaDoor

/- rimeref02.Neg, Sub, Mul, MulAdd, IsZero, Compare. -/
namespace Go.Proofs.YthpfdnkcepfbaaaDoor
open Go.RowKit N

def adP (x y : Nat) : Nat := (x + y) % LN
def mlP (x y : Nat) : Nat := x * y % LN
def ngP (x : Nat) : Nat := (LN - x % LN) % LN
theorem LN_256 : LN < 115792089237316195423570985008687907853269984665640564039457584007913129639936 := by unfold LN; decide
theorem adP_lt (x y : Nat) : adP x y < 115792089237316195423570985008687907853269984665640564039457584007913129639936 := Nat.lt_trans (Nat.mod_lt _ LN_pos) LN_256
theorem mlP_lt (x y : Nat) : mlP x y < 115792089237316195423570985008687907853269984665640564039457584007913129639936 := Nat.lt_trans (Nat.mod_lt _ LN_pos) LN_256
theorem ngP_lt (x : Nat) : ngP x < 115792089237316195423570985008687907853269984665640564039457584007913129639936 := Nat.lt_trans (Nat.mod_lt _ LN_pos) LN_256
theorem modL_lt (x : Nat) : x % LN < 115792089237316195423570985008687907853269984665640564039457584007913129639936 := Nat.lt_trans (Nat.mod_lt _ LN_pos) LN_256
theorem u32InfoE : ∃ i, Tryd.prog.info? 168 = some i := Option.isSome_iff_exists.1 (by kernel_rfl)
theorem u32Cells : Tryd.prog.cellsOf 168 = 1 := by kernel_rfl
theorem NumGuard : Tryd.prog.eqGuardType Tryd.prog.depth 191 = false := by kernel_rfl
def eqD (x y : Nat) : Bool := (List.range 8).all fun i => ((dg x i : Nat) : Int) == ((dg y i : Nat) : Int)
theorem eqD_eq {x y : Nat} (hx : x < 115792089237316195423570985008687907853269984665640564039457584007913129639936) (hy : y < 115792089237316195423570985008687907853269984665640564039457584007913129639936) : eqD x y = decide (x = y) := by
  cases h : eqD x y
  · symm
    rw [decide_eq_false_iff_not]
    intro e
    rw [e] at h
    simp [eqD] at h
  · symm
    rw [decide_eq_true_eq]
    unfold eqD at h
    rw [List.all_eq_true] at h
    have hb : ∀ i, i < 8 → dg x i = dg y i := fun i hi => by have := h i (by simpa using hi); simp at this; omega
    rw [← nv_dg8 x hx, ← nv_dg8 y hy]
    exact nv_congr _ _ 8 0 (fun i _ hi => hb i (by omega))
end Go.Proofs.YthpfdnkcepfbaaaDoor

/- rimeref02.Compare. -/
namespace Go.Proofs.YthpfdnkcepfbaaaDoor
open Go.RowKit N

end Go.Proofs.YthpfdnkcepfbaaaDoor

/- rimeref02.Power. -/
namespace Go.Proofs.YthpfdnkcepfbaaaDoor
open Go.RowKit N

/-- x to the power e, modulo the order. -/
def pN (x e : Nat) : Nat := x ^ e % LN
theorem pN_lt (x e : Nat) : pN x e < 115792089237316195423570985008687907853269984665640564039457584007913129639936 := modL_lt _
theorem pN_zero (x : Nat) : pN x 0 = 1 := by unfold pN LN; rw [Nat.pow_zero]
theorem pN_dbl (x e : Nat) : mlP (pN x e) (pN x e) = pN x (2 * e) := by unfold mlP pN; rw [← Nat.mul_mod, ← Nat.pow_add, Nat.two_mul]
theorem pN_inc (x e : Nat) : mlP (pN x e) (x % LN) = pN x (e + 1) := by unfold mlP pN; rw [← Nat.mul_mod, Nat.pow_succ]
theorem bit8 (x k : Nat) (hx : x < 256) : bits .and .u8 ((x : Int) / 2 ^ k) 1 = ((x / 2 ^ k % 2 : Nat) : Int) := by
  have e : (x : Int) / 2 ^ k = ((x / 2 ^ k : Nat) : Int) := by rw [Int.natCast_ediv, Int.natCast_pow]; rfl
  have hl : x / 2 ^ k ≤ x := Nat.div_le_self _ _
  rw [e]
  have h := u8_and_nat (x / 2 ^ k) 1 (by omega) (by omega)
  rw [nat_mask1] at h
  exact h
theorem bit_step8 (E x j : Nat) (hj : j < 8) : E * 2 ^ (8 - j) + x / 2 ^ j = 2 * (E * 2 ^ (8 - (j + 1)) + x / 2 ^ (j + 1)) + x / 2 ^ j % 2 := by
  have e1 : 8 - j = (8 - (j + 1)) + 1 := by omega
  rw [e1, Nat.pow_succ 2 (8 - (j + 1)), Nat.pow_succ 2 j, ← Nat.div_div_eq_div_mul, ← Nat.mul_assoc]
  omega

end Go.Proofs.YthpfdnkcepfbaaaDoor

/- rimeref02.Legendre. -/
namespace Go.Proofs.YthpfdnkcepfbaaaDoor
open Go.RowKit N

theorem dg_half (n i : Nat) : dg (n / 2) i = dg n i / 2 + 2147483648 * (dg n (i + 1) % 2) := by
  unfold dg
  rw [Nat.div_div_eq_div_mul, Nat.mul_comm 2, ← Nat.div_div_eq_div_mul, Nat.pow_succ, ← Nat.div_div_eq_div_mul]
  generalize n / 4294967296 ^ i = X
  omega
theorem or_half (x y : Nat) (hx : x < 4294967296) (hy : y < 4294967296) : bits .or .u32 (((x / 2 : Nat) : Int)) (((y : Nat) : Int) * 2147483648 % 4294967296) = ((x / 2 + 2147483648 * (y % 2) : Nat) : Int) := by
  have e : ((y : Nat) : Int) * 2147483648 % 4294967296 = ((2147483648 * (y % 2) : Nat) : Int) := by omega
  rw [e, u32_or_nat (x / 2) (2147483648 * (y % 2)) (by omega) (by omega), Nat.or_comm, nat_join 31 (2147483648 * (y % 2)) (x / 2) (by omega) (by omega), Nat.add_comm]
/-- The digit i of m taken halved, but for what comes from the next. -/
def mixh (m n i : Nat) : Nat → Nat := upd (mix m n i) i (dg n i / 2)
theorem mixh_at (m n i : Nat) : mixh m n i i = dg n i / 2 := upd_same _ _ _
theorem mixh_next (m n i : Nat) : mixh m n i (i + 1) = dg n (i + 1) := by unfold mixh; rw [upd_other _ _ _ _ (by omega)]; exact if_neg (by omega)
theorem mixh_step (m n i : Nat) : upd (mixh m n i) i (dg m i) = mix m n (i + 1) := by
  rw [← mix_step]
  unfold mixh
  funext j
  unfold upd
  split <;> rfl
/-- What Legendre answers of the power. -/
def lgr (X : Int) : Int := if eqf X 0 then 0 else if eqf X 1 then 1 else -1
theorem lgr_z {X : Int} (h : eqf X 0 = true) : lgr X = 0 := by unfold lgr; rw [h]; rfl
theorem lgr_o {X : Int} (h : eqf X 0 = false) (h1 : eqf X 1 = true) : lgr X = 1 := by unfold lgr; rw [h, h1]; rfl
theorem lgr_m {X : Int} (h : eqf X 0 = false) (h1 : eqf X 1 = false) : lgr X = -1 := by unfold lgr; rw [h, h1]; rfl
theorem half_num : (LN - 1) / 2 = 3618502788666131106986593281521497120428558179689953803000975469142727125494 := by unfold LN; decide
end Go.Proofs.YthpfdnkcepfbaaaDoor
