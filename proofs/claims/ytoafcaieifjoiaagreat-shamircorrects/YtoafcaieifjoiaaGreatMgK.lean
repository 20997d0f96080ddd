/- Joined: RAdd, RMul, RFun, AddsWalk. -/
import Derived.Test.YtoafcaieifjoiaaGreatMgX
import Derived.Test.YtoafcaieifjoiaaGreatMgA
/- rimeref02.Add. -/
set_option linter.unusedVariables false
set_option linter.unusedSimpArgs false
set_option linter.unnecessarySimpa false
namespace Go.Proofs.YtoafcaieifjoiaaGreat
open Go.RowKit N

/-- What is carried into place i of X + Y. -/
def cyA (X Y i : Nat) : Nat := (X % 4294967296 ^ i + Y % 4294967296 ^ i) / 4294967296 ^ i
theorem cyA_zero (X Y : Nat) : cyA X Y 0 = 0 := by simp [cyA, Nat.mod_one]
theorem cyA_le (X Y i : Nat) : cyA X Y i ≤ 1 := by
  unfold cyA
  have hP : 0 < 4294967296 ^ i := Nat.pow_pos (by decide)
  have h1 := Nat.mod_lt X hP
  have h2 := Nat.mod_lt Y hP
  have : (X % 4294967296 ^ i + Y % 4294967296 ^ i) / 4294967296 ^ i < 2 := Nat.div_lt_of_lt_mul (by omega)
  omega
theorem cyA_succ (X Y i : Nat) : cyA X Y (i + 1) = (cyA X Y i + dg X i + dg Y i) / 4294967296 := by
  unfold cyA dg
  rw [Nat.pow_succ, Nat.mod_mul, Nat.mod_mul]
  have hP : 0 < 4294967296 ^ i := Nat.pow_pos (by decide)
  generalize 4294967296 ^ i = P at *
  generalize X / P % 4294967296 = x
  generalize Y / P % 4294967296 = y
  rw [← Nat.div_div_eq_div_mul, show X % P + P * x + (Y % P + P * y) = X % P + Y % P + P * (x + y) by rw [Nat.mul_add]; omega, Nat.add_mul_div_left _ _ hP, Nat.add_assoc]
theorem dg_add (X Y i : Nat) : dg (X + Y) i = (cyA X Y i + dg X i + dg Y i) % 4294967296 := by
  unfold cyA dg
  have hP : 0 < 4294967296 ^ i := Nat.pow_pos (by decide)
  have e1 := Nat.div_add_mod X (4294967296 ^ i)
  have e2 := Nat.div_add_mod Y (4294967296 ^ i)
  generalize 4294967296 ^ i = P at *
  have e : (X + Y) / P = (X % P + Y % P) / P + (X / P + Y / P) := by
    rw [show X + Y = X % P + Y % P + P * (X / P + Y / P) by rw [Nat.mul_add]; omega, Nat.add_mul_div_left _ _ hP]
  rw [e]
  generalize (X % P + Y % P) / P = c
  generalize X / P = x
  generalize Y / P = y
  omega
/-- The first i digits of S, of nine. -/
def lowS (S i : Nat) : Nat → Nat := fun j => if j < i then dg S j else 0
theorem lowS_step (S i : Nat) : upd (lowS S i) i (dg S i) = lowS S (i + 1) := by
  funext j
  unfold upd lowS
  by_cases h : j = i
  · subst h; rw [if_pos rfl, if_pos (by omega)]
  · rw [if_neg h]
    by_cases h2 : j < i
    · rw [if_pos h2, if_pos (by omega)]
    · rw [if_neg h2, if_neg (by omega)]
theorem dg_high (n i : Nat) (hi : 8 ≤ i) (hn : n < 115792089237316195423570985008687907853269984665640564039457584007913129639936) : dg n i = 0 := by
  unfold dg
  have : 4294967296 ^ 8 ≤ 4294967296 ^ i := Nat.pow_le_pow_right (by decide) hi
  rw [Nat.div_eq_of_lt (by omega)]

set_option maxHeartbeats 4000000 in
set_option maxRecDepth 100000 in
theorem Add_r (n m : Nat) (hn : n < 115792089237316195423570985008687907853269984665640564039457584007913129639936) (hm : m < 115792089237316195423570985008687907853269984665640564039457584007913129639936) (w : World) :
    Calls Tryz.prog 85 #[fe (n : Int), fe (m : Int)] w fun e w' => e = .returned (fe (((n + m) % LN : Nat) : Int)) ∧ Chg w w' [] := by
  have F0 : Blk (((w.alloc (.cells (feC (n : Int)) 24)).alloc (.cells (feC (m : Int)) 24)).alloc (.cells z32 24)) w.heap.size (feC (n : Int)) 24 := ((Blk.new w (feC (n : Int)) 24).alloc _).alloc _
  have F1 : Blk (((w.alloc (.cells (feC (n : Int)) 24)).alloc (.cells (feC (m : Int)) 24)).alloc (.cells z32 24)) (w.heap.size + 1) (feC (m : Int)) 24 := by have h := (Blk.new (w.alloc (.cells (feC (n : Int)) 24)) (feC (m : Int)) 24).alloc (.cells z32 24); simpa using h
  have F2 : Blk (((w.alloc (.cells (feC (n : Int)) 24)).alloc (.cells (feC (m : Int)) 24)).alloc (.cells z32 24)) (w.heap.size + 2) z32 24 := by have h := Blk.new ((w.alloc (.cells (feC (n : Int)) 24)).alloc (.cells (feC (m : Int)) 24)) z32 24; simpa using h
  have CC : Chg w (((w.alloc (.cells (feC (n : Int)) 24)).alloc (.cells (feC (m : Int)) 24)).alloc (.cells z32 24)) [] := (((Chg.refl w []).alloc _).alloc _).alloc _
  obtain ⟨X, hX⟩ : ∃ X, X = n % LN := ⟨_, rfl⟩
  obtain ⟨Y, hY⟩ : ∃ Y, Y = m % LN := ⟨_, rfl⟩
  obtain ⟨q, hq⟩ : ∃ q, q = (n + m) % LN := ⟨_, rfl⟩
  have lX : X < LN := by rw [hX]; exact Nat.mod_lt _ LN_pos
  have lY : Y < LN := by rw [hY]; exact Nat.mod_lt _ LN_pos
  have HQ : Hid ((X + Y) % LN = q) := by show (X + Y) % LN = q; rw [hX, hY, hq, ← Nat.add_mod]
  have HX : Hid (n % LN = X) := hX.symm
  have HY : Hid (m % LN = Y) := hY.symm
  rw [← hq]
  clear hX hY hq
  have hmk : ∀ w : World, (Instr.makeSlice 106 (.int .i64 9) (.int .i64 9)).run Tryz.prog w = .ok (.slice (some ⟨w.heap.size, 0, none⟩) 9 9) (w.alloc (.cells (uC 9 fun _ => 0) 168)) := fun w => mkU 9 (by decide) w
  go_enter Tryz.func85, Tryz.ntmps85
  go_wp2_with (refine wpList_load_row rfl 24 _ rfl w.heap.size rfl 24 _ (0, 0) _ F0 Tryz.underlying24 rfl feInfo ?_)
  refine (Value_r n hn _).mono ?_
  rintro e v1 ⟨rfl, k⟩
  rw [HX.out]
  have sz1 : w.heap.size + 2 < v1.heap.size := (F2.chg k (by simp)).lt
  replace F1 : Blk ((v1.alloc (.cells z8u 190)).setRow v1.heap.size (dC X)) (w.heap.size + 1) (feC (m : Int)) 24 := ((F1.chg k (by simp)).alloc (.cells z8u 190)).setRowOther (by omega) _
  replace F2 : Blk ((v1.alloc (.cells z8u 190)).setRow v1.heap.size (dC X)) (w.heap.size + 2) z32 24 := ((F2.chg k (by simp)).alloc (.cells z8u 190)).setRowOther (by omega) _
  have A := Blk.new v1 z8u 190
  have A' : Blk ((v1.alloc (.cells z8u 190)).setRow v1.heap.size (dC X)) v1.heap.size (dC X) 190 := A.setRow _
  replace CC : Chg w ((v1.alloc (.cells z8u 190)).setRow v1.heap.size (dC X)) [] := ((CC.trans1 k).alloc (.cells z8u 190)).setRowNew (by omega) _
  clear F0 k
  go_wp2_with (first | (refine wpList_store_row rfl 190 _ _ rfl v1.heap.size _ rfl rfl 190 _ A NumInfo rfl (dC_one _) ?_) | (refine wpList_load_row rfl 24 _ rfl (w.heap.size + 1) rfl 24 _ (0, 0) _ F1 Tryz.underlying24 rfl feInfo ?_))
  refine (Value_r m hm _).mono ?_
  rintro e v2 ⟨rfl, k⟩
  rw [HY.out]
  have szx : v1.heap.size < v2.heap.size := (A'.chg k (by simp)).lt
  replace F2 : Blk (((v2.alloc (.cells z8u 190)).setRow v2.heap.size (dC Y)).alloc (.cells (uC 9 fun _ => 0) 168)) (w.heap.size + 2) z32 24 := (((F2.chg k (by simp)).alloc (.cells z8u 190)).setRowOther (by omega) _).alloc _
  replace A' : Blk (((v2.alloc (.cells z8u 190)).setRow v2.heap.size (dC Y)).alloc (.cells (uC 9 fun _ => 0) 168)) v1.heap.size (dC X) 190 := (((A'.chg k (by simp)).alloc (.cells z8u 190)).setRowOther (by omega) _).alloc _
  have D := Blk.new v2 z8u 190
  have D' : Blk (((v2.alloc (.cells z8u 190)).setRow v2.heap.size (dC Y)).alloc (.cells (uC 9 fun _ => 0) 168)) v2.heap.size (dC Y) 190 := (D.setRow _).alloc _
  have G : Blk (((v2.alloc (.cells z8u 190)).setRow v2.heap.size (dC Y)).alloc (.cells (uC 9 fun _ => 0) 168)) (v2.heap.size + 1) (uC 9 (lowS (X + Y) 0)) 168 := by
    have h := Blk.new ((v2.alloc (.cells z8u 190)).setRow v2.heap.size (dC Y)) (uC 9 fun _ => 0) 168
    rw [show uC 9 (lowS (X + Y) 0) = uC 9 (fun _ => 0) from uC_congr 9 _ _ (fun i _ => if_neg (by omega))]
    simpa using h
  replace CC : Chg w (((v2.alloc (.cells z8u 190)).setRow v2.heap.size (dC Y)).alloc (.cells (uC 9 fun _ => 0) 168)) [] := (((CC.trans1 k).alloc (.cells z8u 190)).setRowNew (by omega) _).alloc _
  clear A F1 k
  go_wp2_with (refine wpList_store_row rfl 190 _ _ rfl v2.heap.size _ rfl rfl 190 _ D NumInfo rfl (dC_one _) ?_)
  clear D hmk
  generalize hv3 : ((v2.alloc (.cells z8u 190)).setRow v2.heap.size (dC Y)).alloc (.cells (uC 9 fun _ => 0) 168) = v3 at F2 A' D' G CC
  change Code.wp _ _ _ _ (((v2.alloc (.cells z8u 190)).setRow v2.heap.size (dC Y)).alloc (.cells (uC 9 fun _ => 0) 168))
  rw [hv3]
  clear hv3
  generalize v1.heap.size = gx at *
  generalize v2.heap.size = gy at *
  have HA : Hid (∀ i, dg (X + Y) i = (cyA X Y i + dg X i + dg Y i) % 4294967296) := dg_add X Y
  go_loopw [9, 8] (fun t c wr => ∃ i : Nat, i ≤ 8 ∧ t = .int .i64 (i : Int) ∧ c = .int .u64 ((cyA X Y i : Nat) : Int) ∧ Blk wr gx (dC X) 190 ∧ Blk wr gy (dC Y) 190 ∧ Blk wr (gy + 1) (uC 9 (lowS (X + Y) i)) 168 ∧ Blk wr (w.heap.size + 2) z32 24 ∧ Chg w wr []) (fun t _ _ => (8 - intOf t).toNat)
  case atStart => exact ⟨0, by omega, rfl, by rw [cyA_zero]; rfl, A', D', G, F2, CC⟩
  case round =>
    obtain ⟨i, hi, rfl, rfl, b0, b1, b2, b3, c0⟩ := hrel
    clear A' D' G F2 CC
    have hcl := cyA_le X Y i
    by_cases h8 : i < 8
    · have hI : (i : Int) < 8 := by omega
      have hI9 : (i : Int) < 9 := by omega
      have hx := dg_lt X i
      have hy := dg_lt Y i
      have cA := (b0.cell i).trans (uC_get 8 (dg X) i h8)
      have cB := (b1.cell i).trans (uC_get 8 (dg Y) i h8)
      have cC := (b2.cell i).trans (uC_get 9 (lowS (X + Y) i) i (by omega))
      have fC := b2.frozen i
      have w2 : (((cyA X Y i : Nat) : Int) + ((dg X i : Nat) : Int) + ((dg Y i : Nat) : Int)) % 4294967296 = ((dg (X + Y) i : Nat) : Int) := by rw [HA.out i]; omega
      have w3 : Hid ((((cyA X Y i : Nat) : Int) + ((dg X i : Nat) : Int) + ((dg Y i : Nat) : Int)) / 4294967296 = ((cyA X Y (i + 1) : Nat) : Int)) := by show (((cyA X Y i : Nat) : Int) + ((dg X i : Nat) : Int) + ((dg Y i : Nat) : Int)) / 4294967296 = ((cyA X Y (i + 1) : Nat) : Int); rw [cyA_succ]; omega
      have b2n : Blk (wr.setCell ⟨gy + 1, i, none⟩ (.int .u32 ((dg (X + Y) i : Nat) : Int))) (gy + 1) (uC 9 (lowS (X + Y) (i + 1))) 168 := (b2.setCell i _).to (by rw [uC_set, lowS_step])
      have b0n := b0.setOther (show ¬ gx = gy + 1 by omega) i (.int .u32 ((dg (X + Y) i : Nat) : Int))
      have b1n := b1.setOther (show ¬ gy = gy + 1 by omega) i (.int .u32 ((dg (X + Y) i : Nat) : Int))
      have b3n := b3.setOther (show ¬ w.heap.size + 2 = gy + 1 by omega) i (.int .u32 ((dg (X + Y) i : Nat) : Int))
      have cn := c0.setNew (show w.heap.size ≤ gy + 1 by omega) i (.int .u32 ((dg (X + Y) i : Nat) : Int))
      clear b0 b1 b2 b3 c0 HA
      go_wp2_with fail
      go_region
      go_wp2_with fail
      exact ⟨⟨i + 1, by omega, by go_num, by rw [w3.out], b0n.drew, b1n.drew, b2n.drew, b3n.drew, cn.drew⟩, by simp [intOf]; omega⟩
    · have h9 : i = 8 := by omega
      subst h9
      have e8 : dg (X + Y) 8 = cyA X Y 8 := by
        rw [HA.out 8, dg_high X 8 (by omega) (by unfold LN at lX; omega), dg_high Y 8 (by omega) (by unfold LN at lY; omega)]
        omega
      have cC := (b2.cell 8).trans (uC_get 9 (lowS (X + Y) 8) 8 (by omega))
      have fC := b2.frozen 8
      have w4 : ((cyA X Y 8 : Nat) : Int) % 4294967296 = ((dg (X + Y) 8 : Nat) : Int) := by rw [e8]; omega
      have b2n : Blk (wr.setCell ⟨gy + 1, 8, none⟩ (.int .u32 ((dg (X + Y) 8 : Nat) : Int))) (gy + 1) (uC 9 (lowS (X + Y) 9)) 168 := (b2.setCell 8 _).to (by rw [uC_set, lowS_step])
      have b3n := b3.setOther (show ¬ w.heap.size + 2 = gy + 1 by omega) 8 (.int .u32 ((dg (X + Y) 8 : Nat) : Int))
      have cn := c0.setNew (show w.heap.size ≤ gy + 1 by omega) 8 (.int .u32 ((dg (X + Y) 8 : Nat) : Int))
      have hbd : ∀ i, i < 9 → lowS (X + Y) 9 i < 4294967296 := fun i hi => by unfold lowS; rw [if_pos hi]; exact dg_lt _ _
      have hnv : Hid (nv (lowS (X + Y) 9) 0 9 % LN = q) := by
        show nv (lowS (X + Y) 9) 0 9 % LN = q
        rw [nv_congr (lowS (X + Y) 9) (dg (X + Y)) 9 0 (fun i _ h => if_pos (by omega)), nv_dg, ← HQ.out]
        congr 1
        rw [Nat.pow_zero, Nat.div_one]
        exact Nat.mod_eq_of_lt (by unfold LN at lX lY; omega)
      clear b0 b1 b2 b3 c0 HA
      rw [e8] at b2n b3n cn
      clear e8 w4
      go_wp2_with fail
      refine (mod_r (gy + 1) 0 9 9 (lowS (X + Y) 9) (by decide) _ (Us.of b2n hbd)).mono ?_
      rintro e v4 ⟨rfl, k⟩
      rw [hnv.out]
      replace b3n := b3n.chg k (by simp)
      replace cn := cn.trans1 k
      clear k
      go_wp2_with fail
      refine (Back_r q _).mono ?_
      rintro e v5 ⟨rfl, k⟩
      replace b3n := b3n.chg k (by simp)
      replace cn := cn.trans1 k
      go_wp2_with (refine wpList_store_row rfl 24 _ _ rfl (w.heap.size + 2) _ rfl rfl 24 _ b3n feInfo rfl (feC_one _) ?_)
      exact bodyPost_ret (results_cell_row Tryz.results85 _ _ (w.heap.size + 2) 24 (feC (q : Int)) (0, 0) _ rfl (Blk.setRow b3n _) Tryz.underlying24 rfl feInfo) rfl ⟨rfl, cn.setRowNew (by omega) _⟩
end Go.Proofs.YtoafcaieifjoiaaGreat

/- rimeref02.mul. -/
namespace Go.Proofs.YtoafcaieifjoiaaGreat
open Go.RowKit N

/-- The cells within a row of the product: below place m F's digits, from it on A's. -/
def rowC (F A m : Nat) : Nat → Nat := fun j => if j < m then dg F j else dg A j
theorem rowC_at (F A m : Nat) : rowC F A m m = dg A m := if_neg (by omega)
theorem dg_low (F p m j : Nat) (h : j < m) : dg (F + 4294967296 ^ m * p) j = dg F j := by
  unfold dg
  obtain ⟨r, rfl⟩ : ∃ r, m = j + (r + 1) := ⟨m - j - 1, by omega⟩
  rw [Nat.pow_add, Nat.mul_assoc, Nat.add_mul_div_left _ _ (Nat.pow_pos (by decide)), Nat.pow_succ, Nat.mul_comm (4294967296 ^ r), Nat.mul_assoc, Nat.add_mul_mod_self_left]
/-- One step within a row. -/
theorem row_step (F A m c p : Nat) (h : F / 4294967296 ^ m = A / 4294967296 ^ m + c) :
    dg (F + 4294967296 ^ m * p) m = (c + dg A m + p) % 4294967296 ∧ (F + 4294967296 ^ m * p) / 4294967296 ^ (m + 1) = A / 4294967296 ^ (m + 1) + (c + dg A m + p) / 4294967296 := by
  unfold dg
  have hP : 0 < 4294967296 ^ m := Nat.pow_pos (by decide)
  rw [Nat.pow_succ, ← Nat.div_div_eq_div_mul, ← Nat.div_div_eq_div_mul, Nat.add_mul_div_left _ _ hP, h]
  generalize A / 4294967296 ^ m = a
  omega
theorem row_cells (F A m c p : Nat) (h : F / 4294967296 ^ m = A / 4294967296 ^ m + c) : upd (rowC F A m) m ((c + dg A m + p) % 4294967296) = rowC (F + 4294967296 ^ m * p) A (m + 1) := by
  funext j
  unfold upd rowC
  by_cases e : j = m
  · subst e; rw [if_pos rfl, if_pos (by omega), (row_step F A j c p h).1]
  · rw [if_neg e]
    by_cases e2 : j < m
    · rw [if_pos e2, if_pos (by omega), dg_low F p m j e2]
    · rw [if_neg e2, if_neg (by omega)]
theorem dg_zero_high (A m j : Nat) (h : A < 4294967296 ^ m) (hj : m ≤ j) : dg A j = 0 := by
  unfold dg
  have : 4294967296 ^ m ≤ 4294967296 ^ j := Nat.pow_le_pow_right (by decide) hj
  rw [Nat.div_eq_of_lt (by omega)]
/-- The last cell of a row. -/
theorem row_end (F A m c : Nat) (hA : A < 4294967296 ^ m) (hF : F / 4294967296 ^ m = A / 4294967296 ^ m + c) (hc : c < 4294967296) : upd (rowC F A m) m c = dg F := by
  have hAz : A / 4294967296 ^ m = 0 := Nat.div_eq_of_lt hA
  rw [hAz, Nat.zero_add] at hF
  have hP : 0 < 4294967296 ^ m := Nat.pow_pos (by decide)
  have hFl : F < 4294967296 ^ (m + 1) := by
    have := Nat.lt_mul_div_succ F hP
    rw [hF] at this
    rw [Nat.pow_succ]
    exact Nat.lt_of_lt_of_le this (Nat.mul_le_mul_left _ (by omega))
  funext j
  unfold upd rowC
  by_cases e : j = m
  · subst e; rw [if_pos rfl]; unfold dg; rw [hF]; omega
  · rw [if_neg e]
    by_cases e2 : j < m
    · rw [if_pos e2]
    · rw [if_neg e2, dg_zero_high A m j hA (by omega), dg_zero_high F (m + 1) j hFl (by omega)]
theorem mod_succ (X i : Nat) : X % 4294967296 ^ (i + 1) = X % 4294967296 ^ i + 4294967296 ^ i * dg X i := by
  rw [Nat.pow_succ, Nat.mod_mul]; rfl
theorem row_bd (X Y i : Nat) (hY : Y < 4294967296 ^ 8) : X % 4294967296 ^ i * Y < 4294967296 ^ (i + 8) := by
  rw [Nat.pow_add]
  have hP : 0 < 4294967296 ^ i := Nat.pow_pos (by decide)
  have h1 := Nat.mod_lt X hP
  exact Nat.mul_lt_mul'' h1 hY
theorem p32 (x y : Nat) (hx : x < 4294967296) (hy : y < 4294967296) : x * y ≤ 18446744065119617025 := Nat.mul_le_mul (show x ≤ 4294967295 by omega) (show y ≤ 4294967295 by omega)

set_option maxHeartbeats 4000000 in
set_option maxRecDepth 100000 in
theorem mul_r (X Y : Nat) (hX : X < 115792089237316195423570985008687907853269984665640564039457584007913129639936) (hY : Y < 115792089237316195423570985008687907853269984665640564039457584007913129639936) (w : World) :
    Calls Tryz.prog 127 #[.agg (dC X), .agg (dC Y)] w fun e w' => e = .returned (.agg (dC (X * Y % LN))) ∧ Chg w w' [] := by
  have hmk : ∀ w : World, (Instr.makeSlice 106 (.int .i64 16) (.int .i64 16)).run Tryz.prog w = .ok (.slice (some ⟨w.heap.size, 0, none⟩) 16 16) (w.alloc (.cells (uC 16 fun _ => 0) 168)) := fun w => mkU 16 (by decide) w
  have B0 : Blk ((((w.alloc (.cells (dC X) 190)).alloc (.cells (dC Y) 190)).alloc (.cells z8u 190)).alloc (.cells (uC 16 fun _ => 0) 168)) w.heap.size (dC X) 190 := (((Blk.new w (dC X) 190).alloc _).alloc _).alloc _
  have B1 : Blk ((((w.alloc (.cells (dC X) 190)).alloc (.cells (dC Y) 190)).alloc (.cells z8u 190)).alloc (.cells (uC 16 fun _ => 0) 168)) (w.heap.size + 1) (dC Y) 190 := by have h := ((Blk.new (w.alloc (.cells (dC X) 190)) (dC Y) 190).alloc (.cells z8u 190)).alloc (.cells (uC 16 fun _ => 0) 168); simpa using h
  have B2 : Blk ((((w.alloc (.cells (dC X) 190)).alloc (.cells (dC Y) 190)).alloc (.cells z8u 190)).alloc (.cells (uC 16 fun _ => 0) 168)) (w.heap.size + 2) z8u 190 := by have h := (Blk.new ((w.alloc (.cells (dC X) 190)).alloc (.cells (dC Y) 190)) z8u 190).alloc (.cells (uC 16 fun _ => 0) 168); simpa using h
  have B3 : Blk ((((w.alloc (.cells (dC X) 190)).alloc (.cells (dC Y) 190)).alloc (.cells z8u 190)).alloc (.cells (uC 16 fun _ => 0) 168)) (w.heap.size + 3) (uC 16 fun _ => 0) 168 := by have h := Blk.new (((w.alloc (.cells (dC X) 190)).alloc (.cells (dC Y) 190)).alloc (.cells z8u 190)) (uC 16 fun _ => 0) 168; simpa using h
  have C0 : Chg w ((((w.alloc (.cells (dC X) 190)).alloc (.cells (dC Y) 190)).alloc (.cells z8u 190)).alloc (.cells (uC 16 fun _ => 0) 168)) [] := ((((Chg.refl w []).alloc _).alloc _).alloc _).alloc _
  have B3' := B3.to (uC_congr 16 _ (dg (X % 4294967296 ^ 0 * Y)) (fun i _ => by simp [dg, Nat.mod_one]))
  go_enter Tryz.func127, Tryz.ntmps127
  go_wp2_with fail
  clear hmk B3
  go_loopw [6] (fun t wr => ∃ i : Nat, i ≤ 8 ∧ t = .int .i64 (i : Int) ∧ Blk wr w.heap.size (dC X) 190 ∧ Blk wr (w.heap.size + 1) (dC Y) 190 ∧ Blk wr (w.heap.size + 2) z8u 190 ∧ Blk wr (w.heap.size + 3) (uC 16 (dg (X % 4294967296 ^ i * Y))) 168 ∧ Chg w wr []) (fun t _ => (8 - intOf t).toNat)
  case atStart => exact ⟨0, by omega, rfl, B0, B1, B2, B3', C0⟩
  case round =>
    obtain ⟨i, hi, rfl, b0, b1, b2, b3, c0⟩ := hrel
    clear B0 B1 B2 B3' C0
    by_cases h8 : i < 8
    · have hI : (i : Int) < 8 := by omega
      have hAb : Hid (X % 4294967296 ^ i * Y < 4294967296 ^ (i + 8)) := row_bd X Y i (by simpa using hY)
      have hAn : Hid (X % 4294967296 ^ i * Y + 4294967296 ^ i * (dg X i * (Y % 4294967296 ^ 8)) = X % 4294967296 ^ (i + 1) * Y) := by
        show X % 4294967296 ^ i * Y + 4294967296 ^ i * (dg X i * (Y % 4294967296 ^ 8)) = X % 4294967296 ^ (i + 1) * Y
        rw [Nat.mod_eq_of_lt (show Y < 4294967296 ^ 8 by simpa using hY), mod_succ, Nat.add_mul, Nat.mul_assoc]
      have cX := (b0.cell i).trans (uC_get 8 (dg X) i h8)
      have hx := dg_lt X i
      generalize X % 4294967296 ^ i * Y = A at *
      go_wp2_with fail
      go_loopw [8, 7] (fun t c wr => ∃ (k cy : Nat), k ≤ 8 ∧ t = .int .i64 (k : Int) ∧ c = .int .u64 ((cy : Nat) : Int) ∧ cy < 4294967296 ∧ Hid ((A + 4294967296 ^ i * (dg X i * (Y % 4294967296 ^ k))) / 4294967296 ^ (i + k) = A / 4294967296 ^ (i + k) + cy) ∧ Blk wr w.heap.size (dC X) 190 ∧ Blk wr (w.heap.size + 1) (dC Y) 190 ∧ Blk wr (w.heap.size + 2) z8u 190 ∧ Blk wr (w.heap.size + 3) (uC 16 (rowC (A + 4294967296 ^ i * (dg X i * (Y % 4294967296 ^ k))) A (i + k))) 168 ∧ Chg w wr []) (fun t _ _ => (8 - intOf t).toNat)
      case atStart =>
        refine ⟨0, 0, by omega, rfl, rfl, by omega, ?_, b0, b1, b2, b3.to (uC_congr 16 _ _ (fun j _ => ?_)), c0⟩
        · show (A + 4294967296 ^ i * (dg X i * (Y % 4294967296 ^ 0))) / 4294967296 ^ (i + 0) = A / 4294967296 ^ (i + 0) + 0
          simp [Nat.mod_one]
        · unfold rowC
          simp [Nat.mod_one]
      case round =>
        obtain ⟨k, cy, hk, rfl, rfl, hcy, hF, d0, d1, d2, d3, e0⟩ := hrel
        clear b0 b1 b2 b3 c0 cX
        by_cases hk8 : k < 8
        · have hKI : (k : Int) < 8 := by omega
          have hIK : ((i : Nat) : Int) + ((k : Nat) : Int) = ((i + k : Nat) : Int) := by omega
          have hIKl : ((i + k : Nat) : Int) < 16 := by omega
          have hy := dg_lt Y k
          have cX := (d0.cell i).trans (uC_get 8 (dg X) i h8)
          have cY := (d1.cell k).trans (uC_get 8 (dg Y) k hk8)
          have cL := (d3.cell (i + k)).trans ((uC_get 16 _ (i + k) (by omega)).trans (by rw [rowC_at]))
          have fL := d3.frozen (i + k)
          have hp := p32 (dg X i) (dg Y k) hx hy
          have hd := dg_lt A (i + k)
          have hn : Hid (A + 4294967296 ^ i * (dg X i * (Y % 4294967296 ^ (k + 1))) = A + 4294967296 ^ i * (dg X i * (Y % 4294967296 ^ k)) + 4294967296 ^ (i + k) * (dg X i * dg Y k)) := by
            show A + 4294967296 ^ i * (dg X i * (Y % 4294967296 ^ (k + 1))) = A + 4294967296 ^ i * (dg X i * (Y % 4294967296 ^ k)) + 4294967296 ^ (i + k) * (dg X i * dg Y k)
            rw [mod_succ, Nat.mul_add, Nat.mul_add, Nat.pow_add, ← Nat.add_assoc]
            congr 1
            rw [Nat.mul_assoc]
            congr 1
            rw [Nat.mul_left_comm]
          have hrc := row_cells _ A (i + k) cy (dg X i * dg Y k) hF.out
          have hrs := row_step _ A (i + k) cy (dg X i * dg Y k) hF.out
          rw [← hn.out] at hrc hrs
          have hw : IntKind.u64.wrap (((dg X i : Nat) : Int) * ((dg Y k : Nat) : Int)) = ((dg X i * dg Y k : Nat) : Int) := by rw [← Int.natCast_mul, IntKind.wrap_u64]; omega
          generalize dg X i * dg Y k = pr at *
          obtain ⟨lo, hlo⟩ : ∃ lo, lo = (cy + dg A (i + k) + pr) % 4294967296 := ⟨_, rfl⟩
          have w2 : (((cy : Nat) : Int) + ((dg A (i + k) : Nat) : Int) + ((pr : Nat) : Int)) % 4294967296 = ((lo : Nat) : Int) := by omega
          rw [← hlo] at hrc
          have w3 : Hid ((((cy : Nat) : Int) + ((dg A (i + k) : Nat) : Int) + ((pr : Nat) : Int)) / 4294967296 = (((cy + dg A (i + k) + pr) / 4294967296 : Nat) : Int)) := (by omega : (((cy : Nat) : Int) + ((dg A (i + k) : Nat) : Int) + ((pr : Nat) : Int)) / 4294967296 = (((cy + dg A (i + k) + pr) / 4294967296 : Nat) : Int))
          have hcn : (cy + dg A (i + k) + pr) / 4294967296 < 4294967296 := by omega
          have hFn : Hid ((A + 4294967296 ^ i * (dg X i * (Y % 4294967296 ^ (k + 1)))) / 4294967296 ^ (i + (k + 1)) = A / 4294967296 ^ (i + (k + 1)) + (cy + dg A (i + k) + pr) / 4294967296) := hrs.2
          clear hrs hn hF
          have d3n : Blk (wr.setCell ⟨w.heap.size + 3, i + k, none⟩ (.int .u32 ((lo : Nat) : Int))) (w.heap.size + 3) (uC 16 (rowC (A + 4294967296 ^ i * (dg X i * (Y % 4294967296 ^ (k + 1)))) A (i + (k + 1)))) 168 := (d3.setCell (i + k) _).to (by rw [uC_set, hrc]; rfl)
          have d0n := d0.setOther (show ¬ w.heap.size = w.heap.size + 3 by omega) (i + k) (.int .u32 ((lo : Nat) : Int))
          have d1n := d1.setOther (show ¬ w.heap.size + 1 = w.heap.size + 3 by omega) (i + k) (.int .u32 ((lo : Nat) : Int))
          have d2n := d2.setOther (show ¬ w.heap.size + 2 = w.heap.size + 3 by omega) (i + k) (.int .u32 ((lo : Nat) : Int))
          have en := e0.setNew (show w.heap.size ≤ w.heap.size + 3 by omega) (i + k) (.int .u32 ((lo : Nat) : Int))
          clear d0 d1 d2 d3 e0 hrc hlo
          generalize hsk : i + k = s at *
          clear hsk
          go_wp2_with fail
          go_region
          go_wp2_with fail
          exact ⟨⟨k + 1, _, by omega, by go_num, by rw [w3.out], hcn, hFn, d0n.drew, d1n.drew, d2n.drew, d3n.drew, en.drew⟩, by simp [intOf]; omega⟩
        · have hk9 : k = 8 := by omega
          subst hk9
          have hIK : ((i : Nat) : Int) + 8 = ((i + 8 : Nat) : Int) := by omega
          have hIKl : ((i + 8 : Nat) : Int) < 16 := by omega
          have cL := (d3.cell (i + 8)).trans (uC_get 16 _ (i + 8) (by omega))
          have fL := d3.frozen (i + 8)
          have hre := row_end _ A (i + 8) cy hAb.out hF.out hcy
          rw [hAn.out] at hre
          have w2 : ((cy : Nat) : Int) % 4294967296 = ((cy : Nat) : Int) := by omega
          have d3n : Blk (wr.setCell ⟨w.heap.size + 3, i + 8, none⟩ (.int .u32 ((cy : Nat) : Int))) (w.heap.size + 3) (uC 16 (dg (X % 4294967296 ^ (i + 1) * Y))) 168 := (d3.setCell (i + 8) _).to (by rw [uC_set, hAn.out, hre])
          have d0n := d0.setOther (show ¬ w.heap.size = w.heap.size + 3 by omega) (i + 8) (.int .u32 ((cy : Nat) : Int))
          have d1n := d1.setOther (show ¬ w.heap.size + 1 = w.heap.size + 3 by omega) (i + 8) (.int .u32 ((cy : Nat) : Int))
          have d2n := d2.setOther (show ¬ w.heap.size + 2 = w.heap.size + 3 by omega) (i + 8) (.int .u32 ((cy : Nat) : Int))
          have en := e0.setNew (show w.heap.size ≤ w.heap.size + 3 by omega) (i + 8) (.int .u32 ((cy : Nat) : Int))
          clear d0 d1 d2 d3 e0 hre hF hAb hAn
          generalize hsk : i + 8 = s at *
          clear hsk
          go_wp2_with fail
          exact ⟨⟨i + 1, by omega, by go_num, d0n, d1n, d2n, d3n, en⟩, by simp [intOf]; omega⟩
    · have h9 : i = 8 := by omega
      subst h9
      rw [Nat.mod_eq_of_lt (show X < 4294967296 ^ 8 by simpa using hX)] at b3
      have hnv : Hid (nv (dg (X * Y)) 0 16 = X * Y) := by
        show nv (dg (X * Y)) 0 16 = X * Y
        rw [nv_dg, Nat.pow_zero, Nat.div_one]
        refine Nat.mod_eq_of_lt ?_
        have := Nat.mul_lt_mul'' hX hY
        exact Nat.lt_of_lt_of_le this (by decide)
      go_wp2_with fail
      refine (mod_r (w.heap.size + 3) 0 16 16 (dg (X * Y)) (by decide) _ (Us.of b3 (fun i _ => dg_lt _ _))).mono ?_
      rintro e v4 ⟨rfl, k⟩
      rw [hnv.out]
      replace b2 := b2.chg k (by simp)
      replace c0 := c0.trans1 k
      go_wp2_with (refine wpList_store_row rfl 190 _ _ rfl (w.heap.size + 2) _ rfl rfl 190 _ b2 (by rw [dC_size]; exact NumInfo) (by rw [dC_size]; rfl) (dC_one _) ?_)
      exact bodyPost_ret (results_cell_row Tryz.results127 _ _ (w.heap.size + 2) 190 (dC (X * Y % LN)) (0, 0) _ rfl (Blk.setRow b2 _) Tryz.underlying190 rfl (by rw [dC_size]; exact NumInfo)) rfl ⟨rfl, c0.setRowNew (by omega) _⟩
end Go.Proofs.YtoafcaieifjoiaaGreat

/- rimeref02.Neg, Sub, Mul, MulAdd, IsZero, Compare. -/
namespace Go.Proofs.YtoafcaieifjoiaaGreat
open Go.RowKit N

def adP (x y : Nat) : Nat := (x + y) % LN
def mlP (x y : Nat) : Nat := x * y % LN
def ngP (x : Nat) : Nat := (LN - x % LN) % LN
theorem LN_256 : LN < 115792089237316195423570985008687907853269984665640564039457584007913129639936 := by unfold LN; decide
theorem mlP_lt (x y : Nat) : mlP x y < 115792089237316195423570985008687907853269984665640564039457584007913129639936 := Nat.lt_trans (Nat.mod_lt _ LN_pos) LN_256
theorem ngP_lt (x : Nat) : ngP x < 115792089237316195423570985008687907853269984665640564039457584007913129639936 := Nat.lt_trans (Nat.mod_lt _ LN_pos) LN_256
theorem modL_lt (x : Nat) : x % LN < 115792089237316195423570985008687907853269984665640564039457584007913129639936 := Nat.lt_trans (Nat.mod_lt _ LN_pos) LN_256
theorem Add_p (n m : Nat) (hn : n < 115792089237316195423570985008687907853269984665640564039457584007913129639936) (hm : m < 115792089237316195423570985008687907853269984665640564039457584007913129639936) (w : World) : Calls Tryz.prog 85 #[fe (n : Int), fe (m : Int)] w fun e w' => e = .returned (fe ((adP n m : Nat) : Int)) ∧ Chg w w' [] := Add_r n m hn hm w
theorem mul_p (x y : Nat) (hn : x < 115792089237316195423570985008687907853269984665640564039457584007913129639936) (hm : y < 115792089237316195423570985008687907853269984665640564039457584007913129639936) (w : World) : Calls Tryz.prog 127 #[.agg (dC x), .agg (dC y)] w fun e w' => e = .returned (.agg (dC (mlP x y))) ∧ Chg w w' [] := mul_r x y hn hm w
theorem u32InfoE : ∃ i, Tryz.prog.info? 168 = some i := Option.isSome_iff_exists.1 (by kernel_rfl)
theorem u32Cells : Tryz.prog.cellsOf 168 = 1 := by kernel_rfl
theorem NumGuard : Tryz.prog.eqGuardType Tryz.prog.depth 190 = false := by kernel_rfl
def eqD (x y : Nat) : Bool := (List.range 8).all fun i => ((dg x i : Nat) : Int) == ((dg y i : Nat) : Int)
theorem eqD_eq {x y : Nat} (hx : x < 115792089237316195423570985008687907853269984665640564039457584007913129639936) (hy : y < 115792089237316195423570985008687907853269984665640564039457584007913129639936) : eqD x y = decide (x = y) := by
  cases h : eqD x y
  · symm
    rw [decide_eq_false_iff_not]
    intro e
    rw [e] at h
    simp [eqD] at h
  · symm
    rw [decide_eq_true_eq]
    unfold eqD at h
    rw [List.all_eq_true] at h
    have hb : ∀ i, i < 8 → dg x i = dg y i := fun i hi => by have := h i (by simpa using hi); simp at this; omega
    rw [← nv_dg8 x hx, ← nv_dg8 y hy]
    exact nv_congr _ _ 8 0 (fun i _ hi => hb i (by omega))
@[go_sem] theorem eq_Num (x y : Nat) (w : World) : (Op.equalIn 10000 190 (.agg (dC x)) (.agg (dC y))).run Tryz.prog w = .ok (eqD x y) w := by
  obtain ⟨i, hi⟩ := u32InfoE
  rw [show (10000 : Nat) = 9998 + 1 + 1 from rfl, run_equalIn_array w 9999 _ _ Tryz.underlying190 hi, u32Cells]
  exact eqItems_ints w 9998 Tryz.underlying168 _ _ (fun i => ((dg x i : Nat) : Int)) (fun i => ((dg y i : Nat) : Int)) (List.range 8) (fun j hj => ⟨uC_get 8 _ j (by simpa using hj), uC_get 8 _ j (by simpa using hj)⟩)

set_option maxHeartbeats 4000000 in
set_option maxRecDepth 100000 in
theorem Mul_r (n m : Nat) (hn : n < 115792089237316195423570985008687907853269984665640564039457584007913129639936) (hm : m < 115792089237316195423570985008687907853269984665640564039457584007913129639936) (w : World) :
    Calls Tryz.prog 99 #[fe (n : Int), fe (m : Int)] w fun e w' => e = .returned (fe (((mlP (n % LN) (m % LN) : Nat)) : Int)) ∧ Chg w w' [] := by
  have F0 : Blk (((w.alloc (.cells (feC (n : Int)) 24)).alloc (.cells (feC (m : Int)) 24)).alloc (.cells z32 24)) w.heap.size (feC (n : Int)) 24 := by have h := (((Blk.new w (feC (n : Int)) 24).alloc (.cells (feC (m : Int)) 24)).alloc (.cells z32 24)); simpa using h
  have F1 : Blk (((w.alloc (.cells (feC (n : Int)) 24)).alloc (.cells (feC (m : Int)) 24)).alloc (.cells z32 24)) (w.heap.size + 1) (feC (m : Int)) 24 := by have h := ((Blk.new (w.alloc (.cells (feC (n : Int)) 24)) (feC (m : Int)) 24).alloc (.cells z32 24)); simpa using h
  have F2 : Blk (((w.alloc (.cells (feC (n : Int)) 24)).alloc (.cells (feC (m : Int)) 24)).alloc (.cells z32 24)) (w.heap.size + 2) z32 24 := by have h := (Blk.new ((w.alloc (.cells (feC (n : Int)) 24)).alloc (.cells (feC (m : Int)) 24)) z32 24); simpa using h
  have CC : Chg w (((w.alloc (.cells (feC (n : Int)) 24)).alloc (.cells (feC (m : Int)) 24)).alloc (.cells z32 24)) [] := ((((Chg.refl w []).alloc (.cells (feC (n : Int)) 24)).alloc (.cells (feC (m : Int)) 24)).alloc (.cells z32 24))
  go_enter Tryz.func99, Tryz.ntmps99
  go_wp2_with fail
  generalize hv0 : (((w.alloc (.cells (feC (n : Int)) 24)).alloc (.cells (feC (m : Int)) 24)).alloc (.cells z32 24)) = v0 at F0 F1 F2 CC
  change Code.wp _ _ _ _ (((w.alloc (.cells (feC (n : Int)) 24)).alloc (.cells (feC (m : Int)) 24)).alloc (.cells z32 24))
  rw [hv0]
  clear hv0
  refine wp_region_held_drew (S := fun w' => Chg v0 w' [w.heap.size + 2]) (by kernel_rfl) ((Chg.refl v0 _).drew) (fun hHeld => ?_)
  refine take_load 0 (some 5) (feC (n : Int)) rfl (by kernel_rfl) (by kernel_rfl) (by kernel_rfl) (fun _ _ _ h => h) rfl rfl 24 _ rfl w.heap.size rfl 24 _ (fun w h => F0.chg h (by simp)) Tryz.underlying24 rfl (by first | exact feInfo | kernel_rfl) hHeld ?_
  try simp only [Act.put, sA1, sA2, sA3]
  refine take_load 2 (some 7) (feC (m : Int)) rfl (by kernel_rfl) (by kernel_rfl) (by kernel_rfl) (fun _ _ _ h => h) rfl rfl 24 _ rfl (w.heap.size + 1) rfl 24 _ (fun w h => F1.chg h (by simp)) Tryz.underlying24 rfl (by first | exact feInfo | kernel_rfl) hHeld ?_
  try simp only [Act.put, sA1, sA2, sA3]
  refine wpAnyH_ready (rs := [1]) (by kernel_rfl) (by simp) ?_
  refine AllReadyH.cons (o := _) rfl (fun K hK => ?_) ?_
  ·
    go_simp
    refine (Value_r n hn _).mono ?_
    rintro e x1 ⟨rfl, k⟩
    replace F2 := F2.drew.chg k (by simp)
    go_wp2_with fail
    refine hK.out _ _ (hHeld.trans1 k.wide) (fun hHeld => ?_)
    clear hK K
    try simp only [Act.put, sA1, sA2, sA3]
    refine wpAnyH_ready (rs := [3]) (by kernel_rfl) (by simp) ?_
    refine AllReadyH.cons (o := _) rfl (fun K hK => ?_) ?_
    ·
      go_simp
      refine (Value_r m hm _).mono ?_
      rintro e x3 ⟨rfl, k⟩
      replace F2 := F2.chg k (by simp)
      go_wp2_with fail
      refine hK.out _ _ (hHeld.trans1 k.wide) (fun hHeld => ?_)
      clear hK K
      try simp only [Act.put, sA1, sA2, sA3]
      refine wpAnyH_ready (rs := [4]) (by kernel_rfl) (by simp) ?_
      refine AllReadyH.cons (o := _) rfl (fun K hK => ?_) ?_
      ·
        go_simp
        refine (mul_p _ _ (modL_lt _) (modL_lt _) _).mono ?_
        rintro e x4 ⟨rfl, k⟩
        replace F2 := F2.chg k (by simp)
        go_wp2_with fail
        refine hK.out _ _ (hHeld.trans1 k.wide) (fun hHeld => ?_)
        clear hK K
        try simp only [Act.put, sA1, sA2, sA3]
        refine wpAnyH_ready (rs := [5]) (by kernel_rfl) (by simp) ?_
        refine AllReadyH.cons (o := _) rfl (fun K hK => ?_) ?_
        ·
          go_simp
          refine (Back_r _ _).mono ?_
          rintro e x5 ⟨rfl, k⟩
          replace F2 := F2.chg k (by simp)
          go_wp2_with fail
          refine hK.out _ _ (hHeld.trans1 k.wide) (fun hHeld => ?_)
          clear hK K
          try simp only [Act.put, sA1, sA2, sA3]
          refine wpAnyH_ready (rs := [6]) (by kernel_rfl) (by simp) ?_
          refine AllReadyH.cons (o := _) rfl (fun K hK => ?_) ?_
          ·
            rw [if_pos (by rfl)]
            refine wp_store_row 24 _ _ rfl (w.heap.size + 2) _ rfl rfl 24 _ F2 feInfo rfl (feC_one _) ?_
            refine hK.out _ _ (hHeld.trans1 (Chg.of (gb_setRow (gb_refl _ _) _))) (fun hHeld => ?_)
            clear hK K
            try simp only [Act.put, sA1, sA2, sA3]
            refine wpAnyH_done (by kernel_rfl) ?_ _
            go_wp2_with fail
            exact bodyPost_ret (results_cell_row Tryz.results99 _ _ (w.heap.size + 2) 24 (feC (((mlP (n % LN) (m % LN) : Nat)) : Int)) (0, 0) _ rfl (Blk.setRow F2 _) Tryz.underlying24 rfl feInfo) rfl ⟨rfl, CC.new hHeld (by omega)⟩
          exact AllReadyH.nil
        exact AllReadyH.nil
      exact AllReadyH.nil
    exact AllReadyH.nil
  exact AllReadyH.nil
set_option maxHeartbeats 4000000 in
set_option maxRecDepth 100000 in
theorem MulAdd_r (n m c : Nat) (hn : n < 115792089237316195423570985008687907853269984665640564039457584007913129639936) (hm : m < 115792089237316195423570985008687907853269984665640564039457584007913129639936) (hc : c < 115792089237316195423570985008687907853269984665640564039457584007913129639936) (w : World) :
    Calls Tryz.prog 48 #[fe (n : Int), fe (m : Int), fe (c : Int)] w fun e w' => e = .returned (fe (((adP (mlP (n % LN) (m % LN)) c : Nat)) : Int)) ∧ Chg w w' [] := by
  have F0 : Blk ((((w.alloc (.cells (feC (n : Int)) 24)).alloc (.cells (feC (m : Int)) 24)).alloc (.cells (feC (c : Int)) 24)).alloc (.cells z32 24)) w.heap.size (feC (n : Int)) 24 := by have h := ((((Blk.new w (feC (n : Int)) 24).alloc (.cells (feC (m : Int)) 24)).alloc (.cells (feC (c : Int)) 24)).alloc (.cells z32 24)); simpa using h
  have F1 : Blk ((((w.alloc (.cells (feC (n : Int)) 24)).alloc (.cells (feC (m : Int)) 24)).alloc (.cells (feC (c : Int)) 24)).alloc (.cells z32 24)) (w.heap.size + 1) (feC (m : Int)) 24 := by have h := (((Blk.new (w.alloc (.cells (feC (n : Int)) 24)) (feC (m : Int)) 24).alloc (.cells (feC (c : Int)) 24)).alloc (.cells z32 24)); simpa using h
  have F2 : Blk ((((w.alloc (.cells (feC (n : Int)) 24)).alloc (.cells (feC (m : Int)) 24)).alloc (.cells (feC (c : Int)) 24)).alloc (.cells z32 24)) (w.heap.size + 2) (feC (c : Int)) 24 := by have h := ((Blk.new ((w.alloc (.cells (feC (n : Int)) 24)).alloc (.cells (feC (m : Int)) 24)) (feC (c : Int)) 24).alloc (.cells z32 24)); simpa using h
  have F3 : Blk ((((w.alloc (.cells (feC (n : Int)) 24)).alloc (.cells (feC (m : Int)) 24)).alloc (.cells (feC (c : Int)) 24)).alloc (.cells z32 24)) (w.heap.size + 3) z32 24 := by have h := (Blk.new (((w.alloc (.cells (feC (n : Int)) 24)).alloc (.cells (feC (m : Int)) 24)).alloc (.cells (feC (c : Int)) 24)) z32 24); simpa using h
  have CC : Chg w ((((w.alloc (.cells (feC (n : Int)) 24)).alloc (.cells (feC (m : Int)) 24)).alloc (.cells (feC (c : Int)) 24)).alloc (.cells z32 24)) [] := (((((Chg.refl w []).alloc (.cells (feC (n : Int)) 24)).alloc (.cells (feC (m : Int)) 24)).alloc (.cells (feC (c : Int)) 24)).alloc (.cells z32 24))
  go_enter Tryz.func48, Tryz.ntmps48
  go_wp2_with fail
  generalize hv0 : ((((w.alloc (.cells (feC (n : Int)) 24)).alloc (.cells (feC (m : Int)) 24)).alloc (.cells (feC (c : Int)) 24)).alloc (.cells z32 24)) = v0 at F0 F1 F2 F3 CC
  change Code.wp _ _ _ _ ((((w.alloc (.cells (feC (n : Int)) 24)).alloc (.cells (feC (m : Int)) 24)).alloc (.cells (feC (c : Int)) 24)).alloc (.cells z32 24))
  rw [hv0]
  clear hv0
  refine wp_region_held_drew (S := fun w' => Chg v0 w' [w.heap.size + 3]) (by kernel_rfl) ((Chg.refl v0 _).drew) (fun hHeld => ?_)
  refine take_load 0 (some 7) (feC (n : Int)) rfl (by kernel_rfl) (by kernel_rfl) (by kernel_rfl) (fun _ _ _ h => h) rfl rfl 24 _ rfl w.heap.size rfl 24 _ (fun w h => F0.chg h (by simp)) Tryz.underlying24 rfl (by first | exact feInfo | kernel_rfl) hHeld ?_
  try simp only [Act.put, sA1, sA2, sA3]
  refine take_load 1 (some 8) (feC (m : Int)) rfl (by kernel_rfl) (by kernel_rfl) (by kernel_rfl) (fun _ _ _ h => h) rfl rfl 24 _ rfl (w.heap.size + 1) rfl 24 _ (fun w h => F1.chg h (by simp)) Tryz.underlying24 rfl (by first | exact feInfo | kernel_rfl) hHeld ?_
  try simp only [Act.put, sA1, sA2, sA3]
  refine take_load 3 (some 10) (feC (c : Int)) rfl (by kernel_rfl) (by kernel_rfl) (by kernel_rfl) (fun _ _ _ h => h) rfl rfl 24 _ rfl (w.heap.size + 2) rfl 24 _ (fun w h => F2.chg h (by simp)) Tryz.underlying24 rfl (by first | exact feInfo | kernel_rfl) hHeld ?_
  try simp only [Act.put, sA1, sA2, sA3]
  refine wpAnyH_ready (rs := [2]) (by kernel_rfl) (by simp) ?_
  refine AllReadyH.cons (o := _) rfl (fun K hK => ?_) ?_
  ·
    go_simp
    refine (Mul_r n m hn hm _).mono ?_
    rintro e x2 ⟨rfl, k⟩
    replace F3 := F3.drew.chg k (by simp)
    go_wp2_with fail
    refine hK.out _ _ (hHeld.trans1 k.wide) (fun hHeld => ?_)
    clear hK K
    try simp only [Act.put, sA1, sA2, sA3]
    refine wpAnyH_ready (rs := [4]) (by kernel_rfl) (by simp) ?_
    refine AllReadyH.cons (o := _) rfl (fun K hK => ?_) ?_
    ·
      go_simp
      refine (Add_p _ c (mlP_lt _ _) hc _).mono ?_
      rintro e x4 ⟨rfl, k⟩
      replace F3 := F3.chg k (by simp)
      go_wp2_with fail
      refine hK.out _ _ (hHeld.trans1 k.wide) (fun hHeld => ?_)
      clear hK K
      try simp only [Act.put, sA1, sA2, sA3]
      refine wpAnyH_ready (rs := [5]) (by kernel_rfl) (by simp) ?_
      refine AllReadyH.cons (o := _) rfl (fun K hK => ?_) ?_
      ·
        rw [if_pos (by rfl)]
        refine wp_store_row 24 _ _ rfl (w.heap.size + 3) _ rfl rfl 24 _ F3 feInfo rfl (feC_one _) ?_
        refine hK.out _ _ (hHeld.trans1 (Chg.of (gb_setRow (gb_refl _ _) _))) (fun hHeld => ?_)
        clear hK K
        try simp only [Act.put, sA1, sA2, sA3]
        refine wpAnyH_done (by kernel_rfl) ?_ _
        go_wp2_with fail
        exact bodyPost_ret (results_cell_row Tryz.results48 _ _ (w.heap.size + 3) 24 (feC (((adP (mlP (n % LN) (m % LN)) c : Nat)) : Int)) (0, 0) _ rfl (Blk.setRow F3 _) Tryz.underlying24 rfl feInfo) rfl ⟨rfl, CC.new hHeld (by omega)⟩
      exact AllReadyH.nil
    exact AllReadyH.nil
  exact AllReadyH.nil
set_option maxHeartbeats 4000000 in
set_option maxRecDepth 100000 in
theorem Neg_r (n : Nat) (hn : n < 115792089237316195423570985008687907853269984665640564039457584007913129639936) (w : World) :
    Calls Tryz.prog 120 #[fe (n : Int)] w fun e w' => e = .returned (fe ((ngP n : Nat) : Int)) ∧ Chg w w' [] := by
  have hge := NumGuard
  have F0 : Blk ((w.alloc (.cells (feC (n : Int)) 24)).alloc (.cells z32 24)) w.heap.size (feC (n : Int)) 24 := (Blk.new w (feC (n : Int)) 24).alloc _
  have F1 : Blk ((w.alloc (.cells (feC (n : Int)) 24)).alloc (.cells z32 24)) (w.heap.size + 1) z32 24 := by have h := Blk.new (w.alloc (.cells (feC (n : Int)) 24)) z32 24; simpa using h
  have CC : Chg w ((w.alloc (.cells (feC (n : Int)) 24)).alloc (.cells z32 24)) [] := ((Chg.refl w []).alloc _).alloc _
  obtain ⟨X, hX⟩ : ∃ X, n % LN = X := ⟨_, rfl⟩
  have lX : X < LN := by rw [← hX]; exact Nat.mod_lt _ LN_pos
  have eX : eqD X 0 = decide (X = 0) := eqD_eq (Nat.lt_trans lX LN_256) (by decide)
  obtain ⟨q, hq⟩ : ∃ q, ngP n = q := ⟨_, rfl⟩
  have hq2 : (LN - X) % LN = q := by rw [← hq, ← hX]; rfl
  rw [hq]
  have HX : Hid (n % LN = X) := hX
  clear hX hq
  go_enter Tryz.func120, Tryz.ntmps120
  go_wp2_with (refine wpList_load_row rfl 24 _ rfl w.heap.size rfl 24 _ (0, 0) _ F0 Tryz.underlying24 rfl feInfo ?_)
  refine (Value_r n hn _).mono ?_
  rintro e v1 ⟨rfl, k⟩
  rw [HX.out]
  have sz1 : w.heap.size + 1 < v1.heap.size := (F1.chg k (by simp)).lt
  replace F1 : Blk ((v1.alloc (.cells z8u 190)).setRow v1.heap.size (dC X)) (w.heap.size + 1) z32 24 := ((F1.chg k (by simp)).alloc (.cells z8u 190)).setRowOther (by omega) _
  have A := Blk.new v1 z8u 190
  have A' : Blk ((v1.alloc (.cells z8u 190)).setRow v1.heap.size (dC X)) v1.heap.size (dC X) 190 := A.setRow _
  replace CC : Chg w ((v1.alloc (.cells z8u 190)).setRow v1.heap.size (dC X)) [] := ((CC.trans1 k).alloc (.cells z8u 190)).setRowNew (by omega) _
  clear F0 k HX
  by_cases h0 : X = 0
  · have hE : eqD X 0 = true := by rw [eX, h0]; rfl
    have HQ : Hid (q = 0) := by show q = 0; rw [← hq2, h0, Nat.sub_zero, Nat.mod_self]
    clear hq2 eX h0
    go_wp2_with (first | (refine wpList_store_row rfl 190 _ _ rfl v1.heap.size _ rfl rfl 190 _ A NumInfo rfl (dC_one _) ?_) | (refine wpList_load_row rfl 190 _ rfl v1.heap.size rfl 190 _ (0, 0) _ A' Tryz.underlying190 rfl NumInfo ?_) | (refine gl_build (by rfl) 190 #[] rfl (dC 0) (by kernel_rfl) ?_) | (refine gl_build (by rfl) 24 #[] rfl (feC 0) (by kernel_rfl) ?_) | (refine wpList_store_row rfl 24 _ _ rfl (w.heap.size + 1) _ rfl rfl 24 _ F1 feInfo rfl (feC_one _) ?_))
    refine bodyPost_ret (results_cell_row Tryz.results120 _ _ (w.heap.size + 1) 24 (feC 0) (0, 0) _ rfl (Blk.setRow F1 _) Tryz.underlying24 rfl feInfo) rfl ⟨?_, CC.setRowNew (by omega) _⟩
    rw [HQ.out]; rfl
  · have hE : eqD X 0 = false := by rw [eX]; exact decide_eq_false h0
    have HN : Hid (LN - X = q) := by show LN - X = q; rw [← hq2]; exact (Nat.mod_eq_of_lt (by omega)).symm
    clear hq2 eX
    go_wp2_with (first | (refine wpList_store_row rfl 190 _ _ rfl v1.heap.size _ rfl rfl 190 _ A NumInfo rfl (dC_one _) ?_) | (refine wpList_load_row rfl 190 _ rfl v1.heap.size rfl 190 _ (0, 0) _ A' Tryz.underlying190 rfl NumInfo ?_) | (refine gl_build (by rfl) 190 #[] rfl (dC 0) (by kernel_rfl) ?_))
    clear A
    generalize hv2 : ((v1.alloc (.cells z8u 190)).setRow v1.heap.size (dC X)) = v2 at F1 A' CC
    change Code.wp _ _ _ _ ((v1.alloc (.cells z8u 190)).setRow v1.heap.size (dC X))
    rw [hv2]
    clear hv2
    generalize v1.heap.size = gx at *
    refine wp_region_held_drew (S := fun w' => Chg v2 w' [w.heap.size + 1]) (by kernel_rfl) ((Chg.refl v2 _).drew) (fun hHeld => ?_)
    refine take_load 1 (some 11) (dC X) rfl (by kernel_rfl) (by kernel_rfl) (by kernel_rfl) (fun _ _ _ h => h) rfl rfl 190 _ rfl gx rfl 190 _ (fun w h => A'.chg h (by simp; omega)) Tryz.underlying190 rfl (by first | exact feInfo | kernel_rfl) hHeld ?_
    try simp only [Act.put, sA1, sA2, sA3]
    refine wpAnyH_ready (rs := [0]) (by kernel_rfl) (by simp) ?_
    refine AllReadyH.cons (o := _) rfl (fun K hK => ?_) ?_
    ·
      go_simp
      refine (Order_r _).mono ?_
      rintro e x0 ⟨rfl, k⟩
      replace F1 := F1.drew.chg k (by simp)
      go_wp2_with fail
      refine hK.out _ _ (hHeld.trans1 k.wide) (fun hHeld => ?_)
      clear hK K
      try simp only [Act.put, sA1, sA2, sA3]
      refine wpAnyH_ready (rs := [2]) (by kernel_rfl) (by simp) ?_
      refine AllReadyH.cons (o := _) rfl (fun K hK => ?_) ?_
      ·
        go_simp
        refine (minus_r LN X (by omega) _).mono ?_
        rintro e x2 ⟨rfl, k⟩
        replace F1 := F1.chg k (by simp)
        go_wp2_with fail
        refine hK.out _ _ (hHeld.trans1 k.wide) (fun hHeld => ?_)
        clear hK K
        try simp only [Act.put, sA1, sA2, sA3]
        refine wpAnyH_ready (rs := [3]) (by kernel_rfl) (by simp) ?_
        refine AllReadyH.cons (o := _) rfl (fun K hK => ?_) ?_
        ·
          go_simp
          refine (Back_r (LN - X) _).mono ?_
          rintro e x3 ⟨rfl, k⟩
          replace F1 := F1.chg k (by simp)
          rw [HN.out]
          go_wp2_with fail
          refine hK.out _ _ (hHeld.trans1 k.wide) (fun hHeld => ?_)
          clear hK K
          try simp only [Act.put, sA1, sA2, sA3]
          refine wpAnyH_ready (rs := [4]) (by kernel_rfl) (by simp) ?_
          refine AllReadyH.cons (o := _) rfl (fun K hK => ?_) ?_
          ·
            rw [if_pos (by rfl)]
            refine wp_store_row 24 _ _ rfl (w.heap.size + 1) _ rfl rfl 24 _ F1 feInfo rfl (feC_one _) ?_
            refine hK.out _ _ (hHeld.trans1 (Chg.of (gb_setRow (gb_refl _ _) _))) (fun hHeld => ?_)
            clear hK K
            try simp only [Act.put, sA1, sA2, sA3]
            refine wpAnyH_done (by kernel_rfl) ?_ _
            go_wp2_with fail
            exact bodyPost_ret (results_cell_row Tryz.results120 _ _ (w.heap.size + 1) 24 (feC (q : Int)) (0, 0) _ rfl (Blk.setRow F1 _) Tryz.underlying24 rfl feInfo) rfl ⟨rfl, CC.new hHeld (by omega)⟩
          exact AllReadyH.nil
        exact AllReadyH.nil
      exact AllReadyH.nil
    exact AllReadyH.nil
set_option maxHeartbeats 4000000 in
set_option maxRecDepth 100000 in
theorem Sub_r (n m : Nat) (hn : n < 115792089237316195423570985008687907853269984665640564039457584007913129639936) (hm : m < 115792089237316195423570985008687907853269984665640564039457584007913129639936) (w : World) :
    Calls Tryz.prog 103 #[fe (n : Int), fe (m : Int)] w fun e w' => e = .returned (fe (((adP n (ngP m) : Nat)) : Int)) ∧ Chg w w' [] := by
  have F0 : Blk (((w.alloc (.cells (feC (n : Int)) 24)).alloc (.cells (feC (m : Int)) 24)).alloc (.cells z32 24)) w.heap.size (feC (n : Int)) 24 := by have h := (((Blk.new w (feC (n : Int)) 24).alloc (.cells (feC (m : Int)) 24)).alloc (.cells z32 24)); simpa using h
  have F1 : Blk (((w.alloc (.cells (feC (n : Int)) 24)).alloc (.cells (feC (m : Int)) 24)).alloc (.cells z32 24)) (w.heap.size + 1) (feC (m : Int)) 24 := by have h := ((Blk.new (w.alloc (.cells (feC (n : Int)) 24)) (feC (m : Int)) 24).alloc (.cells z32 24)); simpa using h
  have F2 : Blk (((w.alloc (.cells (feC (n : Int)) 24)).alloc (.cells (feC (m : Int)) 24)).alloc (.cells z32 24)) (w.heap.size + 2) z32 24 := by have h := (Blk.new ((w.alloc (.cells (feC (n : Int)) 24)).alloc (.cells (feC (m : Int)) 24)) z32 24); simpa using h
  have CC : Chg w (((w.alloc (.cells (feC (n : Int)) 24)).alloc (.cells (feC (m : Int)) 24)).alloc (.cells z32 24)) [] := ((((Chg.refl w []).alloc (.cells (feC (n : Int)) 24)).alloc (.cells (feC (m : Int)) 24)).alloc (.cells z32 24))
  go_enter Tryz.func103, Tryz.ntmps103
  go_wp2_with fail
  generalize hv0 : (((w.alloc (.cells (feC (n : Int)) 24)).alloc (.cells (feC (m : Int)) 24)).alloc (.cells z32 24)) = v0 at F0 F1 F2 CC
  change Code.wp _ _ _ _ (((w.alloc (.cells (feC (n : Int)) 24)).alloc (.cells (feC (m : Int)) 24)).alloc (.cells z32 24))
  rw [hv0]
  clear hv0
  refine wp_region_held_drew (S := fun w' => Chg v0 w' [w.heap.size + 2]) (by kernel_rfl) ((Chg.refl v0 _).drew) (fun hHeld => ?_)
  refine take_load 0 (some 5) (feC (n : Int)) rfl (by kernel_rfl) (by kernel_rfl) (by kernel_rfl) (fun _ _ _ h => h) rfl rfl 24 _ rfl w.heap.size rfl 24 _ (fun w h => F0.chg h (by simp)) Tryz.underlying24 rfl (by first | exact feInfo | kernel_rfl) hHeld ?_
  try simp only [Act.put, sA1, sA2, sA3]
  refine take_load 1 (some 6) (feC (m : Int)) rfl (by kernel_rfl) (by kernel_rfl) (by kernel_rfl) (fun _ _ _ h => h) rfl rfl 24 _ rfl (w.heap.size + 1) rfl 24 _ (fun w h => F1.chg h (by simp)) Tryz.underlying24 rfl (by first | exact feInfo | kernel_rfl) hHeld ?_
  try simp only [Act.put, sA1, sA2, sA3]
  refine wpAnyH_ready (rs := [2]) (by kernel_rfl) (by simp) ?_
  refine AllReadyH.cons (o := _) rfl (fun K hK => ?_) ?_
  ·
    go_simp
    refine (Neg_r m hm _).mono ?_
    rintro e x2 ⟨rfl, k⟩
    replace F2 := F2.drew.chg k (by simp)
    go_wp2_with fail
    refine hK.out _ _ (hHeld.trans1 k.wide) (fun hHeld => ?_)
    clear hK K
    try simp only [Act.put, sA1, sA2, sA3]
    refine wpAnyH_ready (rs := [3]) (by kernel_rfl) (by simp) ?_
    refine AllReadyH.cons (o := _) rfl (fun K hK => ?_) ?_
    ·
      go_simp
      refine (Add_p n _ hn (ngP_lt _) _).mono ?_
      rintro e x3 ⟨rfl, k⟩
      replace F2 := F2.chg k (by simp)
      go_wp2_with fail
      refine hK.out _ _ (hHeld.trans1 k.wide) (fun hHeld => ?_)
      clear hK K
      try simp only [Act.put, sA1, sA2, sA3]
      refine wpAnyH_ready (rs := [4]) (by kernel_rfl) (by simp) ?_
      refine AllReadyH.cons (o := _) rfl (fun K hK => ?_) ?_
      ·
        rw [if_pos (by rfl)]
        refine wp_store_row 24 _ _ rfl (w.heap.size + 2) _ rfl rfl 24 _ F2 feInfo rfl (feC_one _) ?_
        refine hK.out _ _ (hHeld.trans1 (Chg.of (gb_setRow (gb_refl _ _) _))) (fun hHeld => ?_)
        clear hK K
        try simp only [Act.put, sA1, sA2, sA3]
        refine wpAnyH_done (by kernel_rfl) ?_ _
        go_wp2_with fail
        exact bodyPost_ret (results_cell_row Tryz.results103 _ _ (w.heap.size + 2) 24 (feC (((adP n (ngP m) : Nat)) : Int)) (0, 0) _ rfl (Blk.setRow F2 _) Tryz.underlying24 rfl feInfo) rfl ⟨rfl, CC.new hHeld (by omega)⟩
      exact AllReadyH.nil
    exact AllReadyH.nil
  exact AllReadyH.nil
set_option maxHeartbeats 4000000 in
set_option maxRecDepth 100000 in
theorem IsZero_r (n : Nat) (hn : n < 115792089237316195423570985008687907853269984665640564039457584007913129639936) (w : World) :
    Calls Tryz.prog 91 #[fe (n : Int)] w fun e w' => e = .returned (.bool (eqD (n % LN) 0)) ∧ Chg w w' [] := by
  have hge := NumGuard
  have F0 := Blk.new w (feC (n : Int)) 24
  have CC := (Chg.refl w []).alloc (.cells (feC (n : Int)) 24)
  go_enter Tryz.func91, Tryz.ntmps91
  go_wp2_with (refine wpList_load_row rfl 24 _ rfl w.heap.size rfl 24 _ (0, 0) _ F0 Tryz.underlying24 rfl feInfo ?_)
  refine (Value_r n hn _).mono ?_
  rintro e v1 ⟨rfl, k⟩
  go_wp2_with (refine gl_build (by rfl) 190 #[] rfl (dC 0) (by kernel_rfl) ?_)
  go_ret
  exact ⟨rfl, CC.trans1 k⟩
end Go.Proofs.YtoafcaieifjoiaaGreat

/- ScalarAdds: the walk. -/
namespace Go.Proofs.YtoafcaieifjoiaaGreat
open Go.RowKit N

theorem adI (n m : Nat) : ((adP n m : Nat) : Int) = ad (n : Int) (m : Int) := by unfold adP ad; rw [Int.natCast_emod, Int.natCast_add, LN_eq]
theorem mlI (n m : Nat) : ((mlP (n % LN) (m % LN) : Nat) : Int) = ml (n : Int) (m : Int) := by unfold mlP ml; rw [← Nat.mul_mod, Int.natCast_emod, Int.natCast_mul, LN_eq]
theorem ngI (n : Nat) : ((ngP n : Nat) : Int) = ng (n : Int) := by
  unfold ngP ng
  have h := Nat.le_of_lt (Nat.mod_lt n LN_pos)
  rw [Int.natCast_emod, Int.natCast_sub h, Int.natCast_emod, LN_eq, Int.sub_emod, Int.emod_self, Int.emod_emod_of_dvd _ (Int.dvd_refl L)]
  rw [show -(n : Int) = 0 - (n : Int) by omega, Int.sub_emod 0 (n : Int)]
  rfl
theorem of_r256 {a : Int} (ra : R256 a) : ∃ n : Nat, a = (n : Int) ∧ n < 115792089237316195423570985008687907853269984665640564039457584007913129639936 := by
  obtain ⟨n, rfl⟩ := Int.eq_ofNat_of_zero_le ra.1
  exact ⟨n, rfl, by unfold R256 at ra; omega⟩
theorem Add_q (a b : Int) (ra : R256 a) (rb : R256 b) (w : World) : Calls Tryz.prog 85 #[fe a, fe b] w fun e w' => e = .returned (fe (ad a b)) ∧ Chg w w' [] := by
  obtain ⟨n, rfl, hn⟩ := of_r256 ra
  obtain ⟨m, rfl, hm⟩ := of_r256 rb
  rw [← adI]
  exact Add_p n m hn hm w
theorem Neg_q (a : Int) (ra : R256 a) (w : World) : Calls Tryz.prog 120 #[fe a] w fun e w' => e = .returned (fe (ng a)) ∧ Chg w w' [] := by
  obtain ⟨n, rfl, hn⟩ := of_r256 ra
  rw [← ngI]
  exact Neg_r n hn w
theorem Sub_q (a b : Int) (ra : R256 a) (rb : R256 b) (w : World) : Calls Tryz.prog 103 #[fe a, fe b] w fun e w' => e = .returned (fe (sb a b)) ∧ Chg w w' [] := by
  obtain ⟨n, rfl, hn⟩ := of_r256 ra
  obtain ⟨m, rfl, hm⟩ := of_r256 rb
  have e : sb (n : Int) (m : Int) = ((adP n (ngP m) : Nat) : Int) := by
    rw [adI, ngI]
    unfold sb ad ng
    rw [m_add_r]
    rfl
  rw [e]
  exact Sub_r n m hn hm w
theorem Mul_q (a b : Int) (ra : R256 a) (rb : R256 b) (w : World) : Calls Tryz.prog 99 #[fe a, fe b] w fun e w' => e = .returned (fe (ml a b)) ∧ Chg w w' [] := by
  obtain ⟨n, rfl, hn⟩ := of_r256 ra
  obtain ⟨m, rfl, hm⟩ := of_r256 rb
  rw [← mlI]
  exact Mul_r n m hn hm w
theorem MulAdd_q (a b c : Int) (ra : R256 a) (rb : R256 b) (rc : R256 c) (w : World) : Calls Tryz.prog 48 #[fe a, fe b, fe c] w fun e w' => e = .returned (fe (ma a b c)) ∧ Chg w w' [] := by
  obtain ⟨n, rfl, hn⟩ := of_r256 ra
  obtain ⟨m, rfl, hm⟩ := of_r256 rb
  obtain ⟨c, rfl, hc⟩ := of_r256 rc
  have e : ma (n : Int) (m : Int) (c : Int) = ((adP (mlP (n % LN) (m % LN)) c : Nat) : Int) := by
    rw [adI, mlI]
    unfold ma ad ml
    rw [m_add_l]
  rw [e]
  exact MulAdd_r n m c hn hm hc w
theorem IsZero_q (a : Int) (ra : R256 a) (t : Bool) (h : eqn (cn a) 0 = t) (w : World) : Calls Tryz.prog 91 #[fe a] w fun e w' => e = .returned (.bool t) ∧ Chg w w' [] := by
  obtain ⟨n, rfl, hn⟩ := of_r256 ra
  have e : eqn (cn (n : Int)) 0 = eqD (n % LN) 0 := by
    rw [eqn_eq (n := cn (n : Int)) (m := 0) (rl_mod _) ⟨by decide, by decide⟩, eqD_eq (modL_lt n) (by decide)]
    have e1 : cn (n : Int) = ((n % LN : Nat) : Int) := by unfold cn; rw [Int.natCast_emod, LN_eq]
    rw [e1]
    by_cases hz : n % LN = 0
    · rw [hz]; rfl
    · rw [decide_eq_false hz, decide_eq_false (by omega)]
  rw [← h, e]
  exact IsZero_r n hn w
end Go.Proofs.YtoafcaieifjoiaaGreat
