/- rimeref02.Add. -/
import Derived.Test.YtcagkcglmcafgaaGreatRDig
set_option linter.unusedVariables false
set_option linter.unusedSimpArgs false
set_option linter.unnecessarySimpa false
namespace Go.Proofs.YtcagkcglmcafgaaGreat
open Go.RowKit N

/-- What is carried into place i of X + Y. -/
def cyA (X Y i : Nat) : Nat := (X % 4294967296 ^ i + Y % 4294967296 ^ i) / 4294967296 ^ i
theorem cyA_zero (X Y : Nat) : cyA X Y 0 = 0 := by simp [cyA, Nat.mod_one]
theorem cyA_le (X Y i : Nat) : cyA X Y i ≤ 1 := by
  unfold cyA
  have hP : 0 < 4294967296 ^ i := Nat.pow_pos (by decide)
  have h1 := Nat.mod_lt X hP
  have h2 := Nat.mod_lt Y hP
  have : (X % 4294967296 ^ i + Y % 4294967296 ^ i) / 4294967296 ^ i < 2 := Nat.div_lt_of_lt_mul (by omega)
  omega
theorem cyA_succ (X Y i : Nat) : cyA X Y (i + 1) = (cyA X Y i + dg X i + dg Y i) / 4294967296 := by
  unfold cyA dg
  rw [Nat.pow_succ, Nat.mod_mul, Nat.mod_mul]
  have hP : 0 < 4294967296 ^ i := Nat.pow_pos (by decide)
  generalize 4294967296 ^ i = P at *
  generalize X / P % 4294967296 = x
  generalize Y / P % 4294967296 = y
  rw [← Nat.div_div_eq_div_mul, show X % P + P * x + (Y % P + P * y) = X % P + Y % P + P * (x + y) by rw [Nat.mul_add]; omega, Nat.add_mul_div_left _ _ hP, Nat.add_assoc]
theorem dg_add (X Y i : Nat) : dg (X + Y) i = (cyA X Y i + dg X i + dg Y i) % 4294967296 := by
  unfold cyA dg
  have hP : 0 < 4294967296 ^ i := Nat.pow_pos (by decide)
  have e1 := Nat.div_add_mod X (4294967296 ^ i)
  have e2 := Nat.div_add_mod Y (4294967296 ^ i)
  generalize 4294967296 ^ i = P at *
  have e : (X + Y) / P = (X % P + Y % P) / P + (X / P + Y / P) := by
    rw [show X + Y = X % P + Y % P + P * (X / P + Y / P) by rw [Nat.mul_add]; omega, Nat.add_mul_div_left _ _ hP]
  rw [e]
  generalize (X % P + Y % P) / P = c
  generalize X / P = x
  generalize Y / P = y
  omega
/-- The first i digits of S, of nine. -/
def lowS (S i : Nat) : Nat → Nat := fun j => if j < i then dg S j else 0
theorem lowS_step (S i : Nat) : upd (lowS S i) i (dg S i) = lowS S (i + 1) := by
  funext j
  unfold upd lowS
  by_cases h : j = i
  · subst h; rw [if_pos rfl, if_pos (by omega)]
  · rw [if_neg h]
    by_cases h2 : j < i
    · rw [if_pos h2, if_pos (by omega)]
    · rw [if_neg h2, if_neg (by omega)]
theorem dg_high (n i : Nat) (hi : 8 ≤ i) (hn : n < 115792089237316195423570985008687907853269984665640564039457584007913129639936) : dg n i = 0 := by
  unfold dg
  have : 4294967296 ^ 8 ≤ 4294967296 ^ i := Nat.pow_le_pow_right (by decide) hi
  rw [Nat.div_eq_of_lt (by omega)]

set_option maxHeartbeats 4000000 in
set_option maxRecDepth 100000 in
theorem Add_r (n m : Nat) (hn : n < 115792089237316195423570985008687907853269984665640564039457584007913129639936) (hm : m < 115792089237316195423570985008687907853269984665640564039457584007913129639936) (w : World) :
    Calls Tryz.prog 10 #[fe (n : Int), fe (m : Int)] w fun e w' => e = .returned (fe (((n + m) % LN : Nat) : Int)) ∧ Chg w w' [] := by
  have F0 : Blk (((w.alloc (.cells (feC (n : Int)) 24)).alloc (.cells (feC (m : Int)) 24)).alloc (.cells z32 24)) w.heap.size (feC (n : Int)) 24 := ((Blk.new w (feC (n : Int)) 24).alloc _).alloc _
  have F1 : Blk (((w.alloc (.cells (feC (n : Int)) 24)).alloc (.cells (feC (m : Int)) 24)).alloc (.cells z32 24)) (w.heap.size + 1) (feC (m : Int)) 24 := by have h := (Blk.new (w.alloc (.cells (feC (n : Int)) 24)) (feC (m : Int)) 24).alloc (.cells z32 24); simpa using h
  have F2 : Blk (((w.alloc (.cells (feC (n : Int)) 24)).alloc (.cells (feC (m : Int)) 24)).alloc (.cells z32 24)) (w.heap.size + 2) z32 24 := by have h := Blk.new ((w.alloc (.cells (feC (n : Int)) 24)).alloc (.cells (feC (m : Int)) 24)) z32 24; simpa using h
  have CC : Chg w (((w.alloc (.cells (feC (n : Int)) 24)).alloc (.cells (feC (m : Int)) 24)).alloc (.cells z32 24)) [] := (((Chg.refl w []).alloc _).alloc _).alloc _
  obtain ⟨X, hX⟩ : ∃ X, X = n % LN := ⟨_, rfl⟩
  obtain ⟨Y, hY⟩ : ∃ Y, Y = m % LN := ⟨_, rfl⟩
  obtain ⟨q, hq⟩ : ∃ q, q = (n + m) % LN := ⟨_, rfl⟩
  have lX : X < LN := by rw [hX]; exact Nat.mod_lt _ LN_pos
  have lY : Y < LN := by rw [hY]; exact Nat.mod_lt _ LN_pos
  have HQ : Hid ((X + Y) % LN = q) := by show (X + Y) % LN = q; rw [hX, hY, hq, ← Nat.add_mod]
  have HX : Hid (n % LN = X) := hX.symm
  have HY : Hid (m % LN = Y) := hY.symm
  rw [← hq]
  clear hX hY hq
  have hmk : ∀ w : World, (Instr.makeSlice 85 (.int .i64 9) (.int .i64 9)).run Tryz.prog w = .ok (.slice (some ⟨w.heap.size, 0, none⟩) 9 9) (w.alloc (.cells (uC 9 fun _ => 0) 81)) := fun w => mkU 9 (by decide) w
  go_enter Tryz.func10, Tryz.ntmps10
  go_wp2_with (refine wpList_load_row rfl 24 _ rfl w.heap.size rfl 24 _ (0, 0) _ F0 Tryz.underlying24 rfl feInfo ?_)
  refine (Value_r n hn _).mono ?_
  rintro e v1 ⟨rfl, k⟩
  rw [HX.out]
  have sz1 : w.heap.size + 2 < v1.heap.size := (F2.chg k (by simp)).lt
  replace F1 : Blk ((v1.alloc (.cells z8u 83)).setRow v1.heap.size (dC X)) (w.heap.size + 1) (feC (m : Int)) 24 := ((F1.chg k (by simp)).alloc (.cells z8u 83)).setRowOther (by omega) _
  replace F2 : Blk ((v1.alloc (.cells z8u 83)).setRow v1.heap.size (dC X)) (w.heap.size + 2) z32 24 := ((F2.chg k (by simp)).alloc (.cells z8u 83)).setRowOther (by omega) _
  have A := Blk.new v1 z8u 83
  have A' : Blk ((v1.alloc (.cells z8u 83)).setRow v1.heap.size (dC X)) v1.heap.size (dC X) 83 := A.setRow _
  replace CC : Chg w ((v1.alloc (.cells z8u 83)).setRow v1.heap.size (dC X)) [] := ((CC.trans1 k).alloc (.cells z8u 83)).setRowNew (by omega) _
  clear F0 k
  go_wp2_with (first | (refine wpList_store_row rfl 83 _ _ rfl v1.heap.size _ rfl rfl 83 _ A NumInfo rfl (dC_one _) ?_) | (refine wpList_load_row rfl 24 _ rfl (w.heap.size + 1) rfl 24 _ (0, 0) _ F1 Tryz.underlying24 rfl feInfo ?_))
  refine (Value_r m hm _).mono ?_
  rintro e v2 ⟨rfl, k⟩
  rw [HY.out]
  have szx : v1.heap.size < v2.heap.size := (A'.chg k (by simp)).lt
  replace F2 : Blk (((v2.alloc (.cells z8u 83)).setRow v2.heap.size (dC Y)).alloc (.cells (uC 9 fun _ => 0) 81)) (w.heap.size + 2) z32 24 := (((F2.chg k (by simp)).alloc (.cells z8u 83)).setRowOther (by omega) _).alloc _
  replace A' : Blk (((v2.alloc (.cells z8u 83)).setRow v2.heap.size (dC Y)).alloc (.cells (uC 9 fun _ => 0) 81)) v1.heap.size (dC X) 83 := (((A'.chg k (by simp)).alloc (.cells z8u 83)).setRowOther (by omega) _).alloc _
  have D := Blk.new v2 z8u 83
  have D' : Blk (((v2.alloc (.cells z8u 83)).setRow v2.heap.size (dC Y)).alloc (.cells (uC 9 fun _ => 0) 81)) v2.heap.size (dC Y) 83 := (D.setRow _).alloc _
  have G : Blk (((v2.alloc (.cells z8u 83)).setRow v2.heap.size (dC Y)).alloc (.cells (uC 9 fun _ => 0) 81)) (v2.heap.size + 1) (uC 9 (lowS (X + Y) 0)) 81 := by
    have h := Blk.new ((v2.alloc (.cells z8u 83)).setRow v2.heap.size (dC Y)) (uC 9 fun _ => 0) 81
    rw [show uC 9 (lowS (X + Y) 0) = uC 9 (fun _ => 0) from uC_congr 9 _ _ (fun i _ => if_neg (by omega))]
    simpa using h
  replace CC : Chg w (((v2.alloc (.cells z8u 83)).setRow v2.heap.size (dC Y)).alloc (.cells (uC 9 fun _ => 0) 81)) [] := (((CC.trans1 k).alloc (.cells z8u 83)).setRowNew (by omega) _).alloc _
  clear A F1 k
  go_wp2_with (refine wpList_store_row rfl 83 _ _ rfl v2.heap.size _ rfl rfl 83 _ D NumInfo rfl (dC_one _) ?_)
  clear D hmk
  generalize hv3 : ((v2.alloc (.cells z8u 83)).setRow v2.heap.size (dC Y)).alloc (.cells (uC 9 fun _ => 0) 81) = v3 at F2 A' D' G CC
  change Code.wp _ _ _ _ (((v2.alloc (.cells z8u 83)).setRow v2.heap.size (dC Y)).alloc (.cells (uC 9 fun _ => 0) 81))
  rw [hv3]
  clear hv3
  generalize v1.heap.size = gx at *
  generalize v2.heap.size = gy at *
  have HA : Hid (∀ i, dg (X + Y) i = (cyA X Y i + dg X i + dg Y i) % 4294967296) := dg_add X Y
  go_loopw [9, 8] (fun t c wr => ∃ i : Nat, i ≤ 8 ∧ t = .int .i64 (i : Int) ∧ c = .int .u64 ((cyA X Y i : Nat) : Int) ∧ Blk wr gx (dC X) 83 ∧ Blk wr gy (dC Y) 83 ∧ Blk wr (gy + 1) (uC 9 (lowS (X + Y) i)) 81 ∧ Blk wr (w.heap.size + 2) z32 24 ∧ Chg w wr []) (fun t _ _ => (8 - intOf t).toNat)
  case atStart => exact ⟨0, by omega, rfl, by rw [cyA_zero]; rfl, A', D', G, F2, CC⟩
  case round =>
    obtain ⟨i, hi, rfl, rfl, b0, b1, b2, b3, c0⟩ := hrel
    clear A' D' G F2 CC
    have hcl := cyA_le X Y i
    by_cases h8 : i < 8
    · have hI : (i : Int) < 8 := by omega
      have hI9 : (i : Int) < 9 := by omega
      have hx := dg_lt X i
      have hy := dg_lt Y i
      have cA := (b0.cell i).trans (uC_get 8 (dg X) i h8)
      have cB := (b1.cell i).trans (uC_get 8 (dg Y) i h8)
      have cC := (b2.cell i).trans (uC_get 9 (lowS (X + Y) i) i (by omega))
      have fC := b2.frozen i
      have w2 : (((cyA X Y i : Nat) : Int) + ((dg X i : Nat) : Int) + ((dg Y i : Nat) : Int)) % 4294967296 = ((dg (X + Y) i : Nat) : Int) := by rw [HA.out i]; omega
      have w3 : Hid ((((cyA X Y i : Nat) : Int) + ((dg X i : Nat) : Int) + ((dg Y i : Nat) : Int)) / 4294967296 = ((cyA X Y (i + 1) : Nat) : Int)) := by show (((cyA X Y i : Nat) : Int) + ((dg X i : Nat) : Int) + ((dg Y i : Nat) : Int)) / 4294967296 = ((cyA X Y (i + 1) : Nat) : Int); rw [cyA_succ]; omega
      have b2n : Blk (wr.setCell ⟨gy + 1, i, none⟩ (.int .u32 ((dg (X + Y) i : Nat) : Int))) (gy + 1) (uC 9 (lowS (X + Y) (i + 1))) 81 := (b2.setCell i _).to (by rw [uC_set, lowS_step])
      have b0n := b0.setOther (show ¬ gx = gy + 1 by omega) i (.int .u32 ((dg (X + Y) i : Nat) : Int))
      have b1n := b1.setOther (show ¬ gy = gy + 1 by omega) i (.int .u32 ((dg (X + Y) i : Nat) : Int))
      have b3n := b3.setOther (show ¬ w.heap.size + 2 = gy + 1 by omega) i (.int .u32 ((dg (X + Y) i : Nat) : Int))
      have cn := c0.setNew (show w.heap.size ≤ gy + 1 by omega) i (.int .u32 ((dg (X + Y) i : Nat) : Int))
      clear b0 b1 b2 b3 c0 HA
      go_wp2_with fail
      go_region
      go_wp2_with fail
      exact ⟨⟨i + 1, by omega, by go_num, by rw [w3.out], b0n.drew, b1n.drew, b2n.drew, b3n.drew, cn.drew⟩, by simp [intOf]; omega⟩
    · have h9 : i = 8 := by omega
      subst h9
      have e8 : dg (X + Y) 8 = cyA X Y 8 := by
        rw [HA.out 8, dg_high X 8 (by omega) (by unfold LN at lX; omega), dg_high Y 8 (by omega) (by unfold LN at lY; omega)]
        omega
      have cC := (b2.cell 8).trans (uC_get 9 (lowS (X + Y) 8) 8 (by omega))
      have fC := b2.frozen 8
      have w4 : ((cyA X Y 8 : Nat) : Int) % 4294967296 = ((dg (X + Y) 8 : Nat) : Int) := by rw [e8]; omega
      have b2n : Blk (wr.setCell ⟨gy + 1, 8, none⟩ (.int .u32 ((dg (X + Y) 8 : Nat) : Int))) (gy + 1) (uC 9 (lowS (X + Y) 9)) 81 := (b2.setCell 8 _).to (by rw [uC_set, lowS_step])
      have b3n := b3.setOther (show ¬ w.heap.size + 2 = gy + 1 by omega) 8 (.int .u32 ((dg (X + Y) 8 : Nat) : Int))
      have cn := c0.setNew (show w.heap.size ≤ gy + 1 by omega) 8 (.int .u32 ((dg (X + Y) 8 : Nat) : Int))
      have hbd : ∀ i, i < 9 → lowS (X + Y) 9 i < 4294967296 := fun i hi => by unfold lowS; rw [if_pos hi]; exact dg_lt _ _
      have hnv : Hid (nv (lowS (X + Y) 9) 0 9 % LN = q) := by
        show nv (lowS (X + Y) 9) 0 9 % LN = q
        rw [nv_congr (lowS (X + Y) 9) (dg (X + Y)) 9 0 (fun i _ h => if_pos (by omega)), nv_dg, ← HQ.out]
        congr 1
        rw [Nat.pow_zero, Nat.div_one]
        exact Nat.mod_eq_of_lt (by unfold LN at lX lY; omega)
      clear b0 b1 b2 b3 c0 HA
      rw [e8] at b2n b3n cn
      clear e8 w4
      go_wp2_with fail
      refine (mod_r (gy + 1) 0 9 9 (lowS (X + Y) 9) (by decide) _ (Us.of b2n hbd)).mono ?_
      rintro e v4 ⟨rfl, k⟩
      rw [hnv.out]
      replace b3n := b3n.chg k (by simp)
      replace cn := cn.trans1 k
      clear k
      go_wp2_with fail
      refine (Back_r q _).mono ?_
      rintro e v5 ⟨rfl, k⟩
      replace b3n := b3n.chg k (by simp)
      replace cn := cn.trans1 k
      go_wp2_with (refine wpList_store_row rfl 24 _ _ rfl (w.heap.size + 2) _ rfl rfl 24 _ b3n feInfo rfl (feC_one _) ?_)
      exact bodyPost_ret (results_cell_row Tryz.results10 _ _ (w.heap.size + 2) 24 (feC (q : Int)) (0, 0) _ rfl (Blk.setRow b3n _) Tryz.underlying24 rfl feInfo) rfl ⟨rfl, cn.setRowNew (by omega) _⟩
end Go.Proofs.YtcagkcglmcafgaaGreat
