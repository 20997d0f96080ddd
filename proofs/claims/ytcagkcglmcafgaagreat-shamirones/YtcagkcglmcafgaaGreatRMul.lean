/- rimeref02.mul. -/
import Derived.Test.YtcagkcglmcafgaaGreatRAdd
set_option linter.unusedVariables false
set_option linter.unusedSimpArgs false
set_option linter.unnecessarySimpa false
namespace Go.Proofs.YtcagkcglmcafgaaGreat
open Go.RowKit N

/-- The cells within a row of the product: below place m F's digits, from it on A's. -/
def rowC (F A m : Nat) : Nat → Nat := fun j => if j < m then dg F j else dg A j
theorem rowC_at (F A m : Nat) : rowC F A m m = dg A m := if_neg (by omega)
theorem dg_low (F p m j : Nat) (h : j < m) : dg (F + 4294967296 ^ m * p) j = dg F j := by
  unfold dg
  obtain ⟨r, rfl⟩ : ∃ r, m = j + (r + 1) := ⟨m - j - 1, by omega⟩
  rw [Nat.pow_add, Nat.mul_assoc, Nat.add_mul_div_left _ _ (Nat.pow_pos (by decide)), Nat.pow_succ, Nat.mul_comm (4294967296 ^ r), Nat.mul_assoc, Nat.add_mul_mod_self_left]
/-- One step within a row. -/
theorem row_step (F A m c p : Nat) (h : F / 4294967296 ^ m = A / 4294967296 ^ m + c) :
    dg (F + 4294967296 ^ m * p) m = (c + dg A m + p) % 4294967296 ∧ (F + 4294967296 ^ m * p) / 4294967296 ^ (m + 1) = A / 4294967296 ^ (m + 1) + (c + dg A m + p) / 4294967296 := by
  unfold dg
  have hP : 0 < 4294967296 ^ m := Nat.pow_pos (by decide)
  rw [Nat.pow_succ, ← Nat.div_div_eq_div_mul, ← Nat.div_div_eq_div_mul, Nat.add_mul_div_left _ _ hP, h]
  generalize A / 4294967296 ^ m = a
  omega
theorem row_cells (F A m c p : Nat) (h : F / 4294967296 ^ m = A / 4294967296 ^ m + c) : upd (rowC F A m) m ((c + dg A m + p) % 4294967296) = rowC (F + 4294967296 ^ m * p) A (m + 1) := by
  funext j
  unfold upd rowC
  by_cases e : j = m
  · subst e; rw [if_pos rfl, if_pos (by omega), (row_step F A j c p h).1]
  · rw [if_neg e]
    by_cases e2 : j < m
    · rw [if_pos e2, if_pos (by omega), dg_low F p m j e2]
    · rw [if_neg e2, if_neg (by omega)]
theorem dg_zero_high (A m j : Nat) (h : A < 4294967296 ^ m) (hj : m ≤ j) : dg A j = 0 := by
  unfold dg
  have : 4294967296 ^ m ≤ 4294967296 ^ j := Nat.pow_le_pow_right (by decide) hj
  rw [Nat.div_eq_of_lt (by omega)]
/-- The last cell of a row. -/
theorem row_end (F A m c : Nat) (hA : A < 4294967296 ^ m) (hF : F / 4294967296 ^ m = A / 4294967296 ^ m + c) (hc : c < 4294967296) : upd (rowC F A m) m c = dg F := by
  have hAz : A / 4294967296 ^ m = 0 := Nat.div_eq_of_lt hA
  rw [hAz, Nat.zero_add] at hF
  have hP : 0 < 4294967296 ^ m := Nat.pow_pos (by decide)
  have hFl : F < 4294967296 ^ (m + 1) := by
    have := Nat.lt_mul_div_succ F hP
    rw [hF] at this
    rw [Nat.pow_succ]
    exact Nat.lt_of_lt_of_le this (Nat.mul_le_mul_left _ (by omega))
  funext j
  unfold upd rowC
  by_cases e : j = m
  · subst e; rw [if_pos rfl]; unfold dg; rw [hF]; omega
  · rw [if_neg e]
    by_cases e2 : j < m
    · rw [if_pos e2]
    · rw [if_neg e2, dg_zero_high A m j hA (by omega), dg_zero_high F (m + 1) j hFl (by omega)]
theorem mod_succ (X i : Nat) : X % 4294967296 ^ (i + 1) = X % 4294967296 ^ i + 4294967296 ^ i * dg X i := by
  rw [Nat.pow_succ, Nat.mod_mul]; rfl
theorem row_bd (X Y i : Nat) (hY : Y < 4294967296 ^ 8) : X % 4294967296 ^ i * Y < 4294967296 ^ (i + 8) := by
  rw [Nat.pow_add]
  have hP : 0 < 4294967296 ^ i := Nat.pow_pos (by decide)
  have h1 := Nat.mod_lt X hP
  exact Nat.mul_lt_mul'' h1 hY
theorem p32 (x y : Nat) (hx : x < 4294967296) (hy : y < 4294967296) : x * y ≤ 18446744065119617025 := Nat.mul_le_mul (show x ≤ 4294967295 by omega) (show y ≤ 4294967295 by omega)

set_option maxHeartbeats 4000000 in
set_option maxRecDepth 100000 in
theorem mul_r (X Y : Nat) (hX : X < 115792089237316195423570985008687907853269984665640564039457584007913129639936) (hY : Y < 115792089237316195423570985008687907853269984665640564039457584007913129639936) (w : World) :
    Calls Tryz.prog 79 #[.agg (dC X), .agg (dC Y)] w fun e w' => e = .returned (.agg (dC (X * Y % LN))) ∧ Chg w w' [] := by
  have hmk : ∀ w : World, (Instr.makeSlice 85 (.int .i64 16) (.int .i64 16)).run Tryz.prog w = .ok (.slice (some ⟨w.heap.size, 0, none⟩) 16 16) (w.alloc (.cells (uC 16 fun _ => 0) 81)) := fun w => mkU 16 (by decide) w
  have B0 : Blk ((((w.alloc (.cells (dC X) 83)).alloc (.cells (dC Y) 83)).alloc (.cells z8u 83)).alloc (.cells (uC 16 fun _ => 0) 81)) w.heap.size (dC X) 83 := (((Blk.new w (dC X) 83).alloc _).alloc _).alloc _
  have B1 : Blk ((((w.alloc (.cells (dC X) 83)).alloc (.cells (dC Y) 83)).alloc (.cells z8u 83)).alloc (.cells (uC 16 fun _ => 0) 81)) (w.heap.size + 1) (dC Y) 83 := by have h := ((Blk.new (w.alloc (.cells (dC X) 83)) (dC Y) 83).alloc (.cells z8u 83)).alloc (.cells (uC 16 fun _ => 0) 81); simpa using h
  have B2 : Blk ((((w.alloc (.cells (dC X) 83)).alloc (.cells (dC Y) 83)).alloc (.cells z8u 83)).alloc (.cells (uC 16 fun _ => 0) 81)) (w.heap.size + 2) z8u 83 := by have h := (Blk.new ((w.alloc (.cells (dC X) 83)).alloc (.cells (dC Y) 83)) z8u 83).alloc (.cells (uC 16 fun _ => 0) 81); simpa using h
  have B3 : Blk ((((w.alloc (.cells (dC X) 83)).alloc (.cells (dC Y) 83)).alloc (.cells z8u 83)).alloc (.cells (uC 16 fun _ => 0) 81)) (w.heap.size + 3) (uC 16 fun _ => 0) 81 := by have h := Blk.new (((w.alloc (.cells (dC X) 83)).alloc (.cells (dC Y) 83)).alloc (.cells z8u 83)) (uC 16 fun _ => 0) 81; simpa using h
  have C0 : Chg w ((((w.alloc (.cells (dC X) 83)).alloc (.cells (dC Y) 83)).alloc (.cells z8u 83)).alloc (.cells (uC 16 fun _ => 0) 81)) [] := ((((Chg.refl w []).alloc _).alloc _).alloc _).alloc _
  have B3' := B3.to (uC_congr 16 _ (dg (X % 4294967296 ^ 0 * Y)) (fun i _ => by simp [dg, Nat.mod_one]))
  go_enter Tryz.func79, Tryz.ntmps79
  go_wp2_with fail
  clear hmk B3
  go_loopw [6] (fun t wr => ∃ i : Nat, i ≤ 8 ∧ t = .int .i64 (i : Int) ∧ Blk wr w.heap.size (dC X) 83 ∧ Blk wr (w.heap.size + 1) (dC Y) 83 ∧ Blk wr (w.heap.size + 2) z8u 83 ∧ Blk wr (w.heap.size + 3) (uC 16 (dg (X % 4294967296 ^ i * Y))) 81 ∧ Chg w wr []) (fun t _ => (8 - intOf t).toNat)
  case atStart => exact ⟨0, by omega, rfl, B0, B1, B2, B3', C0⟩
  case round =>
    obtain ⟨i, hi, rfl, b0, b1, b2, b3, c0⟩ := hrel
    clear B0 B1 B2 B3' C0
    by_cases h8 : i < 8
    · have hI : (i : Int) < 8 := by omega
      have hAb : Hid (X % 4294967296 ^ i * Y < 4294967296 ^ (i + 8)) := row_bd X Y i (by simpa using hY)
      have hAn : Hid (X % 4294967296 ^ i * Y + 4294967296 ^ i * (dg X i * (Y % 4294967296 ^ 8)) = X % 4294967296 ^ (i + 1) * Y) := by
        show X % 4294967296 ^ i * Y + 4294967296 ^ i * (dg X i * (Y % 4294967296 ^ 8)) = X % 4294967296 ^ (i + 1) * Y
        rw [Nat.mod_eq_of_lt (show Y < 4294967296 ^ 8 by simpa using hY), mod_succ, Nat.add_mul, Nat.mul_assoc]
      have cX := (b0.cell i).trans (uC_get 8 (dg X) i h8)
      have hx := dg_lt X i
      generalize X % 4294967296 ^ i * Y = A at *
      go_wp2_with fail
      go_loopw [8, 7] (fun t c wr => ∃ (k cy : Nat), k ≤ 8 ∧ t = .int .i64 (k : Int) ∧ c = .int .u64 ((cy : Nat) : Int) ∧ cy < 4294967296 ∧ Hid ((A + 4294967296 ^ i * (dg X i * (Y % 4294967296 ^ k))) / 4294967296 ^ (i + k) = A / 4294967296 ^ (i + k) + cy) ∧ Blk wr w.heap.size (dC X) 83 ∧ Blk wr (w.heap.size + 1) (dC Y) 83 ∧ Blk wr (w.heap.size + 2) z8u 83 ∧ Blk wr (w.heap.size + 3) (uC 16 (rowC (A + 4294967296 ^ i * (dg X i * (Y % 4294967296 ^ k))) A (i + k))) 81 ∧ Chg w wr []) (fun t _ _ => (8 - intOf t).toNat)
      case atStart =>
        refine ⟨0, 0, by omega, rfl, rfl, by omega, ?_, b0, b1, b2, b3.to (uC_congr 16 _ _ (fun j _ => ?_)), c0⟩
        · show (A + 4294967296 ^ i * (dg X i * (Y % 4294967296 ^ 0))) / 4294967296 ^ (i + 0) = A / 4294967296 ^ (i + 0) + 0
          simp [Nat.mod_one]
        · unfold rowC
          simp [Nat.mod_one]
      case round =>
        obtain ⟨k, cy, hk, rfl, rfl, hcy, hF, d0, d1, d2, d3, e0⟩ := hrel
        clear b0 b1 b2 b3 c0 cX
        by_cases hk8 : k < 8
        · have hKI : (k : Int) < 8 := by omega
          have hIK : ((i : Nat) : Int) + ((k : Nat) : Int) = ((i + k : Nat) : Int) := by omega
          have hIKl : ((i + k : Nat) : Int) < 16 := by omega
          have hy := dg_lt Y k
          have cX := (d0.cell i).trans (uC_get 8 (dg X) i h8)
          have cY := (d1.cell k).trans (uC_get 8 (dg Y) k hk8)
          have cL := (d3.cell (i + k)).trans ((uC_get 16 _ (i + k) (by omega)).trans (by rw [rowC_at]))
          have fL := d3.frozen (i + k)
          have hp := p32 (dg X i) (dg Y k) hx hy
          have hd := dg_lt A (i + k)
          have hn : Hid (A + 4294967296 ^ i * (dg X i * (Y % 4294967296 ^ (k + 1))) = A + 4294967296 ^ i * (dg X i * (Y % 4294967296 ^ k)) + 4294967296 ^ (i + k) * (dg X i * dg Y k)) := by
            show A + 4294967296 ^ i * (dg X i * (Y % 4294967296 ^ (k + 1))) = A + 4294967296 ^ i * (dg X i * (Y % 4294967296 ^ k)) + 4294967296 ^ (i + k) * (dg X i * dg Y k)
            rw [mod_succ, Nat.mul_add, Nat.mul_add, Nat.pow_add, ← Nat.add_assoc]
            congr 1
            rw [Nat.mul_assoc]
            congr 1
            rw [Nat.mul_left_comm]
          have hrc := row_cells _ A (i + k) cy (dg X i * dg Y k) hF.out
          have hrs := row_step _ A (i + k) cy (dg X i * dg Y k) hF.out
          rw [← hn.out] at hrc hrs
          have hw : IntKind.u64.wrap (((dg X i : Nat) : Int) * ((dg Y k : Nat) : Int)) = ((dg X i * dg Y k : Nat) : Int) := by rw [← Int.natCast_mul, IntKind.wrap_u64]; omega
          generalize dg X i * dg Y k = pr at *
          obtain ⟨lo, hlo⟩ : ∃ lo, lo = (cy + dg A (i + k) + pr) % 4294967296 := ⟨_, rfl⟩
          have w2 : (((cy : Nat) : Int) + ((dg A (i + k) : Nat) : Int) + ((pr : Nat) : Int)) % 4294967296 = ((lo : Nat) : Int) := by omega
          rw [← hlo] at hrc
          have w3 : Hid ((((cy : Nat) : Int) + ((dg A (i + k) : Nat) : Int) + ((pr : Nat) : Int)) / 4294967296 = (((cy + dg A (i + k) + pr) / 4294967296 : Nat) : Int)) := (by omega : (((cy : Nat) : Int) + ((dg A (i + k) : Nat) : Int) + ((pr : Nat) : Int)) / 4294967296 = (((cy + dg A (i + k) + pr) / 4294967296 : Nat) : Int))
          have hcn : (cy + dg A (i + k) + pr) / 4294967296 < 4294967296 := by omega
          have hFn : Hid ((A + 4294967296 ^ i * (dg X i * (Y % 4294967296 ^ (k + 1)))) / 4294967296 ^ (i + (k + 1)) = A / 4294967296 ^ (i + (k + 1)) + (cy + dg A (i + k) + pr) / 4294967296) := hrs.2
          clear hrs hn hF
          have d3n : Blk (wr.setCell ⟨w.heap.size + 3, i + k, none⟩ (.int .u32 ((lo : Nat) : Int))) (w.heap.size + 3) (uC 16 (rowC (A + 4294967296 ^ i * (dg X i * (Y % 4294967296 ^ (k + 1)))) A (i + (k + 1)))) 81 := (d3.setCell (i + k) _).to (by rw [uC_set, hrc]; rfl)
          have d0n := d0.setOther (show ¬ w.heap.size = w.heap.size + 3 by omega) (i + k) (.int .u32 ((lo : Nat) : Int))
          have d1n := d1.setOther (show ¬ w.heap.size + 1 = w.heap.size + 3 by omega) (i + k) (.int .u32 ((lo : Nat) : Int))
          have d2n := d2.setOther (show ¬ w.heap.size + 2 = w.heap.size + 3 by omega) (i + k) (.int .u32 ((lo : Nat) : Int))
          have en := e0.setNew (show w.heap.size ≤ w.heap.size + 3 by omega) (i + k) (.int .u32 ((lo : Nat) : Int))
          clear d0 d1 d2 d3 e0 hrc hlo
          generalize hsk : i + k = s at *
          clear hsk
          go_wp2_with fail
          go_region
          go_wp2_with fail
          exact ⟨⟨k + 1, _, by omega, by go_num, by rw [w3.out], hcn, hFn, d0n.drew, d1n.drew, d2n.drew, d3n.drew, en.drew⟩, by simp [intOf]; omega⟩
        · have hk9 : k = 8 := by omega
          subst hk9
          have hIK : ((i : Nat) : Int) + 8 = ((i + 8 : Nat) : Int) := by omega
          have hIKl : ((i + 8 : Nat) : Int) < 16 := by omega
          have cL := (d3.cell (i + 8)).trans (uC_get 16 _ (i + 8) (by omega))
          have fL := d3.frozen (i + 8)
          have hre := row_end _ A (i + 8) cy hAb.out hF.out hcy
          rw [hAn.out] at hre
          have w2 : ((cy : Nat) : Int) % 4294967296 = ((cy : Nat) : Int) := by omega
          have d3n : Blk (wr.setCell ⟨w.heap.size + 3, i + 8, none⟩ (.int .u32 ((cy : Nat) : Int))) (w.heap.size + 3) (uC 16 (dg (X % 4294967296 ^ (i + 1) * Y))) 81 := (d3.setCell (i + 8) _).to (by rw [uC_set, hAn.out, hre])
          have d0n := d0.setOther (show ¬ w.heap.size = w.heap.size + 3 by omega) (i + 8) (.int .u32 ((cy : Nat) : Int))
          have d1n := d1.setOther (show ¬ w.heap.size + 1 = w.heap.size + 3 by omega) (i + 8) (.int .u32 ((cy : Nat) : Int))
          have d2n := d2.setOther (show ¬ w.heap.size + 2 = w.heap.size + 3 by omega) (i + 8) (.int .u32 ((cy : Nat) : Int))
          have en := e0.setNew (show w.heap.size ≤ w.heap.size + 3 by omega) (i + 8) (.int .u32 ((cy : Nat) : Int))
          clear d0 d1 d2 d3 e0 hre hF hAb hAn
          generalize hsk : i + 8 = s at *
          clear hsk
          go_wp2_with fail
          exact ⟨⟨i + 1, by omega, by go_num, d0n, d1n, d2n, d3n, en⟩, by simp [intOf]; omega⟩
    · have h9 : i = 8 := by omega
      subst h9
      rw [Nat.mod_eq_of_lt (show X < 4294967296 ^ 8 by simpa using hX)] at b3
      have hnv : Hid (nv (dg (X * Y)) 0 16 = X * Y) := by
        show nv (dg (X * Y)) 0 16 = X * Y
        rw [nv_dg, Nat.pow_zero, Nat.div_one]
        refine Nat.mod_eq_of_lt ?_
        have := Nat.mul_lt_mul'' hX hY
        exact Nat.lt_of_lt_of_le this (by decide)
      go_wp2_with fail
      refine (mod_r (w.heap.size + 3) 0 16 16 (dg (X * Y)) (by decide) _ (Us.of b3 (fun i _ => dg_lt _ _))).mono ?_
      rintro e v4 ⟨rfl, k⟩
      rw [hnv.out]
      replace b2 := b2.chg k (by simp)
      replace c0 := c0.trans1 k
      go_wp2_with (refine wpList_store_row rfl 83 _ _ rfl (w.heap.size + 2) _ rfl rfl 83 _ b2 (by rw [dC_size]; exact NumInfo) (by rw [dC_size]; rfl) (dC_one _) ?_)
      exact bodyPost_ret (results_cell_row Tryz.results79 _ _ (w.heap.size + 2) 83 (dC (X * Y % LN)) (0, 0) _ rfl (Blk.setRow b2 _) Tryz.underlying83 rfl (by rw [dC_size]; exact NumInfo)) rfl ⟨rfl, c0.setRowNew (by omega) _⟩
end Go.Proofs.YtcagkcglmcafgaaGreat
