/- rimeref12.times. -/
import Derived.Test.YtnopkojpgemldaaSrMod
set_option linter.unusedVariables false
set_option linter.unusedSimpArgs false
set_option linter.unnecessarySimpa false
namespace Go.Proofs.Ytnopkojpgemldaa
open Go.RowKit

theorem u32Info : (Try.prog.info? 36).map (·.size) = some 1 := by kernel_rfl
theorem made_u32 (n : Nat) : madeCells #[.int .u32 0] n = uC n fun _ => 0 := by
  apply Array.ext_getElem?
  intro i
  by_cases hi : i < n
  · rw [uC_get n _ i hi]
    have hs : i < (Array.range n).size := by simpa using hi
    unfold madeCells
    rw [Array.getElem?_map, Array.getElem?_eq_getElem hs]
    simp [Nat.mod_one]
  · rw [uC_none n _ i hi, Array.getElem?_eq_none (by rw [size_madeCells]; omega)]
theorem u32Zero : ∃ i : TypeInfo, Try.prog.info? 36 = some i ∧ i.zero = some (.int .u32 0) ∧ i.bytes = 4 ∧ i.size = 1 := by
  have h : (Try.prog.info? 36).map (fun i => (i.zero, i.bytes, i.size)) = some (some (.int .u32 0), 4, 1) := by kernel_rfl
  cases hi : Try.prog.info? 36 with
  | none => rw [hi] at h; cases h
  | some i =>
    rw [hi] at h
    injection h with h
    injection h with h1 h2
    injection h2 with h2 h3
    exact ⟨i, rfl, h1, h2, h3⟩
theorem mkU (n : Nat) (hn : n ≤ 70368744177664) (w : World) : (Instr.makeSlice 123 (.int .i64 (n : Int)) (.int .i64 (n : Int))).run Try.prog w = .ok (.slice (some ⟨w.heap.size, 0, none⟩) n n) (w.alloc (.cells (uC n fun _ => 0) 36)) := by
  obtain ⟨i, hi, hz, hb, hs⟩ := u32Zero
  have h := run_make (P := Try.prog) w 123 36 i (.int .u32 0) Try.underlying123 hi hz .i64 .i64 (n : Int) (n : Int) (by omega) (by omega) (by rw [hb]; omega) (by omega)
  rw [hs, Nat.mul_one] at h
  simp only [Int.toNat_natCast, Value.cells, made_u32] at h
  exact h

/-- The cells within a row of the product: below place m F's digits, from it on A's. -/
def rowC (F A m : Nat) : Nat → Nat := fun j => if j < m then dg F j else dg A j
theorem rowC_at (F A m : Nat) : rowC F A m m = dg A m := if_neg (by omega)
theorem dg_low (F p m j : Nat) (h : j < m) : dg (F + 4294967296 ^ m * p) j = dg F j := by
  unfold dg
  obtain ⟨r, rfl⟩ : ∃ r, m = j + (r + 1) := ⟨m - j - 1, by omega⟩
  rw [Nat.pow_add, Nat.mul_assoc, Nat.add_mul_div_left _ _ (Nat.pow_pos (by decide)), Nat.pow_succ, Nat.mul_comm (4294967296 ^ r), Nat.mul_assoc, Nat.add_mul_mod_self_left]
/-- One step within a row. -/
theorem row_step (F A m c p : Nat) (h : F / 4294967296 ^ m = A / 4294967296 ^ m + c) :
    dg (F + 4294967296 ^ m * p) m = (c + dg A m + p) % 4294967296 ∧ (F + 4294967296 ^ m * p) / 4294967296 ^ (m + 1) = A / 4294967296 ^ (m + 1) + (c + dg A m + p) / 4294967296 := by
  unfold dg
  have hP : 0 < 4294967296 ^ m := Nat.pow_pos (by decide)
  rw [Nat.pow_succ, ← Nat.div_div_eq_div_mul, ← Nat.div_div_eq_div_mul, Nat.add_mul_div_left _ _ hP, h]
  generalize A / 4294967296 ^ m = a
  omega
theorem row_cells (F A m c p : Nat) (h : F / 4294967296 ^ m = A / 4294967296 ^ m + c) : upd (rowC F A m) m ((c + dg A m + p) % 4294967296) = rowC (F + 4294967296 ^ m * p) A (m + 1) := by
  funext j
  unfold upd rowC
  by_cases e : j = m
  · subst e; rw [if_pos rfl, if_pos (by omega), (row_step F A j c p h).1]
  · rw [if_neg e]
    by_cases e2 : j < m
    · rw [if_pos e2, if_pos (by omega), dg_low F p m j e2]
    · rw [if_neg e2, if_neg (by omega)]
theorem dg_zero_high (A m j : Nat) (h : A < 4294967296 ^ m) (hj : m ≤ j) : dg A j = 0 := by
  unfold dg
  have : 4294967296 ^ m ≤ 4294967296 ^ j := Nat.pow_le_pow_right (by decide) hj
  rw [Nat.div_eq_of_lt (by omega)]
/-- The last cell of a row. -/
theorem row_end (F A m c : Nat) (hA : A < 4294967296 ^ m) (hF : F / 4294967296 ^ m = A / 4294967296 ^ m + c) (hc : c < 4294967296) : upd (rowC F A m) m c = dg F := by
  have hAz : A / 4294967296 ^ m = 0 := Nat.div_eq_of_lt hA
  rw [hAz, Nat.zero_add] at hF
  have hP : 0 < 4294967296 ^ m := Nat.pow_pos (by decide)
  have hFl : F < 4294967296 ^ (m + 1) := by
    have := Nat.lt_mul_div_succ F hP
    rw [hF] at this
    rw [Nat.pow_succ]
    exact Nat.lt_of_lt_of_le this (Nat.mul_le_mul_left _ (by omega))
  funext j
  unfold upd rowC
  by_cases e : j = m
  · subst e; rw [if_pos rfl]; unfold dg; rw [hF]; omega
  · rw [if_neg e]
    by_cases e2 : j < m
    · rw [if_pos e2]
    · rw [if_neg e2, dg_zero_high A m j hA (by omega), dg_zero_high F (m + 1) j hFl (by omega)]
theorem mod_succ (X i : Nat) : X % 4294967296 ^ (i + 1) = X % 4294967296 ^ i + 4294967296 ^ i * dg X i := by
  rw [Nat.pow_succ, Nat.mod_mul]; rfl
theorem row_bd (X Y i : Nat) (hY : Y < 4294967296 ^ 5) : X % 4294967296 ^ i * Y < 4294967296 ^ (i + 5) := by
  rw [Nat.pow_add]
  have hP : 0 < 4294967296 ^ i := Nat.pow_pos (by decide)
  have h1 := Nat.mod_lt X hP
  exact Nat.mul_lt_mul'' h1 hY
theorem p32 (x y : Nat) (hx : x < 4294967296) (hy : y < 4294967296) : x * y ≤ 18446744065119617025 := Nat.mul_le_mul (show x ≤ 4294967295 by omega) (show y ≤ 4294967295 by omega)

set_option maxHeartbeats 4000000 in
set_option maxRecDepth 100000 in
theorem times_r (X Y : Nat) (hX : X < 1461501637330902918203684832716283019655932542976) (hY : Y < 1461501637330902918203684832716283019655932542976) (w : World) :
    Calls Try.prog 61 #[.agg (dC X), .agg (dC Y)] w fun e w' => e = .returned (.agg (dC (X * Y % PP))) ∧ Chg w w' [] := by
  have hmk : ∀ w : World, (Instr.makeSlice 123 (.int .i64 10) (.int .i64 10)).run Try.prog w = .ok (.slice (some ⟨w.heap.size, 0, none⟩) 10 10) (w.alloc (.cells (uC 10 fun _ => 0) 36)) := fun w => mkU 10 (by decide) w
  have B0 : Blk ((((w.alloc (.cells (dC X) 101)).alloc (.cells (dC Y) 101)).alloc (.cells z5u 101)).alloc (.cells (uC 10 fun _ => 0) 36)) w.heap.size (dC X) 101 := (((Blk.new w (dC X) 101).alloc _).alloc _).alloc _
  have B1 : Blk ((((w.alloc (.cells (dC X) 101)).alloc (.cells (dC Y) 101)).alloc (.cells z5u 101)).alloc (.cells (uC 10 fun _ => 0) 36)) (w.heap.size + 1) (dC Y) 101 := by have h := ((Blk.new (w.alloc (.cells (dC X) 101)) (dC Y) 101).alloc (.cells z5u 101)).alloc (.cells (uC 10 fun _ => 0) 36); simpa using h
  have B2 : Blk ((((w.alloc (.cells (dC X) 101)).alloc (.cells (dC Y) 101)).alloc (.cells z5u 101)).alloc (.cells (uC 10 fun _ => 0) 36)) (w.heap.size + 2) z5u 101 := by have h := (Blk.new ((w.alloc (.cells (dC X) 101)).alloc (.cells (dC Y) 101)) z5u 101).alloc (.cells (uC 10 fun _ => 0) 36); simpa using h
  have B3 : Blk ((((w.alloc (.cells (dC X) 101)).alloc (.cells (dC Y) 101)).alloc (.cells z5u 101)).alloc (.cells (uC 10 fun _ => 0) 36)) (w.heap.size + 3) (uC 10 fun _ => 0) 36 := by have h := Blk.new (((w.alloc (.cells (dC X) 101)).alloc (.cells (dC Y) 101)).alloc (.cells z5u 101)) (uC 10 fun _ => 0) 36; simpa using h
  have C0 : Chg w ((((w.alloc (.cells (dC X) 101)).alloc (.cells (dC Y) 101)).alloc (.cells z5u 101)).alloc (.cells (uC 10 fun _ => 0) 36)) [] := ((((Chg.refl w []).alloc _).alloc _).alloc _).alloc _
  have B3' := B3.to (uC_congr 10 _ (dg (X % 4294967296 ^ 0 * Y)) (fun i _ => by simp [dg, Nat.mod_one]))
  go_enter Try.func61, Try.ntmps61
  go_wp2_with fail
  clear hmk B3
  go_loopw [6] (fun t wr => ∃ i : Nat, i ≤ 5 ∧ t = .int .i64 (i : Int) ∧ Blk wr w.heap.size (dC X) 101 ∧ Blk wr (w.heap.size + 1) (dC Y) 101 ∧ Blk wr (w.heap.size + 2) z5u 101 ∧ Blk wr (w.heap.size + 3) (uC 10 (dg (X % 4294967296 ^ i * Y))) 36 ∧ Chg w wr []) (fun t _ => (5 - intOf t).toNat)
  case atStart => exact ⟨0, by omega, rfl, B0, B1, B2, B3', C0⟩
  case round =>
    obtain ⟨i, hi, rfl, b0, b1, b2, b3, c0⟩ := hrel
    clear B0 B1 B2 B3' C0
    by_cases h5 : i < 5
    · have hI : (i : Int) < 5 := by omega
      have hAb : Hid (X % 4294967296 ^ i * Y < 4294967296 ^ (i + 5)) := row_bd X Y i (by simpa using hY)
      have hAn : Hid (X % 4294967296 ^ i * Y + 4294967296 ^ i * (dg X i * (Y % 4294967296 ^ 5)) = X % 4294967296 ^ (i + 1) * Y) := by
        show X % 4294967296 ^ i * Y + 4294967296 ^ i * (dg X i * (Y % 4294967296 ^ 5)) = X % 4294967296 ^ (i + 1) * Y
        rw [Nat.mod_eq_of_lt (show Y < 4294967296 ^ 5 by simpa using hY), mod_succ, Nat.add_mul, Nat.mul_assoc]
      have cX := (b0.cell i).trans (uC_get 5 (dg X) i h5)
      have hx := dg_lt X i
      generalize X % 4294967296 ^ i * Y = A at *
      go_wp2_with fail
      go_loopw [8, 7] (fun t c wr => ∃ (k cy : Nat), k ≤ 5 ∧ t = .int .i64 (k : Int) ∧ c = .int .u64 ((cy : Nat) : Int) ∧ cy < 4294967296 ∧ Hid ((A + 4294967296 ^ i * (dg X i * (Y % 4294967296 ^ k))) / 4294967296 ^ (i + k) = A / 4294967296 ^ (i + k) + cy) ∧ Blk wr w.heap.size (dC X) 101 ∧ Blk wr (w.heap.size + 1) (dC Y) 101 ∧ Blk wr (w.heap.size + 2) z5u 101 ∧ Blk wr (w.heap.size + 3) (uC 10 (rowC (A + 4294967296 ^ i * (dg X i * (Y % 4294967296 ^ k))) A (i + k))) 36 ∧ Chg w wr []) (fun t _ _ => (5 - intOf t).toNat)
      case atStart =>
        refine ⟨0, 0, by omega, rfl, rfl, by omega, ?_, b0, b1, b2, b3.to (uC_congr 10 _ _ (fun j _ => ?_)), c0⟩
        · show (A + 4294967296 ^ i * (dg X i * (Y % 4294967296 ^ 0))) / 4294967296 ^ (i + 0) = A / 4294967296 ^ (i + 0) + 0
          simp [Nat.mod_one]
        · unfold rowC
          simp [Nat.mod_one]
      case round =>
        obtain ⟨k, cy, hk, rfl, rfl, hcy, hF, d0, d1, d2, d3, e0⟩ := hrel
        clear b0 b1 b2 b3 c0 cX
        by_cases hk5 : k < 5
        · have hKI : (k : Int) < 5 := by omega
          have hIK : ((i : Nat) : Int) + ((k : Nat) : Int) = ((i + k : Nat) : Int) := by omega
          have hIKl : ((i + k : Nat) : Int) < 10 := by omega
          have hy := dg_lt Y k
          have cX := (d0.cell i).trans (uC_get 5 (dg X) i h5)
          have cY := (d1.cell k).trans (uC_get 5 (dg Y) k hk5)
          have cL := (d3.cell (i + k)).trans ((uC_get 10 _ (i + k) (by omega)).trans (by rw [rowC_at]))
          have fL := d3.frozen (i + k)
          have hp := p32 (dg X i) (dg Y k) hx hy
          have hd := dg_lt A (i + k)
          have hn : Hid (A + 4294967296 ^ i * (dg X i * (Y % 4294967296 ^ (k + 1))) = A + 4294967296 ^ i * (dg X i * (Y % 4294967296 ^ k)) + 4294967296 ^ (i + k) * (dg X i * dg Y k)) := by
            show A + 4294967296 ^ i * (dg X i * (Y % 4294967296 ^ (k + 1))) = A + 4294967296 ^ i * (dg X i * (Y % 4294967296 ^ k)) + 4294967296 ^ (i + k) * (dg X i * dg Y k)
            rw [mod_succ, Nat.mul_add, Nat.mul_add, Nat.pow_add, ← Nat.add_assoc]
            congr 1
            rw [Nat.mul_assoc]
            congr 1
            rw [Nat.mul_left_comm]
          have hrc := row_cells _ A (i + k) cy (dg X i * dg Y k) hF.out
          have hrs := row_step _ A (i + k) cy (dg X i * dg Y k) hF.out
          rw [← hn.out] at hrc hrs
          have hw : IntKind.u64.wrap (((dg X i : Nat) : Int) * ((dg Y k : Nat) : Int)) = ((dg X i * dg Y k : Nat) : Int) := by rw [← Int.natCast_mul, IntKind.wrap_u64]; omega
          generalize dg X i * dg Y k = pr at *
          obtain ⟨lo, hlo⟩ : ∃ lo, lo = (cy + dg A (i + k) + pr) % 4294967296 := ⟨_, rfl⟩
          have w2 : (((cy : Nat) : Int) + ((dg A (i + k) : Nat) : Int) + ((pr : Nat) : Int)) % 4294967296 = ((lo : Nat) : Int) := by omega
          rw [← hlo] at hrc
          have w3 : Hid ((((cy : Nat) : Int) + ((dg A (i + k) : Nat) : Int) + ((pr : Nat) : Int)) / 4294967296 = (((cy + dg A (i + k) + pr) / 4294967296 : Nat) : Int)) := (by omega : (((cy : Nat) : Int) + ((dg A (i + k) : Nat) : Int) + ((pr : Nat) : Int)) / 4294967296 = (((cy + dg A (i + k) + pr) / 4294967296 : Nat) : Int))
          have hcn : (cy + dg A (i + k) + pr) / 4294967296 < 4294967296 := by omega
          have hFn : Hid ((A + 4294967296 ^ i * (dg X i * (Y % 4294967296 ^ (k + 1)))) / 4294967296 ^ (i + (k + 1)) = A / 4294967296 ^ (i + (k + 1)) + (cy + dg A (i + k) + pr) / 4294967296) := hrs.2
          clear hrs hn hF
          have d3n : Blk (wr.setCell ⟨w.heap.size + 3, i + k, none⟩ (.int .u32 ((lo : Nat) : Int))) (w.heap.size + 3) (uC 10 (rowC (A + 4294967296 ^ i * (dg X i * (Y % 4294967296 ^ (k + 1)))) A (i + (k + 1)))) 36 := (d3.setCell (i + k) _).to (by rw [uC_set, hrc]; rfl)
          have d0n := d0.setOther (show ¬ w.heap.size = w.heap.size + 3 by omega) (i + k) (.int .u32 ((lo : Nat) : Int))
          have d1n := d1.setOther (show ¬ w.heap.size + 1 = w.heap.size + 3 by omega) (i + k) (.int .u32 ((lo : Nat) : Int))
          have d2n := d2.setOther (show ¬ w.heap.size + 2 = w.heap.size + 3 by omega) (i + k) (.int .u32 ((lo : Nat) : Int))
          have en := e0.setNew (show w.heap.size ≤ w.heap.size + 3 by omega) (i + k) (.int .u32 ((lo : Nat) : Int))
          clear d0 d1 d2 d3 e0 hrc hlo
          generalize hsk : i + k = s at *
          clear hsk
          go_wp2_with fail
          go_region
          go_wp2_with fail
          exact ⟨⟨k + 1, _, by omega, by go_num, by rw [w3.out], hcn, hFn, d0n.drew, d1n.drew, d2n.drew, d3n.drew, en.drew⟩, by simp [intOf]; omega⟩
        · have hk9 : k = 5 := by omega
          subst hk9
          have hIK : ((i : Nat) : Int) + 5 = ((i + 5 : Nat) : Int) := by omega
          have hIKl : ((i + 5 : Nat) : Int) < 10 := by omega
          have cL := (d3.cell (i + 5)).trans (uC_get 10 _ (i + 5) (by omega))
          have fL := d3.frozen (i + 5)
          have hre := row_end _ A (i + 5) cy hAb.out hF.out hcy
          rw [hAn.out] at hre
          have w2 : ((cy : Nat) : Int) % 4294967296 = ((cy : Nat) : Int) := by omega
          have d3n : Blk (wr.setCell ⟨w.heap.size + 3, i + 5, none⟩ (.int .u32 ((cy : Nat) : Int))) (w.heap.size + 3) (uC 10 (dg (X % 4294967296 ^ (i + 1) * Y))) 36 := (d3.setCell (i + 5) _).to (by rw [uC_set, hAn.out, hre])
          have d0n := d0.setOther (show ¬ w.heap.size = w.heap.size + 3 by omega) (i + 5) (.int .u32 ((cy : Nat) : Int))
          have d1n := d1.setOther (show ¬ w.heap.size + 1 = w.heap.size + 3 by omega) (i + 5) (.int .u32 ((cy : Nat) : Int))
          have d2n := d2.setOther (show ¬ w.heap.size + 2 = w.heap.size + 3 by omega) (i + 5) (.int .u32 ((cy : Nat) : Int))
          have en := e0.setNew (show w.heap.size ≤ w.heap.size + 3 by omega) (i + 5) (.int .u32 ((cy : Nat) : Int))
          clear d0 d1 d2 d3 e0 hre hF hAb hAn
          generalize hsk : i + 5 = s at *
          clear hsk
          go_wp2_with fail
          exact ⟨⟨i + 1, by omega, by go_num, d0n, d1n, d2n, d3n, en⟩, by simp [intOf]; omega⟩
    · have h9 : i = 5 := by omega
      subst h9
      rw [Nat.mod_eq_of_lt (show X < 4294967296 ^ 5 by simpa using hX)] at b3
      have hnv : Hid (nv (dg (X * Y)) 0 10 = X * Y) := by
        show nv (dg (X * Y)) 0 10 = X * Y
        rw [nv_dg, Nat.pow_zero, Nat.div_one]
        refine Nat.mod_eq_of_lt ?_
        have := Nat.mul_lt_mul'' hX hY
        exact Nat.lt_of_lt_of_le this (by decide)
      go_wp2_with fail
      refine (mod_r (w.heap.size + 3) 0 10 10 (dg (X * Y)) (by decide) _ (Us.of b3 (fun i _ => dg_lt _ _))).mono ?_
      rintro e v4 ⟨rfl, k⟩
      rw [hnv.out]
      replace b2 := b2.chg k (by simp)
      replace c0 := c0.trans1 k
      go_wp2_with (refine wpList_store_row rfl 101 _ _ rfl (w.heap.size + 2) _ rfl rfl 101 _ b2 (by rw [dC_size]; exact NumInfo) (by rw [dC_size]; rfl) (dC_one _) ?_)
      exact bodyPost_ret (results_cell_row Try.results61 _ _ (w.heap.size + 2) 101 (dC (X * Y % PP)) (0, 0) _ rfl (Blk.setRow b2 _) Try.underlying101 rfl (by rw [dC_size]; exact NumInfo)) rfl ⟨rfl, c0.setRowNew (by omega) _⟩
end Go.Proofs.Ytnopkojpgemldaa
