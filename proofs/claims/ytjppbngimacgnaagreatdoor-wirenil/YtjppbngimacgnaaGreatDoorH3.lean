/- compress: the state behind a block. -/
import Derived.Test.YtjppbngimacgnaaGreatDoorH2
set_option linter.unusedVariables false
set_option linter.unusedSimpArgs false
set_option linter.unnecessarySimpa false
namespace Go.Proofs.YtjppbngimacgnaaGreatDoor
open Go.RowKit

theorem wr64 {a b c : Nat} (h : (a + b) % 18446744073709551616 = c) : IntKind.u64.wrap ((a : Int) + (b : Int)) = (c : Int) := by rw [IntKind.wrap_u64]; omega
/-- The eighty constants, where the program keeps them. -/
structure Kc (w : World) (k : Nat → Nat) : Prop where
  lt : 3 < w.heap.size
  bd : ∀ i, i < 80 → U (k i)
  cell : ∀ i, i < 80 → w.cell? ⟨3, i, none⟩ = some (.int .u64 ((k i : Nat) : Int))
theorem Kc.chg {w w' : World} {k : Nat → Nat} {ch : List Nat} (h : Kc w k) (hc : Chg w w' ch) (hb : ¬ 3 ∈ ch) : Kc w' k := by
  have e := hc.block 3 h.lt hb
  exact ⟨Nat.lt_of_lt_of_le h.lt hc.size, h.bd, fun i hi => by rw [← h.cell i hi]; simp [World.cell?, e]⟩
theorem front_cell {w : World} {z : Nat} {s : Nat → Nat} {rest : Array Value} {T : TypeId} (h : Blk w z (vC 8 s ++ rest) T) (i : Nat) (hi : i < 8) : w.cell? ⟨z, i, none⟩ = some (.int .u64 (s i)) := by
  rw [h.cell, Array.getElem?_append_left (by rw [vC_size]; exact hi), vC_get _ _ _ hi]
theorem front_set {w : World} {z : Nat} {s : Nat → Nat} {rest : Array Value} {T : TypeId} (h : Blk w z (vC 8 s ++ rest) T) (i v : Nat) (hi : i < 8) : Blk (w.setCell ⟨z, i, none⟩ (.int .u64 v)) z (vC 8 (up s i v) ++ rest) T :=
  (h.setCell i (.int .u64 v)).to (by rw [Array.setIfInBounds_append_left (by rw [vC_size]; exact hi), vC_set])
theorem zero80 : Tryz.zeroCells165 = vC 80 fun _ => 0 := by kernel_rfl

set_option maxHeartbeats 8000000 in
set_option maxRecDepth 100000 in
theorem compress_s (z g o c : Nat) (k s b : Nat → Nat) (rest : Array Value) (T : TypeId) (w : World) (hc : 128 ≤ c) (hc2 : c ≤ 9223372036854775807) (hK : Kc w k) (hs : ∀ i, i < 8 → U (s i))
    (hb : Bs w g o 128 b) (hz : Blk w z (vC 8 s ++ rest) T) (hz0 : ¬ z = 3) :
    Calls Tryz.prog 76 #[.pointer (some ⟨z, 0, none⟩), .slice (some ⟨g, o, none⟩) 128 c] w fun e w' => e = .returned (.tuple #[]) ∧ Blk w' z (vC 8 (cmp k s b) ++ rest) T ∧ Chg w w' [z] := by
  have hbd := hb.bd
  have zlt := hz.lt
  have glt := hb.lt
  have klt := hK.lt
  go_enter Tryz.func76, Tryz.ntmps76
  go_wp2_with fail
  have Z0 : Blk (w.alloc (.cells Tryz.zeroCells165 165)) w.heap.size (vC 80 fun _ => 0) 165 := (Blk.new w _ _).to zero80
  refine (spread_s w.heap.size g o c b _ hc hc2 (hb.chg ((Chg.refl w []).alloc _) (by simp)) Z0 (by omega)).mono ?_
  rintro e v1 ⟨rfl, Z1, k1⟩
  have C1 : Chg w v1 [] := ((Chg.refl w []).alloc _).new k1 (Nat.le_refl _)
  replace hz := hz.chg C1 (by simp)
  replace hK := hK.chg C1 (by simp)
  clear Z0 k1 hb glt
  obtain ⟨y, hy⟩ : ∃ y, w.heap.size = y := ⟨_, rfl⟩
  rw [hy] at Z1 zlt ⊢
  have ylt := Z1.lt
  have HS : Hid (∀ i, U (sw b i)) := fun i => sw_lt hbd i
  have HY : Hid (w.heap.size = y) := hy
  clear hy
  have h0 := front_cell hz 0 (by omega)
  have h1 := front_cell hz 1 (by omega)
  have h2 := front_cell hz 2 (by omega)
  have h3 := front_cell hz 3 (by omega)
  have h4 := front_cell hz 4 (by omega)
  have h5 := front_cell hz 5 (by omega)
  have h6 := front_cell hz 6 (by omega)
  have h7 := front_cell hz 7 (by omega)
  go_wp2_with fail
  go_quiet (fail)
  go_wp2_with fail
  clear h0
  clear h1
  clear h2
  clear h3
  clear h4
  clear h5
  clear h6
  clear h7
  go_loopw [50, 5, 6, 7, 8, 9, 10, 11, 12] (fun t x0 x1 x2 x3 x4 x5 x6 x7 wr => ∃ i : Nat, i ≤ 80 ∧ t = .int .i64 (i : Int) ∧ x0 = .int .u64 ((rds k (sw b) (r8 s) i).a : Nat) ∧ x1 = .int .u64 ((rds k (sw b) (r8 s) i).b : Nat) ∧ x2 = .int .u64 ((rds k (sw b) (r8 s) i).c : Nat) ∧ x3 = .int .u64 ((rds k (sw b) (r8 s) i).d : Nat) ∧ x4 = .int .u64 ((rds k (sw b) (r8 s) i).e : Nat) ∧ x5 = .int .u64 ((rds k (sw b) (r8 s) i).f : Nat) ∧ x6 = .int .u64 ((rds k (sw b) (r8 s) i).g : Nat) ∧ x7 = .int .u64 ((rds k (sw b) (r8 s) i).h : Nat) ∧ Chg v1 wr []) (fun t _ _ _ _ _ _ _ _ _ => (80 - intOf t).toNat)
  case atStart => exact ⟨0, by omega, rfl, rfl, rfl, rfl, rfl, rfl, rfl, rfl, rfl, (Chg.refl v1 _).drewN _⟩
  case round =>
    obtain ⟨i, hi, rfl, rfl, rfl, rfl, rfl, rfl, rfl, rfl, rfl, c0⟩ := hrel
    by_cases h8 : i < 80
    · have hI : (i : Int) < 80 := by omega
      have HN : Hid (rds k (sw b) (r8 s) (i + 1) = rd (rds k (sw b) (r8 s) i) (k i) (sw b i)) := rfl
      have hU := rds_U k (sw b) (r8_U hs) i
      generalize rds k (sw b) (r8 s) i = r at *
      obtain ⟨⟨ua, ub, uc, ud⟩, ue, uf, ug, uh⟩ := hU
      have uk := hK.bd i h8
      have uw := HS.out i
      have ck := (hK.chg c0 (by simp)).cell i h8
      have cw := ((Z1.chg c0 (by simp)).cell i).trans (vC_get 80 _ i h8)
      obtain ⟨a, b', c', d, e', f, g', h⟩ := r
      simp only at ua ub uc ud ue uf ug uh ⊢
      obtain ⟨q1, hq1⟩ : ∃ x, tr 14 18 41 e' = x := ⟨_, rfl⟩
      obtain ⟨q2, hq2⟩ : ∃ x, chc e' f g' = x := ⟨_, rfl⟩
      obtain ⟨q3, hq3⟩ : ∃ x, tr 28 34 39 a = x := ⟨_, rfl⟩
      obtain ⟨q4, hq4⟩ : ∃ x, maj a b' c' = x := ⟨_, rfl⟩
      obtain ⟨kk, hkk⟩ : ∃ x, k i = x := ⟨_, rfl⟩
      obtain ⟨ww, hww⟩ : ∃ x, sw b i = x := ⟨_, rfl⟩
      have T1 := fun W => turned_14 e' ue W
      have T2 := fun W => choice_s e' f g' ue uf ug W
      have T3 := fun W => turned_28 a ua W
      have T4 := fun W => majority_s a b' c' ua ub uc W
      rw [hq1] at T1; rw [hq2] at T2; rw [hq3] at T3; rw [hq4] at T4
      rw [hkk] at ck HN; rw [hww] at cw HN
      obtain ⟨y1, hy1⟩ : ∃ x, (h + q1) % 18446744073709551616 = x := ⟨_, rfl⟩
      obtain ⟨y2, hy2⟩ : ∃ x, (y1 + q2) % 18446744073709551616 = x := ⟨_, rfl⟩
      obtain ⟨y3, hy3⟩ : ∃ x, (y2 + kk) % 18446744073709551616 = x := ⟨_, rfl⟩
      obtain ⟨y4, hy4⟩ : ∃ x, (y3 + ww) % 18446744073709551616 = x := ⟨_, rfl⟩
      obtain ⟨y5, hy5⟩ : ∃ x, (q3 + q4) % 18446744073709551616 = x := ⟨_, rfl⟩
      obtain ⟨y6, hy6⟩ : ∃ x, (y4 + y5) % 18446744073709551616 = x := ⟨_, rfl⟩
      obtain ⟨y7, hy7⟩ : ∃ x, (d + y4) % 18446744073709551616 = x := ⟨_, rfl⟩
      have HR : Hid (rds k (sw b) (r8 s) (i + 1) = ⟨y6, a, b', c', y7, e', f, g'⟩) := by
        show rds k (sw b) (r8 s) (i + 1) = _
        rw [HN.out]
        have e1 : t1 ⟨a, b', c', d, e', f, g', h⟩ kk ww = y4 := by unfold t1; simp only [hq1, hq2]; omega
        have e2 : t2 ⟨a, b', c', d, e', f, g', h⟩ = y5 := by unfold t2; simp only [hq3, hq4, hy5]
        unfold rd
        rw [e1, e2]
        simp only [hy6, hy7]
      have s1 := wr64 hy1; have s2 := wr64 hy2; have s3 := wr64 hy3; have s4 := wr64 hy4; have s5 := wr64 hy5; have s6 := wr64 hy6; have s7 := wr64 hy7
      clear hy1 hy2 hy3 hy4 hy5 hy6 hy7 hq1 hq2 hq3 hq4 hkk hww HN ua ub uc ud ue uf ug uh uk uw
      go_wp2_with fail
      go_quiet (first | (go_at_call 87; exact Calls.quiet_of_same (T1 _)) | (go_at_call 88; exact Calls.quiet_of_same (T2 _)))
      go_wp2_with fail
      refine (T3 _).mono ?_
      rintro e v2 ⟨rfl, rfl⟩
      go_wp2_with fail
      refine (T4 _).mono ?_
      rintro e v2 ⟨rfl, rfl⟩
      go_wp2_with fail
      refine ⟨⟨i + 1, by omega, by go_num, by rw [HR.out], by rw [HR.out], by rw [HR.out], by rw [HR.out], by rw [HR.out], by rw [HR.out], by rw [HR.out], by rw [HR.out], c0.drewN _⟩, by simp [intOf]; omega⟩
    · have h9 : i = 80 := by omega
      subst h9
      have HC : Hid (∀ j, cmp k s b j = (s j + (rds k (sw b) (r8 s) 80).at j) % 18446744073709551616) := fun j => rfl
      generalize rds k (sw b) (r8 s) 80 = r at *
      obtain ⟨r0, r1, r2, r3, r4, r5, r6, r7⟩ := r
      simp only [R8.at] at HC ⊢
      replace hz := hz.chg c0 (by simp)
      replace c0 := (C1.trans1 c0).wide (l := [z])
      clear C1 Z1 hK HS

      obtain ⟨n0, hn0⟩ : ∃ x, (s 0 + r0) % 18446744073709551616 = x := ⟨_, rfl⟩
      have a0 := wr64 hn0
      have HN0 : Hid ((s 0 + r0) % 18446744073709551616 = n0) := hn0
      clear hn0
      obtain ⟨n1, hn1⟩ : ∃ x, (s 1 + r1) % 18446744073709551616 = x := ⟨_, rfl⟩
      have a1 := wr64 hn1
      have HN1 : Hid ((s 1 + r1) % 18446744073709551616 = n1) := hn1
      clear hn1
      obtain ⟨n2, hn2⟩ : ∃ x, (s 2 + r2) % 18446744073709551616 = x := ⟨_, rfl⟩
      have a2 := wr64 hn2
      have HN2 : Hid ((s 2 + r2) % 18446744073709551616 = n2) := hn2
      clear hn2
      obtain ⟨n3, hn3⟩ : ∃ x, (s 3 + r3) % 18446744073709551616 = x := ⟨_, rfl⟩
      have a3 := wr64 hn3
      have HN3 : Hid ((s 3 + r3) % 18446744073709551616 = n3) := hn3
      clear hn3
      obtain ⟨n4, hn4⟩ : ∃ x, (s 4 + r4) % 18446744073709551616 = x := ⟨_, rfl⟩
      have a4 := wr64 hn4
      have HN4 : Hid ((s 4 + r4) % 18446744073709551616 = n4) := hn4
      clear hn4
      obtain ⟨n5, hn5⟩ : ∃ x, (s 5 + r5) % 18446744073709551616 = x := ⟨_, rfl⟩
      have a5 := wr64 hn5
      have HN5 : Hid ((s 5 + r5) % 18446744073709551616 = n5) := hn5
      clear hn5
      obtain ⟨n6, hn6⟩ : ∃ x, (s 6 + r6) % 18446744073709551616 = x := ⟨_, rfl⟩
      have a6 := wr64 hn6
      have HN6 : Hid ((s 6 + r6) % 18446744073709551616 = n6) := hn6
      clear hn6
      obtain ⟨n7, hn7⟩ : ∃ x, (s 7 + r7) % 18446744073709551616 = x := ⟨_, rfl⟩
      have a7 := wr64 hn7
      have HN7 : Hid ((s 7 + r7) % 18446744073709551616 = n7) := hn7
      clear hn7
      have ck : World.cell? wr ⟨z, 0, none⟩ = some (.int .u64 (s 0)) := front_cell hz 0 (by omega)
      have fk := hz.frozen 0
      go_wp2_with fail
      go_region
      go_wp2_with fail
      replace hz := (front_set hz 0 n0 (by omega)).drew
      replace c0 := (c0.setIn (k := z) (by simp) 0 (.int .u64 (n0 : Int))).drew
      clear ck fk a0
      generalize (World.setCell wr ⟨z, 0, none⟩ (.int .u64 (n0 : Int))).drew = ω0 at *
      have ck : World.cell? ω0 ⟨z, 1, none⟩ = some (.int .u64 (s 1)) := front_cell hz 1 (by omega)
      have fk := hz.frozen 1
      go_wp2_with fail
      go_region
      go_wp2_with fail
      replace hz := (front_set hz 1 n1 (by omega)).drew
      replace c0 := (c0.setIn (k := z) (by simp) 1 (.int .u64 (n1 : Int))).drew
      clear ck fk a1
      generalize (World.setCell ω0 ⟨z, 1, none⟩ (.int .u64 (n1 : Int))).drew = ω1 at *
      have ck : World.cell? ω1 ⟨z, 2, none⟩ = some (.int .u64 (s 2)) := front_cell hz 2 (by omega)
      have fk := hz.frozen 2
      go_wp2_with fail
      go_region
      go_wp2_with fail
      replace hz := (front_set hz 2 n2 (by omega)).drew
      replace c0 := (c0.setIn (k := z) (by simp) 2 (.int .u64 (n2 : Int))).drew
      clear ck fk a2
      generalize (World.setCell ω1 ⟨z, 2, none⟩ (.int .u64 (n2 : Int))).drew = ω2 at *
      have ck : World.cell? ω2 ⟨z, 3, none⟩ = some (.int .u64 (s 3)) := front_cell hz 3 (by omega)
      have fk := hz.frozen 3
      go_wp2_with fail
      go_region
      go_wp2_with fail
      replace hz := (front_set hz 3 n3 (by omega)).drew
      replace c0 := (c0.setIn (k := z) (by simp) 3 (.int .u64 (n3 : Int))).drew
      clear ck fk a3
      generalize (World.setCell ω2 ⟨z, 3, none⟩ (.int .u64 (n3 : Int))).drew = ω3 at *
      have ck : World.cell? ω3 ⟨z, 4, none⟩ = some (.int .u64 (s 4)) := front_cell hz 4 (by omega)
      have fk := hz.frozen 4
      go_wp2_with fail
      go_region
      go_wp2_with fail
      replace hz := (front_set hz 4 n4 (by omega)).drew
      replace c0 := (c0.setIn (k := z) (by simp) 4 (.int .u64 (n4 : Int))).drew
      clear ck fk a4
      generalize (World.setCell ω3 ⟨z, 4, none⟩ (.int .u64 (n4 : Int))).drew = ω4 at *
      have ck : World.cell? ω4 ⟨z, 5, none⟩ = some (.int .u64 (s 5)) := front_cell hz 5 (by omega)
      have fk := hz.frozen 5
      go_wp2_with fail
      go_region
      go_wp2_with fail
      replace hz := (front_set hz 5 n5 (by omega)).drew
      replace c0 := (c0.setIn (k := z) (by simp) 5 (.int .u64 (n5 : Int))).drew
      clear ck fk a5
      generalize (World.setCell ω4 ⟨z, 5, none⟩ (.int .u64 (n5 : Int))).drew = ω5 at *
      have ck : World.cell? ω5 ⟨z, 6, none⟩ = some (.int .u64 (s 6)) := front_cell hz 6 (by omega)
      have fk := hz.frozen 6
      go_wp2_with fail
      go_region
      go_wp2_with fail
      replace hz := (front_set hz 6 n6 (by omega)).drew
      replace c0 := (c0.setIn (k := z) (by simp) 6 (.int .u64 (n6 : Int))).drew
      clear ck fk a6
      generalize (World.setCell ω5 ⟨z, 6, none⟩ (.int .u64 (n6 : Int))).drew = ω6 at *
      have ck : World.cell? ω6 ⟨z, 7, none⟩ = some (.int .u64 (s 7)) := front_cell hz 7 (by omega)
      have fk := hz.frozen 7
      go_wp2_with fail
      go_region
      go_wp2_with fail
      replace hz := (front_set hz 7 n7 (by omega)).drew
      replace c0 := (c0.setIn (k := z) (by simp) 7 (.int .u64 (n7 : Int))).drew
      clear ck fk a7
      generalize (World.setCell ω6 ⟨z, 7, none⟩ (.int .u64 (n7 : Int))).drew = ω7 at *
      go_end0
      refine ⟨rfl, hz.to (congrArg (· ++ rest) (vC_eq fun j hj => ?_)), c0⟩
      rw [HC.out]
      have hcs : j = 0 ∨ j = 1 ∨ j = 2 ∨ j = 3 ∨ j = 4 ∨ j = 5 ∨ j = 6 ∨ j = 7 := by omega
      rcases hcs with rfl | rfl | rfl | rfl | rfl | rfl | rfl | rfl
      · exact HN0.out.symm
      · exact HN1.out.symm
      · exact HN2.out.symm
      · exact HN3.out.symm
      · exact HN4.out.symm
      · exact HN5.out.symm
      · exact HN6.out.symm
      · exact HN7.out.symm
end Go.Proofs.YtjppbngimacgnaaGreatDoor
