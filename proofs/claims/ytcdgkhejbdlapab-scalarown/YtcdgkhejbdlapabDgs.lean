/- scalar.Digits, scalar.Naf. -/
import Derived.Test.YtcdgkhejbdlapabNafW
set_option linter.unusedVariables false
set_option linter.unusedSimpArgs false
set_option linter.unnecessarySimpa false
namespace Go.Proofs.Ytcdgkhejbdlapab
open Go.RowKit N

/-- The carry into digit i of radix 16. -/
def dc (n : Nat) : Nat → Nat
  | 0 => 0
  | i + 1 => (win n (4 * i) 4 + dc n i + 8) / 16
/-- Digit i of radix 16. -/
def dd (n i : Nat) : Int := if i < 63 then ((win n (4 * i) 4 + dc n i : Nat) : Int) - 16 * ((dc n (i + 1) : Nat) : Int) else ((win n (4 * i) 4 + dc n i : Nat) : Int)
def ddf (n k : Nat) : Nat → Int := fun j => if j < k then dd n j else 0
theorem win4 (n i : Nat) : win n (4 * i) 4 < 16 := win_lt n (4 * i) 4
theorem dc_succ (n i : Nat) : dc n (i + 1) = (win n (4 * i) 4 + dc n i + 8) / 16 := rfl
theorem dc_lem (W c : Nat) (h1 : W < 16) (h2 : c ≤ 1) : (W + c + 8) / 16 ≤ 1 := by omega
theorem dc_le (n : Nat) : ∀ i, dc n i ≤ 1
  | 0 => Nat.zero_le _
  | i + 1 => by rw [dc_succ]; exact dc_lem _ _ (win4 n i) (dc_le n i)
theorem ddf_zero (n : Nat) : iC 64 (fun _ => 0) = iC 64 (ddf n 0) := iC_eq fun i _ => by unfold ddf; rw [if_neg (by omega)]
theorem ddf_step (n k : Nat) (v : Int) (h : dd n k = v) : (iC 64 (ddf n k)).setIfInBounds k (.int .i64 v) = iC 64 (ddf n (k + 1)) := by
  rw [iC_set]
  refine iC_eq fun i _ => ?_
  unfold ddf
  by_cases h1 : i = k
  · rw [if_pos h1, if_pos (by omega), h1, h]
  · rw [if_neg h1]
    by_cases h2 : i < k
    · rw [if_pos h2, if_pos (by omega)]
    · rw [if_neg h2, if_neg (by omega)]
theorem ddf_end (n : Nat) : iC 64 (ddf n 64) = iC 64 (dd n) := iC_eq fun i hi => by unfold ddf; rw [if_pos hi]
theorem dig_lem (W c q : Nat) (h1 : W < 16) (h2 : c ≤ 1) (hq : (W + c + 8) / 16 = q) : wrap64 ((W : Int) + (c : Int)) = ((W + c : Nat) : Int) ∧ wrap64 (((W + c : Nat) : Int) + 8) = ((W + c + 8 : Nat) : Int) ∧ ((W + c + 8 : Nat) : Int) / 16 = (q : Int) ∧ wrap64 ((q : Int) * 16) = (((q * 16 : Nat)) : Int) ∧ wrap64 (((W + c : Nat) : Int) - ((q * 16 : Nat) : Int)) = ((W + c : Nat) : Int) - 16 * (q : Int) := by
  unfold wrap64
  omega
/-- All that a round of Digits wants to know. -/
theorem dig_facts (n i : Nat) (hi : i < 63) : ∃ t q : Nat, ∃ V : Int, wrap64 (((win n (4 * i) 4 : Nat) : Int) + ((dc n i : Nat) : Int)) = (t : Int) ∧ wrap64 ((t : Int) + 8) = ((t + 8 : Nat) : Int) ∧ ((t + 8 : Nat) : Int) / 16 = (q : Int) ∧ wrap64 ((q : Int) * 16) = (((q * 16 : Nat)) : Int) ∧ wrap64 ((t : Int) - ((q * 16 : Nat) : Int)) = V ∧ dc n (i + 1) = q ∧ dd n i = V := by
  obtain ⟨q, hq⟩ : ∃ q, dc n (i + 1) = q := ⟨_, rfl⟩
  have hdd : dd n i = ((win n (4 * i) 4 + dc n i : Nat) : Int) - 16 * (q : Int) := by unfold dd; rw [if_pos hi, hq]
  have hq' := hq
  rw [dc_succ] at hq'
  obtain ⟨r1, r2, r3, r4, r5⟩ := dig_lem _ _ q (win4 n i) (dc_le n i) hq'
  exact ⟨_, q, _, r1, r2, r3, r4, r5, hq, hdd⟩
theorem last_lem (W c : Nat) (h1 : W < 16) (h2 : c ≤ 1) : wrap64 ((W : Int) + (c : Int)) = ((W + c : Nat) : Int) := by unfold wrap64; omega
theorem dig_last (n : Nat) : wrap64 (((win n 252 4 : Nat) : Int) + ((dc n 63 : Nat) : Int)) = dd n 63 := by
  rw [last_lem _ _ (win4 n 63) (dc_le n 63)]
  unfold dd
  rw [if_neg (by decide)]
theorem lt64 (i : Nat) (h : i < 63) : i + 1 ≤ 63 ∧ 4 * i < 256 ∧ i < 64 := by omega
theorem meas64 (i : Nat) (h : i < 63) : (63 - intOf (.int .i64 ((i : Int) + 1))).toNat < (63 - intOf (.int .i64 (i : Int))).toNat := by simp [intOf]; omega
theorem four_i (i : Nat) (h : i < 63) : wrap64 (4 * (i : Int)) = ((4 * i : Nat) : Int) := by unfold wrap64; omega
set_option maxHeartbeats 4000000 in
set_option maxRecDepth 100000 in
theorem Digits_s (a : Int) (ra : R256 a) (n : Nat) (hn : a % L = (n : Int)) (hl : n < 115792089237316195423570985008687907853269984665640564039457584007913129639936) (w : World) :
    Calls Try.prog 26 #[fe a] w fun e w' => ∃ g, e = .returned (.slice (some ⟨g, 0, none⟩) 64 64) ∧ w.heap.size ≤ g ∧ Blk w' g (iC 64 (dd n)) 3 ∧ Chg w w' [] := by
  go_enter Try.func26, Try.ntmps26
  go_wp2_with fail
  have hc : Chg w ((w.alloc (.cells (feC a) 23)).alloc (.cells #[.int .u64 0, .int .u64 0, .int .u64 0, .int .u64 0] 84)) [] := ((Chg.refl w []).alloc _).alloc _
  have f0 : Blk ((w.alloc (.cells (feC a) 23)).alloc (.cells #[.int .u64 0, .int .u64 0, .int .u64 0, .int .u64 0] 84)) w.heap.size (feC a) 23 := (Blk.new w (feC a) 23).alloc _
  have f2 : NumAt ((w.alloc (.cells (feC a) 23)).alloc (.cells #[.int .u64 0, .int .u64 0, .int .u64 0, .int .u64 0] 84)) (w.heap.size + 1) 0 := by have h := NumAt.new (w.alloc (.cells (feC a) 23)); simpa using h
  generalize hv0 : ((w.alloc (.cells (feC a) 23)).alloc (.cells #[.int .u64 0, .int .u64 0, .int .u64 0, .int .u64 0] 84)) = v0 at hc f0 f2
  try (change Calls Try.prog _ _ ((w.alloc (.cells (feC a) 23)).alloc (.cells #[.int .u64 0, .int .u64 0, .int .u64 0, .int .u64 0] 84)) _; rw [hv0])
  clear hv0
  refine (load_any (w.heap.size + 1) w.heap.size a ra (by omega) v0 f2.an f0).mono ?_
  rintro e v1 ⟨rfl, z1, k⟩
  rw [hn] at z1
  replace hc := hc.new k (by omega)
  clear f0 f2 k hn ra
  have hm := make_i 64 (by decide) v1
  simp only [show ((64 : Nat) : Int) = 64 from rfl] at hm
  rw [ddf_zero n] at hm
  have B0 := Blk.new v1 (iC 64 (ddf n 0)) 3
  have C0 : Chg w (v1.alloc (.cells (iC 64 (ddf n 0)) 3)) [] := hc.alloc _
  have z0 : NumAt (v1.alloc (.cells (iC 64 (ddf n 0)) 3)) (w.heap.size + 1) (n : Int) := Blk.alloc z1 _
  have d0 : dc n 0 = 0 := by unfold dc; rfl
  have hzl := z1.lt
  have hgl : w.heap.size ≤ v1.heap.size := hc.size
  generalize w.heap.size + 1 = z at *
  clear hc z1
  go_wp2_with fail
  go_loopw [5, 10] (fun tc ti wr => ∃ i : Nat, i ≤ 63 ∧ ti = .int .i64 (i : Int) ∧ tc = .int .i64 ((dc n i : Nat) : Int) ∧ Blk wr v1.heap.size (iC 64 (ddf n i)) 3 ∧ NumAt wr z (n : Int) ∧ Chg w wr []) (fun _ ti _ => (63 - intOf ti).toNat)
  case atStart => exact ⟨0, by decide, rfl, by rw [d0]; rfl, B0, z0, C0⟩
  case round =>
    clear B0 C0 z0 d0 hm
    obtain ⟨i, hi, rfl, rfl, B, hz, CC⟩ := hrel
    have hne : z ≠ v1.heap.size := Nat.ne_of_lt hzl
    by_cases h : i < 63
    · have hI : (i : Int) < 63 := by omega
      obtain ⟨l1, l2, l3⟩ := lt64 i h
      obtain ⟨t, q, V, e1, e2, e3, e4, e5, e6, e7⟩ := dig_facts n i h
      obtain ⟨t8, ht8⟩ : ∃ x, t + 8 = x := ⟨_, rfl⟩
      obtain ⟨q16, hq16⟩ : ∃ x, q * 16 = x := ⟨_, rfl⟩
      rw [ht8] at e2 e3
      rw [hq16] at e4 e5
      clear ht8 hq16
      have e0 := four_i i h
      have e0' : 4 * (i : Int) = ((4 * i : Nat) : Int) := by omega
      have cl : wr.cell? ⟨v1.heap.size, i, none⟩ = some (.int .i64 (ddf n i i)) := by rw [B.cell, iC_get _ _ _ l3]
      have fz := B.frozen i
      have hI64 : (i : Int) < 64 := by omega
      have HS : Hid _ := ddf_step n i V e7
      have HM : Hid _ := meas64 i h
      have H6 : Hid _ := e6
      clear e6 e7 h hi
      generalize 4 * i = p at *
      have L1 : Hid _ := l1
      have L2 : Hid _ := l2
      have HN : Hid _ := hne
      have HG : Hid _ := hgl
      clear l1 l2 l3 hzl hgl hne
      go_wp2_with (refine (window_s z n p 4 hl L2.out (by decide) _ hz).mono ?_; rintro e x ⟨rfl, rfl⟩)
      exact ⟨⟨i + 1, L1.out, rfl, by rw [H6.out], (B.setCell i (.int .i64 V)).to HS.out, Blk.setOther hz HN.out _ _, CC.setNew HG.out _ _⟩, HM.out⟩
    · have hI : ¬ (i : Int) < 63 := by omega
      obtain rfl : i = 63 := by omega
      have e1 := dig_last n
      have cl : wr.cell? ⟨v1.heap.size, 63, none⟩ = some (.int .i64 (ddf n 63 63)) := by rw [B.cell, iC_get _ _ _ (by decide)]
      have fz := B.frozen 63
      have HS : Hid _ := ddf_step n 63 (dd n 63) rfl
      go_wp2_with (refine (window_s z n 252 4 hl (by decide) (by decide) _ hz).mono ?_; rintro e x ⟨rfl, rfl⟩)
      go_ret
      exact ⟨_, rfl, hgl, ((B.setCell 63 (.int .i64 (dd n 63))).to HS.out).to (ddf_end n), CC.setNew hgl _ _⟩
set_option maxHeartbeats 4000000 in
set_option maxRecDepth 100000 in
theorem Naf_s (a : Int) (ra : R256 a) (n wd : Nat) (hn : a % L = (n : Int)) (hl : n < 115792089237316195423570985008687907853269984665640564039457584007913129639936) (hw1 : 2 ≤ wd) (hw : wd ≤ 8) (w : World) :
    Calls Try.prog 28 #[fe a, .int .i64 (wd : Int)] w fun e w' => ∃ g, e = .returned (.tuple #[.slice (some ⟨g, 0, none⟩) 256 256, .int .i64 0]) ∧ w.heap.size ≤ g ∧ Blk w' g (iC 256 (dn wd n)) 3 ∧ Chg w w' [] := by
  have i1 : ¬ (wd : Int) < 2 := by omega
  have i2 : ¬ (8 : Int) < (wd : Int) := by omega
  go_enter Try.func28, Try.ntmps28
  go_wp2_with fail
  have hc : Chg w ((w.alloc (.cells (feC a) 23)).alloc (.cells #[.int .u64 0, .int .u64 0, .int .u64 0, .int .u64 0] 84)) [] := ((Chg.refl w []).alloc _).alloc _
  have f0 : Blk ((w.alloc (.cells (feC a) 23)).alloc (.cells #[.int .u64 0, .int .u64 0, .int .u64 0, .int .u64 0] 84)) w.heap.size (feC a) 23 := (Blk.new w (feC a) 23).alloc _
  have f2 : NumAt ((w.alloc (.cells (feC a) 23)).alloc (.cells #[.int .u64 0, .int .u64 0, .int .u64 0, .int .u64 0] 84)) (w.heap.size + 1) 0 := by have h := NumAt.new (w.alloc (.cells (feC a) 23)); simpa using h
  generalize hv0 : ((w.alloc (.cells (feC a) 23)).alloc (.cells #[.int .u64 0, .int .u64 0, .int .u64 0, .int .u64 0] 84)) = v0 at hc f0 f2
  try (change Calls Try.prog _ _ ((w.alloc (.cells (feC a) 23)).alloc (.cells #[.int .u64 0, .int .u64 0, .int .u64 0, .int .u64 0] 84)) _; rw [hv0])
  clear hv0
  refine (load_any (w.heap.size + 1) w.heap.size a ra (by omega) v0 f2.an f0).mono ?_
  rintro e v1 ⟨rfl, z1, k⟩
  rw [hn] at z1
  replace hc := hc.new k (by omega)
  clear f0 f2 k hn ra
  go_wp2_with fail
  refine (naf_s (w.heap.size + 1) n wd hl hw1 hw v1 z1).mono ?_
  rintro e v2 ⟨g, rfl, hg, B, k⟩
  go_wp2_with fail
  go_ret2
  exact ⟨g, rfl, Nat.le_trans hc.size hg, B, hc.trans1 k⟩
set_option maxHeartbeats 4000000 in
set_option maxRecDepth 100000 in
theorem Naf_arg (a wd : Int) (h : wd < 2 ∨ 8 < wd) (w : World) :
    Calls Try.prog 28 #[fe a, .int .i64 wd] w fun e w' => e = .returned (.tuple #[.slice none 0 0, .int .i64 1]) ∧ Chg w w' [] := by
  have hc := (Chg.refl w []).alloc (.cells (feC a) 23)
  by_cases h1 : wd < 2
  · go_enter Try.func28, Try.ntmps28
    go_wp2_with fail
    go_ret2
    exact ⟨rfl, hc⟩
  · have h2 : 8 < wd := by omega
    go_enter Try.func28, Try.ntmps28
    go_wp2_with fail
    go_ret2
    exact ⟨rfl, hc⟩
end Go.Proofs.Ytcdgkhejbdlapab
