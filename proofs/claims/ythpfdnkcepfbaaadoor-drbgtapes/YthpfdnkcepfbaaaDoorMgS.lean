/- Joined: Fold, Prod, Red. -/
import Derived.Test.YthpfdnkcepfbaaaDoorMgR
/- (*wide).fold. -/
set_option linter.unusedVariables false
set_option linter.unusedSimpArgs false
set_option linter.unnecessarySimpa false
namespace Go.Proofs.YthpfdnkcepfbaaaDoor
open Go.RowKit N

/-- The eight words of n, as cells. -/
def wd8 (n : Int) : Array Value := #[.int .u64 (wrd n 0), .int .u64 (wrd n 1), .int .u64 (wrd n 2), .int .u64 (wrd n 3), .int .u64 (wrd n 4), .int .u64 (wrd n 5), .int .u64 (wrd n 6), .int .u64 (wrd n 7)]
/-- n in block b, as a wide. -/
def WideAt (w : World) (b : Nat) (n : Int) : Prop := Blk w b (wd8 n) 262
theorem WideAt.lt {w : World} {b : Nat} {n : Int} (h : WideAt w b n) : b < w.heap.size := Blk.lt h
theorem WideAt.chg {w w' : World} {b : Nat} {n : Int} {l : List Nat} (h : WideAt w b n) (hc : Chg w w' l) (hb : ¬ b ∈ l) : WideAt w' b n := Blk.chg h hc hb
theorem WideAt.alloc {w : World} {b : Nat} {n : Int} (h : WideAt w b n) (o : Obj) : WideAt (w.alloc o) b n := Blk.alloc h o
theorem WideAt.c0 {w : World} {b : Nat} {n : Int} (h : WideAt w b n) : w.cell? ⟨b, 0, none⟩ = some (.int .u64 (wrd n 0)) := Blk.cell h 0
theorem WideAt.c1 {w : World} {b : Nat} {n : Int} (h : WideAt w b n) : w.cell? ⟨b, 1, none⟩ = some (.int .u64 (wrd n 1)) := Blk.cell h 1
theorem WideAt.c2 {w : World} {b : Nat} {n : Int} (h : WideAt w b n) : w.cell? ⟨b, 2, none⟩ = some (.int .u64 (wrd n 2)) := Blk.cell h 2
theorem WideAt.c3 {w : World} {b : Nat} {n : Int} (h : WideAt w b n) : w.cell? ⟨b, 3, none⟩ = some (.int .u64 (wrd n 3)) := Blk.cell h 3
theorem WideAt.c4 {w : World} {b : Nat} {n : Int} (h : WideAt w b n) : w.cell? ⟨b, 4, none⟩ = some (.int .u64 (wrd n 4)) := Blk.cell h 4
theorem WideAt.c5 {w : World} {b : Nat} {n : Int} (h : WideAt w b n) : w.cell? ⟨b, 5, none⟩ = some (.int .u64 (wrd n 5)) := Blk.cell h 5
theorem WideAt.c6 {w : World} {b : Nat} {n : Int} (h : WideAt w b n) : w.cell? ⟨b, 6, none⟩ = some (.int .u64 (wrd n 6)) := Blk.cell h 6
theorem WideAt.c7 {w : World} {b : Nat} {n : Int} (h : WideAt w b n) : w.cell? ⟨b, 7, none⟩ = some (.int .u64 (wrd n 7)) := Blk.cell h 7
theorem fold_h (n w0 w1 w2 w3 w4 w5 w6 w7 : Int) (hn : n < 837987995621412318723376562387865382967460363787024586107722590232610251879596686050117143635431464230626991136655378178359617675746660621652103062880256) (h0 : Wo w0) (h1 : Wo w1) (h2 : Wo w2) (h3 : Wo w3) (h4 : Wo w4) (h5 : Wo w5) (h6 : Wo w6) (h7 : Wo w7) (e : w0 + w1 * 18446744073709551616 + w2 * 340282366920938463463374607431768211456 + w3 * 6277101735386680763835789423207666416102355444464034512896 + w4 * 115792089237316195423570985008687907853269984665640564039457584007913129639936 + w5 * 2135987035920910082395021706169552114602704522356652769947041607822219725780640550022962086936576 + w6 * 39402006196394479212279040100143613805079739270465446667948293404245721771497210611414266254884915640806627990306816 + w7 * 726838724295606890549323807888004534353641360687318060281490199180639288113397923326191050713763565560762521606266177933534601628614656 = n) :
    Wo (w3 / 1152921504606846976 + w4 * 16 % 18446744073709551616) ∧ Wo (w4 / 1152921504606846976 + w5 * 16 % 18446744073709551616) ∧ Wo (w5 / 1152921504606846976 + w6 * 16 % 18446744073709551616) ∧ Wo (w6 / 1152921504606846976 + w7 * 16 % 18446744073709551616) ∧
    (w3 / 1152921504606846976 + w4 * 16 % 18446744073709551616) + (w4 / 1152921504606846976 + w5 * 16 % 18446744073709551616) * 18446744073709551616 + (w5 / 1152921504606846976 + w6 * 16 % 18446744073709551616) * 340282366920938463463374607431768211456 + (w6 / 1152921504606846976 + w7 * 16 % 18446744073709551616) * 6277101735386680763835789423207666416102355444464034512896 = n / 7237005577332262213973186563042994240829374041602535252466099000494570602496 ∧ w0 + w1 * 18446744073709551616 + w2 * 340282366920938463463374607431768211456 + w3 % 1152921504606846976 * 6277101735386680763835789423207666416102355444464034512896 = n % 7237005577332262213973186563042994240829374041602535252466099000494570602496 := by
  unfold Wo at *
  refine ⟨?_, ?_, ?_, ?_, ?_, ?_⟩ <;> omega
theorem fold_v (m h0 h1 h2 h3 a0 a1 a2 a3 a4 u0 u1 u2 b1 b2 b3 b4 b5 v0 v1 v2 : Int) (e : h0 + h1 * 18446744073709551616 + h2 * 340282366920938463463374607431768211456 + h3 * 6277101735386680763835789423207666416102355444464034512896 = m) (e0 : h0 * 6346243789798364141 + 0 + 0 = a0 + 18446744073709551616 * u0) (e1 : h1 * 6346243789798364141 + 0 + u0 = a1 + 18446744073709551616 * u1) (e2 : h2 * 6346243789798364141 + 0 + u1 = a2 + 18446744073709551616 * u2) (e3 : h3 * 6346243789798364141 + 0 + u2 = a3 + 18446744073709551616 * a4) (e4 : h0 * 1503914060200516822 + a1 + 0 = b1 + 18446744073709551616 * v0) (e5 : h1 * 1503914060200516822 + a2 + v0 = b2 + 18446744073709551616 * v1) (e6 : h2 * 1503914060200516822 + a3 + v1 = b3 + 18446744073709551616 * v2) (e7 : h3 * 1503914060200516822 + a4 + v2 = b4 + 18446744073709551616 * b5) : a0 + b1 * 18446744073709551616 + b2 * 340282366920938463463374607431768211456 + b3 * 6277101735386680763835789423207666416102355444464034512896 + b4 * 115792089237316195423570985008687907853269984665640564039457584007913129639936 + b5 * 2135987035920910082395021706169552114602704522356652769947041607822219725780640550022962086936576 + 0 * 39402006196394479212279040100143613805079739270465446667948293404245721771497210611414266254884915640806627990306816 + 0 * 726838724295606890549323807888004534353641360687318060281490199180639288113397923326191050713763565560762521606266177933534601628614656 = m * 27742317777372353535851937790883648493 := by
  omega

theorem an60 (x : Int) (h : Wo x) : bits .and .u64 x 1152921504606846975 = x % 1152921504606846976 := by
  unfold Wo at h
  obtain ⟨n, rfl⟩ := Int.eq_ofNat_of_zero_le h.1
  have h := bits_and_u64_nat n 1152921504606846975 (by omega) (by omega)
  have e : n &&& 1152921504606846975 = n % 1152921504606846976 := Nat.and_two_pow_sub_one_eq_mod n 60
  rw [e] at h
  refine Eq.trans ?_ (h.trans ?_)
  · rfl
  · omega
theorem or4 (x y : Int) (hx : Wo x) (hy : Wo y) : bits .or .u64 (x / 1152921504606846976) (y * 16 % 18446744073709551616) = x / 1152921504606846976 + y * 16 % 18446744073709551616 := by
  unfold Wo at hx hy
  exact or_join 4 _ _ (by decide) (by omega) (by simp only [Int.reducePow]; omega) (by omega) (by omega) (by simp only [Int.reducePow]; omega)

set_option maxHeartbeats 4000000 in
set_option maxRecDepth 100000 in
theorem fold_any (W z : Nat) (n : Int) (hn0 : 0 ≤ n) (hn1 : n < 837987995621412318723376562387865382967460363787024586107722590232610251879596686050117143635431464230626991136655378178359617675746660621652103062880256) (hne : ¬ W = z) (w : World) (hW : WideAt w W n) (hz : An w z) :
    Calls Tryd.prog 150 #[.pointer (some ⟨W, 0, none⟩), .pointer (some ⟨z, 0, none⟩)] w fun e w' => e = .returned (.tuple #[]) ∧ NumAt w' z (n % 7237005577332262213973186563042994240829374041602535252466099000494570602496) ∧ WideAt w' W (n / 7237005577332262213973186563042994240829374041602535252466099000494570602496 * 27742317777372353535851937790883648493) ∧ Chg w w' [W, z] := by
  have hne' : ¬ z = W := fun h => hne h.symm
  obtain ⟨x0, x1, x2, x3, hz⟩ := hz
  have y0 := hz.cell 0; have f0 := hz.frozen 0
  have y1 := hz.cell 1; have f1 := hz.frozen 1
  have y2 := hz.cell 2; have f2 := hz.frozen 2
  have y3 := hz.cell 3; have f3 := hz.frozen 3
  simp at y0 y1 y2 y3
  have k0 := hW.c0; have g0 := Blk.frozen hW 0; have q0 := wrd_wo n 0
  have k1 := hW.c1; have g1 := Blk.frozen hW 1; have q1 := wrd_wo n 1
  have k2 := hW.c2; have g2 := Blk.frozen hW 2; have q2 := wrd_wo n 2
  have k3 := hW.c3; have g3 := Blk.frozen hW 3; have q3 := wrd_wo n 3
  have k4 := hW.c4; have g4 := Blk.frozen hW 4; have q4 := wrd_wo n 4
  have k5 := hW.c5; have g5 := Blk.frozen hW 5; have q5 := wrd_wo n 5
  have k6 := hW.c6; have g6 := Blk.frozen hW 6; have q6 := wrd_wo n 6
  have k7 := hW.c7; have g7 := Blk.frozen hW 7; have q7 := wrd_wo n 7
  have ES := wrd_sum8 n hn0 (by omega)
  generalize hw0 : wrd n 0 = w0 at *
  generalize hw1 : wrd n 1 = w1 at *
  generalize hw2 : wrd n 2 = w2 at *
  generalize hw3 : wrd n 3 = w3 at *
  generalize hw4 : wrd n 4 = w4 at *
  generalize hw5 : wrd n 5 = w5 at *
  generalize hw6 : wrd n 6 = w6 at *
  generalize hw7 : wrd n 7 = w7 at *
  have HW : Blk w W #[.int .u64 w0, .int .u64 w1, .int .u64 w2, .int .u64 w3, .int .u64 w4, .int .u64 w5, .int .u64 w6, .int .u64 w7] 262 := by have h := hW; unfold WideAt wd8 at h; rw [hw0, hw1, hw2, hw3, hw4, hw5, hw6, hw7] at h; exact h
  clear hW hw0 hw1 hw2 hw3 hw4 hw5 hw6 hw7
  obtain ⟨p0, p1, p2, p3, EH, EL⟩ := fold_h n w0 w1 w2 w3 w4 w5 w6 w7 hn1 q0 q1 q2 q3 q4 q5 q6 q7 ES
  have t0 : IntKind.u64.wrap (w4 * 16) = w4 * 16 % 18446744073709551616 := IntKind.wrap_u64 _
  have o0 := or4 w3 w4 q3 q4
  have t1 : IntKind.u64.wrap (w5 * 16) = w5 * 16 % 18446744073709551616 := IntKind.wrap_u64 _
  have o1 := or4 w4 w5 q4 q5
  have t2 : IntKind.u64.wrap (w6 * 16) = w6 * 16 % 18446744073709551616 := IntKind.wrap_u64 _
  have o2 := or4 w5 w6 q5 q6
  have t3 : IntKind.u64.wrap (w7 * 16) = w7 * 16 % 18446744073709551616 := IntKind.wrap_u64 _
  have o3 := or4 w6 w7 q6 q7
  have mm := an60 w3 q3
  have pl : Wo (w3 % 1152921504606846976) := by unfold Wo; omega
  generalize w3 / 1152921504606846976 + w4 * 16 % 18446744073709551616 = h0 at *
  generalize w4 / 1152921504606846976 + w5 * 16 % 18446744073709551616 = h1 at *
  generalize w5 / 1152921504606846976 + w6 * 16 % 18446744073709551616 = h2 at *
  generalize w6 / 1152921504606846976 + w7 * 16 % 18446744073709551616 = h3 at *
  have c0 : Wo 6346243789798364141 := by unfold Wo; omega
  have c1 : Wo 1503914060200516822 := by unfold Wo; omega
  obtain ⟨a0, u0, e0, Wa0, Wu0⟩ := stepx h0 6346243789798364141 0 0 p0 c0 wo0 wo0
  have S0 := step_any h0 6346243789798364141 0 0 a0 u0 p0 c0 wo0 wo0 e0 Wa0 Wu0
  obtain ⟨a1, u1, e1, Wa1, Wu1⟩ := stepx h1 6346243789798364141 0 u0 p1 c0 wo0 Wu0
  have S1 := step_any h1 6346243789798364141 0 u0 a1 u1 p1 c0 wo0 Wu0 e1 Wa1 Wu1
  obtain ⟨a2, u2, e2, Wa2, Wu2⟩ := stepx h2 6346243789798364141 0 u1 p2 c0 wo0 Wu1
  have S2 := step_any h2 6346243789798364141 0 u1 a2 u2 p2 c0 wo0 Wu1 e2 Wa2 Wu2
  obtain ⟨a3, a4, e3, Wa3, Wa4⟩ := stepx h3 6346243789798364141 0 u2 p3 c0 wo0 Wu2
  have S3 := step_any h3 6346243789798364141 0 u2 a3 a4 p3 c0 wo0 Wu2 e3 Wa3 Wa4
  obtain ⟨b1, v0, e4, Wb1, Wv0⟩ := stepx h0 1503914060200516822 a1 0 p0 c1 Wa1 wo0
  have S4 := step_any h0 1503914060200516822 a1 0 b1 v0 p0 c1 Wa1 wo0 e4 Wb1 Wv0
  obtain ⟨b2, v1, e5, Wb2, Wv1⟩ := stepx h1 1503914060200516822 a2 v0 p1 c1 Wa2 Wv0
  have S5 := step_any h1 1503914060200516822 a2 v0 b2 v1 p1 c1 Wa2 Wv0 e5 Wb2 Wv1
  obtain ⟨b3, v2, e6, Wb3, Wv2⟩ := stepx h2 1503914060200516822 a3 v1 p2 c1 Wa3 Wv1
  have S6 := step_any h2 1503914060200516822 a3 v1 b3 v2 p2 c1 Wa3 Wv1 e6 Wb3 Wv2
  obtain ⟨b4, b5, e7, Wb4, Wb5⟩ := stepx h3 1503914060200516822 a4 v2 p3 c1 Wa4 Wv2
  have S7 := step_any h3 1503914060200516822 a4 v2 b4 b5 p3 c1 Wa4 Wv2 e7 Wb4 Wb5
  have V := fold_v (n / 7237005577332262213973186563042994240829374041602535252466099000494570602496) h0 h1 h2 h3 a0 a1 a2 a3 a4 u0 u1 u2 b1 b2 b3 b4 b5 v0 v1 v2 EH e0 e1 e2 e3 e4 e5 e6 e7
  obtain ⟨j0, j1, j2, j3, j4, j5, j6, j7⟩ := wrd_is8 _ a0 b1 b2 b3 b4 b5 0 0 Wa0 Wb1 Wb2 Wb3 Wb4 Wb5 wo0 wo0 V
  obtain ⟨i0, i1, i2, i3⟩ := wrd_is _ w0 w1 w2 (w3 % 1152921504606846976) q0 q1 q2 pl EL
  unfold NumAt WideAt wd4 wd8
  rw [← j0, ← j1, ← j2, ← j3, ← j4, ← j5, ← j6, ← j7, ← i0, ← i1, ← i2, ← i3]
  clear j0 j1 j2 j3 j4 j5 j6 j7 i0 i1 i2 i3 V EH EL ES e0 e1 e2 e3 e4 e5 e6 e7
  generalize n / 7237005577332262213973186563042994240829374041602535252466099000494570602496 * 27742317777372353535851937790883648493 = nn at *
  go_enter Tryd.func150, Tryd.ntmps150
  go_wp2_with fail
  refine wp_region_held_drew (S := fun w' => Chg w w' [z]) (by kernel_rfl) ((Chg.refl w _).drew) (fun hHeld => ?_)
  refine take_val (v := ?_) 0 (some 15) rfl (by kernel_rfl) (by kernel_rfl) (by kernel_rfl) (fun _ _ _ h => h) rfl rfl (fun w hSw => ?_) hHeld ?_
  rotate_left
  · (go_simp; try with_reducible rfl)
  try simp only [Act.put, List.setIfInBounds_toArray, List.set_cons_zero, List.set_cons_succ]
  refine take_val (v := ?_) 1 (some 16) rfl (by kernel_rfl) (by kernel_rfl) (by kernel_rfl) (fun _ _ _ h => h) rfl rfl (fun w hSw => ?_) hHeld ?_
  rotate_left
  · (go_simp; try with_reducible rfl)
  try simp only [Act.put, List.setIfInBounds_toArray, List.set_cons_zero, List.set_cons_succ]
  refine take_val (v := ?_) 2 (some 17) rfl (by kernel_rfl) (by kernel_rfl) (by kernel_rfl) (fun _ _ _ h => h) rfl rfl (fun w hSw => ?_) hHeld ?_
  rotate_left
  · (go_simp; try with_reducible rfl)
  try simp only [Act.put, List.setIfInBounds_toArray, List.set_cons_zero, List.set_cons_succ]
  refine take_val (v := ?_) 3 (some 18) rfl (by kernel_rfl) (by kernel_rfl) (by kernel_rfl) (fun _ _ _ h => h) rfl rfl (fun w hSw => ?_) hHeld ?_
  rotate_left
  · (go_simp; try with_reducible rfl)
  try simp only [Act.put, List.setIfInBounds_toArray, List.set_cons_zero, List.set_cons_succ]
  refine take_val (v := ?_) 4 (some 19) rfl (by kernel_rfl) (by kernel_rfl) (by kernel_rfl) (fun _ _ _ h => h) rfl rfl (fun w hSw => ?_) hHeld ?_
  rotate_left
  · (go_simp; try with_reducible rfl)
  try simp only [Act.put, List.setIfInBounds_toArray, List.set_cons_zero, List.set_cons_succ]
  refine take_val (v := ?_) 5 (some 20) rfl (by kernel_rfl) (by kernel_rfl) (by kernel_rfl) (fun _ _ _ h => h) rfl rfl (fun w hSw => ?_) hHeld ?_
  rotate_left
  · (go_simp; try with_reducible rfl)
  try simp only [Act.put, List.setIfInBounds_toArray, List.set_cons_zero, List.set_cons_succ]
  refine take_val (v := ?_) 6 (some 21) rfl (by kernel_rfl) (by kernel_rfl) (by kernel_rfl) (fun _ _ _ h => h) rfl rfl (fun w hSw => ?_) hHeld ?_
  rotate_left
  · (go_simp; try with_reducible rfl)
  try simp only [Act.put, List.setIfInBounds_toArray, List.set_cons_zero, List.set_cons_succ]
  refine take_val (v := ?_) 7 (some 22) rfl (by kernel_rfl) (by kernel_rfl) (by kernel_rfl) (fun _ _ _ h => h) rfl rfl (fun w hSw => ?_) hHeld ?_
  rotate_left
  · have cw := (HW.chg hSw (by simpa using hne)).cell 0
    (go_simp; try with_reducible rfl)
  try simp only [Act.put, List.setIfInBounds_toArray, List.set_cons_zero, List.set_cons_succ]
  refine take_val (v := ?_) 8 (some 23) rfl (by kernel_rfl) (by kernel_rfl) (by kernel_rfl) (fun _ _ _ h => h) rfl rfl (fun w hSw => ?_) hHeld ?_
  rotate_left
  · (go_simp; try with_reducible rfl)
  try simp only [Act.put, List.setIfInBounds_toArray, List.set_cons_zero, List.set_cons_succ]
  refine take_val (v := ?_) 9 (some 24) rfl (by kernel_rfl) (by kernel_rfl) (by kernel_rfl) (fun _ _ _ h => h) rfl rfl (fun w hSw => ?_) hHeld ?_
  rotate_left
  · (go_simp; try with_reducible rfl)
  try simp only [Act.put, List.setIfInBounds_toArray, List.set_cons_zero, List.set_cons_succ]
  refine take_val (v := ?_) 10 (some 25) rfl (by kernel_rfl) (by kernel_rfl) (by kernel_rfl) (fun _ _ _ h => h) rfl rfl (fun w hSw => ?_) hHeld ?_
  rotate_left
  · (go_simp; try with_reducible rfl)
  try simp only [Act.put, List.setIfInBounds_toArray, List.set_cons_zero, List.set_cons_succ]
  refine take_val (v := ?_) 11 (some 26) rfl (by kernel_rfl) (by kernel_rfl) (by kernel_rfl) (fun _ _ _ h => h) rfl rfl (fun w hSw => ?_) hHeld ?_
  rotate_left
  · have cw := (HW.chg hSw (by simpa using hne)).cell 1
    (go_simp; try with_reducible rfl)
  try simp only [Act.put, List.setIfInBounds_toArray, List.set_cons_zero, List.set_cons_succ]
  refine take_val (v := ?_) 12 (some 27) rfl (by kernel_rfl) (by kernel_rfl) (by kernel_rfl) (fun _ _ _ h => h) rfl rfl (fun w hSw => ?_) hHeld ?_
  rotate_left
  · (go_simp; try with_reducible rfl)
  try simp only [Act.put, List.setIfInBounds_toArray, List.set_cons_zero, List.set_cons_succ]
  refine take_val (v := ?_) 13 (some 28) rfl (by kernel_rfl) (by kernel_rfl) (by kernel_rfl) (fun _ _ _ h => h) rfl rfl (fun w hSw => ?_) hHeld ?_
  rotate_left
  · (go_simp; try with_reducible rfl)
  try simp only [Act.put, List.setIfInBounds_toArray, List.set_cons_zero, List.set_cons_succ]
  refine take_val (v := ?_) 14 (some 29) rfl (by kernel_rfl) (by kernel_rfl) (by kernel_rfl) (fun _ _ _ h => h) rfl rfl (fun w hSw => ?_) hHeld ?_
  rotate_left
  · (go_simp; try with_reducible rfl)
  try simp only [Act.put, List.setIfInBounds_toArray, List.set_cons_zero, List.set_cons_succ]
  refine take_val (v := ?_) 15 (some 30) rfl (by kernel_rfl) (by kernel_rfl) (by kernel_rfl) (fun _ _ _ h => h) rfl rfl (fun w hSw => ?_) hHeld ?_
  rotate_left
  · have cw := (HW.chg hSw (by simpa using hne)).cell 2
    (go_simp; try with_reducible rfl)
  try simp only [Act.put, List.setIfInBounds_toArray, List.set_cons_zero, List.set_cons_succ]
  refine take_val (v := ?_) 16 (some 31) rfl (by kernel_rfl) (by kernel_rfl) (by kernel_rfl) (fun _ _ _ h => h) rfl rfl (fun w hSw => ?_) hHeld ?_
  rotate_left
  · (go_simp; try with_reducible rfl)
  try simp only [Act.put, List.setIfInBounds_toArray, List.set_cons_zero, List.set_cons_succ]
  refine take_val (v := ?_) 17 (some 32) rfl (by kernel_rfl) (by kernel_rfl) (by kernel_rfl) (fun _ _ _ h => h) rfl rfl (fun w hSw => ?_) hHeld ?_
  rotate_left
  · (go_simp; try with_reducible rfl)
  try simp only [Act.put, List.setIfInBounds_toArray, List.set_cons_zero, List.set_cons_succ]
  refine take_val (v := ?_) 18 (some 33) rfl (by kernel_rfl) (by kernel_rfl) (by kernel_rfl) (fun _ _ _ h => h) rfl rfl (fun w hSw => ?_) hHeld ?_
  rotate_left
  · (go_simp; try with_reducible rfl)
  try simp only [Act.put, List.setIfInBounds_toArray, List.set_cons_zero, List.set_cons_succ]
  refine take_val (v := ?_) 19 (some 34) rfl (by kernel_rfl) (by kernel_rfl) (by kernel_rfl) (fun _ _ _ h => h) rfl rfl (fun w hSw => ?_) hHeld ?_
  rotate_left
  · have cw := (HW.chg hSw (by simpa using hne)).cell 3
    (go_simp; try with_reducible rfl)
  try simp only [Act.put, List.setIfInBounds_toArray, List.set_cons_zero, List.set_cons_succ]
  refine take_val (v := ?_) 20 (some 35) rfl (by kernel_rfl) (by kernel_rfl) (by kernel_rfl) (fun _ _ _ h => h) rfl rfl (fun w hSw => ?_) hHeld ?_
  rotate_left
  · (go_simp; try with_reducible rfl)
  try simp only [Act.put, List.setIfInBounds_toArray, List.set_cons_zero, List.set_cons_succ]
  refine take_val (v := ?_) 21 (some 36) rfl (by kernel_rfl) (by kernel_rfl) (by kernel_rfl) (fun _ _ _ h => h) rfl rfl (fun w hSw => ?_) hHeld ?_
  rotate_left
  · (go_simp; try with_reducible rfl)
  try simp only [Act.put, List.setIfInBounds_toArray, List.set_cons_zero, List.set_cons_succ]
  refine take_val (v := ?_) 22 (some 37) rfl (by kernel_rfl) (by kernel_rfl) (by kernel_rfl) (fun _ _ _ h => h) rfl rfl (fun w hSw => ?_) hHeld ?_
  rotate_left
  · (go_simp; try with_reducible rfl)
  try simp only [Act.put, List.setIfInBounds_toArray, List.set_cons_zero, List.set_cons_succ]
  refine take_val (v := ?_) 24 (some 38) rfl (by kernel_rfl) (by kernel_rfl) (by kernel_rfl) (fun _ _ _ h => h) rfl rfl (fun w hSw => ?_) hHeld ?_
  rotate_left
  · (go_simp; try with_reducible rfl)
  try simp only [Act.put, List.setIfInBounds_toArray, List.set_cons_zero, List.set_cons_succ]
  refine take_val (v := ?_) 27 (some 40) rfl (by kernel_rfl) (by kernel_rfl) (by kernel_rfl) (fun _ _ _ h => h) rfl rfl (fun w hSw => ?_) hHeld ?_
  rotate_left
  · (go_simp; try with_reducible rfl)
  try simp only [Act.put, List.setIfInBounds_toArray, List.set_cons_zero, List.set_cons_succ]
  refine take_val (v := ?_) 30 (some 42) rfl (by kernel_rfl) (by kernel_rfl) (by kernel_rfl) (fun _ _ _ h => h) rfl rfl (fun w hSw => ?_) hHeld ?_
  rotate_left
  · (go_simp; try with_reducible rfl)
  try simp only [Act.put, List.setIfInBounds_toArray, List.set_cons_zero, List.set_cons_succ]
  refine wpAnyH_ready (rs := [23]) (by kernel_rfl) (by simp) ?_
  refine AllReadyH.cons (o := _) rfl (fun K hK => ?_) ?_
  ·
    rw [if_pos (by rfl)]
    go_simp
    refine hK.out _ _ (hHeld.setIn (by simp) _ _) (fun hHeld => ?_)
    clear hK K
    try simp only [Act.put, List.setIfInBounds_toArray, List.set_cons_zero, List.set_cons_succ]
    refine take_val (v := ?_) 25 (some 39) rfl (by kernel_rfl) (by kernel_rfl) (by kernel_rfl) (fun _ _ _ h => h) rfl rfl (fun w hSw => ?_) hHeld ?_
    rotate_left
    · (go_simp; try with_reducible rfl)
    try simp only [Act.put, List.setIfInBounds_toArray, List.set_cons_zero, List.set_cons_succ]
    refine wpAnyH_ready (rs := [26]) (by kernel_rfl) (by simp) ?_
    refine AllReadyH.cons (o := _) rfl (fun K hK => ?_) ?_
    ·
      rw [if_pos (by rfl)]
      go_simp
      refine hK.out _ _ (hHeld.setIn (by simp) _ _) (fun hHeld => ?_)
      clear hK K
      try simp only [Act.put, List.setIfInBounds_toArray, List.set_cons_zero, List.set_cons_succ]
      refine take_val (v := ?_) 28 (some 41) rfl (by kernel_rfl) (by kernel_rfl) (by kernel_rfl) (fun _ _ _ h => h) rfl rfl (fun w hSw => ?_) hHeld ?_
      rotate_left
      · (go_simp; try with_reducible rfl)
      try simp only [Act.put, List.setIfInBounds_toArray, List.set_cons_zero, List.set_cons_succ]
      refine wpAnyH_ready (rs := [29]) (by kernel_rfl) (by simp) ?_
      refine AllReadyH.cons (o := _) rfl (fun K hK => ?_) ?_
      ·
        rw [if_pos (by rfl)]
        go_simp
        refine hK.out _ _ (hHeld.setIn (by simp) _ _) (fun hHeld => ?_)
        clear hK K
        try simp only [Act.put, List.setIfInBounds_toArray, List.set_cons_zero, List.set_cons_succ]
        refine take_val (v := ?_) 31 (some 43) rfl (by kernel_rfl) (by kernel_rfl) (by kernel_rfl) (fun _ _ _ h => h) rfl rfl (fun w hSw => ?_) hHeld ?_
        rotate_left
        · (go_simp; try with_reducible rfl)
        try simp only [Act.put, List.setIfInBounds_toArray, List.set_cons_zero, List.set_cons_succ]
        refine wpAnyH_ready (rs := [32]) (by kernel_rfl) (by simp) ?_
        refine AllReadyH.cons (o := _) rfl (fun K hK => ?_) ?_
        ·
          rw [if_pos (by rfl)]
          go_simp
          refine hK.out _ _ (hHeld.setIn (by simp) _ _) (fun hHeld => ?_)
          clear hK K
          try simp only [Act.put, List.setIfInBounds_toArray, List.set_cons_zero, List.set_cons_succ]
          refine wpAnyH_done (by kernel_rfl) ?_ _
          have HZ1 : Blk (((((w.setCell ⟨z, 0, none⟩ (.int .u64 w0)).setCell ⟨z, 1, none⟩ (.int .u64 w1)).setCell ⟨z, 2, none⟩ (.int .u64 w2)).setCell ⟨z, 3, none⟩ (.int .u64 (w3 % 1152921504606846976))).drew) z #[.int .u64 w0, .int .u64 w1, .int .u64 w2, .int .u64 (w3 % 1152921504606846976)] 248 := (Blk.to ((((hz.setCell _ _).setCell _ _).setCell _ _).setCell _ _) (by simp)).drew
          have HW1 : Blk (((((w.setCell ⟨z, 0, none⟩ (.int .u64 w0)).setCell ⟨z, 1, none⟩ (.int .u64 w1)).setCell ⟨z, 2, none⟩ (.int .u64 w2)).setCell ⟨z, 3, none⟩ (.int .u64 (w3 % 1152921504606846976))).drew) W #[.int .u64 w0, .int .u64 w1, .int .u64 w2, .int .u64 w3, .int .u64 w4, .int .u64 w5, .int .u64 w6, .int .u64 w7] 262 := HW.chg hHeld (by simpa using hne)
          have C1 : Chg w (((((w.setCell ⟨z, 0, none⟩ (.int .u64 w0)).setCell ⟨z, 1, none⟩ (.int .u64 w1)).setCell ⟨z, 2, none⟩ (.int .u64 w2)).setCell ⟨z, 3, none⟩ (.int .u64 (w3 % 1152921504606846976))).drew) [W, z] := ⟨hHeld.os, hHeld.tape, hHeld.output, hHeld.size, fun k hk hl => hHeld.block k hk (fun hx => hl (by simp at hx ⊢; exact Or.inr hx))⟩
          generalize ((((w.setCell ⟨z, 0, none⟩ (.int .u64 w0)).setCell ⟨z, 1, none⟩ (.int .u64 w1)).setCell ⟨z, 2, none⟩ (.int .u64 w2)).setCell ⟨z, 3, none⟩ (.int .u64 (w3 % 1152921504606846976))).drew = wa at *
          go_wp2_with fail
          refine wp_region_held_drew (S := fun w' => Chg wa w' []) (by kernel_rfl) ((Chg.refl wa _).drew) (fun hHeld => ?_)
          refine take_val (v := ?_) 0 (some 44) rfl (by kernel_rfl) (by kernel_rfl) (by kernel_rfl) (fun _ _ _ h => h) rfl rfl (fun w hSw => ?_) hHeld ?_
          rotate_left
          · (go_simp; try with_reducible rfl)
          try simp only [Act.put, List.setIfInBounds_toArray, List.set_cons_zero, List.set_cons_succ]
          refine take_val (v := ?_) 1 (some 45) rfl (by kernel_rfl) (by kernel_rfl) (by kernel_rfl) (fun _ _ _ h => h) rfl rfl (fun w hSw => ?_) hHeld ?_
          rotate_left
          · (go_simp; try with_reducible rfl)
          try simp only [Act.put, List.setIfInBounds_toArray, List.set_cons_zero, List.set_cons_succ]
          refine take_val (v := ?_) 2 (some 46) rfl (by kernel_rfl) (by kernel_rfl) (by kernel_rfl) (fun _ _ _ h => h) rfl rfl (fun w hSw => ?_) hHeld ?_
          rotate_left
          · (go_simp; try with_reducible rfl)
          try simp only [Act.put, List.setIfInBounds_toArray, List.set_cons_zero, List.set_cons_succ]
          refine take_val (v := ?_) 3 (some 47) rfl (by kernel_rfl) (by kernel_rfl) (by kernel_rfl) (fun _ _ _ h => h) rfl rfl (fun w hSw => ?_) hHeld ?_
          rotate_left
          · have cw := (HW1.chg hSw (by simp)).cell 3
            (go_simp; try with_reducible rfl)
          try simp only [Act.put, List.setIfInBounds_toArray, List.set_cons_zero, List.set_cons_succ]
          refine take_val (v := ?_) 4 (some 48) rfl (by kernel_rfl) (by kernel_rfl) (by kernel_rfl) (fun _ _ _ h => h) rfl rfl (fun w hSw => ?_) hHeld ?_
          rotate_left
          · (go_simp; try with_reducible rfl)
          try simp only [Act.put, List.setIfInBounds_toArray, List.set_cons_zero, List.set_cons_succ]
          refine take_val (v := ?_) 5 (some 49) rfl (by kernel_rfl) (by kernel_rfl) (by kernel_rfl) (fun _ _ _ h => h) rfl rfl (fun w hSw => ?_) hHeld ?_
          rotate_left
          · (go_simp; try with_reducible rfl)
          try simp only [Act.put, List.setIfInBounds_toArray, List.set_cons_zero, List.set_cons_succ]
          refine take_val (v := ?_) 6 (some 50) rfl (by kernel_rfl) (by kernel_rfl) (by kernel_rfl) (fun _ _ _ h => h) rfl rfl (fun w hSw => ?_) hHeld ?_
          rotate_left
          · (go_simp; try with_reducible rfl)
          try simp only [Act.put, List.setIfInBounds_toArray, List.set_cons_zero, List.set_cons_succ]
          refine take_val (v := ?_) 7 (some 51) rfl (by kernel_rfl) (by kernel_rfl) (by kernel_rfl) (fun _ _ _ h => h) rfl rfl (fun w hSw => ?_) hHeld ?_
          rotate_left
          · (go_simp; try with_reducible rfl)
          try simp only [Act.put, List.setIfInBounds_toArray, List.set_cons_zero, List.set_cons_succ]
          refine take_val (v := ?_) 8 (some 52) rfl (by kernel_rfl) (by kernel_rfl) (by kernel_rfl) (fun _ _ _ h => h) rfl rfl (fun w hSw => ?_) hHeld ?_
          rotate_left
          · have cw := (HW1.chg hSw (by simp)).cell 4
            (go_simp; try with_reducible rfl)
          try simp only [Act.put, List.setIfInBounds_toArray, List.set_cons_zero, List.set_cons_succ]
          refine take_val (v := ?_) 9 (some 53) rfl (by kernel_rfl) (by kernel_rfl) (by kernel_rfl) (fun _ _ _ h => h) rfl rfl (fun w hSw => ?_) hHeld ?_
          rotate_left
          · (go_simp; try with_reducible rfl)
          try simp only [Act.put, List.setIfInBounds_toArray, List.set_cons_zero, List.set_cons_succ]
          refine take_val (v := ?_) 10 (some 54) rfl (by kernel_rfl) (by kernel_rfl) (by kernel_rfl) (fun _ _ _ h => h) rfl rfl (fun w hSw => ?_) hHeld ?_
          rotate_left
          · (go_simp; try with_reducible rfl)
          try simp only [Act.put, List.setIfInBounds_toArray, List.set_cons_zero, List.set_cons_succ]
          refine take_val (v := ?_) 11 (some 55) rfl (by kernel_rfl) (by kernel_rfl) (by kernel_rfl) (fun _ _ _ h => h) rfl rfl (fun w hSw => ?_) hHeld ?_
          rotate_left
          · (go_simp; try with_reducible rfl)
          try simp only [Act.put, List.setIfInBounds_toArray, List.set_cons_zero, List.set_cons_succ]
          refine take_val (v := ?_) 12 (some 56) rfl (by kernel_rfl) (by kernel_rfl) (by kernel_rfl) (fun _ _ _ h => h) rfl rfl (fun w hSw => ?_) hHeld ?_
          rotate_left
          · (go_simp; try with_reducible rfl)
          try simp only [Act.put, List.setIfInBounds_toArray, List.set_cons_zero, List.set_cons_succ]
          refine take_val (v := ?_) 13 (some 57) rfl (by kernel_rfl) (by kernel_rfl) (by kernel_rfl) (fun _ _ _ h => h) rfl rfl (fun w hSw => ?_) hHeld ?_
          rotate_left
          · (go_simp; try with_reducible rfl)
          try simp only [Act.put, List.setIfInBounds_toArray, List.set_cons_zero, List.set_cons_succ]
          refine take_val (v := ?_) 14 (some 58) rfl (by kernel_rfl) (by kernel_rfl) (by kernel_rfl) (fun _ _ _ h => h) rfl rfl (fun w hSw => ?_) hHeld ?_
          rotate_left
          · have cw := (HW1.chg hSw (by simp)).cell 4
            (go_simp; try with_reducible rfl)
          try simp only [Act.put, List.setIfInBounds_toArray, List.set_cons_zero, List.set_cons_succ]
          refine take_val (v := ?_) 15 (some 59) rfl (by kernel_rfl) (by kernel_rfl) (by kernel_rfl) (fun _ _ _ h => h) rfl rfl (fun w hSw => ?_) hHeld ?_
          rotate_left
          · (go_simp; try with_reducible rfl)
          try simp only [Act.put, List.setIfInBounds_toArray, List.set_cons_zero, List.set_cons_succ]
          refine take_val (v := ?_) 16 (some 60) rfl (by kernel_rfl) (by kernel_rfl) (by kernel_rfl) (fun _ _ _ h => h) rfl rfl (fun w hSw => ?_) hHeld ?_
          rotate_left
          · (go_simp; try with_reducible rfl)
          try simp only [Act.put, List.setIfInBounds_toArray, List.set_cons_zero, List.set_cons_succ]
          refine take_val (v := ?_) 17 (some 61) rfl (by kernel_rfl) (by kernel_rfl) (by kernel_rfl) (fun _ _ _ h => h) rfl rfl (fun w hSw => ?_) hHeld ?_
          rotate_left
          · (go_simp; try with_reducible rfl)
          try simp only [Act.put, List.setIfInBounds_toArray, List.set_cons_zero, List.set_cons_succ]
          refine take_val (v := ?_) 18 (some 62) rfl (by kernel_rfl) (by kernel_rfl) (by kernel_rfl) (fun _ _ _ h => h) rfl rfl (fun w hSw => ?_) hHeld ?_
          rotate_left
          · (go_simp; try with_reducible rfl)
          try simp only [Act.put, List.setIfInBounds_toArray, List.set_cons_zero, List.set_cons_succ]
          refine take_val (v := ?_) 19 (some 63) rfl (by kernel_rfl) (by kernel_rfl) (by kernel_rfl) (fun _ _ _ h => h) rfl rfl (fun w hSw => ?_) hHeld ?_
          rotate_left
          · have cw := (HW1.chg hSw (by simp)).cell 5
            (go_simp; try with_reducible rfl)
          try simp only [Act.put, List.setIfInBounds_toArray, List.set_cons_zero, List.set_cons_succ]
          refine take_val (v := ?_) 20 (some 64) rfl (by kernel_rfl) (by kernel_rfl) (by kernel_rfl) (fun _ _ _ h => h) rfl rfl (fun w hSw => ?_) hHeld ?_
          rotate_left
          · (go_simp; try with_reducible rfl)
          try simp only [Act.put, List.setIfInBounds_toArray, List.set_cons_zero, List.set_cons_succ]
          refine take_val (v := ?_) 21 (some 65) rfl (by kernel_rfl) (by kernel_rfl) (by kernel_rfl) (fun _ _ _ h => h) rfl rfl (fun w hSw => ?_) hHeld ?_
          rotate_left
          · (go_simp; try with_reducible rfl)
          try simp only [Act.put, List.setIfInBounds_toArray, List.set_cons_zero, List.set_cons_succ]
          refine take_val (v := ?_) 22 (some 66) rfl (by kernel_rfl) (by kernel_rfl) (by kernel_rfl) (fun _ _ _ h => h) rfl rfl (fun w hSw => ?_) hHeld ?_
          rotate_left
          · (go_simp; try with_reducible rfl)
          try simp only [Act.put, List.setIfInBounds_toArray, List.set_cons_zero, List.set_cons_succ]
          refine take_val (v := ?_) 23 (some 67) rfl (by kernel_rfl) (by kernel_rfl) (by kernel_rfl) (fun _ _ _ h => h) rfl rfl (fun w hSw => ?_) hHeld ?_
          rotate_left
          · (go_simp; try with_reducible rfl)
          try simp only [Act.put, List.setIfInBounds_toArray, List.set_cons_zero, List.set_cons_succ]
          refine take_val (v := ?_) 24 (some 68) rfl (by kernel_rfl) (by kernel_rfl) (by kernel_rfl) (fun _ _ _ h => h) rfl rfl (fun w hSw => ?_) hHeld ?_
          rotate_left
          · (go_simp; try with_reducible rfl)
          try simp only [Act.put, List.setIfInBounds_toArray, List.set_cons_zero, List.set_cons_succ]
          refine take_val (v := ?_) 25 (some 69) rfl (by kernel_rfl) (by kernel_rfl) (by kernel_rfl) (fun _ _ _ h => h) rfl rfl (fun w hSw => ?_) hHeld ?_
          rotate_left
          · have cw := (HW1.chg hSw (by simp)).cell 5
            (go_simp; try with_reducible rfl)
          try simp only [Act.put, List.setIfInBounds_toArray, List.set_cons_zero, List.set_cons_succ]
          refine take_val (v := ?_) 26 (some 70) rfl (by kernel_rfl) (by kernel_rfl) (by kernel_rfl) (fun _ _ _ h => h) rfl rfl (fun w hSw => ?_) hHeld ?_
          rotate_left
          · (go_simp; try with_reducible rfl)
          try simp only [Act.put, List.setIfInBounds_toArray, List.set_cons_zero, List.set_cons_succ]
          refine take_val (v := ?_) 27 (some 71) rfl (by kernel_rfl) (by kernel_rfl) (by kernel_rfl) (fun _ _ _ h => h) rfl rfl (fun w hSw => ?_) hHeld ?_
          rotate_left
          · (go_simp; try with_reducible rfl)
          try simp only [Act.put, List.setIfInBounds_toArray, List.set_cons_zero, List.set_cons_succ]
          refine take_val (v := ?_) 28 (some 72) rfl (by kernel_rfl) (by kernel_rfl) (by kernel_rfl) (fun _ _ _ h => h) rfl rfl (fun w hSw => ?_) hHeld ?_
          rotate_left
          · (go_simp; try with_reducible rfl)
          try simp only [Act.put, List.setIfInBounds_toArray, List.set_cons_zero, List.set_cons_succ]
          refine take_val (v := ?_) 29 (some 73) rfl (by kernel_rfl) (by kernel_rfl) (by kernel_rfl) (fun _ _ _ h => h) rfl rfl (fun w hSw => ?_) hHeld ?_
          rotate_left
          · (go_simp; try with_reducible rfl)
          try simp only [Act.put, List.setIfInBounds_toArray, List.set_cons_zero, List.set_cons_succ]
          refine take_val (v := ?_) 30 (some 74) rfl (by kernel_rfl) (by kernel_rfl) (by kernel_rfl) (fun _ _ _ h => h) rfl rfl (fun w hSw => ?_) hHeld ?_
          rotate_left
          · have cw := (HW1.chg hSw (by simp)).cell 6
            (go_simp; try with_reducible rfl)
          try simp only [Act.put, List.setIfInBounds_toArray, List.set_cons_zero, List.set_cons_succ]
          refine take_val (v := ?_) 31 (some 75) rfl (by kernel_rfl) (by kernel_rfl) (by kernel_rfl) (fun _ _ _ h => h) rfl rfl (fun w hSw => ?_) hHeld ?_
          rotate_left
          · (go_simp; try with_reducible rfl)
          try simp only [Act.put, List.setIfInBounds_toArray, List.set_cons_zero, List.set_cons_succ]
          refine take_val (v := ?_) 32 (some 76) rfl (by kernel_rfl) (by kernel_rfl) (by kernel_rfl) (fun _ _ _ h => h) rfl rfl (fun w hSw => ?_) hHeld ?_
          rotate_left
          · (go_simp; try with_reducible rfl)
          try simp only [Act.put, List.setIfInBounds_toArray, List.set_cons_zero, List.set_cons_succ]
          refine take_val (v := ?_) 33 (some 77) rfl (by kernel_rfl) (by kernel_rfl) (by kernel_rfl) (fun _ _ _ h => h) rfl rfl (fun w hSw => ?_) hHeld ?_
          rotate_left
          · (go_simp; try with_reducible rfl)
          try simp only [Act.put, List.setIfInBounds_toArray, List.set_cons_zero, List.set_cons_succ]
          refine take_val (v := ?_) 34 (some 78) rfl (by kernel_rfl) (by kernel_rfl) (by kernel_rfl) (fun _ _ _ h => h) rfl rfl (fun w hSw => ?_) hHeld ?_
          rotate_left
          · (go_simp; try with_reducible rfl)
          try simp only [Act.put, List.setIfInBounds_toArray, List.set_cons_zero, List.set_cons_succ]
          refine take_val (v := ?_) 35 (some 79) rfl (by kernel_rfl) (by kernel_rfl) (by kernel_rfl) (fun _ _ _ h => h) rfl rfl (fun w hSw => ?_) hHeld ?_
          rotate_left
          · (go_simp; try with_reducible rfl)
          try simp only [Act.put, List.setIfInBounds_toArray, List.set_cons_zero, List.set_cons_succ]
          refine take_val (v := ?_) 36 (some 80) rfl (by kernel_rfl) (by kernel_rfl) (by kernel_rfl) (fun _ _ _ h => h) rfl rfl (fun w hSw => ?_) hHeld ?_
          rotate_left
          · have cw := (HW1.chg hSw (by simp)).cell 6
            (go_simp; try with_reducible rfl)
          try simp only [Act.put, List.setIfInBounds_toArray, List.set_cons_zero, List.set_cons_succ]
          refine take_val (v := ?_) 37 (some 81) rfl (by kernel_rfl) (by kernel_rfl) (by kernel_rfl) (fun _ _ _ h => h) rfl rfl (fun w hSw => ?_) hHeld ?_
          rotate_left
          · (go_simp; try with_reducible rfl)
          try simp only [Act.put, List.setIfInBounds_toArray, List.set_cons_zero, List.set_cons_succ]
          refine take_val (v := ?_) 38 (some 82) rfl (by kernel_rfl) (by kernel_rfl) (by kernel_rfl) (fun _ _ _ h => h) rfl rfl (fun w hSw => ?_) hHeld ?_
          rotate_left
          · (go_simp; try with_reducible rfl)
          try simp only [Act.put, List.setIfInBounds_toArray, List.set_cons_zero, List.set_cons_succ]
          refine take_val (v := ?_) 39 (some 83) rfl (by kernel_rfl) (by kernel_rfl) (by kernel_rfl) (fun _ _ _ h => h) rfl rfl (fun w hSw => ?_) hHeld ?_
          rotate_left
          · (go_simp; try with_reducible rfl)
          try simp only [Act.put, List.setIfInBounds_toArray, List.set_cons_zero, List.set_cons_succ]
          refine take_val (v := ?_) 40 (some 84) rfl (by kernel_rfl) (by kernel_rfl) (by kernel_rfl) (fun _ _ _ h => h) rfl rfl (fun w hSw => ?_) hHeld ?_
          rotate_left
          · (go_simp; try with_reducible rfl)
          try simp only [Act.put, List.setIfInBounds_toArray, List.set_cons_zero, List.set_cons_succ]
          refine take_val (v := ?_) 41 (some 85) rfl (by kernel_rfl) (by kernel_rfl) (by kernel_rfl) (fun _ _ _ h => h) rfl rfl (fun w hSw => ?_) hHeld ?_
          rotate_left
          · have cw := (HW1.chg hSw (by simp)).cell 7
            (go_simp; try with_reducible rfl)
          try simp only [Act.put, List.setIfInBounds_toArray, List.set_cons_zero, List.set_cons_succ]
          refine take_val (v := ?_) 42 (some 86) rfl (by kernel_rfl) (by kernel_rfl) (by kernel_rfl) (fun _ _ _ h => h) rfl rfl (fun w hSw => ?_) hHeld ?_
          rotate_left
          · (go_simp; try with_reducible rfl)
          try simp only [Act.put, List.setIfInBounds_toArray, List.set_cons_zero, List.set_cons_succ]
          refine take_val (v := ?_) 43 (some 87) rfl (by kernel_rfl) (by kernel_rfl) (by kernel_rfl) (fun _ _ _ h => h) rfl rfl (fun w hSw => ?_) hHeld ?_
          rotate_left
          · (go_simp; try with_reducible rfl)
          try simp only [Act.put, List.setIfInBounds_toArray, List.set_cons_zero, List.set_cons_succ]
          refine take_val (v := ?_) 44 (some 4) rfl (by kernel_rfl) (by kernel_rfl) (by kernel_rfl) (fun _ _ _ h => h) rfl rfl (fun w hSw => ?_) hHeld ?_
          rotate_left
          · (go_simp; try with_reducible rfl)
          try simp only [Act.put, List.setIfInBounds_toArray, List.set_cons_zero, List.set_cons_succ]
          refine take_val (v := ?_) 45 (some 5) rfl (by kernel_rfl) (by kernel_rfl) (by kernel_rfl) (fun _ _ _ h => h) rfl rfl (fun w hSw => ?_) hHeld ?_
          rotate_left
          · (go_simp; try with_reducible rfl)
          try simp only [Act.put, List.setIfInBounds_toArray, List.set_cons_zero, List.set_cons_succ]
          refine take_val (v := ?_) 46 (some 6) rfl (by kernel_rfl) (by kernel_rfl) (by kernel_rfl) (fun _ _ _ h => h) rfl rfl (fun w hSw => ?_) hHeld ?_
          rotate_left
          · (go_simp; try with_reducible rfl)
          try simp only [Act.put, List.setIfInBounds_toArray, List.set_cons_zero, List.set_cons_succ]
          refine take_val (v := ?_) 47 (some 7) rfl (by kernel_rfl) (by kernel_rfl) (by kernel_rfl) (fun _ _ _ h => h) rfl rfl (fun w hSw => ?_) hHeld ?_
          rotate_left
          · (go_simp; try with_reducible rfl)
          try simp only [Act.put, List.setIfInBounds_toArray, List.set_cons_zero, List.set_cons_succ]
          refine wpAnyH_done (by kernel_rfl) ?_ _
          replace HW1 := HW1.drew
          replace HZ1 := HZ1.drew
          replace C1 := C1.drew
          generalize wa.drew = wb at *
          clear t0 o0 y0 f0 t1 o1 y1 f1 t2 o2 y2 f2 t3 o3 y3 f3 mm k0 g0 k1 g1 k2 g2 k3 g3 k4 g4 k5 g5 k6 g6 k7 g7 HW hz
          go_wp2_with fail
          refine (S0 _).mono ?_
          rintro e wb ⟨rfl, rfl⟩
          clear S0
          go_wp2_with fail
          refine (S1 _).mono ?_
          rintro e wb ⟨rfl, rfl⟩
          clear S1
          go_wp2_with fail
          refine (S2 _).mono ?_
          rintro e wb ⟨rfl, rfl⟩
          clear S2
          go_wp2_with fail
          refine (S3 _).mono ?_
          rintro e wb ⟨rfl, rfl⟩
          clear S3
          go_wp2_with fail
          refine (S4 _).mono ?_
          rintro e wb ⟨rfl, rfl⟩
          clear S4
          go_wp2_with fail
          refine (S5 _).mono ?_
          rintro e wb ⟨rfl, rfl⟩
          clear S5
          go_wp2_with fail
          refine (S6 _).mono ?_
          rintro e wb ⟨rfl, rfl⟩
          clear S6
          go_wp2_with fail
          refine (S7 _).mono ?_
          rintro e wb ⟨rfl, rfl⟩
          clear S7
          go_wp2_with fail
          have CWB := Chg.refl wb [W]
          refine wp_region_held_drew (S := fun w' => Chg wb w' [W]) (by kernel_rfl) ((Chg.refl wb _).drew) (fun hHeld => ?_)
          replace HW1 := HW1.drew
          generalize World.drew wb = u0 at *
          refine take_val (v := ?_) 0 (some 138) rfl (by kernel_rfl) (by kernel_rfl) (by kernel_rfl) (fun _ _ _ h => h) rfl rfl (fun w hSw => ?_) hHeld ?_
          rotate_left
          · (go_simp; try with_reducible rfl)
          try simp only [Act.put, List.setIfInBounds_toArray, List.set_cons_zero, List.set_cons_succ]
          refine take_val (v := ?_) 1 (some 139) rfl (by kernel_rfl) (by kernel_rfl) (by kernel_rfl) (fun _ _ _ h => h) rfl rfl (fun w hSw => ?_) hHeld ?_
          rotate_left
          · (go_simp; try with_reducible rfl)
          try simp only [Act.put, List.setIfInBounds_toArray, List.set_cons_zero, List.set_cons_succ]
          refine take_val (v := ?_) 2 (some 140) rfl (by kernel_rfl) (by kernel_rfl) (by kernel_rfl) (fun _ _ _ h => h) rfl rfl (fun w hSw => ?_) hHeld ?_
          rotate_left
          · (go_simp; try with_reducible rfl)
          try simp only [Act.put, List.setIfInBounds_toArray, List.set_cons_zero, List.set_cons_succ]
          refine take_val (v := ?_) 3 (some 141) rfl (by kernel_rfl) (by kernel_rfl) (by kernel_rfl) (fun _ _ _ h => h) rfl rfl (fun w hSw => ?_) hHeld ?_
          rotate_left
          · (go_simp; try with_reducible rfl)
          try simp only [Act.put, List.setIfInBounds_toArray, List.set_cons_zero, List.set_cons_succ]
          refine take_val (v := ?_) 4 (some 142) rfl (by kernel_rfl) (by kernel_rfl) (by kernel_rfl) (fun _ _ _ h => h) rfl rfl (fun w hSw => ?_) hHeld ?_
          rotate_left
          · (go_simp; try with_reducible rfl)
          try simp only [Act.put, List.setIfInBounds_toArray, List.set_cons_zero, List.set_cons_succ]
          refine take_val (v := ?_) 5 (some 143) rfl (by kernel_rfl) (by kernel_rfl) (by kernel_rfl) (fun _ _ _ h => h) rfl rfl (fun w hSw => ?_) hHeld ?_
          rotate_left
          · (go_simp; try with_reducible rfl)
          try simp only [Act.put, List.setIfInBounds_toArray, List.set_cons_zero, List.set_cons_succ]
          refine take_val (v := ?_) 6 (some 144) rfl (by kernel_rfl) (by kernel_rfl) (by kernel_rfl) (fun _ _ _ h => h) rfl rfl (fun w hSw => ?_) hHeld ?_
          rotate_left
          · (go_simp; try with_reducible rfl)
          try simp only [Act.put, List.setIfInBounds_toArray, List.set_cons_zero, List.set_cons_succ]
          refine take_val (v := ?_) 7 (some 145) rfl (by kernel_rfl) (by kernel_rfl) (by kernel_rfl) (fun _ _ _ h => h) rfl rfl (fun w hSw => ?_) hHeld ?_
          rotate_left
          · (go_simp; try with_reducible rfl)
          try simp only [Act.put, List.setIfInBounds_toArray, List.set_cons_zero, List.set_cons_succ]
          refine take_val (v := ?_) 8 (some 146) rfl (by kernel_rfl) (by kernel_rfl) (by kernel_rfl) (fun _ _ _ h => h) rfl rfl (fun w hSw => ?_) hHeld ?_
          rotate_left
          · (go_simp; try with_reducible rfl)
          try simp only [Act.put, List.setIfInBounds_toArray, List.set_cons_zero, List.set_cons_succ]
          refine take_val (v := ?_) 9 (some 147) rfl (by kernel_rfl) (by kernel_rfl) (by kernel_rfl) (fun _ _ _ h => h) rfl rfl (fun w hSw => ?_) hHeld ?_
          rotate_left
          · (go_simp; try with_reducible rfl)
          try simp only [Act.put, List.setIfInBounds_toArray, List.set_cons_zero, List.set_cons_succ]
          refine take_val (v := ?_) 10 (some 148) rfl (by kernel_rfl) (by kernel_rfl) (by kernel_rfl) (fun _ _ _ h => h) rfl rfl (fun w hSw => ?_) hHeld ?_
          rotate_left
          · (go_simp; try with_reducible rfl)
          try simp only [Act.put, List.setIfInBounds_toArray, List.set_cons_zero, List.set_cons_succ]
          refine take_val (v := ?_) 11 (some 149) rfl (by kernel_rfl) (by kernel_rfl) (by kernel_rfl) (fun _ _ _ h => h) rfl rfl (fun w hSw => ?_) hHeld ?_
          rotate_left
          · (go_simp; try with_reducible rfl)
          try simp only [Act.put, List.setIfInBounds_toArray, List.set_cons_zero, List.set_cons_succ]
          refine take_val (v := ?_) 12 (some 150) rfl (by kernel_rfl) (by kernel_rfl) (by kernel_rfl) (fun _ _ _ h => h) rfl rfl (fun w hSw => ?_) hHeld ?_
          rotate_left
          · (go_simp; try with_reducible rfl)
          try simp only [Act.put, List.setIfInBounds_toArray, List.set_cons_zero, List.set_cons_succ]
          refine take_val (v := ?_) 13 (some 151) rfl (by kernel_rfl) (by kernel_rfl) (by kernel_rfl) (fun _ _ _ h => h) rfl rfl (fun w hSw => ?_) hHeld ?_
          rotate_left
          · (go_simp; try with_reducible rfl)
          try simp only [Act.put, List.setIfInBounds_toArray, List.set_cons_zero, List.set_cons_succ]
          refine take_val (v := ?_) 14 (some 152) rfl (by kernel_rfl) (by kernel_rfl) (by kernel_rfl) (fun _ _ _ h => h) rfl rfl (fun w hSw => ?_) hHeld ?_
          rotate_left
          · (go_simp; try with_reducible rfl)
          try simp only [Act.put, List.setIfInBounds_toArray, List.set_cons_zero, List.set_cons_succ]
          refine take_val (v := ?_) 15 (some 153) rfl (by kernel_rfl) (by kernel_rfl) (by kernel_rfl) (fun _ _ _ h => h) rfl rfl (fun w hSw => ?_) hHeld ?_
          rotate_left
          · (go_simp; try with_reducible rfl)
          try simp only [Act.put, List.setIfInBounds_toArray, List.set_cons_zero, List.set_cons_succ]
          refine take_val (v := ?_) 17 (some 154) rfl (by kernel_rfl) (by kernel_rfl) (by kernel_rfl) (fun _ _ _ h => h) rfl rfl (fun w hSw => ?_) hHeld ?_
          rotate_left
          · (go_simp; try with_reducible rfl)
          try simp only [Act.put, List.setIfInBounds_toArray, List.set_cons_zero, List.set_cons_succ]
          refine take_val (v := ?_) 20 (some 156) rfl (by kernel_rfl) (by kernel_rfl) (by kernel_rfl) (fun _ _ _ h => h) rfl rfl (fun w hSw => ?_) hHeld ?_
          rotate_left
          · (go_simp; try with_reducible rfl)
          try simp only [Act.put, List.setIfInBounds_toArray, List.set_cons_zero, List.set_cons_succ]
          refine take_val (v := ?_) 23 (some 158) rfl (by kernel_rfl) (by kernel_rfl) (by kernel_rfl) (fun _ _ _ h => h) rfl rfl (fun w hSw => ?_) hHeld ?_
          rotate_left
          · (go_simp; try with_reducible rfl)
          try simp only [Act.put, List.setIfInBounds_toArray, List.set_cons_zero, List.set_cons_succ]
          refine take_val (v := ?_) 26 (some 160) rfl (by kernel_rfl) (by kernel_rfl) (by kernel_rfl) (fun _ _ _ h => h) rfl rfl (fun w hSw => ?_) hHeld ?_
          rotate_left
          · (go_simp; try with_reducible rfl)
          try simp only [Act.put, List.setIfInBounds_toArray, List.set_cons_zero, List.set_cons_succ]
          refine take_val (v := ?_) 29 (some 162) rfl (by kernel_rfl) (by kernel_rfl) (by kernel_rfl) (fun _ _ _ h => h) rfl rfl (fun w hSw => ?_) hHeld ?_
          rotate_left
          · (go_simp; try with_reducible rfl)
          try simp only [Act.put, List.setIfInBounds_toArray, List.set_cons_zero, List.set_cons_succ]
          refine take_val (v := ?_) 32 (some 164) rfl (by kernel_rfl) (by kernel_rfl) (by kernel_rfl) (fun _ _ _ h => h) rfl rfl (fun w hSw => ?_) hHeld ?_
          rotate_left
          · (go_simp; try with_reducible rfl)
          try simp only [Act.put, List.setIfInBounds_toArray, List.set_cons_zero, List.set_cons_succ]
          refine take_val (v := ?_) 35 (some 166) rfl (by kernel_rfl) (by kernel_rfl) (by kernel_rfl) (fun _ _ _ h => h) rfl rfl (fun w hSw => ?_) hHeld ?_
          rotate_left
          · (go_simp; try with_reducible rfl)
          try simp only [Act.put, List.setIfInBounds_toArray, List.set_cons_zero, List.set_cons_succ]
          refine wpAnyH_ready (rs := [16]) (by kernel_rfl) (by simp) ?_
          refine AllReadyH.cons (o := _) rfl (fun K hK => ?_) ?_
          ·
            have ck := HW1.cell 0
            have fk := HW1.frozen 0
            simp at ck
            rw [if_pos (by rfl)]
            go_simp
            refine hK.out _ _ (hHeld.setIn (by simp) _ _) (fun hHeld => ?_)
            clear hK K
            try simp only [Act.put, List.setIfInBounds_toArray, List.set_cons_zero, List.set_cons_succ]
            replace HW1 := HW1.setCell 0 (.int .u64 (a0))
            simp only [List.setIfInBounds_toArray, List.set_cons_zero, List.set_cons_succ] at HW1
            clear ck fk
            generalize World.setCell u0 ⟨W, 0, none⟩ (.int .u64 (a0)) = u1 at *
            refine take_val (v := ?_) 18 (some 155) rfl (by kernel_rfl) (by kernel_rfl) (by kernel_rfl) (fun _ _ _ h => h) rfl rfl (fun w hSw => ?_) hHeld ?_
            rotate_left
            · (go_simp; try with_reducible rfl)
            try simp only [Act.put, List.setIfInBounds_toArray, List.set_cons_zero, List.set_cons_succ]
            refine wpAnyH_ready (rs := [19]) (by kernel_rfl) (by simp) ?_
            refine AllReadyH.cons (o := _) rfl (fun K hK => ?_) ?_
            ·
              have ck := HW1.cell 1
              have fk := HW1.frozen 1
              simp at ck
              rw [if_pos (by rfl)]
              go_simp
              refine hK.out _ _ (hHeld.setIn (by simp) _ _) (fun hHeld => ?_)
              clear hK K
              try simp only [Act.put, List.setIfInBounds_toArray, List.set_cons_zero, List.set_cons_succ]
              replace HW1 := HW1.setCell 1 (.int .u64 (b1))
              simp only [List.setIfInBounds_toArray, List.set_cons_zero, List.set_cons_succ] at HW1
              clear ck fk
              generalize World.setCell u1 ⟨W, 1, none⟩ (.int .u64 (b1)) = u2 at *
              refine take_val (v := ?_) 21 (some 157) rfl (by kernel_rfl) (by kernel_rfl) (by kernel_rfl) (fun _ _ _ h => h) rfl rfl (fun w hSw => ?_) hHeld ?_
              rotate_left
              · (go_simp; try with_reducible rfl)
              try simp only [Act.put, List.setIfInBounds_toArray, List.set_cons_zero, List.set_cons_succ]
              refine wpAnyH_ready (rs := [22]) (by kernel_rfl) (by simp) ?_
              refine AllReadyH.cons (o := _) rfl (fun K hK => ?_) ?_
              ·
                have ck := HW1.cell 2
                have fk := HW1.frozen 2
                simp at ck
                rw [if_pos (by rfl)]
                go_simp
                refine hK.out _ _ (hHeld.setIn (by simp) _ _) (fun hHeld => ?_)
                clear hK K
                try simp only [Act.put, List.setIfInBounds_toArray, List.set_cons_zero, List.set_cons_succ]
                replace HW1 := HW1.setCell 2 (.int .u64 (b2))
                simp only [List.setIfInBounds_toArray, List.set_cons_zero, List.set_cons_succ] at HW1
                clear ck fk
                generalize World.setCell u2 ⟨W, 2, none⟩ (.int .u64 (b2)) = u3 at *
                refine take_val (v := ?_) 24 (some 159) rfl (by kernel_rfl) (by kernel_rfl) (by kernel_rfl) (fun _ _ _ h => h) rfl rfl (fun w hSw => ?_) hHeld ?_
                rotate_left
                · (go_simp; try with_reducible rfl)
                try simp only [Act.put, List.setIfInBounds_toArray, List.set_cons_zero, List.set_cons_succ]
                refine wpAnyH_ready (rs := [25]) (by kernel_rfl) (by simp) ?_
                refine AllReadyH.cons (o := _) rfl (fun K hK => ?_) ?_
                ·
                  have ck := HW1.cell 3
                  have fk := HW1.frozen 3
                  simp at ck
                  rw [if_pos (by rfl)]
                  go_simp
                  refine hK.out _ _ (hHeld.setIn (by simp) _ _) (fun hHeld => ?_)
                  clear hK K
                  try simp only [Act.put, List.setIfInBounds_toArray, List.set_cons_zero, List.set_cons_succ]
                  replace HW1 := HW1.setCell 3 (.int .u64 (b3))
                  simp only [List.setIfInBounds_toArray, List.set_cons_zero, List.set_cons_succ] at HW1
                  clear ck fk
                  generalize World.setCell u3 ⟨W, 3, none⟩ (.int .u64 (b3)) = u4 at *
                  refine take_val (v := ?_) 27 (some 161) rfl (by kernel_rfl) (by kernel_rfl) (by kernel_rfl) (fun _ _ _ h => h) rfl rfl (fun w hSw => ?_) hHeld ?_
                  rotate_left
                  · (go_simp; try with_reducible rfl)
                  try simp only [Act.put, List.setIfInBounds_toArray, List.set_cons_zero, List.set_cons_succ]
                  refine wpAnyH_ready (rs := [28]) (by kernel_rfl) (by simp) ?_
                  refine AllReadyH.cons (o := _) rfl (fun K hK => ?_) ?_
                  ·
                    have ck := HW1.cell 4
                    have fk := HW1.frozen 4
                    simp at ck
                    rw [if_pos (by rfl)]
                    go_simp
                    refine hK.out _ _ (hHeld.setIn (by simp) _ _) (fun hHeld => ?_)
                    clear hK K
                    try simp only [Act.put, List.setIfInBounds_toArray, List.set_cons_zero, List.set_cons_succ]
                    replace HW1 := HW1.setCell 4 (.int .u64 (b4))
                    simp only [List.setIfInBounds_toArray, List.set_cons_zero, List.set_cons_succ] at HW1
                    clear ck fk
                    generalize World.setCell u4 ⟨W, 4, none⟩ (.int .u64 (b4)) = u5 at *
                    refine take_val (v := ?_) 30 (some 163) rfl (by kernel_rfl) (by kernel_rfl) (by kernel_rfl) (fun _ _ _ h => h) rfl rfl (fun w hSw => ?_) hHeld ?_
                    rotate_left
                    · (go_simp; try with_reducible rfl)
                    try simp only [Act.put, List.setIfInBounds_toArray, List.set_cons_zero, List.set_cons_succ]
                    refine wpAnyH_ready (rs := [31]) (by kernel_rfl) (by simp) ?_
                    refine AllReadyH.cons (o := _) rfl (fun K hK => ?_) ?_
                    ·
                      have ck := HW1.cell 5
                      have fk := HW1.frozen 5
                      simp at ck
                      rw [if_pos (by rfl)]
                      go_simp
                      refine hK.out _ _ (hHeld.setIn (by simp) _ _) (fun hHeld => ?_)
                      clear hK K
                      try simp only [Act.put, List.setIfInBounds_toArray, List.set_cons_zero, List.set_cons_succ]
                      replace HW1 := HW1.setCell 5 (.int .u64 (b5))
                      simp only [List.setIfInBounds_toArray, List.set_cons_zero, List.set_cons_succ] at HW1
                      clear ck fk
                      generalize World.setCell u5 ⟨W, 5, none⟩ (.int .u64 (b5)) = u6 at *
                      refine take_val (v := ?_) 33 (some 165) rfl (by kernel_rfl) (by kernel_rfl) (by kernel_rfl) (fun _ _ _ h => h) rfl rfl (fun w hSw => ?_) hHeld ?_
                      rotate_left
                      · (go_simp; try with_reducible rfl)
                      try simp only [Act.put, List.setIfInBounds_toArray, List.set_cons_zero, List.set_cons_succ]
                      refine wpAnyH_ready (rs := [34]) (by kernel_rfl) (by simp) ?_
                      refine AllReadyH.cons (o := _) rfl (fun K hK => ?_) ?_
                      ·
                        have ck := HW1.cell 6
                        have fk := HW1.frozen 6
                        simp at ck
                        rw [if_pos (by rfl)]
                        go_simp
                        refine hK.out _ _ (hHeld.setIn (by simp) _ _) (fun hHeld => ?_)
                        clear hK K
                        try simp only [Act.put, List.setIfInBounds_toArray, List.set_cons_zero, List.set_cons_succ]
                        replace HW1 := HW1.setCell 6 (.int .u64 (0))
                        simp only [List.setIfInBounds_toArray, List.set_cons_zero, List.set_cons_succ] at HW1
                        clear ck fk
                        generalize World.setCell u6 ⟨W, 6, none⟩ (.int .u64 (0)) = u7 at *
                        refine take_val (v := ?_) 36 (some 167) rfl (by kernel_rfl) (by kernel_rfl) (by kernel_rfl) (fun _ _ _ h => h) rfl rfl (fun w hSw => ?_) hHeld ?_
                        rotate_left
                        · (go_simp; try with_reducible rfl)
                        try simp only [Act.put, List.setIfInBounds_toArray, List.set_cons_zero, List.set_cons_succ]
                        refine wpAnyH_ready (rs := [37]) (by kernel_rfl) (by simp) ?_
                        refine AllReadyH.cons (o := _) rfl (fun K hK => ?_) ?_
                        ·
                          have ck := HW1.cell 7
                          have fk := HW1.frozen 7
                          simp at ck
                          rw [if_pos (by rfl)]
                          go_simp
                          refine hK.out _ _ (hHeld.setIn (by simp) _ _) (fun hHeld => ?_)
                          clear hK K
                          try simp only [Act.put, List.setIfInBounds_toArray, List.set_cons_zero, List.set_cons_succ]
                          replace HW1 := HW1.setCell 7 (.int .u64 (0))
                          simp only [List.setIfInBounds_toArray, List.set_cons_zero, List.set_cons_succ] at HW1
                          clear ck fk
                          generalize World.setCell u7 ⟨W, 7, none⟩ (.int .u64 (0)) = u8 at *
                          refine wpAnyH_done (by kernel_rfl) ?_ _
                          go_wp2_with fail
                          go_end0
                          refine ⟨rfl, HZ1.chg hHeld (by simpa using hne'), HW1, C1.trans hHeld (by simp)⟩
                        exact AllReadyH.nil
                      exact AllReadyH.nil
                    exact AllReadyH.nil
                  exact AllReadyH.nil
                exact AllReadyH.nil
              exact AllReadyH.nil
            exact AllReadyH.nil
          exact AllReadyH.nil
        exact AllReadyH.nil
      exact AllReadyH.nil
    exact AllReadyH.nil
  exact AllReadyH.nil
end Go.Proofs.YthpfdnkcepfbaaaDoor

/- (*wide).addProduct. -/
namespace Go.Proofs.YthpfdnkcepfbaaaDoor
open Go.RowKit N

theorem prod_exp (x0 x1 x2 x3 y0 y1 y2 y3 : Int) : (x0 + x1 * 18446744073709551616 + x2 * 340282366920938463463374607431768211456 + x3 * 6277101735386680763835789423207666416102355444464034512896) * (y0 + y1 * 18446744073709551616 + y2 * 340282366920938463463374607431768211456 + y3 * 6277101735386680763835789423207666416102355444464034512896) = x0 * y0 + x0 * y1 * 18446744073709551616 + x0 * y2 * 340282366920938463463374607431768211456 + x0 * y3 * 6277101735386680763835789423207666416102355444464034512896 + x1 * y0 * 18446744073709551616 + x1 * y1 * 340282366920938463463374607431768211456 + x1 * y2 * 6277101735386680763835789423207666416102355444464034512896 + x1 * y3 * 115792089237316195423570985008687907853269984665640564039457584007913129639936 + x2 * y0 * 340282366920938463463374607431768211456 + x2 * y1 * 6277101735386680763835789423207666416102355444464034512896 + x2 * y2 * 115792089237316195423570985008687907853269984665640564039457584007913129639936 + x2 * y3 * 2135987035920910082395021706169552114602704522356652769947041607822219725780640550022962086936576 + x3 * y0 * 6277101735386680763835789423207666416102355444464034512896 + x3 * y1 * 115792089237316195423570985008687907853269984665640564039457584007913129639936 + x3 * y2 * 2135987035920910082395021706169552114602704522356652769947041607822219725780640550022962086936576 + x3 * y3 * 39402006196394479212279040100143613805079739270465446667948293404245721771497210611414266254884915640806627990306816 := by grind
theorem prod_lin (a p00 p01 p02 p03 p10 p11 p12 p13 p20 p21 p22 p23 p30 p31 p32 p33 w0 w1 w2 w3 r0 c0 r1 c1 r2 c2 r3 r4 s1 d0 s2 d1 s3 d2 s4 s5 t2 e0 t3 e1 t4 e2 t5 t6 u3 f0 u4 f1 u5 f2 u6 u7 : Int) (ea : w0 + w1 * 18446744073709551616 + w2 * 340282366920938463463374607431768211456 + w3 * 6277101735386680763835789423207666416102355444464034512896 = a) (h0 : p00 + w0 + 0 = r0 + 18446744073709551616 * c0) (h1 : p01 + w1 + c0 = r1 + 18446744073709551616 * c1) (h2 : p02 + w2 + c1 = r2 + 18446744073709551616 * c2) (h3 : p03 + w3 + c2 = r3 + 18446744073709551616 * r4) (h4 : p10 + r1 + 0 = s1 + 18446744073709551616 * d0) (h5 : p11 + r2 + d0 = s2 + 18446744073709551616 * d1) (h6 : p12 + r3 + d1 = s3 + 18446744073709551616 * d2) (h7 : p13 + r4 + d2 = s4 + 18446744073709551616 * s5) (h8 : p20 + s2 + 0 = t2 + 18446744073709551616 * e0) (h9 : p21 + s3 + e0 = t3 + 18446744073709551616 * e1) (h10 : p22 + s4 + e1 = t4 + 18446744073709551616 * e2) (h11 : p23 + s5 + e2 = t5 + 18446744073709551616 * t6) (h12 : p30 + t3 + 0 = u3 + 18446744073709551616 * f0) (h13 : p31 + t4 + f0 = u4 + 18446744073709551616 * f1) (h14 : p32 + t5 + f1 = u5 + 18446744073709551616 * f2) (h15 : p33 + t6 + f2 = u6 + 18446744073709551616 * u7) : r0 + s1 * 18446744073709551616 + t2 * 340282366920938463463374607431768211456 + u3 * 6277101735386680763835789423207666416102355444464034512896 + u4 * 115792089237316195423570985008687907853269984665640564039457584007913129639936 + u5 * 2135987035920910082395021706169552114602704522356652769947041607822219725780640550022962086936576 + u6 * 39402006196394479212279040100143613805079739270465446667948293404245721771497210611414266254884915640806627990306816 + u7 * 726838724295606890549323807888004534353641360687318060281490199180639288113397923326191050713763565560762521606266177933534601628614656 = a + (p00 + p01 * 18446744073709551616 + p02 * 340282366920938463463374607431768211456 + p03 * 6277101735386680763835789423207666416102355444464034512896 + p10 * 18446744073709551616 + p11 * 340282366920938463463374607431768211456 + p12 * 6277101735386680763835789423207666416102355444464034512896 + p13 * 115792089237316195423570985008687907853269984665640564039457584007913129639936 + p20 * 340282366920938463463374607431768211456 + p21 * 6277101735386680763835789423207666416102355444464034512896 + p22 * 115792089237316195423570985008687907853269984665640564039457584007913129639936 + p23 * 2135987035920910082395021706169552114602704522356652769947041607822219725780640550022962086936576 + p30 * 6277101735386680763835789423207666416102355444464034512896 + p31 * 115792089237316195423570985008687907853269984665640564039457584007913129639936 + p32 * 2135987035920910082395021706169552114602704522356652769947041607822219725780640550022962086936576 + p33 * 39402006196394479212279040100143613805079739270465446667948293404245721771497210611414266254884915640806627990306816) := by
  omega
set_option maxHeartbeats 4000000 in
set_option maxRecDepth 100000 in
theorem addProduct_any (W x y : Nat) (a n m : Int) (ha0 : 0 ≤ a) (ha1 : a < 115792089237316195423570985008687907853269984665640564039457584007913129639936) (rn : RL n) (rm : RL m) (w : World) (hW : WideAt w W a) (hx : NumAt w x n) (hy : NumAt w y m) :
    Calls Tryd.prog 152 #[.pointer (some ⟨W, 0, none⟩), .pointer (some ⟨x, 0, none⟩), .pointer (some ⟨y, 0, none⟩)] w fun e w' => e = .returned (.tuple #[]) ∧ WideAt w' W (a + n * m) ∧ Chg w w' [W] := by
  have kx0 := hx.c0; have kx1 := hx.c1; have kx2 := hx.c2; have kx3 := hx.c3
  have ky0 := hy.c0; have ky1 := hy.c1; have ky2 := hy.c2; have ky3 := hy.c3
  have kw0 := hW.c0; have kw1 := hW.c1; have kw2 := hW.c2; have kw3 := hW.c3
  have ex := wrd_sum n rn.1 (by unfold RL at rn; omega)
  have ey := wrd_sum m rm.1 (by unfold RL at rm; omega)
  have ea := wrd_sum a ha0 ha1
  have HW : Blk w W #[.int .u64 (wrd a 0), .int .u64 (wrd a 1), .int .u64 (wrd a 2), .int .u64 (wrd a 3), .int .u64 (wrd a 4), .int .u64 (wrd a 5), .int .u64 (wrd a 6), .int .u64 (wrd a 7)] 262 := hW
  have HX0 : Blk w x #[.int .u64 (wrd n 0), .int .u64 (wrd n 1), .int .u64 (wrd n 2), .int .u64 (wrd n 3)] 248 := hx
  clear hx hy hW
  have qx0 := wrd_wo n 0
  have qx1 := wrd_wo n 1
  have qx2 := wrd_wo n 2
  have qx3 := wrd_wo n 3
  have qy0 := wrd_wo m 0
  have qy1 := wrd_wo m 1
  have qy2 := wrd_wo m 2
  have qy3 := wrd_wo m 3
  have qw0 := wrd_wo a 0
  have qw1 := wrd_wo a 1
  have qw2 := wrd_wo a 2
  have qw3 := wrd_wo a 3
  generalize wrd n 0 = x0 at *
  generalize wrd n 1 = x1 at *
  generalize wrd n 2 = x2 at *
  generalize wrd n 3 = x3 at *
  generalize wrd m 0 = y0 at *
  generalize wrd m 1 = y1 at *
  generalize wrd m 2 = y2 at *
  generalize wrd m 3 = y3 at *
  generalize wrd a 0 = w0 at *
  generalize wrd a 1 = w1 at *
  generalize wrd a 2 = w2 at *
  generalize wrd a 3 = w3 at *
  obtain ⟨r0, c0, h0, Wr0, Wc0⟩ := stepx x0 y0 w0 0 qx0 qy0 qw0 wo0
  have S0 := step_any x0 y0 w0 0 r0 c0 qx0 qy0 qw0 wo0 h0 Wr0 Wc0
  obtain ⟨r1, c1, h1, Wr1, Wc1⟩ := stepx x0 y1 w1 c0 qx0 qy1 qw1 Wc0
  have S1 := step_any x0 y1 w1 c0 r1 c1 qx0 qy1 qw1 Wc0 h1 Wr1 Wc1
  obtain ⟨r2, c2, h2, Wr2, Wc2⟩ := stepx x0 y2 w2 c1 qx0 qy2 qw2 Wc1
  have S2 := step_any x0 y2 w2 c1 r2 c2 qx0 qy2 qw2 Wc1 h2 Wr2 Wc2
  obtain ⟨r3, r4, h3, Wr3, Wr4⟩ := stepx x0 y3 w3 c2 qx0 qy3 qw3 Wc2
  have S3 := step_any x0 y3 w3 c2 r3 r4 qx0 qy3 qw3 Wc2 h3 Wr3 Wr4
  obtain ⟨s1, d0, h4, Ws1, Wd0⟩ := stepx x1 y0 r1 0 qx1 qy0 Wr1 wo0
  have S4 := step_any x1 y0 r1 0 s1 d0 qx1 qy0 Wr1 wo0 h4 Ws1 Wd0
  obtain ⟨s2, d1, h5, Ws2, Wd1⟩ := stepx x1 y1 r2 d0 qx1 qy1 Wr2 Wd0
  have S5 := step_any x1 y1 r2 d0 s2 d1 qx1 qy1 Wr2 Wd0 h5 Ws2 Wd1
  obtain ⟨s3, d2, h6, Ws3, Wd2⟩ := stepx x1 y2 r3 d1 qx1 qy2 Wr3 Wd1
  have S6 := step_any x1 y2 r3 d1 s3 d2 qx1 qy2 Wr3 Wd1 h6 Ws3 Wd2
  obtain ⟨s4, s5, h7, Ws4, Ws5⟩ := stepx x1 y3 r4 d2 qx1 qy3 Wr4 Wd2
  have S7 := step_any x1 y3 r4 d2 s4 s5 qx1 qy3 Wr4 Wd2 h7 Ws4 Ws5
  obtain ⟨t2, e0, h8, Wt2, We0⟩ := stepx x2 y0 s2 0 qx2 qy0 Ws2 wo0
  have S8 := step_any x2 y0 s2 0 t2 e0 qx2 qy0 Ws2 wo0 h8 Wt2 We0
  obtain ⟨t3, e1, h9, Wt3, We1⟩ := stepx x2 y1 s3 e0 qx2 qy1 Ws3 We0
  have S9 := step_any x2 y1 s3 e0 t3 e1 qx2 qy1 Ws3 We0 h9 Wt3 We1
  obtain ⟨t4, e2, h10, Wt4, We2⟩ := stepx x2 y2 s4 e1 qx2 qy2 Ws4 We1
  have S10 := step_any x2 y2 s4 e1 t4 e2 qx2 qy2 Ws4 We1 h10 Wt4 We2
  obtain ⟨t5, t6, h11, Wt5, Wt6⟩ := stepx x2 y3 s5 e2 qx2 qy3 Ws5 We2
  have S11 := step_any x2 y3 s5 e2 t5 t6 qx2 qy3 Ws5 We2 h11 Wt5 Wt6
  obtain ⟨u3, f0, h12, Wu3, Wf0⟩ := stepx x3 y0 t3 0 qx3 qy0 Wt3 wo0
  have S12 := step_any x3 y0 t3 0 u3 f0 qx3 qy0 Wt3 wo0 h12 Wu3 Wf0
  obtain ⟨u4, f1, h13, Wu4, Wf1⟩ := stepx x3 y1 t4 f0 qx3 qy1 Wt4 Wf0
  have S13 := step_any x3 y1 t4 f0 u4 f1 qx3 qy1 Wt4 Wf0 h13 Wu4 Wf1
  obtain ⟨u5, f2, h14, Wu5, Wf2⟩ := stepx x3 y2 t5 f1 qx3 qy2 Wt5 Wf1
  have S14 := step_any x3 y2 t5 f1 u5 f2 qx3 qy2 Wt5 Wf1 h14 Wu5 Wf2
  obtain ⟨u6, u7, h15, Wu6, Wu7⟩ := stepx x3 y3 t6 f2 qx3 qy3 Wt6 Wf2
  have S15 := step_any x3 y3 t6 f2 u6 u7 qx3 qy3 Wt6 Wf2 h15 Wu6 Wu7
  have V := prod_lin a (x0 * y0) (x0 * y1) (x0 * y2) (x0 * y3) (x1 * y0) (x1 * y1) (x1 * y2) (x1 * y3) (x2 * y0) (x2 * y1) (x2 * y2) (x2 * y3) (x3 * y0) (x3 * y1) (x3 * y2) (x3 * y3) w0 w1 w2 w3 r0 c0 r1 c1 r2 c2 r3 r4 s1 d0 s2 d1 s3 d2 s4 s5 t2 e0 t3 e1 t4 e2 t5 t6 u3 f0 u4 f1 u5 f2 u6 u7 ea h0 h1 h2 h3 h4 h5 h6 h7 h8 h9 h10 h11 h12 h13 h14 h15
  rw [← prod_exp, ex, ey] at V
  obtain ⟨j0, j1, j2, j3, j4, j5, j6, j7⟩ := wrd_is8 _ r0 s1 t2 u3 u4 u5 u6 u7 Wr0 Ws1 Wt2 Wu3 Wu4 Wu5 Wu6 Wu7 V
  unfold WideAt wd8
  rw [← j0, ← j1, ← j2, ← j3, ← j4, ← j5, ← j6, ← j7]
  clear j0 j1 j2 j3 j4 j5 j6 j7 V ex ey ea h0 h1 h2 h3 h4 h5 h6 h7 h8 h9 h10 h11 h12 h13 h14 h15 Wc0 Wc1 Wc2 Wd0 Wd1 Wd2 We0 We1 We2 Wf0 Wf1 Wf2 Wr0 Wr1 Wr2 Wr3 Wr4 Ws1 Ws2 Ws3 Ws4 Ws5 Wt2 Wt3 Wt4 Wt5 Wt6 Wu3 Wu4 Wu5 Wu6 Wu7 qw0 qw1 qw2 qw3 qx0 qx1 qx2 qx3 qy0 qy1 qy2 qy3
  go_enter Tryd.func152, Tryd.ntmps152
  go_wp2_with fail
  go_quiet (fail)
  generalize hwq : World.drewN w _ = wq
  have CQ : Chg w wq [] := by rw [← hwq]; exact (Chg.refl w _).drewN _
  replace HW := HW.chg CQ (by simp)
  have HX : Blk wq x #[.int .u64 x0, .int .u64 x1, .int .u64 x2, .int .u64 x3] 248 := HX0.chg CQ (by simp)
  clear hwq kx0 kx1 kx2 kx3 ky0 ky1 ky2 ky3 kw0 kw1 kw2 kw3 HX0
  go_wp2_with fail
  refine wp_region_held_drew (S := fun w' => Chg wq w' []) (by kernel_rfl) ((Chg.refl wq _).drew) (fun hHeld => ?_)
  refine take_val (v := ?_) 0 (some 36) rfl (by kernel_rfl) (by kernel_rfl) (by kernel_rfl) (fun _ _ _ h => h) rfl rfl (fun w hSw => ?_) hHeld ?_
  rotate_left
  · (go_simp; try with_reducible rfl)
  try simp only [Act.put, List.setIfInBounds_toArray, List.set_cons_zero, List.set_cons_succ]
  refine take_val (v := ?_) 1 (some 37) rfl (by kernel_rfl) (by kernel_rfl) (by kernel_rfl) (fun _ _ _ h => h) rfl rfl (fun w hSw => ?_) hHeld ?_
  rotate_left
  · (go_simp; try with_reducible rfl)
  try simp only [Act.put, List.setIfInBounds_toArray, List.set_cons_zero, List.set_cons_succ]
  refine take_val (v := ?_) 2 (some 38) rfl (by kernel_rfl) (by kernel_rfl) (by kernel_rfl) (fun _ _ _ h => h) rfl rfl (fun w hSw => ?_) hHeld ?_
  rotate_left
  · (go_simp; try with_reducible rfl)
  try simp only [Act.put, List.setIfInBounds_toArray, List.set_cons_zero, List.set_cons_succ]
  refine take_val (v := ?_) 3 (some 39) rfl (by kernel_rfl) (by kernel_rfl) (by kernel_rfl) (fun _ _ _ h => h) rfl rfl (fun w hSw => ?_) hHeld ?_
  rotate_left
  · have cx := (HX.chg hSw (by simp)).cell 0
    (go_simp; try with_reducible rfl)
  try simp only [Act.put, List.setIfInBounds_toArray, List.set_cons_zero, List.set_cons_succ]
  refine take_val (v := ?_) 4 (some 40) rfl (by kernel_rfl) (by kernel_rfl) (by kernel_rfl) (fun _ _ _ h => h) rfl rfl (fun w hSw => ?_) hHeld ?_
  rotate_left
  · (go_simp; try with_reducible rfl)
  try simp only [Act.put, List.setIfInBounds_toArray, List.set_cons_zero, List.set_cons_succ]
  refine take_val (v := ?_) 5 (some 41) rfl (by kernel_rfl) (by kernel_rfl) (by kernel_rfl) (fun _ _ _ h => h) rfl rfl (fun w hSw => ?_) hHeld ?_
  rotate_left
  · (go_simp; try with_reducible rfl)
  try simp only [Act.put, List.setIfInBounds_toArray, List.set_cons_zero, List.set_cons_succ]
  refine take_val (v := ?_) 6 (some 42) rfl (by kernel_rfl) (by kernel_rfl) (by kernel_rfl) (fun _ _ _ h => h) rfl rfl (fun w hSw => ?_) hHeld ?_
  rotate_left
  · (go_simp; try with_reducible rfl)
  try simp only [Act.put, List.setIfInBounds_toArray, List.set_cons_zero, List.set_cons_succ]
  refine take_val (v := ?_) 7 (some 43) rfl (by kernel_rfl) (by kernel_rfl) (by kernel_rfl) (fun _ _ _ h => h) rfl rfl (fun w hSw => ?_) hHeld ?_
  rotate_left
  · (go_simp; try with_reducible rfl)
  try simp only [Act.put, List.setIfInBounds_toArray, List.set_cons_zero, List.set_cons_succ]
  refine take_val (v := ?_) 8 (some 44) rfl (by kernel_rfl) (by kernel_rfl) (by kernel_rfl) (fun _ _ _ h => h) rfl rfl (fun w hSw => ?_) hHeld ?_
  rotate_left
  · have cx := (HW.chg hSw (by simp)).cell 0
    (go_simp; try with_reducible rfl)
  try simp only [Act.put, List.setIfInBounds_toArray, List.set_cons_zero, List.set_cons_succ]
  refine wpAnyH_ready (rs := [9]) (by kernel_rfl) (by simp) ?_
  refine AllReadyH.cons (o := _) rfl (fun K hK => ?_) ?_
  ·
    go_simp
    refine (S0 _).mono ?_
    rintro e wz ⟨rfl, rfl⟩
    go_wp2_with fail
    refine hK.out _ _ (hHeld) (fun hHeld => ?_)
    clear hK K
    try simp only [Act.put, List.setIfInBounds_toArray, List.set_cons_zero, List.set_cons_succ]
    refine take_val (v := ?_) 10 (some 35) rfl (by kernel_rfl) (by kernel_rfl) (by kernel_rfl) (fun _ _ _ h => h) rfl rfl (fun w hSw => ?_) hHeld ?_
    rotate_left
    · (go_simp; try with_reducible rfl)
    try simp only [Act.put, List.setIfInBounds_toArray, List.set_cons_zero, List.set_cons_succ]
    refine take_val (v := ?_) 11 (some 46) rfl (by kernel_rfl) (by kernel_rfl) (by kernel_rfl) (fun _ _ _ h => h) rfl rfl (fun w hSw => ?_) hHeld ?_
    rotate_left
    · (go_simp; try with_reducible rfl)
    try simp only [Act.put, List.setIfInBounds_toArray, List.set_cons_zero, List.set_cons_succ]
    refine take_val (v := ?_) 12 (some 47) rfl (by kernel_rfl) (by kernel_rfl) (by kernel_rfl) (fun _ _ _ h => h) rfl rfl (fun w hSw => ?_) hHeld ?_
    rotate_left
    · (go_simp; try with_reducible rfl)
    try simp only [Act.put, List.setIfInBounds_toArray, List.set_cons_zero, List.set_cons_succ]
    refine take_val (v := ?_) 13 (some 10) rfl (by kernel_rfl) (by kernel_rfl) (by kernel_rfl) (fun _ _ _ h => h) rfl rfl (fun w hSw => ?_) hHeld ?_
    rotate_left
    · (go_simp; try with_reducible rfl)
    try simp only [Act.put, List.setIfInBounds_toArray, List.set_cons_zero, List.set_cons_succ]
    refine take_val (v := ?_) 14 (some 11) rfl (by kernel_rfl) (by kernel_rfl) (by kernel_rfl) (fun _ _ _ h => h) rfl rfl (fun w hSw => ?_) hHeld ?_
    rotate_left
    · (go_simp; try with_reducible rfl)
    try simp only [Act.put, List.setIfInBounds_toArray, List.set_cons_zero, List.set_cons_succ]
    refine wpAnyH_done (by kernel_rfl) ?_ _
    replace HW := HW.drew
    replace HX := HX.drew
    replace CQ := CQ.drew
    clear hHeld
    generalize World.drew wq = wq at *
    clear S0
    go_wp2_with fail
    refine wp_region_held_drew (S := fun w' => Chg wq w' []) (by kernel_rfl) ((Chg.refl wq _).drew) (fun hHeld => ?_)
    refine take_val (v := ?_) 0 (some 49) rfl (by kernel_rfl) (by kernel_rfl) (by kernel_rfl) (fun _ _ _ h => h) rfl rfl (fun w hSw => ?_) hHeld ?_
    rotate_left
    · (go_simp; try with_reducible rfl)
    try simp only [Act.put, List.setIfInBounds_toArray, List.set_cons_zero, List.set_cons_succ]
    refine take_val (v := ?_) 1 (some 50) rfl (by kernel_rfl) (by kernel_rfl) (by kernel_rfl) (fun _ _ _ h => h) rfl rfl (fun w hSw => ?_) hHeld ?_
    rotate_left
    · (go_simp; try with_reducible rfl)
    try simp only [Act.put, List.setIfInBounds_toArray, List.set_cons_zero, List.set_cons_succ]
    refine take_val (v := ?_) 2 (some 51) rfl (by kernel_rfl) (by kernel_rfl) (by kernel_rfl) (fun _ _ _ h => h) rfl rfl (fun w hSw => ?_) hHeld ?_
    rotate_left
    · (go_simp; try with_reducible rfl)
    try simp only [Act.put, List.setIfInBounds_toArray, List.set_cons_zero, List.set_cons_succ]
    refine take_val (v := ?_) 3 (some 52) rfl (by kernel_rfl) (by kernel_rfl) (by kernel_rfl) (fun _ _ _ h => h) rfl rfl (fun w hSw => ?_) hHeld ?_
    rotate_left
    · have cx := (HX.chg hSw (by simp)).cell 0
      (go_simp; try with_reducible rfl)
    try simp only [Act.put, List.setIfInBounds_toArray, List.set_cons_zero, List.set_cons_succ]
    refine take_val (v := ?_) 4 (some 53) rfl (by kernel_rfl) (by kernel_rfl) (by kernel_rfl) (fun _ _ _ h => h) rfl rfl (fun w hSw => ?_) hHeld ?_
    rotate_left
    · (go_simp; try with_reducible rfl)
    try simp only [Act.put, List.setIfInBounds_toArray, List.set_cons_zero, List.set_cons_succ]
    refine take_val (v := ?_) 5 (some 54) rfl (by kernel_rfl) (by kernel_rfl) (by kernel_rfl) (fun _ _ _ h => h) rfl rfl (fun w hSw => ?_) hHeld ?_
    rotate_left
    · (go_simp; try with_reducible rfl)
    try simp only [Act.put, List.setIfInBounds_toArray, List.set_cons_zero, List.set_cons_succ]
    refine take_val (v := ?_) 6 (some 55) rfl (by kernel_rfl) (by kernel_rfl) (by kernel_rfl) (fun _ _ _ h => h) rfl rfl (fun w hSw => ?_) hHeld ?_
    rotate_left
    · (go_simp; try with_reducible rfl)
    try simp only [Act.put, List.setIfInBounds_toArray, List.set_cons_zero, List.set_cons_succ]
    refine take_val (v := ?_) 7 (some 56) rfl (by kernel_rfl) (by kernel_rfl) (by kernel_rfl) (fun _ _ _ h => h) rfl rfl (fun w hSw => ?_) hHeld ?_
    rotate_left
    · (go_simp; try with_reducible rfl)
    try simp only [Act.put, List.setIfInBounds_toArray, List.set_cons_zero, List.set_cons_succ]
    refine take_val (v := ?_) 8 (some 57) rfl (by kernel_rfl) (by kernel_rfl) (by kernel_rfl) (fun _ _ _ h => h) rfl rfl (fun w hSw => ?_) hHeld ?_
    rotate_left
    · have cx := (HW.chg hSw (by simp)).cell 1
      (go_simp; try with_reducible rfl)
    try simp only [Act.put, List.setIfInBounds_toArray, List.set_cons_zero, List.set_cons_succ]
    refine take_val (v := ?_) 9 (some 58) rfl (by kernel_rfl) (by kernel_rfl) (by kernel_rfl) (fun _ _ _ h => h) rfl rfl (fun w hSw => ?_) hHeld ?_
    rotate_left
    · (go_simp; try with_reducible rfl)
    try simp only [Act.put, List.setIfInBounds_toArray, List.set_cons_zero, List.set_cons_succ]
    refine wpAnyH_ready (rs := [10]) (by kernel_rfl) (by simp) ?_
    refine AllReadyH.cons (o := _) rfl (fun K hK => ?_) ?_
    ·
      go_simp
      refine (S1 _).mono ?_
      rintro e wz ⟨rfl, rfl⟩
      go_wp2_with fail
      refine hK.out _ _ (hHeld) (fun hHeld => ?_)
      clear hK K
      try simp only [Act.put, List.setIfInBounds_toArray, List.set_cons_zero, List.set_cons_succ]
      refine take_val (v := ?_) 11 (some 48) rfl (by kernel_rfl) (by kernel_rfl) (by kernel_rfl) (fun _ _ _ h => h) rfl rfl (fun w hSw => ?_) hHeld ?_
      rotate_left
      · (go_simp; try with_reducible rfl)
      try simp only [Act.put, List.setIfInBounds_toArray, List.set_cons_zero, List.set_cons_succ]
      refine take_val (v := ?_) 12 (some 60) rfl (by kernel_rfl) (by kernel_rfl) (by kernel_rfl) (fun _ _ _ h => h) rfl rfl (fun w hSw => ?_) hHeld ?_
      rotate_left
      · (go_simp; try with_reducible rfl)
      try simp only [Act.put, List.setIfInBounds_toArray, List.set_cons_zero, List.set_cons_succ]
      refine take_val (v := ?_) 13 (some 61) rfl (by kernel_rfl) (by kernel_rfl) (by kernel_rfl) (fun _ _ _ h => h) rfl rfl (fun w hSw => ?_) hHeld ?_
      rotate_left
      · (go_simp; try with_reducible rfl)
      try simp only [Act.put, List.setIfInBounds_toArray, List.set_cons_zero, List.set_cons_succ]
      refine take_val (v := ?_) 14 (some 10) rfl (by kernel_rfl) (by kernel_rfl) (by kernel_rfl) (fun _ _ _ h => h) rfl rfl (fun w hSw => ?_) hHeld ?_
      rotate_left
      · (go_simp; try with_reducible rfl)
      try simp only [Act.put, List.setIfInBounds_toArray, List.set_cons_zero, List.set_cons_succ]
      refine take_val (v := ?_) 15 (some 12) rfl (by kernel_rfl) (by kernel_rfl) (by kernel_rfl) (fun _ _ _ h => h) rfl rfl (fun w hSw => ?_) hHeld ?_
      rotate_left
      · (go_simp; try with_reducible rfl)
      try simp only [Act.put, List.setIfInBounds_toArray, List.set_cons_zero, List.set_cons_succ]
      refine wpAnyH_done (by kernel_rfl) ?_ _
      replace HW := HW.drew
      replace HX := HX.drew
      replace CQ := CQ.drew
      clear hHeld
      generalize World.drew wq = wq at *
      clear S1
      go_wp2_with fail
      refine wp_region_held_drew (S := fun w' => Chg wq w' []) (by kernel_rfl) ((Chg.refl wq _).drew) (fun hHeld => ?_)
      refine take_val (v := ?_) 0 (some 63) rfl (by kernel_rfl) (by kernel_rfl) (by kernel_rfl) (fun _ _ _ h => h) rfl rfl (fun w hSw => ?_) hHeld ?_
      rotate_left
      · (go_simp; try with_reducible rfl)
      try simp only [Act.put, List.setIfInBounds_toArray, List.set_cons_zero, List.set_cons_succ]
      refine take_val (v := ?_) 1 (some 64) rfl (by kernel_rfl) (by kernel_rfl) (by kernel_rfl) (fun _ _ _ h => h) rfl rfl (fun w hSw => ?_) hHeld ?_
      rotate_left
      · (go_simp; try with_reducible rfl)
      try simp only [Act.put, List.setIfInBounds_toArray, List.set_cons_zero, List.set_cons_succ]
      refine take_val (v := ?_) 2 (some 65) rfl (by kernel_rfl) (by kernel_rfl) (by kernel_rfl) (fun _ _ _ h => h) rfl rfl (fun w hSw => ?_) hHeld ?_
      rotate_left
      · (go_simp; try with_reducible rfl)
      try simp only [Act.put, List.setIfInBounds_toArray, List.set_cons_zero, List.set_cons_succ]
      refine take_val (v := ?_) 3 (some 66) rfl (by kernel_rfl) (by kernel_rfl) (by kernel_rfl) (fun _ _ _ h => h) rfl rfl (fun w hSw => ?_) hHeld ?_
      rotate_left
      · have cx := (HX.chg hSw (by simp)).cell 0
        (go_simp; try with_reducible rfl)
      try simp only [Act.put, List.setIfInBounds_toArray, List.set_cons_zero, List.set_cons_succ]
      refine take_val (v := ?_) 4 (some 67) rfl (by kernel_rfl) (by kernel_rfl) (by kernel_rfl) (fun _ _ _ h => h) rfl rfl (fun w hSw => ?_) hHeld ?_
      rotate_left
      · (go_simp; try with_reducible rfl)
      try simp only [Act.put, List.setIfInBounds_toArray, List.set_cons_zero, List.set_cons_succ]
      refine take_val (v := ?_) 5 (some 68) rfl (by kernel_rfl) (by kernel_rfl) (by kernel_rfl) (fun _ _ _ h => h) rfl rfl (fun w hSw => ?_) hHeld ?_
      rotate_left
      · (go_simp; try with_reducible rfl)
      try simp only [Act.put, List.setIfInBounds_toArray, List.set_cons_zero, List.set_cons_succ]
      refine take_val (v := ?_) 6 (some 69) rfl (by kernel_rfl) (by kernel_rfl) (by kernel_rfl) (fun _ _ _ h => h) rfl rfl (fun w hSw => ?_) hHeld ?_
      rotate_left
      · (go_simp; try with_reducible rfl)
      try simp only [Act.put, List.setIfInBounds_toArray, List.set_cons_zero, List.set_cons_succ]
      refine take_val (v := ?_) 7 (some 70) rfl (by kernel_rfl) (by kernel_rfl) (by kernel_rfl) (fun _ _ _ h => h) rfl rfl (fun w hSw => ?_) hHeld ?_
      rotate_left
      · (go_simp; try with_reducible rfl)
      try simp only [Act.put, List.setIfInBounds_toArray, List.set_cons_zero, List.set_cons_succ]
      refine take_val (v := ?_) 8 (some 71) rfl (by kernel_rfl) (by kernel_rfl) (by kernel_rfl) (fun _ _ _ h => h) rfl rfl (fun w hSw => ?_) hHeld ?_
      rotate_left
      · have cx := (HW.chg hSw (by simp)).cell 2
        (go_simp; try with_reducible rfl)
      try simp only [Act.put, List.setIfInBounds_toArray, List.set_cons_zero, List.set_cons_succ]
      refine take_val (v := ?_) 9 (some 72) rfl (by kernel_rfl) (by kernel_rfl) (by kernel_rfl) (fun _ _ _ h => h) rfl rfl (fun w hSw => ?_) hHeld ?_
      rotate_left
      · (go_simp; try with_reducible rfl)
      try simp only [Act.put, List.setIfInBounds_toArray, List.set_cons_zero, List.set_cons_succ]
      refine wpAnyH_ready (rs := [10]) (by kernel_rfl) (by simp) ?_
      refine AllReadyH.cons (o := _) rfl (fun K hK => ?_) ?_
      ·
        go_simp
        refine (S2 _).mono ?_
        rintro e wz ⟨rfl, rfl⟩
        go_wp2_with fail
        refine hK.out _ _ (hHeld) (fun hHeld => ?_)
        clear hK K
        try simp only [Act.put, List.setIfInBounds_toArray, List.set_cons_zero, List.set_cons_succ]
        refine take_val (v := ?_) 11 (some 62) rfl (by kernel_rfl) (by kernel_rfl) (by kernel_rfl) (fun _ _ _ h => h) rfl rfl (fun w hSw => ?_) hHeld ?_
        rotate_left
        · (go_simp; try with_reducible rfl)
        try simp only [Act.put, List.setIfInBounds_toArray, List.set_cons_zero, List.set_cons_succ]
        refine take_val (v := ?_) 12 (some 74) rfl (by kernel_rfl) (by kernel_rfl) (by kernel_rfl) (fun _ _ _ h => h) rfl rfl (fun w hSw => ?_) hHeld ?_
        rotate_left
        · (go_simp; try with_reducible rfl)
        try simp only [Act.put, List.setIfInBounds_toArray, List.set_cons_zero, List.set_cons_succ]
        refine take_val (v := ?_) 13 (some 75) rfl (by kernel_rfl) (by kernel_rfl) (by kernel_rfl) (fun _ _ _ h => h) rfl rfl (fun w hSw => ?_) hHeld ?_
        rotate_left
        · (go_simp; try with_reducible rfl)
        try simp only [Act.put, List.setIfInBounds_toArray, List.set_cons_zero, List.set_cons_succ]
        refine take_val (v := ?_) 14 (some 10) rfl (by kernel_rfl) (by kernel_rfl) (by kernel_rfl) (fun _ _ _ h => h) rfl rfl (fun w hSw => ?_) hHeld ?_
        rotate_left
        · (go_simp; try with_reducible rfl)
        try simp only [Act.put, List.setIfInBounds_toArray, List.set_cons_zero, List.set_cons_succ]
        refine take_val (v := ?_) 15 (some 13) rfl (by kernel_rfl) (by kernel_rfl) (by kernel_rfl) (fun _ _ _ h => h) rfl rfl (fun w hSw => ?_) hHeld ?_
        rotate_left
        · (go_simp; try with_reducible rfl)
        try simp only [Act.put, List.setIfInBounds_toArray, List.set_cons_zero, List.set_cons_succ]
        refine wpAnyH_done (by kernel_rfl) ?_ _
        replace HW := HW.drew
        replace HX := HX.drew
        replace CQ := CQ.drew
        clear hHeld
        generalize World.drew wq = wq at *
        clear S2
        go_wp2_with fail
        refine wp_region_held_drew (S := fun w' => Chg wq w' []) (by kernel_rfl) ((Chg.refl wq _).drew) (fun hHeld => ?_)
        refine take_val (v := ?_) 0 (some 77) rfl (by kernel_rfl) (by kernel_rfl) (by kernel_rfl) (fun _ _ _ h => h) rfl rfl (fun w hSw => ?_) hHeld ?_
        rotate_left
        · (go_simp; try with_reducible rfl)
        try simp only [Act.put, List.setIfInBounds_toArray, List.set_cons_zero, List.set_cons_succ]
        refine take_val (v := ?_) 1 (some 78) rfl (by kernel_rfl) (by kernel_rfl) (by kernel_rfl) (fun _ _ _ h => h) rfl rfl (fun w hSw => ?_) hHeld ?_
        rotate_left
        · (go_simp; try with_reducible rfl)
        try simp only [Act.put, List.setIfInBounds_toArray, List.set_cons_zero, List.set_cons_succ]
        refine take_val (v := ?_) 2 (some 79) rfl (by kernel_rfl) (by kernel_rfl) (by kernel_rfl) (fun _ _ _ h => h) rfl rfl (fun w hSw => ?_) hHeld ?_
        rotate_left
        · (go_simp; try with_reducible rfl)
        try simp only [Act.put, List.setIfInBounds_toArray, List.set_cons_zero, List.set_cons_succ]
        refine take_val (v := ?_) 3 (some 80) rfl (by kernel_rfl) (by kernel_rfl) (by kernel_rfl) (fun _ _ _ h => h) rfl rfl (fun w hSw => ?_) hHeld ?_
        rotate_left
        · have cx := (HX.chg hSw (by simp)).cell 0
          (go_simp; try with_reducible rfl)
        try simp only [Act.put, List.setIfInBounds_toArray, List.set_cons_zero, List.set_cons_succ]
        refine take_val (v := ?_) 4 (some 81) rfl (by kernel_rfl) (by kernel_rfl) (by kernel_rfl) (fun _ _ _ h => h) rfl rfl (fun w hSw => ?_) hHeld ?_
        rotate_left
        · (go_simp; try with_reducible rfl)
        try simp only [Act.put, List.setIfInBounds_toArray, List.set_cons_zero, List.set_cons_succ]
        refine take_val (v := ?_) 5 (some 82) rfl (by kernel_rfl) (by kernel_rfl) (by kernel_rfl) (fun _ _ _ h => h) rfl rfl (fun w hSw => ?_) hHeld ?_
        rotate_left
        · (go_simp; try with_reducible rfl)
        try simp only [Act.put, List.setIfInBounds_toArray, List.set_cons_zero, List.set_cons_succ]
        refine take_val (v := ?_) 6 (some 83) rfl (by kernel_rfl) (by kernel_rfl) (by kernel_rfl) (fun _ _ _ h => h) rfl rfl (fun w hSw => ?_) hHeld ?_
        rotate_left
        · (go_simp; try with_reducible rfl)
        try simp only [Act.put, List.setIfInBounds_toArray, List.set_cons_zero, List.set_cons_succ]
        refine take_val (v := ?_) 7 (some 84) rfl (by kernel_rfl) (by kernel_rfl) (by kernel_rfl) (fun _ _ _ h => h) rfl rfl (fun w hSw => ?_) hHeld ?_
        rotate_left
        · (go_simp; try with_reducible rfl)
        try simp only [Act.put, List.setIfInBounds_toArray, List.set_cons_zero, List.set_cons_succ]
        refine take_val (v := ?_) 8 (some 85) rfl (by kernel_rfl) (by kernel_rfl) (by kernel_rfl) (fun _ _ _ h => h) rfl rfl (fun w hSw => ?_) hHeld ?_
        rotate_left
        · have cx := (HW.chg hSw (by simp)).cell 3
          (go_simp; try with_reducible rfl)
        try simp only [Act.put, List.setIfInBounds_toArray, List.set_cons_zero, List.set_cons_succ]
        refine take_val (v := ?_) 9 (some 86) rfl (by kernel_rfl) (by kernel_rfl) (by kernel_rfl) (fun _ _ _ h => h) rfl rfl (fun w hSw => ?_) hHeld ?_
        rotate_left
        · (go_simp; try with_reducible rfl)
        try simp only [Act.put, List.setIfInBounds_toArray, List.set_cons_zero, List.set_cons_succ]
        refine wpAnyH_ready (rs := [10]) (by kernel_rfl) (by simp) ?_
        refine AllReadyH.cons (o := _) rfl (fun K hK => ?_) ?_
        ·
          go_simp
          refine (S3 _).mono ?_
          rintro e wz ⟨rfl, rfl⟩
          go_wp2_with fail
          refine hK.out _ _ (hHeld) (fun hHeld => ?_)
          clear hK K
          try simp only [Act.put, List.setIfInBounds_toArray, List.set_cons_zero, List.set_cons_succ]
          refine take_val (v := ?_) 11 (some 76) rfl (by kernel_rfl) (by kernel_rfl) (by kernel_rfl) (fun _ _ _ h => h) rfl rfl (fun w hSw => ?_) hHeld ?_
          rotate_left
          · (go_simp; try with_reducible rfl)
          try simp only [Act.put, List.setIfInBounds_toArray, List.set_cons_zero, List.set_cons_succ]
          refine take_val (v := ?_) 12 (some 88) rfl (by kernel_rfl) (by kernel_rfl) (by kernel_rfl) (fun _ _ _ h => h) rfl rfl (fun w hSw => ?_) hHeld ?_
          rotate_left
          · (go_simp; try with_reducible rfl)
          try simp only [Act.put, List.setIfInBounds_toArray, List.set_cons_zero, List.set_cons_succ]
          refine take_val (v := ?_) 13 (some 89) rfl (by kernel_rfl) (by kernel_rfl) (by kernel_rfl) (fun _ _ _ h => h) rfl rfl (fun w hSw => ?_) hHeld ?_
          rotate_left
          · (go_simp; try with_reducible rfl)
          try simp only [Act.put, List.setIfInBounds_toArray, List.set_cons_zero, List.set_cons_succ]
          refine take_val (v := ?_) 14 (some 14) rfl (by kernel_rfl) (by kernel_rfl) (by kernel_rfl) (fun _ _ _ h => h) rfl rfl (fun w hSw => ?_) hHeld ?_
          rotate_left
          · (go_simp; try with_reducible rfl)
          try simp only [Act.put, List.setIfInBounds_toArray, List.set_cons_zero, List.set_cons_succ]
          refine take_val (v := ?_) 15 (some 15) rfl (by kernel_rfl) (by kernel_rfl) (by kernel_rfl) (fun _ _ _ h => h) rfl rfl (fun w hSw => ?_) hHeld ?_
          rotate_left
          · (go_simp; try with_reducible rfl)
          try simp only [Act.put, List.setIfInBounds_toArray, List.set_cons_zero, List.set_cons_succ]
          refine wpAnyH_done (by kernel_rfl) ?_ _
          replace HW := HW.drew
          replace HX := HX.drew
          replace CQ := CQ.drew
          clear hHeld
          generalize World.drew wq = wq at *
          clear S3
          have cx1 := HX.cell 1; have cx2 := HX.cell 2; have cx3 := HX.cell 3
          simp at cx1 cx2 cx3
          go_wp2_with fail
          refine (S4 _).mono ?_
          rintro e wq ⟨rfl, rfl⟩
          clear S4
          go_wp2_with fail
          refine (S5 _).mono ?_
          rintro e wq ⟨rfl, rfl⟩
          clear S5
          go_wp2_with fail
          refine (S6 _).mono ?_
          rintro e wq ⟨rfl, rfl⟩
          clear S6
          go_wp2_with fail
          refine (S7 _).mono ?_
          rintro e wq ⟨rfl, rfl⟩
          clear S7
          go_wp2_with fail
          refine (S8 _).mono ?_
          rintro e wq ⟨rfl, rfl⟩
          clear S8
          go_wp2_with fail
          refine (S9 _).mono ?_
          rintro e wq ⟨rfl, rfl⟩
          clear S9
          go_wp2_with fail
          refine (S10 _).mono ?_
          rintro e wq ⟨rfl, rfl⟩
          clear S10
          go_wp2_with fail
          refine (S11 _).mono ?_
          rintro e wq ⟨rfl, rfl⟩
          clear S11
          go_wp2_with fail
          refine (S12 _).mono ?_
          rintro e wq ⟨rfl, rfl⟩
          clear S12
          go_wp2_with fail
          refine (S13 _).mono ?_
          rintro e wq ⟨rfl, rfl⟩
          clear S13
          go_wp2_with fail
          refine (S14 _).mono ?_
          rintro e wq ⟨rfl, rfl⟩
          clear S14
          go_wp2_with fail
          refine (S15 _).mono ?_
          rintro e wq ⟨rfl, rfl⟩
          clear S15
          go_wp2_with fail
          refine wp_region_held_drew (S := fun w' => Chg wq w' [W]) (by kernel_rfl) ((Chg.refl wq _).drew) (fun hHeld => ?_)
          replace HW := HW.drew
          generalize World.drew wq = ω0 at *
          refine take_val (v := ?_) 0 (some 219) rfl (by kernel_rfl) (by kernel_rfl) (by kernel_rfl) (fun _ _ _ h => h) rfl rfl (fun w hSw => ?_) hHeld ?_
          rotate_left
          · (go_simp; try with_reducible rfl)
          try simp only [Act.put, List.setIfInBounds_toArray, List.set_cons_zero, List.set_cons_succ]
          refine take_val (v := ?_) 1 (some 220) rfl (by kernel_rfl) (by kernel_rfl) (by kernel_rfl) (fun _ _ _ h => h) rfl rfl (fun w hSw => ?_) hHeld ?_
          rotate_left
          · (go_simp; try with_reducible rfl)
          try simp only [Act.put, List.setIfInBounds_toArray, List.set_cons_zero, List.set_cons_succ]
          refine take_val (v := ?_) 2 (some 221) rfl (by kernel_rfl) (by kernel_rfl) (by kernel_rfl) (fun _ _ _ h => h) rfl rfl (fun w hSw => ?_) hHeld ?_
          rotate_left
          · (go_simp; try with_reducible rfl)
          try simp only [Act.put, List.setIfInBounds_toArray, List.set_cons_zero, List.set_cons_succ]
          refine take_val (v := ?_) 3 (some 222) rfl (by kernel_rfl) (by kernel_rfl) (by kernel_rfl) (fun _ _ _ h => h) rfl rfl (fun w hSw => ?_) hHeld ?_
          rotate_left
          · (go_simp; try with_reducible rfl)
          try simp only [Act.put, List.setIfInBounds_toArray, List.set_cons_zero, List.set_cons_succ]
          refine take_val (v := ?_) 4 (some 223) rfl (by kernel_rfl) (by kernel_rfl) (by kernel_rfl) (fun _ _ _ h => h) rfl rfl (fun w hSw => ?_) hHeld ?_
          rotate_left
          · (go_simp; try with_reducible rfl)
          try simp only [Act.put, List.setIfInBounds_toArray, List.set_cons_zero, List.set_cons_succ]
          refine take_val (v := ?_) 5 (some 224) rfl (by kernel_rfl) (by kernel_rfl) (by kernel_rfl) (fun _ _ _ h => h) rfl rfl (fun w hSw => ?_) hHeld ?_
          rotate_left
          · (go_simp; try with_reducible rfl)
          try simp only [Act.put, List.setIfInBounds_toArray, List.set_cons_zero, List.set_cons_succ]
          refine take_val (v := ?_) 6 (some 225) rfl (by kernel_rfl) (by kernel_rfl) (by kernel_rfl) (fun _ _ _ h => h) rfl rfl (fun w hSw => ?_) hHeld ?_
          rotate_left
          · (go_simp; try with_reducible rfl)
          try simp only [Act.put, List.setIfInBounds_toArray, List.set_cons_zero, List.set_cons_succ]
          refine take_val (v := ?_) 7 (some 226) rfl (by kernel_rfl) (by kernel_rfl) (by kernel_rfl) (fun _ _ _ h => h) rfl rfl (fun w hSw => ?_) hHeld ?_
          rotate_left
          · (go_simp; try with_reducible rfl)
          try simp only [Act.put, List.setIfInBounds_toArray, List.set_cons_zero, List.set_cons_succ]
          refine take_val (v := ?_) 8 (some 227) rfl (by kernel_rfl) (by kernel_rfl) (by kernel_rfl) (fun _ _ _ h => h) rfl rfl (fun w hSw => ?_) hHeld ?_
          rotate_left
          · (go_simp; try with_reducible rfl)
          try simp only [Act.put, List.setIfInBounds_toArray, List.set_cons_zero, List.set_cons_succ]
          refine take_val (v := ?_) 9 (some 228) rfl (by kernel_rfl) (by kernel_rfl) (by kernel_rfl) (fun _ _ _ h => h) rfl rfl (fun w hSw => ?_) hHeld ?_
          rotate_left
          · (go_simp; try with_reducible rfl)
          try simp only [Act.put, List.setIfInBounds_toArray, List.set_cons_zero, List.set_cons_succ]
          refine take_val (v := ?_) 10 (some 229) rfl (by kernel_rfl) (by kernel_rfl) (by kernel_rfl) (fun _ _ _ h => h) rfl rfl (fun w hSw => ?_) hHeld ?_
          rotate_left
          · (go_simp; try with_reducible rfl)
          try simp only [Act.put, List.setIfInBounds_toArray, List.set_cons_zero, List.set_cons_succ]
          refine take_val (v := ?_) 11 (some 230) rfl (by kernel_rfl) (by kernel_rfl) (by kernel_rfl) (fun _ _ _ h => h) rfl rfl (fun w hSw => ?_) hHeld ?_
          rotate_left
          · (go_simp; try with_reducible rfl)
          try simp only [Act.put, List.setIfInBounds_toArray, List.set_cons_zero, List.set_cons_succ]
          refine take_val (v := ?_) 12 (some 231) rfl (by kernel_rfl) (by kernel_rfl) (by kernel_rfl) (fun _ _ _ h => h) rfl rfl (fun w hSw => ?_) hHeld ?_
          rotate_left
          · (go_simp; try with_reducible rfl)
          try simp only [Act.put, List.setIfInBounds_toArray, List.set_cons_zero, List.set_cons_succ]
          refine take_val (v := ?_) 13 (some 232) rfl (by kernel_rfl) (by kernel_rfl) (by kernel_rfl) (fun _ _ _ h => h) rfl rfl (fun w hSw => ?_) hHeld ?_
          rotate_left
          · (go_simp; try with_reducible rfl)
          try simp only [Act.put, List.setIfInBounds_toArray, List.set_cons_zero, List.set_cons_succ]
          refine take_val (v := ?_) 14 (some 233) rfl (by kernel_rfl) (by kernel_rfl) (by kernel_rfl) (fun _ _ _ h => h) rfl rfl (fun w hSw => ?_) hHeld ?_
          rotate_left
          · (go_simp; try with_reducible rfl)
          try simp only [Act.put, List.setIfInBounds_toArray, List.set_cons_zero, List.set_cons_succ]
          refine take_val (v := ?_) 15 (some 234) rfl (by kernel_rfl) (by kernel_rfl) (by kernel_rfl) (fun _ _ _ h => h) rfl rfl (fun w hSw => ?_) hHeld ?_
          rotate_left
          · (go_simp; try with_reducible rfl)
          try simp only [Act.put, List.setIfInBounds_toArray, List.set_cons_zero, List.set_cons_succ]
          refine take_val (v := ?_) 16 (some 235) rfl (by kernel_rfl) (by kernel_rfl) (by kernel_rfl) (fun _ _ _ h => h) rfl rfl (fun w hSw => ?_) hHeld ?_
          rotate_left
          · (go_simp; try with_reducible rfl)
          try simp only [Act.put, List.setIfInBounds_toArray, List.set_cons_zero, List.set_cons_succ]
          refine take_val (v := ?_) 17 (some 236) rfl (by kernel_rfl) (by kernel_rfl) (by kernel_rfl) (fun _ _ _ h => h) rfl rfl (fun w hSw => ?_) hHeld ?_
          rotate_left
          · (go_simp; try with_reducible rfl)
          try simp only [Act.put, List.setIfInBounds_toArray, List.set_cons_zero, List.set_cons_succ]
          refine take_val (v := ?_) 19 (some 237) rfl (by kernel_rfl) (by kernel_rfl) (by kernel_rfl) (fun _ _ _ h => h) rfl rfl (fun w hSw => ?_) hHeld ?_
          rotate_left
          · (go_simp; try with_reducible rfl)
          try simp only [Act.put, List.setIfInBounds_toArray, List.set_cons_zero, List.set_cons_succ]
          refine take_val (v := ?_) 22 (some 239) rfl (by kernel_rfl) (by kernel_rfl) (by kernel_rfl) (fun _ _ _ h => h) rfl rfl (fun w hSw => ?_) hHeld ?_
          rotate_left
          · (go_simp; try with_reducible rfl)
          try simp only [Act.put, List.setIfInBounds_toArray, List.set_cons_zero, List.set_cons_succ]
          refine take_val (v := ?_) 25 (some 241) rfl (by kernel_rfl) (by kernel_rfl) (by kernel_rfl) (fun _ _ _ h => h) rfl rfl (fun w hSw => ?_) hHeld ?_
          rotate_left
          · (go_simp; try with_reducible rfl)
          try simp only [Act.put, List.setIfInBounds_toArray, List.set_cons_zero, List.set_cons_succ]
          refine take_val (v := ?_) 28 (some 243) rfl (by kernel_rfl) (by kernel_rfl) (by kernel_rfl) (fun _ _ _ h => h) rfl rfl (fun w hSw => ?_) hHeld ?_
          rotate_left
          · (go_simp; try with_reducible rfl)
          try simp only [Act.put, List.setIfInBounds_toArray, List.set_cons_zero, List.set_cons_succ]
          refine take_val (v := ?_) 31 (some 245) rfl (by kernel_rfl) (by kernel_rfl) (by kernel_rfl) (fun _ _ _ h => h) rfl rfl (fun w hSw => ?_) hHeld ?_
          rotate_left
          · (go_simp; try with_reducible rfl)
          try simp only [Act.put, List.setIfInBounds_toArray, List.set_cons_zero, List.set_cons_succ]
          refine take_val (v := ?_) 34 (some 247) rfl (by kernel_rfl) (by kernel_rfl) (by kernel_rfl) (fun _ _ _ h => h) rfl rfl (fun w hSw => ?_) hHeld ?_
          rotate_left
          · (go_simp; try with_reducible rfl)
          try simp only [Act.put, List.setIfInBounds_toArray, List.set_cons_zero, List.set_cons_succ]
          refine take_val (v := ?_) 37 (some 249) rfl (by kernel_rfl) (by kernel_rfl) (by kernel_rfl) (fun _ _ _ h => h) rfl rfl (fun w hSw => ?_) hHeld ?_
          rotate_left
          · (go_simp; try with_reducible rfl)
          try simp only [Act.put, List.setIfInBounds_toArray, List.set_cons_zero, List.set_cons_succ]
          refine wpAnyH_ready (rs := [18]) (by kernel_rfl) (by simp) ?_
          refine AllReadyH.cons (o := _) rfl (fun K hK => ?_) ?_
          ·
            have ck := HW.cell 0
            have fk := HW.frozen 0
            simp at ck
            rw [if_pos (by rfl)]
            go_simp
            refine hK.out _ _ (hHeld.setIn (by simp) _ _) (fun hHeld => ?_)
            clear hK K
            try simp only [Act.put, List.setIfInBounds_toArray, List.set_cons_zero, List.set_cons_succ]
            replace HW := HW.setCell 0 (.int .u64 (r0))
            simp only [List.setIfInBounds_toArray, List.set_cons_zero, List.set_cons_succ] at HW
            clear ck fk
            generalize World.setCell ω0 ⟨W, 0, none⟩ (.int .u64 (r0)) = ω1 at *
            refine take_val (v := ?_) 20 (some 238) rfl (by kernel_rfl) (by kernel_rfl) (by kernel_rfl) (fun _ _ _ h => h) rfl rfl (fun w hSw => ?_) hHeld ?_
            rotate_left
            · (go_simp; try with_reducible rfl)
            try simp only [Act.put, List.setIfInBounds_toArray, List.set_cons_zero, List.set_cons_succ]
            refine wpAnyH_ready (rs := [21]) (by kernel_rfl) (by simp) ?_
            refine AllReadyH.cons (o := _) rfl (fun K hK => ?_) ?_
            ·
              have ck := HW.cell 1
              have fk := HW.frozen 1
              simp at ck
              rw [if_pos (by rfl)]
              go_simp
              refine hK.out _ _ (hHeld.setIn (by simp) _ _) (fun hHeld => ?_)
              clear hK K
              try simp only [Act.put, List.setIfInBounds_toArray, List.set_cons_zero, List.set_cons_succ]
              replace HW := HW.setCell 1 (.int .u64 (s1))
              simp only [List.setIfInBounds_toArray, List.set_cons_zero, List.set_cons_succ] at HW
              clear ck fk
              generalize World.setCell ω1 ⟨W, 1, none⟩ (.int .u64 (s1)) = ω2 at *
              refine take_val (v := ?_) 23 (some 240) rfl (by kernel_rfl) (by kernel_rfl) (by kernel_rfl) (fun _ _ _ h => h) rfl rfl (fun w hSw => ?_) hHeld ?_
              rotate_left
              · (go_simp; try with_reducible rfl)
              try simp only [Act.put, List.setIfInBounds_toArray, List.set_cons_zero, List.set_cons_succ]
              refine wpAnyH_ready (rs := [24]) (by kernel_rfl) (by simp) ?_
              refine AllReadyH.cons (o := _) rfl (fun K hK => ?_) ?_
              ·
                have ck := HW.cell 2
                have fk := HW.frozen 2
                simp at ck
                rw [if_pos (by rfl)]
                go_simp
                refine hK.out _ _ (hHeld.setIn (by simp) _ _) (fun hHeld => ?_)
                clear hK K
                try simp only [Act.put, List.setIfInBounds_toArray, List.set_cons_zero, List.set_cons_succ]
                replace HW := HW.setCell 2 (.int .u64 (t2))
                simp only [List.setIfInBounds_toArray, List.set_cons_zero, List.set_cons_succ] at HW
                clear ck fk
                generalize World.setCell ω2 ⟨W, 2, none⟩ (.int .u64 (t2)) = ω3 at *
                refine take_val (v := ?_) 26 (some 242) rfl (by kernel_rfl) (by kernel_rfl) (by kernel_rfl) (fun _ _ _ h => h) rfl rfl (fun w hSw => ?_) hHeld ?_
                rotate_left
                · (go_simp; try with_reducible rfl)
                try simp only [Act.put, List.setIfInBounds_toArray, List.set_cons_zero, List.set_cons_succ]
                refine wpAnyH_ready (rs := [27]) (by kernel_rfl) (by simp) ?_
                refine AllReadyH.cons (o := _) rfl (fun K hK => ?_) ?_
                ·
                  have ck := HW.cell 3
                  have fk := HW.frozen 3
                  simp at ck
                  rw [if_pos (by rfl)]
                  go_simp
                  refine hK.out _ _ (hHeld.setIn (by simp) _ _) (fun hHeld => ?_)
                  clear hK K
                  try simp only [Act.put, List.setIfInBounds_toArray, List.set_cons_zero, List.set_cons_succ]
                  replace HW := HW.setCell 3 (.int .u64 (u3))
                  simp only [List.setIfInBounds_toArray, List.set_cons_zero, List.set_cons_succ] at HW
                  clear ck fk
                  generalize World.setCell ω3 ⟨W, 3, none⟩ (.int .u64 (u3)) = ω4 at *
                  refine take_val (v := ?_) 29 (some 244) rfl (by kernel_rfl) (by kernel_rfl) (by kernel_rfl) (fun _ _ _ h => h) rfl rfl (fun w hSw => ?_) hHeld ?_
                  rotate_left
                  · (go_simp; try with_reducible rfl)
                  try simp only [Act.put, List.setIfInBounds_toArray, List.set_cons_zero, List.set_cons_succ]
                  refine wpAnyH_ready (rs := [30]) (by kernel_rfl) (by simp) ?_
                  refine AllReadyH.cons (o := _) rfl (fun K hK => ?_) ?_
                  ·
                    have ck := HW.cell 4
                    have fk := HW.frozen 4
                    simp at ck
                    rw [if_pos (by rfl)]
                    go_simp
                    refine hK.out _ _ (hHeld.setIn (by simp) _ _) (fun hHeld => ?_)
                    clear hK K
                    try simp only [Act.put, List.setIfInBounds_toArray, List.set_cons_zero, List.set_cons_succ]
                    replace HW := HW.setCell 4 (.int .u64 (u4))
                    simp only [List.setIfInBounds_toArray, List.set_cons_zero, List.set_cons_succ] at HW
                    clear ck fk
                    generalize World.setCell ω4 ⟨W, 4, none⟩ (.int .u64 (u4)) = ω5 at *
                    refine take_val (v := ?_) 32 (some 246) rfl (by kernel_rfl) (by kernel_rfl) (by kernel_rfl) (fun _ _ _ h => h) rfl rfl (fun w hSw => ?_) hHeld ?_
                    rotate_left
                    · (go_simp; try with_reducible rfl)
                    try simp only [Act.put, List.setIfInBounds_toArray, List.set_cons_zero, List.set_cons_succ]
                    refine wpAnyH_ready (rs := [33]) (by kernel_rfl) (by simp) ?_
                    refine AllReadyH.cons (o := _) rfl (fun K hK => ?_) ?_
                    ·
                      have ck := HW.cell 5
                      have fk := HW.frozen 5
                      simp at ck
                      rw [if_pos (by rfl)]
                      go_simp
                      refine hK.out _ _ (hHeld.setIn (by simp) _ _) (fun hHeld => ?_)
                      clear hK K
                      try simp only [Act.put, List.setIfInBounds_toArray, List.set_cons_zero, List.set_cons_succ]
                      replace HW := HW.setCell 5 (.int .u64 (u5))
                      simp only [List.setIfInBounds_toArray, List.set_cons_zero, List.set_cons_succ] at HW
                      clear ck fk
                      generalize World.setCell ω5 ⟨W, 5, none⟩ (.int .u64 (u5)) = ω6 at *
                      refine take_val (v := ?_) 35 (some 248) rfl (by kernel_rfl) (by kernel_rfl) (by kernel_rfl) (fun _ _ _ h => h) rfl rfl (fun w hSw => ?_) hHeld ?_
                      rotate_left
                      · (go_simp; try with_reducible rfl)
                      try simp only [Act.put, List.setIfInBounds_toArray, List.set_cons_zero, List.set_cons_succ]
                      refine wpAnyH_ready (rs := [36]) (by kernel_rfl) (by simp) ?_
                      refine AllReadyH.cons (o := _) rfl (fun K hK => ?_) ?_
                      ·
                        have ck := HW.cell 6
                        have fk := HW.frozen 6
                        simp at ck
                        rw [if_pos (by rfl)]
                        go_simp
                        refine hK.out _ _ (hHeld.setIn (by simp) _ _) (fun hHeld => ?_)
                        clear hK K
                        try simp only [Act.put, List.setIfInBounds_toArray, List.set_cons_zero, List.set_cons_succ]
                        replace HW := HW.setCell 6 (.int .u64 (u6))
                        simp only [List.setIfInBounds_toArray, List.set_cons_zero, List.set_cons_succ] at HW
                        clear ck fk
                        generalize World.setCell ω6 ⟨W, 6, none⟩ (.int .u64 (u6)) = ω7 at *
                        refine take_val (v := ?_) 38 (some 250) rfl (by kernel_rfl) (by kernel_rfl) (by kernel_rfl) (fun _ _ _ h => h) rfl rfl (fun w hSw => ?_) hHeld ?_
                        rotate_left
                        · (go_simp; try with_reducible rfl)
                        try simp only [Act.put, List.setIfInBounds_toArray, List.set_cons_zero, List.set_cons_succ]
                        refine wpAnyH_ready (rs := [39]) (by kernel_rfl) (by simp) ?_
                        refine AllReadyH.cons (o := _) rfl (fun K hK => ?_) ?_
                        ·
                          have ck := HW.cell 7
                          have fk := HW.frozen 7
                          simp at ck
                          rw [if_pos (by rfl)]
                          go_simp
                          refine hK.out _ _ (hHeld.setIn (by simp) _ _) (fun hHeld => ?_)
                          clear hK K
                          try simp only [Act.put, List.setIfInBounds_toArray, List.set_cons_zero, List.set_cons_succ]
                          replace HW := HW.setCell 7 (.int .u64 (u7))
                          simp only [List.setIfInBounds_toArray, List.set_cons_zero, List.set_cons_succ] at HW
                          clear ck fk
                          generalize World.setCell ω7 ⟨W, 7, none⟩ (.int .u64 (u7)) = ω8 at *
                          refine wpAnyH_done (by kernel_rfl) ?_ _
                          go_wp2_with fail
                          go_end0
                          exact ⟨rfl, HW, CQ.wide.trans1 hHeld⟩
                        exact AllReadyH.nil
                      exact AllReadyH.nil
                    exact AllReadyH.nil
                  exact AllReadyH.nil
                exact AllReadyH.nil
              exact AllReadyH.nil
            exact AllReadyH.nil
          exact AllReadyH.nil
        exact AllReadyH.nil
      exact AllReadyH.nil
    exact AllReadyH.nil
  exact AllReadyH.nil
end Go.Proofs.YthpfdnkcepfbaaaDoor

/- (*number).reduce, mulAdd, mul. -/
namespace Go.Proofs.YthpfdnkcepfbaaaDoor
open Go.RowKit N

theorem red_bd (n : Int) (h0 : 0 ≤ n) (h1 : n < 104748499452676539840422070298483172870932545473378073263465323779076281484949585756264642954428933028828373892081922272294952209468332577706512882860032) : 0 ≤ n / 7237005577332262213973186563042994240829374041602535252466099000494570602496 * 27742317777372353535851937790883648493 ∧ n / 7237005577332262213973186563042994240829374041602535252466099000494570602496 * 27742317777372353535851937790883648493 < 837987995621412318723376562387865382967460363787024586107722590232610251879596686050117143635431464230626991136655378178359617675746660621652103062880256 ∧ RL (n / 7237005577332262213973186563042994240829374041602535252466099000494570602496 * 27742317777372353535851937790883648493 / 7237005577332262213973186563042994240829374041602535252466099000494570602496 * 27742317777372353535851937790883648493) ∧ RL (n % 7237005577332262213973186563042994240829374041602535252466099000494570602496) ∧ RL (n / 7237005577332262213973186563042994240829374041602535252466099000494570602496 * 27742317777372353535851937790883648493 % 7237005577332262213973186563042994240829374041602535252466099000494570602496) := by
  unfold RL; refine ⟨?_, ?_, ?_, ?_, ?_⟩ <;> omega
theorem red_val (n : Int) : ((n % 7237005577332262213973186563042994240829374041602535252466099000494570602496 - n / 7237005577332262213973186563042994240829374041602535252466099000494570602496 * 27742317777372353535851937790883648493 % 7237005577332262213973186563042994240829374041602535252466099000494570602496) % L + n / 7237005577332262213973186563042994240829374041602535252466099000494570602496 * 27742317777372353535851937790883648493 / 7237005577332262213973186563042994240829374041602535252466099000494570602496 * 27742317777372353535851937790883648493) % L = n % L := by
  unfold L; omega

set_option maxHeartbeats 4000000 in
set_option maxRecDepth 100000 in
theorem reduce_any (z W : Nat) (n : Int) (hn0 : 0 ≤ n) (hn1 : n < 104748499452676539840422070298483172870932545473378073263465323779076281484949585756264642954428933028828373892081922272294952209468332577706512882860032) (hne : ¬ z = W) (w : World) (hz : An w z) (hW : WideAt w W n) :
    Calls Tryd.prog 153 #[.pointer (some ⟨z, 0, none⟩), .pointer (some ⟨W, 0, none⟩)] w fun e w' => e = .returned (.tuple #[]) ∧ NumAt w' z (n % L) ∧ Chg w w' [z, W] := by
  obtain ⟨b0, b1, b2, b3, b4⟩ := red_bd n hn0 hn1
  have hv := red_val n
  have HV : Hid (((n % 7237005577332262213973186563042994240829374041602535252466099000494570602496 - n / 7237005577332262213973186563042994240829374041602535252466099000494570602496 * 27742317777372353535851937790883648493 % 7237005577332262213973186563042994240829374041602535252466099000494570602496) % L + n / 7237005577332262213973186563042994240829374041602535252466099000494570602496 * 27742317777372353535851937790883648493 / 7237005577332262213973186563042994240829374041602535252466099000494570602496 * 27742317777372353535851937790883648493) % L = n % L) := hv
  clear hv
  have hzl := hz.lt
  have hWl := hW.lt
  have A0 : An ((w.alloc (.cells #[.int .u64 0, .int .u64 0, .int .u64 0, .int .u64 0] 248)).alloc (.cells #[.int .u64 0, .int .u64 0, .int .u64 0, .int .u64 0] 248)) w.heap.size := (NumAt.new w).an.alloc _
  have A1 : An ((w.alloc (.cells #[.int .u64 0, .int .u64 0, .int .u64 0, .int .u64 0] 248)).alloc (.cells #[.int .u64 0, .int .u64 0, .int .u64 0, .int .u64 0] 248)) (w.heap.size + 1) := by have h := (NumAt.new (w.alloc (.cells #[.int .u64 0, .int .u64 0, .int .u64 0, .int .u64 0] 248))).an; simpa using h
  have CC : Chg w ((w.alloc (.cells #[.int .u64 0, .int .u64 0, .int .u64 0, .int .u64 0] 248)).alloc (.cells #[.int .u64 0, .int .u64 0, .int .u64 0, .int .u64 0] 248)) [z, W] := ((Chg.refl w _).alloc _).alloc _
  replace hz := (hz.alloc (.cells #[.int .u64 0, .int .u64 0, .int .u64 0, .int .u64 0] 248)).alloc (.cells #[.int .u64 0, .int .u64 0, .int .u64 0, .int .u64 0] 248)
  replace hW := (hW.alloc (.cells #[.int .u64 0, .int .u64 0, .int .u64 0, .int .u64 0] 248)).alloc (.cells #[.int .u64 0, .int .u64 0, .int .u64 0, .int .u64 0] 248)
  go_enter Tryd.func153, Tryd.ntmps153
  go_wp2_with fail
  have e1 : ¬ W = w.heap.size := by omega
  have e2 : ¬ W = w.heap.size + 1 := by omega
  have e3 : ¬ z = w.heap.size := by omega
  have e4 : ¬ z = w.heap.size + 1 := by omega
  have e5 : ¬ w.heap.size = w.heap.size + 1 := by omega
  have e6 : ¬ w.heap.size + 1 = w.heap.size := by omega
  refine (fold_any W w.heap.size n hn0 (by omega) e1 _ hW A0).mono ?_
  rintro e v1 ⟨rfl, n1, m1, k1⟩
  replace A1 := A1.chg k1 (by simp; omega)
  replace hz := hz.chg k1 (by simp; omega)
  replace CC := CC.trans k1 (by simp)
  clear hW A0 k1
  go_wp2_with fail
  refine (fold_any W (w.heap.size + 1) _ b0 b1 e2 _ m1 A1).mono ?_
  rintro e v2 ⟨rfl, n2, m2, k2⟩
  replace n1 := n1.chg k2 (by simp; omega)
  replace hz := hz.chg k2 (by simp; omega)
  replace CC := CC.trans k2 (by simp)
  clear m1 A1 k2
  go_wp2_with fail
  refine (sub_any z w.heap.size (w.heap.size + 1) _ _ b3 b4 _ hz n1 n2).mono ?_
  rintro e v3 ⟨rfl, n3, k3⟩
  replace m2 := m2.chg (Chg.of k3) (by simp; omega)
  replace CC := CC.trans (Chg.of k3) (by simp)
  clear n1 n2 hz k3
  have HW : Blk v3 W #[.int .u64 (wrd (n / 7237005577332262213973186563042994240829374041602535252466099000494570602496 * 27742317777372353535851937790883648493 / 7237005577332262213973186563042994240829374041602535252466099000494570602496 * 27742317777372353535851937790883648493) 0), .int .u64 (wrd (n / 7237005577332262213973186563042994240829374041602535252466099000494570602496 * 27742317777372353535851937790883648493 / 7237005577332262213973186563042994240829374041602535252466099000494570602496 * 27742317777372353535851937790883648493) 1), .int .u64 (wrd (n / 7237005577332262213973186563042994240829374041602535252466099000494570602496 * 27742317777372353535851937790883648493 / 7237005577332262213973186563042994240829374041602535252466099000494570602496 * 27742317777372353535851937790883648493) 2), .int .u64 (wrd (n / 7237005577332262213973186563042994240829374041602535252466099000494570602496 * 27742317777372353535851937790883648493 / 7237005577332262213973186563042994240829374041602535252466099000494570602496 * 27742317777372353535851937790883648493) 3), .int .u64 (wrd (n / 7237005577332262213973186563042994240829374041602535252466099000494570602496 * 27742317777372353535851937790883648493 / 7237005577332262213973186563042994240829374041602535252466099000494570602496 * 27742317777372353535851937790883648493) 4), .int .u64 (wrd (n / 7237005577332262213973186563042994240829374041602535252466099000494570602496 * 27742317777372353535851937790883648493 / 7237005577332262213973186563042994240829374041602535252466099000494570602496 * 27742317777372353535851937790883648493) 5), .int .u64 (wrd (n / 7237005577332262213973186563042994240829374041602535252466099000494570602496 * 27742317777372353535851937790883648493 / 7237005577332262213973186563042994240829374041602535252466099000494570602496 * 27742317777372353535851937790883648493) 6), .int .u64 (wrd (n / 7237005577332262213973186563042994240829374041602535252466099000494570602496 * 27742317777372353535851937790883648493 / 7237005577332262213973186563042994240829374041602535252466099000494570602496 * 27742317777372353535851937790883648493) 7)] 262 := m2
  clear m2
  have hlt := n3.lt
  have r3 := rl_mod (n % 7237005577332262213973186563042994240829374041602535252466099000494570602496 - n / 7237005577332262213973186563042994240829374041602535252466099000494570602496 * 27742317777372353535851937790883648493 % 7237005577332262213973186563042994240829374041602535252466099000494570602496)
  generalize n / 7237005577332262213973186563042994240829374041602535252466099000494570602496 * 27742317777372353535851937790883648493 / 7237005577332262213973186563042994240829374041602535252466099000494570602496 * 27742317777372353535851937790883648493 = n4 at *
  generalize (n % 7237005577332262213973186563042994240829374041602535252466099000494570602496 - n / 7237005577332262213973186563042994240829374041602535252466099000494570602496 * 27742317777372353535851937790883648493 % 7237005577332262213973186563042994240829374041602535252466099000494570602496) % L = n5 at *
  go_wp2_with fail
  refine wp_region_held_drew (S := fun w' => Chg v3 w' [z]) (by kernel_rfl) ((Chg.refl v3 _).drew) (fun hHeld => ?_)
  refine take_val (v := ?_) 0 (some 12) rfl (by kernel_rfl) (by kernel_rfl) (by kernel_rfl) (fun _ _ _ h => h) rfl rfl (fun w hSw => ?_) hHeld ?_
  rotate_left
  · (go_simp; try with_reducible rfl)
  try simp only [Act.put, List.setIfInBounds_toArray, List.set_cons_zero, List.set_cons_succ]
  refine take_val (v := ?_) 1 (some 13) rfl (by kernel_rfl) (by kernel_rfl) (by kernel_rfl) (fun _ _ _ h => h) rfl rfl (fun w hSw => ?_) hHeld ?_
  rotate_left
  · (go_simp; try with_reducible rfl)
  try simp only [Act.put, List.setIfInBounds_toArray, List.set_cons_zero, List.set_cons_succ]
  refine take_val (v := ?_) 2 (some 14) rfl (by kernel_rfl) (by kernel_rfl) (by kernel_rfl) (fun _ _ _ h => h) rfl rfl (fun w hSw => ?_) hHeld ?_
  rotate_left
  · (go_simp; try with_reducible rfl)
  try simp only [Act.put, List.setIfInBounds_toArray, List.set_cons_zero, List.set_cons_succ]
  refine take_val (v := ?_) 3 (some 15) rfl (by kernel_rfl) (by kernel_rfl) (by kernel_rfl) (fun _ _ _ h => h) rfl rfl (fun w hSw => ?_) hHeld ?_
  rotate_left
  · (go_simp; try with_reducible rfl)
  try simp only [Act.put, List.setIfInBounds_toArray, List.set_cons_zero, List.set_cons_succ]
  refine take_val (v := ?_) 4 (some 16) rfl (by kernel_rfl) (by kernel_rfl) (by kernel_rfl) (fun _ _ _ h => h) rfl rfl (fun w hSw => ?_) hHeld ?_
  rotate_left
  · (go_simp; try with_reducible rfl)
  try simp only [Act.put, List.setIfInBounds_toArray, List.set_cons_zero, List.set_cons_succ]
  refine take_val (v := ?_) 5 (some 17) rfl (by kernel_rfl) (by kernel_rfl) (by kernel_rfl) (fun _ _ _ h => h) rfl rfl (fun w hSw => ?_) hHeld ?_
  rotate_left
  · have cx := (HW.chg hSw (by simp; omega)).cell 0
    (go_simp; try with_reducible rfl)
  try simp only [Act.put, List.setIfInBounds_toArray, List.set_cons_zero, List.set_cons_succ]
  refine take_val (v := ?_) 6 (some 18) rfl (by kernel_rfl) (by kernel_rfl) (by kernel_rfl) (fun _ _ _ h => h) rfl rfl (fun w hSw => ?_) hHeld ?_
  rotate_left
  · (go_simp; try with_reducible rfl)
  try simp only [Act.put, List.setIfInBounds_toArray, List.set_cons_zero, List.set_cons_succ]
  refine take_val (v := ?_) 7 (some 19) rfl (by kernel_rfl) (by kernel_rfl) (by kernel_rfl) (fun _ _ _ h => h) rfl rfl (fun w hSw => ?_) hHeld ?_
  rotate_left
  · (go_simp; try with_reducible rfl)
  try simp only [Act.put, List.setIfInBounds_toArray, List.set_cons_zero, List.set_cons_succ]
  refine take_val (v := ?_) 8 (some 20) rfl (by kernel_rfl) (by kernel_rfl) (by kernel_rfl) (fun _ _ _ h => h) rfl rfl (fun w hSw => ?_) hHeld ?_
  rotate_left
  · (go_simp; try with_reducible rfl)
  try simp only [Act.put, List.setIfInBounds_toArray, List.set_cons_zero, List.set_cons_succ]
  refine take_val (v := ?_) 9 (some 21) rfl (by kernel_rfl) (by kernel_rfl) (by kernel_rfl) (fun _ _ _ h => h) rfl rfl (fun w hSw => ?_) hHeld ?_
  rotate_left
  · have cx := (HW.chg hSw (by simp; omega)).cell 1
    (go_simp; try with_reducible rfl)
  try simp only [Act.put, List.setIfInBounds_toArray, List.set_cons_zero, List.set_cons_succ]
  refine take_val (v := ?_) 10 (some 22) rfl (by kernel_rfl) (by kernel_rfl) (by kernel_rfl) (fun _ _ _ h => h) rfl rfl (fun w hSw => ?_) hHeld ?_
  rotate_left
  · (go_simp; try with_reducible rfl)
  try simp only [Act.put, List.setIfInBounds_toArray, List.set_cons_zero, List.set_cons_succ]
  refine take_val (v := ?_) 11 (some 23) rfl (by kernel_rfl) (by kernel_rfl) (by kernel_rfl) (fun _ _ _ h => h) rfl rfl (fun w hSw => ?_) hHeld ?_
  rotate_left
  · (go_simp; try with_reducible rfl)
  try simp only [Act.put, List.setIfInBounds_toArray, List.set_cons_zero, List.set_cons_succ]
  refine take_val (v := ?_) 12 (some 24) rfl (by kernel_rfl) (by kernel_rfl) (by kernel_rfl) (fun _ _ _ h => h) rfl rfl (fun w hSw => ?_) hHeld ?_
  rotate_left
  · (go_simp; try with_reducible rfl)
  try simp only [Act.put, List.setIfInBounds_toArray, List.set_cons_zero, List.set_cons_succ]
  refine take_val (v := ?_) 13 (some 25) rfl (by kernel_rfl) (by kernel_rfl) (by kernel_rfl) (fun _ _ _ h => h) rfl rfl (fun w hSw => ?_) hHeld ?_
  rotate_left
  · have cx := (HW.chg hSw (by simp; omega)).cell 2
    (go_simp; try with_reducible rfl)
  try simp only [Act.put, List.setIfInBounds_toArray, List.set_cons_zero, List.set_cons_succ]
  refine take_val (v := ?_) 14 (some 26) rfl (by kernel_rfl) (by kernel_rfl) (by kernel_rfl) (fun _ _ _ h => h) rfl rfl (fun w hSw => ?_) hHeld ?_
  rotate_left
  · (go_simp; try with_reducible rfl)
  try simp only [Act.put, List.setIfInBounds_toArray, List.set_cons_zero, List.set_cons_succ]
  refine take_val (v := ?_) 15 (some 27) rfl (by kernel_rfl) (by kernel_rfl) (by kernel_rfl) (fun _ _ _ h => h) rfl rfl (fun w hSw => ?_) hHeld ?_
  rotate_left
  · (go_simp; try with_reducible rfl)
  try simp only [Act.put, List.setIfInBounds_toArray, List.set_cons_zero, List.set_cons_succ]
  refine take_val (v := ?_) 16 (some 28) rfl (by kernel_rfl) (by kernel_rfl) (by kernel_rfl) (fun _ _ _ h => h) rfl rfl (fun w hSw => ?_) hHeld ?_
  rotate_left
  · (go_simp; try with_reducible rfl)
  try simp only [Act.put, List.setIfInBounds_toArray, List.set_cons_zero, List.set_cons_succ]
  refine take_val (v := ?_) 17 (some 29) rfl (by kernel_rfl) (by kernel_rfl) (by kernel_rfl) (fun _ _ _ h => h) rfl rfl (fun w hSw => ?_) hHeld ?_
  rotate_left
  · have cx := (HW.chg hSw (by simp; omega)).cell 3
    (go_simp; try with_reducible rfl)
  try simp only [Act.put, List.setIfInBounds_toArray, List.set_cons_zero, List.set_cons_succ]
  refine take_val (v := ?_) 18 (some 30) rfl (by kernel_rfl) (by kernel_rfl) (by kernel_rfl) (fun _ _ _ h => h) rfl rfl (fun w hSw => ?_) hHeld ?_
  rotate_left
  · (go_simp; try with_reducible rfl)
  try simp only [Act.put, List.setIfInBounds_toArray, List.set_cons_zero, List.set_cons_succ]
  refine wpAnyH_ready (rs := [19]) (by kernel_rfl) (by simp) ?_
  refine AllReadyH.cons (o := _) rfl (fun K hK => ?_) ?_
  ·
    rw [if_pos (by rfl)]
    go_simp
    refine hK.out _ _ (hHeld.alloc _) (fun hHeld => ?_)
    clear hK K
    try simp only [Act.put, List.setIfInBounds_toArray, List.set_cons_zero, List.set_cons_succ]
    refine wpAnyH_ready (rs := [20]) (by kernel_rfl) (by simp) ?_
    refine AllReadyH.cons (o := _) rfl (fun K hK => ?_) ?_
    ·
      go_simp
      have n6 : NumAt (v3.drew.alloc (.cells (wd4 n4) 248)) v3.heap.size n4 := Blk.new v3.drew _ _
      have n7 : NumAt (v3.drew.alloc (.cells (wd4 n4) 248)) z n5 := NumAt.alloc n3 _
      refine (add_any z z v3.heap.size _ _ r3 b2 _ n7.an n7 n6).mono ?_
      rintro e v4 ⟨rfl, n8, k4⟩
      go_wp2_with fail
      refine hK.out _ _ (hHeld.trans1 (Chg.of k4)) (fun hHeld => ?_)
      clear hK K
      try simp only [Act.put, List.setIfInBounds_toArray, List.set_cons_zero, List.set_cons_succ]
      refine wpAnyH_done (by kernel_rfl) ?_ _
      go_wp2_with fail
      go_end0
      exact ⟨rfl, by rw [← HV.out]; exact n8, CC.trans hHeld (by simp)⟩
    exact AllReadyH.nil
  exact AllReadyH.nil
theorem wd8_small (k : Int) (h0 : 0 ≤ k) (h1 : k < 115792089237316195423570985008687907853269984665640564039457584007913129639936) : #[.int .u64 (wrd k 0), .int .u64 (wrd k 1), .int .u64 (wrd k 2), .int .u64 (wrd k 3), .int .u64 0, .int .u64 0, .int .u64 0, .int .u64 0] = wd8 k := by
  unfold wd8
  have e4 : wrd k 4 = 0 := by rw [wrd4]; omega
  have e5 : wrd k 5 = 0 := by rw [wrd5]; omega
  have e6 : wrd k 6 = 0 := by rw [wrd6]; omega
  have e7 : wrd k 7 = 0 := by rw [wrd7]; omega
  rw [e4, e5, e6, e7]
theorem prod_bd (k n m : Int) (hk : RL k) (hn : RL n) (hm : RL m) : 0 ≤ k + n * m ∧ k + n * m < 104748499452676539840422070298483172870932545473378073263465323779076281484949585756264642954428933028828373892081922272294952209468332577706512882860032 := by
  unfold RL at *
  have h0 := Int.mul_nonneg hn.1 hm.1
  have h1 := Int.mul_le_mul (show n ≤ 7237005577332262213973186563042994240857116359379907606001950938285454250989 by omega) (show m ≤ 7237005577332262213973186563042994240857116359379907606001950938285454250989 by omega) hm.1 (by decide)
  omega
theorem wideInfo : (Tryd.prog.info? 262).map (·.size) = some 8 := by kernel_rfl

set_option maxHeartbeats 4000000 in
set_option maxRecDepth 100000 in
theorem mulAdd_any (z x y a : Nat) (n m k : Int) (rn : RL n) (rm : RL m) (rk : RL k) (w : World) (hz : An w z) (hx : NumAt w x n) (hy : NumAt w y m) (ha : NumAt w a k) :
    Calls Tryd.prog 140 #[.pointer (some ⟨z, 0, none⟩), .pointer (some ⟨x, 0, none⟩), .pointer (some ⟨y, 0, none⟩), .pointer (some ⟨a, 0, none⟩)] w fun e w' => e = .returned (.tuple #[]) ∧ NumAt w' z ((k + n * m) % L) ∧ Chg w w' [z] := by
  have hzl := hz.lt
  obtain ⟨pb0, pb1⟩ := prod_bd k n m rk rn rm
  have hs := wd8_small k rk.1 (by unfold RL at rk; omega)
  have HS : Hid (#[.int .u64 (wrd k 0), .int .u64 (wrd k 1), .int .u64 (wrd k 2), .int .u64 (wrd k 3), .int .u64 0, .int .u64 0, .int .u64 0, .int .u64 0] = wd8 k) := hs
  clear hs
  go_enter Tryd.func140, Tryd.ntmps140
  go_wp2_with fail
  refine wp_region_held_drew (S := fun w' => Chg w w' []) (by kernel_rfl) ((Chg.refl w _).drew) (fun hHeld => ?_)
  refine take_val (v := ?_) 0 (some 9) rfl (by kernel_rfl) (by kernel_rfl) (by kernel_rfl) (fun _ _ _ h => h) rfl rfl (fun w hSw => ?_) hHeld ?_
  rotate_left
  · (go_simp; try with_reducible rfl)
  try simp only [Act.put, List.setIfInBounds_toArray, List.set_cons_zero, List.set_cons_succ]
  refine take_val (v := ?_) 1 (some 10) rfl (by kernel_rfl) (by kernel_rfl) (by kernel_rfl) (fun _ _ _ h => h) rfl rfl (fun w hSw => ?_) hHeld ?_
  rotate_left
  · (go_simp; try with_reducible rfl)
  try simp only [Act.put, List.setIfInBounds_toArray, List.set_cons_zero, List.set_cons_succ]
  refine take_val (v := ?_) 2 (some 11) rfl (by kernel_rfl) (by kernel_rfl) (by kernel_rfl) (fun _ _ _ h => h) rfl rfl (fun w hSw => ?_) hHeld ?_
  rotate_left
  · (go_simp; try with_reducible rfl)
  try simp only [Act.put, List.setIfInBounds_toArray, List.set_cons_zero, List.set_cons_succ]
  refine take_val (v := ?_) 3 (some 12) rfl (by kernel_rfl) (by kernel_rfl) (by kernel_rfl) (fun _ _ _ h => h) rfl rfl (fun w hSw => ?_) hHeld ?_
  rotate_left
  · have cx := (NumAt.chg ha hSw (by simp)).c0
    (go_simp; try with_reducible rfl)
  try simp only [Act.put, List.setIfInBounds_toArray, List.set_cons_zero, List.set_cons_succ]
  refine take_val (v := ?_) 4 (some 13) rfl (by kernel_rfl) (by kernel_rfl) (by kernel_rfl) (fun _ _ _ h => h) rfl rfl (fun w hSw => ?_) hHeld ?_
  rotate_left
  · (go_simp; try with_reducible rfl)
  try simp only [Act.put, List.setIfInBounds_toArray, List.set_cons_zero, List.set_cons_succ]
  refine take_val (v := ?_) 5 (some 14) rfl (by kernel_rfl) (by kernel_rfl) (by kernel_rfl) (fun _ _ _ h => h) rfl rfl (fun w hSw => ?_) hHeld ?_
  rotate_left
  · (go_simp; try with_reducible rfl)
  try simp only [Act.put, List.setIfInBounds_toArray, List.set_cons_zero, List.set_cons_succ]
  refine take_val (v := ?_) 6 (some 15) rfl (by kernel_rfl) (by kernel_rfl) (by kernel_rfl) (fun _ _ _ h => h) rfl rfl (fun w hSw => ?_) hHeld ?_
  rotate_left
  · (go_simp; try with_reducible rfl)
  try simp only [Act.put, List.setIfInBounds_toArray, List.set_cons_zero, List.set_cons_succ]
  refine take_val (v := ?_) 7 (some 16) rfl (by kernel_rfl) (by kernel_rfl) (by kernel_rfl) (fun _ _ _ h => h) rfl rfl (fun w hSw => ?_) hHeld ?_
  rotate_left
  · have cx := (NumAt.chg ha hSw (by simp)).c1
    (go_simp; try with_reducible rfl)
  try simp only [Act.put, List.setIfInBounds_toArray, List.set_cons_zero, List.set_cons_succ]
  refine take_val (v := ?_) 8 (some 17) rfl (by kernel_rfl) (by kernel_rfl) (by kernel_rfl) (fun _ _ _ h => h) rfl rfl (fun w hSw => ?_) hHeld ?_
  rotate_left
  · (go_simp; try with_reducible rfl)
  try simp only [Act.put, List.setIfInBounds_toArray, List.set_cons_zero, List.set_cons_succ]
  refine take_val (v := ?_) 9 (some 18) rfl (by kernel_rfl) (by kernel_rfl) (by kernel_rfl) (fun _ _ _ h => h) rfl rfl (fun w hSw => ?_) hHeld ?_
  rotate_left
  · (go_simp; try with_reducible rfl)
  try simp only [Act.put, List.setIfInBounds_toArray, List.set_cons_zero, List.set_cons_succ]
  refine take_val (v := ?_) 10 (some 19) rfl (by kernel_rfl) (by kernel_rfl) (by kernel_rfl) (fun _ _ _ h => h) rfl rfl (fun w hSw => ?_) hHeld ?_
  rotate_left
  · (go_simp; try with_reducible rfl)
  try simp only [Act.put, List.setIfInBounds_toArray, List.set_cons_zero, List.set_cons_succ]
  refine take_val (v := ?_) 11 (some 20) rfl (by kernel_rfl) (by kernel_rfl) (by kernel_rfl) (fun _ _ _ h => h) rfl rfl (fun w hSw => ?_) hHeld ?_
  rotate_left
  · have cx := (NumAt.chg ha hSw (by simp)).c2
    (go_simp; try with_reducible rfl)
  try simp only [Act.put, List.setIfInBounds_toArray, List.set_cons_zero, List.set_cons_succ]
  refine take_val (v := ?_) 12 (some 21) rfl (by kernel_rfl) (by kernel_rfl) (by kernel_rfl) (fun _ _ _ h => h) rfl rfl (fun w hSw => ?_) hHeld ?_
  rotate_left
  · (go_simp; try with_reducible rfl)
  try simp only [Act.put, List.setIfInBounds_toArray, List.set_cons_zero, List.set_cons_succ]
  refine take_val (v := ?_) 13 (some 22) rfl (by kernel_rfl) (by kernel_rfl) (by kernel_rfl) (fun _ _ _ h => h) rfl rfl (fun w hSw => ?_) hHeld ?_
  rotate_left
  · (go_simp; try with_reducible rfl)
  try simp only [Act.put, List.setIfInBounds_toArray, List.set_cons_zero, List.set_cons_succ]
  refine take_val (v := ?_) 14 (some 23) rfl (by kernel_rfl) (by kernel_rfl) (by kernel_rfl) (fun _ _ _ h => h) rfl rfl (fun w hSw => ?_) hHeld ?_
  rotate_left
  · (go_simp; try with_reducible rfl)
  try simp only [Act.put, List.setIfInBounds_toArray, List.set_cons_zero, List.set_cons_succ]
  refine take_val (v := ?_) 15 (some 24) rfl (by kernel_rfl) (by kernel_rfl) (by kernel_rfl) (fun _ _ _ h => h) rfl rfl (fun w hSw => ?_) hHeld ?_
  rotate_left
  · have cx := (NumAt.chg ha hSw (by simp)).c3
    (go_simp; try with_reducible rfl)
  try simp only [Act.put, List.setIfInBounds_toArray, List.set_cons_zero, List.set_cons_succ]
  refine take_val (v := ?_) 16 (some 25) rfl (by kernel_rfl) (by kernel_rfl) (by kernel_rfl) (fun _ _ _ h => h) rfl rfl (fun w hSw => ?_) hHeld ?_
  rotate_left
  · (go_simp; try with_reducible rfl)
  try simp only [Act.put, List.setIfInBounds_toArray, List.set_cons_zero, List.set_cons_succ]
  refine wpAnyH_ready (rs := [17]) (by kernel_rfl) (by simp) ?_
  refine AllReadyH.cons (o := _) rfl (fun K hK => ?_) ?_
  ·
    rw [if_pos (by rfl)]
    go_simp
    refine hK.out _ _ (hHeld.alloc _) (fun hHeld => ?_)
    clear hK K
    try simp only [Act.put, List.setIfInBounds_toArray, List.set_cons_zero, List.set_cons_succ]
    refine wpAnyH_ready (rs := [18]) (by kernel_rfl) (by simp) ?_
    refine AllReadyH.cons (o := _) rfl (fun K hK => ?_) ?_
    ·
      rw [if_pos (by rfl)]
      refine wp_store_row 262 _ _ rfl w.heap.size _ rfl rfl 262 _ (Blk.new w #[.int .u64 0, .int .u64 0, .int .u64 0, .int .u64 0, .int .u64 0, .int .u64 0, .int .u64 0, .int .u64 0] 262).drew wideInfo rfl (by simp [Value.oneCell']) ?_
      refine hK.out _ _ (hHeld.setRowNew (Nat.le_refl _) _) (fun hHeld => ?_)
      clear hK K
      try simp only [Act.put, List.setIfInBounds_toArray, List.set_cons_zero, List.set_cons_succ]
      refine wpAnyH_done (by kernel_rfl) ?_ _
      have HW : WideAt (((w.alloc (.cells #[.int .u64 0, .int .u64 0, .int .u64 0, .int .u64 0, .int .u64 0, .int .u64 0, .int .u64 0, .int .u64 0] 262)).drew).setRow w.heap.size #[.int .u64 (wrd k 0), .int .u64 (wrd k 1), .int .u64 (wrd k 2), .int .u64 (wrd k 3), .int .u64 0, .int .u64 0, .int .u64 0, .int .u64 0]) w.heap.size k := by
        have h := (Blk.new w #[.int .u64 0, .int .u64 0, .int .u64 0, .int .u64 0, .int .u64 0, .int .u64 0, .int .u64 0, .int .u64 0] 262).drew.setRow #[.int .u64 (wrd k 0), .int .u64 (wrd k 1), .int .u64 (wrd k 2), .int .u64 (wrd k 3), .int .u64 0, .int .u64 0, .int .u64 0, .int .u64 0]
        rw [HS.out] at h
        rw [HS.out]
        exact h
      replace hz := hz.chg hHeld (by simp)
      replace hx := hx.chg hHeld (by simp)
      replace hy := hy.chg hHeld (by simp)
      have CC : Chg w (((w.alloc (.cells #[.int .u64 0, .int .u64 0, .int .u64 0, .int .u64 0, .int .u64 0, .int .u64 0, .int .u64 0, .int .u64 0] 262)).drew).setRow w.heap.size #[.int .u64 (wrd k 0), .int .u64 (wrd k 1), .int .u64 (wrd k 2), .int .u64 (wrd k 3), .int .u64 0, .int .u64 0, .int .u64 0, .int .u64 0]) [z] := hHeld.wide
      clear hHeld ha HS
      generalize ((w.alloc (.cells #[.int .u64 0, .int .u64 0, .int .u64 0, .int .u64 0, .int .u64 0, .int .u64 0, .int .u64 0, .int .u64 0] 262)).drew).setRow w.heap.size #[.int .u64 (wrd k 0), .int .u64 (wrd k 1), .int .u64 (wrd k 2), .int .u64 (wrd k 3), .int .u64 0, .int .u64 0, .int .u64 0, .int .u64 0] = v0 at *
      go_wp2_with fail
      refine (addProduct_any w.heap.size x y k n m rk.1 (by unfold RL at rk; omega) rn rm _ HW hx hy).mono ?_
      rintro e v1 ⟨rfl, W1, k1⟩
      replace hz := hz.chg k1 (by simp; omega)
      replace CC := CC.new k1 (by omega)
      clear HW hx hy k1
      go_wp2_with fail
      refine (reduce_any z w.heap.size _ pb0 pb1 (by omega) _ hz W1).mono ?_
      rintro e v2 ⟨rfl, n2, k2⟩
      replace CC := CC.trans k2 (by simp)
      go_wp2_with fail
      go_end0
      exact ⟨rfl, n2, CC⟩
    exact AllReadyH.nil
  exact AllReadyH.nil
end Go.Proofs.YthpfdnkcepfbaaaDoor
