/- (*wide).fold. -/
import Derived.Test.YtoafcaieifjoiaaGreatAddSub
set_option linter.unusedVariables false
set_option linter.unusedSimpArgs false
set_option linter.unnecessarySimpa false
namespace Go.Proofs.YtoafcaieifjoiaaGreat
open Go.RowKit N

/-- The eight words of n, as cells. -/
def wd8 (n : Int) : Array Value := #[.int .u64 (wrd n 0), .int .u64 (wrd n 1), .int .u64 (wrd n 2), .int .u64 (wrd n 3), .int .u64 (wrd n 4), .int .u64 (wrd n 5), .int .u64 (wrd n 6), .int .u64 (wrd n 7)]
/-- n in block b, as a wide. -/
def WideAt (w : World) (b : Nat) (n : Int) : Prop := Blk w b (wd8 n) 202
theorem WideAt.lt {w : World} {b : Nat} {n : Int} (h : WideAt w b n) : b < w.heap.size := Blk.lt h
theorem WideAt.chg {w w' : World} {b : Nat} {n : Int} {l : List Nat} (h : WideAt w b n) (hc : Chg w w' l) (hb : ¬ b ∈ l) : WideAt w' b n := Blk.chg h hc hb
theorem WideAt.alloc {w : World} {b : Nat} {n : Int} (h : WideAt w b n) (o : Obj) : WideAt (w.alloc o) b n := Blk.alloc h o
theorem WideAt.c0 {w : World} {b : Nat} {n : Int} (h : WideAt w b n) : w.cell? ⟨b, 0, none⟩ = some (.int .u64 (wrd n 0)) := Blk.cell h 0
theorem WideAt.c1 {w : World} {b : Nat} {n : Int} (h : WideAt w b n) : w.cell? ⟨b, 1, none⟩ = some (.int .u64 (wrd n 1)) := Blk.cell h 1
theorem WideAt.c2 {w : World} {b : Nat} {n : Int} (h : WideAt w b n) : w.cell? ⟨b, 2, none⟩ = some (.int .u64 (wrd n 2)) := Blk.cell h 2
theorem WideAt.c3 {w : World} {b : Nat} {n : Int} (h : WideAt w b n) : w.cell? ⟨b, 3, none⟩ = some (.int .u64 (wrd n 3)) := Blk.cell h 3
theorem WideAt.c4 {w : World} {b : Nat} {n : Int} (h : WideAt w b n) : w.cell? ⟨b, 4, none⟩ = some (.int .u64 (wrd n 4)) := Blk.cell h 4
theorem WideAt.c5 {w : World} {b : Nat} {n : Int} (h : WideAt w b n) : w.cell? ⟨b, 5, none⟩ = some (.int .u64 (wrd n 5)) := Blk.cell h 5
theorem WideAt.c6 {w : World} {b : Nat} {n : Int} (h : WideAt w b n) : w.cell? ⟨b, 6, none⟩ = some (.int .u64 (wrd n 6)) := Blk.cell h 6
theorem WideAt.c7 {w : World} {b : Nat} {n : Int} (h : WideAt w b n) : w.cell? ⟨b, 7, none⟩ = some (.int .u64 (wrd n 7)) := Blk.cell h 7
theorem fold_h (n w0 w1 w2 w3 w4 w5 w6 w7 : Int) (hn : n < 837987995621412318723376562387865382967460363787024586107722590232610251879596686050117143635431464230626991136655378178359617675746660621652103062880256) (h0 : Wo w0) (h1 : Wo w1) (h2 : Wo w2) (h3 : Wo w3) (h4 : Wo w4) (h5 : Wo w5) (h6 : Wo w6) (h7 : Wo w7) (e : w0 + w1 * 18446744073709551616 + w2 * 340282366920938463463374607431768211456 + w3 * 6277101735386680763835789423207666416102355444464034512896 + w4 * 115792089237316195423570985008687907853269984665640564039457584007913129639936 + w5 * 2135987035920910082395021706169552114602704522356652769947041607822219725780640550022962086936576 + w6 * 39402006196394479212279040100143613805079739270465446667948293404245721771497210611414266254884915640806627990306816 + w7 * 726838724295606890549323807888004534353641360687318060281490199180639288113397923326191050713763565560762521606266177933534601628614656 = n) :
    Wo (w3 / 1152921504606846976 + w4 * 16 % 18446744073709551616) ∧ Wo (w4 / 1152921504606846976 + w5 * 16 % 18446744073709551616) ∧ Wo (w5 / 1152921504606846976 + w6 * 16 % 18446744073709551616) ∧ Wo (w6 / 1152921504606846976 + w7 * 16 % 18446744073709551616) ∧
    (w3 / 1152921504606846976 + w4 * 16 % 18446744073709551616) + (w4 / 1152921504606846976 + w5 * 16 % 18446744073709551616) * 18446744073709551616 + (w5 / 1152921504606846976 + w6 * 16 % 18446744073709551616) * 340282366920938463463374607431768211456 + (w6 / 1152921504606846976 + w7 * 16 % 18446744073709551616) * 6277101735386680763835789423207666416102355444464034512896 = n / 7237005577332262213973186563042994240829374041602535252466099000494570602496 ∧ w0 + w1 * 18446744073709551616 + w2 * 340282366920938463463374607431768211456 + w3 % 1152921504606846976 * 6277101735386680763835789423207666416102355444464034512896 = n % 7237005577332262213973186563042994240829374041602535252466099000494570602496 := by
  unfold Wo at *
  refine ⟨?_, ?_, ?_, ?_, ?_, ?_⟩ <;> omega
theorem fold_v (m h0 h1 h2 h3 a0 a1 a2 a3 a4 u0 u1 u2 b1 b2 b3 b4 b5 v0 v1 v2 : Int) (e : h0 + h1 * 18446744073709551616 + h2 * 340282366920938463463374607431768211456 + h3 * 6277101735386680763835789423207666416102355444464034512896 = m) (e0 : h0 * 6346243789798364141 + 0 + 0 = a0 + 18446744073709551616 * u0) (e1 : h1 * 6346243789798364141 + 0 + u0 = a1 + 18446744073709551616 * u1) (e2 : h2 * 6346243789798364141 + 0 + u1 = a2 + 18446744073709551616 * u2) (e3 : h3 * 6346243789798364141 + 0 + u2 = a3 + 18446744073709551616 * a4) (e4 : h0 * 1503914060200516822 + a1 + 0 = b1 + 18446744073709551616 * v0) (e5 : h1 * 1503914060200516822 + a2 + v0 = b2 + 18446744073709551616 * v1) (e6 : h2 * 1503914060200516822 + a3 + v1 = b3 + 18446744073709551616 * v2) (e7 : h3 * 1503914060200516822 + a4 + v2 = b4 + 18446744073709551616 * b5) : a0 + b1 * 18446744073709551616 + b2 * 340282366920938463463374607431768211456 + b3 * 6277101735386680763835789423207666416102355444464034512896 + b4 * 115792089237316195423570985008687907853269984665640564039457584007913129639936 + b5 * 2135987035920910082395021706169552114602704522356652769947041607822219725780640550022962086936576 + 0 * 39402006196394479212279040100143613805079739270465446667948293404245721771497210611414266254884915640806627990306816 + 0 * 726838724295606890549323807888004534353641360687318060281490199180639288113397923326191050713763565560762521606266177933534601628614656 = m * 27742317777372353535851937790883648493 := by
  omega

theorem an60 (x : Int) (h : Wo x) : bits .and .u64 x 1152921504606846975 = x % 1152921504606846976 := by
  unfold Wo at h
  obtain ⟨n, rfl⟩ := Int.eq_ofNat_of_zero_le h.1
  have h := bits_and_u64_nat n 1152921504606846975 (by omega) (by omega)
  have e : n &&& 1152921504606846975 = n % 1152921504606846976 := Nat.and_two_pow_sub_one_eq_mod n 60
  rw [e] at h
  refine Eq.trans ?_ (h.trans ?_)
  · rfl
  · omega
theorem or4 (x y : Int) (hx : Wo x) (hy : Wo y) : bits .or .u64 (x / 1152921504606846976) (y * 16 % 18446744073709551616) = x / 1152921504606846976 + y * 16 % 18446744073709551616 := by
  unfold Wo at hx hy
  exact or_join 4 _ _ (by decide) (by omega) (by simp only [Int.reducePow]; omega) (by omega) (by omega) (by simp only [Int.reducePow]; omega)

set_option maxHeartbeats 4000000 in
set_option maxRecDepth 100000 in
theorem fold_any (W z : Nat) (n : Int) (hn0 : 0 ≤ n) (hn1 : n < 837987995621412318723376562387865382967460363787024586107722590232610251879596686050117143635431464230626991136655378178359617675746660621652103062880256) (hne : ¬ W = z) (w : World) (hW : WideAt w W n) (hz : An w z) :
    Calls Tryz.prog 123 #[.pointer (some ⟨W, 0, none⟩), .pointer (some ⟨z, 0, none⟩)] w fun e w' => e = .returned (.tuple #[]) ∧ NumAt w' z (n % 7237005577332262213973186563042994240829374041602535252466099000494570602496) ∧ WideAt w' W (n / 7237005577332262213973186563042994240829374041602535252466099000494570602496 * 27742317777372353535851937790883648493) ∧ Chg w w' [W, z] := by
  have hne' : ¬ z = W := fun h => hne h.symm
  obtain ⟨x0, x1, x2, x3, hz⟩ := hz
  have y0 := hz.cell 0; have f0 := hz.frozen 0
  have y1 := hz.cell 1; have f1 := hz.frozen 1
  have y2 := hz.cell 2; have f2 := hz.frozen 2
  have y3 := hz.cell 3; have f3 := hz.frozen 3
  simp at y0 y1 y2 y3
  have k0 := hW.c0; have g0 := Blk.frozen hW 0; have q0 := wrd_wo n 0
  have k1 := hW.c1; have g1 := Blk.frozen hW 1; have q1 := wrd_wo n 1
  have k2 := hW.c2; have g2 := Blk.frozen hW 2; have q2 := wrd_wo n 2
  have k3 := hW.c3; have g3 := Blk.frozen hW 3; have q3 := wrd_wo n 3
  have k4 := hW.c4; have g4 := Blk.frozen hW 4; have q4 := wrd_wo n 4
  have k5 := hW.c5; have g5 := Blk.frozen hW 5; have q5 := wrd_wo n 5
  have k6 := hW.c6; have g6 := Blk.frozen hW 6; have q6 := wrd_wo n 6
  have k7 := hW.c7; have g7 := Blk.frozen hW 7; have q7 := wrd_wo n 7
  have ES := wrd_sum8 n hn0 (by omega)
  generalize hw0 : wrd n 0 = w0 at *
  generalize hw1 : wrd n 1 = w1 at *
  generalize hw2 : wrd n 2 = w2 at *
  generalize hw3 : wrd n 3 = w3 at *
  generalize hw4 : wrd n 4 = w4 at *
  generalize hw5 : wrd n 5 = w5 at *
  generalize hw6 : wrd n 6 = w6 at *
  generalize hw7 : wrd n 7 = w7 at *
  have HW : Blk w W #[.int .u64 w0, .int .u64 w1, .int .u64 w2, .int .u64 w3, .int .u64 w4, .int .u64 w5, .int .u64 w6, .int .u64 w7] 202 := by have h := hW; unfold WideAt wd8 at h; rw [hw0, hw1, hw2, hw3, hw4, hw5, hw6, hw7] at h; exact h
  clear hW hw0 hw1 hw2 hw3 hw4 hw5 hw6 hw7
  obtain ⟨p0, p1, p2, p3, EH, EL⟩ := fold_h n w0 w1 w2 w3 w4 w5 w6 w7 hn1 q0 q1 q2 q3 q4 q5 q6 q7 ES
  have t0 : IntKind.u64.wrap (w4 * 16) = w4 * 16 % 18446744073709551616 := IntKind.wrap_u64 _
  have o0 := or4 w3 w4 q3 q4
  have t1 : IntKind.u64.wrap (w5 * 16) = w5 * 16 % 18446744073709551616 := IntKind.wrap_u64 _
  have o1 := or4 w4 w5 q4 q5
  have t2 : IntKind.u64.wrap (w6 * 16) = w6 * 16 % 18446744073709551616 := IntKind.wrap_u64 _
  have o2 := or4 w5 w6 q5 q6
  have t3 : IntKind.u64.wrap (w7 * 16) = w7 * 16 % 18446744073709551616 := IntKind.wrap_u64 _
  have o3 := or4 w6 w7 q6 q7
  have mm := an60 w3 q3
  have pl : Wo (w3 % 1152921504606846976) := by unfold Wo; omega
  generalize w3 / 1152921504606846976 + w4 * 16 % 18446744073709551616 = h0 at *
  generalize w4 / 1152921504606846976 + w5 * 16 % 18446744073709551616 = h1 at *
  generalize w5 / 1152921504606846976 + w6 * 16 % 18446744073709551616 = h2 at *
  generalize w6 / 1152921504606846976 + w7 * 16 % 18446744073709551616 = h3 at *
  have c0 : Wo 6346243789798364141 := by unfold Wo; omega
  have c1 : Wo 1503914060200516822 := by unfold Wo; omega
  obtain ⟨a0, u0, e0, Wa0, Wu0⟩ := stepx h0 6346243789798364141 0 0 p0 c0 wo0 wo0
  have S0 := step_any h0 6346243789798364141 0 0 a0 u0 p0 c0 wo0 wo0 e0 Wa0 Wu0
  obtain ⟨a1, u1, e1, Wa1, Wu1⟩ := stepx h1 6346243789798364141 0 u0 p1 c0 wo0 Wu0
  have S1 := step_any h1 6346243789798364141 0 u0 a1 u1 p1 c0 wo0 Wu0 e1 Wa1 Wu1
  obtain ⟨a2, u2, e2, Wa2, Wu2⟩ := stepx h2 6346243789798364141 0 u1 p2 c0 wo0 Wu1
  have S2 := step_any h2 6346243789798364141 0 u1 a2 u2 p2 c0 wo0 Wu1 e2 Wa2 Wu2
  obtain ⟨a3, a4, e3, Wa3, Wa4⟩ := stepx h3 6346243789798364141 0 u2 p3 c0 wo0 Wu2
  have S3 := step_any h3 6346243789798364141 0 u2 a3 a4 p3 c0 wo0 Wu2 e3 Wa3 Wa4
  obtain ⟨b1, v0, e4, Wb1, Wv0⟩ := stepx h0 1503914060200516822 a1 0 p0 c1 Wa1 wo0
  have S4 := step_any h0 1503914060200516822 a1 0 b1 v0 p0 c1 Wa1 wo0 e4 Wb1 Wv0
  obtain ⟨b2, v1, e5, Wb2, Wv1⟩ := stepx h1 1503914060200516822 a2 v0 p1 c1 Wa2 Wv0
  have S5 := step_any h1 1503914060200516822 a2 v0 b2 v1 p1 c1 Wa2 Wv0 e5 Wb2 Wv1
  obtain ⟨b3, v2, e6, Wb3, Wv2⟩ := stepx h2 1503914060200516822 a3 v1 p2 c1 Wa3 Wv1
  have S6 := step_any h2 1503914060200516822 a3 v1 b3 v2 p2 c1 Wa3 Wv1 e6 Wb3 Wv2
  obtain ⟨b4, b5, e7, Wb4, Wb5⟩ := stepx h3 1503914060200516822 a4 v2 p3 c1 Wa4 Wv2
  have S7 := step_any h3 1503914060200516822 a4 v2 b4 b5 p3 c1 Wa4 Wv2 e7 Wb4 Wb5
  have V := fold_v (n / 7237005577332262213973186563042994240829374041602535252466099000494570602496) h0 h1 h2 h3 a0 a1 a2 a3 a4 u0 u1 u2 b1 b2 b3 b4 b5 v0 v1 v2 EH e0 e1 e2 e3 e4 e5 e6 e7
  obtain ⟨j0, j1, j2, j3, j4, j5, j6, j7⟩ := wrd_is8 _ a0 b1 b2 b3 b4 b5 0 0 Wa0 Wb1 Wb2 Wb3 Wb4 Wb5 wo0 wo0 V
  obtain ⟨i0, i1, i2, i3⟩ := wrd_is _ w0 w1 w2 (w3 % 1152921504606846976) q0 q1 q2 pl EL
  unfold NumAt WideAt wd4 wd8
  rw [← j0, ← j1, ← j2, ← j3, ← j4, ← j5, ← j6, ← j7, ← i0, ← i1, ← i2, ← i3]
  clear j0 j1 j2 j3 j4 j5 j6 j7 i0 i1 i2 i3 V EH EL ES e0 e1 e2 e3 e4 e5 e6 e7
  generalize n / 7237005577332262213973186563042994240829374041602535252466099000494570602496 * 27742317777372353535851937790883648493 = nn at *
  go_enter Tryz.func123, Tryz.ntmps123
  go_wp2_with fail
  refine wp_region_held_drew (S := fun w' => Chg w w' [z]) (by kernel_rfl) ((Chg.refl w _).drew) (fun hHeld => ?_)
  refine tv (v := ?_) 0 (some 15) rfl (by kernel_rfl) (fun _ _ _ h => h) rfl rfl (fun w hSw => ?_) hHeld ?_; rotate_left; (· (go_simp; try with_reducible rfl)); try simp only [Act.put, sA1, sA2, sA3]
  refine tv (v := ?_) 1 (some 16) rfl (by kernel_rfl) (fun _ _ _ h => h) rfl rfl (fun w hSw => ?_) hHeld ?_; rotate_left; (· (go_simp; try with_reducible rfl)); try simp only [Act.put, sA1, sA2, sA3]
  refine tv (v := ?_) 2 (some 17) rfl (by kernel_rfl) (fun _ _ _ h => h) rfl rfl (fun w hSw => ?_) hHeld ?_; rotate_left; (· (go_simp; try with_reducible rfl)); try simp only [Act.put, sA1, sA2, sA3]
  refine tv (v := ?_) 3 (some 18) rfl (by kernel_rfl) (fun _ _ _ h => h) rfl rfl (fun w hSw => ?_) hHeld ?_; rotate_left; (· (go_simp; try with_reducible rfl)); try simp only [Act.put, sA1, sA2, sA3]
  refine tv (v := ?_) 4 (some 19) rfl (by kernel_rfl) (fun _ _ _ h => h) rfl rfl (fun w hSw => ?_) hHeld ?_; rotate_left; (· (go_simp; try with_reducible rfl)); try simp only [Act.put, sA1, sA2, sA3]
  refine tv (v := ?_) 5 (some 20) rfl (by kernel_rfl) (fun _ _ _ h => h) rfl rfl (fun w hSw => ?_) hHeld ?_; rotate_left; (· (go_simp; try with_reducible rfl)); try simp only [Act.put, sA1, sA2, sA3]
  refine tv (v := ?_) 6 (some 21) rfl (by kernel_rfl) (fun _ _ _ h => h) rfl rfl (fun w hSw => ?_) hHeld ?_; rotate_left; (· (go_simp; try with_reducible rfl)); try simp only [Act.put, sA1, sA2, sA3]
  refine tv (v := ?_) 7 (some 22) rfl (by kernel_rfl) (fun _ _ _ h => h) rfl rfl (fun w hSw => ?_) hHeld ?_
  rotate_left
  · have cw := (HW.chg hSw (by simpa using hne)).cell 0
    (go_simp; try with_reducible rfl)
  try simp only [Act.put, sA1, sA2, sA3]
  refine tv (v := ?_) 8 (some 23) rfl (by kernel_rfl) (fun _ _ _ h => h) rfl rfl (fun w hSw => ?_) hHeld ?_; rotate_left; (· (go_simp; try with_reducible rfl)); try simp only [Act.put, sA1, sA2, sA3]
  refine tv (v := ?_) 9 (some 24) rfl (by kernel_rfl) (fun _ _ _ h => h) rfl rfl (fun w hSw => ?_) hHeld ?_; rotate_left; (· (go_simp; try with_reducible rfl)); try simp only [Act.put, sA1, sA2, sA3]
  refine tv (v := ?_) 10 (some 25) rfl (by kernel_rfl) (fun _ _ _ h => h) rfl rfl (fun w hSw => ?_) hHeld ?_; rotate_left; (· (go_simp; try with_reducible rfl)); try simp only [Act.put, sA1, sA2, sA3]
  refine tv (v := ?_) 11 (some 26) rfl (by kernel_rfl) (fun _ _ _ h => h) rfl rfl (fun w hSw => ?_) hHeld ?_
  rotate_left
  · have cw := (HW.chg hSw (by simpa using hne)).cell 1
    (go_simp; try with_reducible rfl)
  try simp only [Act.put, sA1, sA2, sA3]
  refine tv (v := ?_) 12 (some 27) rfl (by kernel_rfl) (fun _ _ _ h => h) rfl rfl (fun w hSw => ?_) hHeld ?_; rotate_left; (· (go_simp; try with_reducible rfl)); try simp only [Act.put, sA1, sA2, sA3]
  refine tv (v := ?_) 13 (some 28) rfl (by kernel_rfl) (fun _ _ _ h => h) rfl rfl (fun w hSw => ?_) hHeld ?_; rotate_left; (· (go_simp; try with_reducible rfl)); try simp only [Act.put, sA1, sA2, sA3]
  refine tv (v := ?_) 14 (some 29) rfl (by kernel_rfl) (fun _ _ _ h => h) rfl rfl (fun w hSw => ?_) hHeld ?_; rotate_left; (· (go_simp; try with_reducible rfl)); try simp only [Act.put, sA1, sA2, sA3]
  refine tv (v := ?_) 15 (some 30) rfl (by kernel_rfl) (fun _ _ _ h => h) rfl rfl (fun w hSw => ?_) hHeld ?_
  rotate_left
  · have cw := (HW.chg hSw (by simpa using hne)).cell 2
    (go_simp; try with_reducible rfl)
  try simp only [Act.put, sA1, sA2, sA3]
  refine tv (v := ?_) 16 (some 31) rfl (by kernel_rfl) (fun _ _ _ h => h) rfl rfl (fun w hSw => ?_) hHeld ?_; rotate_left; (· (go_simp; try with_reducible rfl)); try simp only [Act.put, sA1, sA2, sA3]
  refine tv (v := ?_) 17 (some 32) rfl (by kernel_rfl) (fun _ _ _ h => h) rfl rfl (fun w hSw => ?_) hHeld ?_; rotate_left; (· (go_simp; try with_reducible rfl)); try simp only [Act.put, sA1, sA2, sA3]
  refine tv (v := ?_) 18 (some 33) rfl (by kernel_rfl) (fun _ _ _ h => h) rfl rfl (fun w hSw => ?_) hHeld ?_; rotate_left; (· (go_simp; try with_reducible rfl)); try simp only [Act.put, sA1, sA2, sA3]
  refine tv (v := ?_) 19 (some 34) rfl (by kernel_rfl) (fun _ _ _ h => h) rfl rfl (fun w hSw => ?_) hHeld ?_
  rotate_left
  · have cw := (HW.chg hSw (by simpa using hne)).cell 3
    (go_simp; try with_reducible rfl)
  try simp only [Act.put, sA1, sA2, sA3]
  refine tv (v := ?_) 20 (some 35) rfl (by kernel_rfl) (fun _ _ _ h => h) rfl rfl (fun w hSw => ?_) hHeld ?_; rotate_left; (· (go_simp; try with_reducible rfl)); try simp only [Act.put, sA1, sA2, sA3]
  refine tv (v := ?_) 21 (some 36) rfl (by kernel_rfl) (fun _ _ _ h => h) rfl rfl (fun w hSw => ?_) hHeld ?_; rotate_left; (· (go_simp; try with_reducible rfl)); try simp only [Act.put, sA1, sA2, sA3]
  refine tv (v := ?_) 22 (some 37) rfl (by kernel_rfl) (fun _ _ _ h => h) rfl rfl (fun w hSw => ?_) hHeld ?_; rotate_left; (· (go_simp; try with_reducible rfl)); try simp only [Act.put, sA1, sA2, sA3]
  refine tv (v := ?_) 24 (some 38) rfl (by kernel_rfl) (fun _ _ _ h => h) rfl rfl (fun w hSw => ?_) hHeld ?_; rotate_left; (· (go_simp; try with_reducible rfl)); try simp only [Act.put, sA1, sA2, sA3]
  refine tv (v := ?_) 27 (some 40) rfl (by kernel_rfl) (fun _ _ _ h => h) rfl rfl (fun w hSw => ?_) hHeld ?_; rotate_left; (· (go_simp; try with_reducible rfl)); try simp only [Act.put, sA1, sA2, sA3]
  refine tv (v := ?_) 30 (some 42) rfl (by kernel_rfl) (fun _ _ _ h => h) rfl rfl (fun w hSw => ?_) hHeld ?_; rotate_left; (· (go_simp; try with_reducible rfl)); try simp only [Act.put, sA1, sA2, sA3]
  refine wpAnyH_ready (rs := [23]) (by kernel_rfl) (by simp) ?_
  refine AllReadyH.cons (o := _) rfl (fun K hK => ?_) ?_
  ·
    rw [if_pos (by rfl)]
    go_simp
    refine hK.out _ _ (hHeld.setIn (by simp) _ _) (fun hHeld => ?_)
    clear hK K
    try simp only [Act.put, sA1, sA2, sA3]
    refine tv (v := ?_) 25 (some 39) rfl (by kernel_rfl) (fun _ _ _ h => h) rfl rfl (fun w hSw => ?_) hHeld ?_; rotate_left; (· (go_simp; try with_reducible rfl)); try simp only [Act.put, sA1, sA2, sA3]
    refine wpAnyH_ready (rs := [26]) (by kernel_rfl) (by simp) ?_
    refine AllReadyH.cons (o := _) rfl (fun K hK => ?_) ?_
    ·
      rw [if_pos (by rfl)]
      go_simp
      refine hK.out _ _ (hHeld.setIn (by simp) _ _) (fun hHeld => ?_)
      clear hK K
      try simp only [Act.put, sA1, sA2, sA3]
      refine tv (v := ?_) 28 (some 41) rfl (by kernel_rfl) (fun _ _ _ h => h) rfl rfl (fun w hSw => ?_) hHeld ?_; rotate_left; (· (go_simp; try with_reducible rfl)); try simp only [Act.put, sA1, sA2, sA3]
      refine wpAnyH_ready (rs := [29]) (by kernel_rfl) (by simp) ?_
      refine AllReadyH.cons (o := _) rfl (fun K hK => ?_) ?_
      ·
        rw [if_pos (by rfl)]
        go_simp
        refine hK.out _ _ (hHeld.setIn (by simp) _ _) (fun hHeld => ?_)
        clear hK K
        try simp only [Act.put, sA1, sA2, sA3]
        refine tv (v := ?_) 31 (some 43) rfl (by kernel_rfl) (fun _ _ _ h => h) rfl rfl (fun w hSw => ?_) hHeld ?_; rotate_left; (· (go_simp; try with_reducible rfl)); try simp only [Act.put, sA1, sA2, sA3]
        refine wpAnyH_ready (rs := [32]) (by kernel_rfl) (by simp) ?_
        refine AllReadyH.cons (o := _) rfl (fun K hK => ?_) ?_
        ·
          rw [if_pos (by rfl)]
          go_simp
          refine hK.out _ _ (hHeld.setIn (by simp) _ _) (fun hHeld => ?_)
          clear hK K
          try simp only [Act.put, sA1, sA2, sA3]
          refine wpAnyH_done (by kernel_rfl) ?_ _
          have HZ1 : Blk (((((w.setCell ⟨z, 0, none⟩ (.int .u64 w0)).setCell ⟨z, 1, none⟩ (.int .u64 w1)).setCell ⟨z, 2, none⟩ (.int .u64 w2)).setCell ⟨z, 3, none⟩ (.int .u64 (w3 % 1152921504606846976))).drew) z #[.int .u64 w0, .int .u64 w1, .int .u64 w2, .int .u64 (w3 % 1152921504606846976)] 162 := (Blk.to ((((hz.setCell _ _).setCell _ _).setCell _ _).setCell _ _) (by simp)).drew
          have HW1 : Blk (((((w.setCell ⟨z, 0, none⟩ (.int .u64 w0)).setCell ⟨z, 1, none⟩ (.int .u64 w1)).setCell ⟨z, 2, none⟩ (.int .u64 w2)).setCell ⟨z, 3, none⟩ (.int .u64 (w3 % 1152921504606846976))).drew) W #[.int .u64 w0, .int .u64 w1, .int .u64 w2, .int .u64 w3, .int .u64 w4, .int .u64 w5, .int .u64 w6, .int .u64 w7] 202 := HW.chg hHeld (by simpa using hne)
          have C1 : Chg w (((((w.setCell ⟨z, 0, none⟩ (.int .u64 w0)).setCell ⟨z, 1, none⟩ (.int .u64 w1)).setCell ⟨z, 2, none⟩ (.int .u64 w2)).setCell ⟨z, 3, none⟩ (.int .u64 (w3 % 1152921504606846976))).drew) [W, z] := ⟨hHeld.os, hHeld.tape, hHeld.output, hHeld.size, fun k hk hl => hHeld.block k hk (fun hx => hl (by simp at hx ⊢; exact Or.inr hx))⟩
          generalize ((((w.setCell ⟨z, 0, none⟩ (.int .u64 w0)).setCell ⟨z, 1, none⟩ (.int .u64 w1)).setCell ⟨z, 2, none⟩ (.int .u64 w2)).setCell ⟨z, 3, none⟩ (.int .u64 (w3 % 1152921504606846976))).drew = wa at *
          go_wp2_with fail
          refine wp_region_held_drew (S := fun w' => Chg wa w' []) (by kernel_rfl) ((Chg.refl wa _).drew) (fun hHeld => ?_)
          refine tv (v := ?_) 0 (some 44) rfl (by kernel_rfl) (fun _ _ _ h => h) rfl rfl (fun w hSw => ?_) hHeld ?_; rotate_left; (· (go_simp; try with_reducible rfl)); try simp only [Act.put, sA1, sA2, sA3]
          refine tv (v := ?_) 1 (some 45) rfl (by kernel_rfl) (fun _ _ _ h => h) rfl rfl (fun w hSw => ?_) hHeld ?_; rotate_left; (· (go_simp; try with_reducible rfl)); try simp only [Act.put, sA1, sA2, sA3]
          refine tv (v := ?_) 2 (some 46) rfl (by kernel_rfl) (fun _ _ _ h => h) rfl rfl (fun w hSw => ?_) hHeld ?_; rotate_left; (· (go_simp; try with_reducible rfl)); try simp only [Act.put, sA1, sA2, sA3]
          refine tv (v := ?_) 3 (some 47) rfl (by kernel_rfl) (fun _ _ _ h => h) rfl rfl (fun w hSw => ?_) hHeld ?_
          rotate_left
          · have cw := (HW1.chg hSw (by simp)).cell 3
            (go_simp; try with_reducible rfl)
          try simp only [Act.put, sA1, sA2, sA3]
          refine tv (v := ?_) 4 (some 48) rfl (by kernel_rfl) (fun _ _ _ h => h) rfl rfl (fun w hSw => ?_) hHeld ?_; rotate_left; (· (go_simp; try with_reducible rfl)); try simp only [Act.put, sA1, sA2, sA3]
          refine tv (v := ?_) 5 (some 49) rfl (by kernel_rfl) (fun _ _ _ h => h) rfl rfl (fun w hSw => ?_) hHeld ?_; rotate_left; (· (go_simp; try with_reducible rfl)); try simp only [Act.put, sA1, sA2, sA3]
          refine tv (v := ?_) 6 (some 50) rfl (by kernel_rfl) (fun _ _ _ h => h) rfl rfl (fun w hSw => ?_) hHeld ?_; rotate_left; (· (go_simp; try with_reducible rfl)); try simp only [Act.put, sA1, sA2, sA3]
          refine tv (v := ?_) 7 (some 51) rfl (by kernel_rfl) (fun _ _ _ h => h) rfl rfl (fun w hSw => ?_) hHeld ?_; rotate_left; (· (go_simp; try with_reducible rfl)); try simp only [Act.put, sA1, sA2, sA3]
          refine tv (v := ?_) 8 (some 52) rfl (by kernel_rfl) (fun _ _ _ h => h) rfl rfl (fun w hSw => ?_) hHeld ?_
          rotate_left
          · have cw := (HW1.chg hSw (by simp)).cell 4
            (go_simp; try with_reducible rfl)
          try simp only [Act.put, sA1, sA2, sA3]
          refine tv (v := ?_) 9 (some 53) rfl (by kernel_rfl) (fun _ _ _ h => h) rfl rfl (fun w hSw => ?_) hHeld ?_; rotate_left; (· (go_simp; try with_reducible rfl)); try simp only [Act.put, sA1, sA2, sA3]
          refine tv (v := ?_) 10 (some 54) rfl (by kernel_rfl) (fun _ _ _ h => h) rfl rfl (fun w hSw => ?_) hHeld ?_; rotate_left; (· (go_simp; try with_reducible rfl)); try simp only [Act.put, sA1, sA2, sA3]
          refine tv (v := ?_) 11 (some 55) rfl (by kernel_rfl) (fun _ _ _ h => h) rfl rfl (fun w hSw => ?_) hHeld ?_; rotate_left; (· (go_simp; try with_reducible rfl)); try simp only [Act.put, sA1, sA2, sA3]
          refine tv (v := ?_) 12 (some 56) rfl (by kernel_rfl) (fun _ _ _ h => h) rfl rfl (fun w hSw => ?_) hHeld ?_; rotate_left; (· (go_simp; try with_reducible rfl)); try simp only [Act.put, sA1, sA2, sA3]
          refine tv (v := ?_) 13 (some 57) rfl (by kernel_rfl) (fun _ _ _ h => h) rfl rfl (fun w hSw => ?_) hHeld ?_; rotate_left; (· (go_simp; try with_reducible rfl)); try simp only [Act.put, sA1, sA2, sA3]
          refine tv (v := ?_) 14 (some 58) rfl (by kernel_rfl) (fun _ _ _ h => h) rfl rfl (fun w hSw => ?_) hHeld ?_
          rotate_left
          · have cw := (HW1.chg hSw (by simp)).cell 4
            (go_simp; try with_reducible rfl)
          try simp only [Act.put, sA1, sA2, sA3]
          refine tv (v := ?_) 15 (some 59) rfl (by kernel_rfl) (fun _ _ _ h => h) rfl rfl (fun w hSw => ?_) hHeld ?_; rotate_left; (· (go_simp; try with_reducible rfl)); try simp only [Act.put, sA1, sA2, sA3]
          refine tv (v := ?_) 16 (some 60) rfl (by kernel_rfl) (fun _ _ _ h => h) rfl rfl (fun w hSw => ?_) hHeld ?_; rotate_left; (· (go_simp; try with_reducible rfl)); try simp only [Act.put, sA1, sA2, sA3]
          refine tv (v := ?_) 17 (some 61) rfl (by kernel_rfl) (fun _ _ _ h => h) rfl rfl (fun w hSw => ?_) hHeld ?_; rotate_left; (· (go_simp; try with_reducible rfl)); try simp only [Act.put, sA1, sA2, sA3]
          refine tv (v := ?_) 18 (some 62) rfl (by kernel_rfl) (fun _ _ _ h => h) rfl rfl (fun w hSw => ?_) hHeld ?_; rotate_left; (· (go_simp; try with_reducible rfl)); try simp only [Act.put, sA1, sA2, sA3]
          refine tv (v := ?_) 19 (some 63) rfl (by kernel_rfl) (fun _ _ _ h => h) rfl rfl (fun w hSw => ?_) hHeld ?_
          rotate_left
          · have cw := (HW1.chg hSw (by simp)).cell 5
            (go_simp; try with_reducible rfl)
          try simp only [Act.put, sA1, sA2, sA3]
          refine tv (v := ?_) 20 (some 64) rfl (by kernel_rfl) (fun _ _ _ h => h) rfl rfl (fun w hSw => ?_) hHeld ?_; rotate_left; (· (go_simp; try with_reducible rfl)); try simp only [Act.put, sA1, sA2, sA3]
          refine tv (v := ?_) 21 (some 65) rfl (by kernel_rfl) (fun _ _ _ h => h) rfl rfl (fun w hSw => ?_) hHeld ?_; rotate_left; (· (go_simp; try with_reducible rfl)); try simp only [Act.put, sA1, sA2, sA3]
          refine tv (v := ?_) 22 (some 66) rfl (by kernel_rfl) (fun _ _ _ h => h) rfl rfl (fun w hSw => ?_) hHeld ?_; rotate_left; (· (go_simp; try with_reducible rfl)); try simp only [Act.put, sA1, sA2, sA3]
          refine tv (v := ?_) 23 (some 67) rfl (by kernel_rfl) (fun _ _ _ h => h) rfl rfl (fun w hSw => ?_) hHeld ?_; rotate_left; (· (go_simp; try with_reducible rfl)); try simp only [Act.put, sA1, sA2, sA3]
          refine tv (v := ?_) 24 (some 68) rfl (by kernel_rfl) (fun _ _ _ h => h) rfl rfl (fun w hSw => ?_) hHeld ?_; rotate_left; (· (go_simp; try with_reducible rfl)); try simp only [Act.put, sA1, sA2, sA3]
          refine tv (v := ?_) 25 (some 69) rfl (by kernel_rfl) (fun _ _ _ h => h) rfl rfl (fun w hSw => ?_) hHeld ?_
          rotate_left
          · have cw := (HW1.chg hSw (by simp)).cell 5
            (go_simp; try with_reducible rfl)
          try simp only [Act.put, sA1, sA2, sA3]
          refine tv (v := ?_) 26 (some 70) rfl (by kernel_rfl) (fun _ _ _ h => h) rfl rfl (fun w hSw => ?_) hHeld ?_; rotate_left; (· (go_simp; try with_reducible rfl)); try simp only [Act.put, sA1, sA2, sA3]
          refine tv (v := ?_) 27 (some 71) rfl (by kernel_rfl) (fun _ _ _ h => h) rfl rfl (fun w hSw => ?_) hHeld ?_; rotate_left; (· (go_simp; try with_reducible rfl)); try simp only [Act.put, sA1, sA2, sA3]
          refine tv (v := ?_) 28 (some 72) rfl (by kernel_rfl) (fun _ _ _ h => h) rfl rfl (fun w hSw => ?_) hHeld ?_; rotate_left; (· (go_simp; try with_reducible rfl)); try simp only [Act.put, sA1, sA2, sA3]
          refine tv (v := ?_) 29 (some 73) rfl (by kernel_rfl) (fun _ _ _ h => h) rfl rfl (fun w hSw => ?_) hHeld ?_; rotate_left; (· (go_simp; try with_reducible rfl)); try simp only [Act.put, sA1, sA2, sA3]
          refine tv (v := ?_) 30 (some 74) rfl (by kernel_rfl) (fun _ _ _ h => h) rfl rfl (fun w hSw => ?_) hHeld ?_
          rotate_left
          · have cw := (HW1.chg hSw (by simp)).cell 6
            (go_simp; try with_reducible rfl)
          try simp only [Act.put, sA1, sA2, sA3]
          refine tv (v := ?_) 31 (some 75) rfl (by kernel_rfl) (fun _ _ _ h => h) rfl rfl (fun w hSw => ?_) hHeld ?_; rotate_left; (· (go_simp; try with_reducible rfl)); try simp only [Act.put, sA1, sA2, sA3]
          refine tv (v := ?_) 32 (some 76) rfl (by kernel_rfl) (fun _ _ _ h => h) rfl rfl (fun w hSw => ?_) hHeld ?_; rotate_left; (· (go_simp; try with_reducible rfl)); try simp only [Act.put, sA1, sA2, sA3]
          refine tv (v := ?_) 33 (some 77) rfl (by kernel_rfl) (fun _ _ _ h => h) rfl rfl (fun w hSw => ?_) hHeld ?_; rotate_left; (· (go_simp; try with_reducible rfl)); try simp only [Act.put, sA1, sA2, sA3]
          refine tv (v := ?_) 34 (some 78) rfl (by kernel_rfl) (fun _ _ _ h => h) rfl rfl (fun w hSw => ?_) hHeld ?_; rotate_left; (· (go_simp; try with_reducible rfl)); try simp only [Act.put, sA1, sA2, sA3]
          refine tv (v := ?_) 35 (some 79) rfl (by kernel_rfl) (fun _ _ _ h => h) rfl rfl (fun w hSw => ?_) hHeld ?_; rotate_left; (· (go_simp; try with_reducible rfl)); try simp only [Act.put, sA1, sA2, sA3]
          refine tv (v := ?_) 36 (some 80) rfl (by kernel_rfl) (fun _ _ _ h => h) rfl rfl (fun w hSw => ?_) hHeld ?_
          rotate_left
          · have cw := (HW1.chg hSw (by simp)).cell 6
            (go_simp; try with_reducible rfl)
          try simp only [Act.put, sA1, sA2, sA3]
          refine tv (v := ?_) 37 (some 81) rfl (by kernel_rfl) (fun _ _ _ h => h) rfl rfl (fun w hSw => ?_) hHeld ?_; rotate_left; (· (go_simp; try with_reducible rfl)); try simp only [Act.put, sA1, sA2, sA3]
          refine tv (v := ?_) 38 (some 82) rfl (by kernel_rfl) (fun _ _ _ h => h) rfl rfl (fun w hSw => ?_) hHeld ?_; rotate_left; (· (go_simp; try with_reducible rfl)); try simp only [Act.put, sA1, sA2, sA3]
          refine tv (v := ?_) 39 (some 83) rfl (by kernel_rfl) (fun _ _ _ h => h) rfl rfl (fun w hSw => ?_) hHeld ?_; rotate_left; (· (go_simp; try with_reducible rfl)); try simp only [Act.put, sA1, sA2, sA3]
          refine tv (v := ?_) 40 (some 84) rfl (by kernel_rfl) (fun _ _ _ h => h) rfl rfl (fun w hSw => ?_) hHeld ?_; rotate_left; (· (go_simp; try with_reducible rfl)); try simp only [Act.put, sA1, sA2, sA3]
          refine tv (v := ?_) 41 (some 85) rfl (by kernel_rfl) (fun _ _ _ h => h) rfl rfl (fun w hSw => ?_) hHeld ?_
          rotate_left
          · have cw := (HW1.chg hSw (by simp)).cell 7
            (go_simp; try with_reducible rfl)
          try simp only [Act.put, sA1, sA2, sA3]
          refine tv (v := ?_) 42 (some 86) rfl (by kernel_rfl) (fun _ _ _ h => h) rfl rfl (fun w hSw => ?_) hHeld ?_; rotate_left; (· (go_simp; try with_reducible rfl)); try simp only [Act.put, sA1, sA2, sA3]
          refine tv (v := ?_) 43 (some 87) rfl (by kernel_rfl) (fun _ _ _ h => h) rfl rfl (fun w hSw => ?_) hHeld ?_; rotate_left; (· (go_simp; try with_reducible rfl)); try simp only [Act.put, sA1, sA2, sA3]
          refine tv (v := ?_) 44 (some 4) rfl (by kernel_rfl) (fun _ _ _ h => h) rfl rfl (fun w hSw => ?_) hHeld ?_; rotate_left; (· (go_simp; try with_reducible rfl)); try simp only [Act.put, sA1, sA2, sA3]
          refine tv (v := ?_) 45 (some 5) rfl (by kernel_rfl) (fun _ _ _ h => h) rfl rfl (fun w hSw => ?_) hHeld ?_; rotate_left; (· (go_simp; try with_reducible rfl)); try simp only [Act.put, sA1, sA2, sA3]
          refine tv (v := ?_) 46 (some 6) rfl (by kernel_rfl) (fun _ _ _ h => h) rfl rfl (fun w hSw => ?_) hHeld ?_; rotate_left; (· (go_simp; try with_reducible rfl)); try simp only [Act.put, sA1, sA2, sA3]
          refine tv (v := ?_) 47 (some 7) rfl (by kernel_rfl) (fun _ _ _ h => h) rfl rfl (fun w hSw => ?_) hHeld ?_; rotate_left; (· (go_simp; try with_reducible rfl)); try simp only [Act.put, sA1, sA2, sA3]
          refine wpAnyH_done (by kernel_rfl) ?_ _
          replace HW1 := HW1.drew
          replace HZ1 := HZ1.drew
          replace C1 := C1.drew
          generalize wa.drew = wb at *
          clear t0 o0 y0 f0 t1 o1 y1 f1 t2 o2 y2 f2 t3 o3 y3 f3 mm k0 g0 k1 g1 k2 g2 k3 g3 k4 g4 k5 g5 k6 g6 k7 g7 HW hz
          go_wp2_with fail
          refine (S0 _).mono ?_
          rintro e wb ⟨rfl, rfl⟩
          clear S0
          go_wp2_with fail
          refine (S1 _).mono ?_
          rintro e wb ⟨rfl, rfl⟩
          clear S1
          go_wp2_with fail
          refine (S2 _).mono ?_
          rintro e wb ⟨rfl, rfl⟩
          clear S2
          go_wp2_with fail
          refine (S3 _).mono ?_
          rintro e wb ⟨rfl, rfl⟩
          clear S3
          go_wp2_with fail
          refine (S4 _).mono ?_
          rintro e wb ⟨rfl, rfl⟩
          clear S4
          go_wp2_with fail
          refine (S5 _).mono ?_
          rintro e wb ⟨rfl, rfl⟩
          clear S5
          go_wp2_with fail
          refine (S6 _).mono ?_
          rintro e wb ⟨rfl, rfl⟩
          clear S6
          go_wp2_with fail
          refine (S7 _).mono ?_
          rintro e wb ⟨rfl, rfl⟩
          clear S7
          go_wp2_with fail
          have CWB := Chg.refl wb [W]
          refine wp_region_held_drew (S := fun w' => Chg wb w' [W]) (by kernel_rfl) ((Chg.refl wb _).drew) (fun hHeld => ?_)
          replace HW1 := HW1.drew
          generalize World.drew wb = u0 at *
          refine tv (v := ?_) 0 (some 138) rfl (by kernel_rfl) (fun _ _ _ h => h) rfl rfl (fun w hSw => ?_) hHeld ?_; rotate_left; (· (go_simp; try with_reducible rfl)); try simp only [Act.put, sA1, sA2, sA3]
          refine tv (v := ?_) 1 (some 139) rfl (by kernel_rfl) (fun _ _ _ h => h) rfl rfl (fun w hSw => ?_) hHeld ?_; rotate_left; (· (go_simp; try with_reducible rfl)); try simp only [Act.put, sA1, sA2, sA3]
          refine tv (v := ?_) 2 (some 140) rfl (by kernel_rfl) (fun _ _ _ h => h) rfl rfl (fun w hSw => ?_) hHeld ?_; rotate_left; (· (go_simp; try with_reducible rfl)); try simp only [Act.put, sA1, sA2, sA3]
          refine tv (v := ?_) 3 (some 141) rfl (by kernel_rfl) (fun _ _ _ h => h) rfl rfl (fun w hSw => ?_) hHeld ?_; rotate_left; (· (go_simp; try with_reducible rfl)); try simp only [Act.put, sA1, sA2, sA3]
          refine tv (v := ?_) 4 (some 142) rfl (by kernel_rfl) (fun _ _ _ h => h) rfl rfl (fun w hSw => ?_) hHeld ?_; rotate_left; (· (go_simp; try with_reducible rfl)); try simp only [Act.put, sA1, sA2, sA3]
          refine tv (v := ?_) 5 (some 143) rfl (by kernel_rfl) (fun _ _ _ h => h) rfl rfl (fun w hSw => ?_) hHeld ?_; rotate_left; (· (go_simp; try with_reducible rfl)); try simp only [Act.put, sA1, sA2, sA3]
          refine tv (v := ?_) 6 (some 144) rfl (by kernel_rfl) (fun _ _ _ h => h) rfl rfl (fun w hSw => ?_) hHeld ?_; rotate_left; (· (go_simp; try with_reducible rfl)); try simp only [Act.put, sA1, sA2, sA3]
          refine tv (v := ?_) 7 (some 145) rfl (by kernel_rfl) (fun _ _ _ h => h) rfl rfl (fun w hSw => ?_) hHeld ?_; rotate_left; (· (go_simp; try with_reducible rfl)); try simp only [Act.put, sA1, sA2, sA3]
          refine tv (v := ?_) 8 (some 146) rfl (by kernel_rfl) (fun _ _ _ h => h) rfl rfl (fun w hSw => ?_) hHeld ?_; rotate_left; (· (go_simp; try with_reducible rfl)); try simp only [Act.put, sA1, sA2, sA3]
          refine tv (v := ?_) 9 (some 147) rfl (by kernel_rfl) (fun _ _ _ h => h) rfl rfl (fun w hSw => ?_) hHeld ?_; rotate_left; (· (go_simp; try with_reducible rfl)); try simp only [Act.put, sA1, sA2, sA3]
          refine tv (v := ?_) 10 (some 148) rfl (by kernel_rfl) (fun _ _ _ h => h) rfl rfl (fun w hSw => ?_) hHeld ?_; rotate_left; (· (go_simp; try with_reducible rfl)); try simp only [Act.put, sA1, sA2, sA3]
          refine tv (v := ?_) 11 (some 149) rfl (by kernel_rfl) (fun _ _ _ h => h) rfl rfl (fun w hSw => ?_) hHeld ?_; rotate_left; (· (go_simp; try with_reducible rfl)); try simp only [Act.put, sA1, sA2, sA3]
          refine tv (v := ?_) 12 (some 150) rfl (by kernel_rfl) (fun _ _ _ h => h) rfl rfl (fun w hSw => ?_) hHeld ?_; rotate_left; (· (go_simp; try with_reducible rfl)); try simp only [Act.put, sA1, sA2, sA3]
          refine tv (v := ?_) 13 (some 151) rfl (by kernel_rfl) (fun _ _ _ h => h) rfl rfl (fun w hSw => ?_) hHeld ?_; rotate_left; (· (go_simp; try with_reducible rfl)); try simp only [Act.put, sA1, sA2, sA3]
          refine tv (v := ?_) 14 (some 152) rfl (by kernel_rfl) (fun _ _ _ h => h) rfl rfl (fun w hSw => ?_) hHeld ?_; rotate_left; (· (go_simp; try with_reducible rfl)); try simp only [Act.put, sA1, sA2, sA3]
          refine tv (v := ?_) 15 (some 153) rfl (by kernel_rfl) (fun _ _ _ h => h) rfl rfl (fun w hSw => ?_) hHeld ?_; rotate_left; (· (go_simp; try with_reducible rfl)); try simp only [Act.put, sA1, sA2, sA3]
          refine tv (v := ?_) 17 (some 154) rfl (by kernel_rfl) (fun _ _ _ h => h) rfl rfl (fun w hSw => ?_) hHeld ?_; rotate_left; (· (go_simp; try with_reducible rfl)); try simp only [Act.put, sA1, sA2, sA3]
          refine tv (v := ?_) 20 (some 156) rfl (by kernel_rfl) (fun _ _ _ h => h) rfl rfl (fun w hSw => ?_) hHeld ?_; rotate_left; (· (go_simp; try with_reducible rfl)); try simp only [Act.put, sA1, sA2, sA3]
          refine tv (v := ?_) 23 (some 158) rfl (by kernel_rfl) (fun _ _ _ h => h) rfl rfl (fun w hSw => ?_) hHeld ?_; rotate_left; (· (go_simp; try with_reducible rfl)); try simp only [Act.put, sA1, sA2, sA3]
          refine tv (v := ?_) 26 (some 160) rfl (by kernel_rfl) (fun _ _ _ h => h) rfl rfl (fun w hSw => ?_) hHeld ?_; rotate_left; (· (go_simp; try with_reducible rfl)); try simp only [Act.put, sA1, sA2, sA3]
          refine tv (v := ?_) 29 (some 162) rfl (by kernel_rfl) (fun _ _ _ h => h) rfl rfl (fun w hSw => ?_) hHeld ?_; rotate_left; (· (go_simp; try with_reducible rfl)); try simp only [Act.put, sA1, sA2, sA3]
          refine tv (v := ?_) 32 (some 164) rfl (by kernel_rfl) (fun _ _ _ h => h) rfl rfl (fun w hSw => ?_) hHeld ?_; rotate_left; (· (go_simp; try with_reducible rfl)); try simp only [Act.put, sA1, sA2, sA3]
          refine tv (v := ?_) 35 (some 166) rfl (by kernel_rfl) (fun _ _ _ h => h) rfl rfl (fun w hSw => ?_) hHeld ?_; rotate_left; (· (go_simp; try with_reducible rfl)); try simp only [Act.put, sA1, sA2, sA3]
          refine wpAnyH_ready (rs := [16]) (by kernel_rfl) (by simp) ?_
          refine AllReadyH.cons (o := _) rfl (fun K hK => ?_) ?_
          ·
            have ck := HW1.cell 0
            have fk := HW1.frozen 0
            simp at ck
            rw [if_pos (by rfl)]
            go_simp
            refine hK.out _ _ (hHeld.setIn (by simp) _ _) (fun hHeld => ?_)
            clear hK K
            try simp only [Act.put, sA1, sA2, sA3]
            replace HW1 := HW1.setCell 0 (.int .u64 (a0))
            simp only [sA1, sA2, sA3] at HW1
            clear ck fk
            generalize World.setCell u0 ⟨W, 0, none⟩ (.int .u64 (a0)) = u1 at *
            refine tv (v := ?_) 18 (some 155) rfl (by kernel_rfl) (fun _ _ _ h => h) rfl rfl (fun w hSw => ?_) hHeld ?_; rotate_left; (· (go_simp; try with_reducible rfl)); try simp only [Act.put, sA1, sA2, sA3]
            refine wpAnyH_ready (rs := [19]) (by kernel_rfl) (by simp) ?_
            refine AllReadyH.cons (o := _) rfl (fun K hK => ?_) ?_
            ·
              have ck := HW1.cell 1
              have fk := HW1.frozen 1
              simp at ck
              rw [if_pos (by rfl)]
              go_simp
              refine hK.out _ _ (hHeld.setIn (by simp) _ _) (fun hHeld => ?_)
              clear hK K
              try simp only [Act.put, sA1, sA2, sA3]
              replace HW1 := HW1.setCell 1 (.int .u64 (b1))
              simp only [sA1, sA2, sA3] at HW1
              clear ck fk
              generalize World.setCell u1 ⟨W, 1, none⟩ (.int .u64 (b1)) = u2 at *
              refine tv (v := ?_) 21 (some 157) rfl (by kernel_rfl) (fun _ _ _ h => h) rfl rfl (fun w hSw => ?_) hHeld ?_; rotate_left; (· (go_simp; try with_reducible rfl)); try simp only [Act.put, sA1, sA2, sA3]
              refine wpAnyH_ready (rs := [22]) (by kernel_rfl) (by simp) ?_
              refine AllReadyH.cons (o := _) rfl (fun K hK => ?_) ?_
              ·
                have ck := HW1.cell 2
                have fk := HW1.frozen 2
                simp at ck
                rw [if_pos (by rfl)]
                go_simp
                refine hK.out _ _ (hHeld.setIn (by simp) _ _) (fun hHeld => ?_)
                clear hK K
                try simp only [Act.put, sA1, sA2, sA3]
                replace HW1 := HW1.setCell 2 (.int .u64 (b2))
                simp only [sA1, sA2, sA3] at HW1
                clear ck fk
                generalize World.setCell u2 ⟨W, 2, none⟩ (.int .u64 (b2)) = u3 at *
                refine tv (v := ?_) 24 (some 159) rfl (by kernel_rfl) (fun _ _ _ h => h) rfl rfl (fun w hSw => ?_) hHeld ?_; rotate_left; (· (go_simp; try with_reducible rfl)); try simp only [Act.put, sA1, sA2, sA3]
                refine wpAnyH_ready (rs := [25]) (by kernel_rfl) (by simp) ?_
                refine AllReadyH.cons (o := _) rfl (fun K hK => ?_) ?_
                ·
                  have ck := HW1.cell 3
                  have fk := HW1.frozen 3
                  simp at ck
                  rw [if_pos (by rfl)]
                  go_simp
                  refine hK.out _ _ (hHeld.setIn (by simp) _ _) (fun hHeld => ?_)
                  clear hK K
                  try simp only [Act.put, sA1, sA2, sA3]
                  replace HW1 := HW1.setCell 3 (.int .u64 (b3))
                  simp only [sA1, sA2, sA3] at HW1
                  clear ck fk
                  generalize World.setCell u3 ⟨W, 3, none⟩ (.int .u64 (b3)) = u4 at *
                  refine tv (v := ?_) 27 (some 161) rfl (by kernel_rfl) (fun _ _ _ h => h) rfl rfl (fun w hSw => ?_) hHeld ?_; rotate_left; (· (go_simp; try with_reducible rfl)); try simp only [Act.put, sA1, sA2, sA3]
                  refine wpAnyH_ready (rs := [28]) (by kernel_rfl) (by simp) ?_
                  refine AllReadyH.cons (o := _) rfl (fun K hK => ?_) ?_
                  ·
                    have ck := HW1.cell 4
                    have fk := HW1.frozen 4
                    simp at ck
                    rw [if_pos (by rfl)]
                    go_simp
                    refine hK.out _ _ (hHeld.setIn (by simp) _ _) (fun hHeld => ?_)
                    clear hK K
                    try simp only [Act.put, sA1, sA2, sA3]
                    replace HW1 := HW1.setCell 4 (.int .u64 (b4))
                    simp only [sA1, sA2, sA3] at HW1
                    clear ck fk
                    generalize World.setCell u4 ⟨W, 4, none⟩ (.int .u64 (b4)) = u5 at *
                    refine tv (v := ?_) 30 (some 163) rfl (by kernel_rfl) (fun _ _ _ h => h) rfl rfl (fun w hSw => ?_) hHeld ?_; rotate_left; (· (go_simp; try with_reducible rfl)); try simp only [Act.put, sA1, sA2, sA3]
                    refine wpAnyH_ready (rs := [31]) (by kernel_rfl) (by simp) ?_
                    refine AllReadyH.cons (o := _) rfl (fun K hK => ?_) ?_
                    ·
                      have ck := HW1.cell 5
                      have fk := HW1.frozen 5
                      simp at ck
                      rw [if_pos (by rfl)]
                      go_simp
                      refine hK.out _ _ (hHeld.setIn (by simp) _ _) (fun hHeld => ?_)
                      clear hK K
                      try simp only [Act.put, sA1, sA2, sA3]
                      replace HW1 := HW1.setCell 5 (.int .u64 (b5))
                      simp only [sA1, sA2, sA3] at HW1
                      clear ck fk
                      generalize World.setCell u5 ⟨W, 5, none⟩ (.int .u64 (b5)) = u6 at *
                      refine tv (v := ?_) 33 (some 165) rfl (by kernel_rfl) (fun _ _ _ h => h) rfl rfl (fun w hSw => ?_) hHeld ?_; rotate_left; (· (go_simp; try with_reducible rfl)); try simp only [Act.put, sA1, sA2, sA3]
                      refine wpAnyH_ready (rs := [34]) (by kernel_rfl) (by simp) ?_
                      refine AllReadyH.cons (o := _) rfl (fun K hK => ?_) ?_
                      ·
                        have ck := HW1.cell 6
                        have fk := HW1.frozen 6
                        simp at ck
                        rw [if_pos (by rfl)]
                        go_simp
                        refine hK.out _ _ (hHeld.setIn (by simp) _ _) (fun hHeld => ?_)
                        clear hK K
                        try simp only [Act.put, sA1, sA2, sA3]
                        replace HW1 := HW1.setCell 6 (.int .u64 (0))
                        simp only [sA1, sA2, sA3] at HW1
                        clear ck fk
                        generalize World.setCell u6 ⟨W, 6, none⟩ (.int .u64 (0)) = u7 at *
                        refine tv (v := ?_) 36 (some 167) rfl (by kernel_rfl) (fun _ _ _ h => h) rfl rfl (fun w hSw => ?_) hHeld ?_; rotate_left; (· (go_simp; try with_reducible rfl)); try simp only [Act.put, sA1, sA2, sA3]
                        refine wpAnyH_ready (rs := [37]) (by kernel_rfl) (by simp) ?_
                        refine AllReadyH.cons (o := _) rfl (fun K hK => ?_) ?_
                        ·
                          have ck := HW1.cell 7
                          have fk := HW1.frozen 7
                          simp at ck
                          rw [if_pos (by rfl)]
                          go_simp
                          refine hK.out _ _ (hHeld.setIn (by simp) _ _) (fun hHeld => ?_)
                          clear hK K
                          try simp only [Act.put, sA1, sA2, sA3]
                          replace HW1 := HW1.setCell 7 (.int .u64 (0))
                          simp only [sA1, sA2, sA3] at HW1
                          clear ck fk
                          generalize World.setCell u7 ⟨W, 7, none⟩ (.int .u64 (0)) = u8 at *
                          refine wpAnyH_done (by kernel_rfl) ?_ _
                          go_wp2_with fail
                          go_end0
                          refine ⟨rfl, HZ1.chg hHeld (by simpa using hne'), HW1, C1.trans hHeld (by simp)⟩
                        exact AllReadyH.nil
                      exact AllReadyH.nil
                    exact AllReadyH.nil
                  exact AllReadyH.nil
                exact AllReadyH.nil
              exact AllReadyH.nil
            exact AllReadyH.nil
          exact AllReadyH.nil
        exact AllReadyH.nil
      exact AllReadyH.nil
    exact AllReadyH.nil
  exact AllReadyH.nil
end Go.Proofs.YtoafcaieifjoiaaGreat
