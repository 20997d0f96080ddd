/- (*wide).addProduct. -/
import Derived.Test.YtoafcaieifjoiaaGreatFold
set_option linter.unusedVariables false
set_option linter.unusedSimpArgs false
set_option linter.unnecessarySimpa false
namespace Go.Proofs.YtoafcaieifjoiaaGreat
open Go.RowKit N

theorem prod_exp (x0 x1 x2 x3 y0 y1 y2 y3 : Int) : (x0 + x1 * 18446744073709551616 + x2 * 340282366920938463463374607431768211456 + x3 * 6277101735386680763835789423207666416102355444464034512896) * (y0 + y1 * 18446744073709551616 + y2 * 340282366920938463463374607431768211456 + y3 * 6277101735386680763835789423207666416102355444464034512896) = x0 * y0 + x0 * y1 * 18446744073709551616 + x0 * y2 * 340282366920938463463374607431768211456 + x0 * y3 * 6277101735386680763835789423207666416102355444464034512896 + x1 * y0 * 18446744073709551616 + x1 * y1 * 340282366920938463463374607431768211456 + x1 * y2 * 6277101735386680763835789423207666416102355444464034512896 + x1 * y3 * 115792089237316195423570985008687907853269984665640564039457584007913129639936 + x2 * y0 * 340282366920938463463374607431768211456 + x2 * y1 * 6277101735386680763835789423207666416102355444464034512896 + x2 * y2 * 115792089237316195423570985008687907853269984665640564039457584007913129639936 + x2 * y3 * 2135987035920910082395021706169552114602704522356652769947041607822219725780640550022962086936576 + x3 * y0 * 6277101735386680763835789423207666416102355444464034512896 + x3 * y1 * 115792089237316195423570985008687907853269984665640564039457584007913129639936 + x3 * y2 * 2135987035920910082395021706169552114602704522356652769947041607822219725780640550022962086936576 + x3 * y3 * 39402006196394479212279040100143613805079739270465446667948293404245721771497210611414266254884915640806627990306816 := by grind
theorem prod_lin (a p00 p01 p02 p03 p10 p11 p12 p13 p20 p21 p22 p23 p30 p31 p32 p33 w0 w1 w2 w3 r0 c0 r1 c1 r2 c2 r3 r4 s1 d0 s2 d1 s3 d2 s4 s5 t2 e0 t3 e1 t4 e2 t5 t6 u3 f0 u4 f1 u5 f2 u6 u7 : Int) (ea : w0 + w1 * 18446744073709551616 + w2 * 340282366920938463463374607431768211456 + w3 * 6277101735386680763835789423207666416102355444464034512896 = a) (h0 : p00 + w0 + 0 = r0 + 18446744073709551616 * c0) (h1 : p01 + w1 + c0 = r1 + 18446744073709551616 * c1) (h2 : p02 + w2 + c1 = r2 + 18446744073709551616 * c2) (h3 : p03 + w3 + c2 = r3 + 18446744073709551616 * r4) (h4 : p10 + r1 + 0 = s1 + 18446744073709551616 * d0) (h5 : p11 + r2 + d0 = s2 + 18446744073709551616 * d1) (h6 : p12 + r3 + d1 = s3 + 18446744073709551616 * d2) (h7 : p13 + r4 + d2 = s4 + 18446744073709551616 * s5) (h8 : p20 + s2 + 0 = t2 + 18446744073709551616 * e0) (h9 : p21 + s3 + e0 = t3 + 18446744073709551616 * e1) (h10 : p22 + s4 + e1 = t4 + 18446744073709551616 * e2) (h11 : p23 + s5 + e2 = t5 + 18446744073709551616 * t6) (h12 : p30 + t3 + 0 = u3 + 18446744073709551616 * f0) (h13 : p31 + t4 + f0 = u4 + 18446744073709551616 * f1) (h14 : p32 + t5 + f1 = u5 + 18446744073709551616 * f2) (h15 : p33 + t6 + f2 = u6 + 18446744073709551616 * u7) : r0 + s1 * 18446744073709551616 + t2 * 340282366920938463463374607431768211456 + u3 * 6277101735386680763835789423207666416102355444464034512896 + u4 * 115792089237316195423570985008687907853269984665640564039457584007913129639936 + u5 * 2135987035920910082395021706169552114602704522356652769947041607822219725780640550022962086936576 + u6 * 39402006196394479212279040100143613805079739270465446667948293404245721771497210611414266254884915640806627990306816 + u7 * 726838724295606890549323807888004534353641360687318060281490199180639288113397923326191050713763565560762521606266177933534601628614656 = a + (p00 + p01 * 18446744073709551616 + p02 * 340282366920938463463374607431768211456 + p03 * 6277101735386680763835789423207666416102355444464034512896 + p10 * 18446744073709551616 + p11 * 340282366920938463463374607431768211456 + p12 * 6277101735386680763835789423207666416102355444464034512896 + p13 * 115792089237316195423570985008687907853269984665640564039457584007913129639936 + p20 * 340282366920938463463374607431768211456 + p21 * 6277101735386680763835789423207666416102355444464034512896 + p22 * 115792089237316195423570985008687907853269984665640564039457584007913129639936 + p23 * 2135987035920910082395021706169552114602704522356652769947041607822219725780640550022962086936576 + p30 * 6277101735386680763835789423207666416102355444464034512896 + p31 * 115792089237316195423570985008687907853269984665640564039457584007913129639936 + p32 * 2135987035920910082395021706169552114602704522356652769947041607822219725780640550022962086936576 + p33 * 39402006196394479212279040100143613805079739270465446667948293404245721771497210611414266254884915640806627990306816) := by
  omega
set_option maxHeartbeats 4000000 in
set_option maxRecDepth 100000 in
theorem addProduct_any (W x y : Nat) (a n m : Int) (ha0 : 0 ≤ a) (ha1 : a < 115792089237316195423570985008687907853269984665640564039457584007913129639936) (rn : RL n) (rm : RL m) (w : World) (hW : WideAt w W a) (hx : NumAt w x n) (hy : NumAt w y m) :
    Calls Tryz.prog 124 #[.pointer (some ⟨W, 0, none⟩), .pointer (some ⟨x, 0, none⟩), .pointer (some ⟨y, 0, none⟩)] w fun e w' => e = .returned (.tuple #[]) ∧ WideAt w' W (a + n * m) ∧ Chg w w' [W] := by
  have kx0 := hx.c0; have kx1 := hx.c1; have kx2 := hx.c2; have kx3 := hx.c3
  have ky0 := hy.c0; have ky1 := hy.c1; have ky2 := hy.c2; have ky3 := hy.c3
  have kw0 := hW.c0; have kw1 := hW.c1; have kw2 := hW.c2; have kw3 := hW.c3
  have ex := wrd_sum n rn.1 (by unfold RL at rn; omega)
  have ey := wrd_sum m rm.1 (by unfold RL at rm; omega)
  have ea := wrd_sum a ha0 ha1
  have HW : Blk w W #[.int .u64 (wrd a 0), .int .u64 (wrd a 1), .int .u64 (wrd a 2), .int .u64 (wrd a 3), .int .u64 (wrd a 4), .int .u64 (wrd a 5), .int .u64 (wrd a 6), .int .u64 (wrd a 7)] 202 := hW
  have HX0 : Blk w x #[.int .u64 (wrd n 0), .int .u64 (wrd n 1), .int .u64 (wrd n 2), .int .u64 (wrd n 3)] 162 := hx
  clear hx hy hW
  have qx0 := wrd_wo n 0
  have qx1 := wrd_wo n 1
  have qx2 := wrd_wo n 2
  have qx3 := wrd_wo n 3
  have qy0 := wrd_wo m 0
  have qy1 := wrd_wo m 1
  have qy2 := wrd_wo m 2
  have qy3 := wrd_wo m 3
  have qw0 := wrd_wo a 0
  have qw1 := wrd_wo a 1
  have qw2 := wrd_wo a 2
  have qw3 := wrd_wo a 3
  generalize wrd n 0 = x0 at *
  generalize wrd n 1 = x1 at *
  generalize wrd n 2 = x2 at *
  generalize wrd n 3 = x3 at *
  generalize wrd m 0 = y0 at *
  generalize wrd m 1 = y1 at *
  generalize wrd m 2 = y2 at *
  generalize wrd m 3 = y3 at *
  generalize wrd a 0 = w0 at *
  generalize wrd a 1 = w1 at *
  generalize wrd a 2 = w2 at *
  generalize wrd a 3 = w3 at *
  obtain ⟨r0, c0, h0, Wr0, Wc0⟩ := stepx x0 y0 w0 0 qx0 qy0 qw0 wo0
  have S0 := step_any x0 y0 w0 0 r0 c0 qx0 qy0 qw0 wo0 h0 Wr0 Wc0
  obtain ⟨r1, c1, h1, Wr1, Wc1⟩ := stepx x0 y1 w1 c0 qx0 qy1 qw1 Wc0
  have S1 := step_any x0 y1 w1 c0 r1 c1 qx0 qy1 qw1 Wc0 h1 Wr1 Wc1
  obtain ⟨r2, c2, h2, Wr2, Wc2⟩ := stepx x0 y2 w2 c1 qx0 qy2 qw2 Wc1
  have S2 := step_any x0 y2 w2 c1 r2 c2 qx0 qy2 qw2 Wc1 h2 Wr2 Wc2
  obtain ⟨r3, r4, h3, Wr3, Wr4⟩ := stepx x0 y3 w3 c2 qx0 qy3 qw3 Wc2
  have S3 := step_any x0 y3 w3 c2 r3 r4 qx0 qy3 qw3 Wc2 h3 Wr3 Wr4
  obtain ⟨s1, d0, h4, Ws1, Wd0⟩ := stepx x1 y0 r1 0 qx1 qy0 Wr1 wo0
  have S4 := step_any x1 y0 r1 0 s1 d0 qx1 qy0 Wr1 wo0 h4 Ws1 Wd0
  obtain ⟨s2, d1, h5, Ws2, Wd1⟩ := stepx x1 y1 r2 d0 qx1 qy1 Wr2 Wd0
  have S5 := step_any x1 y1 r2 d0 s2 d1 qx1 qy1 Wr2 Wd0 h5 Ws2 Wd1
  obtain ⟨s3, d2, h6, Ws3, Wd2⟩ := stepx x1 y2 r3 d1 qx1 qy2 Wr3 Wd1
  have S6 := step_any x1 y2 r3 d1 s3 d2 qx1 qy2 Wr3 Wd1 h6 Ws3 Wd2
  obtain ⟨s4, s5, h7, Ws4, Ws5⟩ := stepx x1 y3 r4 d2 qx1 qy3 Wr4 Wd2
  have S7 := step_any x1 y3 r4 d2 s4 s5 qx1 qy3 Wr4 Wd2 h7 Ws4 Ws5
  obtain ⟨t2, e0, h8, Wt2, We0⟩ := stepx x2 y0 s2 0 qx2 qy0 Ws2 wo0
  have S8 := step_any x2 y0 s2 0 t2 e0 qx2 qy0 Ws2 wo0 h8 Wt2 We0
  obtain ⟨t3, e1, h9, Wt3, We1⟩ := stepx x2 y1 s3 e0 qx2 qy1 Ws3 We0
  have S9 := step_any x2 y1 s3 e0 t3 e1 qx2 qy1 Ws3 We0 h9 Wt3 We1
  obtain ⟨t4, e2, h10, Wt4, We2⟩ := stepx x2 y2 s4 e1 qx2 qy2 Ws4 We1
  have S10 := step_any x2 y2 s4 e1 t4 e2 qx2 qy2 Ws4 We1 h10 Wt4 We2
  obtain ⟨t5, t6, h11, Wt5, Wt6⟩ := stepx x2 y3 s5 e2 qx2 qy3 Ws5 We2
  have S11 := step_any x2 y3 s5 e2 t5 t6 qx2 qy3 Ws5 We2 h11 Wt5 Wt6
  obtain ⟨u3, f0, h12, Wu3, Wf0⟩ := stepx x3 y0 t3 0 qx3 qy0 Wt3 wo0
  have S12 := step_any x3 y0 t3 0 u3 f0 qx3 qy0 Wt3 wo0 h12 Wu3 Wf0
  obtain ⟨u4, f1, h13, Wu4, Wf1⟩ := stepx x3 y1 t4 f0 qx3 qy1 Wt4 Wf0
  have S13 := step_any x3 y1 t4 f0 u4 f1 qx3 qy1 Wt4 Wf0 h13 Wu4 Wf1
  obtain ⟨u5, f2, h14, Wu5, Wf2⟩ := stepx x3 y2 t5 f1 qx3 qy2 Wt5 Wf1
  have S14 := step_any x3 y2 t5 f1 u5 f2 qx3 qy2 Wt5 Wf1 h14 Wu5 Wf2
  obtain ⟨u6, u7, h15, Wu6, Wu7⟩ := stepx x3 y3 t6 f2 qx3 qy3 Wt6 Wf2
  have S15 := step_any x3 y3 t6 f2 u6 u7 qx3 qy3 Wt6 Wf2 h15 Wu6 Wu7
  have V := prod_lin a (x0 * y0) (x0 * y1) (x0 * y2) (x0 * y3) (x1 * y0) (x1 * y1) (x1 * y2) (x1 * y3) (x2 * y0) (x2 * y1) (x2 * y2) (x2 * y3) (x3 * y0) (x3 * y1) (x3 * y2) (x3 * y3) w0 w1 w2 w3 r0 c0 r1 c1 r2 c2 r3 r4 s1 d0 s2 d1 s3 d2 s4 s5 t2 e0 t3 e1 t4 e2 t5 t6 u3 f0 u4 f1 u5 f2 u6 u7 ea h0 h1 h2 h3 h4 h5 h6 h7 h8 h9 h10 h11 h12 h13 h14 h15
  rw [← prod_exp, ex, ey] at V
  obtain ⟨j0, j1, j2, j3, j4, j5, j6, j7⟩ := wrd_is8 _ r0 s1 t2 u3 u4 u5 u6 u7 Wr0 Ws1 Wt2 Wu3 Wu4 Wu5 Wu6 Wu7 V
  unfold WideAt wd8
  rw [← j0, ← j1, ← j2, ← j3, ← j4, ← j5, ← j6, ← j7]
  clear j0 j1 j2 j3 j4 j5 j6 j7 V ex ey ea h0 h1 h2 h3 h4 h5 h6 h7 h8 h9 h10 h11 h12 h13 h14 h15 Wc0 Wc1 Wc2 Wd0 Wd1 Wd2 We0 We1 We2 Wf0 Wf1 Wf2 Wr0 Wr1 Wr2 Wr3 Wr4 Ws1 Ws2 Ws3 Ws4 Ws5 Wt2 Wt3 Wt4 Wt5 Wt6 Wu3 Wu4 Wu5 Wu6 Wu7 qw0 qw1 qw2 qw3 qx0 qx1 qx2 qx3 qy0 qy1 qy2 qy3
  go_enter Tryz.func124, Tryz.ntmps124
  go_wp2_with fail
  go_quiet (fail)
  generalize hwq : World.drewN w _ = wq
  have CQ : Chg w wq [] := by rw [← hwq]; exact (Chg.refl w _).drewN _
  replace HW := HW.chg CQ (by simp)
  have HX : Blk wq x #[.int .u64 x0, .int .u64 x1, .int .u64 x2, .int .u64 x3] 162 := HX0.chg CQ (by simp)
  clear hwq kx0 kx1 kx2 kx3 ky0 ky1 ky2 ky3 kw0 kw1 kw2 kw3 HX0
  go_wp2_with fail
  refine wp_region_held_drew (S := fun w' => Chg wq w' []) (by kernel_rfl) ((Chg.refl wq _).drew) (fun hHeld => ?_)
  refine tv (v := ?_) 0 (some 36) rfl (by kernel_rfl) (fun _ _ _ h => h) rfl rfl (fun w hSw => ?_) hHeld ?_; rotate_left; (· (go_simp; try with_reducible rfl)); try simp only [Act.put, sA1, sA2, sA3]
  refine tv (v := ?_) 1 (some 37) rfl (by kernel_rfl) (fun _ _ _ h => h) rfl rfl (fun w hSw => ?_) hHeld ?_; rotate_left; (· (go_simp; try with_reducible rfl)); try simp only [Act.put, sA1, sA2, sA3]
  refine tv (v := ?_) 2 (some 38) rfl (by kernel_rfl) (fun _ _ _ h => h) rfl rfl (fun w hSw => ?_) hHeld ?_; rotate_left; (· (go_simp; try with_reducible rfl)); try simp only [Act.put, sA1, sA2, sA3]
  refine tv (v := ?_) 3 (some 39) rfl (by kernel_rfl) (fun _ _ _ h => h) rfl rfl (fun w hSw => ?_) hHeld ?_
  rotate_left
  · have cx := (HX.chg hSw (by simp)).cell 0
    (go_simp; try with_reducible rfl)
  try simp only [Act.put, sA1, sA2, sA3]
  refine tv (v := ?_) 4 (some 40) rfl (by kernel_rfl) (fun _ _ _ h => h) rfl rfl (fun w hSw => ?_) hHeld ?_; rotate_left; (· (go_simp; try with_reducible rfl)); try simp only [Act.put, sA1, sA2, sA3]
  refine tv (v := ?_) 5 (some 41) rfl (by kernel_rfl) (fun _ _ _ h => h) rfl rfl (fun w hSw => ?_) hHeld ?_; rotate_left; (· (go_simp; try with_reducible rfl)); try simp only [Act.put, sA1, sA2, sA3]
  refine tv (v := ?_) 6 (some 42) rfl (by kernel_rfl) (fun _ _ _ h => h) rfl rfl (fun w hSw => ?_) hHeld ?_; rotate_left; (· (go_simp; try with_reducible rfl)); try simp only [Act.put, sA1, sA2, sA3]
  refine tv (v := ?_) 7 (some 43) rfl (by kernel_rfl) (fun _ _ _ h => h) rfl rfl (fun w hSw => ?_) hHeld ?_; rotate_left; (· (go_simp; try with_reducible rfl)); try simp only [Act.put, sA1, sA2, sA3]
  refine tv (v := ?_) 8 (some 44) rfl (by kernel_rfl) (fun _ _ _ h => h) rfl rfl (fun w hSw => ?_) hHeld ?_
  rotate_left
  · have cx := (HW.chg hSw (by simp)).cell 0
    (go_simp; try with_reducible rfl)
  try simp only [Act.put, sA1, sA2, sA3]
  refine wpAnyH_ready (rs := [9]) (by kernel_rfl) (by simp) ?_
  refine AllReadyH.cons (o := _) rfl (fun K hK => ?_) ?_
  ·
    go_simp
    refine (S0 _).mono ?_
    rintro e wz ⟨rfl, rfl⟩
    go_wp2_with fail
    refine hK.out _ _ (hHeld) (fun hHeld => ?_)
    clear hK K
    try simp only [Act.put, sA1, sA2, sA3]
    refine tv (v := ?_) 10 (some 35) rfl (by kernel_rfl) (fun _ _ _ h => h) rfl rfl (fun w hSw => ?_) hHeld ?_; rotate_left; (· (go_simp; try with_reducible rfl)); try simp only [Act.put, sA1, sA2, sA3]
    refine tv (v := ?_) 11 (some 46) rfl (by kernel_rfl) (fun _ _ _ h => h) rfl rfl (fun w hSw => ?_) hHeld ?_; rotate_left; (· (go_simp; try with_reducible rfl)); try simp only [Act.put, sA1, sA2, sA3]
    refine tv (v := ?_) 12 (some 47) rfl (by kernel_rfl) (fun _ _ _ h => h) rfl rfl (fun w hSw => ?_) hHeld ?_; rotate_left; (· (go_simp; try with_reducible rfl)); try simp only [Act.put, sA1, sA2, sA3]
    refine tv (v := ?_) 13 (some 10) rfl (by kernel_rfl) (fun _ _ _ h => h) rfl rfl (fun w hSw => ?_) hHeld ?_; rotate_left; (· (go_simp; try with_reducible rfl)); try simp only [Act.put, sA1, sA2, sA3]
    refine tv (v := ?_) 14 (some 11) rfl (by kernel_rfl) (fun _ _ _ h => h) rfl rfl (fun w hSw => ?_) hHeld ?_; rotate_left; (· (go_simp; try with_reducible rfl)); try simp only [Act.put, sA1, sA2, sA3]
    refine wpAnyH_done (by kernel_rfl) ?_ _
    replace HW := HW.drew
    replace HX := HX.drew
    replace CQ := CQ.drew
    clear hHeld
    generalize World.drew wq = wq at *
    clear S0
    go_wp2_with fail
    refine wp_region_held_drew (S := fun w' => Chg wq w' []) (by kernel_rfl) ((Chg.refl wq _).drew) (fun hHeld => ?_)
    refine tv (v := ?_) 0 (some 49) rfl (by kernel_rfl) (fun _ _ _ h => h) rfl rfl (fun w hSw => ?_) hHeld ?_; rotate_left; (· (go_simp; try with_reducible rfl)); try simp only [Act.put, sA1, sA2, sA3]
    refine tv (v := ?_) 1 (some 50) rfl (by kernel_rfl) (fun _ _ _ h => h) rfl rfl (fun w hSw => ?_) hHeld ?_; rotate_left; (· (go_simp; try with_reducible rfl)); try simp only [Act.put, sA1, sA2, sA3]
    refine tv (v := ?_) 2 (some 51) rfl (by kernel_rfl) (fun _ _ _ h => h) rfl rfl (fun w hSw => ?_) hHeld ?_; rotate_left; (· (go_simp; try with_reducible rfl)); try simp only [Act.put, sA1, sA2, sA3]
    refine tv (v := ?_) 3 (some 52) rfl (by kernel_rfl) (fun _ _ _ h => h) rfl rfl (fun w hSw => ?_) hHeld ?_
    rotate_left
    · have cx := (HX.chg hSw (by simp)).cell 0
      (go_simp; try with_reducible rfl)
    try simp only [Act.put, sA1, sA2, sA3]
    refine tv (v := ?_) 4 (some 53) rfl (by kernel_rfl) (fun _ _ _ h => h) rfl rfl (fun w hSw => ?_) hHeld ?_; rotate_left; (· (go_simp; try with_reducible rfl)); try simp only [Act.put, sA1, sA2, sA3]
    refine tv (v := ?_) 5 (some 54) rfl (by kernel_rfl) (fun _ _ _ h => h) rfl rfl (fun w hSw => ?_) hHeld ?_; rotate_left; (· (go_simp; try with_reducible rfl)); try simp only [Act.put, sA1, sA2, sA3]
    refine tv (v := ?_) 6 (some 55) rfl (by kernel_rfl) (fun _ _ _ h => h) rfl rfl (fun w hSw => ?_) hHeld ?_; rotate_left; (· (go_simp; try with_reducible rfl)); try simp only [Act.put, sA1, sA2, sA3]
    refine tv (v := ?_) 7 (some 56) rfl (by kernel_rfl) (fun _ _ _ h => h) rfl rfl (fun w hSw => ?_) hHeld ?_; rotate_left; (· (go_simp; try with_reducible rfl)); try simp only [Act.put, sA1, sA2, sA3]
    refine tv (v := ?_) 8 (some 57) rfl (by kernel_rfl) (fun _ _ _ h => h) rfl rfl (fun w hSw => ?_) hHeld ?_
    rotate_left
    · have cx := (HW.chg hSw (by simp)).cell 1
      (go_simp; try with_reducible rfl)
    try simp only [Act.put, sA1, sA2, sA3]
    refine tv (v := ?_) 9 (some 58) rfl (by kernel_rfl) (fun _ _ _ h => h) rfl rfl (fun w hSw => ?_) hHeld ?_; rotate_left; (· (go_simp; try with_reducible rfl)); try simp only [Act.put, sA1, sA2, sA3]
    refine wpAnyH_ready (rs := [10]) (by kernel_rfl) (by simp) ?_
    refine AllReadyH.cons (o := _) rfl (fun K hK => ?_) ?_
    ·
      go_simp
      refine (S1 _).mono ?_
      rintro e wz ⟨rfl, rfl⟩
      go_wp2_with fail
      refine hK.out _ _ (hHeld) (fun hHeld => ?_)
      clear hK K
      try simp only [Act.put, sA1, sA2, sA3]
      refine tv (v := ?_) 11 (some 48) rfl (by kernel_rfl) (fun _ _ _ h => h) rfl rfl (fun w hSw => ?_) hHeld ?_; rotate_left; (· (go_simp; try with_reducible rfl)); try simp only [Act.put, sA1, sA2, sA3]
      refine tv (v := ?_) 12 (some 60) rfl (by kernel_rfl) (fun _ _ _ h => h) rfl rfl (fun w hSw => ?_) hHeld ?_; rotate_left; (· (go_simp; try with_reducible rfl)); try simp only [Act.put, sA1, sA2, sA3]
      refine tv (v := ?_) 13 (some 61) rfl (by kernel_rfl) (fun _ _ _ h => h) rfl rfl (fun w hSw => ?_) hHeld ?_; rotate_left; (· (go_simp; try with_reducible rfl)); try simp only [Act.put, sA1, sA2, sA3]
      refine tv (v := ?_) 14 (some 10) rfl (by kernel_rfl) (fun _ _ _ h => h) rfl rfl (fun w hSw => ?_) hHeld ?_; rotate_left; (· (go_simp; try with_reducible rfl)); try simp only [Act.put, sA1, sA2, sA3]
      refine tv (v := ?_) 15 (some 12) rfl (by kernel_rfl) (fun _ _ _ h => h) rfl rfl (fun w hSw => ?_) hHeld ?_; rotate_left; (· (go_simp; try with_reducible rfl)); try simp only [Act.put, sA1, sA2, sA3]
      refine wpAnyH_done (by kernel_rfl) ?_ _
      replace HW := HW.drew
      replace HX := HX.drew
      replace CQ := CQ.drew
      clear hHeld
      generalize World.drew wq = wq at *
      clear S1
      go_wp2_with fail
      refine wp_region_held_drew (S := fun w' => Chg wq w' []) (by kernel_rfl) ((Chg.refl wq _).drew) (fun hHeld => ?_)
      refine tv (v := ?_) 0 (some 63) rfl (by kernel_rfl) (fun _ _ _ h => h) rfl rfl (fun w hSw => ?_) hHeld ?_; rotate_left; (· (go_simp; try with_reducible rfl)); try simp only [Act.put, sA1, sA2, sA3]
      refine tv (v := ?_) 1 (some 64) rfl (by kernel_rfl) (fun _ _ _ h => h) rfl rfl (fun w hSw => ?_) hHeld ?_; rotate_left; (· (go_simp; try with_reducible rfl)); try simp only [Act.put, sA1, sA2, sA3]
      refine tv (v := ?_) 2 (some 65) rfl (by kernel_rfl) (fun _ _ _ h => h) rfl rfl (fun w hSw => ?_) hHeld ?_; rotate_left; (· (go_simp; try with_reducible rfl)); try simp only [Act.put, sA1, sA2, sA3]
      refine tv (v := ?_) 3 (some 66) rfl (by kernel_rfl) (fun _ _ _ h => h) rfl rfl (fun w hSw => ?_) hHeld ?_
      rotate_left
      · have cx := (HX.chg hSw (by simp)).cell 0
        (go_simp; try with_reducible rfl)
      try simp only [Act.put, sA1, sA2, sA3]
      refine tv (v := ?_) 4 (some 67) rfl (by kernel_rfl) (fun _ _ _ h => h) rfl rfl (fun w hSw => ?_) hHeld ?_; rotate_left; (· (go_simp; try with_reducible rfl)); try simp only [Act.put, sA1, sA2, sA3]
      refine tv (v := ?_) 5 (some 68) rfl (by kernel_rfl) (fun _ _ _ h => h) rfl rfl (fun w hSw => ?_) hHeld ?_; rotate_left; (· (go_simp; try with_reducible rfl)); try simp only [Act.put, sA1, sA2, sA3]
      refine tv (v := ?_) 6 (some 69) rfl (by kernel_rfl) (fun _ _ _ h => h) rfl rfl (fun w hSw => ?_) hHeld ?_; rotate_left; (· (go_simp; try with_reducible rfl)); try simp only [Act.put, sA1, sA2, sA3]
      refine tv (v := ?_) 7 (some 70) rfl (by kernel_rfl) (fun _ _ _ h => h) rfl rfl (fun w hSw => ?_) hHeld ?_; rotate_left; (· (go_simp; try with_reducible rfl)); try simp only [Act.put, sA1, sA2, sA3]
      refine tv (v := ?_) 8 (some 71) rfl (by kernel_rfl) (fun _ _ _ h => h) rfl rfl (fun w hSw => ?_) hHeld ?_
      rotate_left
      · have cx := (HW.chg hSw (by simp)).cell 2
        (go_simp; try with_reducible rfl)
      try simp only [Act.put, sA1, sA2, sA3]
      refine tv (v := ?_) 9 (some 72) rfl (by kernel_rfl) (fun _ _ _ h => h) rfl rfl (fun w hSw => ?_) hHeld ?_; rotate_left; (· (go_simp; try with_reducible rfl)); try simp only [Act.put, sA1, sA2, sA3]
      refine wpAnyH_ready (rs := [10]) (by kernel_rfl) (by simp) ?_
      refine AllReadyH.cons (o := _) rfl (fun K hK => ?_) ?_
      ·
        go_simp
        refine (S2 _).mono ?_
        rintro e wz ⟨rfl, rfl⟩
        go_wp2_with fail
        refine hK.out _ _ (hHeld) (fun hHeld => ?_)
        clear hK K
        try simp only [Act.put, sA1, sA2, sA3]
        refine tv (v := ?_) 11 (some 62) rfl (by kernel_rfl) (fun _ _ _ h => h) rfl rfl (fun w hSw => ?_) hHeld ?_; rotate_left; (· (go_simp; try with_reducible rfl)); try simp only [Act.put, sA1, sA2, sA3]
        refine tv (v := ?_) 12 (some 74) rfl (by kernel_rfl) (fun _ _ _ h => h) rfl rfl (fun w hSw => ?_) hHeld ?_; rotate_left; (· (go_simp; try with_reducible rfl)); try simp only [Act.put, sA1, sA2, sA3]
        refine tv (v := ?_) 13 (some 75) rfl (by kernel_rfl) (fun _ _ _ h => h) rfl rfl (fun w hSw => ?_) hHeld ?_; rotate_left; (· (go_simp; try with_reducible rfl)); try simp only [Act.put, sA1, sA2, sA3]
        refine tv (v := ?_) 14 (some 10) rfl (by kernel_rfl) (fun _ _ _ h => h) rfl rfl (fun w hSw => ?_) hHeld ?_; rotate_left; (· (go_simp; try with_reducible rfl)); try simp only [Act.put, sA1, sA2, sA3]
        refine tv (v := ?_) 15 (some 13) rfl (by kernel_rfl) (fun _ _ _ h => h) rfl rfl (fun w hSw => ?_) hHeld ?_; rotate_left; (· (go_simp; try with_reducible rfl)); try simp only [Act.put, sA1, sA2, sA3]
        refine wpAnyH_done (by kernel_rfl) ?_ _
        replace HW := HW.drew
        replace HX := HX.drew
        replace CQ := CQ.drew
        clear hHeld
        generalize World.drew wq = wq at *
        clear S2
        go_wp2_with fail
        refine wp_region_held_drew (S := fun w' => Chg wq w' []) (by kernel_rfl) ((Chg.refl wq _).drew) (fun hHeld => ?_)
        refine tv (v := ?_) 0 (some 77) rfl (by kernel_rfl) (fun _ _ _ h => h) rfl rfl (fun w hSw => ?_) hHeld ?_; rotate_left; (· (go_simp; try with_reducible rfl)); try simp only [Act.put, sA1, sA2, sA3]
        refine tv (v := ?_) 1 (some 78) rfl (by kernel_rfl) (fun _ _ _ h => h) rfl rfl (fun w hSw => ?_) hHeld ?_; rotate_left; (· (go_simp; try with_reducible rfl)); try simp only [Act.put, sA1, sA2, sA3]
        refine tv (v := ?_) 2 (some 79) rfl (by kernel_rfl) (fun _ _ _ h => h) rfl rfl (fun w hSw => ?_) hHeld ?_; rotate_left; (· (go_simp; try with_reducible rfl)); try simp only [Act.put, sA1, sA2, sA3]
        refine tv (v := ?_) 3 (some 80) rfl (by kernel_rfl) (fun _ _ _ h => h) rfl rfl (fun w hSw => ?_) hHeld ?_
        rotate_left
        · have cx := (HX.chg hSw (by simp)).cell 0
          (go_simp; try with_reducible rfl)
        try simp only [Act.put, sA1, sA2, sA3]
        refine tv (v := ?_) 4 (some 81) rfl (by kernel_rfl) (fun _ _ _ h => h) rfl rfl (fun w hSw => ?_) hHeld ?_; rotate_left; (· (go_simp; try with_reducible rfl)); try simp only [Act.put, sA1, sA2, sA3]
        refine tv (v := ?_) 5 (some 82) rfl (by kernel_rfl) (fun _ _ _ h => h) rfl rfl (fun w hSw => ?_) hHeld ?_; rotate_left; (· (go_simp; try with_reducible rfl)); try simp only [Act.put, sA1, sA2, sA3]
        refine tv (v := ?_) 6 (some 83) rfl (by kernel_rfl) (fun _ _ _ h => h) rfl rfl (fun w hSw => ?_) hHeld ?_; rotate_left; (· (go_simp; try with_reducible rfl)); try simp only [Act.put, sA1, sA2, sA3]
        refine tv (v := ?_) 7 (some 84) rfl (by kernel_rfl) (fun _ _ _ h => h) rfl rfl (fun w hSw => ?_) hHeld ?_; rotate_left; (· (go_simp; try with_reducible rfl)); try simp only [Act.put, sA1, sA2, sA3]
        refine tv (v := ?_) 8 (some 85) rfl (by kernel_rfl) (fun _ _ _ h => h) rfl rfl (fun w hSw => ?_) hHeld ?_
        rotate_left
        · have cx := (HW.chg hSw (by simp)).cell 3
          (go_simp; try with_reducible rfl)
        try simp only [Act.put, sA1, sA2, sA3]
        refine tv (v := ?_) 9 (some 86) rfl (by kernel_rfl) (fun _ _ _ h => h) rfl rfl (fun w hSw => ?_) hHeld ?_; rotate_left; (· (go_simp; try with_reducible rfl)); try simp only [Act.put, sA1, sA2, sA3]
        refine wpAnyH_ready (rs := [10]) (by kernel_rfl) (by simp) ?_
        refine AllReadyH.cons (o := _) rfl (fun K hK => ?_) ?_
        ·
          go_simp
          refine (S3 _).mono ?_
          rintro e wz ⟨rfl, rfl⟩
          go_wp2_with fail
          refine hK.out _ _ (hHeld) (fun hHeld => ?_)
          clear hK K
          try simp only [Act.put, sA1, sA2, sA3]
          refine tv (v := ?_) 11 (some 76) rfl (by kernel_rfl) (fun _ _ _ h => h) rfl rfl (fun w hSw => ?_) hHeld ?_; rotate_left; (· (go_simp; try with_reducible rfl)); try simp only [Act.put, sA1, sA2, sA3]
          refine tv (v := ?_) 12 (some 88) rfl (by kernel_rfl) (fun _ _ _ h => h) rfl rfl (fun w hSw => ?_) hHeld ?_; rotate_left; (· (go_simp; try with_reducible rfl)); try simp only [Act.put, sA1, sA2, sA3]
          refine tv (v := ?_) 13 (some 89) rfl (by kernel_rfl) (fun _ _ _ h => h) rfl rfl (fun w hSw => ?_) hHeld ?_; rotate_left; (· (go_simp; try with_reducible rfl)); try simp only [Act.put, sA1, sA2, sA3]
          refine tv (v := ?_) 14 (some 14) rfl (by kernel_rfl) (fun _ _ _ h => h) rfl rfl (fun w hSw => ?_) hHeld ?_; rotate_left; (· (go_simp; try with_reducible rfl)); try simp only [Act.put, sA1, sA2, sA3]
          refine tv (v := ?_) 15 (some 15) rfl (by kernel_rfl) (fun _ _ _ h => h) rfl rfl (fun w hSw => ?_) hHeld ?_; rotate_left; (· (go_simp; try with_reducible rfl)); try simp only [Act.put, sA1, sA2, sA3]
          refine wpAnyH_done (by kernel_rfl) ?_ _
          replace HW := HW.drew
          replace HX := HX.drew
          replace CQ := CQ.drew
          clear hHeld
          generalize World.drew wq = wq at *
          clear S3
          have cx1 := HX.cell 1; have cx2 := HX.cell 2; have cx3 := HX.cell 3
          simp at cx1 cx2 cx3
          go_wp2_with fail
          refine (S4 _).mono ?_
          rintro e wq ⟨rfl, rfl⟩
          clear S4
          go_wp2_with fail
          refine (S5 _).mono ?_
          rintro e wq ⟨rfl, rfl⟩
          clear S5
          go_wp2_with fail
          refine (S6 _).mono ?_
          rintro e wq ⟨rfl, rfl⟩
          clear S6
          go_wp2_with fail
          refine (S7 _).mono ?_
          rintro e wq ⟨rfl, rfl⟩
          clear S7
          go_wp2_with fail
          refine (S8 _).mono ?_
          rintro e wq ⟨rfl, rfl⟩
          clear S8
          go_wp2_with fail
          refine (S9 _).mono ?_
          rintro e wq ⟨rfl, rfl⟩
          clear S9
          go_wp2_with fail
          refine (S10 _).mono ?_
          rintro e wq ⟨rfl, rfl⟩
          clear S10
          go_wp2_with fail
          refine (S11 _).mono ?_
          rintro e wq ⟨rfl, rfl⟩
          clear S11
          go_wp2_with fail
          refine (S12 _).mono ?_
          rintro e wq ⟨rfl, rfl⟩
          clear S12
          go_wp2_with fail
          refine (S13 _).mono ?_
          rintro e wq ⟨rfl, rfl⟩
          clear S13
          go_wp2_with fail
          refine (S14 _).mono ?_
          rintro e wq ⟨rfl, rfl⟩
          clear S14
          go_wp2_with fail
          refine (S15 _).mono ?_
          rintro e wq ⟨rfl, rfl⟩
          clear S15
          go_wp2_with fail
          refine wp_region_held_drew (S := fun w' => Chg wq w' [W]) (by kernel_rfl) ((Chg.refl wq _).drew) (fun hHeld => ?_)
          replace HW := HW.drew
          generalize World.drew wq = ω0 at *
          refine tv (v := ?_) 0 (some 219) rfl (by kernel_rfl) (fun _ _ _ h => h) rfl rfl (fun w hSw => ?_) hHeld ?_; rotate_left; (· (go_simp; try with_reducible rfl)); try simp only [Act.put, sA1, sA2, sA3]
          refine tv (v := ?_) 1 (some 220) rfl (by kernel_rfl) (fun _ _ _ h => h) rfl rfl (fun w hSw => ?_) hHeld ?_; rotate_left; (· (go_simp; try with_reducible rfl)); try simp only [Act.put, sA1, sA2, sA3]
          refine tv (v := ?_) 2 (some 221) rfl (by kernel_rfl) (fun _ _ _ h => h) rfl rfl (fun w hSw => ?_) hHeld ?_; rotate_left; (· (go_simp; try with_reducible rfl)); try simp only [Act.put, sA1, sA2, sA3]
          refine tv (v := ?_) 3 (some 222) rfl (by kernel_rfl) (fun _ _ _ h => h) rfl rfl (fun w hSw => ?_) hHeld ?_; rotate_left; (· (go_simp; try with_reducible rfl)); try simp only [Act.put, sA1, sA2, sA3]
          refine tv (v := ?_) 4 (some 223) rfl (by kernel_rfl) (fun _ _ _ h => h) rfl rfl (fun w hSw => ?_) hHeld ?_; rotate_left; (· (go_simp; try with_reducible rfl)); try simp only [Act.put, sA1, sA2, sA3]
          refine tv (v := ?_) 5 (some 224) rfl (by kernel_rfl) (fun _ _ _ h => h) rfl rfl (fun w hSw => ?_) hHeld ?_; rotate_left; (· (go_simp; try with_reducible rfl)); try simp only [Act.put, sA1, sA2, sA3]
          refine tv (v := ?_) 6 (some 225) rfl (by kernel_rfl) (fun _ _ _ h => h) rfl rfl (fun w hSw => ?_) hHeld ?_; rotate_left; (· (go_simp; try with_reducible rfl)); try simp only [Act.put, sA1, sA2, sA3]
          refine tv (v := ?_) 7 (some 226) rfl (by kernel_rfl) (fun _ _ _ h => h) rfl rfl (fun w hSw => ?_) hHeld ?_; rotate_left; (· (go_simp; try with_reducible rfl)); try simp only [Act.put, sA1, sA2, sA3]
          refine tv (v := ?_) 8 (some 227) rfl (by kernel_rfl) (fun _ _ _ h => h) rfl rfl (fun w hSw => ?_) hHeld ?_; rotate_left; (· (go_simp; try with_reducible rfl)); try simp only [Act.put, sA1, sA2, sA3]
          refine tv (v := ?_) 9 (some 228) rfl (by kernel_rfl) (fun _ _ _ h => h) rfl rfl (fun w hSw => ?_) hHeld ?_; rotate_left; (· (go_simp; try with_reducible rfl)); try simp only [Act.put, sA1, sA2, sA3]
          refine tv (v := ?_) 10 (some 229) rfl (by kernel_rfl) (fun _ _ _ h => h) rfl rfl (fun w hSw => ?_) hHeld ?_; rotate_left; (· (go_simp; try with_reducible rfl)); try simp only [Act.put, sA1, sA2, sA3]
          refine tv (v := ?_) 11 (some 230) rfl (by kernel_rfl) (fun _ _ _ h => h) rfl rfl (fun w hSw => ?_) hHeld ?_; rotate_left; (· (go_simp; try with_reducible rfl)); try simp only [Act.put, sA1, sA2, sA3]
          refine tv (v := ?_) 12 (some 231) rfl (by kernel_rfl) (fun _ _ _ h => h) rfl rfl (fun w hSw => ?_) hHeld ?_; rotate_left; (· (go_simp; try with_reducible rfl)); try simp only [Act.put, sA1, sA2, sA3]
          refine tv (v := ?_) 13 (some 232) rfl (by kernel_rfl) (fun _ _ _ h => h) rfl rfl (fun w hSw => ?_) hHeld ?_; rotate_left; (· (go_simp; try with_reducible rfl)); try simp only [Act.put, sA1, sA2, sA3]
          refine tv (v := ?_) 14 (some 233) rfl (by kernel_rfl) (fun _ _ _ h => h) rfl rfl (fun w hSw => ?_) hHeld ?_; rotate_left; (· (go_simp; try with_reducible rfl)); try simp only [Act.put, sA1, sA2, sA3]
          refine tv (v := ?_) 15 (some 234) rfl (by kernel_rfl) (fun _ _ _ h => h) rfl rfl (fun w hSw => ?_) hHeld ?_; rotate_left; (· (go_simp; try with_reducible rfl)); try simp only [Act.put, sA1, sA2, sA3]
          refine tv (v := ?_) 16 (some 235) rfl (by kernel_rfl) (fun _ _ _ h => h) rfl rfl (fun w hSw => ?_) hHeld ?_; rotate_left; (· (go_simp; try with_reducible rfl)); try simp only [Act.put, sA1, sA2, sA3]
          refine tv (v := ?_) 17 (some 236) rfl (by kernel_rfl) (fun _ _ _ h => h) rfl rfl (fun w hSw => ?_) hHeld ?_; rotate_left; (· (go_simp; try with_reducible rfl)); try simp only [Act.put, sA1, sA2, sA3]
          refine tv (v := ?_) 19 (some 237) rfl (by kernel_rfl) (fun _ _ _ h => h) rfl rfl (fun w hSw => ?_) hHeld ?_; rotate_left; (· (go_simp; try with_reducible rfl)); try simp only [Act.put, sA1, sA2, sA3]
          refine tv (v := ?_) 22 (some 239) rfl (by kernel_rfl) (fun _ _ _ h => h) rfl rfl (fun w hSw => ?_) hHeld ?_; rotate_left; (· (go_simp; try with_reducible rfl)); try simp only [Act.put, sA1, sA2, sA3]
          refine tv (v := ?_) 25 (some 241) rfl (by kernel_rfl) (fun _ _ _ h => h) rfl rfl (fun w hSw => ?_) hHeld ?_; rotate_left; (· (go_simp; try with_reducible rfl)); try simp only [Act.put, sA1, sA2, sA3]
          refine tv (v := ?_) 28 (some 243) rfl (by kernel_rfl) (fun _ _ _ h => h) rfl rfl (fun w hSw => ?_) hHeld ?_; rotate_left; (· (go_simp; try with_reducible rfl)); try simp only [Act.put, sA1, sA2, sA3]
          refine tv (v := ?_) 31 (some 245) rfl (by kernel_rfl) (fun _ _ _ h => h) rfl rfl (fun w hSw => ?_) hHeld ?_; rotate_left; (· (go_simp; try with_reducible rfl)); try simp only [Act.put, sA1, sA2, sA3]
          refine tv (v := ?_) 34 (some 247) rfl (by kernel_rfl) (fun _ _ _ h => h) rfl rfl (fun w hSw => ?_) hHeld ?_; rotate_left; (· (go_simp; try with_reducible rfl)); try simp only [Act.put, sA1, sA2, sA3]
          refine tv (v := ?_) 37 (some 249) rfl (by kernel_rfl) (fun _ _ _ h => h) rfl rfl (fun w hSw => ?_) hHeld ?_; rotate_left; (· (go_simp; try with_reducible rfl)); try simp only [Act.put, sA1, sA2, sA3]
          refine wpAnyH_ready (rs := [18]) (by kernel_rfl) (by simp) ?_
          refine AllReadyH.cons (o := _) rfl (fun K hK => ?_) ?_
          ·
            have ck := HW.cell 0
            have fk := HW.frozen 0
            simp at ck
            rw [if_pos (by rfl)]
            go_simp
            refine hK.out _ _ (hHeld.setIn (by simp) _ _) (fun hHeld => ?_)
            clear hK K
            try simp only [Act.put, sA1, sA2, sA3]
            replace HW := HW.setCell 0 (.int .u64 (r0))
            simp only [sA1, sA2, sA3] at HW
            clear ck fk
            generalize World.setCell ω0 ⟨W, 0, none⟩ (.int .u64 (r0)) = ω1 at *
            refine tv (v := ?_) 20 (some 238) rfl (by kernel_rfl) (fun _ _ _ h => h) rfl rfl (fun w hSw => ?_) hHeld ?_; rotate_left; (· (go_simp; try with_reducible rfl)); try simp only [Act.put, sA1, sA2, sA3]
            refine wpAnyH_ready (rs := [21]) (by kernel_rfl) (by simp) ?_
            refine AllReadyH.cons (o := _) rfl (fun K hK => ?_) ?_
            ·
              have ck := HW.cell 1
              have fk := HW.frozen 1
              simp at ck
              rw [if_pos (by rfl)]
              go_simp
              refine hK.out _ _ (hHeld.setIn (by simp) _ _) (fun hHeld => ?_)
              clear hK K
              try simp only [Act.put, sA1, sA2, sA3]
              replace HW := HW.setCell 1 (.int .u64 (s1))
              simp only [sA1, sA2, sA3] at HW
              clear ck fk
              generalize World.setCell ω1 ⟨W, 1, none⟩ (.int .u64 (s1)) = ω2 at *
              refine tv (v := ?_) 23 (some 240) rfl (by kernel_rfl) (fun _ _ _ h => h) rfl rfl (fun w hSw => ?_) hHeld ?_; rotate_left; (· (go_simp; try with_reducible rfl)); try simp only [Act.put, sA1, sA2, sA3]
              refine wpAnyH_ready (rs := [24]) (by kernel_rfl) (by simp) ?_
              refine AllReadyH.cons (o := _) rfl (fun K hK => ?_) ?_
              ·
                have ck := HW.cell 2
                have fk := HW.frozen 2
                simp at ck
                rw [if_pos (by rfl)]
                go_simp
                refine hK.out _ _ (hHeld.setIn (by simp) _ _) (fun hHeld => ?_)
                clear hK K
                try simp only [Act.put, sA1, sA2, sA3]
                replace HW := HW.setCell 2 (.int .u64 (t2))
                simp only [sA1, sA2, sA3] at HW
                clear ck fk
                generalize World.setCell ω2 ⟨W, 2, none⟩ (.int .u64 (t2)) = ω3 at *
                refine tv (v := ?_) 26 (some 242) rfl (by kernel_rfl) (fun _ _ _ h => h) rfl rfl (fun w hSw => ?_) hHeld ?_; rotate_left; (· (go_simp; try with_reducible rfl)); try simp only [Act.put, sA1, sA2, sA3]
                refine wpAnyH_ready (rs := [27]) (by kernel_rfl) (by simp) ?_
                refine AllReadyH.cons (o := _) rfl (fun K hK => ?_) ?_
                ·
                  have ck := HW.cell 3
                  have fk := HW.frozen 3
                  simp at ck
                  rw [if_pos (by rfl)]
                  go_simp
                  refine hK.out _ _ (hHeld.setIn (by simp) _ _) (fun hHeld => ?_)
                  clear hK K
                  try simp only [Act.put, sA1, sA2, sA3]
                  replace HW := HW.setCell 3 (.int .u64 (u3))
                  simp only [sA1, sA2, sA3] at HW
                  clear ck fk
                  generalize World.setCell ω3 ⟨W, 3, none⟩ (.int .u64 (u3)) = ω4 at *
                  refine tv (v := ?_) 29 (some 244) rfl (by kernel_rfl) (fun _ _ _ h => h) rfl rfl (fun w hSw => ?_) hHeld ?_; rotate_left; (· (go_simp; try with_reducible rfl)); try simp only [Act.put, sA1, sA2, sA3]
                  refine wpAnyH_ready (rs := [30]) (by kernel_rfl) (by simp) ?_
                  refine AllReadyH.cons (o := _) rfl (fun K hK => ?_) ?_
                  ·
                    have ck := HW.cell 4
                    have fk := HW.frozen 4
                    simp at ck
                    rw [if_pos (by rfl)]
                    go_simp
                    refine hK.out _ _ (hHeld.setIn (by simp) _ _) (fun hHeld => ?_)
                    clear hK K
                    try simp only [Act.put, sA1, sA2, sA3]
                    replace HW := HW.setCell 4 (.int .u64 (u4))
                    simp only [sA1, sA2, sA3] at HW
                    clear ck fk
                    generalize World.setCell ω4 ⟨W, 4, none⟩ (.int .u64 (u4)) = ω5 at *
                    refine tv (v := ?_) 32 (some 246) rfl (by kernel_rfl) (fun _ _ _ h => h) rfl rfl (fun w hSw => ?_) hHeld ?_; rotate_left; (· (go_simp; try with_reducible rfl)); try simp only [Act.put, sA1, sA2, sA3]
                    refine wpAnyH_ready (rs := [33]) (by kernel_rfl) (by simp) ?_
                    refine AllReadyH.cons (o := _) rfl (fun K hK => ?_) ?_
                    ·
                      have ck := HW.cell 5
                      have fk := HW.frozen 5
                      simp at ck
                      rw [if_pos (by rfl)]
                      go_simp
                      refine hK.out _ _ (hHeld.setIn (by simp) _ _) (fun hHeld => ?_)
                      clear hK K
                      try simp only [Act.put, sA1, sA2, sA3]
                      replace HW := HW.setCell 5 (.int .u64 (u5))
                      simp only [sA1, sA2, sA3] at HW
                      clear ck fk
                      generalize World.setCell ω5 ⟨W, 5, none⟩ (.int .u64 (u5)) = ω6 at *
                      refine tv (v := ?_) 35 (some 248) rfl (by kernel_rfl) (fun _ _ _ h => h) rfl rfl (fun w hSw => ?_) hHeld ?_; rotate_left; (· (go_simp; try with_reducible rfl)); try simp only [Act.put, sA1, sA2, sA3]
                      refine wpAnyH_ready (rs := [36]) (by kernel_rfl) (by simp) ?_
                      refine AllReadyH.cons (o := _) rfl (fun K hK => ?_) ?_
                      ·
                        have ck := HW.cell 6
                        have fk := HW.frozen 6
                        simp at ck
                        rw [if_pos (by rfl)]
                        go_simp
                        refine hK.out _ _ (hHeld.setIn (by simp) _ _) (fun hHeld => ?_)
                        clear hK K
                        try simp only [Act.put, sA1, sA2, sA3]
                        replace HW := HW.setCell 6 (.int .u64 (u6))
                        simp only [sA1, sA2, sA3] at HW
                        clear ck fk
                        generalize World.setCell ω6 ⟨W, 6, none⟩ (.int .u64 (u6)) = ω7 at *
                        refine tv (v := ?_) 38 (some 250) rfl (by kernel_rfl) (fun _ _ _ h => h) rfl rfl (fun w hSw => ?_) hHeld ?_; rotate_left; (· (go_simp; try with_reducible rfl)); try simp only [Act.put, sA1, sA2, sA3]
                        refine wpAnyH_ready (rs := [39]) (by kernel_rfl) (by simp) ?_
                        refine AllReadyH.cons (o := _) rfl (fun K hK => ?_) ?_
                        ·
                          have ck := HW.cell 7
                          have fk := HW.frozen 7
                          simp at ck
                          rw [if_pos (by rfl)]
                          go_simp
                          refine hK.out _ _ (hHeld.setIn (by simp) _ _) (fun hHeld => ?_)
                          clear hK K
                          try simp only [Act.put, sA1, sA2, sA3]
                          replace HW := HW.setCell 7 (.int .u64 (u7))
                          simp only [sA1, sA2, sA3] at HW
                          clear ck fk
                          generalize World.setCell ω7 ⟨W, 7, none⟩ (.int .u64 (u7)) = ω8 at *
                          refine wpAnyH_done (by kernel_rfl) ?_ _
                          go_wp2_with fail
                          go_end0
                          exact ⟨rfl, HW, CQ.wide.trans1 hHeld⟩
                        exact AllReadyH.nil
                      exact AllReadyH.nil
                    exact AllReadyH.nil
                  exact AllReadyH.nil
                exact AllReadyH.nil
              exact AllReadyH.nil
            exact AllReadyH.nil
          exact AllReadyH.nil
        exact AllReadyH.nil
      exact AllReadyH.nil
    exact AllReadyH.nil
  exact AllReadyH.nil
end Go.Proofs.YtoafcaieifjoiaaGreat
