/- Joined: WDd1, WDdb. -/
import Derived.Test.YtgjclegpnbjlkaaGreatDoorWDdh
set_option linter.all false
namespace Go.Proofs.YtgjclegpnbjlkaaGreatDoor
set_option maxHeartbeats 16000000
set_option maxRecDepth 100000
open Go.RowKit
theorem RDec_1 (g o n c A : Nat) (F : Nat → Nat) (hA : A = 10 + nm F 6 4) (hn : n = A + 4) (hG : HdG n F) (hK : F 5 = 1) (hc : n ≤ c) (hc2 : c ≤ 9223372036854775807) (w : World) (hB : Bs w g o n F) :
   Calls Tryz.prog 16 #[.slice (some ⟨g, o, none⟩) n c] w fun e w' => RDq n F w e w' := by
 have HPK := pkH 1 (by omega) hA hn hG hc hc2 hB
 have h4 : nm F 6 4 ≤ 1065189 := hG.2.2.2.2
 have HSM := smH hA hn h4 hc hc2 hB
 have HFP := fpH hA hn hG
 have HFB : Hid (eqnW 4 (sha F A) (fun j => F (A + j)) = true → ∀ s a y, bdW A F 1 = some (s, a, y) → FrP n F s a y) := fun q s a y hb => Or.inr ⟨hG, Or.inr (Or.inr ⟨by omega, Or.inr ⟨by rw [← hA]; exact q, by rw [← hA, hK]; unfold BdP; rw [if_neg (by decide)]; exact hb⟩⟩)⟩
 have HFR : Hid (eqnW 4 (sha F A) (fun j => F (A + j)) = true → ∀ B w', bdW A F 1 = none → FrR n F B (rdM F 1) w') := fun q B w' hb => ⟨hG, by omega, by rw [← hA]; exact q, by rw [← hA, hK]; unfold BdR; rw [if_neg (by decide)]; exact ⟨hb, rfl⟩⟩
 have HA : Hid (n = A + 4 ∧ 10 ≤ A ∧ A ≤ 1065199 ∧ n ≤ c ∧ c ≤ 9223372036854775807) := ⟨hn, by omega, by omega, hc, hc2⟩
 have HB : Hid (∀ W, Chg w W [] → Bs W g o n F) := fun W k => hB.chg k (by simp)
 have HGL : Hid (g < w.heap.size) := hB.lt
 clear hA hn hG hK hc hc2 hB h4
 go_enter Tryz.func16, Tryz.ntmps16
 go_upto_region 1 with (first
   | (with_reducible refine alloc_w rfl 35 rfl (.agg (msC (ms0 0))) zeroMsg (msC (ms0 0)) rfl ?_; intro rm w1 hrm RM k1)
   | (with_reducible refine alloc_w rfl 59 rfl (.agg zRF) zeroRF2 zRF rfl ?_; intro rf w2 hrf RF k2))
 have HD0 : Hid (w.heap.size ≤ rm ∧ rm < rf) := ⟨hrm, by have := RM.lt; omega⟩
 have RM2 := RM.chg k2 (by simp)
 have C2 := k1.trans1 k2
 clear RM k1 k2 hrm hrf
 go_wp2_with fail
 refine (HPK.out w2 C2).mono ?_
 rintro e w3 ⟨rfl, k3⟩
 have RM3 := RM2.chg k3 (by simp)
 have RF3 := RF.chg k3 (by simp)
 have C3 := C2.trans1 k3
 clear RM2 RF C2 k3
 have hI1 : ¬ (n : Int) < (n : Int) := by omega
 go_wp2_with (first
   | (refine wpList_load_row rfl 59 _ rfl pb rfl 59 _ (0, 0) _ P5 Tryz.underlying59 rfl (by exact rFltInfo) ?_)
   | (refine store_w P4 rfl 59 _ _ (ftC s0E 0 0) rfl rfl rfl (by exact rFltInfo) (by rfl) (ftC_one _ _ _) ?_; intro w5 P5 k5)
   | (with_reducible refine alloc_w rfl 59 rfl (.agg zRF) zeroRF2 zRF rfl ?_; intro pb w4 hpb P4 k4))
 have k35 := k4.new k5 hpb
 have RM5 := RM3.chg k35 (by simp)
 have RF5 := RF3.chg k35 (by simp)
 have C5 := C3.trans1 k35
 clear RM3 RF3 C3 k4 k5 k35 hpb P4 P5
 refine (None_0 0 0 w5).mono ?_
 rintro e w6 ⟨rfl, k6⟩
 have RM6 := RM5.chg k6 (by simp)
 have RF6 := RF5.chg k6 (by simp)
 have C6 := C5.trans1 k6
 clear RM5 RF5 C5 k6
 have e4 : IntKind.i64.wrap ((n : Int) - 4) = (A : Int) := by have := HA.out; rw [IntKind.wrap_i64]; omega
 have l1 : (0 : Int) ≤ (A : Int) := by omega
 have l2 : (A : Int) ≤ (c : Int) := by have := HA.out; omega
 go_wp2_with fail
 refine (HSM.out w6 C6).mono ?_
 rintro e w7 ⟨rfl, k7⟩
 have RM7 := RM6.chg k7 (by simp)
 have RF7 := RF6.chg k7 (by simp)
 have C7 := C6.trans1 k7
 obtain ⟨DD, hDD⟩ : ∃ DD, yC 64 (sha F A) = DD := ⟨_, rfl⟩
 have HDD : Hid (∀ i, i < 64 → DD[i]? = some (.int .u8 ((sha F A i : Nat) : Int))) := fun i hi => hDD ▸ yC_get 64 _ i hi
 have HDS : Hid (DD.size = 64 ∧ DD.all (·.oneCell') = true) := hDD ▸ ⟨yC_size _ _, yC_one _ _⟩
 rw [hDD]
 clear RM6 RF6 C6 k7 hDD
 go_wp2_with (first
   | (refine store_w D8 rfl 143 _ _ DD rfl rfl rfl (by rw [HDS.out.1]; exact dgInfo) (by rw [HDS.out.1, yC_size]) HDS.out.2 ?_; intro w9 D9 k9)
   | (with_reducible refine alloc_w rfl 143 rfl (.agg (yC 64 (fun _ => 0))) zeroDg (yC 64 (fun _ => 0)) rfl ?_; intro db w8 hdb D8 k8))
 have k79 := k8.new k9 hdb
 have RM9 := RM7.chg k79 (by simp)
 have RF9 := RF7.chg k79 (by simp)
 have C9 := C7.trans1 k79
 have HDB : Hid (rm < db ∧ rf < db) := ⟨by have := RM7.lt; omega, by have := RF7.lt; omega⟩
 clear RM7 RF7 C7 k8 k9 k79 hdb D8
 go_loopw [8] (fun t wr => ∃ i : Nat, i ≤ 4 ∧ t = .int .i64 (i : Int) ∧ Chg w9 wr [] ∧ ∀ j, j < i → sha F A j = F (A + j)) (fun t _ => (4 - intOf t).toNat)
 case atStart => exact ⟨0, by omega, rfl, Chg.refl _ _, fun j hj => by omega⟩
 case round =>
   obtain ⟨i, hi, rfl, cc, hj⟩ := hrel
   have RM := RM9.chg cc (by simp)
   have RF := RF9.chg cc (by simp)
   have D := D9.chg cc (by simp)
   have C := C9.trans1 cc
   have HJ : Hid (∀ j, j < i → sha F A j = F (A + j)) := hj
   have HCC : Hid (Chg w9 wr []) := cc
   clear RM9 RF9 D9 C9 hj cc
   by_cases h8 : i < 4
   · have hI : (i : Int) < 4 := by omega
     have HI : Hid (i < 4) := h8
     have e1 : IntKind.i64.wrap ((i : Int) + 1) = (i : Int) + 1 := by rw [IntKind.wrap_i64]; omega
     obtain ⟨q, hq⟩ : ∃ q : Nat, A + i = q := ⟨_, rfl⟩
     have HQ : Hid (A + i = q) := hq
     have e5 : IntKind.i64.wrap ((A : Int) + (i : Int)) = (q : Int) := by have := HA.out; rw [IntKind.wrap_i64]; omega
     have e6 : (A : Int) + (i : Int) = (q : Int) := by omega
     have e7 : IntKind.i64.wrap (q : Int) = (q : Int) := by have := HA.out; rw [IntKind.wrap_i64]; omega
     have q1 : (q : Int) < (n : Int) := by have := HA.out; omega
     have q2 : (0 : Int) ≤ (q : Int) := by omega
     have q3 : i < 64 := by omega
     have q4 : (i : Int) < 64 := by omega
     have q5 : (0 : Int) ≤ (i : Int) := by omega
     have HM : Hid ((4 - intOf (.int .i64 ((i : Int) + 1))).toNat < (4 - intOf (.int .i64 (i : Int))).toNat) := by show (4 - intOf (.int .i64 ((i : Int) + 1))).toNat < (4 - intOf (.int .i64 (i : Int))).toNat; simp [intOf]; omega
     have cb := (HB.out wr C).cell q (by have := HA.out; omega)
     have cd := (D.cell i).trans (HDD.out i q3)
     obtain ⟨x, hx⟩ : ∃ x, F q = x := ⟨_, rfl⟩
     obtain ⟨y, hy⟩ : ∃ y, sha F A i = y := ⟨_, rfl⟩
     have HXY : Hid (F (A + i) = x ∧ sha F A i = y) := ⟨by rw [hq]; exact hx, hy⟩
     rw [hx] at cb
     rw [hy] at cd
     clear hx hy hi h8 hq D
     by_cases hxy : x = y
     · subst hxy
       go_wp2_with fail
       go_quiet (fail)
       go_wp2_with fail
       exact ⟨⟨i + 1, HI.out, by go_num, HCC.out.drewN _, fun j hj => by
         by_cases h : j = i
         · subst h; exact HXY.out.2.trans HXY.out.1.symm
         · exact HJ.out j (by omega)⟩, HM.out⟩
     · have hne : ¬ (x : Int) = (y : Int) := by omega
       have HEF : Hid (FrP n F sSum A 103) := HFP.out (by
         cases he : eqnW 4 (sha F A) (fun j => F (A + j)) with
         | false => rfl
         | true => exact absurd (((eqnW_iff _ _ _).1 he i HI.out).symm.trans HXY.out.2 |>.symm.trans HXY.out.1 |>.symm) hxy)
       clear hxy
       go_wp2_with fail
       go_quiet (fail)
       have RM := RM.drewN nq
       have RF := RF.drewN nq
       have C := C.drewN nq
       go_wp2_with (first
         | (refine store_w RF2 rfl 59 _ _ (ftC sSum A 103) rfl rfl rfl (by exact rFltInfo) rfl (ftC_one _ _ _) ?_; intro z7 RF7 kz7)
         | (refine store_w RM rfl 35 _ _ (msC (ms0 0)) rfl rfl rfl (msW _) rfl (ms_oneC _ rfl rfl) ?_; intro z6 RM6 kz6; have RF2 := RF.chg kz6 (by have := HD0.out; simp; omega))
         | (refine wpList_buildW rfl 35 _ rfl (msC (ms0 0)) builtM0 ?_))
       have RM7 := RM6.chg kz7 (by have := HD0.out; simp; omega)
       exact bodyPost_ret (results_ccR Tryz.results16 _ _ rm rf 35 59 (msC (ms0 0)) (ftC sSum A 103) _ _ rfl rfl RM7 RF7 Tryz.underlying35 rfl (msW _) Tryz.underlying59 rfl (by exact rFltInfo)) rfl
         ⟨Or.inl ⟨sSum, A, 103, HEF.out, rfl⟩, (C.new kz6 HD0.out.1).new kz7 (by have := HD0.out; omega)⟩
   · obtain rfl : i = 4 := by omega
     have hI : ¬ ((4 : Nat) : Int) < 4 := by omega
     have HEQ : Hid (eqnW 4 (sha F A) (fun j => F (A + j)) = true) := (eqnW_iff _ _ _).2 HJ.out
     have HSZ : Hid (rm < wr.heap.size ∧ rf < wr.heap.size) := ⟨RM.lt, RF.lt⟩
     clear hi h8 D HDB
     go_upto_region 15 with (first
       | (refine wpList_buildW rfl 147 _ rfl (rrC (.slice (some ⟨g, o, none⟩) A c) 10 none) (builtRR g o A c) ?_)
       | (refine box_w rfl 147 _ rfl (rrC (.slice (some ⟨g, o, none⟩) A c) 10 none) rfl ?_; intro r y1 hr R0 ky1))
     have RM0 := RM.chg ky1 (by simp)
     have RF0 := RF.chg ky1 (by simp)
     have C0 := C.trans1 ky1
     have HRL : Hid (rf < r ∧ rm < r) := by have := HSZ.out; exact ⟨by omega, by omega⟩
     have HRC : Hid (w.heap.size ≤ r) := by have := HD0.out; have := HRL.out; show w.heap.size ≤ r; omega
     have R0 : RS y1 r (.slice (some ⟨g, o, none⟩) A c) 10 none := R0
     clear RM RF C ky1 hr
     go_upto_region 16 with (first
       | (refine wpList_buildW rfl 35 _ rfl (msC (ms0 1)) (builtMk 1) ?_)
       | (refine store_w M2 rfl 35 _ _ (msC (ms0 1)) rfl rfl rfl (msW _) rfl (ms_oneC _ rfl rfl) ?_; intro y3 BM1 ky3)
       | (with_reducible refine alloc_w rfl 35 rfl (.agg (msC (ms0 0))) zeroMsg (msC (ms0 0)) rfl ?_; intro mb y2 hmb M2 ky2))
     have k13 := ky2.new ky3 hmb
     have RM1 := RM0.chg k13 (by simp)
     have RF1 := RF0.chg k13 (by simp)
     have R1 : RS y3 r (.slice (some ⟨g, o, none⟩) A c) 10 none := R0.chg k13 (by simp)
     have C1 := C0.trans1 k13
     have HD : Hid (g < rm ∧ rm < rf ∧ rf < r ∧ r < mb ∧ w.heap.size ≤ rm) := ⟨by have := HGL.out; have := HD0.out; omega, HD0.out.2, HRL.out.1, by have := Blk.lt R0; omega, HD0.out.1⟩
     have HTK := tkH HA HB HD
     have HPR := prH HA HB HD
     clear RM0 RF0 R0 C0 k13 ky2 ky3 hmb M2 HRL HSZ HCC HJ
     refine lt_begin (fun w' => RS w' r (.slice (some ⟨g, o, none⟩) A c) 10 none) (fun i => i == 7) (by kernel_rfl) ?_
     have R2 : RS y3.drew r (.slice (some ⟨g, o, none⟩) A c) 10 none := Blk.drew R1
     have BM2 := BM1.drew
     have RM2 := RM1.drew
     have RF2 := RF1.drew
     have C2 := C1.drew
     clear R1 BM1 RM1 RF1 C1
     have hHeld := R2
     generalize y3.drew = u16 at *
     refine lv ?_ 0 (some 74) rfl (fun w => ?_) ?_; rotate_left; (· (go_simp; try with_reducible rfl)); try simp only [Act.put, sA]
     refine lv (.slice (some ⟨mb, 1, none⟩) 32 32) 1 (some 75) rfl (fun w => ?_) ?_; (· (go_simp; try with_reducible rfl)); try simp only [Act.put, sA]
     refine lv ?_ 2 (some 76) rfl (fun w => ?_) ?_; rotate_left; (· (go_simp; try with_reducible rfl)); try simp only [Act.put, sA]
     refine lv ?_ 3 (some 77) rfl (fun w => ?_) ?_; rotate_left; (· (go_simp; try with_reducible rfl)); try simp only [Act.put, sA]
     refine lv ?_ 4 (some 78) rfl (fun w => ?_) ?_; rotate_left; (· (go_simp; try with_reducible rfl)); try simp only [Act.put, sA]
     refine lv ?_ 5 (some 79) rfl (fun w => ?_) ?_; rotate_left; (· (go_simp; try with_reducible rfl)); try simp only [Act.put, sA]
     refine lr ?_ 6 (some 80) rfl (fun w hSw => ?_) hHeld ?_
     rotate_left
     · have c1 := RS.c1 hSw; (go_simp; try with_reducible rfl)
     try simp only [Act.put, sA]
     refine lt_one 7 rfl (by kernel_rfl) rfl (fun K hK => ?_)
     go_simp
     refine (HTK.out 10 32 sSess none u16 okO_none (show 10 ≤ A from HA.out.2.1) (by decide) C2 R2).mono ?_
     rintro e v16w ⟨v1, at1, rfl, hS1, R3, hle1, hat1, k1⟩
     obtain ⟨pv1, cv1, rfl, hp1⟩ := hS1.frm
     obtain ⟨gv1, ov1, rfl, hc1, hd1, Bv1⟩ := hp1 (by decide)
     have BM3 := BM2.chg k1 (by have := HD.out; simp; omega)
     have RM3 := RM2.chg k1 (by have := HD.out; simp; omega)
     have RF3 := RF2.chg k1 (by have := HD.out; simp; omega)
     have C3 := C2.new k1 HRC.out
     have HO1 : Hid (okO (tkO A 10 32 sSess none)) := tkO_ok okO_none sz_ne.1
     obtain ⟨o1, ho1⟩ : ∃ x, tkO A 10 32 sSess none = x := ⟨_, rfl⟩
     have HE1 : Hid (tkO A 10 32 sSess none = o1 ∧ (o1 = none → at1 = 10 + 32) ∧ at1 ≤ A) := ⟨ho1, by rw [← ho1]; exact hat1, hle1⟩
     rw [ho1] at R3 Bv1 HO1
     obtain ⟨BB1, hBB1⟩ : ∃ x, tkB o1 F 10 = x := ⟨_, rfl⟩
     have HBB1 : Hid (tkB o1 F 10 = BB1) := hBB1
     rw [hBB1] at Bv1
     have HG1 : Hid (gv1 < v16w.heap.size ∧ 32 ≤ cv1) := ⟨Bv1.lt, hc1⟩
     clear R2 BM2 RM2 RF2 C2 hS1 hp1 hat1 hle1 ho1 hBB1 k1 hc1 hd1
     go_wp2_with fail
     refine hK.out _ _ (fun h => absurd h (by decide)) ?_
     clear hK K
     try simp only [Act.put, sA]
     refine lt_one 8 rfl (by kernel_rfl) rfl (fun K hK => ?_)
     refine copy_set (.tmp 75) (.tmp 81) 29 29 rfl 5 Tryz.underlying29 u8InfD mb 1 32 32 gv1 ov1 cv1 rfl rfl _ 35 BM3 BB1 (fun j hj => Bv1.cell j hj) (by rw [msC_size]; omega) ?_
     intro z16 BM4 kz16
     refine hK.out _ _ (fun _ h => RS.chg h kz16 (by have := HD.out; simp; omega)) ?_
     clear hK K
     try simp only [Act.put, sA]
     refine lt_done (by kernel_rfl) ?_ _
     go_upto_region 17 with fail
     have BM4 := Blk.to BM4 (show _ = msC { ms0 1 with ses := BB1 } from ms_set_ses _ BB1)
     have R4 : RS z16 r (.slice (some ⟨g, o, none⟩) A c) at1 o1 := RS.chg R3 kz16 (by have := HD.out; simp; omega)
     have RM4 := RM3.chg kz16 (by have := HD.out; simp; omega)
     have RF4 := RF3.chg kz16 (by have := HD.out; simp; omega)
     have C4 := C3.new kz16 (by have := HD.out; omega)
     clear R3 BM3 RM3 RF3 C3 Bv1 kz16 hHeld
     have d1 := RS.c1 R4
     go_wp2_with fail
     clear d1
     refine (HTK.out at1 1 sFrm o1 z16 HO1.out HE1.out.2.2 (by decide) C4 R4).mono ?_
     rintro e v17w ⟨v2, at2, rfl, hS2, R5, hle2, hat2, k2⟩
     obtain ⟨pv2, cv2, rfl, hp2⟩ := hS2.frm
     obtain ⟨gv2, ov2, rfl, hc2, hd2, Bv2⟩ := hp2 (by decide)
     have BM5 := BM4.chg k2 (by have := HD.out; simp; omega)
     have RM5 := RM4.chg k2 (by have := HD.out; simp; omega)
     have RF5 := RF4.chg k2 (by have := HD.out; simp; omega)
     have C5 := C4.new k2 HRC.out
     have HO2 : Hid (okO (tkO A at1 1 sFrm o1)) := tkO_ok HO1.out sz_ne.2.1
     obtain ⟨o2, ho2⟩ : ∃ x, tkO A at1 1 sFrm o1 = x := ⟨_, rfl⟩
     have HE2 : Hid (tkO A at1 1 sFrm o1 = o2 ∧ (o2 = none → at2 = at1 + 1) ∧ at2 ≤ A) := ⟨ho2, by rw [← ho2]; exact hat2, hle2⟩
     rw [ho2] at R5 Bv2 HO2
     obtain ⟨BB2, hBB2⟩ : ∃ x, tkB o2 F at1 = x := ⟨_, rfl⟩
     have HBB2 : Hid (tkB o2 F at1 = BB2) := hBB2
     rw [hBB2] at Bv2
     have HG2 : Hid (gv2 < v17w.heap.size ∧ 1 ≤ cv2) := ⟨Bv2.lt, hc2⟩
     clear R4 BM4 RM4 RF4 C4 hS2 hp2 hat2 hle2 ho2 hBB2 k2 hc2 hd2
     have cb := Bv2.cell 0 (by decide)
     rw [Nat.add_zero] at cb
     have hx := Bv2.bd 0 (by decide)
     obtain ⟨x2, hx2⟩ : ∃ x, BB2 0 = x := ⟨_, rfl⟩
     have HX2 : Hid (BB2 0 = x2) := hx2
     rw [hx2] at cb hx
     have ew : IntKind.i64.wrap (x2 : Int) = (x2 : Int) := by rw [IntKind.wrap_i64]; omega
     have cx := BM5.cell 33
     have fx := BM5.frozen 33
     have cx : v17w.cell? ⟨mb, 33, none⟩ = some (.int .i64 0) := cx.trans rfl
     clear hx hx2
     go_upto_region 18 with fail
     have ks := (Chg.refl v17w [mb]).setIn (k := mb) (by simp) 33 (.int .i64 (x2 : Int))
     have BM6 := (BM5.setCell 33 (.int .i64 (x2 : Int))).to (show _ = msC { { ms0 1 with ses := BB1 } with fr := (x2 : Int) } from ms_set_fr _ _)
     have R6 : RS _ r (.slice (some ⟨g, o, none⟩) A c) at2 o2 := RS.chg R5 ks (by have := HD.out; simp; omega)
     have RM6 := RM5.chg ks (by have := HD.out; simp; omega)
     have RF6 := RF5.chg ks (by have := HD.out; simp; omega)
     have C6 := C5.new ks (by have := HD.out; omega)
     clear R5 BM5 RM5 RF5 C5 Bv2 ks cb cx fx ew
     generalize v17w.setCell ⟨mb, 33, none⟩ (.int .i64 (x2 : Int)) = z17 at *
     have d1 := RS.c1 R6
     go_wp2_with fail
     clear d1
     refine (HTK.out at2 1 sToo o2 z17 HO2.out HE2.out.2.2 (by decide) C6 R6).mono ?_
     rintro e v18w ⟨v3, at3, rfl, hS3, R7, hle3, hat3, k3⟩
     obtain ⟨pv3, cv3, rfl, hp3⟩ := hS3.frm
     obtain ⟨gv3, ov3, rfl, hc3, hd3, Bv3⟩ := hp3 (by decide)
     have BM7 := BM6.chg k3 (by have := HD.out; simp; omega)
     have RM7 := RM6.chg k3 (by have := HD.out; simp; omega)
     have RF7 := RF6.chg k3 (by have := HD.out; simp; omega)
     have C7 := C6.new k3 HRC.out
     have HO3 : Hid (okO (tkO A at2 1 sToo o2)) := tkO_ok HO2.out sz_ne.2.2.1
     obtain ⟨o3, ho3⟩ : ∃ x, tkO A at2 1 sToo o2 = x := ⟨_, rfl⟩
     have HE3 : Hid (tkO A at2 1 sToo o2 = o3 ∧ (o3 = none → at3 = at2 + 1) ∧ at3 ≤ A) := ⟨ho3, by rw [← ho3]; exact hat3, hle3⟩
     rw [ho3] at R7 Bv3 HO3
     obtain ⟨BB3, hBB3⟩ : ∃ x, tkB o3 F at2 = x := ⟨_, rfl⟩
     have HBB3 : Hid (tkB o3 F at2 = BB3) := hBB3
     rw [hBB3] at Bv3
     have HG3 : Hid (gv3 < v18w.heap.size ∧ 1 ≤ cv3) := ⟨Bv3.lt, hc3⟩
     clear R6 BM6 RM6 RF6 C6 hS3 hp3 hat3 hle3 ho3 hBB3 k3 hc3 hd3
     have cb := Bv3.cell 0 (by decide)
     rw [Nat.add_zero] at cb
     have hx := Bv3.bd 0 (by decide)
     obtain ⟨x3, hx3⟩ : ∃ x, BB3 0 = x := ⟨_, rfl⟩
     have HX3 : Hid (BB3 0 = x3) := hx3
     rw [hx3] at cb hx
     have ew : IntKind.i64.wrap (x3 : Int) = (x3 : Int) := by rw [IntKind.wrap_i64]; omega
     have cx := BM7.cell 34
     have fx := BM7.frozen 34
     have cx : v18w.cell? ⟨mb, 34, none⟩ = some (.int .i64 0) := cx.trans rfl
     clear hx hx3
     go_upto_region 19 with fail
     have ks := (Chg.refl v18w [mb]).setIn (k := mb) (by simp) 34 (.int .i64 (x3 : Int))
     have BM8 := (BM7.setCell 34 (.int .i64 (x3 : Int))).to (show _ = msC { { { ms0 1 with ses := BB1 } with fr := (x2 : Int) } with «to» := (x3 : Int) } from ms_set_to _ _)
     have R8 : RS _ r (.slice (some ⟨g, o, none⟩) A c) at3 o3 := RS.chg R7 ks (by have := HD.out; simp; omega)
     have RM8 := RM7.chg ks (by have := HD.out; simp; omega)
     have RF8 := RF7.chg ks (by have := HD.out; simp; omega)
     have C8 := C7.new ks (by have := HD.out; omega)
     clear R7 BM7 RM7 RF7 C7 Bv3 ks cb cx fx ew
     generalize v18w.setCell ⟨mb, 34, none⟩ (.int .i64 (x3 : Int)) = z18 at *
     have HH3 : Hid (Hd3 A at1 at2 at3 o1 o2 o3) := hd3 HE1.out.1 HE1.out.2.1 HE2.out.1 HE2.out.2.1 HE3.out.1 HE3.out.2.1
     have HFN := fin1 (F := F) HH3.out
     have HFN1 : Hid (tlO A at3 o3 = bdW A F 1) := HFN.1
     have HOT : Hid (okO (tlO A at3 o3)) := tlO_ok HO3.out
     have HME : Hid (tlO A at3 o3 = none → msC ({ { { ms0 1 with ses := BB1 } with fr := (x2 : Int) } with «to» := (x3 : Int) }) = msC (rdM F 1)) := fun hq => by
       have hq := HFN.2 hq
       obtain ⟨q1, q2, q3, a1, a2, a3⟩ := hq
       rw [← HX2.out, ← HX3.out, ← HBB1.out, ← HBB2.out, ← HBB3.out, q1, q2, q3, a1, a2]
       rfl
     obtain ⟨MC, hMC⟩ : ∃ x, msC ({ { { ms0 1 with ses := BB1 } with fr := (x2 : Int) } with «to» := (x3 : Int) }) = x := ⟨_, rfl⟩
     have HMS : Hid (MC.size = 231 ∧ MC.all (·.oneCell') = true) := by rw [← hMC]; exact ⟨msC_size _, ms_oneC _ rfl rfl⟩
     rw [hMC] at HME BM8
     clear hMC HFN
     have d0 := RS.c0 R8
     have d1 := RS.c1 R8
     have HRX : Hid (RS z18 r (.slice (some ⟨g, o, none⟩) A c) at3 o3) := R8
     have HBX : Hid (Blk z18 mb MC 35 ∧ Blk z18 rm (msC (ms0 0)) 35 ∧ Blk z18 rf zRF 59) := ⟨BM8, RM8, RF8⟩
     have HCX : Hid (Chg w z18 []) := C8
     have HOV : Hid (okO o3) := HO3.out
     have HFL : Hid (∀ W, RS W r (.slice (some ⟨g, o, none⟩) A c) at3 o3 → Calls Tryz.prog 65 #[.pointer (some ⟨r, 0, none⟩), .string sTail, .int .i64 (at3 : Int), .int .i64 104] W fun e w' => e = .returned (.tuple #[]) ∧ RS w' r (.slice (some ⟨g, o, none⟩) A c) at3 (Option.or o3 (some (sTail, at3, 104))) ∧ Chg W w' [r]) := fun W h => fail_r r at3 104 at3 _ sTail _ HOV.out W h
     clear R8 BM8 RM8 RF8 C8
     go_wp2_with fail
     by_cases ht : at3 < A
     · have hI9 : (at3 : Int) < (A : Int) := by omega
       obtain ⟨⟨xs, xa, xy⟩, hx⟩ : ∃ y, Option.or o3 (some (sTail, at3, 104)) = some y := by cases o3 <;> exact ⟨_, rfl⟩
       have htl : tlO A at3 o3 = some (xs, xa, xy) := by unfold tlO; rw [if_pos ht]; exact hx
       have HBD : Hid (FrP n F xs xa xy) := HFB.out HEQ.out xs xa xy (by rw [← HFN1.out, htl])
       have HNE : Hid (xs.toList ≠ s0E.toList) := HOT.out (xs, xa, xy) htl
       have HXX : Hid (Option.or o3 (some (sTail, at3, 104)) = some (xs, xa, xy)) := hx
       clear ht hx htl
       go_quiet (fail)
       have Rq : RS (z18.drewN nq) r (.slice (some ⟨g, o, none⟩) A c) at3 o3 := Blk.drewN HRX.out nq
       clear d0 d1
       have d1 := RS.c1 Rq
       go_wp2_with fail
       refine (HFL.out _ Rq).mono ?_
       rintro e zf ⟨rfl, Re, kf⟩
       rw [HXX.out] at Re
       have RMe := (HBX.out.2.1.drewN nq).chg kf (by have := HD.out; simp; omega)
       have RFe := (HBX.out.2.2.drewN nq).chg kf (by have := HD.out; simp; omega)
       have Ce := (HCX.out.drewN nq).new kf HRC.out
       have h2 : zf.rangeAt r 2 (ftC xs xa xy).toList := RS.row Re
       clear d1 Rq kf
       go_wp2_with (refine load_pr rfl _ rfl r 2 rfl xs xa xy h2 ?_)
       refine (None_f xs xa xy HNE.out _).mono ?_
       rintro e zn ⟨rfl, kn⟩
       have Rn := Re.chg kn (by simp)
       have RMn := RMe.chg kn (by simp)
       have RFn := RFe.chg kn (by simp)
       have Cn := Ce.trans1 kn
       clear Re RMe RFe Ce kn h2
       go_wp2_with fail
       refine lt_begin (fun w' => RS w' r (.slice (some ⟨g, o, none⟩) A c) at3 (some (xs, xa, xy))) (fun _ => false) (by kernel_rfl) ?_
       have hHeld : RS zn.drew r (.slice (some ⟨g, o, none⟩) A c) at3 (some (xs, xa, xy)) := Blk.drew Rn
       have RMd := RMn.drew
       have RFd := RFn.drew
       have Cd := Cn.drew
       clear Rn RMn RFn Cn
       generalize zn.drew = zd at *
       refine lv (.agg (msC (ms0 0))) 0 (some 238) rfl (fun w => ?_) ?_
       · exact exec_build0D w 35 rfl (msC (ms0 0)) builtM0
       try simp only [Act.put, sA]
       refine lv ?_ 1 (some 239) rfl (fun w => ?_) ?_; rotate_left; (· (go_simp; try with_reducible rfl)); try simp only [Act.put, sA]
       refine lv ?_ 2 (some 240) rfl (fun w => ?_) ?_; rotate_left; (· (go_simp; try with_reducible rfl)); try simp only [Act.put, sA]
       refine lv ?_ 3 (some 241) rfl (fun w => ?_) ?_; rotate_left; (· (go_simp; try with_reducible rfl)); try simp only [Act.put, sA]
       refine lr (.agg (ftC xs xa xy)) 4 (some 242) rfl (fun w hSw => ?_) hHeld ?_
       · exact exec_load_m w 59 (.tmp 241) rfl r 2 rfl (ftC xs xa xy).toList _ (RS.row hSw) Tryz.underlying59 rfl (by exact rFltInfo)
       try simp only [Act.put, sA]
       refine lt_one 5 rfl (by kernel_rfl) rfl (fun K hK => ?_)
       refine wp_store_w RMd 35 (.tmp 2) (.tmp 238) (msC (ms0 0)) rfl rfl rfl (msW _) rfl (ms_oneC _ rfl rfl) (fun ze RMf kze => ?_)
       refine hK.out _ _ (fun _ h => RS.chg h kze (by have := HD.out; simp; omega)) ?_
       clear hK K
       try simp only [Act.put, sA]
       refine lt_one 6 rfl (by kernel_rfl) rfl (fun K hK => ?_)
       refine wp_store_w (RFd.chg kze (by have := HD.out; simp; omega)) 59 (.tmp 3) (.tmp 242) (ftC xs xa xy) rfl rfl rfl (by exact rFltInfo) rfl (ftC_one _ _ _) (fun zf RFf kzf => ?_)
       refine hK.out _ _ (fun _ h => RS.chg h kzf (by have := HD.out; simp; omega)) ?_
       clear hK K
       try simp only [Act.put, sA]
       refine lt_done (by kernel_rfl) ?_ _
       go_wp2_with fail
       have RMg := RMf.chg kzf (by have := HD.out; simp; omega)
       exact bodyPost_ret (results_ccR Tryz.results16 _ _ rm rf 35 59 (msC (ms0 0)) (ftC xs xa xy) _ _ rfl rfl RMg RFf Tryz.underlying35 rfl (msW _) Tryz.underlying59 rfl (by exact rFltInfo)) rfl
         ⟨Or.inl ⟨xs, xa, xy, HBD.out, rfl⟩, (Cd.new kze HD.out.2.2.2.2).new kzf (by have := HD.out; omega)⟩
     · have hI9 : ¬ (at3 : Int) < (A : Int) := by omega
       have htl : tlO A at3 o3 = o3 := by unfold tlO; rw [if_neg ht]
       go_quiet (fail)
       have Re : RS (z18.drewN nq) r (.slice (some ⟨g, o, none⟩) A c) at3 o3 := Blk.drewN HRX.out nq
       have RMe := HBX.out.2.1.drewN nq
       have RFe := HBX.out.2.2.drewN nq
       have BMe := HBX.out.1.drewN nq
       have Ce := HCX.out.drewN nq
       rw [htl] at HFN1 HOT HME
       clear d0 d1 htl ht HFL HOV HCX HBX HRX
       generalize z18.drewN nq = zq at *
       obtain ⟨oF, hoF⟩ : ∃ y, o3 = y := ⟨_, rfl⟩
       rw [hoF] at HFN1 HOT HME Re
       clear hoF
       cases oF with
       | some y =>
         obtain ⟨xs, xa, xy⟩ := y
         have HBD : Hid (FrP n F xs xa xy) := HFB.out HEQ.out xs xa xy HFN1.out.symm
         have HNE : Hid (xs.toList ≠ s0E.toList) := HOT.out (xs, xa, xy) rfl
         have h2 : zq.rangeAt r 2 (ftC xs xa xy).toList := RS.row Re
         clear BMe
         go_wp2_with (refine load_pr rfl _ rfl r 2 rfl xs xa xy h2 ?_)
         refine (None_f xs xa xy HNE.out _).mono ?_
         rintro e zn ⟨rfl, kn⟩
         have Rn := Re.chg kn (by simp)
         have RMn := RMe.chg kn (by simp)
         have RFn := RFe.chg kn (by simp)
         have Cn := Ce.trans1 kn
         clear Re RMe RFe Ce kn h2
         go_wp2_with fail
         refine lt_begin (fun w' => RS w' r (.slice (some ⟨g, o, none⟩) A c) at3 (some (xs, xa, xy))) (fun _ => false) (by kernel_rfl) ?_
         have hHeld : RS zn.drew r (.slice (some ⟨g, o, none⟩) A c) at3 (some (xs, xa, xy)) := Blk.drew Rn
         have RMd := RMn.drew
         have RFd := RFn.drew
         have Cd := Cn.drew
         clear Rn RMn RFn Cn
         generalize zn.drew = zd at *
         refine lv (.agg (msC (ms0 0))) 0 (some 238) rfl (fun w => ?_) ?_
         · exact exec_build0D w 35 rfl (msC (ms0 0)) builtM0
         try simp only [Act.put, sA]
         refine lv ?_ 1 (some 239) rfl (fun w => ?_) ?_; rotate_left; (· (go_simp; try with_reducible rfl)); try simp only [Act.put, sA]
         refine lv ?_ 2 (some 240) rfl (fun w => ?_) ?_; rotate_left; (· (go_simp; try with_reducible rfl)); try simp only [Act.put, sA]
         refine lv ?_ 3 (some 241) rfl (fun w => ?_) ?_; rotate_left; (· (go_simp; try with_reducible rfl)); try simp only [Act.put, sA]
         refine lr (.agg (ftC xs xa xy)) 4 (some 242) rfl (fun w hSw => ?_) hHeld ?_
         · exact exec_load_m w 59 (.tmp 241) rfl r 2 rfl (ftC xs xa xy).toList _ (RS.row hSw) Tryz.underlying59 rfl (by exact rFltInfo)
         try simp only [Act.put, sA]
         refine lt_one 5 rfl (by kernel_rfl) rfl (fun K hK => ?_)
         refine wp_store_w RMd 35 (.tmp 2) (.tmp 238) (msC (ms0 0)) rfl rfl rfl (msW _) rfl (ms_oneC _ rfl rfl) (fun ze RMf kze => ?_)
         refine hK.out _ _ (fun _ h => RS.chg h kze (by have := HD.out; simp; omega)) ?_
         clear hK K
         try simp only [Act.put, sA]
         refine lt_one 6 rfl (by kernel_rfl) rfl (fun K hK => ?_)
         refine wp_store_w (RFd.chg kze (by have := HD.out; simp; omega)) 59 (.tmp 3) (.tmp 242) (ftC xs xa xy) rfl rfl rfl (by exact rFltInfo) rfl (ftC_one _ _ _) (fun zf RFf kzf => ?_)
         refine hK.out _ _ (fun _ h => RS.chg h kzf (by have := HD.out; simp; omega)) ?_
         clear hK K
         try simp only [Act.put, sA]
         refine lt_done (by kernel_rfl) ?_ _
         go_wp2_with fail
         have RMg := RMf.chg kzf (by have := HD.out; simp; omega)
         exact bodyPost_ret (results_ccR Tryz.results16 _ _ rm rf 35 59 (msC (ms0 0)) (ftC xs xa xy) _ _ rfl rfl RMg RFf Tryz.underlying35 rfl (msW _) Tryz.underlying59 rfl (by exact rFltInfo)) rfl
           ⟨Or.inl ⟨xs, xa, xy, HBD.out, rfl⟩, (Cd.new kze HD.out.2.2.2.2).new kzf (by have := HD.out; omega)⟩
       | none =>
         have h2 : zq.rangeAt r 2 (ftC s0E 0 0).toList := RS.row Re
         have HBD : Hid (FrR n F w.heap.size (rdM F 1) w → True) := fun _ => trivial
         go_wp2_with (refine load_pr rfl _ rfl r 2 rfl s0E 0 0 h2 ?_)
         refine (None_0 0 0 _).mono ?_
         rintro e zn ⟨rfl, kn⟩
         have BMn := BMe.chg kn (by simp)
         have RMn := RMe.chg kn (by simp)
         have RFn := RFe.chg kn (by simp)
         have Cn := Ce.trans1 kn
         clear Re RMe RFe BMe Ce kn h2
         go_wp2_with (first
           | (refine wpList_load_row rfl 35 _ rfl mb rfl 35 _ (0, 0) _ BMn Tryz.underlying35 rfl (by rw [HMS.out.1]; exact msInfoW) ?_)
           | (refine wpList_buildW rfl 59 _ rfl (ftC s0E 0 0) builtRFz ?_)
           | (refine store_w RFx rfl 59 _ _ (ftC s0E 0 0) rfl rfl rfl (by exact rFltInfo) rfl (ftC_one _ _ _) ?_; intro zf RFf kzf)
           | (refine store_w RMn rfl 35 _ _ MC rfl rfl rfl (by rw [HMS.out.1]; exact msInfoW) (by rw [HMS.out.1]; exact msC_size _) HMS.out.2 ?_; intro ze RMf kze; have RFx := RFn.chg kze (by have := HD.out; simp; omega)))
         have RMg := RMf.chg kzf (by have := HD.out; simp; omega)
         exact bodyPost_ret (results_ccR Tryz.results16 _ _ rm rf 35 59 MC (ftC s0E 0 0) _ _ rfl rfl RMg RFf Tryz.underlying35 rfl (by rw [HMS.out.1]; exact msInfoW) Tryz.underlying59 rfl (by exact rFltInfo)) rfl
           ⟨Or.inr ⟨w.heap.size, rdM F 1, Nat.le_refl _, by rw [HME.out (by first | trivial | rfl)], rdM_1 F 1, HFR.out HEQ.out _ _ HFN1.out.symm⟩, (Cn.new kze HD.out.2.2.2.2).new kzf (by have := HD.out; omega)⟩
end Go.Proofs.YtgjclegpnbjlkaaGreatDoor

set_option linter.all false
namespace Go.Proofs.YtgjclegpnbjlkaaGreatDoor
set_option maxHeartbeats 16000000
set_option maxRecDepth 100000
open Go.RowKit
theorem HdP.ne0 {n : Nat} {F : Nat → Nat} {s : ByteArray} {a y : Nat} (h : HdP n F s a y) : s.toList ≠ s0E.toList := by
 rcases h with ⟨i, hi, _, ⟨_, rfl, _⟩ | ⟨_, _, rfl, _⟩⟩ | ⟨_, ⟨_, rfl, _⟩ | ⟨_, _, rfl, _⟩ | ⟨_, ⟨_, rfl, _⟩ | ⟨_, _, rfl, _⟩ | ⟨_, ⟨_, _, rfl, _⟩ | ⟨_, _, rfl, _⟩⟩⟩⟩ <;> exact ne_s0 (List.cons_ne_nil _ _)
theorem RDec_bad (v : Value) (n : Nat) (F : Nat → Nat) (hb : ¬ (HdG n F ∧ n = 14 + nm F 6 4)) (w : World) (hv : Sl w v n F) :
   Calls Tryz.prog 16 #[v] w fun e w' => RDq n F w e w' := by
 obtain ⟨p, c, rfl⟩ := slFm hv
 have HPK : Hid (∀ W, Chg w W [] → Calls Tryz.prog 18 #[.slice p n c] W fun e w' => RPk n F W e w') := fun W k => Peek_r _ n F W (hv.chg k (by simp [Off]))
 have HBD : Hid (¬ (HdG n F ∧ n = 14 + nm F 6 4)) := hb
 clear hv hb
 go_enter Tryz.func16, Tryz.ntmps16
 go_upto_region 1 with (first
   | (with_reducible refine alloc_w rfl 35 rfl (.agg (msC (ms0 0))) zeroMsg (msC (ms0 0)) rfl ?_; intro rm w1 hrm RM k1)
   | (with_reducible refine alloc_w rfl 59 rfl (.agg zRF) zeroRF2 zRF rfl ?_; intro rf w2 hrf RF k2))
 have HD0 : Hid (w.heap.size ≤ rm ∧ rm < rf) := ⟨hrm, by have := RM.lt; omega⟩
 have RM2 := RM.chg k2 (by simp)
 have C2 := k1.trans1 k2
 clear RM k1 k2 hrm hrf
 go_wp2_with fail
 refine (HPK.out w2 C2).mono ?_
 rintro e w3 ⟨⟨s, a, y, hp, rfl⟩ | ⟨hg, rfl⟩, k3⟩
 · have HNE : Hid (s.toList ≠ s0E.toList) := hp.ne0
   have HFP : Hid (FrP n F s a y) := Or.inl hp
   have RM3 := RM2.chg k3 (by simp)
   have RF3 := RF.chg k3 (by simp)
   have C3 := C2.trans1 k3
   clear RM2 RF C2 k3 hp
   go_wp2_with (first
     | (refine wpList_load_row rfl 59 _ rfl pb rfl 59 _ (0, 0) _ P5 Tryz.underlying59 rfl (by exact rFltInfo) ?_)
     | (refine store_w P4 rfl 59 _ _ (ftC s a y) rfl rfl rfl (by exact rFltInfo) (by rfl) (ftC_one _ _ _) ?_; intro w5 P5 k5)
     | (with_reducible refine alloc_w rfl 59 rfl (.agg zRF) zeroRF2 zRF rfl ?_; intro pb w4 hpb P4 k4))
   have k35 := k4.new k5 hpb
   have RM5 := RM3.chg k35 (by simp)
   have RF5 := RF3.chg k35 (by simp)
   have C5 := C3.trans1 k35
   have HPB : Hid (rm < pb ∧ rf < pb) := ⟨by have := RM3.lt; omega, by have := RF3.lt; omega⟩
   clear RM3 RF3 C3 k4 k5 k35 hpb P4
   refine (None_f s a y HNE.out w5).mono ?_
   rintro e w6 ⟨rfl, k6⟩
   have P6 := P5.chg k6 (by simp)
   have RM6 := RM5.chg k6 (by simp)
   have RF6 := RF5.chg k6 (by simp)
   have C6 := C5.trans1 k6
   clear RM5 RF5 C5 k6 P5
   go_wp2_with fail
   refine lt_begin (fun w' => Blk w' pb (ftC s a y) 59) (fun _ => false) (by kernel_rfl) ?_
   have hHeld : Blk w6.drew pb (ftC s a y) 59 := P6.drew
   have RMd := RM6.drew
   have RFd := RF6.drew
   have Cd := C6.drew
   clear P6 RM6 RF6 C6
   generalize w6.drew = zd at *
   refine lv (.agg (msC (ms0 0))) 0 (some 25) rfl (fun w => ?_) ?_
   · exact exec_build0D w 35 rfl (msC (ms0 0)) builtM0
   try simp only [Act.put, sA]
   refine lr (.agg (ftC s a y)) 1 (some 26) rfl (fun w hSw => ?_) hHeld ?_
   · exact exec_load_m w 59 (.tmp 6) rfl pb 0 rfl [.string s, .int .i64 (a : Int), .int .i64 (y : Int)] _ (Blk.rowRP hSw) Tryz.underlying59 rfl (by exact rFltInfo)
   try simp only [Act.put, sA]
   refine lt_one 2 rfl (by kernel_rfl) rfl (fun K hK => ?_)
   refine wp_store_w RMd 35 (.tmp 2) (.tmp 25) (msC (ms0 0)) rfl rfl rfl (msW _) rfl (ms_oneC _ rfl rfl) (fun ze RMf kze => ?_)
   refine hK.out _ _ (fun _ h => Blk.chg h kze (by have := HPB.out; simp; omega)) ?_
   clear hK K
   try simp only [Act.put, sA]
   refine lt_one 3 rfl (by kernel_rfl) rfl (fun K hK => ?_)
   refine wp_store_w (RFd.chg kze (by have := HD0.out; simp; omega)) 59 (.tmp 3) (.tmp 26) (ftC s a y) rfl rfl rfl (by exact rFltInfo) rfl (ftC_one _ _ _) (fun zf RFf kzf => ?_)
   refine hK.out _ _ (fun _ h => Blk.chg h kzf (by have := HPB.out; simp; omega)) ?_
   clear hK K
   try simp only [Act.put, sA]
   refine lt_done (by kernel_rfl) ?_ _
   go_wp2_with fail
   have RMg := RMf.chg kzf (by have := HD0.out; simp; omega)
   exact bodyPost_ret (results_ccR Tryz.results16 _ _ rm rf 35 59 (msC (ms0 0)) (ftC s a y) _ _ rfl rfl RMg RFf Tryz.underlying35 rfl (msW _) Tryz.underlying59 rfl (by exact rFltInfo)) rfl
     ⟨Or.inl ⟨s, a, y, HFP.out, rfl⟩, (Cd.new kze HD0.out.1).new kzf (by have := HD0.out; omega)⟩
 · have HGD : Hid (HdG n F) := hg
   obtain ⟨Z, hZ⟩ : ∃ z, 14 + nm F 6 4 = z := ⟨_, rfl⟩
   have HZ : Hid (14 + nm F 6 4 = Z) := hZ
   obtain ⟨x5, hx5⟩ : ∃ x, F 5 = x := ⟨_, rfl⟩
   rw [hZ, hx5]
   have RM3 := RM2.chg k3 (by simp)
   have RF3 := RF.chg k3 (by simp)
   have C3 := C2.trans1 k3
   have hne : ¬ n = Z := fun e => HBD.out ⟨HGD.out, by rw [HZ.out]; exact e⟩
   clear RM2 RF C2 k3 hg hZ hx5
   rcases Nat.lt_or_gt_of_ne hne with hlt | hgt
   · have hI1 : (n : Int) < (Z : Int) := by omega
     have HFP : Hid (FrP n F sFrame n 3) := Or.inr ⟨HGD.out, Or.inl ⟨by rw [HZ.out]; exact hlt, rfl, rfl, rfl⟩⟩
     clear hlt hne
     go_wp2_with (first
       | (refine wpList_load_row rfl 59 _ rfl pb rfl 59 _ (0, 0) _ P5 Tryz.underlying59 rfl (by exact rFltInfo) ?_)
       | (refine store_w P4 rfl 59 _ _ (ftC s0E 0 0) rfl rfl rfl (by exact rFltInfo) (by rfl) (ftC_one _ _ _) ?_; intro w5 P5 k5)
       | (with_reducible refine alloc_w rfl 59 rfl (.agg zRF) zeroRF2 zRF rfl ?_; intro pb w4 hpb P4 k4))
     have k35 := k4.new k5 hpb
     have RM5 := RM3.chg k35 (by simp)
     have RF5 := RF3.chg k35 (by simp)
     have C5 := C3.trans1 k35
     clear RM3 RF3 C3 k4 k5 k35 hpb P4 P5
     refine (None_0 0 0 w5).mono ?_
     rintro e w6 ⟨rfl, k6⟩
     have RM := RM5.chg k6 (by simp)
     have RF := RF5.chg k6 (by simp)
     have C := C5.trans1 k6
     clear RM5 RF5 C5 k6
     go_wp2_with (first
       | (refine store_w RF2 rfl 59 _ _ (ftC sFrame n 3) rfl rfl rfl (by exact rFltInfo) rfl (ftC_one _ _ _) ?_; intro z7 RF7 kz7)
       | (refine store_w RM rfl 35 _ _ (msC (ms0 0)) rfl rfl rfl (msW _) rfl (ms_oneC _ rfl rfl) ?_; intro z6 RM6 kz6; have RF2 := RF.chg kz6 (by have := HD0.out; simp; omega))
       | (refine wpList_buildW rfl 35 _ rfl (msC (ms0 0)) builtM0 ?_))
     have RM7 := RM6.chg kz7 (by have := HD0.out; simp; omega)
     exact bodyPost_ret (results_ccR Tryz.results16 _ _ rm rf 35 59 (msC (ms0 0)) (ftC sFrame n 3) _ _ rfl rfl RM7 RF7 Tryz.underlying35 rfl (msW _) Tryz.underlying59 rfl (by exact rFltInfo)) rfl
       ⟨Or.inl ⟨sFrame, n, 3, HFP.out, rfl⟩, (C.new kz6 HD0.out.1).new kz7 (by have := HD0.out; omega)⟩
   · have hI1 : ¬ (n : Int) < (Z : Int) := by omega
     have hI2 : (Z : Int) < (n : Int) := by omega
     have HFP : Hid (FrP n F sTail Z 104) := Or.inr ⟨HGD.out, Or.inr (Or.inl ⟨by rw [HZ.out]; exact hgt, rfl, HZ.out.symm, rfl⟩)⟩
     clear hgt hne
     go_wp2_with (first
       | (refine wpList_load_row rfl 59 _ rfl pb rfl 59 _ (0, 0) _ P5 Tryz.underlying59 rfl (by exact rFltInfo) ?_)
       | (refine store_w P4 rfl 59 _ _ (ftC s0E 0 0) rfl rfl rfl (by exact rFltInfo) (by rfl) (ftC_one _ _ _) ?_; intro w5 P5 k5)
       | (with_reducible refine alloc_w rfl 59 rfl (.agg zRF) zeroRF2 zRF rfl ?_; intro pb w4 hpb P4 k4))
     have k35 := k4.new k5 hpb
     have RM5 := RM3.chg k35 (by simp)
     have RF5 := RF3.chg k35 (by simp)
     have C5 := C3.trans1 k35
     clear RM3 RF3 C3 k4 k5 k35 hpb P4 P5
     refine (None_0 0 0 w5).mono ?_
     rintro e w6 ⟨rfl, k6⟩
     have RM := RM5.chg k6 (by simp)
     have RF := RF5.chg k6 (by simp)
     have C := C5.trans1 k6
     clear RM5 RF5 C5 k6
     go_wp2_with (first
       | (refine store_w RF2 rfl 59 _ _ (ftC sTail Z 104) rfl rfl rfl (by exact rFltInfo) rfl (ftC_one _ _ _) ?_; intro z7 RF7 kz7)
       | (refine store_w RM rfl 35 _ _ (msC (ms0 0)) rfl rfl rfl (msW _) rfl (ms_oneC _ rfl rfl) ?_; intro z6 RM6 kz6; have RF2 := RF.chg kz6 (by have := HD0.out; simp; omega))
       | (refine wpList_buildW rfl 35 _ rfl (msC (ms0 0)) builtM0 ?_))
     have RM7 := RM6.chg kz7 (by have := HD0.out; simp; omega)
     exact bodyPost_ret (results_ccR Tryz.results16 _ _ rm rf 35 59 (msC (ms0 0)) (ftC sTail Z 104) _ _ rfl rfl RM7 RF7 Tryz.underlying35 rfl (msW _) Tryz.underlying59 rfl (by exact rFltInfo)) rfl
       ⟨Or.inl ⟨sTail, Z, 104, HFP.out, rfl⟩, (C.new kz6 HD0.out.1).new kz7 (by have := HD0.out; omega)⟩
end Go.Proofs.YtgjclegpnbjlkaaGreatDoor
