import Derived.Test.YtgjclegpnbjlkaaGreatDoorWDt
set_option linter.all false
namespace Go.Proofs.YtgjclegpnbjlkaaGreatDoor
set_option maxHeartbeats 16000000
set_option maxRecDepth 100000
open Go.RowKit
theorem RDec_3f (g o n c A : Nat) (F : Nat → Nat) (hA : A = 10 + nm F 6 4) (hn : n = A + 4) (hG : HdG n F) (hK : F 5 = 3) (hc : n ≤ c) (hc2 : c ≤ 9223372036854775807) (w : World) (hB : Bs w g o n F) (hX : 45 ≤ A ∧ (∀ i, i < F 44 → prW A (45 + 65 * i) (F (45 + 65 * i)) = 0) ∧ (45 + 65 * F 44) + 4 + nm F (45 + 65 * F 44) 4 < A ∧ nm F (45 + 65 * F 44) 4 ≤ 1048575) :
   Calls Tryz.prog 16 #[.slice (some ⟨g, o, none⟩) n c] w fun e w' => RDq n F w e w' := by
 have HPK := pkH 3 (by omega) hA hn hG hc hc2 hB
 have h4 : nm F 6 4 ≤ 1065189 := hG.2.2.2.2
 have HSM := smH hA hn h4 hc hc2 hB
 have HFP := fpH hA hn hG
 have HFB : Hid (eqnW 4 (sha F A) (fun j => F (A + j)) = true → ∀ s a y, Bd3 A F s a y → FrP n F s a y) := fun q s a y hb => Or.inr ⟨hG, Or.inr (Or.inr ⟨by omega, Or.inr ⟨by rw [← hA]; exact q, by rw [← hA, hK]; unfold BdP; rw [if_pos rfl]; exact hb⟩⟩)⟩
 have HFR : Hid (eqnW 4 (sha F A) (fun j => F (A + j)) = true → Pk3 A F → ∀ B vl vt w', OwnR w' B 27 65 vl (F 44) (lsF F 45) → Own w' B vt (nm F (45 + 65 * F 44) 4) (fun j => F ((45 + 65 * F 44) + 4 + j)) → FrR n F B { rd0 F 3 with list := vl, text := vt } w') := fun q hp B vl vt w' h1 h2 => ⟨hG, by omega, by rw [← hA]; exact q, by rw [← hA, hK]; unfold BdR; rw [if_pos rfl]; exact ⟨hp, vl, vt, rfl, h1, h2⟩⟩
 have HX0 : Hid (45 ≤ A ∧ (∀ i, i < F 44 → prW A (45 + 65 * i) (F (45 + 65 * i)) = 0) ∧ (45 + 65 * F 44) + 4 + nm F (45 + 65 * F 44) 4 < A ∧ nm F (45 + 65 * F 44) 4 ≤ 1048575) := hX
 have HA : Hid (n = A + 4 ∧ 10 ≤ A ∧ A ≤ 1065199 ∧ n ≤ c ∧ c ≤ 9223372036854775807) := ⟨hn, by omega, by omega, hc, hc2⟩
 have HB : Hid (∀ W, Chg w W [] → Bs W g o n F) := fun W k => hB.chg k (by simp)
 have HGL : Hid (g < w.heap.size) := hB.lt
 clear hA hn hG hK hc hc2 hB h4 hX
 go_enter Tryz.func16, Tryz.ntmps16
 go_upto_region 1 with (first
   | (with_reducible refine alloc_w rfl 35 rfl (.agg (msC (ms0 0))) zeroMsg (msC (ms0 0)) rfl ?_; intro rm w1 hrm RM k1)
   | (with_reducible refine alloc_w rfl 59 rfl (.agg zRF) zeroRF2 zRF rfl ?_; intro rf w2 hrf RF k2))
 have HD0 : Hid (w.heap.size ≤ rm ∧ rm < rf) := ⟨hrm, by have := RM.lt; omega⟩
 have RM2 := RM.chg k2 (by simp)
 have C2 := k1.trans1 k2
 clear RM k1 k2 hrm hrf
 go_wp2_with fail
 refine (HPK.out w2 C2).mono ?_
 rintro e w3 ⟨rfl, k3⟩
 have RM3 := RM2.chg k3 (by simp)
 have RF3 := RF.chg k3 (by simp)
 have C3 := C2.trans1 k3
 clear RM2 RF C2 k3
 have hI1 : ¬ (n : Int) < (n : Int) := by omega
 go_wp2_with (first
   | (refine wpList_load_row rfl 59 _ rfl pb rfl 59 _ (0, 0) _ P5 Tryz.underlying59 rfl (by exact rFltInfo) ?_)
   | (refine store_w P4 rfl 59 _ _ (ftC s0E 0 0) rfl rfl rfl (by exact rFltInfo) (by rfl) (ftC_one _ _ _) ?_; intro w5 P5 k5)
   | (with_reducible refine alloc_w rfl 59 rfl (.agg zRF) zeroRF2 zRF rfl ?_; intro pb w4 hpb P4 k4))
 have k35 := k4.new k5 hpb
 have RM5 := RM3.chg k35 (by simp)
 have RF5 := RF3.chg k35 (by simp)
 have C5 := C3.trans1 k35
 clear RM3 RF3 C3 k4 k5 k35 hpb P4 P5
 refine (None_0 0 0 w5).mono ?_
 rintro e w6 ⟨rfl, k6⟩
 have RM6 := RM5.chg k6 (by simp)
 have RF6 := RF5.chg k6 (by simp)
 have C6 := C5.trans1 k6
 clear RM5 RF5 C5 k6
 have e4 : IntKind.i64.wrap ((n : Int) - 4) = (A : Int) := by have := HA.out; rw [IntKind.wrap_i64]; omega
 have l1 : (0 : Int) ≤ (A : Int) := by omega
 have l2 : (A : Int) ≤ (c : Int) := by have := HA.out; omega
 go_wp2_with fail
 refine (HSM.out w6 C6).mono ?_
 rintro e w7 ⟨rfl, k7⟩
 have RM7 := RM6.chg k7 (by simp)
 have RF7 := RF6.chg k7 (by simp)
 have C7 := C6.trans1 k7
 obtain ⟨DD, hDD⟩ : ∃ DD, yC 64 (sha F A) = DD := ⟨_, rfl⟩
 have HDD : Hid (∀ i, i < 64 → DD[i]? = some (.int .u8 ((sha F A i : Nat) : Int))) := fun i hi => hDD ▸ yC_get 64 _ i hi
 have HDS : Hid (DD.size = 64 ∧ DD.all (·.oneCell') = true) := hDD ▸ ⟨yC_size _ _, yC_one _ _⟩
 rw [hDD]
 clear RM6 RF6 C6 k7 hDD
 go_wp2_with (first
   | (refine store_w D8 rfl 143 _ _ DD rfl rfl rfl (by rw [HDS.out.1]; exact dgInfo) (by rw [HDS.out.1, yC_size]) HDS.out.2 ?_; intro w9 D9 k9)
   | (with_reducible refine alloc_w rfl 143 rfl (.agg (yC 64 (fun _ => 0))) zeroDg (yC 64 (fun _ => 0)) rfl ?_; intro db w8 hdb D8 k8))
 have k79 := k8.new k9 hdb
 have RM9 := RM7.chg k79 (by simp)
 have RF9 := RF7.chg k79 (by simp)
 have C9 := C7.trans1 k79
 have HDB : Hid (rm < db ∧ rf < db) := ⟨by have := RM7.lt; omega, by have := RF7.lt; omega⟩
 clear RM7 RF7 C7 k8 k9 k79 hdb D8
 go_loopw [8] (fun t wr => ∃ i : Nat, i ≤ 4 ∧ t = .int .i64 (i : Int) ∧ Chg w9 wr [] ∧ ∀ j, j < i → sha F A j = F (A + j)) (fun t _ => (4 - intOf t).toNat)
 case atStart => exact ⟨0, by omega, rfl, Chg.refl _ _, fun j hj => by omega⟩
 case round =>
   obtain ⟨i, hi, rfl, cc, hj⟩ := hrel
   have RM := RM9.chg cc (by simp)
   have RF := RF9.chg cc (by simp)
   have D := D9.chg cc (by simp)
   have C := C9.trans1 cc
   have HJ : Hid (∀ j, j < i → sha F A j = F (A + j)) := hj
   have HCC : Hid (Chg w9 wr []) := cc
   clear RM9 RF9 D9 C9 hj cc
   by_cases h8 : i < 4
   · have hI : (i : Int) < 4 := by omega
     have HI : Hid (i < 4) := h8
     have e1 : IntKind.i64.wrap ((i : Int) + 1) = (i : Int) + 1 := by rw [IntKind.wrap_i64]; omega
     obtain ⟨q, hq⟩ : ∃ q : Nat, A + i = q := ⟨_, rfl⟩
     have HQ : Hid (A + i = q) := hq
     have e5 : IntKind.i64.wrap ((A : Int) + (i : Int)) = (q : Int) := by have := HA.out; rw [IntKind.wrap_i64]; omega
     have e6 : (A : Int) + (i : Int) = (q : Int) := by omega
     have e7 : IntKind.i64.wrap (q : Int) = (q : Int) := by have := HA.out; rw [IntKind.wrap_i64]; omega
     have q1 : (q : Int) < (n : Int) := by have := HA.out; omega
     have q2 : (0 : Int) ≤ (q : Int) := by omega
     have q3 : i < 64 := by omega
     have q4 : (i : Int) < 64 := by omega
     have q5 : (0 : Int) ≤ (i : Int) := by omega
     have HM : Hid ((4 - intOf (.int .i64 ((i : Int) + 1))).toNat < (4 - intOf (.int .i64 (i : Int))).toNat) := by show (4 - intOf (.int .i64 ((i : Int) + 1))).toNat < (4 - intOf (.int .i64 (i : Int))).toNat; simp [intOf]; omega
     have cb := (HB.out wr C).cell q (by have := HA.out; omega)
     have cd := (D.cell i).trans (HDD.out i q3)
     obtain ⟨x, hx⟩ : ∃ x, F q = x := ⟨_, rfl⟩
     obtain ⟨y, hy⟩ : ∃ y, sha F A i = y := ⟨_, rfl⟩
     have HXY : Hid (F (A + i) = x ∧ sha F A i = y) := ⟨by rw [hq]; exact hx, hy⟩
     rw [hx] at cb
     rw [hy] at cd
     clear hx hy hi h8 hq D
     by_cases hxy : x = y
     · subst hxy
       go_wp2_with fail
       go_quiet (fail)
       go_wp2_with fail
       exact ⟨⟨i + 1, HI.out, by go_num, HCC.out.drewN _, fun j hj => by
         by_cases h : j = i
         · subst h; exact HXY.out.2.trans HXY.out.1.symm
         · exact HJ.out j (by omega)⟩, HM.out⟩
     · have hne : ¬ (x : Int) = (y : Int) := by omega
       have HEF : Hid (FrP n F sSum A 103) := HFP.out (by
         cases he : eqnW 4 (sha F A) (fun j => F (A + j)) with
         | false => rfl
         | true => exact absurd (((eqnW_iff _ _ _).1 he i HI.out).symm.trans HXY.out.2 |>.symm.trans HXY.out.1 |>.symm) hxy)
       clear hxy
       go_wp2_with fail
       go_quiet (fail)
       have RM := RM.drewN nq
       have RF := RF.drewN nq
       have C := C.drewN nq
       go_wp2_with (first
         | (refine store_w RF2 rfl 59 _ _ (ftC sSum A 103) rfl rfl rfl (by exact rFltInfo) rfl (ftC_one _ _ _) ?_; intro z7 RF7 kz7)
         | (refine store_w RM rfl 35 _ _ (msC (ms0 0)) rfl rfl rfl (msW _) rfl (ms_oneC _ rfl rfl) ?_; intro z6 RM6 kz6; have RF2 := RF.chg kz6 (by have := HD0.out; simp; omega))
         | (refine wpList_buildW rfl 35 _ rfl (msC (ms0 0)) builtM0 ?_))
       have RM7 := RM6.chg kz7 (by have := HD0.out; simp; omega)
       exact bodyPost_ret (results_ccR Tryz.results16 _ _ rm rf 35 59 (msC (ms0 0)) (ftC sSum A 103) _ _ rfl rfl RM7 RF7 Tryz.underlying35 rfl (msW _) Tryz.underlying59 rfl (by exact rFltInfo)) rfl
         ⟨Or.inl ⟨sSum, A, 103, HEF.out, rfl⟩, (C.new kz6 HD0.out.1).new kz7 (by have := HD0.out; omega)⟩
   · obtain rfl : i = 4 := by omega
     have hI : ¬ ((4 : Nat) : Int) < 4 := by omega
     have HEQ : Hid (eqnW 4 (sha F A) (fun j => F (A + j)) = true) := (eqnW_iff _ _ _).2 HJ.out
     have HSZ : Hid (rm < wr.heap.size ∧ rf < wr.heap.size) := ⟨RM.lt, RF.lt⟩
     clear hi h8 D HDB
     go_upto_region 15 with (first
       | (refine wpList_buildW rfl 147 _ rfl (rrC (.slice (some ⟨g, o, none⟩) A c) 10 none) (builtRR g o A c) ?_)
       | (refine box_w rfl 147 _ rfl (rrC (.slice (some ⟨g, o, none⟩) A c) 10 none) rfl ?_; intro r y1 hr R0 ky1))
     have RM0 := RM.chg ky1 (by simp)
     have RF0 := RF.chg ky1 (by simp)
     have C0 := C.trans1 ky1
     have HRL : Hid (rf < r ∧ rm < r) := by have := HSZ.out; exact ⟨by omega, by omega⟩
     have HRC : Hid (w.heap.size ≤ r) := by have := HD0.out; have := HRL.out; show w.heap.size ≤ r; omega
     have R0 : RS y1 r (.slice (some ⟨g, o, none⟩) A c) 10 none := R0
     clear RM RF C ky1 hr
     go_upto_region 16 with (first
       | (refine wpList_buildW rfl 35 _ rfl (msC (ms0 3)) (builtMk 3) ?_)
       | (refine store_w M2 rfl 35 _ _ (msC (ms0 3)) rfl rfl rfl (msW _) rfl (ms_oneC _ rfl rfl) ?_; intro y3 BM1 ky3)
       | (with_reducible refine alloc_w rfl 35 rfl (.agg (msC (ms0 0))) zeroMsg (msC (ms0 0)) rfl ?_; intro mb y2 hmb M2 ky2))
     have k13 := ky2.new ky3 hmb
     have RM1 := RM0.chg k13 (by simp)
     have RF1 := RF0.chg k13 (by simp)
     have R1 : RS y3 r (.slice (some ⟨g, o, none⟩) A c) 10 none := R0.chg k13 (by simp)
     have C1 := C0.trans1 k13
     have HD : Hid (g < rm ∧ rm < rf ∧ rf < r ∧ r < mb ∧ w.heap.size ≤ rm) := ⟨by have := HGL.out; have := HD0.out; omega, HD0.out.2, HRL.out.1, by have := Blk.lt R0; omega, HD0.out.1⟩
     have HTK := tkH HA HB HD
     have HPR := prH HA HB HD
     clear RM0 RF0 R0 C0 k13 ky2 ky3 hmb M2 HRL HSZ HCC HJ
     refine lt_begin (fun w' => RS w' r (.slice (some ⟨g, o, none⟩) A c) 10 none) (fun i => i == 7) (by kernel_rfl) ?_
     have R2 : RS y3.drew r (.slice (some ⟨g, o, none⟩) A c) 10 none := Blk.drew R1
     have BM2 := BM1.drew
     have RM2 := RM1.drew
     have RF2 := RF1.drew
     have C2 := C1.drew
     clear R1 BM1 RM1 RF1 C1
     have hHeld := R2
     generalize y3.drew = u16 at *
     refine lv ?_ 0 (some 74) rfl (fun w => ?_) ?_; rotate_left; (· (go_simp; try with_reducible rfl)); try simp only [Act.put, sA]
     refine lv (.slice (some ⟨mb, 1, none⟩) 32 32) 1 (some 75) rfl (fun w => ?_) ?_; (· (go_simp; try with_reducible rfl)); try simp only [Act.put, sA]
     refine lv ?_ 2 (some 76) rfl (fun w => ?_) ?_; rotate_left; (· (go_simp; try with_reducible rfl)); try simp only [Act.put, sA]
     refine lv ?_ 3 (some 77) rfl (fun w => ?_) ?_; rotate_left; (· (go_simp; try with_reducible rfl)); try simp only [Act.put, sA]
     refine lv ?_ 4 (some 78) rfl (fun w => ?_) ?_; rotate_left; (· (go_simp; try with_reducible rfl)); try simp only [Act.put, sA]
     refine lv ?_ 5 (some 79) rfl (fun w => ?_) ?_; rotate_left; (· (go_simp; try with_reducible rfl)); try simp only [Act.put, sA]
     refine lr ?_ 6 (some 80) rfl (fun w hSw => ?_) hHeld ?_
     rotate_left
     · have c1 := RS.c1 hSw; (go_simp; try with_reducible rfl)
     try simp only [Act.put, sA]
     refine lt_one 7 rfl (by kernel_rfl) rfl (fun K hK => ?_)
     go_simp
     refine (HTK.out 10 32 sSess none u16 okO_none (show 10 ≤ A from HA.out.2.1) (by decide) C2 R2).mono ?_
     rintro e v16w ⟨v1, at1, rfl, hS1, R3, hle1, hat1, k1⟩
     obtain ⟨pv1, cv1, rfl, hp1⟩ := hS1.frm
     obtain ⟨gv1, ov1, rfl, hc1, hd1, Bv1⟩ := hp1 (by decide)
     have BM3 := BM2.chg k1 (by have := HD.out; simp; omega)
     have RM3 := RM2.chg k1 (by have := HD.out; simp; omega)
     have RF3 := RF2.chg k1 (by have := HD.out; simp; omega)
     have C3 := C2.new k1 HRC.out
     have HO1 : Hid (okO (tkO A 10 32 sSess none)) := tkO_ok okO_none sz_ne.1
     obtain ⟨o1, ho1⟩ : ∃ x, tkO A 10 32 sSess none = x := ⟨_, rfl⟩
     have HE1 : Hid (tkO A 10 32 sSess none = o1 ∧ (o1 = none → at1 = 10 + 32) ∧ at1 ≤ A) := ⟨ho1, by rw [← ho1]; exact hat1, hle1⟩
     rw [ho1] at R3 Bv1 HO1
     obtain ⟨BB1, hBB1⟩ : ∃ x, tkB o1 F 10 = x := ⟨_, rfl⟩
     have HBB1 : Hid (tkB o1 F 10 = BB1) := hBB1
     rw [hBB1] at Bv1
     have HG1 : Hid (gv1 < v16w.heap.size ∧ 32 ≤ cv1 ∧ cv1 ≤ 9223372036854775807) := ⟨Bv1.lt, hc1, hd1⟩
     clear R2 BM2 RM2 RF2 C2 hS1 hp1 hat1 hle1 ho1 hBB1 k1 hc1 hd1
     go_wp2_with fail
     refine hK.out _ _ (fun h => absurd h (by decide)) ?_
     clear hK K
     try simp only [Act.put, sA]
     refine lt_one 8 rfl (by kernel_rfl) rfl (fun K hK => ?_)
     refine copy_set (.tmp 75) (.tmp 81) 29 29 rfl 5 Tryz.underlying29 u8InfD mb 1 32 32 gv1 ov1 cv1 rfl rfl _ 35 BM3 BB1 (fun j hj => Bv1.cell j hj) (by rw [msC_size]; omega) ?_
     intro z16 BM4 kz16
     change K (Act.put _ (some 82) _) _
     refine hK.out _ _ (fun _ h => RS.chg h kz16 (by have := HD.out; simp; omega)) ?_
     clear hK K
     try simp only [Act.put, sA]
     refine lt_done (by kernel_rfl) ?_ _
     go_upto_region 17 with fail
     have BM4 := Blk.to BM4 (show _ = msC { ms0 3 with ses := BB1 } from ms_set_ses _ BB1)
     have R4 : RS z16 r (.slice (some ⟨g, o, none⟩) A c) at1 o1 := RS.chg R3 kz16 (by have := HD.out; simp; omega)
     have RM4 := RM3.chg kz16 (by have := HD.out; simp; omega)
     have RF4 := RF3.chg kz16 (by have := HD.out; simp; omega)
     have C4 := C3.new kz16 (by have := HD.out; omega)
     clear R3 BM3 RM3 RF3 C3 Bv1 kz16 hHeld
     have d1 := RS.c1 R4
     go_wp2_with fail
     clear d1
     refine (HTK.out at1 1 sFrm o1 z16 HO1.out HE1.out.2.2 (by decide) C4 R4).mono ?_
     rintro e v17w ⟨v2, at2, rfl, hS2, R5, hle2, hat2, k2⟩
     obtain ⟨pv2, cv2, rfl, hp2⟩ := hS2.frm
     obtain ⟨gv2, ov2, rfl, hc2, hd2, Bv2⟩ := hp2 (by decide)
     have BM5 := BM4.chg k2 (by have := HD.out; simp; omega)
     have RM5 := RM4.chg k2 (by have := HD.out; simp; omega)
     have RF5 := RF4.chg k2 (by have := HD.out; simp; omega)
     have C5 := C4.new k2 HRC.out
     have HO2 : Hid (okO (tkO A at1 1 sFrm o1)) := tkO_ok HO1.out sz_ne.2.1
     obtain ⟨o2, ho2⟩ : ∃ x, tkO A at1 1 sFrm o1 = x := ⟨_, rfl⟩
     have HE2 : Hid (tkO A at1 1 sFrm o1 = o2 ∧ (o2 = none → at2 = at1 + 1) ∧ at2 ≤ A) := ⟨ho2, by rw [← ho2]; exact hat2, hle2⟩
     rw [ho2] at R5 Bv2 HO2
     obtain ⟨BB2, hBB2⟩ : ∃ x, tkB o2 F at1 = x := ⟨_, rfl⟩
     have HBB2 : Hid (tkB o2 F at1 = BB2) := hBB2
     rw [hBB2] at Bv2
     have HG2 : Hid (gv2 < v17w.heap.size ∧ 1 ≤ cv2 ∧ cv2 ≤ 9223372036854775807) := ⟨Bv2.lt, hc2, hd2⟩
     clear R4 BM4 RM4 RF4 C4 hS2 hp2 hat2 hle2 ho2 hBB2 k2 hc2 hd2
     have cb := Bv2.cell 0 (by decide)
     rw [Nat.add_zero] at cb
     have hx := Bv2.bd 0 (by decide)
     obtain ⟨x2, hx2⟩ : ∃ x, BB2 0 = x := ⟨_, rfl⟩
     have HX2 : Hid (BB2 0 = x2) := hx2
     rw [hx2] at cb hx
     have ew : IntKind.i64.wrap (x2 : Int) = (x2 : Int) := by rw [IntKind.wrap_i64]; omega
     have cx := BM5.cell 33
     have fx := BM5.frozen 33
     have cx : v17w.cell? ⟨mb, 33, none⟩ = some (.int .i64 0) := cx.trans rfl
     clear hx hx2
     go_upto_region 18 with fail
     have ks := (Chg.refl v17w [mb]).setIn (k := mb) (by simp) 33 (.int .i64 (x2 : Int))
     have BM6 := (BM5.setCell 33 (.int .i64 (x2 : Int))).to (show _ = msC { { ms0 3 with ses := BB1 } with fr := (x2 : Int) } from ms_set_fr _ _)
     have R6 : RS _ r (.slice (some ⟨g, o, none⟩) A c) at2 o2 := RS.chg R5 ks (by have := HD.out; simp; omega)
     have RM6 := RM5.chg ks (by have := HD.out; simp; omega)
     have RF6 := RF5.chg ks (by have := HD.out; simp; omega)
     have C6 := C5.new ks (by have := HD.out; omega)
     clear R5 BM5 RM5 RF5 C5 Bv2 ks cb cx fx ew
     generalize v17w.setCell ⟨mb, 33, none⟩ (.int .i64 (x2 : Int)) = z17 at *
     have d1 := RS.c1 R6
     go_wp2_with fail
     clear d1
     refine (HTK.out at2 1 sToo o2 z17 HO2.out HE2.out.2.2 (by decide) C6 R6).mono ?_
     rintro e v18w ⟨v3, at3, rfl, hS3, R7, hle3, hat3, k3⟩
     obtain ⟨pv3, cv3, rfl, hp3⟩ := hS3.frm
     obtain ⟨gv3, ov3, rfl, hc3, hd3, Bv3⟩ := hp3 (by decide)
     have BM7 := BM6.chg k3 (by have := HD.out; simp; omega)
     have RM7 := RM6.chg k3 (by have := HD.out; simp; omega)
     have RF7 := RF6.chg k3 (by have := HD.out; simp; omega)
     have C7 := C6.new k3 HRC.out
     have HO3 : Hid (okO (tkO A at2 1 sToo o2)) := tkO_ok HO2.out sz_ne.2.2.1
     obtain ⟨o3, ho3⟩ : ∃ x, tkO A at2 1 sToo o2 = x := ⟨_, rfl⟩
     have HE3 : Hid (tkO A at2 1 sToo o2 = o3 ∧ (o3 = none → at3 = at2 + 1) ∧ at3 ≤ A) := ⟨ho3, by rw [← ho3]; exact hat3, hle3⟩
     rw [ho3] at R7 Bv3 HO3
     obtain ⟨BB3, hBB3⟩ : ∃ x, tkB o3 F at2 = x := ⟨_, rfl⟩
     have HBB3 : Hid (tkB o3 F at2 = BB3) := hBB3
     rw [hBB3] at Bv3
     have HG3 : Hid (gv3 < v18w.heap.size ∧ 1 ≤ cv3 ∧ cv3 ≤ 9223372036854775807) := ⟨Bv3.lt, hc3, hd3⟩
     clear R6 BM6 RM6 RF6 C6 hS3 hp3 hat3 hle3 ho3 hBB3 k3 hc3 hd3
     have cb := Bv3.cell 0 (by decide)
     rw [Nat.add_zero] at cb
     have hx := Bv3.bd 0 (by decide)
     obtain ⟨x3, hx3⟩ : ∃ x, BB3 0 = x := ⟨_, rfl⟩
     have HX3 : Hid (BB3 0 = x3) := hx3
     rw [hx3] at cb hx
     have ew : IntKind.i64.wrap (x3 : Int) = (x3 : Int) := by rw [IntKind.wrap_i64]; omega
     have cx := BM7.cell 34
     have fx := BM7.frozen 34
     have cx : v18w.cell? ⟨mb, 34, none⟩ = some (.int .i64 0) := cx.trans rfl
     clear hx hx3
     go_upto_region 19 with fail
     have ks := (Chg.refl v18w [mb]).setIn (k := mb) (by simp) 34 (.int .i64 (x3 : Int))
     have BM8 := (BM7.setCell 34 (.int .i64 (x3 : Int))).to (show _ = msC { { { ms0 3 with ses := BB1 } with fr := (x2 : Int) } with «to» := (x3 : Int) } from ms_set_to _ _)
     have R8 : RS _ r (.slice (some ⟨g, o, none⟩) A c) at3 o3 := RS.chg R7 ks (by have := HD.out; simp; omega)
     have RM8 := RM7.chg ks (by have := HD.out; simp; omega)
     have RF8 := RF7.chg ks (by have := HD.out; simp; omega)
     have C8 := C7.new ks (by have := HD.out; omega)
     clear R7 BM7 RM7 RF7 C7 Bv3 ks cb cx fx ew
     generalize v18w.setCell ⟨mb, 34, none⟩ (.int .i64 (x3 : Int)) = z18 at *
     have HH3 : Hid (Hd3 A at1 at2 at3 o1 o2 o3) := hd3 HE1.out.1 HE1.out.2.1 HE2.out.1 HE2.out.2.1 HE3.out.1 HE3.out.2.1
     have HX45 : Hid (45 ≤ A) := HX0.out.1
     obtain ⟨q1, q2, q3, a1, a2, a3⟩ : o1 = none ∧ o2 = none ∧ o3 = none ∧ at1 = 42 ∧ at2 = 43 ∧ at3 = 44 := by
       have := HX45.out
       rcases HH3.out with h | h | h | h
       · omega
       · omega
       · omega
       · exact h.2
     subst q1 q2 q3 a1 a2 a3
     clear HH3
     have d1 := RS.c1 R8
     go_wp2_with fail
     clear d1
     refine (HTK.out 44 1 sList none z18 okO_none (show 44 ≤ A by have := HX45.out; omega) (by decide) C8 R8).mono ?_
     rintro e v23w ⟨v4, at4, rfl, hS4, R9, hle4, hat4, k4⟩
     obtain ⟨pv4, cv4, rfl, hp4⟩ := hS4.frm
     obtain ⟨gv4, ov4, rfl, hc4, hd4, Bv4⟩ := hp4 (by decide)
     have BM9 := BM8.chg k4 (by have := HD.out; simp; omega)
     have RM9 := RM8.chg k4 (by have := HD.out; simp; omega)
     have RF9 := RF8.chg k4 (by have := HD.out; simp; omega)
     have C9 := C8.new k4 HRC.out
     have HO4 : Hid (okO (tkO A 44 1 sList none)) := tkO_ok okO_none slt_ne.1
     obtain ⟨o4, ho4⟩ : ∃ x, tkO A 44 1 sList none = x := ⟨_, rfl⟩
     have HE4 : Hid (tkO A 44 1 sList none = o4 ∧ (o4 = none → at4 = 44 + 1) ∧ at4 ≤ A) := ⟨ho4, by rw [← ho4]; exact hat4, hle4⟩
     rw [ho4] at R9 Bv4 HO4
     obtain ⟨BB4, hBB4⟩ : ∃ x, tkB o4 F 44 = x := ⟨_, rfl⟩
     have HBB4 : Hid (tkB o4 F 44 = BB4) := hBB4
     rw [hBB4] at Bv4
     have HG4 : Hid (gv4 < v23w.heap.size ∧ 1 ≤ cv4 ∧ cv4 ≤ 9223372036854775807) := ⟨Bv4.lt, hc4, hd4⟩
     clear R8 BM8 RM8 RF8 C8 hS4 hp4 hat4 hle4 ho4 hBB4 k4 hc4 hd4
     have cb := Bv4.cell 0 (by decide)
     rw [Nat.add_zero] at cb
     have hx := Bv4.bd 0 (by decide)
     obtain ⟨x4, hx4⟩ : ∃ x, BB4 0 = x := ⟨_, rfl⟩
     have HX4 : Hid (BB4 0 = x4) := hx4
     rw [hx4] at cb hx
     have HX256 : Hid (x4 < 256) := hx
     have ew : IntKind.i64.wrap (x4 : Int) = (x4 : Int) := by rw [IntKind.wrap_i64]; omega
     clear hx hx4 Bv4
     have h4 : o4 = none := HE4.out.1.symm.trans (tkO_ge (by have := HX45.out; omega))
     subst h4
     have a4 : at4 = 45 := HE4.out.2.1 rfl
     subst a4
     have HK44 : Hid (F 44 = x4) := by show F 44 = x4; rw [← HX4.out, ← HBB4.out]; rfl
     obtain ⟨ic, hic, hicz, hics, hicb⟩ := cmRow
     go_wp2_with fail
     clear cb ew
     go_loopw [12] (fun t wr => ∃ (i : Nat) (pl : Option Addr) (cl : Nat), t = .int .i64 (i : Int) ∧ (i ≤ x4 ∧ RS wr r (.slice (some ⟨g, o, none⟩) A c) (45 + 65 * i) none ∧ Blk wr mb (msC { { { { ms0 3 with ses := BB1 } with fr := (x2 : Int) } with «to» := (x3 : Int) } with list := .slice pl i cl }) 35 ∧ OwnR wr w.heap.size 27 65 (.slice pl i cl) i (lsF F 45)) ∧ Blk wr rm (msC (ms0 0)) 35 ∧ Blk wr rf zRF 59 ∧ Chg w wr []) (fun t _ => ((x4 : Int) - intOf t).toNat)
     case atStart => exact ⟨0, none, 0, rfl, ⟨Nat.zero_le _, R9, BM9, OwnR.nil _ _ _ _ _⟩, RM9, RF9, C9⟩
     case round =>
       obtain ⟨i, pl, cl, rfl, ⟨hi, R, BM, O⟩, RM, RF, C⟩ := hrel
       clear R9 BM9 RM9 RF9 C9
       by_cases h8 : i < x4
       · skip
         have HIX : Hid (i < x4) := h8
         clear hi h8
         have hI : (i : Int) < (x4 : Int) := by have := HIX.out; omega
         have e1 : IntKind.i64.wrap ((i : Int) + 1) = (i : Int) + 1 := by have := HX256.out; have := HIX.out; rw [IntKind.wrap_i64]; omega
         have h2 : wr.rangeAt r 2 (ftC s0E 0 0).toList := RS.row R
         go_wp2_with (refine load_gfr rfl _ rfl r 2 rfl s0E 0 0 h2 ?_)
         refine (None_0 0 0 _).mono ?_
         rintro e wn ⟨rfl, kn⟩
         have R6 := RS.chg R kn (by simp)
         have BM6 := BM.chg kn (by simp)
         have RM6 := RM.chg kn (by simp)
         have RF6 := RF.chg kn (by simp)
         have O6 := O.chg kn (by simp)
         have C6 := C.trans1 kn
         clear R BM RM RF C O kn h2
         go_wp2_with fail
         refine lt_begin (fun w' => w'.cell? ⟨mb, 100, none⟩ = some (.slice pl i cl)) (fun i => i == 7) (by kernel_rfl) ?_
         have hHeld : wn.drew.cell? ⟨mb, 100, none⟩ = some (.slice pl i cl) := (BM6.drew.cell 100).trans (by unfold msC; rw [List.getElem?_toArray]; exact ms_list _)
         have R7 : RS wn.drew r (.slice (some ⟨g, o, none⟩) A c) (45 + 65 * i) none := Blk.drew R6
         have BM7 := BM6.drew
         have RM7 := RM6.drew
         have RF7 := RF6.drew
         have O7 := O6.chg (Chg.refl wn []).drew (by simp)
         have C7 := C6.drew
         clear R6 BM6 RM6 RF6 O6 C6
         generalize wn.drew = y0 at *
         have HBL : Hid (mb < y0.heap.size ∧ r < y0.heap.size ∧ w.heap.size ≤ y0.heap.size) := ⟨BM7.lt, Blk.lt R7, C7.size⟩
         have HOL : Hid (∀ y, y ∈ ob (.slice pl i cl) → w.heap.size ≤ y ∧ y < y0.heap.size ∧ ∃ CC, Blk y0 y CC 27) := fun y hy => by
           have q := O7.1.lt y (by unfold ob at hy; simpa using hy)
           exact ⟨q.1, q.2, ownR_blk O7 hy⟩
         have HAI : Hid (45 + 65 * i ≤ A) := all_le HX45.out (fun q hq => HX0.out.2.1 q (by rw [HK44.out]; have := HIX.out; omega))
         refine lv ?_ 0 (some 132) rfl (fun w => ?_) ?_; rotate_left; (· (go_simp; try with_reducible rfl)); try simp only [Act.put, sA]
         refine lr (.slice pl i cl) 1 (some 133) rfl (fun w hSw => ?_) hHeld ?_; (· (go_simp; try with_reducible rfl)); try simp only [Act.put, sA]
         refine lv ?_ 2 (some 134) rfl (fun w => ?_) ?_; rotate_left; (· (go_simp; try with_reducible rfl)); try simp only [Act.put, sA]
         refine lt_one 3 rfl (by kernel_rfl) rfl (fun K hK => ?_)
         go_simp
         refine (HPR.out (45 + 65 * i) sList none y0 okO_none slt_ne.1 HAI.out C7 R7).mono ?_
         rintro e y1 ⟨pd, ph, pb2, at5, rfl, R8, hle5, hat5, k5⟩
         go_wp2_with fail
         refine hK.out _ _ (fun _ h => (k5.cellW mb 100 HBL.out.1 (by have := HD.out; simp; omega)).trans h) ?_
         have BM8 := BM7.chg k5 (by have := HD.out; simp; omega)
         have RM8 := RM7.chg k5 (by have := HD.out; simp; omega)
         have RF8 := RF7.chg k5 (by have := HD.out; simp; omega)
         have O8 := O7.chg k5 (fun y hy hm => by obtain ⟨CC, hC⟩ := (HOL.out y hy).2.2; simp at hm; subst hm; exact Blk.ne hC R7 (by decide) rfl)
         have C8 := C7.new k5 HRC.out
         have HS1 : Hid (mb < y1.heap.size ∧ y0.heap.size ≤ y1.heap.size) := ⟨BM8.lt, k5.size⟩
         have HFI : Hid (Instr.fill (fun i => some (i * 65, 65)) ((Array.range (1 * 65)).map ((Value.agg (cmC 0 zN zN)).cells[· % (Value.agg (cmC 0 zN zN)).cells.size]!)) [(0, .agg (cmC pd ph pb2))] = some (cmC pd ph pb2)) := fillCm _ _ _
         have HRS : Hid (∀ w' g, Blk w' g (cmC pd ph pb2) 27 → Rl w' 65 (.slice (some ⟨g, 0, none⟩) 1 1) 1 (fun _ => cmL pd ph pb2)) := fun w' g hB => row_rl hB (cmL_len _ _ _) (cF_ok 1 (fun _ => pd) (fun _ => ph) (fun _ => pb2) 0 (by omega)).2
         have HP5 : Hid (at5 ≤ A ∧ (prO A (45 + 65 * i) F sList none = none → at5 = 45 + 65 * i + 65 ∧ cmC pd ph pb2 = cmA F (45 + 65 * i))) := ⟨hle5, hat5⟩
         obtain ⟨CX, hCX⟩ : ∃ z, cmC pd ph pb2 = z := ⟨_, rfl⟩
         have HCX0 : Hid (cmC pd ph pb2 = CX) := hCX
         rw [hCX] at HFI HRS ⊢
         clear hCX hle5 hat5 R7 BM7 RM7 RF7 O7 C7 k5
         clear hK K
         try simp only [Act.put, sA]
         refine lt_one 4 rfl (by kernel_rfl) rfl (fun K hK => ?_)
         refine bslice_o 28 27 (.tmp 135) rfl (.agg CX) rfl CX ic (.agg (cmC 0 zN zN)) Tryz.underlying28 hic hicz 65 hics (by decide) (by decide) HFI.out ?_
         intro sb y2 hsb BS k6
         change K (Act.put _ (some 136) _) _
         refine hK.out _ _ (fun _ h => (k6.cellW mb 100 HS1.out.1 (by simp)).trans h) ?_
         have R9 := RS.chg R8 k6 (by simp)
         have BM9 := BM8.chg k6 (by simp)
         have RM9 := RM8.chg k6 (by simp)
         have RF9 := RF8.chg k6 (by simp)
         have O9 := O8.chg k6 (by simp)
         have C9 := C8.trans1 k6
         have RSL := HRS.out _ _ BS
         have HS2 : Hid (mb < y2.heap.size ∧ y0.heap.size ≤ y2.heap.size) := ⟨BM9.lt, Nat.le_trans HS1.out.2 k6.size⟩
         clear R8 BM8 RM8 RF8 O8 C8 k6 BS hsb
         clear hK K
         try simp only [Act.put, sA]
         refine lt_one 5 rfl (by kernel_rfl) rfl (fun K hK => ?_)
         refine wp_append_r (.tmp 133) (.tmp 136) 28 rfl 27 ic (.agg (cmC 0 zN zN)) 65 72 Tryz.underlying28 hic hicz hics hicb rfl (by decide) w.heap.size (.slice pl i cl) (.slice (some ⟨sb, 0, none⟩) 1 1) i 1 (lsF F 45) (fun _ => cmL pd ph pb2) rfl rfl O9 RSL (by decide) (by have := HX256.out; have := HIX.out; omega) (by have := HX256.out; have := HIX.out; omega) C9.size ?_
         intro ng nc y3 OA k7 hat7 hlt7
         change K (Act.put _ (some 137) _) _
         have HNM : Hid (¬ mb ∈ ob (.slice pl i cl) ∧ ¬ r ∈ ob (.slice pl i cl) ∧ ¬ rm ∈ ob (.slice pl i cl) ∧ ¬ rf ∈ ob (.slice pl i cl)) := by
           refine ⟨fun hm => ?_, fun hm => ?_, fun hm => ?_, fun hm => ?_⟩
           · obtain ⟨CC, hC⟩ := ownR_blk O9 hm; exact Blk.ne hC BM9 (by decide) rfl
           · obtain ⟨CC, hC⟩ := ownR_blk O9 hm; exact Blk.ne hC R9 (by decide) rfl
           · obtain ⟨CC, hC⟩ := ownR_blk O9 hm; exact Blk.ne hC RM9 (by decide) rfl
           · obtain ⟨CC, hC⟩ := ownR_blk O9 hm; exact Blk.ne hC RF9 (by decide) rfl
         refine hK.out _ _ (fun _ h => (k7.cellW mb 100 HS2.out.1 HNM.out.1).trans h) ?_
         have RA := RS.chg R9 k7 HNM.out.2.1
         have BMA := BM9.chg k7 HNM.out.1
         have RMA := RM9.chg k7 HNM.out.2.2.1
         have RFA := RF9.chg k7 HNM.out.2.2.2
         have CA := C9.trans k7 (fun y hy => Or.inr (HOL.out y hy).1)
         have HNG : Hid (¬ ng = mb) := by
           obtain ⟨CC, hC⟩ := ownR_blk OA (k := ng) (by rw [ob_slice]; simp)
           exact hC.ne BMA (by decide)
         clear R9 BM9 RM9 RF9 O9 C9 RSL k7 hat7 hlt7
         have c100 := (BMA.cell 100).trans (show _ = some (.slice pl i cl) from by unfold msC; rw [List.getElem?_toArray]; exact ms_list _)
         have f100 := BMA.frozen 100
         clear hK K
         try simp only [Act.put, sA]
         refine lv ?_ 6 (some 138) rfl (fun w => ?_) ?_; rotate_left; (· (go_simp; try with_reducible rfl)); try simp only [Act.put, sA]
         refine lt_one 7 rfl (by kernel_rfl) rfl (fun K hK => ?_)
         go_simp
         refine hK.out _ _ (fun h => absurd h (by decide)) ?_
         clear hK K
         try simp only [Act.put, sA]
         refine lt_done (by kernel_rfl) ?_ _
         have ks := (Chg.refl y3 [mb]).setIn (k := mb) (by simp) 100 (.slice (some ⟨ng, 0, none⟩) (i + 1) nc)
         have BMB := (BMA.setCell 100 (.slice (some ⟨ng, 0, none⟩) (i + 1) nc)).to (show _ = msC { { { { ms0 3 with ses := BB1 } with fr := (x2 : Int) } with «to» := (x3 : Int) } with list := .slice (some ⟨ng, 0, none⟩) (i + 1) nc } from ms_set_list _ _)
         have RB : RS _ r (.slice (some ⟨g, o, none⟩) A c) at5 (prO A (45 + 65 * i) F sList none) := RS.chg RA ks (by have := HD.out; simp; omega)
         have RMB := RMA.chg ks (by have := HD.out; simp; omega)
         have RFB := RFA.chg ks (by have := HD.out; simp; omega)
         have OB := OA.chg ks (by rw [ob_slice]; simpa using HNG.out)
         have CB := CA.new ks (by have := HD.out; omega)
         clear RA BMA RMA RFA OA CA ks c100 f100 hHeld
         have HZ : Hid (prW A (45 + 65 * i) (F (45 + 65 * i)) = 0) := HX0.out.2.1 i (by rw [HK44.out]; exact HIX.out)
         rw [prO_nz HZ.out, (HP5.out.2 (prO_nz HZ.out)).1] at RB
         go_wp2_with fail
         exact ⟨⟨i + 1, some ⟨ng, 0, none⟩, nc, by go_num, ⟨HIX.out, RB, BMB, OB.cong65 (fun j hj => by
           unfold catR
           by_cases h : j < i
           · rw [if_pos h]
           · rw [if_neg h, show j = i from by omega]
             have q := HP5.out.2 (prO_nz HZ.out)
             have q2 := congrArg Array.toList (q.2)
             simpa only [cmC, cmA, lsF, cF, cmL] using q2)⟩, RMB, RFB, CB⟩, by have := HIX.out; simp [intOf]; omega⟩
       · skip
         obtain rfl : i = x4 := by omega
         have hI : ¬ (i : Int) < (i : Int) := by omega
         obtain ⟨TT, hTT⟩ : ∃ t, 45 + 65 * i = t := ⟨_, rfl⟩
         have HTT : Hid (45 + 65 * F 44 = TT) := by show _ = _; rw [HK44.out]; exact hTT
         have HTA : Hid (TT ≤ A) := by
           have q := all_le HX45.out (fun q hq => HX0.out.2.1 q hq)
           show TT ≤ A; rw [← HTT.out]; exact q
         rw [hTT] at R
         have R50 : RS wr r (.slice (some ⟨g, o, none⟩) A c) TT none := R
         have BM50 := BM
         have RM50 := RM
         have RF50 := RF
         have C50 := C
         have O50 := O
         clear R BM RM RF C O hTT h8 hi
         have d1 := RS.c1 R50
         go_wp2_with fail
         clear d1
         have HOL : Hid (∀ y, y ∈ ob (.slice pl i cl) → y < wr.heap.size ∧ ∃ CC, Blk wr y CC 27) := fun y hy => by
           have q := O50.1.lt y (by unfold ob at hy; simpa using hy)
           exact ⟨q.2, ownR_blk O50 hy⟩
         refine (HTK.out TT 4 sText none wr okO_none HTA.out (by decide) C50 R50).mono ?_
         have HNR : Hid (∀ y, y ∈ ob (.slice pl i cl) → ¬ y ∈ [r]) := fun y hy hm => by obtain ⟨CC, hC⟩ := (HOL.out y hy).2; simp at hm; subst hm; exact Blk.ne hC R50 (by decide) rfl
         rintro e v29 ⟨v5, at5, rfl, hS5, R51, hle5, hat5, k5⟩
         have O51 := O50.chg k5 HNR.out
         obtain ⟨pv5, cv5, rfl, hp5⟩ := hS5.frm
         obtain ⟨gv5, ov5, rfl, hc5, hd5, Bv5⟩ := hp5 (by decide)
         have BM51 := BM50.chg k5 (by have := HD.out; simp; omega)
         have RM51 := RM50.chg k5 (by have := HD.out; simp; omega)
         have RF51 := RF50.chg k5 (by have := HD.out; simp; omega)
         have C51 := C50.new k5 HRC.out
         have HO5 : Hid (okO (tkO A TT 4 sText none)) := tkO_ok okO_none slt_ne.2
         obtain ⟨o5, ho5⟩ : ∃ x, tkO A TT 4 sText none = x := ⟨_, rfl⟩
         have HE5 : Hid (tkO A TT 4 sText none = o5 ∧ (o5 = none → at5 = TT + 4) ∧ at5 ≤ A) := ⟨ho5, by rw [← ho5]; exact hat5, hle5⟩
         rw [ho5] at R51 Bv5 HO5
         obtain ⟨BB5, hBB5⟩ : ∃ x, tkB o5 F TT = x := ⟨_, rfl⟩
         have HBB5 : Hid (tkB o5 F TT = BB5) := hBB5
         rw [hBB5] at Bv5
         have HG5 : Hid (gv5 < v29.heap.size ∧ 4 ≤ cv5 ∧ cv5 ≤ 9223372036854775807) := ⟨Bv5.lt, hc5, hd5⟩
         clear R50 BM50 RM50 RF50 C50 hS5 hp5 hat5 hle5 ho5 hBB5 k5 hc5 hd5
         clear O50
         have HT4 : Hid (TT + 4 ≤ A) := by have q := (show 45 + 65 * F 44 + 4 ≤ A by have := HX0.out.2.2.1; omega); rw [HTT.out] at q; exact q
         have h5 : o5 = none := HE5.out.1.symm.trans (tkO_ge (by have := HT4.out; omega))
         subst h5
         have a5 : at5 = TT + 4 := HE5.out.2.1 rfl
         subst a5
         go_wp2_with fail
         refine (number_r (.slice (some ⟨gv5, ov5, none⟩) 4 cv5) 4 BB5 v29 (by decide) (Or.inr ⟨gv5, ov5, cv5, rfl, HG5.out.2.1, HG5.out.2.2, Bv5⟩)).mono ?_
         rintro e vt1 ⟨rfl, kt⟩
         have O52 := O51.chg kt (by simp)
         obtain ⟨ll, hll⟩ : ∃ l, nm BB5 0 4 = l := ⟨_, rfl⟩
         have HLL : Hid (nm F TT 4 = ll) := by show _ = _; rw [← hll, ← HBB5.out]; exact (nm_sh F TT 4).symm
         rw [hll]
         clear O51 Bv5 hll
         have BM52 := BM51.chg kt (by simp)
         have R52 := RS.chg R51 kt (by simp)
         have RM52 := RM51.chg kt (by simp)
         have RF52 := RF51.chg kt (by simp)
         have C52 := C51.trans1 kt
         clear R51 BM51 RM51 RF51 C51
         clear kt
         have HLE : Hid (ll ≤ 1048575) := by have q := HX0.out.2.2.2; rw [HTT.out, HLL.out] at q; exact q
         have hI2 : ¬ (1048575 : Int) < (ll : Int) := by have := HLE.out; omega
         have h2 : vt1.rangeAt r 2 (ftC s0E 0 0).toList := RS.row R52
         go_wp2_with (refine load_pr rfl _ rfl r 2 rfl s0E 0 0 h2 ?_)
         refine (None_0 0 0 _).mono ?_
         rintro e vt2 ⟨rfl, kt⟩
         have O53 := O52.chg kt (by simp)
         clear h2 O52
         have BM53 := BM52.chg kt (by simp)
         have R53 := RS.chg R52 kt (by simp)
         have RM53 := RM52.chg kt (by simp)
         have RF53 := RF52.chg kt (by simp)
         have C53 := C52.trans1 kt
         clear R52 BM52 RM52 RF52 C52
         clear kt
         go_wp2_with fail
         refine lt_begin (fun w' => w'.cell? ⟨mb, 101, none⟩ = some (.slice none 0 0)) (fun i => i == 8) (by kernel_rfl) ?_
         have hHeld : vt2.drew.cell? ⟨mb, 101, none⟩ = some (.slice none 0 0) := (BM53.drew.cell 101).trans (by unfold msC; rw [List.getElem?_toArray]; exact ms_text _)
         have R60 : RS vt2.drew r (.slice (some ⟨g, o, none⟩) A c) (TT + 4) none := Blk.drew R53
         have BM60 := BM53.drew
         have RM60 := RM53.drew
         have RF60 := RF53.drew
         have O60 := O53.chg (Chg.refl vt2 []).drew (by simp)
         have C60 := C53.drew
         clear R53 BM53 RM53 RF53 C53 O53
         generalize vt2.drew = y0 at *
         have HBL : Hid (mb < y0.heap.size ∧ w.heap.size ≤ y0.heap.size) := ⟨BM60.lt, C60.size⟩
         have HTF : Hid (Calls Tryz.prog 62 #[.pointer (some ⟨r, 0, none⟩), .string sText, .int .i64 (TT : Int), .int .i64 (ll : Int)] y0 fun e w' => TkPf TT y0 r (.slice (some ⟨g, o, none⟩) A c) A (TT + 4) ll F sText none e w') := take_rf TT r A c g o (TT + 4) ll F sText none okO_none HT4.out (by have := HA.out; omega) HA.out.2.2.2.2 (by have := HLE.out; omega) y0 R60 ((HB.out y0 C60).lo (by have := HA.out; omega)) (by have := HD.out; omega)
         refine lv ?_ 0 (some 157) rfl (fun w => ?_) ?_; rotate_left; (· (go_simp; try with_reducible rfl)); try simp only [Act.put, sA]
         refine lr (.slice none 0 0) 1 (some 158) rfl (fun w hSw => ?_) hHeld ?_; (· (go_simp; try with_reducible rfl)); try simp only [Act.put, sA]
         refine lv ?_ 2 (some 159) rfl (fun w => ?_) ?_; rotate_left; (· (go_simp; try with_reducible rfl)); try simp only [Act.put, sA]
         refine lv ?_ 3 (some 160) rfl (fun w => ?_) ?_; rotate_left; (· (go_simp; try with_reducible rfl)); try simp only [Act.put, sA]
         refine lv ?_ 4 (some 161) rfl (fun w => ?_) ?_; rotate_left; (· (go_simp; try with_reducible rfl)); try simp only [Act.put, sA]
         refine lt_one 5 rfl (by kernel_rfl) rfl (fun K hK => ?_)
         go_simp
         refine HTF.out.mono ?_
         rintro e y1 ⟨vx, at6, rfl, hS6, R61, hle6, hat6, k6⟩
         go_wp2_with fail
         refine hK.out _ _ (fun _ h => (k6.cellW mb 101 HBL.out.1 (by have := HD.out; simp; omega)).trans h) ?_
         have BM61 := BM60.chg k6 (by have := HD.out; simp; omega)
         have RM61 := RM60.chg k6 (by have := HD.out; simp; omega)
         have RF61 := RF60.chg k6 (by have := HD.out; simp; omega)
         have O61 := O60.chg k6 HNR.out
         have C61 := C60.new k6 HRC.out
         have HA6 : Hid (at6 ≤ A ∧ (tkF TT A (TT + 4) ll sText none = none → at6 = TT + 4 + ll)) := ⟨hle6, hat6⟩
         clear R60 BM60 RM60 RF60 O60 C60 k6 hle6 hat6
         clear hK K
         try simp only [Act.put, sA]
         refine lt_one 6 rfl (by kernel_rfl) rfl (fun K hK => ?_)
         refine append_yo (.tmp 158) (.tmp 162) rfl y1.heap.size (.slice none 0 0) vx 0 ll (fun _ => 0) _ rfl rfl ⟨World.ownsRow_nil _ _ _ _, fun i hi => by omega⟩ hS6 (by have := HLE.out; omega) (Nat.le_refl _) ?_
         intro vt y2 OT k7
         obtain ⟨pt, ct, hvt⟩ := slFm OT.sl
         subst hvt
         change K (Act.put _ (some 163) _) _
         have k7 : Chg y1 y2 [] := k7
         refine hK.out _ _ (fun _ h => (k7.cellW mb 101 BM61.lt (by simp)).trans h) ?_
         have BM62 := BM61.chg k7 (by simp)
         have R62 := RS.chg R61 k7 (by simp)
         have RM62 := RM61.chg k7 (by simp)
         have RF62 := RF61.chg k7 (by simp)
         have O62 := O61.chg k7 (by simp)
         have C62 := C61.trans1 k7
         have HSY : Hid (mb < y1.heap.size ∧ w.heap.size ≤ y1.heap.size) := ⟨BM61.lt, C61.size⟩
         have c101 := (BM62.cell 101).trans (show _ = some (.slice none 0 0) from by unfold msC; rw [List.getElem?_toArray]; exact ms_text _)
         have f101 := BM62.frozen 101
         clear BM61 R61 RM61 RF61 O61 C61 k7 hS6
         clear hK K
         try simp only [Act.put, sA]
         refine lv ?_ 7 (some 164) rfl (fun w => ?_) ?_; rotate_left; (· (go_simp; try with_reducible rfl)); try simp only [Act.put, sA]
         refine lt_one 8 rfl (by kernel_rfl) rfl (fun K hK => ?_)
         go_simp
         refine hK.out _ _ (fun h => absurd h (by decide)) ?_
         clear hK K
         try simp only [Act.put, sA]
         refine lt_done (by kernel_rfl) ?_ _
         rw [Nat.zero_add] at OT
         have HNX : Hid (∀ y, y ∈ ob (.slice pl i cl) → ¬ y ∈ [mb]) := fun y hy hm => by obtain ⟨CC, hC⟩ := ownR_blk O62 hy; simp at hm; subst hm; exact Blk.ne hC BM62 (by decide) rfl
         have ks := (Chg.refl y2 [mb]).setIn (k := mb) (by simp) 101 (.slice pt ll ct)
         have BM63 := (BM62.setCell 101 (.slice pt ll ct)).to (show _ = msC { { { { { ms0 3 with ses := BB1 } with fr := (x2 : Int) } with «to» := (x3 : Int) } with list := .slice pl i cl } with text := .slice pt ll ct } from ms_set_text _ _)
         have R63 : RS _ r (.slice (some ⟨g, o, none⟩) A c) at6 (tkF TT A (TT + 4) ll sText none) := RS.chg R62 ks (by have := HD.out; simp; omega)
         have RM63 := RM62.chg ks (by have := HD.out; simp; omega)
         have RF63 := RF62.chg ks (by have := HD.out; simp; omega)
         have O63 := O62.chg ks HNX.out
         have OT3 := OT.far ks (fun y hy => by simp at hy; subst hy; exact HSY.out.1)
         have C63 := C62.new ks (by have := HD.out; omega)
         clear R62 BM62 RM62 RF62 O62 C62 OT ks hHeld
         go_upto_region 46 with fail
         clear c101 f101
         generalize (y2.setCell ⟨mb, 101, none⟩ (.slice pt ll ct)) = y4 at *
         have h6 : tkF TT A (TT + 4) ll sText none = none := tkF_ge (by have q := HX0.out.2.2.1; rw [HTT.out, HLL.out] at q; omega)
         have a6 := HA6.out.2 h6
         rw [h6, a6] at R63
         clear h6 a6
         obtain ⟨TE, hTE⟩ : ∃ t, TT + 4 + ll = t := ⟨_, rfl⟩
         have HTE : Hid (TT + 4 + ll = TE) := hTE
         rw [hTE] at R63
         clear hTE
         clear O63 OT3
         have HAE : Hid (TE < A) := by have q := HX0.out.2.2.1; rw [HTT.out, HLL.out, HTE.out] at q; exact q
         have HBD0 : FrP n F sTail TE 104 := HFB.out HEQ.out _ _ _ (Or.inr (Or.inr (Or.inr (Or.inr (Or.inr ⟨HX45.out, HX0.out.2.1, Or.inr ⟨HX0.out.2.2.2, HX0.out.2.2.1, rfl, by rw [HTT.out, HLL.out]; exact HTE.out.symm, rfl⟩⟩)))))
         obtain ⟨xs, hxs⟩ : ∃ x, x = sTail := ⟨_, rfl⟩
         obtain ⟨xa, hxa⟩ : ∃ x, x = TE := ⟨_, rfl⟩
         obtain ⟨xy, hxy⟩ : ∃ x, x = 104 := ⟨_, rfl⟩
         have HBD : Hid (FrP n F xs xa xy) := by show FrP n F xs xa xy; rw [hxs, hxa, hxy]; exact HBD0
         have HNE : Hid (xs.toList ≠ s0E.toList) := hxs ▸ sz_ne.2.2.2.2.2.2.2.2
         have HFX : Hid (∀ W, RS W r (.slice (some ⟨g, o, none⟩) A c) TE ((none : FO).or (some (sTail, TE, 104))) → RS W r (.slice (some ⟨g, o, none⟩) A c) TE (some (xs, xa, xy))) := fun W h => by rw [hxs, hxa, hxy]; exact h
         clear hxs hxa hxy HBD0
         have d0 := RS.c0 R63
         have d1 := RS.c1 R63
         have HRX : Hid (RS y4 r (.slice (some ⟨g, o, none⟩) A c) TE none) := R63
         have HBX : Hid (Blk y4 rm (msC (ms0 0)) 35 ∧ Blk y4 rf zRF 59) := ⟨RM63, RF63⟩
         have HBM := BM63
         have HCX : Hid (Chg w y4 []) := C63
         clear R63 BM63 RM63 RF63 C63
         go_wp2_with fail
         clear HBM
         have hI9 : (TE : Int) < (A : Int) := by have := HAE.out; omega
         go_quiet (fail)
         have Rq : RS (y4.drewN nq) r (.slice (some ⟨g, o, none⟩) A c) TE none := Blk.drewN HRX.out nq
         clear d0 d1
         have d1 := RS.c1 Rq
         go_wp2_with fail
         refine (fail_r r (TE) 104 (TE) _ sTail none okO_none _ Rq).mono ?_
         rintro e zf ⟨rfl, Re, kf⟩
         have Re : RS zf r (.slice (some ⟨g, o, none⟩) A c) (TE) (some (xs, xa, xy)) := HFX.out _ Re
         have RMe := (HBX.out.1.drewN nq).chg kf (by have := HD.out; simp; omega)
         have RFe := (HBX.out.2.drewN nq).chg kf (by have := HD.out; simp; omega)
         have Ce := (HCX.out.drewN nq).new kf HRC.out
         have h2 : zf.rangeAt r 2 (ftC xs xa xy).toList := RS.row Re
         clear d1 Rq kf
         go_wp2_with (refine load_pr rfl _ rfl r 2 rfl xs xa xy h2 ?_)
         refine (None_f xs xa xy HNE.out _).mono ?_
         rintro e zn ⟨rfl, kn⟩
         have Rn := Re.chg kn (by simp)
         have RMn := RMe.chg kn (by simp)
         have RFn := RFe.chg kn (by simp)
         have Cn := Ce.trans1 kn
         clear Re RMe RFe Ce kn h2
         go_wp2_with fail
         refine lt_begin (fun w' => RS w' r (.slice (some ⟨g, o, none⟩) A c) TE (some (xs, xa, xy))) (fun _ => false) (by kernel_rfl) ?_
         have hHeld : RS zn.drew r (.slice (some ⟨g, o, none⟩) A c) TE (some (xs, xa, xy)) := Blk.drew Rn
         have RMd := RMn.drew
         have RFd := RFn.drew
         have Cd := Cn.drew
         clear Rn RMn RFn Cn
         generalize zn.drew = zd at *
         refine lv (.agg (msC (ms0 0))) 0 (some 238) rfl (fun w => ?_) ?_
         · exact exec_build0D w 35 rfl (msC (ms0 0)) builtM0
         try simp only [Act.put, sA]
         refine lv ?_ 1 (some 239) rfl (fun w => ?_) ?_; rotate_left; (· (go_simp; try with_reducible rfl)); try simp only [Act.put, sA]
         refine lv ?_ 2 (some 240) rfl (fun w => ?_) ?_; rotate_left; (· (go_simp; try with_reducible rfl)); try simp only [Act.put, sA]
         refine lv ?_ 3 (some 241) rfl (fun w => ?_) ?_; rotate_left; (· (go_simp; try with_reducible rfl)); try simp only [Act.put, sA]
         refine lr (.agg (ftC xs xa xy)) 4 (some 242) rfl (fun w hSw => ?_) hHeld ?_
         · exact exec_load_m w 59 (.tmp 241) rfl r 2 rfl (ftC xs xa xy).toList _ (RS.row hSw) Tryz.underlying59 rfl (by exact rFltInfo)
         try simp only [Act.put, sA]
         refine lt_one 5 rfl (by kernel_rfl) rfl (fun K hK => ?_)
         refine wp_store_w RMd 35 (.tmp 2) (.tmp 238) (msC (ms0 0)) rfl rfl rfl (msW _) rfl (ms_oneC _ rfl rfl) (fun ze RMf kze => ?_)
         refine hK.out _ _ (fun _ h => RS.chg h kze (by have := HD.out; simp; omega)) ?_
         clear hK K
         try simp only [Act.put, sA]
         refine lt_one 6 rfl (by kernel_rfl) rfl (fun K hK => ?_)
         refine wp_store_w (RFd.chg kze (by have := HD.out; simp; omega)) 59 (.tmp 3) (.tmp 242) (ftC xs xa xy) rfl rfl rfl (by exact rFltInfo) rfl (ftC_one _ _ _) (fun zf RFf kzf => ?_)
         refine hK.out _ _ (fun _ h => RS.chg h kzf (by have := HD.out; simp; omega)) ?_
         clear hK K
         try simp only [Act.put, sA]
         refine lt_done (by kernel_rfl) ?_ _
         go_wp2_with fail
         have RMg := RMf.chg kzf (by have := HD.out; simp; omega)
         exact bodyPost_ret (results_ccR Tryz.results16 _ _ rm rf 35 59 (msC (ms0 0)) (ftC xs xa xy) _ _ rfl rfl RMg RFf Tryz.underlying35 rfl (msW _) Tryz.underlying59 rfl (by exact rFltInfo)) rfl
           ⟨Or.inl ⟨xs, xa, xy, HBD.out, rfl⟩, (Cd.new kze HD.out.2.2.2.2).new kzf (by have := HD.out; omega)⟩
end Go.Proofs.YtgjclegpnbjlkaaGreatDoor
