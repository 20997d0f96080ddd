import Derived.Test.YtgjclegpnbjlkaaGreatDoorMxD
import Derived.Test.YtgjclegpnbjlkaaGreatDoorMwM
import Derived.Test.YtgjclegpnbjlkaaGreatDoorMwY
set_option linter.all false
namespace Go.Proofs.YtgjclegpnbjlkaaGreatDoor
set_option maxHeartbeats 16000000
set_option maxRecDepth 100000
open Go.RowKit
theorem FrR.chg {n : Nat} {F : Nat → Nat} {B : Nat} {M : Ms} {w w' : World} (h : FrR n F B M w) (hc : Chg w w' []) : FrR n F B M w' := ⟨h.1, h.2.1, h.2.2.1, h.2.2.2.far hc (fun y hy => by simp at hy)⟩
theorem FrR.one {n : Nat} {F : Nat → Nat} {B : Nat} {M : Ms} {w : World} (h : FrR n F B M w) : M.list.oneCell' = true ∧ M.text.oneCell' = true := by
 obtain ⟨_, _, _, hb⟩ := h
 unfold BdR at hb
 split at hb
 · obtain ⟨_, vl, vt, rfl, h1, h2⟩ := hb
   obtain ⟨p, c, rfl, _⟩ := h1.rl.form
   obtain ⟨p', c', rfl⟩ := slFm h2.sl
   exact ⟨rfl, rfl⟩
 · rw [hb.2]
   exact rdM_1 F (F 5)
theorem kind_of (z : Int) : ∃ K : Nat, 1 ≤ K ∧ K ≤ 6 ∧ 1 + (z.tmod 6 + 6).tmod 6 = (K : Int) := by
 have h1 := Int.tmod_lt_of_pos z (show (0 : Int) < 6 by decide)
 have h2 : -6 < z.tmod 6 := by
   rcases Int.le_total 0 z with h | h
   · have := Int.tmod_nonneg 6 h; omega
   · have := Int.tmod_lt_of_pos (-z) (show (0 : Int) < 6 by decide); rw [Int.neg_tmod] at this; omega
 have h3 : 0 ≤ (z.tmod 6 + 6).tmod 6 := Int.tmod_nonneg 6 (by omega)
 have h4 := Int.tmod_lt_of_pos (z.tmod 6 + 6) (show (0 : Int) < 6 by decide)
 exact ⟨(1 + (z.tmod 6 + 6).tmod 6).toNat, by omega, by omega, by omega⟩
theorem bodies_walk (z0 : Int) (hz : -9223372036854775808 ≤ z0 ∧ z0 < 9223372036854775808) (v : Value) (n : Nat) (f : Nat → Nat) (hn : n ≤ 140737488351232) (w : World) (hG : Gl w) (hP : Pw w) (hS : Sl w v n f) :
   Calls Tryz.prog 5 #[.int .i64 z0, v] w fun e w' => e = .returned (.bool true) ∧ Chg w w' [] := by
 have HWK : Hid (∀ W, Chg w W [] → Calls Tryz.prog 13 #[] W fun e w' => e = .returned (.bool true) ∧ Chg W w' []) := fun W k => works_s W (hG.chg k (by simp) (by simp))
 have HGL : Hid (Gl w) := hG
 have HP : Hid (Pw w) := hP
 obtain ⟨K, hK1, hK2, hK⟩ := kind_of z0
 have h1 := Int.tmod_lt_of_pos z0 (show (0 : Int) < 6 by decide)
 have h2 : -6 < z0.tmod 6 := by
   rcases Int.le_total 0 z0 with h | h
   · have := Int.tmod_nonneg 6 h; omega
   · have := Int.tmod_lt_of_pos (-z0) (show (0 : Int) < 6 by decide); rw [Int.neg_tmod] at this; omega
 obtain ⟨m1, hm1⟩ : ∃ m, z0.tmod 6 = m := ⟨_, rfl⟩
 rw [hm1] at h1 h2 hK
 obtain ⟨m2, hm2⟩ : ∃ m, (m1 + 6).tmod 6 = m := ⟨_, rfl⟩
 rw [hm2] at hK
 have e1 : IntKind.i64.wrap m1 = m1 := by rw [IntKind.wrap_i64]; omega
 have e2 : IntKind.i64.wrap (m1 + 6) = m1 + 6 := by rw [IntKind.wrap_i64]; omega
 have e3 : IntKind.i64.wrap m2 = m2 := by rw [IntKind.wrap_i64]; omega
 have e4 : IntKind.i64.wrap (1 + m2) = (K : Int) := by rw [IntKind.wrap_i64]; omega
 have e5 : IntKind.i64.wrap (K : Int) = (K : Int) := by rw [IntKind.wrap_i64]; omega
 have HFA : Hid (∀ W, Chg w W [] → Calls Tryz.prog 20 #[.int .i64 (K : Int), v] W fun e w' => ∃ u, e = .returned u ∧ Own w' W.heap.size u (4 + 2 + 4 + n + 4) (frB K n f) ∧ Chg W w' []) := fun W k => Framed_a K n f v (by omega) hn W (hS.chg k (by simp [Off]))
 have HN : Hid (n ≤ 140737488351232) := hn
 clear hG hP hS hn hK1 hK2 h1 h2 hz
 go_enter Tryz.func5, Tryz.ntmps5
 go_wp2_with fail
 refine (HFA.out w (Chg.refl _ _)).mono ?_
 rintro e w2 ⟨u, rfl, O, K2⟩
 obtain ⟨pu, cu, rfl⟩ := slFm O.sl
 obtain ⟨Z, hZ⟩ : ∃ z, 4 + 2 + 4 + n + 4 = z := ⟨_, rfl⟩
 have HZ : Hid (Z ≤ 140737488351246) := by have := HN.out; show Z ≤ 140737488351246; omega
 rw [hZ] at O ⊢
 obtain ⟨F, hF⟩ : ∃ F, clF Z (frB K n f) = F := ⟨_, rfl⟩
 have hcl := O.sl.clip
 rw [hF] at hcl
 have HS : Hid (∀ W, Chg w2 W [] → Sl W (.slice pu Z cu) Z F) := fun W k => hcl.1.chg k (by simp [Off])
 have H256 : Hid (∀ i, F i < 256) := hcl.2
 have HDC : Hid (∀ W, Chg w W [] → Chg w2 W [] → Calls Tryz.prog 15 #[.slice pu Z cu] W fun e w' => DcQ (FrP Z F) (FrR Z F) W.heap.size e w' ∧ Chg W w' []) := fun W k k2 => Decode_x _ Z F W (HGL.out.chg k (by simp) (by simp)) (HS.out W k2)
 have HRD : Hid (∀ W, Chg w2 W [] → Calls Tryz.prog 16 #[.slice pu Z cu] W fun e w' => RDq Z F W e w') := fun W k2 => RDec _ Z F W (HS.out W k2)
 have HK2 : Hid (Chg w w2 []) := K2
 clear O hZ hF hcl K2
 go_wp2_with fail
 refine (HDC.out w2 HK2.out (Chg.refl _ _)).mono ?_
 rintro e w3 ⟨⟨s, a, y, hFP, fv, rfl, hFt⟩ | ⟨B, M, hB, rfl, hFR⟩, k3⟩
 · obtain ⟨gf, rfl, hgf, BF⟩ := hFt
   have HFP : Hid (FrP Z F s a y) := hFP
   have HLE := hFP.le
   have HFA : Hid (∀ W, Chg w W [] → Blk W gf (ftC s a y) 109 → Calls Tryz.prog 11 #[.iface 106 (.pointer (some ⟨gf, 0, none⟩)), .agg (ftC s a y)] W fun e w' => e = .returned (.bool true) ∧ Chg W w' []) :=
     fun W k B => fault_any w HP.out gf s a y HLE.1 HLE.2.1 (by have := HLE.2.2.1; have := HZ.out; omega) (by have := HLE.2.2.2; omega) W k B
   have HBF : Hid (Blk w3 gf (ftC s a y) 109) := BF
   clear hFP hgf BF HLE
   go_wp2_with (first
     | (refine store_w B4 rfl 35 _ _ (msC (ms0 0)) rfl rfl rfl (by rw [msC_size]; exact msInfoW) rfl (ms_oneC _ rfl rfl) ?_; intro w5 BX k5)
     | (with_reducible refine alloc_w rfl 35 rfl (.agg (msC (ms0 0))) zeroMsg (msC (ms0 0)) rfl ?_; intro xb w4 hxb B4 k4))
   have k35 := k4.new k5 hxb
   have BF5 := HBF.out.chg k35 (by simp)
   have C5 := k3.trans1 k35
   clear k3 k4 k5 k35 hxb B4
   refine (HRD.out w5 C5).mono ?_
   rintro e w6 ⟨⟨s', a', y', hFP', rfl⟩ | ⟨B', M', _, rfl, _, hFR'⟩, k6⟩
   · obtain ⟨rfl, rfl, rfl⟩ := HFP.out.det hFP'
     have BF6 := BF5.chg k6 (by simp)
     have BX6 := BX.chg k6 (by simp)
     have C6 := C5.trans1 k6
     obtain ⟨FC, hFC⟩ : ∃ FC, ftC s a y = FC := ⟨_, rfl⟩
     have HFS : Hid (FC.size = 3 ∧ FC.all (·.oneCell') = true) := by rw [← hFC]; exact ⟨rfl, ftC_one _ _ _⟩
     rw [hFC] at HFA BF6 ⊢
     clear hFP' k6 BF5 BX C5 hFC HBF
     go_wp2_with (first
       | (refine store_w B9 rfl 59 _ _ FC rfl rfl rfl (by rw [HFS.out.1]; exact rFltInfo) (by rw [HFS.out.1]; rfl) HFS.out.2 ?_; intro w10 BG k10)
       | (refine store_w B7x rfl 35 _ _ (msC (ms0 0)) rfl rfl rfl (by rw [msC_size]; exact msInfoW) rfl (ms_oneC _ rfl rfl) ?_; intro w9 BY k9; have B9 := B8.chg k9 (by have := B7.lt; simp; omega))
       | (with_reducible refine alloc_w rfl 59 rfl (.agg zRF) zeroRF2 zRF rfl ?_; intro fb w8 hfb B8 k8; have B7x := B7.chg k8 (by simp))
       | (with_reducible refine alloc_w rfl 35 rfl (.agg (msC (ms0 0))) zeroMsg (msC (ms0 0)) rfl ?_; intro yb w7 hyb B7 k7)
       | (refine wpList_load_row rfl 35 _ rfl xb rfl 35 _ (0, 0) _ (((BX6.chg (k7.trans1 k8) (by simp)).chg k9 (by have := BX6.lt; simp; omega)).chg k10 (by have := BX6.lt; have := k7.size; simp; omega)) Tryz.underlying35 rfl (by rw [msC_size]; exact msInfoW) ?_)
       | (refine wpList_load_row rfl 35 _ rfl yb rfl 35 _ (0, 0) _ (BY.chg k10 (by have := B7.lt; simp; omega)) Tryz.underlying35 rfl (by rw [msC_size]; exact msInfoW) ?_))
     have k610 : Chg w6 w10 [] := ((k7.trans1 k8).new k9 hyb).new k10 (by have := k7.size; omega)
     have BF10 := BF6.chg k610 (by simp)
     have C10 := C6.trans1 k610
     clear k7 k8 k9 k10 k610 BX6 BY B7 B7x B8 B9 BF6 C6 hyb hfb
     refine (Same0 w10).mono ?_
     rintro e w11 ⟨rfl, k11⟩
     have BG11 := BG.chg k11 (by simp)
     have BF11 := BF10.chg k11 (by simp)
     have C11 := C10.trans1 k11
     clear BG BF10 C10 k11
     go_wp2_with (refine load_rowg rfl _ rfl fb rfl _ BG11 HFS.out.1 ?_)
     refine (HFA.out w11 (HK2.out.trans1 C11) BF11).mono ?_
     rintro e w12 ⟨rfl, k12⟩
     have C12 := C11.trans1 k12
     clear C11 BG11 BF11 k12
     go_wp2_with fail
     refine (HWK.out w12 (HK2.out.trans1 C12)).mono ?_
     rintro e w13 ⟨rfl, k13⟩
     have C13 := C12.trans1 k13
     go_wp2_with fail
     go_ret
     exact ⟨rfl, HK2.out.trans1 C13⟩
   · exact absurd HFP.out hFR'.noP
 · have hone := hFR.one
   obtain ⟨MC, hMC⟩ : ∃ x, msC M = x := ⟨_, rfl⟩
   have HMS : Hid (MC.size = 231 ∧ MC.all (·.oneCell') = true) := by rw [← hMC]; exact ⟨msC_size _, ms_oneC _ hone.1 hone.2⟩
   have HMC : Hid (msC M = MC) := hMC
   have HFR : Hid (FrR Z F B M w3) := hFR
   rw [hMC]
   clear hFR hone hMC hB
   go_wp2_with (first
     | (refine store_w B4 rfl 35 _ _ MC rfl rfl rfl (by rw [HMS.out.1]; exact msInfoW) (by rw [HMS.out.1]; exact msC_size _) HMS.out.2 ?_; intro w5 BX k5)
     | (with_reducible refine alloc_w rfl 35 rfl (.agg (msC (ms0 0))) zeroMsg (msC (ms0 0)) rfl ?_; intro xb w4 hxb B4 k4))
   have k35 := k4.new k5 hxb
   have HFR5 : Hid (FrR Z F B M w5) := HFR.out.chg k35
   have C5 := k3.trans1 k35
   clear k3 k4 k5 k35 hxb B4
   refine (HRD.out w5 C5).mono ?_
   rintro e w6 ⟨⟨s', a', y', hFP', rfl⟩ | ⟨B', M', _, rfl, hone', hFR'⟩, k6⟩
   · exact absurd hFP' HFR5.out.noP
   · have HFR6 : Hid (FrR Z F B M w6) := HFR5.out.chg k6
     have HFQ6 : Hid (FrR Z F B' M' w6) := hFR'
     have BX6 := BX.chg k6 (by simp)
     have C6 := C5.trans1 k6
     obtain ⟨MD, hMD⟩ : ∃ x, msC M' = x := ⟨_, rfl⟩
     have HMD : Hid (msC M' = MD) := hMD
     have HDS : Hid (MD.size = 231 ∧ MD.all (·.oneCell') = true) := by rw [← hMD]; exact ⟨msC_size _, ms_oneC _ hone'.1 hone'.2⟩
     obtain ⟨FC, hFC⟩ : ∃ FC, ftC s0E 0 0 = FC := ⟨_, rfl⟩
     have HFS : Hid (FC.size = 3 ∧ FC.all (·.oneCell') = true) := by rw [← hFC]; exact ⟨rfl, ftC_one _ _ _⟩
     have HFA : Hid (∀ W, Calls Tryz.prog 11 #[.nilIface, .agg FC] W fun e w' => e = .returned (.bool true) ∧ Chg W w' []) := fun W => hFC ▸ fault_nil 0 0 W
     rw [hFC, hMD]
     clear hFR' hone' hMD hFC k6 BX C5
     go_wp2_with (first
       | (refine store_w B9 rfl 59 _ _ FC rfl rfl rfl (by rw [HFS.out.1]; exact rFltInfo) (by rw [HFS.out.1]; rfl) HFS.out.2 ?_; intro w10 BG k10)
       | (refine store_w B7x rfl 35 _ _ MD rfl rfl rfl (by rw [HDS.out.1]; exact msInfoW) (by rw [HDS.out.1]; exact msC_size _) HDS.out.2 ?_; intro w9 BY k9; have B9 := B8.chg k9 (by have := B7.lt; simp; omega))
       | (with_reducible refine alloc_w rfl 59 rfl (.agg zRF) zeroRF2 zRF rfl ?_; intro fb w8 hfb B8 k8; have B7x := B7.chg k8 (by simp))
       | (with_reducible refine alloc_w rfl 35 rfl (.agg (msC (ms0 0))) zeroMsg (msC (ms0 0)) rfl ?_; intro yb w7 hyb B7 k7)
       | (refine wpList_load_row rfl 35 _ rfl xb rfl 35 _ (0, 0) _ (((BX6.chg (k7.trans1 k8) (by simp)).chg k9 (by have := BX6.lt; simp; omega)).chg k10 (by have := BX6.lt; have := k7.size; simp; omega)) Tryz.underlying35 rfl (by rw [HMS.out.1]; exact msInfoW) ?_)
       | (refine wpList_load_row rfl 35 _ rfl yb rfl 35 _ (0, 0) _ (BY.chg k10 (by have := B7.lt; simp; omega)) Tryz.underlying35 rfl (by rw [HDS.out.1]; exact msInfoW) ?_))
     have k610 : Chg w6 w10 [] := ((k7.trans1 k8).new k9 hyb).new k10 (by have := k7.size; omega)
     have HSM : Hid (Calls Tryz.prog 19 #[.agg MC, .agg MD] w10 fun e w' => e = .returned (.bool true) ∧ Chg w10 w' []) := HMC.out ▸ HMD.out ▸ Same_fr w10 H256.out (HFR6.out.chg k610) (HFQ6.out.chg k610)
     have C10 := C6.trans1 k610
     clear k7 k8 k9 k10 k610 BX6 BY B7 B7x B8 B9 C6 hyb hfb
     refine HSM.out.mono ?_
     rintro e w11 ⟨rfl, k11⟩
     have BG11 := BG.chg k11 (by simp)
     have C11 := C10.trans1 k11
     clear BG C10 k11
     go_wp2_with (refine load_rowg rfl _ rfl fb rfl _ BG11 HFS.out.1 ?_)
     refine (HFA.out w11).mono ?_
     rintro e w12 ⟨rfl, k12⟩
     have C12 := C11.trans1 k12
     clear C11 BG11 k12
     go_wp2_with fail
     refine (HWK.out w12 (HK2.out.trans1 C12)).mono ?_
     rintro e w13 ⟨rfl, k13⟩
     have C13 := C12.trans1 k13
     go_wp2_with fail
     go_ret
     exact ⟨rfl, HK2.out.trans1 C13⟩
end Go.Proofs.YtgjclegpnbjlkaaGreatDoor
