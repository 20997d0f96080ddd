/- rimelaw10.WireEncodes: the walk. -/
import Derived.Test.YtgjclegpnbjlkaaGreatDoorWEn0
import Derived.Test.YtgjclegpnbjlkaaGreatDoorMwN
import Derived.Test.YtgjclegpnbjlkaaGreatDoorRSd
import Derived.Test.YtgjclegpnbjlkaaGreatDoorGvMg
set_option linter.unusedVariables false
set_option linter.unusedSimpArgs false
set_option linter.unnecessarySimpa false
namespace Go.Proofs.YtgjclegpnbjlkaaGreatDoor
open Go.RowKit

theorem sumC (w : World) : SumC w := fun W v M u hM _ hS => Sum_r v M u W hM hS
set_option maxHeartbeats 16000000 in
set_option maxRecDepth 100000 in
theorem encodes_walk (m : Ms) (N : Nat) (d : Nat → Int) (h b : Nat → Nat → Nat) (M : Nat) (ft : Nat → Nat) (hm : MsB m) (hN : N ≤ 1954687338265) (hM : M ≤ 140737488355325) (w : World) (hG : Gl w) (hP : Pw w) (hL : Cl w m.list N d h b) (hT : Sl w m.text M ft) :
    Calls Tryz.prog 3 #[.agg (msC m)] w fun e w' => e = .returned (.bool true) ∧ Chg w w' [] := by
  have HWK : Hid (∀ W, Chg w W [] → Calls Tryz.prog 13 #[] W fun e w' => e = .returned (.bool true) ∧ Chg W w' []) := fun W k => works_s W (hG.chg k (by simp) (by simp))
  have HGL : Hid (Gl w) := hG
  have HP : Hid (Pw w) := hP
  have HM : Hid (MsB m) := hm
  have HNM : Hid (N ≤ 1954687338265 ∧ M ≤ 140737488355325) := ⟨hN, hM⟩
  have HL : Hid (∀ W, Chg w W [] → Cl W m.list N d h b) := fun W q => hL.chg q
  have HT : Hid (∀ W, Chg w W [] → Sl W m.text M ft) := fun W q => hT.chg q (by simp [Off])
  have HTO : Hid (∀ x, w.heap.size ≤ x → Off m.text [x]) := fun x hx => hT.new [x] (by simpa using hx)
  have HRE : Hid (∀ W, Chg w W [] → Calls Tryz.prog 9 #[.agg (msC m)] W fun e w' => REnQ m N d h b M ft W e w') := fun W k => REnc m N d h b M ft hm W (sumC W) (hL.chg k) (hT.chg k (by simp [Off]))
  clear hm hN hM hG hP hL hT
  go_enter Tryz.func3, Tryz.ntmps3
  obtain ⟨C, hC⟩ : ∃ C, msC m = C := ⟨_, rfl⟩
  have HC : Hid (msC m = C) := hC
  rw [hC]
  clear hC
  go_wp2_with (first
    | (with_reducible refine alloc_w rfl 52 rfl (.agg (gvC gNm)) zeroGm (gvC gNm) rfl ?_; intro gb w2 hgb BG k2)
    | (refine box_w rfl 35 _ rfl C rfl ?_; intro mb w1 hmb BM k1)
    | (have BM2 : Blk w2 mb (msC m) 35 := HC.out.symm ▸ BM.chg k2 (by simp)
       refine wpList_load_row rfl 35 _ rfl mb rfl 35 _ (0, 0) _ BM2 Tryz.underlying35 rfl (by rw [msC_size]; exact msInfoW) ?_))
  have BM2 : Blk w2 mb (msC m) 35 := HC.out.symm ▸ BM.chg k2 (by simp)
  have K2 := k1.trans1 k2
  have HGB : Hid (w.heap.size ≤ gb) := Nat.le_trans k1.size hgb
  have HMB : Hid (mb < gb) := Nat.lt_of_lt_of_le BM.lt hgb
  have HT2 := HT.out w2 K2
  have HL2 := HL.out w2 K2
  have HO2 := HTO.out gb HGB.out
  clear BM k1 k2 hmb hgb HC
  refine (GivenMessage_s gb gb m N d h b M ft w2 HNM.out.1 HNM.out.2 (Nat.le_refl _) HL2 HT2 BG HO2).mono ?_
  rintro e w3 ⟨lp, lc, tp, tc, L, rfl, hcl, hsl, hgm, c3, hge⟩
  have BM3 := BM2.chg c3 (fun hx => by have := hge _ hx; have := HMB.out; omega)
  have K3 : Chg w w3 [] := K2.trans c3 (fun x hx => Or.inr (Nat.le_trans HGB.out (hge x hx)))
  have HGM3 : Hid (GM w3 gb gb) := hgm
  obtain ⟨m2, hm2⟩ : ∃ m2 : Ms, { m with list := .slice lp N lc, text := .slice tp M tc } = m2 := ⟨_, rfl⟩
  have HEN : Hid (Calls Tryz.prog 7 #[.agg (msC m2)] w3 fun e w' => EnQ2 m N d h b M ft w3 e w') := by
    have q := Encode_s m2 N d h b M ft (by rw [← hm2]; exact HM.out) w3 (HGL.out.chg K3 (by simp) (by simp)) (by rw [← hm2]; exact hcl) (by rw [← hm2]; exact hsl)
    rw [← hm2] at q ⊢
    exact q
  rw [hm2]
  clear BM2 BG K2 HT2 HL2 HO2 hcl hsl hgm c3 hge hm2
  go_wp2_with fail
  refine HEN.out.mono ?_
  rintro e w4 (⟨hg, v, rfl, ⟨s, a, y, hEP, hF⟩, k4⟩ | ⟨hg, v, rfl, hO, k4⟩)
  · obtain ⟨gf, rfl, hgf, BF⟩ := hF
    have BM4 := BM3.chg k4 (by simp)
    have K4 := K3.trans1 k4
    have HGM4 : Hid (GM w4 gb gb) := HGM3.out.chg k4
    have HEP : Hid (EnP m N d M s a y) := hEP
    have HBF : Hid (Blk w4 gf (ftC s a y) 109) := BF
    have HNG : Hid (¬ EnG m N d M) := hg
    clear BM3 K3 k4 hgf hEP BF hg
    go_wp2_with (refine wpList_load_row rfl 35 _ rfl mb rfl 35 _ (0, 0) _ BM4 Tryz.underlying35 rfl (by rw [msC_size]; exact msInfoW) ?_)
    refine (HRE.out w4 K4).mono ?_
    rintro e w5 (⟨_, s', a', y', hEP', rfl, k5⟩ | ⟨hg', _⟩)
    · obtain ⟨rfl, rfl, rfl⟩ := HEP.out.det hEP'
      have BF5 := HBF.out.chg k5 (by simp)
      have K5 := K4.trans1 k5
      have HGM5 : Hid (GM w5 gb gb) := HGM4.out.chg k5
      have HLE := HEP.out.le
      have HNE := HEP.out.ne
      have HFA : Hid (∀ W, Chg w W [] → Blk W gf (ftC s a y) 109 → Calls Tryz.prog 11 #[.iface 106 (.pointer (some ⟨gf, 0, none⟩)), .agg (ftC s a y)] W fun e w' => e = .returned (.bool true) ∧ Chg W w' []) :=
        fun W k B => fault_any w HP.out gf s a y HLE.1 HNE (by have := HLE.2.1; omega) (by have := HLE.2.2; omega) W k B
      obtain ⟨FC, hFC⟩ : ∃ FC, ftC s a y = FC := ⟨_, rfl⟩
      have HFS : Hid (FC.size = 3 ∧ FC.all (·.oneCell') = true) := by rw [← hFC]; exact ⟨rfl, ftC_one _ _ _⟩
      rw [hFC] at HFA BF5 ⊢
      have HB5 : Hid (Blk w5 gf FC 109) := BF5
      clear BM4 K4 k5 hEP' HLE HNE hFC BF5
      go_wp2_with (first
        | (refine store_w B6 rfl 59 _ _ FC rfl rfl rfl (by rw [HFS.out.1]; exact rFltInfo) (by rw [HFS.out.1]; rfl) HFS.out.2 ?_; intro w7 B7 k7)
        | (with_reducible refine alloc_w rfl 59 rfl (.agg zRF) zeroRF2 zRF rfl ?_; intro fb w6 hfb B6 k6))
      have k57 := k6.new k7 hfb
      have K7 := K5.trans1 k57
      have B7f := HB5.out.chg k57 (by simp)
      have HGM7 : Hid (GM w7 gb gb) := HGM5.out.chg k57
      clear K5 k6 k7 hfb B6 k57
      refine (SameB_self (.slice none 0 0) (.slice none 0 0) 0 (fun _ => 0) w7 (Or.inl ⟨rfl, rfl⟩) (Or.inl ⟨rfl, rfl⟩)).mono ?_
      rintro e w8 ⟨rfl, k8⟩
      have B8 := B7.chg k8 (by simp)
      have B8f := B7f.chg k8 (by simp)
      have K8 := K7.trans1 k8
      have HGM8 : Hid (GM w8 gb gb) := HGM7.out.chg k8
      clear B7 B7f K7 k8
      go_wp2_with (refine load_rowg rfl _ rfl fb rfl _ B8 HFS.out.1 ?_)
      refine (HFA.out w8 K8 B8f).mono ?_
      rintro e w9 ⟨rfl, k9⟩
      have K9 := K8.trans1 k9
      have HGM9 : Hid (GM w9 gb gb) := HGM8.out.chg k9
      clear B8 B8f K8 k9
      go_wp2_with fail
      refine HGM9.out.intact.mono ?_
      rintro e w10 ⟨rfl, k10⟩
      have K10 := K9.trans1 k10
      clear K9 k10
      go_wp2_with fail
      refine (HWK.out w10 K10).mono ?_
      rintro e w11 ⟨rfl, k11⟩
      have K11 := K10.trans1 k11
      go_wp2_with fail
      go_ret
      exact ⟨rfl, K11⟩
    · exact absurd hg' HNG.out
  · have BM4 := BM3.chg k4 (by simp)
    have K4 := K3.trans1 k4
    have HGM4 : Hid (GM w4 gb gb) := HGM3.out.chg k4
    obtain ⟨pv, cv, rfl⟩ := slFm hO.sl
    have HS : Hid (Sl w4 (.slice pv (4 + 2 + 4 + enN m N M + 4) cv) (4 + 2 + 4 + enN m N M + 4) (frB m.kind.toNat (enN m N M) (enF m N d h b M ft))) := hO.sl
    have HNG : Hid (EnG m N d M) := hg
    obtain ⟨Z, hZ⟩ : ∃ Z, 4 + 2 + 4 + enN m N M + 4 = Z := ⟨_, rfl⟩
    obtain ⟨FF, hFF⟩ : ∃ FF, frB m.kind.toNat (enN m N M) (enF m N d h b M ft) = FF := ⟨_, rfl⟩
    have HZF : Hid (4 + 2 + 4 + enN m N M + 4 = Z ∧ frB m.kind.toNat (enN m N M) (enF m N d h b M ft) = FF) := ⟨hZ, hFF⟩
    rw [hZ, hFF] at HS
    rw [hZ]
    clear BM3 K3 k4 hO hg hZ hFF
    go_wp2_with (refine wpList_load_row rfl 35 _ rfl mb rfl 35 _ (0, 0) _ BM4 Tryz.underlying35 rfl (by rw [msC_size]; exact msInfoW) ?_)
    refine (HRE.out w4 K4).mono ?_
    rintro e w5 (⟨hg', _⟩ | ⟨_, v', rfl, hO', k5⟩)
    · exact absurd HNG.out hg'
    · rw [HZF.out.1, HZF.out.2] at hO'
      obtain ⟨pu, cu, rfl⟩ := slFm hO'.sl
      have HS5 : Hid (Sl w5 (.slice pv Z cv) Z FF) := HS.out.chg k5 (by simp [Off])
      have HU5 : Hid (Sl w5 (.slice pu Z cu) Z FF) := hO'.sl
      have K5 := K4.trans1 k5
      have HGM5 : Hid (GM w5 gb gb) := HGM4.out.chg k5
      obtain ⟨FC, hFC⟩ : ∃ FC, ftC s0E 0 0 = FC := ⟨_, rfl⟩
      have HFS : Hid (FC.size = 3 ∧ FC.all (·.oneCell') = true) := by rw [← hFC]; exact ⟨rfl, ftC_one _ _ _⟩
      have HFA : Hid (∀ W, Calls Tryz.prog 11 #[.nilIface, .agg FC] W fun e w' => e = .returned (.bool true) ∧ Chg W w' []) := fun W => hFC ▸ fault_nil 0 0 W
      rw [hFC]
      clear BM4 K4 k5 hO' hFC
      go_wp2_with (first
        | (refine store_w B6 rfl 59 _ _ FC rfl rfl rfl (by rw [HFS.out.1]; exact rFltInfo) (by rw [HFS.out.1]; rfl) HFS.out.2 ?_; intro w7 B7 k7)
        | (with_reducible refine alloc_w rfl 59 rfl (.agg zRF) zeroRF2 zRF rfl ?_; intro fb w6 hfb B6 k6))
      have k57 := k6.new k7 hfb
      have K7 := K5.trans1 k57
      have HGM7 : Hid (GM w7 gb gb) := HGM5.out.chg k57
      have HS7 := HS5.out.chg k57 (by simp [Off])
      have HU7 := HU5.out.chg k57 (by simp [Off])
      clear K5 k6 k7 hfb B6 k57
      refine (SameB_self _ _ Z FF w7 HS7 HU7).mono ?_
      rintro e w8 ⟨rfl, k8⟩
      have B8 := B7.chg k8 (by simp)
      have K8 := K7.trans1 k8
      have HGM8 : Hid (GM w8 gb gb) := HGM7.out.chg k8
      clear B7 K7 k8 HS7 HU7
      go_wp2_with (refine load_rowg rfl _ rfl fb rfl _ B8 HFS.out.1 ?_)
      refine (HFA.out w8).mono ?_
      rintro e w9 ⟨rfl, k9⟩
      have K9 := K8.trans1 k9
      have HGM9 : Hid (GM w9 gb gb) := HGM8.out.chg k9
      clear B8 K8 k9
      go_wp2_with fail
      refine HGM9.out.intact.mono ?_
      rintro e w10 ⟨rfl, k10⟩
      have K10 := K9.trans1 k10
      clear K9 k10
      go_wp2_with fail
      refine (HWK.out w10 K10).mono ?_
      rintro e w11 ⟨rfl, k11⟩
      have K11 := K10.trans1 k11
      go_wp2_with fail
      go_ret
      exact ⟨rfl, K11⟩
end Go.Proofs.YtgjclegpnbjlkaaGreatDoor
