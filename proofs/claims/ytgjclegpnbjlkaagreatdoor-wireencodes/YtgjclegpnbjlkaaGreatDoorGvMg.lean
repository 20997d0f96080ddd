/- (*Given).Message. -/
import Derived.Test.YtgjclegpnbjlkaaGreatDoorGvMs
import Derived.Test.YtgjclegpnbjlkaaGreatDoorW50t
import Derived.Test.YtgjclegpnbjlkaaGreatDoorW38
set_option linter.unusedVariables false
set_option linter.unusedSimpArgs false
set_option linter.unnecessarySimpa false
namespace Go.Proofs.YtgjclegpnbjlkaaGreatDoor
open Go.RowKit

set_option maxHeartbeats 8000000 in
set_option maxRecDepth 100000 in
theorem GivenMessage_s (gb base : Nat) (m : Ms) (N : Nat) (d : Nat → Int) (h b : Nat → Nat → Nat) (M : Nat) (ft : Nat → Nat) (w : World) (hN : N ≤ 1954687338265) (hM : M ≤ 140737488355325) (hb : base ≤ gb) (hL : Cl w m.list N d h b) (hT : Sl w m.text M ft) (hg : Blk w gb (gvC gNm) 52) (ho : Off m.text [gb]) :
    Calls Tryz.prog 8 #[.pointer (some ⟨gb, 0, none⟩), .agg (msC m)] w fun e w' => ∃ lp lc tp tc l, e = .returned (.agg (msC { m with list := .slice lp N lc, text := .slice tp M tc })) ∧ Cl w' (.slice lp N lc) N d h b ∧ Sl w' (.slice tp M tc) M ft ∧ GM w' gb base ∧ Chg w w' l ∧ ∀ x, x ∈ l → base ≤ x := by
  have HL : Hid (∀ W, Chg w W [] → Cl W m.list N d h b) := fun W q => hL.chg q
  have hf := sl_lt hT
  have HF : Hid (∀ i, i < M → ft i < 256) := hf
  have HY : Hid (∀ j, j < N → ∀ i, i < 32 → h j i < 256 ∧ b j i < 256) := hL.2
  have HB : Hid (base ≤ gb) := hb
  have HNM : Hid (N ≤ 1954687338265 ∧ M ≤ 140737488355325) := ⟨hN, hM⟩
  have HG : Hid (Blk w gb (gvC gNm) 52) := hg
  have HT : Hid (Sl w m.text M ft) := hT
  have HO : Hid (Off m.text [gb]) := ho
  clear hL hT hf hb hg hN hM ho
  go_enter Tryz.func8, Tryz.ntmps8
  obtain ⟨C, hC⟩ : ∃ C, msC m = C := ⟨_, rfl⟩
  rw [hC]
  go_upto_region 1 with (first
    | (with_reducible refine alloc_w rfl 35 rfl (.agg (msC (ms0 0))) zeroMsg (msC (ms0 0)) rfl ?_; intro rb w2 hrb BR k2)
    | (refine box_w rfl 35 _ rfl C rfl ?_; intro mb w1 hmb BM k1))
  have BM2 := BM.chg k2 (by simp)
  have K2 := k1.trans1 k2
  rw [← hC] at BM2
  have HMR : Hid (¬ rb = mb ∧ w.heap.size ≤ rb ∧ w.heap.size ≤ mb) := ⟨fun e => by have := BM.lt; omega, by have := k1.size; omega, hmb⟩
  have HG2 := HG.out.chg K2 (by simp)
  clear BM k1 k2 hmb hrb hC
  have GA : Gv w2 gb base gNm 22 52 28 27 65 0 (fun _ => 0) (fun _ _ => []) := Gv.noneM HG2 _ _
  have a100 := ms_at BM2 _ _ (ms_list m)
  have HCL := HL.out w2 K2
  have HGA : Hid (Gv w2 gb base gNm 22 52 28 27 65 0 (fun _ => 0) (fun _ _ => [])) := GA
  have HGE1 : Hid (∀ x, x ∈ gch gb gNm 22 → base ≤ x) := GA.geM HB.out
  have HCC : Hid (Cl w2 m.list N d h b) := HCL
  obtain ⟨vl0, hvl⟩ : ∃ v, m.list = v := ⟨_, rfl⟩
  have HVL : Hid (m.list = vl0) := hvl
  rw [hvl] at a100 HCC
  clear GA HCL hvl HG2
  go_wp2_with fail
  refine (GivenCommitments_s gb N base 0 vl0 d h b gNm _ _ w2 HNM.out.1 (by decide) (Nat.le_trans HB.out (Nat.le_of_lt HGA.out.gb.lt)) HCC.out HGA.out).mono ?_
  rintro e w3 ⟨r, rfl, o, la, lb, rfl, ho, c3, bo, G1⟩
  have BM3 := BM2.chg c3 (HGA.out.off BM2 (by decide) (by decide))
  have BR3 := BR.chg c3 (HGA.out.off BR (by decide) (by decide))
  have K3 : Chg w w3 (gch gb gNm 22) := (K2.incl (fun x hx => by simp at hx)).trans c3 (fun x hx => Or.inl hx)
  have cO := (BM3.cell 100).trans (show (msC m)[100]? = some vl0 from by unfold msC; rw [List.getElem?_toArray, ms_list, HVL.out])
  have fO := BM3.frozen 100
  obtain ⟨GG, hGG⟩ : ∃ GG, upV (upV gNm 22 la) (22 + 1) lb = GG := ⟨_, rfl⟩
  have HGG : Hid (upV (upV gNm 22 la) (22 + 1) lb = GG) := hGG
  rw [hGG] at G1
  have ks := (Chg.refl w3 [mb]).setIn (k := mb) (by simp) 100 (.slice (some ⟨o, 0, none⟩) N (N + 3))
  have BM4 := (BM3.setCell 100 (.slice (some ⟨o, 0, none⟩) N (N + 3))).to (ms_set_list _ _)
  have BR4 := BR3.setOther HMR.out.1 100 (.slice (some ⟨o, 0, none⟩) N (N + 3))
  have K4 := K3.trans ks (fun x hx => by simp at hx; subst hx; exact Or.inr HMR.out.2.2)
  have bo4 := bo.chg ks (by simp; exact bo.ne BM3 (by decide))
  have gb4 := G1.gb.chg ks (by simp; exact G1.gb.ne BM3 (by decide))
  have G4 := G1.besideM gb4 rfl rfl ks (fun z C hz => by simp; exact hz.ne BM3 (by decide)) (fun z C hz => by simp; exact hz.ne BM3 (by decide))
  have HK3 : Hid (Chg w w3 (gch gb gNm 22)) := K3
  have HX : Hid (Blk w3 mb (msC m) 35) := BM3
  clear hGG a100 BM2 BR c3 BR3 K3 ks bo G1 gb4 K2 HCC HL
  go_upto_region 2 with fail
  clear cO fO
  generalize (w3.setCell ⟨mb, 100, none⟩ (.slice (some ⟨o, 0, none⟩) N (N + 3))) = w4 at *
  have hG0 : ∀ q, q < 30 → ¬ q = 22 → ¬ q = 23 → GG q = .slice none 0 0 := fun q _ h1 h2 => by rw [← HGG.out, upV_other _ _ _ _ h2, upV_other _ _ _ _ h1]; rfl
  have g0 := hG0 0 (by decide) (by decide) (by decide)
  have g1 := hG0 1 (by decide) (by decide) (by decide)
  have GB : Gv w4 gb base GG 0 52 29 5 1 0 (fun _ => 0) (fun _ _ => []) :=
    ⟨G4.gb, [], [], by rw [g0]; exact World.ownsRow_nil _ _ _ _, by rw [show GG (0 + 1) = .slice none 0 0 from g1]; exact World.ownsRow_nil _ _ _ _, fun x hx => by rw [g0] at hx; simp [ob, Value.ownBlock] at hx, fun j hj => by omega⟩
  have HGB : Hid (Gv w4 gb base GG 0 52 29 5 1 0 (fun _ => 0) (fun _ _ => [])) := GB
  have HGE2 : Hid (∀ x, x ∈ gch gb GG 0 → base ≤ x) := GB.geM HB.out
  have a101 := ms_at BM4 _ _ (ms_text _)
  have HG0 : Hid (∀ q, q < 30 → ¬ q = 22 → ¬ q = 23 → GG q = .slice none 0 0) := hG0
  have HTT : Hid (Sl w4 m.text M ft) := HT.out.chg K4 (fun g' o' n' c' he hx => HO.out g' o' n' c' he (by simpa [gch, ob, gNm, Value.ownBlock] using hx))
  obtain ⟨vt0, hvt⟩ : ∃ v, m.text = v := ⟨_, rfl⟩
  have HVT : Hid (m.text = vt0) := hvt
  replace a101 : w4.cell? ⟨mb, 101, none⟩ = some vt0 := a101.trans (congrArg some hvt)
  rw [hvt] at HTT
  have HK4 : Hid (Chg w w4 (gch gb gNm 22)) := K4
  clear hvt GB K4 g0 g1 hG0
  go_wp2_with fail
  refine (GivenBytes_k gb M base 0 vt0 ft GG _ _ w4 (Nat.le_trans HNM.out.2 (by decide)) (Nat.zero_le _) (Nat.le_trans HB.out (Nat.le_of_lt HGB.out.gb.lt)) HTT.out HGB.out).mono ?_
  rintro e w5 ⟨r, rfl, o2, la2, lb2, rfl, ho2, c5, bo5, G5⟩
  have hoff := fun z C T hz (h1 : ¬ T = 52) (h2 : ¬ T = 29) => HGB.out.off (o := z) (C := C) (U := T) hz h1 h2
  have BM5 := BM4.chg c5 (hoff _ _ _ BM4 (by decide) (by decide))
  have BR5 := BR4.chg c5 (hoff _ _ _ BR4 (by decide) (by decide))
  have bc5 := bo4.chg c5 (hoff _ _ _ bo4 (by decide) (by decide))
  have GC5 := G4.besideM (G' := upV (upV GG 0 la2) (0 + 1) lb2) G5.gb rfl rfl c5 (fun z C hz => hoff _ _ _ hz (by decide) (by decide)) (fun z C hz => hoff _ _ _ hz (by decide) (by decide))
  have K5 : Chg w w5 (gch gb gNm 22 ++ gch gb GG 0) := (HK4.out.incl (fun x hx => List.mem_append_left _ hx)).trans c5 (fun x hx => Or.inl (List.mem_append_right _ hx))
  have cO := (BM5.cell 101).trans (show (msC { m with list := .slice (some ⟨o, 0, none⟩) N (N + 3) })[101]? = some vt0 from by unfold msC; rw [List.getElem?_toArray, ms_text]; exact congrArg some HVT.out)
  have fO := BM5.frozen 101
  obtain ⟨GH, hGH⟩ : ∃ GH, upV (upV GG 0 la2) (0 + 1) lb2 = GH := ⟨_, rfl⟩
  have HGH : Hid (upV (upV GG 0 la2) (0 + 1) lb2 = GH) := hGH
  rw [hGH] at G5 GC5
  have ks := (Chg.refl w5 [mb]).setIn (k := mb) (by simp) 101 (.slice (some ⟨o2, 0, none⟩) M (M + 3))
  have BM6 := (BM5.setCell 101 (.slice (some ⟨o2, 0, none⟩) M (M + 3))).to (show _ = msC { m with list := .slice (some ⟨o, 0, none⟩) N (N + 3), text := .slice (some ⟨o2, 0, none⟩) M (M + 3) } from ms_set_text _ _)
  have BR6 := BR5.setOther HMR.out.1 101 (.slice (some ⟨o2, 0, none⟩) M (M + 3))
  have K6 := K5.trans ks (fun x hx => by simp at hx; subst hx; exact Or.inr HMR.out.2.2)
  have bc6 := bc5.chg ks (by simp; exact bc5.ne BM5 (by decide))
  have bb6 := bo5.chg ks (by simp; exact bo5.ne BM5 (by decide))
  have gb6 := G5.gb.chg ks (by simp; exact G5.gb.ne BM5 (by decide))
  have GC6 := GC5.besideM gb6 rfl rfl ks (fun z C hz => by simp; exact hz.ne BM5 (by decide)) (fun z C hz => by simp; exact hz.ne BM5 (by decide))
  have GB6 := G5.besideM gb6 rfl rfl ks (fun z C hz => by simp; exact hz.ne BM5 (by decide)) (fun z C hz => by simp; exact hz.ne BM5 (by decide))
  clear hGH a101 BM4 BR4 bo4 G4 c5 hoff BR5 bc5 GC5 K5 ks bo5 G5
  go_upto_region 3 with fail
  clear cO fO BM5
  generalize (w5.setCell ⟨mb, 101, none⟩ (.slice (some ⟨o2, 0, none⟩) M (M + 3))) = w6 at *
  go_wp2_with (first
    | (refine wpList_load_row rfl 35 _ rfl mb rfl 35 _ (0, 0) _ BM6 Tryz.underlying35 rfl (by rw [msC_size]; exact msInfoW) ?_)
    | (refine store_w BR6 rfl 35 _ _ (msC { m with list := .slice (some ⟨o, 0, none⟩) N (N + 3), text := .slice (some ⟨o2, 0, none⟩) M (M + 3) }) rfl rfl rfl (by rw [msC_size]; exact msInfoW) (by rw [msC_size, msC_size]) (ms_oneC _ rfl rfl) ?_; intro wz BRz kz))
  have bcz := bc6.chg kz (by simp; exact bc6.ne BR6 (by decide))
  have bbz := bb6.chg kz (by simp; exact bb6.ne BR6 (by decide))
  have gbz := GC6.gb.chg kz (by simp; exact GC6.gb.ne BR6 (by decide))
  have GCz := GC6.besideM gbz rfl rfl kz (fun z C hz => by simp; exact hz.ne BR6 (by decide)) (fun z C hz => by simp; exact hz.ne BR6 (by decide))
  have GBz := GB6.besideM gbz rfl rfl kz (fun z C hz => by simp; exact hz.ne BR6 (by decide)) (fun z C hz => by simp; exact hz.ne BR6 (by decide))
  have Kz := K6.trans kz (fun x hx => by simp at hx; subst hx; exact Or.inr HMR.out.2.1)
  refine bodyPost_ret (results_cell_row Tryz.results8 _ _ rb 35 (msC { m with list := .slice (some ⟨o, 0, none⟩) N (N + 3), text := .slice (some ⟨o2, 0, none⟩) M (M + 3) }) (0, 0) _ rfl BRz Tryz.underlying35 rfl (by rw [msC_size]; exact msInfoW)) rfl ?_
  refine ⟨_, _, _, _, _, rfl, copy_cl bcz (by omega) (by have := HNM.out.1; omega) HY.out, copy_bl bbz (by omega) (by have := HNM.out.2; omega) HF.out, ⟨GH, _, _, _, _, GBz, GCz, fun q hq h0 h1 h2 h3 => ?_, fun j hj => ?_, fun j hj => ?_⟩, Kz, fun x hx => ?_⟩
  · rw [← HGH.out, upV_other _ _ _ _ h1, upV_other _ _ _ _ h0]
    exact HG0.out q hq h2 h3
  · obtain rfl : j = 0 := by omega
    refine ⟨gvf ft M, if_pos rfl, fun i _ => gvf_lt HF.out i⟩
  · obtain rfl : j = 0 := by omega
    obtain ⟨x, y, z, e, q⟩ := gv_cmE N d h b HY.out
    exact ⟨x, y, z, (if_pos rfl).trans e, fun i _ u hu => q i u hu⟩
  · rcases List.mem_append.1 hx with hx | hx
    · exact HGE1.out x hx
    · exact HGE2.out x hx
end Go.Proofs.YtgjclegpnbjlkaaGreatDoor
