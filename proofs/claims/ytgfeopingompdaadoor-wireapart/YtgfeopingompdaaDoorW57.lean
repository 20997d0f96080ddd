/- rimelaw10.WireApart: the walk. -/
import Derived.Test.YtgfeopingompdaaDoorW53
import Derived.Test.YtgfeopingompdaaDoorW56
set_option linter.unusedVariables false
set_option linter.unusedSimpArgs false
set_option linter.unnecessarySimpa false
namespace Go.Proofs.YtgfeopingompdaaDoor
open Go.RowKit

theorem sFrame_ne : sFrame.toList ≠ s0E.toList := ne_s0 (List.cons_ne_nil _ _)
set_option maxHeartbeats 24000000 in
set_option maxRecDepth 100000 in
theorem apart_walk (m : Ms) (N : Nat) (d : Nat → Int) (h b : Nat → Nat → Nat) (M : Nat) (ft : Nat → Nat) (hm : MsB m) (m' : Ms) (N' : Nat) (d' : Nat → Int) (h' b' : Nat → Nat → Nat) (M' : Nat) (ft' : Nat → Nat) (hm' : MsB m') (z2 : Int) (hz2 : -9223372036854775808 ≤ z2 ∧ z2 < 9223372036854775808) (w : World) (hG : Gl w) (hP : Pw w) (hL : Cl w m.list N d h b) (hT : Sl w m.text M ft) (hL' : Cl w m'.list N' d' h' b') (hT' : Sl w m'.text M' ft') :
    Calls Tryd.prog 3 #[.agg (msC m), .agg (msC m'), .int .i64 z2] w fun e w' => e = .returned (.bool true) ∧ Chg w w' [] := by
  have HWK : Hid (∀ W, Chg w W [] → Calls Tryd.prog 4 #[] W fun e w' => e = .returned (.bool true) ∧ Chg W w' []) := fun W k => works_s W (hG.chg k (by simp) (by simp))
  have HEN1 : Hid (∀ W, Chg w W [] → Calls Tryd.prog 5 #[.agg (msC m)] W fun e w' => EnQ2 m N d h b M ft W e w') := fun W k => Encode_s m N d h b M ft hm W (hG.chg k (by simp) (by simp)) (hL.chg k) (hT.chg k (by simp [Off]))
  have HEN2 : Hid (∀ W, Chg w W [] → Calls Tryd.prog 5 #[.agg (msC m')] W fun e w' => EnQ2 m' N' d' h' b' M' ft' W e w') := fun W k => Encode_s m' N' d' h' b' M' ft' hm' W (hG.chg k (by simp) (by simp)) (hL'.chg k) (hT'.chg k (by simp [Off]))
  have HCK1 : Hid (∀ W, Chg w W [] → Calls Tryd.prog 6 #[.agg (msC m)] W fun e w' => ∃ s a y, e = .returned (.agg (ftC s a y)) ∧ CrP m N d M s a y ∧ Chg W w' []) := fun W k => Check_r m N d h b M ft W (hL.chg k) (hT.chg k (by simp [Off]))
  have HCK2 : Hid (∀ W, Chg w W [] → Calls Tryd.prog 6 #[.agg (msC m')] W fun e w' => ∃ s a y, e = .returned (.agg (ftC s a y)) ∧ CrP m' N' d' M' s a y ∧ Chg W w' []) := fun W k => Check_r m' N' d' h' b' M' ft' W (hL'.chg k) (hT'.chg k (by simp [Off]))
  have HUS1 : Hid (EnG m N d M → ∀ W, Chg w W [] → Calls Tryd.prog 10 #[.agg (msC m)] W fun e w' => ∃ v, e = .returned v ∧ UsV m N d h b M ft W.heap.size w' v ∧ Chg W w' []) := fun hg W k => used_u m N d h b M ft hg W (hL.chg k) (hT.chg k (by simp [Off]))
  have HUS2 : Hid (EnG m' N' d' M' → ∀ W, Chg w W [] → Calls Tryd.prog 10 #[.agg (msC m')] W fun e w' => ∃ v, e = .returned v ∧ UsV m' N' d' h' b' M' ft' W.heap.size w' v ∧ Chg W w' []) := fun hg W k => used_u m' N' d' h' b' M' ft' hg W (hL'.chg k) (hT'.chg k (by simp [Off]))
  have HG : Hid (Gl w) := hG
  have HP : Hid (Pw w) := hP
  have HZ : Hid (-9223372036854775808 ≤ z2 ∧ z2 < 9223372036854775808) := hz2
  clear hm hm' hG hP hL hT hL' hT' hz2
  go_enter Tryd.func3, Tryd.ntmps3
  go_wp2_with (first
    | (have _h := BM; refine box_w rfl 35 _ rfl (msC m') rfl ?_; intro nb w1 hnb BN k1)
    | (refine box_w rfl 35 _ rfl (msC m) rfl ?_; intro mb w0 hmb BM k0))
  have BM1 := BM.chg k1 (by simp)
  have K1 := k0.trans1 k1
  clear BM k0 k1
  refine (HWK.out w1 K1).mono ?_
  rintro e w2 ⟨rfl, k2⟩
  have BM2 := BM1.chg k2 (by simp)
  have BN2 := BN.chg k2 (by simp)
  have K2 := K1.trans1 k2
  clear BM1 BN K1 k2 hmb hnb
  go_wp2_with (refine wpList_load_row rfl 35 _ rfl mb rfl 35 _ (0, 0) _ BM2 Tryd.underlying35 rfl (by rw [msC_size]; exact msInfoW) ?_)
  refine (HEN1.out w2 K2).mono ?_
  rintro e w3 (⟨hg, v, rfl, ⟨s, a, y, hEP, hF⟩, k3⟩ | ⟨hg, v, rfl, hO, k3⟩)
  · obtain ⟨gf, rfl, hgf, BF⟩ := hF
    have HG1 : Hid (¬ EnG m N d M) := hg
    have BM3 := BM2.chg k3 (by simp)
    have BN3 := BN2.chg k3 (by simp)
    have K3 := K2.trans1 k3
    clear hg hEP hgf BF BM2 BN2 K2 k3
    go_wp2_with (refine wpList_load_row rfl 35 _ rfl nb rfl 35 _ (0, 0) _ BN3 Tryd.underlying35 rfl (by rw [msC_size]; exact msInfoW) ?_)
    refine (HEN2.out w3 K3).mono ?_
    rintro e w4 (⟨hg', v', rfl, ⟨s', a', y', hEP', hF'⟩, k4⟩ | ⟨hg', v', rfl, hO', k4⟩)
    · obtain ⟨gf', rfl, hgf', BF'⟩ := hF'
      have HG2 : Hid (¬ EnG m' N' d' M') := hg'
      have BM4 := BM3.chg k4 (by simp)
      have BN4 := BN3.chg k4 (by simp)
      have K4 := K3.trans1 k4
      clear BM3 BN3 K3 k4
      clear hg' hEP' hgf' BF'
      go_wp2_with fail
      have hHeld : Blk w4.drew mb (msC m) 35 ∧ Blk w4.drew nb (msC m') 35 := ⟨BM4.drew, BN4.drew⟩
      have C4 := K4.drew
      refine lt_begin (fun w' => Blk w' mb (msC m) 35 ∧ Blk w' nb (msC m') 35) (fun _ => false) (by kernel_rfl) ?_
      obtain ⟨z, hz⟩ : ∃ z, z = w4.drew := ⟨_, rfl⟩
      rw [← hz] at hHeld C4 ⊢
      clear hz BM4 BN4 K4
      refine lt_val (v := ?_) 0 (some 32) rfl (by kernel_rfl) (by kernel_rfl) (by kernel_rfl) (fun _ _ _ h => h) rfl rfl (fun w => ?_) ?_
      rotate_left
      · (go_simp; try with_reducible rfl)
      try simp only [Act.put, List.setIfInBounds_toArray, List.set_cons_zero, List.set_cons_succ]
      refine lt_val (v := (.bool false)) 1 (some 33) rfl (by kernel_rfl) (by kernel_rfl) (by kernel_rfl) (fun _ _ _ h => h) rfl rfl (fun w => ?_) ?_
      · (go_simp; try with_reducible rfl)
      try simp only [Act.put, List.setIfInBounds_toArray, List.set_cons_zero, List.set_cons_succ]
      refine lt_read (v := (.agg (msC m))) 2 (some 34) rfl (by kernel_rfl) (by kernel_rfl) (by kernel_rfl) (by kernel_rfl) (fun _ _ _ h => h) rfl rfl (fun w hSw => ?_) hHeld ?_
      · exact exec_load_m w 35 _ rfl mb 0 rfl (msL m) _ (ms_rg hSw.1 0 _ (fun j _ => by rw [Nat.zero_add])) Tryd.underlying35 rfl (by rw [msL_len]; exact msInfoW)
      try simp only [Act.put, List.setIfInBounds_toArray, List.set_cons_zero, List.set_cons_succ]
      refine lt_one 3 rfl (by kernel_rfl) rfl (fun K hK => ?_)
      go_simp
      refine (HCK1.out _ C4).mono ?_
      rintro e w5 ⟨s1, a1, y1, rfl, hcr1, k5⟩
      go_wp2_with fail
      refine hK.out _ _ (fun _ h => ⟨h.1.chg k5 (by simp), h.2.chg k5 (by simp)⟩) ?_
      replace hHeld := And.intro (hHeld.1.chg k5 (by simp)) (hHeld.2.chg k5 (by simp))
      have C5 := C4.trans1 k5
      clear C4 k5
      clear hK K
      try simp only [Act.put, List.setIfInBounds_toArray, List.set_cons_zero, List.set_cons_succ]
      refine lt_one 4 rfl (by kernel_rfl) rfl (fun K hK => ?_)
      go_simp
      refine (None_f s1 a1 y1 (hcr1.ne HG1.out) _).mono ?_
      rintro e w6 ⟨rfl, k6⟩
      go_wp2_with fail
      refine hK.out _ _ (fun _ h => ⟨h.1.chg k6 (by simp), h.2.chg k6 (by simp)⟩) ?_
      replace hHeld := And.intro (hHeld.1.chg k6 (by simp)) (hHeld.2.chg k6 (by simp))
      have C6 := C5.trans1 k6
      clear C5 k6
      clear hK K
      try simp only [Act.put, List.setIfInBounds_toArray, List.set_cons_zero, List.set_cons_succ]
      refine lt_val (v := (.bool true)) 5 (some 37) rfl (by kernel_rfl) (by kernel_rfl) (by kernel_rfl) (fun _ _ _ h => h) rfl rfl (fun w => ?_) ?_
      · (go_simp; try with_reducible rfl)
      try simp only [Act.put, List.setIfInBounds_toArray, List.set_cons_zero, List.set_cons_succ]
      refine lt_val (v := (.bool true)) 6 (some 38) rfl (by kernel_rfl) (by kernel_rfl) (by kernel_rfl) (fun _ _ _ h => h) rfl rfl (fun w => ?_) ?_
      · (go_simp; try with_reducible rfl)
      try simp only [Act.put, List.setIfInBounds_toArray, List.set_cons_zero, List.set_cons_succ]
      refine lt_val (v := ?_) 7 (some 39) rfl (by kernel_rfl) (by kernel_rfl) (by kernel_rfl) (fun _ _ _ h => h) rfl rfl (fun w => ?_) ?_
      rotate_left
      · (go_simp; try with_reducible rfl)
      try simp only [Act.put, List.setIfInBounds_toArray, List.set_cons_zero, List.set_cons_succ]
      refine lt_val (v := (.bool false)) 8 (some 40) rfl (by kernel_rfl) (by kernel_rfl) (by kernel_rfl) (fun _ _ _ h => h) rfl rfl (fun w => ?_) ?_
      · (go_simp; try with_reducible rfl)
      try simp only [Act.put, List.setIfInBounds_toArray, List.set_cons_zero, List.set_cons_succ]
      refine lt_read (v := (.agg (msC m'))) 9 (some 41) rfl (by kernel_rfl) (by kernel_rfl) (by kernel_rfl) (by kernel_rfl) (fun _ _ _ h => h) rfl rfl (fun w hSw => ?_) hHeld ?_
      · exact exec_load_m w 35 _ rfl nb 0 rfl (msL m') _ (ms_rg hSw.2 0 _ (fun j _ => by rw [Nat.zero_add])) Tryd.underlying35 rfl (by rw [msL_len]; exact msInfoW)
      try simp only [Act.put, List.setIfInBounds_toArray, List.set_cons_zero, List.set_cons_succ]
      refine lt_one 10 rfl (by kernel_rfl) rfl (fun K hK => ?_)
      go_simp
      refine (HCK2.out _ C6).mono ?_
      rintro e w7 ⟨s2, a2, y2, rfl, hcr2, k7⟩
      go_wp2_with fail
      refine hK.out _ _ (fun _ h => ⟨h.1.chg k7 (by simp), h.2.chg k7 (by simp)⟩) ?_
      replace hHeld := And.intro (hHeld.1.chg k7 (by simp)) (hHeld.2.chg k7 (by simp))
      have C7 := C6.trans1 k7
      clear C6 k7
      clear hK K
      try simp only [Act.put, List.setIfInBounds_toArray, List.set_cons_zero, List.set_cons_succ]
      refine lt_one 11 rfl (by kernel_rfl) rfl (fun K hK => ?_)
      go_simp
      refine (None_f s2 a2 y2 (hcr2.ne HG2.out) _).mono ?_
      rintro e w8 ⟨rfl, k8⟩
      go_wp2_with fail
      refine hK.out _ _ (fun _ h => ⟨h.1.chg k8 (by simp), h.2.chg k8 (by simp)⟩) ?_
      replace hHeld := And.intro (hHeld.1.chg k8 (by simp)) (hHeld.2.chg k8 (by simp))
      have C8 := C7.trans1 k8
      clear C7 k8
      clear hK K
      try simp only [Act.put, List.setIfInBounds_toArray, List.set_cons_zero, List.set_cons_succ]
      refine lt_val (v := (.bool true)) 12 (some 44) rfl (by kernel_rfl) (by kernel_rfl) (by kernel_rfl) (fun _ _ _ h => h) rfl rfl (fun w => ?_) ?_
      · (go_simp; try with_reducible rfl)
      try simp only [Act.put, List.setIfInBounds_toArray, List.set_cons_zero, List.set_cons_succ]
      refine lt_val (v := (.bool true)) 13 (some 45) rfl (by kernel_rfl) (by kernel_rfl) (by kernel_rfl) (fun _ _ _ h => h) rfl rfl (fun w => ?_) ?_
      · (go_simp; try with_reducible rfl)
      try simp only [Act.put, List.setIfInBounds_toArray, List.set_cons_zero, List.set_cons_succ]
      refine lt_val (v := ?_) 14 (some 6) rfl (by kernel_rfl) (by kernel_rfl) (by kernel_rfl) (fun _ _ _ h => h) rfl rfl (fun w => ?_) ?_
      rotate_left
      · (go_simp; try with_reducible rfl)
      try simp only [Act.put, List.setIfInBounds_toArray, List.set_cons_zero, List.set_cons_succ]
      refine lt_done (by kernel_rfl) ?_ _
      go_wp2_with fail
      go_ret
      exact ⟨rfl, C8⟩
    · have HG2 : Hid (EnG m' N' d' M') := hg'
      have BM4 := BM3.chg k4 (by simp)
      have BN4 := BN3.chg k4 (by simp)
      have K4 := K3.trans1 k4
      clear BM3 BN3 K3 k4
      obtain ⟨p', c', rfl⟩ := slFm hO'.sl
      clear hg' hO'
      go_wp2_with fail
      have hHeld : Blk w4.drew mb (msC m) 35 ∧ Blk w4.drew nb (msC m') 35 := ⟨BM4.drew, BN4.drew⟩
      have C4 := K4.drew
      refine lt_begin (fun w' => Blk w' mb (msC m) 35 ∧ Blk w' nb (msC m') 35) (fun _ => false) (by kernel_rfl) ?_
      obtain ⟨z, hz⟩ : ∃ z, z = w4.drew := ⟨_, rfl⟩
      rw [← hz] at hHeld C4 ⊢
      clear hz BM4 BN4 K4
      refine lt_val (v := ?_) 0 (some 32) rfl (by kernel_rfl) (by kernel_rfl) (by kernel_rfl) (fun _ _ _ h => h) rfl rfl (fun w => ?_) ?_
      rotate_left
      · (go_simp; try with_reducible rfl)
      try simp only [Act.put, List.setIfInBounds_toArray, List.set_cons_zero, List.set_cons_succ]
      refine lt_val (v := (.bool false)) 1 (some 33) rfl (by kernel_rfl) (by kernel_rfl) (by kernel_rfl) (fun _ _ _ h => h) rfl rfl (fun w => ?_) ?_
      · (go_simp; try with_reducible rfl)
      try simp only [Act.put, List.setIfInBounds_toArray, List.set_cons_zero, List.set_cons_succ]
      refine lt_read (v := (.agg (msC m))) 2 (some 34) rfl (by kernel_rfl) (by kernel_rfl) (by kernel_rfl) (by kernel_rfl) (fun _ _ _ h => h) rfl rfl (fun w hSw => ?_) hHeld ?_
      · exact exec_load_m w 35 _ rfl mb 0 rfl (msL m) _ (ms_rg hSw.1 0 _ (fun j _ => by rw [Nat.zero_add])) Tryd.underlying35 rfl (by rw [msL_len]; exact msInfoW)
      try simp only [Act.put, List.setIfInBounds_toArray, List.set_cons_zero, List.set_cons_succ]
      refine lt_one 3 rfl (by kernel_rfl) rfl (fun K hK => ?_)
      go_simp
      refine (HCK1.out _ C4).mono ?_
      rintro e w5 ⟨s1, a1, y1, rfl, hcr1, k5⟩
      go_wp2_with fail
      refine hK.out _ _ (fun _ h => ⟨h.1.chg k5 (by simp), h.2.chg k5 (by simp)⟩) ?_
      replace hHeld := And.intro (hHeld.1.chg k5 (by simp)) (hHeld.2.chg k5 (by simp))
      have C5 := C4.trans1 k5
      clear C4 k5
      clear hK K
      try simp only [Act.put, List.setIfInBounds_toArray, List.set_cons_zero, List.set_cons_succ]
      refine lt_one 4 rfl (by kernel_rfl) rfl (fun K hK => ?_)
      go_simp
      refine (None_f s1 a1 y1 (hcr1.ne HG1.out) _).mono ?_
      rintro e w6 ⟨rfl, k6⟩
      go_wp2_with fail
      refine hK.out _ _ (fun _ h => ⟨h.1.chg k6 (by simp), h.2.chg k6 (by simp)⟩) ?_
      replace hHeld := And.intro (hHeld.1.chg k6 (by simp)) (hHeld.2.chg k6 (by simp))
      have C6 := C5.trans1 k6
      clear C5 k6
      clear hK K
      try simp only [Act.put, List.setIfInBounds_toArray, List.set_cons_zero, List.set_cons_succ]
      refine lt_val (v := (.bool true)) 5 (some 37) rfl (by kernel_rfl) (by kernel_rfl) (by kernel_rfl) (fun _ _ _ h => h) rfl rfl (fun w => ?_) ?_
      · (go_simp; try with_reducible rfl)
      try simp only [Act.put, List.setIfInBounds_toArray, List.set_cons_zero, List.set_cons_succ]
      refine lt_val (v := (.bool true)) 6 (some 38) rfl (by kernel_rfl) (by kernel_rfl) (by kernel_rfl) (fun _ _ _ h => h) rfl rfl (fun w => ?_) ?_
      · (go_simp; try with_reducible rfl)
      try simp only [Act.put, List.setIfInBounds_toArray, List.set_cons_zero, List.set_cons_succ]
      refine lt_val (v := ?_) 7 (some 39) rfl (by kernel_rfl) (by kernel_rfl) (by kernel_rfl) (fun _ _ _ h => h) rfl rfl (fun w => ?_) ?_
      rotate_left
      · (go_simp; try with_reducible rfl)
      try simp only [Act.put, List.setIfInBounds_toArray, List.set_cons_zero, List.set_cons_succ]
      refine lt_val (v := (.bool true)) 8 (some 40) rfl (by kernel_rfl) (by kernel_rfl) (by kernel_rfl) (fun _ _ _ h => h) rfl rfl (fun w => ?_) ?_
      · (go_simp; try with_reducible rfl)
      try simp only [Act.put, List.setIfInBounds_toArray, List.set_cons_zero, List.set_cons_succ]
      refine lt_read (v := (.agg (msC m'))) 9 (some 41) rfl (by kernel_rfl) (by kernel_rfl) (by kernel_rfl) (by kernel_rfl) (fun _ _ _ h => h) rfl rfl (fun w hSw => ?_) hHeld ?_
      · exact exec_load_m w 35 _ rfl nb 0 rfl (msL m') _ (ms_rg hSw.2 0 _ (fun j _ => by rw [Nat.zero_add])) Tryd.underlying35 rfl (by rw [msL_len]; exact msInfoW)
      try simp only [Act.put, List.setIfInBounds_toArray, List.set_cons_zero, List.set_cons_succ]
      refine lt_one 10 rfl (by kernel_rfl) rfl (fun K hK => ?_)
      go_simp
      refine (HCK2.out _ C6).mono ?_
      rintro e w7 ⟨s2, a2, y2, rfl, hcr2, k7⟩
      go_wp2_with fail
      refine hK.out _ _ (fun _ h => ⟨h.1.chg k7 (by simp), h.2.chg k7 (by simp)⟩) ?_
      replace hHeld := And.intro (hHeld.1.chg k7 (by simp)) (hHeld.2.chg k7 (by simp))
      have C7 := C6.trans1 k7
      clear C6 k7
      clear hK K
      try simp only [Act.put, List.setIfInBounds_toArray, List.set_cons_zero, List.set_cons_succ]
      refine lt_one 11 rfl (by kernel_rfl) rfl (fun K hK => ?_)
      go_simp
      obtain rfl := hcr2.eq HG2.out
      refine (None_0 a2 y2 _).mono ?_
      rintro e w8 ⟨rfl, k8⟩
      go_wp2_with fail
      refine hK.out _ _ (fun _ h => ⟨h.1.chg k8 (by simp), h.2.chg k8 (by simp)⟩) ?_
      replace hHeld := And.intro (hHeld.1.chg k8 (by simp)) (hHeld.2.chg k8 (by simp))
      have C8 := C7.trans1 k8
      clear C7 k8
      clear hK K
      try simp only [Act.put, List.setIfInBounds_toArray, List.set_cons_zero, List.set_cons_succ]
      refine lt_val (v := (.bool true)) 12 (some 44) rfl (by kernel_rfl) (by kernel_rfl) (by kernel_rfl) (fun _ _ _ h => h) rfl rfl (fun w => ?_) ?_
      · (go_simp; try with_reducible rfl)
      try simp only [Act.put, List.setIfInBounds_toArray, List.set_cons_zero, List.set_cons_succ]
      refine lt_val (v := (.bool true)) 13 (some 45) rfl (by kernel_rfl) (by kernel_rfl) (by kernel_rfl) (fun _ _ _ h => h) rfl rfl (fun w => ?_) ?_
      · (go_simp; try with_reducible rfl)
      try simp only [Act.put, List.setIfInBounds_toArray, List.set_cons_zero, List.set_cons_succ]
      refine lt_val (v := ?_) 14 (some 6) rfl (by kernel_rfl) (by kernel_rfl) (by kernel_rfl) (fun _ _ _ h => h) rfl rfl (fun w => ?_) ?_
      rotate_left
      · (go_simp; try with_reducible rfl)
      try simp only [Act.put, List.setIfInBounds_toArray, List.set_cons_zero, List.set_cons_succ]
      refine lt_done (by kernel_rfl) ?_ _
      go_wp2_with fail
      go_ret
      exact ⟨rfl, C8⟩
  · have HG1 : Hid (EnG m N d M) := hg
    have BM3 := BM2.chg k3 (by simp)
    have BN3 := BN2.chg k3 (by simp)
    have K3 := K2.trans1 k3
    clear BM2 BN2 K2
    obtain ⟨Z, hZ⟩ : ∃ Z, 4 + 2 + 4 + enN m N M + 4 = Z := ⟨_, rfl⟩
    rw [hZ] at hO
    have HZZ : Hid (4 + 2 + 4 + enN m N M + 4 = Z) := hZ
    obtain ⟨p, c, hvv⟩ := slFm hO.sl
    subst hvv
    have HO3 : Hid (Own w3 w2.heap.size (.slice p Z c) Z (frB m.kind.toNat (enN m N M) (enF m N d h b M ft))) := hO
    clear hg hO k3 hZ
    go_wp2_with (refine wpList_load_row rfl 35 _ rfl nb rfl 35 _ (0, 0) _ BN3 Tryd.underlying35 rfl (by rw [msC_size]; exact msInfoW) ?_)
    refine (HEN2.out w3 K3).mono ?_
    rintro e w4 (⟨hg', v', rfl, ⟨s', a', y', hEP', hF'⟩, k4⟩ | ⟨hg', v', rfl, hO', k4⟩)
    · obtain ⟨gf', rfl, hgf', BF'⟩ := hF'
      have HG2 : Hid (¬ EnG m' N' d' M') := hg'
      have BM4 := BM3.chg k4 (by simp)
      have BN4 := BN3.chg k4 (by simp)
      have K4 := K3.trans1 k4
      clear BM3 BN3 K3 k4
      clear hg' hEP' hgf' BF' HO3 HZZ
      go_wp2_with fail
      have hHeld : Blk w4.drew mb (msC m) 35 ∧ Blk w4.drew nb (msC m') 35 := ⟨BM4.drew, BN4.drew⟩
      have C4 := K4.drew
      refine lt_begin (fun w' => Blk w' mb (msC m) 35 ∧ Blk w' nb (msC m') 35) (fun _ => false) (by kernel_rfl) ?_
      obtain ⟨z, hz⟩ : ∃ z, z = w4.drew := ⟨_, rfl⟩
      rw [← hz] at hHeld C4 ⊢
      clear hz BM4 BN4 K4
      refine lt_val (v := ?_) 0 (some 32) rfl (by kernel_rfl) (by kernel_rfl) (by kernel_rfl) (fun _ _ _ h => h) rfl rfl (fun w => ?_) ?_
      rotate_left
      · (go_simp; try with_reducible rfl)
      try simp only [Act.put, List.setIfInBounds_toArray, List.set_cons_zero, List.set_cons_succ]
      refine lt_val (v := (.bool true)) 1 (some 33) rfl (by kernel_rfl) (by kernel_rfl) (by kernel_rfl) (fun _ _ _ h => h) rfl rfl (fun w => ?_) ?_
      · (go_simp; try with_reducible rfl)
      try simp only [Act.put, List.setIfInBounds_toArray, List.set_cons_zero, List.set_cons_succ]
      refine lt_read (v := (.agg (msC m))) 2 (some 34) rfl (by kernel_rfl) (by kernel_rfl) (by kernel_rfl) (by kernel_rfl) (fun _ _ _ h => h) rfl rfl (fun w hSw => ?_) hHeld ?_
      · exact exec_load_m w 35 _ rfl mb 0 rfl (msL m) _ (ms_rg hSw.1 0 _ (fun j _ => by rw [Nat.zero_add])) Tryd.underlying35 rfl (by rw [msL_len]; exact msInfoW)
      try simp only [Act.put, List.setIfInBounds_toArray, List.set_cons_zero, List.set_cons_succ]
      refine lt_one 3 rfl (by kernel_rfl) rfl (fun K hK => ?_)
      go_simp
      refine (HCK1.out _ C4).mono ?_
      rintro e w5 ⟨s1, a1, y1, rfl, hcr1, k5⟩
      go_wp2_with fail
      refine hK.out _ _ (fun _ h => ⟨h.1.chg k5 (by simp), h.2.chg k5 (by simp)⟩) ?_
      replace hHeld := And.intro (hHeld.1.chg k5 (by simp)) (hHeld.2.chg k5 (by simp))
      have C5 := C4.trans1 k5
      clear C4 k5
      clear hK K
      try simp only [Act.put, List.setIfInBounds_toArray, List.set_cons_zero, List.set_cons_succ]
      refine lt_one 4 rfl (by kernel_rfl) rfl (fun K hK => ?_)
      go_simp
      obtain rfl := hcr1.eq HG1.out
      refine (None_0 a1 y1 _).mono ?_
      rintro e w6 ⟨rfl, k6⟩
      go_wp2_with fail
      refine hK.out _ _ (fun _ h => ⟨h.1.chg k6 (by simp), h.2.chg k6 (by simp)⟩) ?_
      replace hHeld := And.intro (hHeld.1.chg k6 (by simp)) (hHeld.2.chg k6 (by simp))
      have C6 := C5.trans1 k6
      clear C5 k6
      clear hK K
      try simp only [Act.put, List.setIfInBounds_toArray, List.set_cons_zero, List.set_cons_succ]
      refine lt_val (v := (.bool true)) 5 (some 37) rfl (by kernel_rfl) (by kernel_rfl) (by kernel_rfl) (fun _ _ _ h => h) rfl rfl (fun w => ?_) ?_
      · (go_simp; try with_reducible rfl)
      try simp only [Act.put, List.setIfInBounds_toArray, List.set_cons_zero, List.set_cons_succ]
      refine lt_val (v := (.bool true)) 6 (some 38) rfl (by kernel_rfl) (by kernel_rfl) (by kernel_rfl) (fun _ _ _ h => h) rfl rfl (fun w => ?_) ?_
      · (go_simp; try with_reducible rfl)
      try simp only [Act.put, List.setIfInBounds_toArray, List.set_cons_zero, List.set_cons_succ]
      refine lt_val (v := ?_) 7 (some 39) rfl (by kernel_rfl) (by kernel_rfl) (by kernel_rfl) (fun _ _ _ h => h) rfl rfl (fun w => ?_) ?_
      rotate_left
      · (go_simp; try with_reducible rfl)
      try simp only [Act.put, List.setIfInBounds_toArray, List.set_cons_zero, List.set_cons_succ]
      refine lt_val (v := (.bool false)) 8 (some 40) rfl (by kernel_rfl) (by kernel_rfl) (by kernel_rfl) (fun _ _ _ h => h) rfl rfl (fun w => ?_) ?_
      · (go_simp; try with_reducible rfl)
      try simp only [Act.put, List.setIfInBounds_toArray, List.set_cons_zero, List.set_cons_succ]
      refine lt_read (v := (.agg (msC m'))) 9 (some 41) rfl (by kernel_rfl) (by kernel_rfl) (by kernel_rfl) (by kernel_rfl) (fun _ _ _ h => h) rfl rfl (fun w hSw => ?_) hHeld ?_
      · exact exec_load_m w 35 _ rfl nb 0 rfl (msL m') _ (ms_rg hSw.2 0 _ (fun j _ => by rw [Nat.zero_add])) Tryd.underlying35 rfl (by rw [msL_len]; exact msInfoW)
      try simp only [Act.put, List.setIfInBounds_toArray, List.set_cons_zero, List.set_cons_succ]
      refine lt_one 10 rfl (by kernel_rfl) rfl (fun K hK => ?_)
      go_simp
      refine (HCK2.out _ C6).mono ?_
      rintro e w7 ⟨s2, a2, y2, rfl, hcr2, k7⟩
      go_wp2_with fail
      refine hK.out _ _ (fun _ h => ⟨h.1.chg k7 (by simp), h.2.chg k7 (by simp)⟩) ?_
      replace hHeld := And.intro (hHeld.1.chg k7 (by simp)) (hHeld.2.chg k7 (by simp))
      have C7 := C6.trans1 k7
      clear C6 k7
      clear hK K
      try simp only [Act.put, List.setIfInBounds_toArray, List.set_cons_zero, List.set_cons_succ]
      refine lt_one 11 rfl (by kernel_rfl) rfl (fun K hK => ?_)
      go_simp
      refine (None_f s2 a2 y2 (hcr2.ne HG2.out) _).mono ?_
      rintro e w8 ⟨rfl, k8⟩
      go_wp2_with fail
      refine hK.out _ _ (fun _ h => ⟨h.1.chg k8 (by simp), h.2.chg k8 (by simp)⟩) ?_
      replace hHeld := And.intro (hHeld.1.chg k8 (by simp)) (hHeld.2.chg k8 (by simp))
      have C8 := C7.trans1 k8
      clear C7 k8
      clear hK K
      try simp only [Act.put, List.setIfInBounds_toArray, List.set_cons_zero, List.set_cons_succ]
      refine lt_val (v := (.bool true)) 12 (some 44) rfl (by kernel_rfl) (by kernel_rfl) (by kernel_rfl) (fun _ _ _ h => h) rfl rfl (fun w => ?_) ?_
      · (go_simp; try with_reducible rfl)
      try simp only [Act.put, List.setIfInBounds_toArray, List.set_cons_zero, List.set_cons_succ]
      refine lt_val (v := (.bool true)) 13 (some 45) rfl (by kernel_rfl) (by kernel_rfl) (by kernel_rfl) (fun _ _ _ h => h) rfl rfl (fun w => ?_) ?_
      · (go_simp; try with_reducible rfl)
      try simp only [Act.put, List.setIfInBounds_toArray, List.set_cons_zero, List.set_cons_succ]
      refine lt_val (v := ?_) 14 (some 6) rfl (by kernel_rfl) (by kernel_rfl) (by kernel_rfl) (fun _ _ _ h => h) rfl rfl (fun w => ?_) ?_
      rotate_left
      · (go_simp; try with_reducible rfl)
      try simp only [Act.put, List.setIfInBounds_toArray, List.set_cons_zero, List.set_cons_succ]
      refine lt_done (by kernel_rfl) ?_ _
      go_wp2_with fail
      go_ret
      exact ⟨rfl, C8⟩
    · have HG2 : Hid (EnG m' N' d' M') := hg'
      have hO := HO3.out
      have hFE := fr_eqM m N d h b M ft m' N' d' h' b' M' ft' HG1.out HG2.out
      have hn := enN_le2 m N d M HG1.out
      have hk := HG1.out.1
      unfold okKind at hk
      have hn' := enN_le2 m' N' d' M' HG2.out
      obtain ⟨n, hnn⟩ : ∃ n, enN m N M = n := ⟨_, rfl⟩
      obtain ⟨f, hff⟩ : ∃ f, enF m N d h b M ft = f := ⟨_, rfl⟩
      obtain ⟨k, hkk⟩ : ∃ k, m.kind.toNat = k := ⟨_, rfl⟩
      obtain ⟨n', hnn'⟩ : ∃ n, enN m' N' M' = n := ⟨_, rfl⟩
      obtain ⟨f', hff'⟩ : ∃ f, enF m' N' d' h' b' M' ft' = f := ⟨_, rfl⟩
      obtain ⟨k', hkk'⟩ : ∃ k, m'.kind.toNat = k := ⟨_, rfl⟩
      have hk2 : 1 ≤ k ∧ k ≤ 6 := by omega
      rw [hnn] at hn
      rw [hnn'] at hn'
      have hZ1 := HZZ.out
      rw [hnn] at hZ1
      have hZ : 14 + n = Z := by omega
      rw [hnn, hff, hkk] at hO
      rw [hnn', hff', hkk', show 4 + 2 + 4 + n' + 4 = 14 + n' by omega] at hO'
      rw [hnn, hff, hkk, hnn', hff', hkk'] at hFE
      clear HO3 HZZ hZ1
      obtain ⟨Z', hZ'⟩ : ∃ Z, 14 + n' = Z := ⟨_, rfl⟩
      rw [hZ] at hFE
      rw [hZ'] at hO' hFE
      obtain ⟨p', c', hvv'⟩ := slFm hO'.sl
      subst hvv'
      have BM4 := BM3.chg k4 (by simp)
      have BN4 := BN3.chg k4 (by simp)
      have K4 := K3.trans1 k4
      have hO4 := hO.far k4 (fun y hy => by simp at hy)
      have HOA : Hid (∀ W, Chg w4 W [] → Sl W (.slice p Z c) Z (frB k n f)) := fun W q => (hO4.far q (fun y hy => by simp at hy)).sl
      have HOB : Hid (∀ W, Chg w4 W [] → Sl W (.slice p' Z' c') Z' (frB k' n' f')) := fun W q => (hO'.far q (fun y hy => by simp at hy)).sl
      have HQ : Hid (∀ W, Chg w4 W [] → Calls Tryd.prog 8 #[.slice p Z c, .slice p' Z' c'] W fun e w' => e = .returned (.bool (eqM (usM m) (uK m N) d h b (uK m M) ft (usM m') (uK m' N') d' h' b' (uK m' M') ft')) ∧ Chg W w' []) := fun W q => by
        rw [← hFE]
        exact SameBytes_w (.slice p Z c) Z (frB k n f) (.slice p' Z' c') Z' (frB k' n' f') W (HOA.out W q).zb (HOB.out W q).zb
      have HSZ : Hid (∀ v v' W B B', UsV m N d h b M ft B W v → UsV m' N' d' h' b' M' ft' B' W v' → Calls Tryd.prog 9 #[v, v'] W fun e w' => e = .returned (.bool (eqM (usM m) (uK m N) d h b (uK m M) ft (usM m') (uK m' N') d' h' b' (uK m' M') ft')) ∧ Chg W w' []) :=
        fun v v' W B B' q q' => Same_us m N d h b M ft m' N' d' h' b' M' ft' v v' W B B' q q'
      obtain ⟨R, hR⟩ : ∃ R, eqM (usM m) (uK m N) d h b (uK m M) ft (usM m') (uK m' N') d' h' b' (uK m' M') ft' = R := ⟨_, rfl⟩
      rw [hR] at HQ HSZ
      have HNK : Hid ((1 ≤ k ∧ k ≤ 6) ∧ n ≤ 1065189 ∧ 14 + n = Z) := ⟨hk2, hn, hZ⟩
      clear hg' hO hO' hO4 hFE hn hn' hk hk2 hnn hff hkk hnn' hff' hkk' hZ hZ' hR BM3 BN3 K3 k4
      go_wp2_with fail
      have hHeld : Blk w4.drew mb (msC m) 35 ∧ Blk w4.drew nb (msC m') 35 := ⟨BM4.drew, BN4.drew⟩
      have C4 := K4.drew
      have D4 : Chg w4 w4.drew [] := (Chg.refl w4 []).drew
      refine lt_begin (fun w' => Blk w' mb (msC m) 35 ∧ Blk w' nb (msC m') 35) (fun _ => false) (by kernel_rfl) ?_
      obtain ⟨z, hz⟩ : ∃ z, z = w4.drew := ⟨_, rfl⟩
      rw [← hz] at hHeld C4 D4 ⊢
      clear hz BM4 BN4 K4
      refine lt_val (v := ?_) 0 (some 46) rfl (by kernel_rfl) (by kernel_rfl) (by kernel_rfl) (fun _ _ _ h => h) rfl rfl (fun w => ?_) ?_
      rotate_left
      · (go_simp; try with_reducible rfl)
      try simp only [Act.put, List.setIfInBounds_toArray, List.set_cons_zero, List.set_cons_succ]
      refine lt_val (v := ?_) 1 (some 47) rfl (by kernel_rfl) (by kernel_rfl) (by kernel_rfl) (fun _ _ _ h => h) rfl rfl (fun w => ?_) ?_
      rotate_left
      · (go_simp; try with_reducible rfl)
      try simp only [Act.put, List.setIfInBounds_toArray, List.set_cons_zero, List.set_cons_succ]
      refine lt_read (v := (.agg (msC m))) 3 (some 49) rfl (by kernel_rfl) (by kernel_rfl) (by kernel_rfl) (by kernel_rfl) (fun _ _ _ h => h) rfl rfl (fun w hSw => ?_) hHeld ?_
      · exact exec_load_m w 35 _ rfl mb 0 rfl (msL m) _ (ms_rg hSw.1 0 _ (fun j _ => by rw [Nat.zero_add])) Tryd.underlying35 rfl (by rw [msL_len]; exact msInfoW)
      try simp only [Act.put, List.setIfInBounds_toArray, List.set_cons_zero, List.set_cons_succ]
      refine lt_read (v := (.agg (msC m'))) 5 (some 51) rfl (by kernel_rfl) (by kernel_rfl) (by kernel_rfl) (by kernel_rfl) (fun _ _ _ h => h) rfl rfl (fun w hSw => ?_) hHeld ?_
      · exact exec_load_m w 35 _ rfl nb 0 rfl (msL m') _ (ms_rg hSw.2 0 _ (fun j _ => by rw [Nat.zero_add])) Tryd.underlying35 rfl (by rw [msL_len]; exact msInfoW)
      try simp only [Act.put, List.setIfInBounds_toArray, List.set_cons_zero, List.set_cons_succ]
      refine lt_one 2 rfl (by kernel_rfl) rfl (fun K hK => ?_)
      go_simp
      refine (HQ.out _ D4).mono ?_
      rintro e w5 ⟨rfl, k5⟩
      go_wp2_with fail
      refine hK.out _ _ (fun _ h => ⟨h.1.chg k5 (by simp), h.2.chg k5 (by simp)⟩) ?_
      replace hHeld := And.intro (hHeld.1.chg k5 (by simp)) (hHeld.2.chg k5 (by simp))
      have C5 := C4.trans1 k5
      have D5 := D4.trans1 k5
      clear C4 D4 k5
      clear hK K
      try simp only [Act.put, List.setIfInBounds_toArray, List.set_cons_zero, List.set_cons_succ]
      refine lt_one 4 rfl (by kernel_rfl) rfl (fun K hK => ?_)
      go_simp
      refine (HUS1.out HG1.out _ C5).mono ?_
      rintro e w6 ⟨u1, rfl, hu1, k6⟩
      have HU1 : Hid (UsV m N d h b M ft w5.heap.size w6 u1) := hu1
      clear hu1
      go_wp2_with fail
      refine hK.out _ _ (fun _ h => ⟨h.1.chg k6 (by simp), h.2.chg k6 (by simp)⟩) ?_
      replace hHeld := And.intro (hHeld.1.chg k6 (by simp)) (hHeld.2.chg k6 (by simp))
      have C6 := C5.trans1 k6
      have D6 := D5.trans1 k6
      clear C5 D5 k6
      clear hK K
      try simp only [Act.put, List.setIfInBounds_toArray, List.set_cons_zero, List.set_cons_succ]
      refine lt_one 6 rfl (by kernel_rfl) rfl (fun K hK => ?_)
      go_simp
      refine (HUS2.out HG2.out _ C6).mono ?_
      rintro e w7 ⟨u2, rfl, hu2, k7⟩
      have HU2 : Hid (UsV m' N' d' h' b' M' ft' w6.heap.size w7 u2) := hu2
      have HU1b : Hid (UsV m N d h b M ft w5.heap.size w7 u1) := HU1.out.far k7 (fun y hy => by simp at hy) (Nat.le_refl _)
      clear hu2
      go_wp2_with fail
      refine hK.out _ _ (fun _ h => ⟨h.1.chg k7 (by simp), h.2.chg k7 (by simp)⟩) ?_
      replace hHeld := And.intro (hHeld.1.chg k7 (by simp)) (hHeld.2.chg k7 (by simp))
      have C7 := C6.trans1 k7
      have D7 := D6.trans1 k7
      clear C6 D6 k7
      clear hK K
      try simp only [Act.put, List.setIfInBounds_toArray, List.set_cons_zero, List.set_cons_succ]
      refine lt_one 7 rfl (by kernel_rfl) rfl (fun K hK => ?_)
      go_simp
      refine (HSZ.out u1 u2 _ _ _ HU1b.out HU2.out).mono ?_
      rintro e w8 ⟨rfl, k8⟩
      go_wp2_with fail
      refine hK.out _ _ (fun _ h => ⟨h.1.chg k8 (by simp), h.2.chg k8 (by simp)⟩) ?_
      replace hHeld := And.intro (hHeld.1.chg k8 (by simp)) (hHeld.2.chg k8 (by simp))
      have C8 := C7.trans1 k8
      have D8 := D7.trans1 k8
      clear C7 D7 k8
      clear hK K
      try simp only [Act.put, List.setIfInBounds_toArray, List.set_cons_zero, List.set_cons_succ]
      refine lt_val (v := (.bool false)) 8 (some 54) rfl (by kernel_rfl) (by kernel_rfl) (by kernel_rfl) (fun _ _ _ h => h) rfl rfl (fun w => ?_) ?_
      · (cases R <;> (go_simp; try with_reducible rfl))
      try simp only [Act.put, List.setIfInBounds_toArray, List.set_cons_zero, List.set_cons_succ]
      refine lt_done (by kernel_rfl) ?_ _
      obtain ⟨g, o, hpp, hcc⟩ : ∃ g o, p = some ⟨g, o, none⟩ ∧ (Z ≤ c ∧ c ≤ 9223372036854775807 ∧ Bs w8 g o Z (frB k n f)) := by
        rcases HOA.out w8 D8 with ⟨h0, _⟩ | ⟨g, o, c', h1, h2, h3, h4⟩
        · have := HNK.out; omega
        · simp only [Value.slice.injEq, true_and] at h1
          obtain ⟨rfl, rfl⟩ := h1
          exact ⟨g, o, rfl, h2, h3, h4⟩
      subst hpp
      have HB8 : Hid (Z ≤ c ∧ c ≤ 9223372036854775807 ∧ Bs w8 g o Z (frB k n f)) := hcc
      clear hcc hHeld
      have hZ0 : (0 : Int) < (Z : Int) := by have := HNK.out; omega
      have hZz : ¬ (Z : Int) = 0 := by omega
      have HDC : Hid (∀ q : Nat, q < Z → Calls Tryd.prog 11 #[.slice (some ⟨g, o, none⟩) q c] w8 fun e w' => ∃ fv, e = .returned (.tuple #[.agg (msC (ms0 0)), fv]) ∧ Ft w' w8.heap.size fv sFrame (q : Int) ((3 : Nat) : Int) ∧ Chg w8 w' []) := fun q hq => by
        obtain ⟨h1, h2, h3⟩ := HNK.out
        obtain ⟨h4, h5, h6⟩ := HB8.out
        exact Decode_cut g o c k n f h1 h2 q (by omega) (by omega) h5 w8 (HG.out.chg C8 (by simp) (by simp)) (by rw [h3]; exact h6)
      have HFA : Hid (∀ (q : Nat) gf W, q < Z → Chg w W [] → Blk W gf (ftC sFrame q 3) 63 → Calls Tryd.prog 12 #[.iface 60 (.pointer (some ⟨gf, 0, none⟩)), .agg (ftC sFrame q 3)] W fun e w' => e = .returned (.bool true) ∧ Chg W w' []) :=
        fun q gf W hq kk BB => fault_any w HP.out gf sFrame q 3 (by decide) sFrame_ne (by have := HNK.out; omega) (by omega) W kk BB
      have hZc : (Z : Int) ≤ (c : Int) := by have := HB8.out; omega
      obtain ⟨r, hr⟩ : ∃ r, z2.tmod (Z : Int) = r := ⟨_, rfl⟩
      have hr1 : -(Z : Int) < r ∧ r < (Z : Int) := by
        rw [← hr]
        exact ⟨Int.lt_tmod_of_pos z2 hZ0, Int.tmod_lt_of_pos z2 hZ0⟩
      have hzB : (Z : Int) < 4294967296 := by have := HNK.out; omega
      have hrw : IntKind.i64.wrap r = r := by rw [IntKind.wrap_i64]; omega
      by_cases hneg : r < 0
      · obtain ⟨q, hq⟩ : ∃ q : Nat, r + (Z : Int) = (q : Int) := Int.eq_ofNat_of_zero_le (by omega)
        have hq2 : IntKind.i64.wrap (r + (Z : Int)) = (q : Int) := by rw [IntKind.wrap_i64]; omega
        have HQZ : Hid (q < Z) := by show q < Z; omega
        have hq3 : IntKind.i64.wrap (q : Int) = (q : Int) := by rw [IntKind.wrap_i64]; omega
        have hqc : (q : Int) ≤ (c : Int) := by omega
        have hq0 : (0 : Int) ≤ (q : Int) := by omega
        clear hr1 hzB
        go_wp2_with fail
        refine (HDC.out q HQZ.out).mono ?_
        rintro e w9 ⟨fv, rfl, ⟨gf, rfl, hgf, BF⟩, k9⟩
        have K9 := C8.trans1 k9
        clear C8 D8 k9 hgf
        go_wp2_with (first
          | (refine store_w BY rfl 35 _ _ (msC (ms0 0)) rfl rfl rfl (by rw [msC_size]; exact msInfoW) rfl (ms_oneC _ rfl rfl) ?_; intro w11 BY11 k11)
          | (with_reducible refine alloc_w rfl 35 rfl (.agg (msC (ms0 0))) zeroMsg (msC (ms0 0)) rfl ?_; intro yb w10 hyb BY k10))
        have K11 := K9.trans1 (k10.new k11 hyb)
        have BF11 := BF.chg (k10.new k11 hyb) (by simp)
        clear K9 BF k10 k11 BY BY11 hyb
        refine (HFA.out q gf w11 HQZ.out K11 BF11).mono ?_
        rintro e w12 ⟨rfl, k12⟩
        go_wp2_with fail
        go_ret
        exact ⟨rfl, K11.trans1 k12⟩
      · obtain ⟨q, hq⟩ := Int.eq_ofNat_of_zero_le (show 0 ≤ r by omega)
        subst hq
        have HQZ : Hid (q < Z) := by show q < Z; omega
        have hq3 : IntKind.i64.wrap (q : Int) = (q : Int) := by rw [IntKind.wrap_i64]; omega
        have hqc : (q : Int) ≤ (c : Int) := by omega
        have hq0 : (0 : Int) ≤ (q : Int) := by omega
        clear hr1 hzB
        go_wp2_with fail
        refine (HDC.out q HQZ.out).mono ?_
        rintro e w9 ⟨fv, rfl, ⟨gf, rfl, hgf, BF⟩, k9⟩
        have K9 := C8.trans1 k9
        clear C8 D8 k9 hgf
        go_wp2_with (first
          | (refine store_w BY rfl 35 _ _ (msC (ms0 0)) rfl rfl rfl (by rw [msC_size]; exact msInfoW) rfl (ms_oneC _ rfl rfl) ?_; intro w11 BY11 k11)
          | (with_reducible refine alloc_w rfl 35 rfl (.agg (msC (ms0 0))) zeroMsg (msC (ms0 0)) rfl ?_; intro yb w10 hyb BY k10))
        have K11 := K9.trans1 (k10.new k11 hyb)
        have BF11 := BF.chg (k10.new k11 hyb) (by simp)
        clear K9 BF k10 k11 BY BY11 hyb
        refine (HFA.out q gf w11 HQZ.out K11 BF11).mono ?_
        rintro e w12 ⟨rfl, k12⟩
        go_wp2_with fail
        go_ret
        exact ⟨rfl, K11.trans1 k12⟩
end Go.Proofs.YtgfeopingompdaaDoor
