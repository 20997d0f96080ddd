/- SealSeals: the walk. -/
import Derived.Test.YtachilkhbfpahaaSwA
set_option linter.unusedVariables false
set_option linter.unusedSimpArgs false
set_option linter.unnecessarySimpa false
namespace Go.Proofs.Ytachilkhbfpahaa
open Go.RowKit

set_option maxHeartbeats 16000000 in
set_option maxRecDepth 100000 in
theorem seals_walk (k : Nat → Nat) (hk : ∀ i, i < 32 → k i < 256) (nn : Nat → Nat) (hn : ∀ i, i < 12 → nn i < 256) (v0 : Value) (n0 : Nat) (f0 : Nat → Nat) (v1 : Value) (n1 : Nat) (f1 : Nat → Nat) (w : World) (hv0 : Sz w v0 n0 f0) (hv1 : Sz w v1 n1 f1) (h0 : n0 ≤ 1048576) (h1 : n1 ≤ 1048576) :
    Calls Try.prog 5 #[.agg (yC 32 k), .agg (yC 12 nn), v0, v1] w fun e w' => e = .returned (.bool true) ∧ Chg w w' [] := by
  have HV : Hid ((Sz w v0 n0 f0 ∧ Sz w v1 n1 f1) ∧ n0 ≤ 1048576 ∧ n1 ≤ 1048576) := ⟨⟨hv0, hv1⟩, h0, h1⟩
  have HC1 : Hid (∀ w' a b, Sz w' a n0 f0 → Sz w' b n1 f1 → Calls Try.prog 20 #[.agg (yC 32 k), .agg (yC 12 nn), a, b] w' fun e w'' => StA w' (opN k nn n0 f0 n1 f1) (opE k nn n0 f0 n1 f1) (xo f1 (ks k 1 nn)) e w'') := fun w' a b x y => Open_a k nn hk hn a n0 f0 b n1 f1 w' x y (by omega)
  have HC2 : Hid (∀ w' a b, Sz w' a n0 f0 → Sz w' b n1 f1 → Calls Try.prog 21 #[.agg (yC 32 k), .agg (yC 12 nn), a, b] w' fun e w'' => StA w' (opN k nn n0 f0 n1 f1) (opE k nn n0 f0 n1 f1) (xo f1 (ks k 1 nn)) e w'') := fun w' a b x y => Open_ra k nn hk hn a n0 f0 b n1 f1 w' x y (by omega) (by omega)
  have HC3 : Hid (∀ w' a b, Sz w' a n0 f0 → Sz w' b n1 f1 → Calls Try.prog 22 #[.agg (yC 32 k), .agg (yC 12 nn), a, b] w' fun e w'' => ∃ sv, e = .returned sv ∧ Sz w'' sv (n1 + 16) (sealB k nn n0 f0 n1 f1) ∧ Chg w' w'' []) := fun w' a b x y => Seal_a k nn hk hn a n0 f0 b n1 f1 w' x y (by omega)
  have HC4 : Hid (∀ w' a b, Sz w' a n0 f0 → Sz w' b n1 f1 → Calls Try.prog 23 #[.agg (yC 32 k), .agg (yC 12 nn), a, b] w' fun e w'' => ∃ sv, e = .returned sv ∧ Sz w'' sv (n1 + 16) (sealB k nn n0 f0 n1 f1) ∧ Chg w' w'' []) := fun w' a b x y => Seal_ra k nn hk hn a n0 f0 b n1 f1 w' x y (by omega) (by omega)
  obtain ⟨N, hN⟩ : ∃ N, opN k nn n0 f0 n1 f1 = N := ⟨_, rfl⟩
  obtain ⟨E, hE⟩ : ∃ E, opE k nn n0 f0 n1 f1 = E := ⟨_, rfl⟩
  obtain ⟨X, hX⟩ : ∃ X, xo f1 (ks k 1 nn) = X := ⟨_, rfl⟩
  obtain ⟨Z, hZ⟩ : ∃ Z, sealB k nn n0 f0 n1 f1 = Z := ⟨_, rfl⟩
  obtain ⟨M, hM⟩ : ∃ M, n1 + 16 = M := ⟨_, rfl⟩
  rw [hN, hE, hX] at HC1 HC2
  rw [hZ, hM] at HC3 HC4
  clear hk hn hv0 hv1 h0 h1 hN hE hX hZ hM
  go_enter Try.func5, Try.ntmps5
  go_wp2_with (first
    | (refine alloc_w rfl 44 rfl (.agg (gvC gNil)) zeroGiven (gvC gNil) rfl ?_; intro gb w3 hgb BG k3)
    | (have _h := BK; refine box_w rfl 26 _ rfl (yC 12 nn) rfl ?_; intro nb w2 hnb BN k2)
    | (refine box_w rfl 23 _ rfl (yC 32 k) rfl ?_; intro kb w1 hkb BK k1))
  have G3 : GS w w3 gb 0 := GS.begin BG (by have := (k1.trans1 k2).size; omega) ((k1.trans1 k2).trans1 k3)
  have BK3 := (BK.chg k2 (by simp)).chg k3 (by simp)
  have BN3 := BN.chg k3 (by simp)
  clear BK BN BG k1 k2 k3 hkb hnb hgb
  refine (G3.bytes (by decide) (by have := HV.out; omega) (HV.out.1.1.kept G3.cc)).mono ?_
  rintro e w4 ⟨o4, rfl, ho4, G4, ⟨C4, B4⟩, S4, Q4⟩
  have BK4 := Q4.blk BK3 (by decide) (by decide)
  have BN4 := Q4.blk BN3 (by decide) (by decide)
  clear BK3 BN3 G3 Q4 ho4
  go_wp2_with fail
  refine (G4.bytes (by decide) (by have := HV.out; omega) (HV.out.1.2.kept G4.cc)).mono ?_
  rintro e w5 ⟨o5, rfl, ho5, G5, _, S5, Q5⟩
  have BK5 := Q5.blk BK4 (by decide) (by decide)
  have BN5 := Q5.blk BN4 (by decide) (by decide)
  have S4b := Q5.sz B4 S4
  clear BK4 BN4 G4 Q5 ho5 B4 S4
  go_wp2_with (first
    | (with_reducible refine load_b BK5 23 (.tmp 4) Try.underlying23 ?_ ?_ ?_ ?_ ?_ ?_
       · rfl
       · rfl
       · rfl
       · rfl
       · (rw [yC_size]; exact keyInfo))
    | (with_reducible refine load_b BN5 26 (.tmp 5) Try.underlying26 ?_ ?_ ?_ ?_ ?_ ?_
       · rfl
       · rfl
       · rfl
       · rfl
       · (rw [yC_size]; exact nonInfo)))
  refine (HC1.out w5 _ _ S4b S5).mono ?_
  rintro e w6 ⟨sx, rfl, SX6, k6⟩
  have BK6 := BK5.chg k6 (by simp)
  have BN6 := BN5.chg k6 (by simp)
  have G6 := G5.chg k6
  have SO6 := S4b.kept k6
  have ST6 := S5.kept k6
  clear BK5 BN5 G5 S4b S5 k6
  go_wp2_with (first
    | (with_reducible refine load_b BK6 23 (.tmp 4) Try.underlying23 ?_ ?_ ?_ ?_ ?_ ?_
       · rfl
       · rfl
       · rfl
       · rfl
       · (rw [yC_size]; exact keyInfo))
    | (with_reducible refine load_b BN6 26 (.tmp 5) Try.underlying26 ?_ ?_ ?_ ?_ ?_ ?_
       · rfl
       · rfl
       · rfl
       · rfl
       · (rw [yC_size]; exact nonInfo)))
  refine (HC2.out w6 v0 v1 (HV.out.1.1.kept G6.cc) (HV.out.1.2.kept G6.cc)).mono ?_
  rintro e w7 ⟨sy, rfl, SY7, k7⟩
  have SX7 := SX6.kept k7
  have BK7 := BK6.chg k7 (by simp)
  have BN7 := BN6.chg k7 (by simp)
  have G7 := G6.chg k7
  have SO7 := SO6.kept k7
  have ST7 := ST6.kept k7
  clear BK6 BN6 G6 SX6 SO6 ST6 k7
  go_wp2_with fail
  refine lt_begin (fun w' => Blk w' kb (yC 32 k) 23 ∧ Blk w' nb (yC 12 nn) 26) (fun _ => false) (by kernel_rfl) ?_
  have hHeld := And.intro BK7.drew BN7.drew
  have GG : GS w w7.drew gb 2 := G7.chg ((Chg.refl w7 []).drew)
  have SX : Sz w7.drew sx N X := SX7.kept ((Chg.refl w7 []).drew)
  have SY : Sz w7.drew sy N X := SY7.kept ((Chg.refl w7 []).drew)
  have SO : Sz w7.drew _ n0 f0 := SO7.kept ((Chg.refl w7 []).drew)
  have ST : Sz w7.drew _ n1 f1 := ST7.kept ((Chg.refl w7 []).drew)
  obtain ⟨z, hz⟩ : ∃ z, z = w7.drew := ⟨_, rfl⟩
  rw [← hz] at hHeld GG SX SY SO ST ⊢
  clear hz BK7 BN7 G7 SX7 SY7 SO7 ST7
  refine lt_read (v := (.agg (yC 32 k))) 0 (some 36) rfl (by kernel_rfl) (by kernel_rfl) (by kernel_rfl) (by kernel_rfl) (fun _ _ _ h => h) rfl rfl (fun w hSw => ?_) hHeld ?_
  · skip; exact (exec_load_b w 23 (.tmp 4) rfl kb rfl hSw.1 Try.underlying23 rfl (by rw [yC_size]; exact keyInfo))
  try simp only [Act.put, List.setIfInBounds_toArray, List.set_cons_zero, List.set_cons_succ]
  refine lt_read (v := (.agg (yC 12 nn))) 1 (some 37) rfl (by kernel_rfl) (by kernel_rfl) (by kernel_rfl) (by kernel_rfl) (fun _ _ _ h => h) rfl rfl (fun w hSw => ?_) hHeld ?_
  · skip; exact (exec_load_b w 26 (.tmp 5) rfl nb rfl hSw.2 Try.underlying26 rfl (by rw [yC_size]; exact nonInfo))
  try simp only [Act.put, List.setIfInBounds_toArray, List.set_cons_zero, List.set_cons_succ]
  refine lt_val (v := ?_) 2 (some 38) rfl (by kernel_rfl) (by kernel_rfl) (by kernel_rfl) (fun _ _ _ h => h) rfl rfl (fun w => ?_) ?_
  rotate_left
  · (go_simp; try with_reducible rfl)
  try simp only [Act.put, List.setIfInBounds_toArray, List.set_cons_zero, List.set_cons_succ]
  refine lt_val (v := ?_) 3 (some 39) rfl (by kernel_rfl) (by kernel_rfl) (by kernel_rfl) (fun _ _ _ h => h) rfl rfl (fun w => ?_) ?_
  rotate_left
  · (go_simp; try with_reducible rfl)
  try simp only [Act.put, List.setIfInBounds_toArray, List.set_cons_zero, List.set_cons_succ]
  refine lt_read (v := (.agg (yC 32 k))) 5 (some 41) rfl (by kernel_rfl) (by kernel_rfl) (by kernel_rfl) (by kernel_rfl) (fun _ _ _ h => h) rfl rfl (fun w hSw => ?_) hHeld ?_
  · skip; exact (exec_load_b w 23 (.tmp 4) rfl kb rfl hSw.1 Try.underlying23 rfl (by rw [yC_size]; exact keyInfo))
  try simp only [Act.put, List.setIfInBounds_toArray, List.set_cons_zero, List.set_cons_succ]
  refine lt_read (v := (.agg (yC 12 nn))) 6 (some 42) rfl (by kernel_rfl) (by kernel_rfl) (by kernel_rfl) (by kernel_rfl) (fun _ _ _ h => h) rfl rfl (fun w hSw => ?_) hHeld ?_
  · skip; exact (exec_load_b w 26 (.tmp 5) rfl nb rfl hSw.2 Try.underlying26 rfl (by rw [yC_size]; exact nonInfo))
  try simp only [Act.put, List.setIfInBounds_toArray, List.set_cons_zero, List.set_cons_succ]
  refine lt_val (v := ?_) 7 (some 43) rfl (by kernel_rfl) (by kernel_rfl) (by kernel_rfl) (fun _ _ _ h => h) rfl rfl (fun w => ?_) ?_
  rotate_left
  · (go_simp; try with_reducible rfl)
  try simp only [Act.put, List.setIfInBounds_toArray, List.set_cons_zero, List.set_cons_succ]
  refine lt_val (v := ?_) 8 (some 44) rfl (by kernel_rfl) (by kernel_rfl) (by kernel_rfl) (fun _ _ _ h => h) rfl rfl (fun w => ?_) ?_
  rotate_left
  · (go_simp; try with_reducible rfl)
  try simp only [Act.put, List.setIfInBounds_toArray, List.set_cons_zero, List.set_cons_succ]
  refine lt_one 4 rfl (by kernel_rfl) rfl (fun K hK => ?_)
  go_simp
  refine (HC3.out z _ _ SO ST).mono ?_
  rintro e w4x ⟨sa, rfl, SA, k4⟩
  go_wp2_with fail
  refine hK.out _ _ (fun _ h => ⟨h.1.chg k4 (by simp), h.2.chg k4 (by simp)⟩) ?_
  replace hHeld := And.intro (hHeld.1.chg k4 (by simp)) (hHeld.2.chg k4 (by simp))
  replace GG := GG.chg k4
  replace SX := SX.kept k4
  replace SY := SY.kept k4
  clear hK K
  try simp only [Act.put, List.setIfInBounds_toArray, List.set_cons_zero, List.set_cons_succ]
  refine lt_one 9 rfl (by kernel_rfl) rfl (fun K hK => ?_)
  go_simp
  refine (HC4.out w4x v0 v1 (HV.out.1.1.kept GG.cc) (HV.out.1.2.kept GG.cc)).mono ?_
  rintro e w9x ⟨sb, rfl, SB, k9⟩
  go_wp2_with fail
  refine hK.out _ _ (fun _ h => ⟨h.1.chg k9 (by simp), h.2.chg k9 (by simp)⟩) ?_
  replace hHeld := And.intro (hHeld.1.chg k9 (by simp)) (hHeld.2.chg k9 (by simp))
  replace GG := GG.chg k9
  replace SX := SX.kept k9
  replace SY := SY.kept k9
  replace SA := SA.kept k9
  clear hK K
  try simp only [Act.put, List.setIfInBounds_toArray, List.set_cons_zero, List.set_cons_succ]
  refine lt_one 10 rfl (by kernel_rfl) rfl (fun K hK => ?_)
  go_simp
  refine (SameBytes_z sa M Z sb M Z w9x SA SB).mono ?_
  rw [sameB_self (fun _ _ => rfl)]
  rintro e w10x ⟨rfl, k10⟩
  go_wp2_with fail
  refine hK.out _ _ (fun _ h => ⟨h.1.chg k10 (by simp), h.2.chg k10 (by simp)⟩) ?_
  replace GG := GG.chg k10
  replace SX := SX.kept k10
  replace SY := SY.kept k10
  clear hK K
  try simp only [Act.put, List.setIfInBounds_toArray, List.set_cons_zero, List.set_cons_succ]
  refine lt_val (v := ?_) 11 (some 47) rfl (by kernel_rfl) (by kernel_rfl) (by kernel_rfl) (fun _ _ _ h => h) rfl rfl (fun w => ?_) ?_
  rotate_left
  · (go_simp; try with_reducible rfl)
  try simp only [Act.put, List.setIfInBounds_toArray, List.set_cons_zero, List.set_cons_succ]
  refine lt_val (v := ?_) 12 (some 48) rfl (by kernel_rfl) (by kernel_rfl) (by kernel_rfl) (fun _ _ _ h => h) rfl rfl (fun w => ?_) ?_
  rotate_left
  · (go_simp; try with_reducible rfl)
  try simp only [Act.put, List.setIfInBounds_toArray, List.set_cons_zero, List.set_cons_succ]
  refine lt_val (v := ?_) 13 (some 49) rfl (by kernel_rfl) (by kernel_rfl) (by kernel_rfl) (fun _ _ _ h => h) rfl rfl (fun w => ?_) ?_
  rotate_left
  · (go_simp; try with_reducible rfl)
  try simp only [Act.put, List.setIfInBounds_toArray, List.set_cons_zero, List.set_cons_succ]
  refine lt_one 14 rfl (by kernel_rfl) rfl (fun K hK => ?_)
  go_simp
  refine (SameBytes_z sx N X sy N X w10x SX SY).mono ?_
  rw [sameB_self (fun _ _ => rfl)]
  rintro e w14x ⟨rfl, k14⟩
  go_wp2_with fail
  refine hK.out _ _ (fun _ h => ⟨h.1.chg k14 (by simp), h.2.chg k14 (by simp)⟩) ?_
  replace GG := GG.chg k14
  clear hK K
  try simp only [Act.put, List.setIfInBounds_toArray, List.set_cons_zero, List.set_cons_succ]
  refine lt_val (v := ?_) 15 (some 51) rfl (by kernel_rfl) (by kernel_rfl) (by kernel_rfl) (fun _ _ _ h => h) rfl rfl (fun w => ?_) ?_
  rotate_left
  · (go_simp; try with_reducible rfl)
  try simp only [Act.put, List.setIfInBounds_toArray, List.set_cons_zero, List.set_cons_succ]
  refine lt_val (v := ?_) 16 (some 52) rfl (by kernel_rfl) (by kernel_rfl) (by kernel_rfl) (fun _ _ _ h => h) rfl rfl (fun w => ?_) ?_
  rotate_left
  · (go_simp; try with_reducible rfl)
  try simp only [Act.put, List.setIfInBounds_toArray, List.set_cons_zero, List.set_cons_succ]
  refine lt_val (v := ?_) 17 (some 53) rfl (by kernel_rfl) (by kernel_rfl) (by kernel_rfl) (fun _ _ _ h => h) rfl rfl (fun w => ?_) ?_
  rotate_left
  · (go_simp; try with_reducible rfl)
  try simp only [Act.put, List.setIfInBounds_toArray, List.set_cons_zero, List.set_cons_succ]
  refine lt_val (v := ?_) 19 (some 55) rfl (by kernel_rfl) (by kernel_rfl) (by kernel_rfl) (fun _ _ _ h => h) rfl rfl (fun w => ?_) ?_
  rotate_left
  · (go_simp; try with_reducible rfl)
  try simp only [Act.put, List.setIfInBounds_toArray, List.set_cons_zero, List.set_cons_succ]
  refine lt_one 18 rfl (by kernel_rfl) rfl (fun K hK => ?_)
  go_simp
  refine (num_s E w14x).mono ?_
  rintro e wA ⟨rfl, rfl⟩
  go_wp2_with fail
  refine hK.out _ _ (fun _ h => h) ?_
  clear hK K
  try simp only [Act.put, List.setIfInBounds_toArray, List.set_cons_zero, List.set_cons_succ]
  refine lt_val (v := (.bool true)) 20 (some 56) rfl (by kernel_rfl) (by kernel_rfl) (by kernel_rfl) (fun _ _ _ h => h) rfl rfl (fun w => ?_) ?_
  · (go_simp; try with_reducible rfl)
  try simp only [Act.put, List.setIfInBounds_toArray, List.set_cons_zero, List.set_cons_succ]
  refine lt_val (v := ?_) 21 (some 57) rfl (by kernel_rfl) (by kernel_rfl) (by kernel_rfl) (fun _ _ _ h => h) rfl rfl (fun w => ?_) ?_
  rotate_left
  · (go_simp; try with_reducible rfl)
  try simp only [Act.put, List.setIfInBounds_toArray, List.set_cons_zero, List.set_cons_succ]
  refine lt_val (v := ?_) 22 (some 58) rfl (by kernel_rfl) (by kernel_rfl) (by kernel_rfl) (fun _ _ _ h => h) rfl rfl (fun w => ?_) ?_
  rotate_left
  · (go_simp; try with_reducible rfl)
  try simp only [Act.put, List.setIfInBounds_toArray, List.set_cons_zero, List.set_cons_succ]
  refine lt_one 23 rfl (by kernel_rfl) rfl (fun K hK => ?_)
  go_simp
  refine (GG.intact (by decide)).mono ?_
  rintro e wB ⟨rfl, kB⟩
  go_wp2_with fail
  refine hK.out _ _ (fun _ h => ⟨h.1.chg kB (by simp), h.2.chg kB (by simp)⟩) ?_
  have KB := GG.cc.trans1 kB
  clear GG kB
  clear hK K
  try simp only [Act.put, List.setIfInBounds_toArray, List.set_cons_zero, List.set_cons_succ]
  refine lt_val (v := ?_) 24 (some 60) rfl (by kernel_rfl) (by kernel_rfl) (by kernel_rfl) (fun _ _ _ h => h) rfl rfl (fun w => ?_) ?_
  rotate_left
  · (go_simp; try with_reducible rfl)
  try simp only [Act.put, List.setIfInBounds_toArray, List.set_cons_zero, List.set_cons_succ]
  refine lt_val (v := ?_) 25 (some 61) rfl (by kernel_rfl) (by kernel_rfl) (by kernel_rfl) (fun _ _ _ h => h) rfl rfl (fun w => ?_) ?_
  rotate_left
  · (go_simp; try with_reducible rfl)
  try simp only [Act.put, List.setIfInBounds_toArray, List.set_cons_zero, List.set_cons_succ]
  refine lt_one 26 rfl (by kernel_rfl) rfl (fun K hK => ?_)
  go_simp
  refine (works_s wB).mono ?_
  rintro e wC ⟨rfl, kC⟩
  go_wp2_with fail
  refine hK.out _ _ (fun _ h => ⟨h.1.chg kC (by simp), h.2.chg kC (by simp)⟩) ?_
  clear hK K
  try simp only [Act.put, List.setIfInBounds_toArray, List.set_cons_zero, List.set_cons_succ]
  refine lt_val (v := ?_) 27 (some 63) rfl (by kernel_rfl) (by kernel_rfl) (by kernel_rfl) (fun _ _ _ h => h) rfl rfl (fun w => ?_) ?_
  rotate_left
  · (go_simp; try with_reducible rfl)
  try simp only [Act.put, List.setIfInBounds_toArray, List.set_cons_zero, List.set_cons_succ]
  refine lt_val (v := ?_) 28 (some 8) rfl (by kernel_rfl) (by kernel_rfl) (by kernel_rfl) (fun _ _ _ h => h) rfl rfl (fun w => ?_) ?_
  rotate_left
  · (go_simp; try with_reducible rfl)
  try simp only [Act.put, List.setIfInBounds_toArray, List.set_cons_zero, List.set_cons_succ]
  refine lt_done (by kernel_rfl) ?_ _
  go_wp2_with fail
  go_ret
  exact ⟨rfl, KB.trans1 kC⟩
end Go.Proofs.Ytachilkhbfpahaa
