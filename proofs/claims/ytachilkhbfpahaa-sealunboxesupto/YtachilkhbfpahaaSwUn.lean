/- SealUnboxes: the walk. -/
import Derived.Test.YtachilkhbfpahaaSwA
set_option linter.unusedVariables false
set_option linter.unusedSimpArgs false
set_option linter.unnecessarySimpa false
namespace Go.Proofs.Ytachilkhbfpahaa
open Go.RowKit

set_option maxHeartbeats 16000000 in
set_option maxRecDepth 100000 in
theorem unboxes_walk (k : Nat → Nat) (hk : ∀ i, i < 32 → k i < 256) (v0 : Value) (n0 : Nat) (f0 : Nat → Nat) (v1 : Value) (n1 : Nat) (f1 : Nat → Nat) (w : World) (hv0 : Sz w v0 n0 f0) (hv1 : Sz w v1 n1 f1) (h0 : n0 ≤ 1048576) (h1 : n1 ≤ 1048576) :
    Calls Try.prog 7 #[.agg (yC 32 k), v0, v1] w fun e w' => e = .returned (.bool true) ∧ Chg w w' [] := by
  have HV : Hid ((Sz w v0 n0 f0 ∧ Sz w v1 n1 f1) ∧ n0 ≤ 1048576 ∧ n1 ≤ 1048576) := ⟨⟨hv0, hv1⟩, h0, h1⟩
  have HC1 : Hid (∀ w' a b, Sz w' a n0 f0 → Sz w' b n1 f1 → Calls Try.prog 24 #[.agg (yC 32 k), a, b] w' fun e w'' => UbA w' (ubN (ubC k n0 f0 n1 f1) n1) (ubM (ubC k n0 f0 n1 f1) (bxN f1)) (ubE (ubC k n0 f0 n1 f1)) (xo (fun i => f1 (12 + i)) (ks k 1 f1)) e w'') := fun w' a b x y => Unbox_a k hk a n0 f0 b n1 f1 w' x y (by omega)
  have HC2 : Hid (∀ w' a b, Sz w' a n0 f0 → Sz w' b n1 f1 → Calls Try.prog 25 #[.agg (yC 32 k), a, b] w' fun e w'' => UbA w' (ubN (ubC k n0 f0 n1 f1) n1) (ubM (ubC k n0 f0 n1 f1) (bxN f1)) (ubE (ubC k n0 f0 n1 f1)) (xo (fun i => f1 (12 + i)) (ks k 1 f1)) e w'') := fun w' a b x y => Unbox_ra k hk a n0 f0 b n1 f1 w' x y (by omega) (by omega)
  obtain ⟨N, hN⟩ : ∃ N, ubN (ubC k n0 f0 n1 f1) n1 = N := ⟨_, rfl⟩
  obtain ⟨M, hM⟩ : ∃ N, ubM (ubC k n0 f0 n1 f1) (bxN f1) = N := ⟨_, rfl⟩
  obtain ⟨E, hE⟩ : ∃ E, ubE (ubC k n0 f0 n1 f1) = E := ⟨_, rfl⟩
  obtain ⟨X, hX⟩ : ∃ X, xo (fun i => f1 (12 + i)) (ks k 1 f1) = X := ⟨_, rfl⟩
  rw [hN, hM, hE, hX] at HC1 HC2
  clear hk hv0 hv1 h0 h1 hN hE hX hM
  go_enter Try.func7, Try.ntmps7
  go_wp2_with (first
    | (refine alloc_w rfl 44 rfl (.agg (gvC gNil)) zeroGiven (gvC gNil) rfl ?_; intro gb w2 hgb BG k2)
    | (refine box_w rfl 23 _ rfl (yC 32 k) rfl ?_; intro kb w1 hkb BK k1))
  refine lt_begin (fun w' => Blk w' kb (yC 32 k) 23) (fun _ => false) (by kernel_rfl) ?_
  have hHeld := (BK.chg k2 (by simp)).drew
  have G2 : GS w w2.drew gb 0 := GS.begin BG.drew (by have := k1.size; omega) (k1.trans1 k2).drew
  obtain ⟨z, hz⟩ : ∃ z, z = w2.drew := ⟨_, rfl⟩
  rw [← hz] at hHeld G2 ⊢
  clear hz BK BG k1 k2 hkb hgb
  refine lt_read (v := (.agg (yC 32 k))) 0 (some 15) rfl (by kernel_rfl) (by kernel_rfl) (by kernel_rfl) (by kernel_rfl) (fun _ _ _ h => h) rfl rfl (fun w hSw => ?_) hHeld ?_
  · skip; exact (exec_load_b w 23 (.tmp 3) rfl kb rfl hSw Try.underlying23 rfl (by rw [yC_size]; exact keyInfo))
  try simp only [Act.put, List.setIfInBounds_toArray, List.set_cons_zero, List.set_cons_succ]
  refine lt_val (v := ?_) 1 (some 16) rfl (by kernel_rfl) (by kernel_rfl) (by kernel_rfl) (fun _ _ _ h => h) rfl rfl (fun w => ?_) ?_
  rotate_left
  · (go_simp; try with_reducible rfl)
  try simp only [Act.put, List.setIfInBounds_toArray, List.set_cons_zero, List.set_cons_succ]
  refine lt_val (v := ?_) 3 (some 18) rfl (by kernel_rfl) (by kernel_rfl) (by kernel_rfl) (fun _ _ _ h => h) rfl rfl (fun w => ?_) ?_
  rotate_left
  · (go_simp; try with_reducible rfl)
  try simp only [Act.put, List.setIfInBounds_toArray, List.set_cons_zero, List.set_cons_succ]
  refine lt_one 2 rfl (by kernel_rfl) rfl (fun K hK => ?_)
  go_simp
  refine (G2.bytes (by decide) (by have := HV.out; omega) (HV.out.1.1.kept G2.cc)).mono ?_
  rintro e w3 ⟨o3, rfl, ho3, G3, ⟨C3, B3⟩, S3, Q3⟩
  go_wp2_with fail
  refine hK.out _ _ (fun _ h => Q3.blk h (by decide) (by decide)) ?_
  replace hHeld := Q3.blk hHeld (by decide) (by decide)
  clear G2 Q3 ho3
  clear hK K
  try simp only [Act.put, List.setIfInBounds_toArray, List.set_cons_zero, List.set_cons_succ]
  refine lt_one 4 rfl (by kernel_rfl) rfl (fun K hK => ?_)
  go_simp
  refine (G3.bytes (by decide) (by have := HV.out; omega) (HV.out.1.2.kept G3.cc)).mono ?_
  rintro e w4 ⟨o4, rfl, ho4, G4, _, S4, Q4⟩
  go_wp2_with fail
  refine hK.out _ _ (fun _ h => Q4.blk h (by decide) (by decide)) ?_
  replace hHeld := Q4.blk hHeld (by decide) (by decide)
  have S3b := Q4.sz B3 S3
  clear G3 Q4 ho4 B3 S3
  clear hK K
  try simp only [Act.put, List.setIfInBounds_toArray, List.set_cons_zero, List.set_cons_succ]
  refine lt_one 5 rfl (by kernel_rfl) rfl (fun K hK => ?_)
  go_simp
  refine (HC1.out w4 _ _ S3b S4).mono ?_
  rintro e w5 ⟨sx, rfl, SX, k5⟩
  go_wp2_with fail
  refine hK.out _ _ (fun _ h => h.chg k5 (by simp)) ?_
  have BK5 := hHeld.chg k5 (by simp)
  have G5 := G4.chg k5
  clear hHeld G4 S3b S4 k5
  clear hK K
  try simp only [Act.put, List.setIfInBounds_toArray, List.set_cons_zero, List.set_cons_succ]
  refine lt_val (v := ?_) 6 (some 14) rfl (by kernel_rfl) (by kernel_rfl) (by kernel_rfl) (fun _ _ _ h => h) rfl rfl (fun w => ?_) ?_
  rotate_left
  · (go_simp; try with_reducible rfl)
  try simp only [Act.put, List.setIfInBounds_toArray, List.set_cons_zero, List.set_cons_succ]
  refine lt_val (v := ?_) 7 (some 21) rfl (by kernel_rfl) (by kernel_rfl) (by kernel_rfl) (fun _ _ _ h => h) rfl rfl (fun w => ?_) ?_
  rotate_left
  · (go_simp; try with_reducible rfl)
  try simp only [Act.put, List.setIfInBounds_toArray, List.set_cons_zero, List.set_cons_succ]
  refine lt_val (v := ?_) 8 (some 22) rfl (by kernel_rfl) (by kernel_rfl) (by kernel_rfl) (fun _ _ _ h => h) rfl rfl (fun w => ?_) ?_
  rotate_left
  · (go_simp; try with_reducible rfl)
  try simp only [Act.put, List.setIfInBounds_toArray, List.set_cons_zero, List.set_cons_succ]
  refine lt_val (v := ?_) 9 (some 23) rfl (by kernel_rfl) (by kernel_rfl) (by kernel_rfl) (fun _ _ _ h => h) rfl rfl (fun w => ?_) ?_
  rotate_left
  · (go_simp; try with_reducible rfl)
  try simp only [Act.put, List.setIfInBounds_toArray, List.set_cons_zero, List.set_cons_succ]
  refine lt_val (v := ?_) 10 (some 8) rfl (by kernel_rfl) (by kernel_rfl) (by kernel_rfl) (fun _ _ _ h => h) rfl rfl (fun w => ?_) ?_
  rotate_left
  · (go_simp; try with_reducible rfl)
  try simp only [Act.put, List.setIfInBounds_toArray, List.set_cons_zero, List.set_cons_succ]
  refine lt_val (v := ?_) 11 (some 9) rfl (by kernel_rfl) (by kernel_rfl) (by kernel_rfl) (fun _ _ _ h => h) rfl rfl (fun w => ?_) ?_
  rotate_left
  · (go_simp; try with_reducible rfl)
  try simp only [Act.put, List.setIfInBounds_toArray, List.set_cons_zero, List.set_cons_succ]
  refine lt_val (v := ?_) 12 (some 10) rfl (by kernel_rfl) (by kernel_rfl) (by kernel_rfl) (fun _ _ _ h => h) rfl rfl (fun w => ?_) ?_
  rotate_left
  · (go_simp; try with_reducible rfl)
  try simp only [Act.put, List.setIfInBounds_toArray, List.set_cons_zero, List.set_cons_succ]
  refine lt_done (by kernel_rfl) ?_ _
  go_wp2_with (first
    | (with_reducible refine load_b BK5 23 (.tmp 3) Try.underlying23 ?_ ?_ ?_ ?_ ?_ ?_
       · rfl
       · rfl
       · rfl
       · rfl
       · (rw [yC_size]; exact keyInfo)))
  refine (HC2.out w5 v0 v1 (HV.out.1.1.kept G5.cc) (HV.out.1.2.kept G5.cc)).mono ?_
  rintro e w6 ⟨sy, rfl, SY, k6⟩
  have SX6 := SX.kept k6
  have G6 := G5.chg k6
  clear BK5 G5 SX k6
  go_wp2_with fail
  refine (SameBytes_z sx N X sy N X w6 SX6 SY).mono ?_
  rw [sameB_self (fun _ _ => rfl)]
  rintro e w7 ⟨rfl, k7⟩
  have G7 := G6.chg k7
  clear G6 SX6 SY k7
  go_wp2_with fail
  refine (num_s E w7).mono ?_
  rintro e w8 ⟨rfl, rfl⟩
  go_wp2_with fail
  refine (G7.intact (by decide)).mono ?_
  rintro e w9 ⟨rfl, k9⟩
  have K9 := G7.cc.trans1 k9
  clear G7 k9
  go_wp2_with fail
  refine (works_s w9).mono ?_
  rintro e wA ⟨rfl, kA⟩
  go_wp2_with fail
  go_ret
  exact ⟨rfl, K9.trans1 kA⟩
end Go.Proofs.Ytachilkhbfpahaa
