/- Joined: SwSe, SeO, SeSealsF. -/
import Derived.Test.YtachilkhbfpahaaMgX
import Derived.Test.YtachilkhbfpahaaRows
import Derived.Test.YtachilkhbfpahaaSeCt
import Derived.ProofKit
import Derived.OpenShut
import Derived.Stop.Joined
import Derived.Deep.Slices
import Derived.Deep.Strs
import Derived.SizedLaws
import Derived.Below
/- SealSeals: the walk. -/
set_option linter.unusedVariables false
set_option linter.unusedSimpArgs false
set_option linter.unnecessarySimpa false
namespace Go.Proofs.Ytachilkhbfpahaa
open Go.RowKit

set_option maxHeartbeats 16000000 in
set_option maxRecDepth 100000 in
theorem seals_walk (k : Nat → Nat) (hk : ∀ i, i < 32 → k i < 256) (nn : Nat → Nat) (hn : ∀ i, i < 12 → nn i < 256) (v0 : Value) (n0 : Nat) (f0 : Nat → Nat) (v1 : Value) (n1 : Nat) (f1 : Nat → Nat) (w : World) (hv0 : Sz w v0 n0 f0) (hv1 : Sz w v1 n1 f1) (h0 : n0 ≤ 1048576) (h1 : n1 ≤ 1048576) :
    Calls Try.prog 5 #[.agg (yC 32 k), .agg (yC 12 nn), v0, v1] w fun e w' => e = .returned (.bool true) ∧ Chg w w' [] := by
  have HV : Hid ((Sz w v0 n0 f0 ∧ Sz w v1 n1 f1) ∧ n0 ≤ 1048576 ∧ n1 ≤ 1048576) := ⟨⟨hv0, hv1⟩, h0, h1⟩
  have HC1 : Hid (∀ w' a b, Sz w' a n0 f0 → Sz w' b n1 f1 → Calls Try.prog 20 #[.agg (yC 32 k), .agg (yC 12 nn), a, b] w' fun e w'' => StA w' (opN k nn n0 f0 n1 f1) (opE k nn n0 f0 n1 f1) (xo f1 (ks k 1 nn)) e w'') := fun w' a b x y => Open_a k nn hk hn a n0 f0 b n1 f1 w' x y (by omega)
  have HC2 : Hid (∀ w' a b, Sz w' a n0 f0 → Sz w' b n1 f1 → Calls Try.prog 21 #[.agg (yC 32 k), .agg (yC 12 nn), a, b] w' fun e w'' => StA w' (opN k nn n0 f0 n1 f1) (opE k nn n0 f0 n1 f1) (xo f1 (ks k 1 nn)) e w'') := fun w' a b x y => Open_ra k nn hk hn a n0 f0 b n1 f1 w' x y (by omega) (by omega)
  have HC3 : Hid (∀ w' a b, Sz w' a n0 f0 → Sz w' b n1 f1 → Calls Try.prog 22 #[.agg (yC 32 k), .agg (yC 12 nn), a, b] w' fun e w'' => ∃ sv, e = .returned sv ∧ Sz w'' sv (n1 + 16) (sealB k nn n0 f0 n1 f1) ∧ Chg w' w'' []) := fun w' a b x y => Seal_a k nn hk hn a n0 f0 b n1 f1 w' x y (by omega)
  have HC4 : Hid (∀ w' a b, Sz w' a n0 f0 → Sz w' b n1 f1 → Calls Try.prog 23 #[.agg (yC 32 k), .agg (yC 12 nn), a, b] w' fun e w'' => ∃ sv, e = .returned sv ∧ Sz w'' sv (n1 + 16) (sealB k nn n0 f0 n1 f1) ∧ Chg w' w'' []) := fun w' a b x y => Seal_ra k nn hk hn a n0 f0 b n1 f1 w' x y (by omega) (by omega)
  obtain ⟨N, hN⟩ : ∃ N, opN k nn n0 f0 n1 f1 = N := ⟨_, rfl⟩
  obtain ⟨E, hE⟩ : ∃ E, opE k nn n0 f0 n1 f1 = E := ⟨_, rfl⟩
  obtain ⟨X, hX⟩ : ∃ X, xo f1 (ks k 1 nn) = X := ⟨_, rfl⟩
  obtain ⟨Z, hZ⟩ : ∃ Z, sealB k nn n0 f0 n1 f1 = Z := ⟨_, rfl⟩
  obtain ⟨M, hM⟩ : ∃ M, n1 + 16 = M := ⟨_, rfl⟩
  rw [hN, hE, hX] at HC1 HC2
  rw [hZ, hM] at HC3 HC4
  clear hk hn hv0 hv1 h0 h1 hN hE hX hZ hM
  go_enter Try.func5, Try.ntmps5
  go_wp2_with (first
    | (refine alloc_w rfl 44 rfl (.agg (gvC gNil)) zeroGiven (gvC gNil) rfl ?_; intro gb w3 hgb BG k3)
    | (have _h := BK; refine box_w rfl 26 _ rfl (yC 12 nn) rfl ?_; intro nb w2 hnb BN k2)
    | (refine box_w rfl 23 _ rfl (yC 32 k) rfl ?_; intro kb w1 hkb BK k1))
  have G3 : GS w w3 gb 0 := GS.begin BG (by have := (k1.trans1 k2).size; omega) ((k1.trans1 k2).trans1 k3)
  have BK3 := (BK.chg k2 (by simp)).chg k3 (by simp)
  have BN3 := BN.chg k3 (by simp)
  clear BK BN BG k1 k2 k3 hkb hnb hgb
  refine (G3.bytes (by decide) (by have := HV.out; omega) (HV.out.1.1.kept G3.cc)).mono ?_
  rintro e w4 ⟨o4, rfl, ho4, G4, ⟨C4, B4⟩, S4, Q4⟩
  have BK4 := Q4.blk BK3 (by decide) (by decide)
  have BN4 := Q4.blk BN3 (by decide) (by decide)
  clear BK3 BN3 G3 Q4 ho4
  go_wp2_with fail
  refine (G4.bytes (by decide) (by have := HV.out; omega) (HV.out.1.2.kept G4.cc)).mono ?_
  rintro e w5 ⟨o5, rfl, ho5, G5, _, S5, Q5⟩
  have BK5 := Q5.blk BK4 (by decide) (by decide)
  have BN5 := Q5.blk BN4 (by decide) (by decide)
  have S4b := Q5.sz B4 S4
  clear BK4 BN4 G4 Q5 ho5 B4 S4
  go_wp2_with (first
    | (with_reducible refine load_b BK5 23 (.tmp 4) Try.underlying23 ?_ ?_ ?_ ?_ ?_ ?_
       · rfl
       · rfl
       · rfl
       · rfl
       · (rw [yC_size]; exact keyInfo))
    | (with_reducible refine load_b BN5 26 (.tmp 5) Try.underlying26 ?_ ?_ ?_ ?_ ?_ ?_
       · rfl
       · rfl
       · rfl
       · rfl
       · (rw [yC_size]; exact nonInfo)))
  refine (HC1.out w5 _ _ S4b S5).mono ?_
  rintro e w6 ⟨sx, rfl, SX6, k6⟩
  have BK6 := BK5.chg k6 (by simp)
  have BN6 := BN5.chg k6 (by simp)
  have G6 := G5.chg k6
  have SO6 := S4b.kept k6
  have ST6 := S5.kept k6
  clear BK5 BN5 G5 S4b S5 k6
  go_wp2_with (first
    | (with_reducible refine load_b BK6 23 (.tmp 4) Try.underlying23 ?_ ?_ ?_ ?_ ?_ ?_
       · rfl
       · rfl
       · rfl
       · rfl
       · (rw [yC_size]; exact keyInfo))
    | (with_reducible refine load_b BN6 26 (.tmp 5) Try.underlying26 ?_ ?_ ?_ ?_ ?_ ?_
       · rfl
       · rfl
       · rfl
       · rfl
       · (rw [yC_size]; exact nonInfo)))
  refine (HC2.out w6 v0 v1 (HV.out.1.1.kept G6.cc) (HV.out.1.2.kept G6.cc)).mono ?_
  rintro e w7 ⟨sy, rfl, SY7, k7⟩
  have SX7 := SX6.kept k7
  have BK7 := BK6.chg k7 (by simp)
  have BN7 := BN6.chg k7 (by simp)
  have G7 := G6.chg k7
  have SO7 := SO6.kept k7
  have ST7 := ST6.kept k7
  clear BK6 BN6 G6 SX6 SO6 ST6 k7
  go_wp2_with fail
  refine lt_begin (fun w' => Blk w' kb (yC 32 k) 23 ∧ Blk w' nb (yC 12 nn) 26) (fun _ => false) (by kernel_rfl) ?_
  have hHeld := And.intro BK7.drew BN7.drew
  have GG : GS w w7.drew gb 2 := G7.chg ((Chg.refl w7 []).drew)
  have SX : Sz w7.drew sx N X := SX7.kept ((Chg.refl w7 []).drew)
  have SY : Sz w7.drew sy N X := SY7.kept ((Chg.refl w7 []).drew)
  have SO : Sz w7.drew _ n0 f0 := SO7.kept ((Chg.refl w7 []).drew)
  have ST : Sz w7.drew _ n1 f1 := ST7.kept ((Chg.refl w7 []).drew)
  obtain ⟨z, hz⟩ : ∃ z, z = w7.drew := ⟨_, rfl⟩
  rw [← hz] at hHeld GG SX SY SO ST ⊢
  clear hz BK7 BN7 G7 SX7 SY7 SO7 ST7
  refine lt_read (v := (.agg (yC 32 k))) 0 (some 36) rfl (by kernel_rfl) (by kernel_rfl) (by kernel_rfl) (by kernel_rfl) (fun _ _ _ h => h) rfl rfl (fun w hSw => ?_) hHeld ?_
  · skip; exact (exec_load_b w 23 (.tmp 4) rfl kb rfl hSw.1 Try.underlying23 rfl (by rw [yC_size]; exact keyInfo))
  try simp only [Act.put, List.setIfInBounds_toArray, List.set_cons_zero, List.set_cons_succ]
  refine lt_read (v := (.agg (yC 12 nn))) 1 (some 37) rfl (by kernel_rfl) (by kernel_rfl) (by kernel_rfl) (by kernel_rfl) (fun _ _ _ h => h) rfl rfl (fun w hSw => ?_) hHeld ?_
  · skip; exact (exec_load_b w 26 (.tmp 5) rfl nb rfl hSw.2 Try.underlying26 rfl (by rw [yC_size]; exact nonInfo))
  try simp only [Act.put, List.setIfInBounds_toArray, List.set_cons_zero, List.set_cons_succ]
  refine lt_val (v := ?_) 2 (some 38) rfl (by kernel_rfl) (by kernel_rfl) (by kernel_rfl) (fun _ _ _ h => h) rfl rfl (fun w => ?_) ?_
  rotate_left
  · (go_simp; try with_reducible rfl)
  try simp only [Act.put, List.setIfInBounds_toArray, List.set_cons_zero, List.set_cons_succ]
  refine lt_val (v := ?_) 3 (some 39) rfl (by kernel_rfl) (by kernel_rfl) (by kernel_rfl) (fun _ _ _ h => h) rfl rfl (fun w => ?_) ?_
  rotate_left
  · (go_simp; try with_reducible rfl)
  try simp only [Act.put, List.setIfInBounds_toArray, List.set_cons_zero, List.set_cons_succ]
  refine lt_read (v := (.agg (yC 32 k))) 5 (some 41) rfl (by kernel_rfl) (by kernel_rfl) (by kernel_rfl) (by kernel_rfl) (fun _ _ _ h => h) rfl rfl (fun w hSw => ?_) hHeld ?_
  · skip; exact (exec_load_b w 23 (.tmp 4) rfl kb rfl hSw.1 Try.underlying23 rfl (by rw [yC_size]; exact keyInfo))
  try simp only [Act.put, List.setIfInBounds_toArray, List.set_cons_zero, List.set_cons_succ]
  refine lt_read (v := (.agg (yC 12 nn))) 6 (some 42) rfl (by kernel_rfl) (by kernel_rfl) (by kernel_rfl) (by kernel_rfl) (fun _ _ _ h => h) rfl rfl (fun w hSw => ?_) hHeld ?_
  · skip; exact (exec_load_b w 26 (.tmp 5) rfl nb rfl hSw.2 Try.underlying26 rfl (by rw [yC_size]; exact nonInfo))
  try simp only [Act.put, List.setIfInBounds_toArray, List.set_cons_zero, List.set_cons_succ]
  refine lt_val (v := ?_) 7 (some 43) rfl (by kernel_rfl) (by kernel_rfl) (by kernel_rfl) (fun _ _ _ h => h) rfl rfl (fun w => ?_) ?_
  rotate_left
  · (go_simp; try with_reducible rfl)
  try simp only [Act.put, List.setIfInBounds_toArray, List.set_cons_zero, List.set_cons_succ]
  refine lt_val (v := ?_) 8 (some 44) rfl (by kernel_rfl) (by kernel_rfl) (by kernel_rfl) (fun _ _ _ h => h) rfl rfl (fun w => ?_) ?_
  rotate_left
  · (go_simp; try with_reducible rfl)
  try simp only [Act.put, List.setIfInBounds_toArray, List.set_cons_zero, List.set_cons_succ]
  refine lt_one 4 rfl (by kernel_rfl) rfl (fun K hK => ?_)
  go_simp
  refine (HC3.out z _ _ SO ST).mono ?_
  rintro e w4x ⟨sa, rfl, SA, k4⟩
  go_wp2_with fail
  refine hK.out _ _ (fun _ h => ⟨h.1.chg k4 (by simp), h.2.chg k4 (by simp)⟩) ?_
  replace hHeld := And.intro (hHeld.1.chg k4 (by simp)) (hHeld.2.chg k4 (by simp))
  replace GG := GG.chg k4
  replace SX := SX.kept k4
  replace SY := SY.kept k4
  clear hK K
  try simp only [Act.put, List.setIfInBounds_toArray, List.set_cons_zero, List.set_cons_succ]
  refine lt_one 9 rfl (by kernel_rfl) rfl (fun K hK => ?_)
  go_simp
  refine (HC4.out w4x v0 v1 (HV.out.1.1.kept GG.cc) (HV.out.1.2.kept GG.cc)).mono ?_
  rintro e w9x ⟨sb, rfl, SB, k9⟩
  go_wp2_with fail
  refine hK.out _ _ (fun _ h => ⟨h.1.chg k9 (by simp), h.2.chg k9 (by simp)⟩) ?_
  replace hHeld := And.intro (hHeld.1.chg k9 (by simp)) (hHeld.2.chg k9 (by simp))
  replace GG := GG.chg k9
  replace SX := SX.kept k9
  replace SY := SY.kept k9
  replace SA := SA.kept k9
  clear hK K
  try simp only [Act.put, List.setIfInBounds_toArray, List.set_cons_zero, List.set_cons_succ]
  refine lt_one 10 rfl (by kernel_rfl) rfl (fun K hK => ?_)
  go_simp
  refine (SameBytes_z sa M Z sb M Z w9x SA SB).mono ?_
  rw [sameB_self (fun _ _ => rfl)]
  rintro e w10x ⟨rfl, k10⟩
  go_wp2_with fail
  refine hK.out _ _ (fun _ h => ⟨h.1.chg k10 (by simp), h.2.chg k10 (by simp)⟩) ?_
  replace GG := GG.chg k10
  replace SX := SX.kept k10
  replace SY := SY.kept k10
  clear hK K
  try simp only [Act.put, List.setIfInBounds_toArray, List.set_cons_zero, List.set_cons_succ]
  refine lt_val (v := ?_) 11 (some 47) rfl (by kernel_rfl) (by kernel_rfl) (by kernel_rfl) (fun _ _ _ h => h) rfl rfl (fun w => ?_) ?_
  rotate_left
  · (go_simp; try with_reducible rfl)
  try simp only [Act.put, List.setIfInBounds_toArray, List.set_cons_zero, List.set_cons_succ]
  refine lt_val (v := ?_) 12 (some 48) rfl (by kernel_rfl) (by kernel_rfl) (by kernel_rfl) (fun _ _ _ h => h) rfl rfl (fun w => ?_) ?_
  rotate_left
  · (go_simp; try with_reducible rfl)
  try simp only [Act.put, List.setIfInBounds_toArray, List.set_cons_zero, List.set_cons_succ]
  refine lt_val (v := ?_) 13 (some 49) rfl (by kernel_rfl) (by kernel_rfl) (by kernel_rfl) (fun _ _ _ h => h) rfl rfl (fun w => ?_) ?_
  rotate_left
  · (go_simp; try with_reducible rfl)
  try simp only [Act.put, List.setIfInBounds_toArray, List.set_cons_zero, List.set_cons_succ]
  refine lt_one 14 rfl (by kernel_rfl) rfl (fun K hK => ?_)
  go_simp
  refine (SameBytes_z sx N X sy N X w10x SX SY).mono ?_
  rw [sameB_self (fun _ _ => rfl)]
  rintro e w14x ⟨rfl, k14⟩
  go_wp2_with fail
  refine hK.out _ _ (fun _ h => ⟨h.1.chg k14 (by simp), h.2.chg k14 (by simp)⟩) ?_
  replace GG := GG.chg k14
  clear hK K
  try simp only [Act.put, List.setIfInBounds_toArray, List.set_cons_zero, List.set_cons_succ]
  refine lt_val (v := ?_) 15 (some 51) rfl (by kernel_rfl) (by kernel_rfl) (by kernel_rfl) (fun _ _ _ h => h) rfl rfl (fun w => ?_) ?_
  rotate_left
  · (go_simp; try with_reducible rfl)
  try simp only [Act.put, List.setIfInBounds_toArray, List.set_cons_zero, List.set_cons_succ]
  refine lt_val (v := ?_) 16 (some 52) rfl (by kernel_rfl) (by kernel_rfl) (by kernel_rfl) (fun _ _ _ h => h) rfl rfl (fun w => ?_) ?_
  rotate_left
  · (go_simp; try with_reducible rfl)
  try simp only [Act.put, List.setIfInBounds_toArray, List.set_cons_zero, List.set_cons_succ]
  refine lt_val (v := ?_) 17 (some 53) rfl (by kernel_rfl) (by kernel_rfl) (by kernel_rfl) (fun _ _ _ h => h) rfl rfl (fun w => ?_) ?_
  rotate_left
  · (go_simp; try with_reducible rfl)
  try simp only [Act.put, List.setIfInBounds_toArray, List.set_cons_zero, List.set_cons_succ]
  refine lt_val (v := ?_) 19 (some 55) rfl (by kernel_rfl) (by kernel_rfl) (by kernel_rfl) (fun _ _ _ h => h) rfl rfl (fun w => ?_) ?_
  rotate_left
  · (go_simp; try with_reducible rfl)
  try simp only [Act.put, List.setIfInBounds_toArray, List.set_cons_zero, List.set_cons_succ]
  refine lt_one 18 rfl (by kernel_rfl) rfl (fun K hK => ?_)
  go_simp
  refine (num_s E w14x).mono ?_
  rintro e wA ⟨rfl, rfl⟩
  go_wp2_with fail
  refine hK.out _ _ (fun _ h => h) ?_
  clear hK K
  try simp only [Act.put, List.setIfInBounds_toArray, List.set_cons_zero, List.set_cons_succ]
  refine lt_val (v := (.bool true)) 20 (some 56) rfl (by kernel_rfl) (by kernel_rfl) (by kernel_rfl) (fun _ _ _ h => h) rfl rfl (fun w => ?_) ?_
  · (go_simp; try with_reducible rfl)
  try simp only [Act.put, List.setIfInBounds_toArray, List.set_cons_zero, List.set_cons_succ]
  refine lt_val (v := ?_) 21 (some 57) rfl (by kernel_rfl) (by kernel_rfl) (by kernel_rfl) (fun _ _ _ h => h) rfl rfl (fun w => ?_) ?_
  rotate_left
  · (go_simp; try with_reducible rfl)
  try simp only [Act.put, List.setIfInBounds_toArray, List.set_cons_zero, List.set_cons_succ]
  refine lt_val (v := ?_) 22 (some 58) rfl (by kernel_rfl) (by kernel_rfl) (by kernel_rfl) (fun _ _ _ h => h) rfl rfl (fun w => ?_) ?_
  rotate_left
  · (go_simp; try with_reducible rfl)
  try simp only [Act.put, List.setIfInBounds_toArray, List.set_cons_zero, List.set_cons_succ]
  refine lt_one 23 rfl (by kernel_rfl) rfl (fun K hK => ?_)
  go_simp
  refine (GG.intact (by decide)).mono ?_
  rintro e wB ⟨rfl, kB⟩
  go_wp2_with fail
  refine hK.out _ _ (fun _ h => ⟨h.1.chg kB (by simp), h.2.chg kB (by simp)⟩) ?_
  have KB := GG.cc.trans1 kB
  clear GG kB
  clear hK K
  try simp only [Act.put, List.setIfInBounds_toArray, List.set_cons_zero, List.set_cons_succ]
  refine lt_val (v := ?_) 24 (some 60) rfl (by kernel_rfl) (by kernel_rfl) (by kernel_rfl) (fun _ _ _ h => h) rfl rfl (fun w => ?_) ?_
  rotate_left
  · (go_simp; try with_reducible rfl)
  try simp only [Act.put, List.setIfInBounds_toArray, List.set_cons_zero, List.set_cons_succ]
  refine lt_val (v := ?_) 25 (some 61) rfl (by kernel_rfl) (by kernel_rfl) (by kernel_rfl) (fun _ _ _ h => h) rfl rfl (fun w => ?_) ?_
  rotate_left
  · (go_simp; try with_reducible rfl)
  try simp only [Act.put, List.setIfInBounds_toArray, List.set_cons_zero, List.set_cons_succ]
  refine lt_one 26 rfl (by kernel_rfl) rfl (fun K hK => ?_)
  go_simp
  refine (works_s wB).mono ?_
  rintro e wC ⟨rfl, kC⟩
  go_wp2_with fail
  refine hK.out _ _ (fun _ h => ⟨h.1.chg kC (by simp), h.2.chg kC (by simp)⟩) ?_
  clear hK K
  try simp only [Act.put, List.setIfInBounds_toArray, List.set_cons_zero, List.set_cons_succ]
  refine lt_val (v := ?_) 27 (some 63) rfl (by kernel_rfl) (by kernel_rfl) (by kernel_rfl) (fun _ _ _ h => h) rfl rfl (fun w => ?_) ?_
  rotate_left
  · (go_simp; try with_reducible rfl)
  try simp only [Act.put, List.setIfInBounds_toArray, List.set_cons_zero, List.set_cons_succ]
  refine lt_val (v := ?_) 28 (some 8) rfl (by kernel_rfl) (by kernel_rfl) (by kernel_rfl) (fun _ _ _ h => h) rfl rfl (fun w => ?_) ?_
  rotate_left
  · (go_simp; try with_reducible rfl)
  try simp only [Act.put, List.setIfInBounds_toArray, List.set_cons_zero, List.set_cons_succ]
  refine lt_done (by kernel_rfl) ?_ _
  go_wp2_with fail
  go_ret
  exact ⟨rfl, KB.trans1 kC⟩
end Go.Proofs.Ytachilkhbfpahaa

/- What comes in: arrays of bytes, a []byte, a [][]byte; the bounds on them. -/
set_option linter.constructorNameAsVariable false
namespace Go.Proofs.Ytachilkhbfpahaa
open Go.ChangeShapes Go.WideShapes Go.ChangeAt Go.RowKit Go.Deep

theorem own : ownKnob Try.prog.godebug = none := by kernel_rfl
theorem laidOut : laidOutB Try.prog = true := by kernel_rfl
theorem u8Cells : Try.prog.cellsOf 5 = 1 := by kernel_rfl
theorem u8Bytes : Try.prog.bytesOf 5 = 1 := by kernel_rfl
theorem bytesC1 : Try.prog.cellsOf 27 = 1 := by kernel_rfl
theorem keyCells : Try.prog.cellsOf 23 = 32 := by kernel_rfl
theorem nonCells : Try.prog.cellsOf 26 = 12 := by kernel_rfl
theorem u8_wf {n : Int} (h : (Lit.int .u8 n).wf = true) : 0 ≤ n ∧ n < 256 := by
  have := bounds_u8 h
  omega
theorem u64_wf {n : Int} (h : (Lit.int .u64 n).wf = true) : 0 ≤ n ∧ n < 18446744073709551616 := by
  have := bounds_u64 h
  omega
theorem shape_lt {w : World} {b : Nat} {x : TypeId × Nat} (h : w.shape? b = some x) : b < w.heap.size := by
  unfold World.shape? at h
  by_cases hb : b < w.heap.size
  · exact hb
  · rw [Array.getElem?_eq_none (by omega)] at h
    simp at h
theorem cell_plain {w : World} {g o : Nat} {s : Option Nat} {v : Value} (h : w.cell? ⟨g, o, s⟩ = some v) : s = none ∧ g < w.heap.size := by
  unfold World.cell? at h
  by_cases hb : g < w.heap.size
  · refine ⟨?_, hb⟩
    cases s with
    | none => rfl
    | some x =>
      exfalso
      revert h
      split <;> simp
  · rw [Array.getElem?_eq_none (by simpa using Nat.le_of_not_lt hb)] at h
    simp at h
theorem take_at {cs : List Value} {i : Nat} {v : Value} (e1 : ((cs.drop i).take 1) = [v]) : cs[i]? = some v := by
  have e2 := congrArg (fun l => l[0]?) e1
  simp only [List.getElem?_take, List.getElem?_drop] at e2
  simpa using e2
/-- What is read counts one at least. -/
theorem bulk_pos {H : Type} (d : DataW H) : 1 ≤ Rows.uptoBulk d := by
  cases d with
  | lit l => cases l <;> simp [Rows.uptoBulk]
  | nil => simp [Rows.uptoBulk]
  | ptr d => simp [Rows.uptoBulk]
  | slice x y => simp [Rows.uptoBulk]
  | agg x => simp [Rows.uptoBulk]
  | iface t d => simp [Rows.uptoBulk]
  | map x => simp [Rows.uptoBulk]
  | held h => simp [Rows.uptoBulk]
theorem bulk_join {H : Type} (l : List (DataW H)) : ∀ r, Rows.uptoBulkAll (l ++ r) = Rows.uptoBulkAll l + Rows.uptoBulkAll r := by
  induction l with
  | nil => intro r; simp [Rows.uptoBulkAll]
  | cons x l ih => intro r; simp only [List.cons_append, Rows.uptoBulkAll, ih r]; omega
theorem len_bulk {H : Type} : ∀ l : List (DataW H), l.length ≤ Rows.uptoBulkAll l
  | [] => Nat.zero_le _
  | x :: l => by
    have h1 := len_bulk l
    have h2 := bulk_pos x
    simp only [List.length_cons, Rows.uptoBulkAll]
    omega
/-- An array's bytes. -/
theorem arr_cells {H : Type} {enc : TypeId × Value → H} {w : World} {base fuel : Nat} {spare : Nat → Bool} {held : Bool} {t : TypeId} {n : Nat} {cs : List Value} {x : DataW H × List MemPlace} (hu : Try.prog.underlying t = some (.array n 5))
    (hf : DataW.trod enc Try.prog w base spare held fuel t cs = some x) : ∃ f : Nat → Nat, ∀ i, i < n → f i < 256 ∧ cs[i]? = some (.int .u8 (f i)) := by
  obtain ⟨xs, m, _, _, _, hlen, hall⟩ := DataW.trod_array hu hf
  have hb : ∀ i, i < n → ∃ b : Nat, b < 256 ∧ cs[i]? = some (.int .u8 (b : Int)) := fun i hi => by
    have h1 := hall i hi
    rw [List.getElem?_eq_getElem (by omega), u8Cells, Nat.mul_one] at h1
    obtain ⟨z, e1, _, wf⟩ := DataW.trod_int Try.underlying5 h1
    have u := u8_wf wf
    obtain ⟨b, rfl⟩ := Int.eq_ofNat_of_zero_le u.1
    exact ⟨b, by omega, take_at e1⟩
  exact choose_lt hb
theorem open_arr {H : Type} {enc : TypeId × Value → H} {w : World} {r : Reach} {b0 base : Nat} {spare : Nat → Bool} {held : Bool} {t : TypeId} {n : Nat} {v : Value} {d : DataW H} {p : List MemPlace} (hu : Try.prog.underlying t = some (.array n 5)) (hn : Try.prog.cellsOf t = n)
    (hv : Value.okWide Try.prog w r b0 t v) (h : DataW.Trod enc Try.prog w base spare held t v d p) : ∃ f : Nat → Nat, (∀ i, i < n → f i < 256) ∧ v = .agg (yC n f) := by
  simp only [Value.okWide, hu] at hv
  obtain ⟨cs, rfl, hsz, _⟩ := hv
  rw [hn] at hsz
  obtain ⟨fuel, hf⟩ := h
  obtain ⟨f, hf⟩ := arr_cells hu hf
  refine ⟨f, fun i hi => (hf i hi).1, congrArg Value.agg ?_⟩
  apply Array.ext_getElem?
  intro i
  by_cases hi : i < n
  · rw [yC_get n f i hi]
    have := (hf i hi).2
    simpa [Value.cells] using this
  · rw [Array.getElem?_eq_none (by omega), Array.getElem?_eq_none (by rw [yC_size]; omega)]
set_option maxRecDepth 100000 in
/-- A []byte that is read. -/
theorem open_part {H : Type} {enc : TypeId × Value → H} {w : World} {base fuel : Nat} {held : Bool} {v : Value} {d : DataW H} {p : List MemPlace}
    (hf : DataW.trod enc Try.prog w base (fun _ => true) held fuel 27 [v] = some (d, p)) : ∃ n f, Sz w v n f ∧ n ≤ Rows.uptoBulk d ∧ (n = 0 ∨ ∃ es ss, d = .slice es ss ∧ es.length = n) := by
  rcases open_slice1 Try.underlying27 u8Cells hf with ⟨h0, _⟩ | ⟨a, len, cap, m, n, V, D, Pl, h0, _, hl, hc, hm, hd, hx⟩
  · have e : v = .slice none 0 0 := by simpa using h0
    exact ⟨0, fun _ => 0, ⟨none, 0, e, by omega, by omega, fun h => by omega⟩, Nat.zero_le _, Or.inl rfl⟩
  · have e : v = .slice (some a) len cap := by simpa using h0
    have hm2 : m = cap := by rw [hm]; simp
    subst hm2
    have ed : d = .slice ((List.range len).map D) ((List.range (m - len)).map fun j => D (len + j)) := (Prod.mk.inj hd).1
    have hb : len ≤ Rows.uptoBulk d := by
      rw [ed]
      have := len_bulk ((List.range len).map D)
      simp only [List.length_map, List.length_range] at this
      simp only [Rows.uptoBulk]
      omega
    refine ⟨len, fun i => (intOf (V i)).toNat, ⟨some a, m, e, hl, by simpa [maxLen] using hc, fun h0 => ?_⟩, hb, Or.inr ⟨_, _, ed, by simp⟩⟩
    obtain ⟨g, o, s⟩ := a
    obtain ⟨c0, _⟩ := hx 0 (by omega)
    rw [show Addr.add ⟨g, o, s⟩ 0 = ⟨g, o, s⟩ from by simp [Addr.add]] at c0
    obtain ⟨rfl, hlt⟩ := cell_plain c0
    refine ⟨g, o, rfl, hlt, fun i hi => ?_, fun i hi => ?_⟩
    · obtain ⟨_, h2⟩ := hx i (by omega)
      obtain ⟨k, e1, _, wf⟩ := DataW.trod_int Try.underlying5 h2
      have u := u8_wf wf
      have e2 : V i = .int .u8 k := by simpa using e1
      rw [e2]
      simp only [intOf]
      omega
    · obtain ⟨h1, h2⟩ := hx i (by omega)
      obtain ⟨k, e1, _, wf⟩ := DataW.trod_int Try.underlying5 h2
      have u := u8_wf wf
      have e2 : V i = .int .u8 k := by simpa using e1
      have ha : (Addr.add ⟨g, o, none⟩ i) = ⟨g, o + i, none⟩ := Addr.add_mid g o i
      rw [ha] at h1
      rw [h1, e2]
      simp only [intOf]
      congr 2
      omega
set_option maxRecDepth 100000 in
theorem open_sz {H : Type} {enc : TypeId × Value → H} {w : World} {r : Reach} {b0 base : Nat} {held : Bool} {v : Value} {d : DataW H} {p : List MemPlace}
    (hv : Value.okWide Try.prog w r b0 27 v) (h : DataW.Trod enc Try.prog w base (fun _ => true) held 27 v d p) : ∃ n f, Sz w v n f ∧ n ≤ Rows.uptoBulk d ∧ (n = 0 ∨ ∃ es ss, d = .slice es ss ∧ es.length = n) := by
  obtain ⟨fuel, hf⟩ := h
  obtain ⟨a0, l0, c0, rfl⟩ := okWide_slice Try.underlying27 hv
  exact open_part hf
theorem all_mem {H : Type} (P : Program) (e : TypeId) (x : Nat) : ∀ (l : List (DataW H)) (i : Nat) (d : DataW H), l[i]? = some d → x ∈ d.weights P e → x ∈ DataW.weightsAll P e l
  | [], i, d, h, _ => by simp at h
  | a :: l, 0, d, h, hx => by
    simp at h
    subst h
    simp [DataW.weightsAll, hx]
  | a :: l, i + 1, d, h, hx => by
    simp at h
    simp [DataW.weightsAll, all_mem P e x l i d h hx]
/-- Each part of a list that came in is no longer than what a list may be. -/
theorem sized_part {H : Type} {ts : List TypeId} {ds : List (DataW H)} (h : (DataW.weightsEach Try.prog ts ds).all (· ≤ reachBytes) = true) {j : Nat} {elems spare : List (DataW H)} (ht : ts[j]? = some 28) (hd : ds[j]? = some (.slice elems spare)) {i : Nat} {es ss : List (DataW H)} (hi : elems[i]? = some (.slice es ss)) :
    es.length ≤ 140737488351232 := by
  have hm : (es.length + ss.length) * Try.prog.bytesOf 5 ∈ DataW.weights Try.prog 28 (.slice elems spare : DataW H) := by
    have q := all_mem Try.prog 27 ((es.length + ss.length) * Try.prog.bytesOf 5) elems i _ hi (by simp [DataW.weights, Try.underlying27])
    simp [DataW.weights, Try.underlying28, q]
  have := List.all_eq_true.1 h _ (DataW.weights_mem_each ht hd _ hm)
  rw [u8Bytes] at this
  simp [reachBytes] at this
  omega
set_option maxRecDepth 100000 in
/-- A [][]byte that came in. -/
theorem open_txs {H : Type} {enc : TypeId × Value → H} {w : World} {r : Reach} {b0 base : Nat} {held : Bool} {v : Value} {d : DataW H} {p : List MemPlace} {ts : List TypeId} {ds : List (DataW H)} {j : Nat} (hz : (DataW.weightsEach Try.prog ts ds).all (· ≤ reachBytes) = true) (hj : ts[j]? = some 28) (hdj : ds[j]? = some d)
    (hv : Value.okWide Try.prog w r b0 28 v) (h : DataW.Trod enc Try.prog w base (fun _ => true) held 28 v d p) :
    ∃ k pv pn pf, Tx w v k pv pn pf := by
  obtain ⟨fuel, hf⟩ := h
  obtain ⟨a0, l0, c0, rfl⟩ := okWide_slice Try.underlying28 hv
  rcases open_slice1 Try.underlying28 bytesC1 hf with ⟨h0, _⟩ | ⟨a, len, cap, m, n, V, D, Pl, h0, _, hl, hc, hm, hd, hx⟩
  · refine ⟨0, fun _ => .slice none 0 0, fun _ => 0, fun _ _ => 0, none, 0, ?_, by omega, fun h => by omega, fun i hi => absurd hi (Nat.not_lt_zero _)⟩
    simpa [Value.cells] using h0
  · have h0' : Value.slice a0 l0 c0 = .slice (some a) len cap := by simpa [Value.cells] using h0
    rw [h0'] at hv ⊢
    simp only [Value.okWide, Try.underlying28, Cell.okWide, Cell.ok, World.has] at hv
    obtain ⟨_, _, _, hs, row, cells, hsh, _⟩ := hv
    have hlt := shape_lt hsh
    obtain ⟨g, o, spot⟩ := a
    simp only at hs
    subst hs
    have hml : len ≤ m := by rw [hm]; split <;> omega
    have hcap : cap ≤ 9223372036854775807 := by simpa [maxLen] using hc
    have ed : d = .slice ((List.range len).map D) ((List.range (m - len)).map fun j => D (len + j)) := (Prod.mk.inj hd).1
    rw [ed] at hdj
    obtain ⟨q, hq⟩ := choose_lt (α := Nat × (Nat → Nat)) (n := len) (p := fun i x => Sz w (V i) x.1 x.2 ∧ x.1 ≤ 140737488351232) (fun i hi => by
      obtain ⟨n', f', h1, _, h2⟩ := open_part (hx i (by omega)).2
      refine ⟨(n', f'), h1, ?_⟩
      rcases h2 with rfl | ⟨es, ss, h3, rfl⟩
      · exact Nat.zero_le _
      · exact sized_part hz hj hdj (i := i) (es := es) (ss := ss) (by simp [hi, h3]))
    refine ⟨len, V, fun i => (q i).1, fun i => (q i).2, _, cap, rfl, by omega, fun _ => ⟨g, o, rfl, hlt, fun i hi => ?_⟩, fun i hi => hq i hi⟩
    have h1 := (hx i (by omega)).1
    rw [show (Addr.add ⟨g, o, none⟩ i) = ⟨g, o + i, none⟩ from Addr.add_mid g o i] at h1
    exact h1
end Go.Proofs.Ytachilkhbfpahaa

/- For every key, every nonce and every two []byte open and text of bulk at most 1048576 together, rimelaw12.SealSeals returns true and its arguments read afterwards as they read before. Its condition: that bound. -/
set_option linter.constructorNameAsVariable false
namespace Go.Proofs.Ytachilkhbfpahaa
open Go.ChangeShapes Go.WideShapes Go.ChangeAt Go.RowKit Go.Deep

set_option maxRecDepth 100000 in
theorem sealSeals_lifted (os : Go.Os) (started : os.Started) (H : Type) (enc : TypeId × Value → H) (F : Stop.Interp) :
    ReturnsInHanded {} Try.checked os 5 .any ((Rows.OpenSpec.upto Rows.sealSealsSpec).pre6 enc Try.prog Try.f5 Rows.sealSealsUptoRow.domain false) (((Rows.OpenSpec.upto Rows.sealSealsSpec).at F).post enc Try.prog Try.f5 false true false false) := by
  refine returnsInHanded_of_cond (C := Try.checked) (s := Rows.OpenSpec.upto Rows.sealSealsSpec) (k := Rows.uptoSmall) rfl own started (by kernel_rfl) Try.func5
    (OpenSpec.witness (enc := enc) (C := Try.checked) (s := Rows.OpenSpec.upto Rows.sealSealsSpec) (k := Rows.uptoSmall) rfl false ⟨#[], #[.agg (yC 32 z0), .agg (yC 12 z0), .slice none 0 0, .slice none 0 0], []⟩ 8 (by kernel_rfl) (by kernel_rfl) (by kernel_rfl)
      (x := ([.agg (List.replicate 32 (.lit (.int .u8 0))), .agg (List.replicate 12 (.lit (.int .u8 0))), .nil, .nil], [], [])) (by kernel_rfl) rfl (by kernel_rfl)) ?_
  intro W base args ds gs before hval0 hW _ hk0 _
  have hval : ∀ (j : Nat) t v, Try.f5.params[j]? = some t → args[j]? = some v → Value.okWide Try.prog W .any base t v := hval0
  have hW' := hW
  obtain ⟨p, q, hA0, hV, rfl, hfz, hnd⟩ := hW
  have hA : DataW.TrodAll enc Try.prog W 0 (fun _ => true) true Try.f5.params.toList args.toList ds p := hA0
  rw [Try.params5] at hA hval
  obtain ⟨v0, v1, v2, v3, d0, d1, d2, d3, p0, p1, p2, p3, rfl, rfl, rfl, h0, h1, h2, h3⟩ := trodAll_four hA
  obtain ⟨rfl, rfl⟩ := trodVars_none hV
  have lt0 : ∀ x ∈ p0, x.block < W.heap.size := by obtain ⟨m, hm⟩ := h0; exact DataW.trod_lt m _ _ _ hm
  have lt1 : ∀ x ∈ p1, x.block < W.heap.size := by obtain ⟨m, hm⟩ := h1; exact DataW.trod_lt m _ _ _ hm
  have lt2 : ∀ x ∈ p2, x.block < W.heap.size := by obtain ⟨m, hm⟩ := h2; exact DataW.trod_lt m _ _ _ hm
  have lt3 : ∀ x ∈ p3, x.block < W.heap.size := by obtain ⟨m, hm⟩ := h3; exact DataW.trod_lt m _ _ _ hm
  obtain ⟨k, hk, rfl⟩ := open_arr Try.underlying23 keyCells (hval 0 23 v0 rfl rfl) h0
  obtain ⟨nn, hn, rfl⟩ := open_arr Try.underlying26 nonCells (hval 1 26 v1 rfl rfl) h1
  obtain ⟨n2, f2, hS2, hb2, _⟩ := open_sz (hval 2 27 v2 rfl rfl) h2
  obtain ⟨n3, f3, hS3, hb3, _⟩ := open_sz (hval 3 27 v3 rfl rfl) h3
  have hb := of_decide_eq_true hk0
  simp only [List.append_nil, Rows.uptoBulkAll] at hb
  clear hA0 hval0
  refine (seals_walk k hk nn hn v2 n2 f2 v3 n3 f3 W hS2 hS3 (by omega) (by omega)).mono fun e W' ⟨he, hc⟩ => ?_
  have bel := hc.below
  subst he
  exact ⟨_, rfl, _, _, _, [], _, [], hW', trodAll_mk1 (shut_bool Try.underlying4 _), (trodAll_cons_mk (Below.trod laidOut (by kernel_rfl) (of_decide_eq_true (by kernel_rfl)) h0 bel lt0) (trodAll_cons_mk (Below.trod laidOut (by kernel_rfl) (of_decide_eq_true (by kernel_rfl)) h1 bel lt1) (trodAll_cons_mk (Below.trod laidOut (by kernel_rfl) (of_decide_eq_true (by kernel_rfl)) h2 bel lt2) (trodAll_cons_mk (Below.trod laidOut (by kernel_rfl) (of_decide_eq_true (by kernel_rfl)) h3 bel lt3) trodAll_mk0)))), rfl, bel.frame _, fun h => by cases h⟩
theorem sealSeals_holds : Rows.SealSealsUptoSaid :=
  OpenClaim.holds_of_cond 5 Try.f5 rfl rfl rfl rfl rfl rfl rfl ⟨rfl, rfl, rfl, rfl, rfl⟩ rfl rfl rfl rfl rfl (by kernel_rfl) Try.func5 (by kernel_rfl)
    (of_decide_eq_true (by kernel_rfl)) (by unfold Func.isWrapper; first | (rw [if_pos (by decide +kernel)]; kernel_rfl) | (rw [if_neg (by decide +kernel)]; exact ⟨rfl, rfl⟩))
    (fun os started H enc _ F => sealSeals_lifted os started H enc F)
end Go.Proofs.Ytachilkhbfpahaa
