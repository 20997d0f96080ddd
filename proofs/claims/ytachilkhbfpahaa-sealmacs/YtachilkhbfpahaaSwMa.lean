/- SealMacs: the walk. -/
import Derived.Test.YtachilkhbfpahaaSrMc
import Derived.Test.YtachilkhbfpahaaGvZ
import Derived.Test.YtachilkhbfpahaaSeWk
set_option linter.unusedVariables false
set_option linter.unusedSimpArgs false
set_option linter.unnecessarySimpa false
namespace Go.Proofs.Ytachilkhbfpahaa
open Go.RowKit

set_option maxHeartbeats 16000000 in
set_option maxRecDepth 100000 in
theorem macs_walk (k : Nat → Nat) (hk : ∀ i, i < 32 → k i < 256) (v : Value) (n : Nat) (f : Nat → Nat) (w : World) (hv : Sz w v n f) (hn : n ≤ 140737488355325) :
    Calls Try.prog 4 #[.agg (yC 32 k), v] w fun e w' => e = .returned (.bool true) ∧ Chg w w' [] := by
  have HV : Hid (Sz w v n f ∧ n ≤ 140737488355325) := ⟨hv, hn⟩
  have HC1 : Hid (∀ w' v', Sz w' v' n f → Calls Try.prog 18 #[.agg (yC 32 k), v'] w' fun e w'' => e = .returned (.agg (yC 16 (macB k n f))) ∧ Chg w' w'' []) := fun w' v' h => Mac_s k hk v' n f w' h
  have HC2 : Hid (∀ w' v', Sz w' v' n f → Calls Try.prog 19 #[.agg (yC 32 k), v'] w' fun e w'' => e = .returned (.agg (yC 16 (macB k n f))) ∧ Chg w' w'' []) := fun w' v' h => Mac_r k hk v' n f w' h (by omega)
  obtain ⟨M, hM⟩ : ∃ M, macB k n f = M := ⟨_, rfl⟩
  rw [hM] at HC1 HC2
  clear hk hv hn hM
  go_enter Try.func4, Try.ntmps4
  go_wp2_with (first
    | (refine alloc_w rfl 44 rfl (.agg (gvC gNil)) zeroGiven (gvC gNil) rfl ?_; intro gb w2 hgb BG k2)
    | (refine box_w rfl 23 _ rfl (yC 32 k) rfl ?_; intro kb w1 hkb BK k1))
  refine lt_begin (fun w' => Blk w' kb (yC 32 k) 23) (fun _ => false) (by kernel_rfl) ?_
  have hHeld := (BK.chg k2 (by simp)).drew
  have G2 : GS w w2.drew gb 0 := GS.begin BG.drew (by have := k1.size; omega) (k1.trans1 k2).drew
  obtain ⟨z, hz⟩ : ∃ z, z = w2.drew := ⟨_, rfl⟩
  rw [← hz] at hHeld G2 ⊢
  clear hz BK BG k1 k2 hkb hgb
  refine lt_read (v := (.agg (yC 32 k))) 0 (some 6) rfl (by kernel_rfl) (by kernel_rfl) (by kernel_rfl) (by kernel_rfl) (fun _ _ _ h => h) rfl rfl (fun w hSw => ?_) hHeld ?_
  · skip; exact (exec_load_b w 23 (.tmp 2) rfl kb rfl hSw Try.underlying23 rfl (by rw [yC_size]; exact keyInfo))
  try simp only [Act.put, List.setIfInBounds_toArray, List.set_cons_zero, List.set_cons_succ]
  refine lt_val (v := ?_) 1 (some 7) rfl (by kernel_rfl) (by kernel_rfl) (by kernel_rfl) (fun _ _ _ h => h) rfl rfl (fun w => ?_) ?_
  rotate_left
  · (go_simp; try with_reducible rfl)
  try simp only [Act.put, List.setIfInBounds_toArray, List.set_cons_zero, List.set_cons_succ]
  refine lt_read (v := (.agg (yC 32 k))) 4 (some 10) rfl (by kernel_rfl) (by kernel_rfl) (by kernel_rfl) (by kernel_rfl) (fun _ _ _ h => h) rfl rfl (fun w hSw => ?_) hHeld ?_
  · skip; exact (exec_load_b w 23 (.tmp 2) rfl kb rfl hSw Try.underlying23 rfl (by rw [yC_size]; exact keyInfo))
  try simp only [Act.put, List.setIfInBounds_toArray, List.set_cons_zero, List.set_cons_succ]
  refine lt_val (v := ?_) 5 (some 11) rfl (by kernel_rfl) (by kernel_rfl) (by kernel_rfl) (fun _ _ _ h => h) rfl rfl (fun w => ?_) ?_
  rotate_left
  · (go_simp; try with_reducible rfl)
  try simp only [Act.put, List.setIfInBounds_toArray, List.set_cons_zero, List.set_cons_succ]
  refine lt_one 2 rfl (by kernel_rfl) rfl (fun K hK => ?_)
  go_simp
  refine (G2.bytes (by decide) HV.out.2 (HV.out.1.kept G2.cc)).mono ?_
  rintro e w3 ⟨o3, rfl, ho3, G3, _, S3, Q3⟩
  go_wp2_with fail
  refine hK.out _ _ (fun _ h => Q3.blk h (by decide) (by decide)) ?_
  replace hHeld := Q3.blk hHeld (by decide) (by decide)
  clear G2 Q3 ho3
  clear hK K
  try simp only [Act.put, List.setIfInBounds_toArray, List.set_cons_zero, List.set_cons_succ]
  refine lt_one 3 rfl (by kernel_rfl) rfl (fun K hK => ?_)
  go_simp
  refine (HC1.out w3 _ S3).mono ?_
  rintro e w4 ⟨rfl, k4⟩
  go_wp2_with fail
  refine hK.out _ _ (fun _ h => h.chg k4 (by simp)) ?_
  replace hHeld := hHeld.chg k4 (by simp)
  have G4 := G3.chg k4
  clear G3 S3 k4
  clear hK K
  try simp only [Act.put, List.setIfInBounds_toArray, List.set_cons_zero, List.set_cons_succ]
  refine lt_one 6 rfl (by kernel_rfl) rfl (fun K hK => ?_)
  go_simp
  refine (HC2.out w4 v (HV.out.1.kept G4.cc)).mono ?_
  rintro e w5 ⟨rfl, k5⟩
  go_wp2_with fail
  refine hK.out _ _ (fun _ h => h.chg k5 (by simp)) ?_
  replace hHeld := hHeld.chg k5 (by simp)
  have G5 := G4.chg k5
  clear G4 k5
  clear hK K
  try simp only [Act.put, List.setIfInBounds_toArray, List.set_cons_zero, List.set_cons_succ]
  refine lt_val (v := (.bool true)) 7 (some 13) rfl (by kernel_rfl) (by kernel_rfl) (by kernel_rfl) (fun _ _ _ h => h) rfl rfl (fun w => ?_) ?_
  · (go_simp; rw [(eqn_iff 16 _ _).2 (fun _ _ => rfl)])
  try simp only [Act.put, List.setIfInBounds_toArray, List.set_cons_zero, List.set_cons_succ]
  refine lt_val (v := ?_) 8 (some 14) rfl (by kernel_rfl) (by kernel_rfl) (by kernel_rfl) (fun _ _ _ h => h) rfl rfl (fun w => ?_) ?_
  rotate_left
  · (go_simp; try with_reducible rfl)
  try simp only [Act.put, List.setIfInBounds_toArray, List.set_cons_zero, List.set_cons_succ]
  refine lt_one 9 rfl (by kernel_rfl) rfl (fun K hK => ?_)
  go_simp
  refine (G5.intact (by decide)).mono ?_
  rintro e w6 ⟨rfl, k6⟩
  go_wp2_with fail
  refine hK.out _ _ (fun _ h => h.chg k6 (by simp)) ?_
  have K6 := G5.cc.trans1 k6
  clear hHeld G5 k6
  clear hK K
  try simp only [Act.put, List.setIfInBounds_toArray, List.set_cons_zero, List.set_cons_succ]
  refine lt_val (v := ?_) 10 (some 16) rfl (by kernel_rfl) (by kernel_rfl) (by kernel_rfl) (fun _ _ _ h => h) rfl rfl (fun w => ?_) ?_
  rotate_left
  · (go_simp; try with_reducible rfl)
  try simp only [Act.put, List.setIfInBounds_toArray, List.set_cons_zero, List.set_cons_succ]
  refine lt_val (v := ?_) 11 (some 17) rfl (by kernel_rfl) (by kernel_rfl) (by kernel_rfl) (fun _ _ _ h => h) rfl rfl (fun w => ?_) ?_
  rotate_left
  · (go_simp; try with_reducible rfl)
  try simp only [Act.put, List.setIfInBounds_toArray, List.set_cons_zero, List.set_cons_succ]
  refine lt_one 12 rfl (by kernel_rfl) rfl (fun K hK => ?_)
  go_simp
  refine (works_s w6).mono ?_
  rintro e w7 ⟨rfl, k7⟩
  go_wp2_with fail
  refine hK.out _ _ (fun _ h => h.chg k7 (by simp)) ?_
  clear hK K
  try simp only [Act.put, List.setIfInBounds_toArray, List.set_cons_zero, List.set_cons_succ]
  refine lt_val (v := ?_) 13 (some 19) rfl (by kernel_rfl) (by kernel_rfl) (by kernel_rfl) (fun _ _ _ h => h) rfl rfl (fun w => ?_) ?_
  rotate_left
  · (go_simp; try with_reducible rfl)
  try simp only [Act.put, List.setIfInBounds_toArray, List.set_cons_zero, List.set_cons_succ]
  refine lt_val (v := ?_) 14 (some 4) rfl (by kernel_rfl) (by kernel_rfl) (by kernel_rfl) (fun _ _ _ h => h) rfl rfl (fun w => ?_) ?_
  rotate_left
  · (go_simp; try with_reducible rfl)
  try simp only [Act.put, List.setIfInBounds_toArray, List.set_cons_zero, List.set_cons_succ]
  refine lt_done (by kernel_rfl) ?_ _
  go_wp2_with fail
  go_ret
  exact ⟨rfl, K6.trans1 k7⟩
end Go.Proofs.Ytachilkhbfpahaa
