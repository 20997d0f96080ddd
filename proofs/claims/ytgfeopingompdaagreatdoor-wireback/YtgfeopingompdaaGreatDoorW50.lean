/- rimeplain.SameMessage of any two messages. -/
import Derived.Test.YtgfeopingompdaaGreatDoorW50t
set_option linter.unusedVariables false
set_option linter.unusedSimpArgs false
set_option linter.unnecessarySimpa false
namespace Go.Proofs.YtgfeopingompdaaGreatDoor
open Go.RowKit

set_option maxHeartbeats 40000000 in
set_option maxRecDepth 100000 in
theorem SameMsg_w (m : Ms) (N : Nat) (d : Nat → Int) (h b : Nat → Nat → Nat) (M : Nat) (ft : Nat → Nat) (m' : Ms) (N' : Nat) (d' : Nat → Int) (h' b' : Nat → Nat → Nat) (M' : Nat) (ft' : Nat → Nat) (w : World) (hL : Cl w m.list N d h b) (hT : Zb w m.text M ft) (hL' : Cl w m'.list N' d' h' b') (hT' : Zb w m'.text M' ft') :
    Calls Tryz.prog 20 #[.agg (msC m), .agg (msC m')] w fun e w' => e = .returned (.bool (eqM m N d h b M ft m' N' d' h' b' M' ft')) ∧ Chg w w' [] := by
  have h1 := eq_hashW
  have h2 := eq_scW
  have h3 := eq_sigW
  have h4 := eq_cmW
  have h5 := cmtGuard
  have N0 : Hid (((m.kind == m'.kind) = false) → eqM m N d h b M ft m' N' d' h' b' M' ft' = false) := fun q => by unfold eqM; rw [q]; simp
  have N1 : Hid (((eqnW 32 m.ses m'.ses) = false) → eqM m N d h b M ft m' N' d' h' b' M' ft' = false) := fun q => by unfold eqM; rw [q]; simp
  have N2 : Hid (((m.fr == m'.fr) = false) → eqM m N d h b M ft m' N' d' h' b' M' ft' = false) := fun q => by unfold eqM; rw [q]; simp
  have N3 : Hid (((m.to == m'.to) = false) → eqM m N d h b M ft m' N' d' h' b' M' ft' = false) := fun q => by unfold eqM; rw [q]; simp
  have N4 : Hid (((eqCm m.id m.hid m.bnd m'.id m'.hid m'.bnd) = false) → eqM m N d h b M ft m' N' d' h' b' M' ft' = false) := fun q => by unfold eqM; rw [q]; simp
  have N5 : Hid (((eqCl N d h b N' d' h' b') = false) → eqM m N d h b M ft m' N' d' h' b' M' ft' = false) := fun q => by unfold eqM; rw [q]; simp
  have N6 : Hid (((eqB M ft M' ft') = false) → eqM m N d h b M ft m' N' d' h' b' M' ft' = false) := fun q => by unfold eqM; rw [q]; simp
  have N7 : Hid (((eqnW 32 m.bind m'.bind) = false) → eqM m N d h b M ft m' N' d' h' b' M' ft' = false) := fun q => by unfold eqM; rw [q]; simp
  have N8 : Hid (((eqnW 32 m.share m'.share) = false) → eqM m N d h b M ft m' N' d' h' b' M' ft' = false) := fun q => by unfold eqM; rw [q]; simp
  have N9 : Hid (((eqnW 64 m.sig m'.sig) = false) → eqM m N d h b M ft m' N' d' h' b' M' ft' = false) := fun q => by unfold eqM; rw [q]; simp
  have N10 : Hid (((m.code == m'.code) = false) → eqM m N d h b M ft m' N' d' h' b' M' ft' = false) := fun q => by unfold eqM; rw [q]; simp
  have YY : Hid (((m.kind == m'.kind) = true ∧ (eqnW 32 m.ses m'.ses) = true ∧ (m.fr == m'.fr) = true ∧ (m.to == m'.to) = true ∧ (eqCm m.id m.hid m.bnd m'.id m'.hid m'.bnd) = true ∧ (eqCl N d h b N' d' h' b') = true ∧ (eqB M ft M' ft') = true ∧ (eqnW 32 m.bind m'.bind) = true ∧ (eqnW 32 m.share m'.share) = true ∧ (eqnW 64 m.sig m'.sig) = true ∧ (m.code == m'.code) = true) → eqM m N d h b M ft m' N' d' h' b' M' ft' = true) := (eqM_iff m N d h b M ft m' N' d' h' b' M' ft').2
  obtain ⟨R, hR⟩ : ∃ R, eqM m N d h b M ft m' N' d' h' b' M' ft' = R := ⟨_, rfl⟩
  rw [hR] at N0 N1 N2 N3 N4 N5 N6 N7 N8 N9 N10 YY ⊢
  clear hR
  have HCL : Hid (∀ W, Chg w W [] → Calls Tryz.prog 55 #[m.list, m'.list] W fun e w' => e = .returned (.bool (eqCl N d h b N' d' h' b')) ∧ Chg W w' []) := fun W k => SameCommitments_w m.list N d h b m'.list N' d' h' b' W (hL.chg k) (hL'.chg k)
  have HCT : Hid (∀ W, Chg w W [] → Calls Tryz.prog 11 #[m.text, m'.text] W fun e w' => e = .returned (.bool (eqB M ft M' ft')) ∧ Chg W w' []) := fun W k => SameBytes_w m.text M ft m'.text M' ft' W (hT.chg k) (hT'.chg k)
  clear hL hT hL' hT'
  go_enter Tryz.func20, Tryz.ntmps20
  obtain ⟨C, hC⟩ : ∃ C, msC m = C := ⟨_, rfl⟩
  obtain ⟨C', hC'⟩ : ∃ C', msC m' = C' := ⟨_, rfl⟩
  rw [hC, hC']
  go_upto_region 1 with (first
    | (have _h := BA; refine box_w rfl 35 _ rfl C' rfl ?_; intro bb w2 hbb BB k2
       have BA2 := BA.chg k2 (by simp)
       have K2 := k1.trans1 k2
       rw [← hC] at BA2
       rw [← hC'] at BB
       obtain ⟨⟨rA1, rA2, rA3, rA4, rA5⟩, a0, a33, a34, a100, a101, a230⟩ := ms_F BA2
       obtain ⟨⟨rB1, rB2, rB3, rB4, rB5⟩, b0, b33, b34, b100, b101, b230⟩ := ms_F BB)
    | (refine box_w rfl 35 _ rfl C rfl ?_; intro ab w1 hab BA k1))
  refine wp_region_lit ?_
  clear BA
  by_cases e0 : m.kind = m'.kind
  rotate_left
  · have ef : (m.kind == m'.kind) = false := beq_eq_false_iff_ne.2 e0
    have hf := N0.out ef
    subst hf
    clear e0
    refine wpList_step (fun K hK => ?_); rw [if_pos (by rfl)]; go_simp; refine hK _ _ ?_; clear hK K
    refine wpList_step (fun K hK => ?_); rw [if_pos (by rfl)]; go_simp; refine hK _ _ ?_; clear hK K
    refine wpList_step (fun K hK => ?_); rw [if_pos (by rfl)]; go_simp; refine hK _ _ ?_; clear hK K
    refine wpList_step (fun K hK => ?_); rw [if_pos (by rfl)]; go_simp; refine hK _ _ ?_; clear hK K
    refine wpList_step (fun K hK => ?_); rw [if_pos (by rfl)]; go_simp; refine hK _ _ ?_; clear hK K
    refine wpList_step (fun K hK => ?_); rw [if_pos (by rfl)]; go_simp; refine hK _ _ ?_; clear hK K
    repeat (first | (refine wpList_step (fun K hK => ?_); rw [if_pos (by rfl)]; go_simp; refine hK _ _ ?_; clear hK K) | (refine wpList_step (fun K hK => ?_); rw [if_neg (by exact Bool.false_ne_true)]; refine hK _ _ ?_; clear hK K; try simp only [Act.put, List.setIfInBounds_toArray, List.set_cons_zero, List.set_cons_succ]))
    refine wpList_nil ?_
    go_wp2_with fail
    go_ret
    exact ⟨rfl, K2⟩
  rw [← e0] at b0
  have E0 : Hid ((m.kind == m'.kind) = true) := beq_iff_eq.2 e0
  clear e0
  refine wpList_step (fun K hK => ?_); rw [if_pos (by rfl)]; go_simp; refine hK _ _ ?_; clear hK K
  refine wpList_step (fun K hK => ?_); rw [if_pos (by rfl)]; go_simp; refine hK _ _ ?_; clear hK K
  refine wpList_step (fun K hK => ?_); rw [if_pos (by rfl)]; go_simp; refine hK _ _ ?_; clear hK K
  refine wpList_step (fun K hK => ?_); rw [if_pos (by rfl)]; go_simp; refine hK _ _ ?_; clear hK K
  refine wpList_step (fun K hK => ?_); rw [if_pos (by rfl)]; go_simp; refine hK _ _ ?_; clear hK K
  refine wpList_step (fun K hK => ?_); rw [if_pos (by rfl)]; go_simp; refine hK _ _ ?_; clear hK K
  rcases (Bool.eq_false_or_eq_true (eqnW 32 m.ses m'.ses)).symm with ee | ee
  · have hf := N1.out ee
    subst hf
    refine wpList_step (fun K hK => ?_); rw [if_pos (by rfl)]; go_simp; refine hK _ _ ?_; clear hK K
    refine load_gm (by rfl) 24 (.tmp 11) rfl ab 1 rfl (yL 32 m.ses) rA1 Tryz.underlying24 rfl (hsI _) ?_
    try simp only [Act.put, List.setIfInBounds_toArray, List.set_cons_zero, List.set_cons_succ]
    refine wpList_step (fun K hK => ?_); rw [if_pos (by rfl)]; go_simp; refine hK _ _ ?_; clear hK K
    refine load_gm (by rfl) 24 (.tmp 13) rfl bb 1 rfl (yL 32 m'.ses) rB1 Tryz.underlying24 rfl (hsI _) ?_
    try simp only [Act.put, List.setIfInBounds_toArray, List.set_cons_zero, List.set_cons_succ]
    refine wpList_step (fun K hK => ?_); rw [if_pos (by rfl)]; go_simp; refine hK _ _ ?_; clear hK K
    refine wpList_step (fun K hK => ?_); rw [if_pos (by rfl)]; go_simp; refine hK _ _ ?_; clear hK K
    refine wpList_step (fun K hK => ?_); rw [if_pos (by rfl)]; go_simp; refine hK _ _ ?_; clear hK K
    repeat (first | (refine wpList_step (fun K hK => ?_); rw [if_pos (by rfl)]; go_simp; refine hK _ _ ?_; clear hK K) | (refine wpList_step (fun K hK => ?_); rw [if_neg (by exact Bool.false_ne_true)]; refine hK _ _ ?_; clear hK K; try simp only [Act.put, List.setIfInBounds_toArray, List.set_cons_zero, List.set_cons_succ]))
    refine wpList_nil ?_
    go_wp2_with fail
    go_ret
    exact ⟨rfl, K2⟩
  have E1 : Hid ((eqnW 32 m.ses m'.ses) = true) := ee
  refine wpList_step (fun K hK => ?_); rw [if_pos (by rfl)]; go_simp; refine hK _ _ ?_; clear hK K
  refine load_gm (by rfl) 24 (.tmp 11) rfl ab 1 rfl (yL 32 m.ses) rA1 Tryz.underlying24 rfl (hsI _) ?_
  try simp only [Act.put, List.setIfInBounds_toArray, List.set_cons_zero, List.set_cons_succ]
  refine wpList_step (fun K hK => ?_); rw [if_pos (by rfl)]; go_simp; refine hK _ _ ?_; clear hK K
  refine load_gm (by rfl) 24 (.tmp 13) rfl bb 1 rfl (yL 32 m'.ses) rB1 Tryz.underlying24 rfl (hsI _) ?_
  try simp only [Act.put, List.setIfInBounds_toArray, List.set_cons_zero, List.set_cons_succ]
  refine wpList_step (fun K hK => ?_); rw [if_pos (by rfl)]; go_simp; refine hK _ _ ?_; clear hK K
  refine wpList_step (fun K hK => ?_); rw [if_pos (by rfl)]; go_simp; refine hK _ _ ?_; clear hK K
  refine wpList_step (fun K hK => ?_); rw [if_pos (by rfl)]; go_simp; refine hK _ _ ?_; clear hK K
  clear ee
  by_cases e2 : m.fr = m'.fr
  rotate_left
  · have ef : (m.fr == m'.fr) = false := beq_eq_false_iff_ne.2 e2
    have hf := N2.out ef
    subst hf
    clear e2
    refine wpList_step (fun K hK => ?_); rw [if_pos (by rfl)]; go_simp; refine hK _ _ ?_; clear hK K
    refine wpList_step (fun K hK => ?_); rw [if_pos (by rfl)]; go_simp; refine hK _ _ ?_; clear hK K
    refine wpList_step (fun K hK => ?_); rw [if_pos (by rfl)]; go_simp; refine hK _ _ ?_; clear hK K
    refine wpList_step (fun K hK => ?_); rw [if_pos (by rfl)]; go_simp; refine hK _ _ ?_; clear hK K
    refine wpList_step (fun K hK => ?_); rw [if_pos (by rfl)]; go_simp; refine hK _ _ ?_; clear hK K
    refine wpList_step (fun K hK => ?_); rw [if_pos (by rfl)]; go_simp; refine hK _ _ ?_; clear hK K
    refine wpList_step (fun K hK => ?_); rw [if_pos (by rfl)]; go_simp; refine hK _ _ ?_; clear hK K
    repeat (first | (refine wpList_step (fun K hK => ?_); rw [if_pos (by rfl)]; go_simp; refine hK _ _ ?_; clear hK K) | (refine wpList_step (fun K hK => ?_); rw [if_neg (by exact Bool.false_ne_true)]; refine hK _ _ ?_; clear hK K; try simp only [Act.put, List.setIfInBounds_toArray, List.set_cons_zero, List.set_cons_succ]))
    refine wpList_nil ?_
    go_wp2_with fail
    go_ret
    exact ⟨rfl, K2⟩
  rw [← e2] at b33
  have E2 : Hid ((m.fr == m'.fr) = true) := beq_iff_eq.2 e2
  clear e2
  refine wpList_step (fun K hK => ?_); rw [if_pos (by rfl)]; go_simp; refine hK _ _ ?_; clear hK K
  refine wpList_step (fun K hK => ?_); rw [if_pos (by rfl)]; go_simp; refine hK _ _ ?_; clear hK K
  refine wpList_step (fun K hK => ?_); rw [if_pos (by rfl)]; go_simp; refine hK _ _ ?_; clear hK K
  refine wpList_step (fun K hK => ?_); rw [if_pos (by rfl)]; go_simp; refine hK _ _ ?_; clear hK K
  refine wpList_step (fun K hK => ?_); rw [if_pos (by rfl)]; go_simp; refine hK _ _ ?_; clear hK K
  refine wpList_step (fun K hK => ?_); rw [if_pos (by rfl)]; go_simp; refine hK _ _ ?_; clear hK K
  refine wpList_step (fun K hK => ?_); rw [if_pos (by rfl)]; go_simp; refine hK _ _ ?_; clear hK K
  by_cases e3 : m.to = m'.to
  rotate_left
  · have ef : (m.to == m'.to) = false := beq_eq_false_iff_ne.2 e3
    have hf := N3.out ef
    subst hf
    clear e3
    refine wpList_step (fun K hK => ?_); rw [if_pos (by rfl)]; go_simp; refine hK _ _ ?_; clear hK K
    refine wpList_step (fun K hK => ?_); rw [if_pos (by rfl)]; go_simp; refine hK _ _ ?_; clear hK K
    refine wpList_step (fun K hK => ?_); rw [if_pos (by rfl)]; go_simp; refine hK _ _ ?_; clear hK K
    refine wpList_step (fun K hK => ?_); rw [if_pos (by rfl)]; go_simp; refine hK _ _ ?_; clear hK K
    refine wpList_step (fun K hK => ?_); rw [if_pos (by rfl)]; go_simp; refine hK _ _ ?_; clear hK K
    refine wpList_step (fun K hK => ?_); rw [if_pos (by rfl)]; go_simp; refine hK _ _ ?_; clear hK K
    refine wpList_step (fun K hK => ?_); rw [if_pos (by rfl)]; go_simp; refine hK _ _ ?_; clear hK K
    repeat (first | (refine wpList_step (fun K hK => ?_); rw [if_pos (by rfl)]; go_simp; refine hK _ _ ?_; clear hK K) | (refine wpList_step (fun K hK => ?_); rw [if_neg (by exact Bool.false_ne_true)]; refine hK _ _ ?_; clear hK K; try simp only [Act.put, List.setIfInBounds_toArray, List.set_cons_zero, List.set_cons_succ]))
    refine wpList_nil ?_
    go_wp2_with fail
    go_ret
    exact ⟨rfl, K2⟩
  rw [← e3] at b34
  have E3 : Hid ((m.to == m'.to) = true) := beq_iff_eq.2 e3
  clear e3
  refine wpList_step (fun K hK => ?_); rw [if_pos (by rfl)]; go_simp; refine hK _ _ ?_; clear hK K
  refine wpList_step (fun K hK => ?_); rw [if_pos (by rfl)]; go_simp; refine hK _ _ ?_; clear hK K
  refine wpList_step (fun K hK => ?_); rw [if_pos (by rfl)]; go_simp; refine hK _ _ ?_; clear hK K
  refine wpList_step (fun K hK => ?_); rw [if_pos (by rfl)]; go_simp; refine hK _ _ ?_; clear hK K
  refine wpList_step (fun K hK => ?_); rw [if_pos (by rfl)]; go_simp; refine hK _ _ ?_; clear hK K
  refine wpList_step (fun K hK => ?_); rw [if_pos (by rfl)]; go_simp; refine hK _ _ ?_; clear hK K
  refine wpList_step (fun K hK => ?_); rw [if_pos (by rfl)]; go_simp; refine hK _ _ ?_; clear hK K
  rcases (Bool.eq_false_or_eq_true (eqCm m.id m.hid m.bnd m'.id m'.hid m'.bnd)).symm with ee | ee
  · have hf := N4.out ee
    subst hf
    refine wpList_step (fun K hK => ?_); rw [if_pos (by rfl)]; go_simp; refine hK _ _ ?_; clear hK K
    refine load_gm (by rfl) 27 (.tmp 32) rfl ab 35 rfl (cmL m.id m.hid m.bnd) rA2 Tryz.underlying27 rfl (cmI _ _ _) ?_
    try simp only [Act.put, List.setIfInBounds_toArray, List.set_cons_zero, List.set_cons_succ]
    refine wpList_step (fun K hK => ?_); rw [if_pos (by rfl)]; go_simp; refine hK _ _ ?_; clear hK K
    refine load_gm (by rfl) 27 (.tmp 34) rfl bb 35 rfl (cmL m'.id m'.hid m'.bnd) rB2 Tryz.underlying27 rfl (cmI _ _ _) ?_
    try simp only [Act.put, List.setIfInBounds_toArray, List.set_cons_zero, List.set_cons_succ]
    refine wpList_step (fun K hK => ?_); rw [if_pos (by rfl)]; go_simp; refine hK _ _ ?_; clear hK K
    refine wpList_step (fun K hK => ?_); rw [if_pos (by rfl)]; go_simp; refine hK _ _ ?_; clear hK K
    refine wpList_step (fun K hK => ?_); rw [if_pos (by rfl)]; go_simp; refine hK _ _ ?_; clear hK K
    repeat (first | (refine wpList_step (fun K hK => ?_); rw [if_pos (by rfl)]; go_simp; refine hK _ _ ?_; clear hK K) | (refine wpList_step (fun K hK => ?_); rw [if_neg (by exact Bool.false_ne_true)]; refine hK _ _ ?_; clear hK K; try simp only [Act.put, List.setIfInBounds_toArray, List.set_cons_zero, List.set_cons_succ]))
    refine wpList_nil ?_
    go_wp2_with fail
    go_ret
    exact ⟨rfl, K2⟩
  have E4 : Hid ((eqCm m.id m.hid m.bnd m'.id m'.hid m'.bnd) = true) := ee
  refine wpList_step (fun K hK => ?_); rw [if_pos (by rfl)]; go_simp; refine hK _ _ ?_; clear hK K
  refine load_gm (by rfl) 27 (.tmp 32) rfl ab 35 rfl (cmL m.id m.hid m.bnd) rA2 Tryz.underlying27 rfl (cmI _ _ _) ?_
  try simp only [Act.put, List.setIfInBounds_toArray, List.set_cons_zero, List.set_cons_succ]
  refine wpList_step (fun K hK => ?_); rw [if_pos (by rfl)]; go_simp; refine hK _ _ ?_; clear hK K
  refine load_gm (by rfl) 27 (.tmp 34) rfl bb 35 rfl (cmL m'.id m'.hid m'.bnd) rB2 Tryz.underlying27 rfl (cmI _ _ _) ?_
  try simp only [Act.put, List.setIfInBounds_toArray, List.set_cons_zero, List.set_cons_succ]
  refine wpList_step (fun K hK => ?_); rw [if_pos (by rfl)]; go_simp; refine hK _ _ ?_; clear hK K
  refine wpList_step (fun K hK => ?_); rw [if_pos (by rfl)]; go_simp; refine hK _ _ ?_; clear hK K
  refine wpList_step (fun K hK => ?_); rw [if_pos (by rfl)]; go_simp; refine hK _ _ ?_; clear hK K
  clear ee
  rcases (Bool.eq_false_or_eq_true (eqCl N d h b N' d' h' b')).symm with ee | ee
  · have hf := N5.out ee
    subst hf
    refine wpList_step (fun K hK => ?_); rw [if_pos (by rfl)]; go_simp; refine hK _ _ ?_; clear hK K
    refine wpList_step (fun K hK => ?_); rw [if_pos (by rfl)]; go_simp; refine hK _ _ ?_; clear hK K
    refine wpList_step (fun K hK => ?_); rw [if_pos (by rfl)]; go_simp; refine hK _ _ ?_; clear hK K
    refine wpList_step (fun K hK => ?_); rw [if_pos (by rfl)]; go_simp; refine hK _ _ ?_; clear hK K
    refine wpList_step (fun K hK => ?_)
    rw [if_pos (by rfl)]
    go_simp
    refine (HCL.out w2 K2).mono ?_
    rintro e w3 ⟨rfl, k3⟩
    try rw [ee]
    clear rA1 rA2 rA3 rA4 rA5 rB1 rB2 rB3 rB4 rB5 a0 a33 a34 a100 a101 a230 b0 b33 b34 b100 b101 b230
    have BA3 := BA2.chg k3 (by simp)
    have BB3 := BB.chg k3 (by simp)
    have K3 := K2.trans1 k3
    clear BA2 BB k3
    obtain ⟨⟨rA1, rA2, rA3, rA4, rA5⟩, a0, a33, a34, a100, a101, a230⟩ := ms_F BA3
    obtain ⟨⟨rB1, rB2, rB3, rB4, rB5⟩, b0, b33, b34, b100, b101, b230⟩ := ms_F BB3
    go_simp
    refine hK _ _ ?_
    clear hK K
    refine wpList_step (fun K hK => ?_); rw [if_pos (by rfl)]; go_simp; refine hK _ _ ?_; clear hK K
    refine wpList_step (fun K hK => ?_); rw [if_pos (by rfl)]; go_simp; refine hK _ _ ?_; clear hK K
    repeat (first | (refine wpList_step (fun K hK => ?_); rw [if_pos (by rfl)]; go_simp; refine hK _ _ ?_; clear hK K) | (refine wpList_step (fun K hK => ?_); rw [if_neg (by exact Bool.false_ne_true)]; refine hK _ _ ?_; clear hK K; try simp only [Act.put, List.setIfInBounds_toArray, List.set_cons_zero, List.set_cons_succ]))
    refine wpList_nil ?_
    go_wp2_with fail
    go_ret
    exact ⟨rfl, K3⟩
  have E5 : Hid ((eqCl N d h b N' d' h' b') = true) := ee
  refine wpList_step (fun K hK => ?_); rw [if_pos (by rfl)]; go_simp; refine hK _ _ ?_; clear hK K
  refine wpList_step (fun K hK => ?_); rw [if_pos (by rfl)]; go_simp; refine hK _ _ ?_; clear hK K
  refine wpList_step (fun K hK => ?_); rw [if_pos (by rfl)]; go_simp; refine hK _ _ ?_; clear hK K
  refine wpList_step (fun K hK => ?_); rw [if_pos (by rfl)]; go_simp; refine hK _ _ ?_; clear hK K
  refine wpList_step (fun K hK => ?_)
  rw [if_pos (by rfl)]
  go_simp
  refine (HCL.out w2 K2).mono ?_
  rintro e w3 ⟨rfl, k3⟩
  try rw [ee]
  clear rA1 rA2 rA3 rA4 rA5 rB1 rB2 rB3 rB4 rB5 a0 a33 a34 a100 a101 a230 b0 b33 b34 b100 b101 b230
  have BA3 := BA2.chg k3 (by simp)
  have BB3 := BB.chg k3 (by simp)
  have K3 := K2.trans1 k3
  clear BA2 BB k3
  obtain ⟨⟨rA1, rA2, rA3, rA4, rA5⟩, a0, a33, a34, a100, a101, a230⟩ := ms_F BA3
  obtain ⟨⟨rB1, rB2, rB3, rB4, rB5⟩, b0, b33, b34, b100, b101, b230⟩ := ms_F BB3
  go_simp
  refine hK _ _ ?_
  clear hK K
  refine wpList_step (fun K hK => ?_); rw [if_pos (by rfl)]; go_simp; refine hK _ _ ?_; clear hK K
  refine wpList_step (fun K hK => ?_); rw [if_pos (by rfl)]; go_simp; refine hK _ _ ?_; clear hK K
  clear ee
  rcases (Bool.eq_false_or_eq_true (eqB M ft M' ft')).symm with ee | ee
  · have hf := N6.out ee
    subst hf
    refine wpList_step (fun K hK => ?_); rw [if_pos (by rfl)]; go_simp; refine hK _ _ ?_; clear hK K
    refine wpList_step (fun K hK => ?_); rw [if_pos (by rfl)]; go_simp; refine hK _ _ ?_; clear hK K
    refine wpList_step (fun K hK => ?_); rw [if_pos (by rfl)]; go_simp; refine hK _ _ ?_; clear hK K
    refine wpList_step (fun K hK => ?_); rw [if_pos (by rfl)]; go_simp; refine hK _ _ ?_; clear hK K
    refine wpList_step (fun K hK => ?_)
    rw [if_pos (by rfl)]
    go_simp
    refine (HCT.out w3 K3).mono ?_
    rintro e w4 ⟨rfl, k4⟩
    try rw [ee]
    clear rA1 rA2 rA3 rA4 rA5 rB1 rB2 rB3 rB4 rB5 a0 a33 a34 a100 a101 a230 b0 b33 b34 b100 b101 b230
    have BA4 := BA3.chg k4 (by simp)
    have BB4 := BB3.chg k4 (by simp)
    have K4 := K3.trans1 k4
    clear BA3 BB3 k4
    obtain ⟨⟨rA1, rA2, rA3, rA4, rA5⟩, a0, a33, a34, a100, a101, a230⟩ := ms_F BA4
    obtain ⟨⟨rB1, rB2, rB3, rB4, rB5⟩, b0, b33, b34, b100, b101, b230⟩ := ms_F BB4
    go_simp
    refine hK _ _ ?_
    clear hK K
    refine wpList_step (fun K hK => ?_); rw [if_pos (by rfl)]; go_simp; refine hK _ _ ?_; clear hK K
    refine wpList_step (fun K hK => ?_); rw [if_pos (by rfl)]; go_simp; refine hK _ _ ?_; clear hK K
    repeat (first | (refine wpList_step (fun K hK => ?_); rw [if_pos (by rfl)]; go_simp; refine hK _ _ ?_; clear hK K) | (refine wpList_step (fun K hK => ?_); rw [if_neg (by exact Bool.false_ne_true)]; refine hK _ _ ?_; clear hK K; try simp only [Act.put, List.setIfInBounds_toArray, List.set_cons_zero, List.set_cons_succ]))
    refine wpList_nil ?_
    go_wp2_with fail
    go_ret
    exact ⟨rfl, K4⟩
  have E6 : Hid ((eqB M ft M' ft') = true) := ee
  refine wpList_step (fun K hK => ?_); rw [if_pos (by rfl)]; go_simp; refine hK _ _ ?_; clear hK K
  refine wpList_step (fun K hK => ?_); rw [if_pos (by rfl)]; go_simp; refine hK _ _ ?_; clear hK K
  refine wpList_step (fun K hK => ?_); rw [if_pos (by rfl)]; go_simp; refine hK _ _ ?_; clear hK K
  refine wpList_step (fun K hK => ?_); rw [if_pos (by rfl)]; go_simp; refine hK _ _ ?_; clear hK K
  refine wpList_step (fun K hK => ?_)
  rw [if_pos (by rfl)]
  go_simp
  refine (HCT.out w3 K3).mono ?_
  rintro e w4 ⟨rfl, k4⟩
  try rw [ee]
  clear rA1 rA2 rA3 rA4 rA5 rB1 rB2 rB3 rB4 rB5 a0 a33 a34 a100 a101 a230 b0 b33 b34 b100 b101 b230
  have BA4 := BA3.chg k4 (by simp)
  have BB4 := BB3.chg k4 (by simp)
  have K4 := K3.trans1 k4
  clear BA3 BB3 k4
  obtain ⟨⟨rA1, rA2, rA3, rA4, rA5⟩, a0, a33, a34, a100, a101, a230⟩ := ms_F BA4
  obtain ⟨⟨rB1, rB2, rB3, rB4, rB5⟩, b0, b33, b34, b100, b101, b230⟩ := ms_F BB4
  go_simp
  refine hK _ _ ?_
  clear hK K
  refine wpList_step (fun K hK => ?_); rw [if_pos (by rfl)]; go_simp; refine hK _ _ ?_; clear hK K
  refine wpList_step (fun K hK => ?_); rw [if_pos (by rfl)]; go_simp; refine hK _ _ ?_; clear hK K
  clear ee
  rcases (Bool.eq_false_or_eq_true (eqnW 32 m.bind m'.bind)).symm with ee | ee
  · have hf := N7.out ee
    subst hf
    refine wpList_step (fun K hK => ?_); rw [if_pos (by rfl)]; go_simp; refine hK _ _ ?_; clear hK K
    refine load_gm (by rfl) 24 (.tmp 53) rfl ab 102 rfl (yL 32 m.bind) rA3 Tryz.underlying24 rfl (hsI _) ?_
    try simp only [Act.put, List.setIfInBounds_toArray, List.set_cons_zero, List.set_cons_succ]
    refine wpList_step (fun K hK => ?_); rw [if_pos (by rfl)]; go_simp; refine hK _ _ ?_; clear hK K
    refine load_gm (by rfl) 24 (.tmp 55) rfl bb 102 rfl (yL 32 m'.bind) rB3 Tryz.underlying24 rfl (hsI _) ?_
    try simp only [Act.put, List.setIfInBounds_toArray, List.set_cons_zero, List.set_cons_succ]
    refine wpList_step (fun K hK => ?_); rw [if_pos (by rfl)]; go_simp; refine hK _ _ ?_; clear hK K
    refine wpList_step (fun K hK => ?_); rw [if_pos (by rfl)]; go_simp; refine hK _ _ ?_; clear hK K
    refine wpList_step (fun K hK => ?_); rw [if_pos (by rfl)]; go_simp; refine hK _ _ ?_; clear hK K
    repeat (first | (refine wpList_step (fun K hK => ?_); rw [if_pos (by rfl)]; go_simp; refine hK _ _ ?_; clear hK K) | (refine wpList_step (fun K hK => ?_); rw [if_neg (by exact Bool.false_ne_true)]; refine hK _ _ ?_; clear hK K; try simp only [Act.put, List.setIfInBounds_toArray, List.set_cons_zero, List.set_cons_succ]))
    refine wpList_nil ?_
    go_wp2_with fail
    go_ret
    exact ⟨rfl, K4⟩
  have E7 : Hid ((eqnW 32 m.bind m'.bind) = true) := ee
  refine wpList_step (fun K hK => ?_); rw [if_pos (by rfl)]; go_simp; refine hK _ _ ?_; clear hK K
  refine load_gm (by rfl) 24 (.tmp 53) rfl ab 102 rfl (yL 32 m.bind) rA3 Tryz.underlying24 rfl (hsI _) ?_
  try simp only [Act.put, List.setIfInBounds_toArray, List.set_cons_zero, List.set_cons_succ]
  refine wpList_step (fun K hK => ?_); rw [if_pos (by rfl)]; go_simp; refine hK _ _ ?_; clear hK K
  refine load_gm (by rfl) 24 (.tmp 55) rfl bb 102 rfl (yL 32 m'.bind) rB3 Tryz.underlying24 rfl (hsI _) ?_
  try simp only [Act.put, List.setIfInBounds_toArray, List.set_cons_zero, List.set_cons_succ]
  refine wpList_step (fun K hK => ?_); rw [if_pos (by rfl)]; go_simp; refine hK _ _ ?_; clear hK K
  refine wpList_step (fun K hK => ?_); rw [if_pos (by rfl)]; go_simp; refine hK _ _ ?_; clear hK K
  refine wpList_step (fun K hK => ?_); rw [if_pos (by rfl)]; go_simp; refine hK _ _ ?_; clear hK K
  clear ee
  rcases (Bool.eq_false_or_eq_true (eqnW 32 m.share m'.share)).symm with ee | ee
  · have hf := N8.out ee
    subst hf
    refine wpList_step (fun K hK => ?_); rw [if_pos (by rfl)]; go_simp; refine hK _ _ ?_; clear hK K
    refine load_gm (by rfl) 30 (.tmp 60) rfl ab 134 rfl (yL 32 m.share) rA4 Tryz.underlying30 rfl (scI _) ?_
    try simp only [Act.put, List.setIfInBounds_toArray, List.set_cons_zero, List.set_cons_succ]
    refine wpList_step (fun K hK => ?_); rw [if_pos (by rfl)]; go_simp; refine hK _ _ ?_; clear hK K
    refine load_gm (by rfl) 30 (.tmp 62) rfl bb 134 rfl (yL 32 m'.share) rB4 Tryz.underlying30 rfl (scI _) ?_
    try simp only [Act.put, List.setIfInBounds_toArray, List.set_cons_zero, List.set_cons_succ]
    refine wpList_step (fun K hK => ?_); rw [if_pos (by rfl)]; go_simp; refine hK _ _ ?_; clear hK K
    refine wpList_step (fun K hK => ?_); rw [if_pos (by rfl)]; go_simp; refine hK _ _ ?_; clear hK K
    refine wpList_step (fun K hK => ?_); rw [if_pos (by rfl)]; go_simp; refine hK _ _ ?_; clear hK K
    repeat (first | (refine wpList_step (fun K hK => ?_); rw [if_pos (by rfl)]; go_simp; refine hK _ _ ?_; clear hK K) | (refine wpList_step (fun K hK => ?_); rw [if_neg (by exact Bool.false_ne_true)]; refine hK _ _ ?_; clear hK K; try simp only [Act.put, List.setIfInBounds_toArray, List.set_cons_zero, List.set_cons_succ]))
    refine wpList_nil ?_
    go_wp2_with fail
    go_ret
    exact ⟨rfl, K4⟩
  have E8 : Hid ((eqnW 32 m.share m'.share) = true) := ee
  refine wpList_step (fun K hK => ?_); rw [if_pos (by rfl)]; go_simp; refine hK _ _ ?_; clear hK K
  refine load_gm (by rfl) 30 (.tmp 60) rfl ab 134 rfl (yL 32 m.share) rA4 Tryz.underlying30 rfl (scI _) ?_
  try simp only [Act.put, List.setIfInBounds_toArray, List.set_cons_zero, List.set_cons_succ]
  refine wpList_step (fun K hK => ?_); rw [if_pos (by rfl)]; go_simp; refine hK _ _ ?_; clear hK K
  refine load_gm (by rfl) 30 (.tmp 62) rfl bb 134 rfl (yL 32 m'.share) rB4 Tryz.underlying30 rfl (scI _) ?_
  try simp only [Act.put, List.setIfInBounds_toArray, List.set_cons_zero, List.set_cons_succ]
  refine wpList_step (fun K hK => ?_); rw [if_pos (by rfl)]; go_simp; refine hK _ _ ?_; clear hK K
  refine wpList_step (fun K hK => ?_); rw [if_pos (by rfl)]; go_simp; refine hK _ _ ?_; clear hK K
  refine wpList_step (fun K hK => ?_); rw [if_pos (by rfl)]; go_simp; refine hK _ _ ?_; clear hK K
  clear ee
  rcases (Bool.eq_false_or_eq_true (eqnW 64 m.sig m'.sig)).symm with ee | ee
  · have hf := N9.out ee
    subst hf
    refine wpList_step (fun K hK => ?_); rw [if_pos (by rfl)]; go_simp; refine hK _ _ ?_; clear hK K
    refine load_gm (by rfl) 32 (.tmp 67) rfl ab 166 rfl (yL 64 m.sig) rA5 Tryz.underlying32 rfl (sgI _) ?_
    try simp only [Act.put, List.setIfInBounds_toArray, List.set_cons_zero, List.set_cons_succ]
    refine wpList_step (fun K hK => ?_); rw [if_pos (by rfl)]; go_simp; refine hK _ _ ?_; clear hK K
    refine load_gm (by rfl) 32 (.tmp 69) rfl bb 166 rfl (yL 64 m'.sig) rB5 Tryz.underlying32 rfl (sgI _) ?_
    try simp only [Act.put, List.setIfInBounds_toArray, List.set_cons_zero, List.set_cons_succ]
    refine wpList_step (fun K hK => ?_); rw [if_pos (by rfl)]; go_simp; refine hK _ _ ?_; clear hK K
    refine wpList_step (fun K hK => ?_); rw [if_pos (by rfl)]; go_simp; refine hK _ _ ?_; clear hK K
    refine wpList_step (fun K hK => ?_); rw [if_pos (by rfl)]; go_simp; refine hK _ _ ?_; clear hK K
    repeat (first | (refine wpList_step (fun K hK => ?_); rw [if_pos (by rfl)]; go_simp; refine hK _ _ ?_; clear hK K) | (refine wpList_step (fun K hK => ?_); rw [if_neg (by exact Bool.false_ne_true)]; refine hK _ _ ?_; clear hK K; try simp only [Act.put, List.setIfInBounds_toArray, List.set_cons_zero, List.set_cons_succ]))
    refine wpList_nil ?_
    go_wp2_with fail
    go_ret
    exact ⟨rfl, K4⟩
  have E9 : Hid ((eqnW 64 m.sig m'.sig) = true) := ee
  refine wpList_step (fun K hK => ?_); rw [if_pos (by rfl)]; go_simp; refine hK _ _ ?_; clear hK K
  refine load_gm (by rfl) 32 (.tmp 67) rfl ab 166 rfl (yL 64 m.sig) rA5 Tryz.underlying32 rfl (sgI _) ?_
  try simp only [Act.put, List.setIfInBounds_toArray, List.set_cons_zero, List.set_cons_succ]
  refine wpList_step (fun K hK => ?_); rw [if_pos (by rfl)]; go_simp; refine hK _ _ ?_; clear hK K
  refine load_gm (by rfl) 32 (.tmp 69) rfl bb 166 rfl (yL 64 m'.sig) rB5 Tryz.underlying32 rfl (sgI _) ?_
  try simp only [Act.put, List.setIfInBounds_toArray, List.set_cons_zero, List.set_cons_succ]
  refine wpList_step (fun K hK => ?_); rw [if_pos (by rfl)]; go_simp; refine hK _ _ ?_; clear hK K
  refine wpList_step (fun K hK => ?_); rw [if_pos (by rfl)]; go_simp; refine hK _ _ ?_; clear hK K
  refine wpList_step (fun K hK => ?_); rw [if_pos (by rfl)]; go_simp; refine hK _ _ ?_; clear hK K
  clear ee
  by_cases e10 : m.code = m'.code
  rotate_left
  · have ef : (m.code == m'.code) = false := beq_eq_false_iff_ne.2 e10
    have hf := N10.out ef
    subst hf
    clear e10
    refine wpList_step (fun K hK => ?_); rw [if_pos (by rfl)]; go_simp; refine hK _ _ ?_; clear hK K
    refine wpList_step (fun K hK => ?_); rw [if_pos (by rfl)]; go_simp; refine hK _ _ ?_; clear hK K
    refine wpList_step (fun K hK => ?_); rw [if_pos (by rfl)]; go_simp; refine hK _ _ ?_; clear hK K
    refine wpList_step (fun K hK => ?_); rw [if_pos (by rfl)]; go_simp; refine hK _ _ ?_; clear hK K
    refine wpList_step (fun K hK => ?_); rw [if_pos (by rfl)]; go_simp; refine hK _ _ ?_; clear hK K
    refine wpList_step (fun K hK => ?_); rw [if_pos (by rfl)]; go_simp; refine hK _ _ ?_; clear hK K
    refine wpList_step (fun K hK => ?_); rw [if_pos (by rfl)]; go_simp; refine hK _ _ ?_; clear hK K
    repeat (first | (refine wpList_step (fun K hK => ?_); rw [if_pos (by rfl)]; go_simp; refine hK _ _ ?_; clear hK K) | (refine wpList_step (fun K hK => ?_); rw [if_neg (by exact Bool.false_ne_true)]; refine hK _ _ ?_; clear hK K; try simp only [Act.put, List.setIfInBounds_toArray, List.set_cons_zero, List.set_cons_succ]))
    refine wpList_nil ?_
    go_wp2_with fail
    go_ret
    exact ⟨rfl, K4⟩
  rw [← e10] at b230
  have E10 : Hid ((m.code == m'.code) = true) := beq_iff_eq.2 e10
  clear e10
  refine wpList_step (fun K hK => ?_); rw [if_pos (by rfl)]; go_simp; refine hK _ _ ?_; clear hK K
  refine wpList_step (fun K hK => ?_); rw [if_pos (by rfl)]; go_simp; refine hK _ _ ?_; clear hK K
  refine wpList_step (fun K hK => ?_); rw [if_pos (by rfl)]; go_simp; refine hK _ _ ?_; clear hK K
  refine wpList_step (fun K hK => ?_); rw [if_pos (by rfl)]; go_simp; refine hK _ _ ?_; clear hK K
  refine wpList_step (fun K hK => ?_); rw [if_pos (by rfl)]; go_simp; refine hK _ _ ?_; clear hK K
  refine wpList_step (fun K hK => ?_); rw [if_pos (by rfl)]; go_simp; refine hK _ _ ?_; clear hK K
  refine wpList_step (fun K hK => ?_); rw [if_pos (by rfl)]; go_simp; refine hK _ _ ?_; clear hK K
  have hf := YY.out ⟨E0.out, E1.out, E2.out, E3.out, E4.out, E5.out, E6.out, E7.out, E8.out, E9.out, E10.out⟩
  subst hf
  refine wpList_nil ?_
  go_wp2_with fail
  go_ret
  exact ⟨rfl, K4⟩
end Go.Proofs.YtgfeopingompdaaGreatDoor
