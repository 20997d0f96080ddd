/- rimeplain.SameMessage of a refusal and itself: the walk. -/
import Derived.Test.YtjppbngimacgnaaGreatDoorW25
import Derived.Deep.DeepCutAuto
set_option linter.unusedVariables false
set_option linter.unusedSimpArgs false
set_option linter.unnecessarySimpa false
namespace Go.Proofs.YtjppbngimacgnaaGreatDoor
open Go.RowKit

def M5 (w : World) (g : Nat) : Prop := (w.rangeAt g 1 (z0L 32) ∧ w.rangeAt g 35 cmL0 ∧ w.rangeAt g 102 (z0L 32) ∧ w.rangeAt g 134 (z0L 32) ∧ w.rangeAt g 166 (z0L 64)) ∧
  w.cell? ⟨g, 0, none⟩ = some (.int .i64 5) ∧ w.cell? ⟨g, 33, none⟩ = some (.int .i64 2) ∧ w.cell? ⟨g, 34, none⟩ = some (.int .i64 0) ∧ w.cell? ⟨g, 100, none⟩ = some (.slice none 0 0) ∧ w.cell? ⟨g, 101, none⟩ = some (.slice none 0 0) ∧ w.cell? ⟨g, 230, none⟩ = some (.int .i64 5)
theorem m5_rg {w : World} {g : Nat} {T : TypeId} (B : Blk w g (msC m5) T) : M5 w g :=
  ⟨⟨(ms_ses B (fun i _ => (by decide : (0 : Nat) < 256))).rg, ms_pair B, (ms_bind B (fun i _ => (by decide : (0 : Nat) < 256))).rg, (ms_share B (fun i _ => (by decide : (0 : Nat) < 256))).rg, (ms_sig B (fun i _ => (by decide : (0 : Nat) < 256))).rg⟩,
    ms_at B 0 _ (ms_kind _), ms_at B 33 _ (ms_fr _), ms_at B 34 _ (ms_to _), ms_at B 100 _ (ms_list _), ms_at B 101 _ (ms_text _), ms_at B 230 _ (ms_code _)⟩
theorem hashI2 : (Tryz.prog.info? 47).map (·.size) = some (z0L 32).length := by unfold z0L; rw [yL_len]; exact hashInfoW
theorem scI2 : (Tryz.prog.info? 52).map (·.size) = some (z0L 32).length := by unfold z0L; rw [yL_len]; exact scInfoW
theorem sigI2 : (Tryz.prog.info? 54).map (·.size) = some (z0L 64).length := by unfold z0L; rw [yL_len]; exact sigInfoW
theorem cmtI2 : (Tryz.prog.info? 50).map (·.size) = some cmL0.length := by rw [show cmL0.length = 65 from by simp [cmL0, yL]]; exact cmtInfo
set_option maxHeartbeats 16000000 in
set_option maxRecDepth 100000 in
theorem SameMsg_5 (w : World) : Calls Tryz.prog 16 #[.agg (msC m5), .agg (msC m5)] w fun e w' => e = .returned (.bool true) ∧ Chg w w' [] := by
  have h1 := eqHashZ
  have h2 := eqScZ
  have h3 := eqSigZ
  have h4 := eqCmtZ
  have h5 := cmtGuard
  go_enter Tryz.func16, Tryz.ntmps16
  obtain ⟨C, hC⟩ : ∃ C, msC m5 = C := ⟨_, rfl⟩
  rw [hC]
  go_upto_region 1 with (first
    | (have _h := BA; refine box_w rfl 56 _ rfl C rfl ?_; intro bb w2 hbb BB k2
       have BA2 := BA.chg k2 (by simp)
       have K2 := k1.trans1 k2
       rw [← hC] at BA2 BB
       obtain ⟨⟨rA1, rA2, rA3, rA4, rA5⟩, a0, a33, a34, a100, a101, a230⟩ := m5_rg BA2
       obtain ⟨⟨rB1, rB2, rB3, rB4, rB5⟩, b0, b33, b34, b100, b101, b230⟩ := m5_rg BB)
    | (refine box_w rfl 56 _ rfl C rfl ?_; intro ab w1 hab BA k1))
  refine wp_region_lit ?_
  clear BA
  refine wpList_step (fun K hK => ?_)
  rw [if_pos (by rfl)]
  go_simp
  refine hK _ _ ?_
  clear hK K
  refine wpList_step (fun K hK => ?_)
  rw [if_pos (by rfl)]
  go_simp
  refine hK _ _ ?_
  clear hK K
  refine wpList_step (fun K hK => ?_)
  rw [if_pos (by rfl)]
  go_simp
  refine hK _ _ ?_
  clear hK K
  refine wpList_step (fun K hK => ?_)
  rw [if_pos (by rfl)]
  go_simp
  refine hK _ _ ?_
  clear hK K
  refine wpList_step (fun K hK => ?_)
  rw [if_pos (by rfl)]
  go_simp
  refine hK _ _ ?_
  clear hK K
  refine wpList_step (fun K hK => ?_)
  rw [if_pos (by rfl)]
  go_simp
  refine hK _ _ ?_
  clear hK K
  refine wpList_step (fun K hK => ?_)
  rw [if_pos (by rfl)]
  go_simp
  refine hK _ _ ?_
  clear hK K
  refine load_gm (by rfl) 47 (.tmp 11) rfl ab 1 rfl (z0L 32) rA1 Tryz.underlying47 rfl hashI2 ?_
  try simp only [Act.put, List.setIfInBounds_toArray, List.set_cons_zero, List.set_cons_succ]
  refine wpList_step (fun K hK => ?_)
  rw [if_pos (by rfl)]
  go_simp
  refine hK _ _ ?_
  clear hK K
  refine load_gm (by rfl) 47 (.tmp 13) rfl bb 1 rfl (z0L 32) rB1 Tryz.underlying47 rfl hashI2 ?_
  try simp only [Act.put, List.setIfInBounds_toArray, List.set_cons_zero, List.set_cons_succ]
  refine wpList_step (fun K hK => ?_)
  rw [if_pos (by rfl)]
  go_simp
  refine hK _ _ ?_
  clear hK K
  refine wpList_step (fun K hK => ?_)
  rw [if_pos (by rfl)]
  go_simp
  refine hK _ _ ?_
  clear hK K
  refine wpList_step (fun K hK => ?_)
  rw [if_pos (by rfl)]
  go_simp
  refine hK _ _ ?_
  clear hK K
  refine wpList_step (fun K hK => ?_)
  rw [if_pos (by rfl)]
  go_simp
  refine hK _ _ ?_
  clear hK K
  refine wpList_step (fun K hK => ?_)
  rw [if_pos (by rfl)]
  go_simp
  refine hK _ _ ?_
  clear hK K
  refine wpList_step (fun K hK => ?_)
  rw [if_pos (by rfl)]
  go_simp
  refine hK _ _ ?_
  clear hK K
  refine wpList_step (fun K hK => ?_)
  rw [if_pos (by rfl)]
  go_simp
  refine hK _ _ ?_
  clear hK K
  refine wpList_step (fun K hK => ?_)
  rw [if_pos (by rfl)]
  go_simp
  refine hK _ _ ?_
  clear hK K
  refine wpList_step (fun K hK => ?_)
  rw [if_pos (by rfl)]
  go_simp
  refine hK _ _ ?_
  clear hK K
  refine wpList_step (fun K hK => ?_)
  rw [if_pos (by rfl)]
  go_simp
  refine hK _ _ ?_
  clear hK K
  refine wpList_step (fun K hK => ?_)
  rw [if_pos (by rfl)]
  go_simp
  refine hK _ _ ?_
  clear hK K
  refine wpList_step (fun K hK => ?_)
  rw [if_pos (by rfl)]
  go_simp
  refine hK _ _ ?_
  clear hK K
  refine wpList_step (fun K hK => ?_)
  rw [if_pos (by rfl)]
  go_simp
  refine hK _ _ ?_
  clear hK K
  refine wpList_step (fun K hK => ?_)
  rw [if_pos (by rfl)]
  go_simp
  refine hK _ _ ?_
  clear hK K
  refine wpList_step (fun K hK => ?_)
  rw [if_pos (by rfl)]
  go_simp
  refine hK _ _ ?_
  clear hK K
  refine wpList_step (fun K hK => ?_)
  rw [if_pos (by rfl)]
  go_simp
  refine hK _ _ ?_
  clear hK K
  refine wpList_step (fun K hK => ?_)
  rw [if_pos (by rfl)]
  go_simp
  refine hK _ _ ?_
  clear hK K
  refine wpList_step (fun K hK => ?_)
  rw [if_pos (by rfl)]
  go_simp
  refine hK _ _ ?_
  clear hK K
  refine load_gm (by rfl) 50 (.tmp 32) rfl ab 35 rfl cmL0 rA2 Tryz.underlying50 rfl cmtI2 ?_
  try simp only [Act.put, List.setIfInBounds_toArray, List.set_cons_zero, List.set_cons_succ]
  refine wpList_step (fun K hK => ?_)
  rw [if_pos (by rfl)]
  go_simp
  refine hK _ _ ?_
  clear hK K
  refine load_gm (by rfl) 50 (.tmp 34) rfl bb 35 rfl cmL0 rB2 Tryz.underlying50 rfl cmtI2 ?_
  try simp only [Act.put, List.setIfInBounds_toArray, List.set_cons_zero, List.set_cons_succ]
  refine wpList_step (fun K hK => ?_)
  rw [if_pos (by rfl)]
  go_simp
  refine hK _ _ ?_
  clear hK K
  refine wpList_step (fun K hK => ?_)
  rw [if_pos (by rfl)]
  go_simp
  refine hK _ _ ?_
  clear hK K
  refine wpList_step (fun K hK => ?_)
  rw [if_pos (by rfl)]
  go_simp
  refine hK _ _ ?_
  clear hK K
  refine wpList_step (fun K hK => ?_)
  rw [if_pos (by rfl)]
  go_simp
  refine hK _ _ ?_
  clear hK K
  refine wpList_step (fun K hK => ?_)
  rw [if_pos (by rfl)]
  go_simp
  refine hK _ _ ?_
  clear hK K
  refine wpList_step (fun K hK => ?_)
  rw [if_pos (by rfl)]
  go_simp
  refine hK _ _ ?_
  clear hK K
  refine wpList_step (fun K hK => ?_)
  rw [if_pos (by rfl)]
  go_simp
  refine hK _ _ ?_
  clear hK K
  refine wpList_step (fun K hK => ?_)
  rw [if_pos (by rfl)]
  go_simp
  refine (SameCommitments_nil w2).mono ?_
  rintro e w3 ⟨rfl, k3⟩
  clear rA1 rA2 rA3 rA4 rA5 rB1 rB2 rB3 rB4 rB5 a0 a33 a34 a100 a101 a230 b0 b33 b34 b100 b101 b230
  obtain ⟨_, a0, a33, a34, a100, a101, a230⟩ := m5_rg (BA2.chg k3 (by simp))
  obtain ⟨_, b0, b33, b34, b100, b101, b230⟩ := m5_rg (BB.chg k3 (by simp))
  refine hK _ _ ?_
  clear hK K
  refine wpList_step (fun K hK => ?_)
  rw [if_pos (by rfl)]
  go_simp
  refine hK _ _ ?_
  clear hK K
  refine wpList_step (fun K hK => ?_)
  rw [if_pos (by rfl)]
  go_simp
  refine hK _ _ ?_
  clear hK K
  refine wpList_step (fun K hK => ?_)
  rw [if_pos (by rfl)]
  go_simp
  refine hK _ _ ?_
  clear hK K
  refine wpList_step (fun K hK => ?_)
  rw [if_pos (by rfl)]
  go_simp
  refine hK _ _ ?_
  clear hK K
  refine wpList_step (fun K hK => ?_)
  rw [if_pos (by rfl)]
  go_simp
  refine hK _ _ ?_
  clear hK K
  refine wpList_step (fun K hK => ?_)
  rw [if_pos (by rfl)]
  go_simp
  refine hK _ _ ?_
  clear hK K
  refine wpList_step (fun K hK => ?_)
  rw [if_pos (by rfl)]
  go_simp
  refine (SameBytes_nil w3).mono ?_
  rintro e w4 ⟨rfl, k4⟩
  clear a0 a33 a34 a100 a101 a230 b0 b33 b34 b100 b101 b230
  obtain ⟨⟨_, _, rA3, rA4, rA5⟩, a0, a33, a34, a100, a101, a230⟩ := m5_rg ((BA2.chg k3 (by simp)).chg k4 (by simp))
  obtain ⟨⟨_, _, rB3, rB4, rB5⟩, b0, b33, b34, b100, b101, b230⟩ := m5_rg ((BB.chg k3 (by simp)).chg k4 (by simp))
  refine hK _ _ ?_
  clear hK K
  refine wpList_step (fun K hK => ?_)
  rw [if_pos (by rfl)]
  go_simp
  refine hK _ _ ?_
  clear hK K
  refine wpList_step (fun K hK => ?_)
  rw [if_pos (by rfl)]
  go_simp
  refine hK _ _ ?_
  clear hK K
  refine wpList_step (fun K hK => ?_)
  rw [if_pos (by rfl)]
  go_simp
  refine hK _ _ ?_
  clear hK K
  refine load_gm (by rfl) 47 (.tmp 53) rfl ab 102 rfl (z0L 32) rA3 Tryz.underlying47 rfl hashI2 ?_
  try simp only [Act.put, List.setIfInBounds_toArray, List.set_cons_zero, List.set_cons_succ]
  refine wpList_step (fun K hK => ?_)
  rw [if_pos (by rfl)]
  go_simp
  refine hK _ _ ?_
  clear hK K
  refine load_gm (by rfl) 47 (.tmp 55) rfl bb 102 rfl (z0L 32) rB3 Tryz.underlying47 rfl hashI2 ?_
  try simp only [Act.put, List.setIfInBounds_toArray, List.set_cons_zero, List.set_cons_succ]
  refine wpList_step (fun K hK => ?_)
  rw [if_pos (by rfl)]
  go_simp
  refine hK _ _ ?_
  clear hK K
  refine wpList_step (fun K hK => ?_)
  rw [if_pos (by rfl)]
  go_simp
  refine hK _ _ ?_
  clear hK K
  refine wpList_step (fun K hK => ?_)
  rw [if_pos (by rfl)]
  go_simp
  refine hK _ _ ?_
  clear hK K
  refine wpList_step (fun K hK => ?_)
  rw [if_pos (by rfl)]
  go_simp
  refine hK _ _ ?_
  clear hK K
  refine load_gm (by rfl) 52 (.tmp 60) rfl ab 134 rfl (z0L 32) rA4 Tryz.underlying52 rfl scI2 ?_
  try simp only [Act.put, List.setIfInBounds_toArray, List.set_cons_zero, List.set_cons_succ]
  refine wpList_step (fun K hK => ?_)
  rw [if_pos (by rfl)]
  go_simp
  refine hK _ _ ?_
  clear hK K
  refine load_gm (by rfl) 52 (.tmp 62) rfl bb 134 rfl (z0L 32) rB4 Tryz.underlying52 rfl scI2 ?_
  try simp only [Act.put, List.setIfInBounds_toArray, List.set_cons_zero, List.set_cons_succ]
  refine wpList_step (fun K hK => ?_)
  rw [if_pos (by rfl)]
  go_simp
  refine hK _ _ ?_
  clear hK K
  refine wpList_step (fun K hK => ?_)
  rw [if_pos (by rfl)]
  go_simp
  refine hK _ _ ?_
  clear hK K
  refine wpList_step (fun K hK => ?_)
  rw [if_pos (by rfl)]
  go_simp
  refine hK _ _ ?_
  clear hK K
  refine wpList_step (fun K hK => ?_)
  rw [if_pos (by rfl)]
  go_simp
  refine hK _ _ ?_
  clear hK K
  refine load_gm (by rfl) 54 (.tmp 67) rfl ab 166 rfl (z0L 64) rA5 Tryz.underlying54 rfl sigI2 ?_
  try simp only [Act.put, List.setIfInBounds_toArray, List.set_cons_zero, List.set_cons_succ]
  refine wpList_step (fun K hK => ?_)
  rw [if_pos (by rfl)]
  go_simp
  refine hK _ _ ?_
  clear hK K
  refine load_gm (by rfl) 54 (.tmp 69) rfl bb 166 rfl (z0L 64) rB5 Tryz.underlying54 rfl sigI2 ?_
  try simp only [Act.put, List.setIfInBounds_toArray, List.set_cons_zero, List.set_cons_succ]
  refine wpList_step (fun K hK => ?_)
  rw [if_pos (by rfl)]
  go_simp
  refine hK _ _ ?_
  clear hK K
  refine wpList_step (fun K hK => ?_)
  rw [if_pos (by rfl)]
  go_simp
  refine hK _ _ ?_
  clear hK K
  refine wpList_step (fun K hK => ?_)
  rw [if_pos (by rfl)]
  go_simp
  refine hK _ _ ?_
  clear hK K
  refine wpList_step (fun K hK => ?_)
  rw [if_pos (by rfl)]
  go_simp
  refine hK _ _ ?_
  clear hK K
  refine wpList_step (fun K hK => ?_)
  rw [if_pos (by rfl)]
  go_simp
  refine hK _ _ ?_
  clear hK K
  refine wpList_step (fun K hK => ?_)
  rw [if_pos (by rfl)]
  go_simp
  refine hK _ _ ?_
  clear hK K
  refine wpList_step (fun K hK => ?_)
  rw [if_pos (by rfl)]
  go_simp
  refine hK _ _ ?_
  clear hK K
  refine wpList_step (fun K hK => ?_)
  rw [if_pos (by rfl)]
  go_simp
  refine hK _ _ ?_
  clear hK K
  refine wpList_step (fun K hK => ?_)
  rw [if_pos (by rfl)]
  go_simp
  refine hK _ _ ?_
  clear hK K
  refine wpList_step (fun K hK => ?_)
  rw [if_pos (by rfl)]
  go_simp
  refine hK _ _ ?_
  clear hK K
  refine wpList_nil ?_
  go_wp2_with fail
  go_ret
  exact ⟨rfl, (K2.trans1 k3).trans1 k4⟩
end Go.Proofs.YtjppbngimacgnaaGreatDoor
