/- Joined: W26, W27, W28. -/
import Derived.Test.YtgjclegpnbjlkaaGreatDoorMwC
import Derived.Deep.DeepCutAuto
import Derived.Test.YtgjclegpnbjlkaaGreatDoorMwS
import Derived.Test.YtgjclegpnbjlkaaGreatDoorMwV
import Derived.Test.YtgjclegpnbjlkaaGreatDoorMwI
set_option linter.all false
namespace Go.Proofs.YtgjclegpnbjlkaaGreatDoor
set_option maxHeartbeats 16000000
set_option maxRecDepth 100000
open Go.RowKit
def M5 (w : World) (g : Nat) : Prop := (w.rangeAt g 1 (z0L 32) ∧ w.rangeAt g 35 cmL0 ∧ w.rangeAt g 102 (z0L 32) ∧ w.rangeAt g 134 (z0L 32) ∧ w.rangeAt g 166 (z0L 64)) ∧
 w.cell? ⟨g, 0, none⟩ = some (.int .i64 5) ∧ w.cell? ⟨g, 33, none⟩ = some (.int .i64 2) ∧ w.cell? ⟨g, 34, none⟩ = some (.int .i64 0) ∧ w.cell? ⟨g, 100, none⟩ = some (.slice none 0 0) ∧ w.cell? ⟨g, 101, none⟩ = some (.slice none 0 0) ∧ w.cell? ⟨g, 230, none⟩ = some (.int .i64 5)
theorem m5_rg {w : World} {g : Nat} {T : TypeId} (B : Blk w g (msC m5) T) : M5 w g :=
 ⟨⟨(ms_ses B (fun i _ => (by decide : (0 : Nat) < 256))).rg, ms_pair B, (ms_bind B (fun i _ => (by decide : (0 : Nat) < 256))).rg, (ms_share B (fun i _ => (by decide : (0 : Nat) < 256))).rg, (ms_sig B (fun i _ => (by decide : (0 : Nat) < 256))).rg⟩,
   ms_at B 0 _ (ms_kind _), ms_at B 33 _ (ms_fr _), ms_at B 34 _ (ms_to _), ms_at B 100 _ (ms_list _), ms_at B 101 _ (ms_text _), ms_at B 230 _ (ms_code _)⟩
theorem hashI2 : (Tryz.prog.info? 24).map (·.size) = some (z0L 32).length := by unfold z0L; rw [yL_len]; exact hashInfoW
theorem scI2 : (Tryz.prog.info? 30).map (·.size) = some (z0L 32).length := by unfold z0L; rw [yL_len]; exact scInfoW
theorem sigI2 : (Tryz.prog.info? 32).map (·.size) = some (z0L 64).length := by unfold z0L; rw [yL_len]; exact sigInfoW
theorem cmtI2 : (Tryz.prog.info? 27).map (·.size) = some cmL0.length := by rw [show cmL0.length = 65 from by simp [cmL0, yL]]; exact cmtInfo
theorem SameMsg_5 (w : World) : Calls Tryz.prog 19 #[.agg (msC m5), .agg (msC m5)] w fun e w' => e = .returned (.bool true) ∧ Chg w w' [] := by
 have h1 := eqHashZ
 have h2 := eqScZ
 have h3 := eqSigZ
 have h4 := eqCmtZ
 have h5 := cmtGuard
 go_enter Tryz.func19, Tryz.ntmps19
 obtain ⟨C, hC⟩ : ∃ C, msC m5 = C := ⟨_, rfl⟩
 rw [hC]
 go_upto_region 1 with (first
   | (have _h := BA; refine box_w rfl 35 _ rfl C rfl ?_; intro bb w2 hbb BB k2
      have BA2 := BA.chg k2 (by simp)
      have K2 := k1.trans1 k2
      rw [← hC] at BA2 BB
      obtain ⟨⟨rA1, rA2, rA3, rA4, rA5⟩, a0, a33, a34, a100, a101, a230⟩ := m5_rg BA2
      obtain ⟨⟨rB1, rB2, rB3, rB4, rB5⟩, b0, b33, b34, b100, b101, b230⟩ := m5_rg BB)
   | (refine box_w rfl 35 _ rfl C rfl ?_; intro ab w1 hab BA k1))
 refine wp_region_lit ?_
 clear BA
 refine wpList_step (fun K hK => ?_)
 rw [if_pos (by rfl)]
 go_simp
 refine hK _ _ ?_
 clear hK K
 refine wpList_step (fun K hK => ?_)
 rw [if_pos (by rfl)]
 go_simp
 refine hK _ _ ?_
 clear hK K
 refine wpList_step (fun K hK => ?_)
 rw [if_pos (by rfl)]
 go_simp
 refine hK _ _ ?_
 clear hK K
 refine wpList_step (fun K hK => ?_)
 rw [if_pos (by rfl)]
 go_simp
 refine hK _ _ ?_
 clear hK K
 refine wpList_step (fun K hK => ?_)
 rw [if_pos (by rfl)]
 go_simp
 refine hK _ _ ?_
 clear hK K
 refine wpList_step (fun K hK => ?_)
 rw [if_pos (by rfl)]
 go_simp
 refine hK _ _ ?_
 clear hK K
 refine wpList_step (fun K hK => ?_)
 rw [if_pos (by rfl)]
 go_simp
 refine hK _ _ ?_
 clear hK K
 refine load_gm (by rfl) 24 (.tmp 11) rfl ab 1 rfl (z0L 32) rA1 Tryz.underlying24 rfl hashI2 ?_
 try simp only [Act.put, sA]
 refine wpList_step (fun K hK => ?_)
 rw [if_pos (by rfl)]
 go_simp
 refine hK _ _ ?_
 clear hK K
 refine load_gm (by rfl) 24 (.tmp 13) rfl bb 1 rfl (z0L 32) rB1 Tryz.underlying24 rfl hashI2 ?_
 try simp only [Act.put, sA]
 refine wpList_step (fun K hK => ?_)
 rw [if_pos (by rfl)]
 go_simp
 refine hK _ _ ?_
 clear hK K
 refine wpList_step (fun K hK => ?_)
 rw [if_pos (by rfl)]
 go_simp
 refine hK _ _ ?_
 clear hK K
 refine wpList_step (fun K hK => ?_)
 rw [if_pos (by rfl)]
 go_simp
 refine hK _ _ ?_
 clear hK K
 refine wpList_step (fun K hK => ?_)
 rw [if_pos (by rfl)]
 go_simp
 refine hK _ _ ?_
 clear hK K
 refine wpList_step (fun K hK => ?_)
 rw [if_pos (by rfl)]
 go_simp
 refine hK _ _ ?_
 clear hK K
 refine wpList_step (fun K hK => ?_)
 rw [if_pos (by rfl)]
 go_simp
 refine hK _ _ ?_
 clear hK K
 refine wpList_step (fun K hK => ?_)
 rw [if_pos (by rfl)]
 go_simp
 refine hK _ _ ?_
 clear hK K
 refine wpList_step (fun K hK => ?_)
 rw [if_pos (by rfl)]
 go_simp
 refine hK _ _ ?_
 clear hK K
 refine wpList_step (fun K hK => ?_)
 rw [if_pos (by rfl)]
 go_simp
 refine hK _ _ ?_
 clear hK K
 refine wpList_step (fun K hK => ?_)
 rw [if_pos (by rfl)]
 go_simp
 refine hK _ _ ?_
 clear hK K
 refine wpList_step (fun K hK => ?_)
 rw [if_pos (by rfl)]
 go_simp
 refine hK _ _ ?_
 clear hK K
 refine wpList_step (fun K hK => ?_)
 rw [if_pos (by rfl)]
 go_simp
 refine hK _ _ ?_
 clear hK K
 refine wpList_step (fun K hK => ?_)
 rw [if_pos (by rfl)]
 go_simp
 refine hK _ _ ?_
 clear hK K
 refine wpList_step (fun K hK => ?_)
 rw [if_pos (by rfl)]
 go_simp
 refine hK _ _ ?_
 clear hK K
 refine wpList_step (fun K hK => ?_)
 rw [if_pos (by rfl)]
 go_simp
 refine hK _ _ ?_
 clear hK K
 refine wpList_step (fun K hK => ?_)
 rw [if_pos (by rfl)]
 go_simp
 refine hK _ _ ?_
 clear hK K
 refine wpList_step (fun K hK => ?_)
 rw [if_pos (by rfl)]
 go_simp
 refine hK _ _ ?_
 clear hK K
 refine wpList_step (fun K hK => ?_)
 rw [if_pos (by rfl)]
 go_simp
 refine hK _ _ ?_
 clear hK K
 refine load_gm (by rfl) 27 (.tmp 32) rfl ab 35 rfl cmL0 rA2 Tryz.underlying27 rfl cmtI2 ?_
 try simp only [Act.put, sA]
 refine wpList_step (fun K hK => ?_)
 rw [if_pos (by rfl)]
 go_simp
 refine hK _ _ ?_
 clear hK K
 refine load_gm (by rfl) 27 (.tmp 34) rfl bb 35 rfl cmL0 rB2 Tryz.underlying27 rfl cmtI2 ?_
 try simp only [Act.put, sA]
 refine wpList_step (fun K hK => ?_)
 rw [if_pos (by rfl)]
 go_simp
 refine hK _ _ ?_
 clear hK K
 refine wpList_step (fun K hK => ?_)
 rw [if_pos (by rfl)]
 go_simp
 refine hK _ _ ?_
 clear hK K
 refine wpList_step (fun K hK => ?_)
 rw [if_pos (by rfl)]
 go_simp
 refine hK _ _ ?_
 clear hK K
 refine wpList_step (fun K hK => ?_)
 rw [if_pos (by rfl)]
 go_simp
 refine hK _ _ ?_
 clear hK K
 refine wpList_step (fun K hK => ?_)
 rw [if_pos (by rfl)]
 go_simp
 refine hK _ _ ?_
 clear hK K
 refine wpList_step (fun K hK => ?_)
 rw [if_pos (by rfl)]
 go_simp
 refine hK _ _ ?_
 clear hK K
 refine wpList_step (fun K hK => ?_)
 rw [if_pos (by rfl)]
 go_simp
 refine hK _ _ ?_
 clear hK K
 refine wpList_step (fun K hK => ?_)
 rw [if_pos (by rfl)]
 go_simp
 refine (SameCommitments_nil w2).mono ?_
 rintro e w3 ⟨rfl, k3⟩
 clear rA1 rA2 rA3 rA4 rA5 rB1 rB2 rB3 rB4 rB5 a0 a33 a34 a100 a101 a230 b0 b33 b34 b100 b101 b230
 obtain ⟨_, a0, a33, a34, a100, a101, a230⟩ := m5_rg (BA2.chg k3 (by simp))
 obtain ⟨_, b0, b33, b34, b100, b101, b230⟩ := m5_rg (BB.chg k3 (by simp))
 refine hK _ _ ?_
 clear hK K
 refine wpList_step (fun K hK => ?_)
 rw [if_pos (by rfl)]
 go_simp
 refine hK _ _ ?_
 clear hK K
 refine wpList_step (fun K hK => ?_)
 rw [if_pos (by rfl)]
 go_simp
 refine hK _ _ ?_
 clear hK K
 refine wpList_step (fun K hK => ?_)
 rw [if_pos (by rfl)]
 go_simp
 refine hK _ _ ?_
 clear hK K
 refine wpList_step (fun K hK => ?_)
 rw [if_pos (by rfl)]
 go_simp
 refine hK _ _ ?_
 clear hK K
 refine wpList_step (fun K hK => ?_)
 rw [if_pos (by rfl)]
 go_simp
 refine hK _ _ ?_
 clear hK K
 refine wpList_step (fun K hK => ?_)
 rw [if_pos (by rfl)]
 go_simp
 refine hK _ _ ?_
 clear hK K
 refine wpList_step (fun K hK => ?_)
 rw [if_pos (by rfl)]
 go_simp
 refine (SameBytes_nil w3).mono ?_
 rintro e w4 ⟨rfl, k4⟩
 clear a0 a33 a34 a100 a101 a230 b0 b33 b34 b100 b101 b230
 obtain ⟨⟨_, _, rA3, rA4, rA5⟩, a0, a33, a34, a100, a101, a230⟩ := m5_rg ((BA2.chg k3 (by simp)).chg k4 (by simp))
 obtain ⟨⟨_, _, rB3, rB4, rB5⟩, b0, b33, b34, b100, b101, b230⟩ := m5_rg ((BB.chg k3 (by simp)).chg k4 (by simp))
 refine hK _ _ ?_
 clear hK K
 refine wpList_step (fun K hK => ?_)
 rw [if_pos (by rfl)]
 go_simp
 refine hK _ _ ?_
 clear hK K
 refine wpList_step (fun K hK => ?_)
 rw [if_pos (by rfl)]
 go_simp
 refine hK _ _ ?_
 clear hK K
 refine wpList_step (fun K hK => ?_)
 rw [if_pos (by rfl)]
 go_simp
 refine hK _ _ ?_
 clear hK K
 refine load_gm (by rfl) 24 (.tmp 53) rfl ab 102 rfl (z0L 32) rA3 Tryz.underlying24 rfl hashI2 ?_
 try simp only [Act.put, sA]
 refine wpList_step (fun K hK => ?_)
 rw [if_pos (by rfl)]
 go_simp
 refine hK _ _ ?_
 clear hK K
 refine load_gm (by rfl) 24 (.tmp 55) rfl bb 102 rfl (z0L 32) rB3 Tryz.underlying24 rfl hashI2 ?_
 try simp only [Act.put, sA]
 refine wpList_step (fun K hK => ?_)
 rw [if_pos (by rfl)]
 go_simp
 refine hK _ _ ?_
 clear hK K
 refine wpList_step (fun K hK => ?_)
 rw [if_pos (by rfl)]
 go_simp
 refine hK _ _ ?_
 clear hK K
 refine wpList_step (fun K hK => ?_)
 rw [if_pos (by rfl)]
 go_simp
 refine hK _ _ ?_
 clear hK K
 refine wpList_step (fun K hK => ?_)
 rw [if_pos (by rfl)]
 go_simp
 refine hK _ _ ?_
 clear hK K
 refine load_gm (by rfl) 30 (.tmp 60) rfl ab 134 rfl (z0L 32) rA4 Tryz.underlying30 rfl scI2 ?_
 try simp only [Act.put, sA]
 refine wpList_step (fun K hK => ?_)
 rw [if_pos (by rfl)]
 go_simp
 refine hK _ _ ?_
 clear hK K
 refine load_gm (by rfl) 30 (.tmp 62) rfl bb 134 rfl (z0L 32) rB4 Tryz.underlying30 rfl scI2 ?_
 try simp only [Act.put, sA]
 refine wpList_step (fun K hK => ?_)
 rw [if_pos (by rfl)]
 go_simp
 refine hK _ _ ?_
 clear hK K
 refine wpList_step (fun K hK => ?_)
 rw [if_pos (by rfl)]
 go_simp
 refine hK _ _ ?_
 clear hK K
 refine wpList_step (fun K hK => ?_)
 rw [if_pos (by rfl)]
 go_simp
 refine hK _ _ ?_
 clear hK K
 refine wpList_step (fun K hK => ?_)
 rw [if_pos (by rfl)]
 go_simp
 refine hK _ _ ?_
 clear hK K
 refine load_gm (by rfl) 32 (.tmp 67) rfl ab 166 rfl (z0L 64) rA5 Tryz.underlying32 rfl sigI2 ?_
 try simp only [Act.put, sA]
 refine wpList_step (fun K hK => ?_)
 rw [if_pos (by rfl)]
 go_simp
 refine hK _ _ ?_
 clear hK K
 refine load_gm (by rfl) 32 (.tmp 69) rfl bb 166 rfl (z0L 64) rB5 Tryz.underlying32 rfl sigI2 ?_
 try simp only [Act.put, sA]
 refine wpList_step (fun K hK => ?_)
 rw [if_pos (by rfl)]
 go_simp
 refine hK _ _ ?_
 clear hK K
 refine wpList_step (fun K hK => ?_)
 rw [if_pos (by rfl)]
 go_simp
 refine hK _ _ ?_
 clear hK K
 refine wpList_step (fun K hK => ?_)
 rw [if_pos (by rfl)]
 go_simp
 refine hK _ _ ?_
 clear hK K
 refine wpList_step (fun K hK => ?_)
 rw [if_pos (by rfl)]
 go_simp
 refine hK _ _ ?_
 clear hK K
 refine wpList_step (fun K hK => ?_)
 rw [if_pos (by rfl)]
 go_simp
 refine hK _ _ ?_
 clear hK K
 refine wpList_step (fun K hK => ?_)
 rw [if_pos (by rfl)]
 go_simp
 refine hK _ _ ?_
 clear hK K
 refine wpList_step (fun K hK => ?_)
 rw [if_pos (by rfl)]
 go_simp
 refine hK _ _ ?_
 clear hK K
 refine wpList_step (fun K hK => ?_)
 rw [if_pos (by rfl)]
 go_simp
 refine hK _ _ ?_
 clear hK K
 refine wpList_step (fun K hK => ?_)
 rw [if_pos (by rfl)]
 go_simp
 refine hK _ _ ?_
 clear hK K
 refine wpList_step (fun K hK => ?_)
 rw [if_pos (by rfl)]
 go_simp
 refine hK _ _ ?_
 clear hK K
 refine wpList_nil ?_
 go_wp2_with fail
 go_ret
 exact ⟨rfl, (K2.trans1 k3).trans1 k4⟩
end Go.Proofs.YtgjclegpnbjlkaaGreatDoor

set_option linter.all false
namespace Go.Proofs.YtgjclegpnbjlkaaGreatDoor
open Go.RowKit
def F5 : Nat → Nat := cat (hdB m5) 34 (b2 5)
def G5 : Nat → Nat := frB 5 (34 + 2) F5
theorem G5_lo (i : Nat) (hi : i < 46) : G5 i = fwB 5 (34 + 2) F5 i := if_pos hi
theorem G5_hi (j : Nat) : G5 (46 + j) = sha (fwB 5 (34 + 2) F5) 46 j := by
 show (if 46 + j < 46 then _ else sha (fwB 5 (34 + 2) F5) 46 (46 + j - 46)) = _
 rw [if_neg (by omega), Nat.add_sub_cancel_left]
theorem G5_sum (j : Nat) : G5 (46 + j) = sha G5 46 j := by
 rw [G5_hi, sha_congr (fun i hi => G5_lo i hi)]
theorem F5_ses (j : Nat) (hj : j < 32) : F5 j = 0 := by
 unfold F5 hdB cat
 rw [if_pos (by omega), if_pos hj]
 rfl
theorem G5_ses (j : Nat) (hj : j < 32) : G5 (10 + j) = 0 := by
 rw [G5_lo _ (by omega)]
 show (if 10 + j < 10 then _ else F5 (10 + j - 10)) = 0
 rw [if_neg (by omega), Nat.add_sub_cancel_left]
 exact F5_ses j hj
theorem G5_mg (i : Nat) (hi : i < 4) : G5 i = mgN i := by
 have h : i = 0 ∨ i = 1 ∨ i = 2 ∨ i = 3 := by omega
 rcases h with rfl | rfl | rfl | rfl <;> (rw [G5_lo _ (by omega)]; rfl)
theorem rd5_G5 : msC (rd5 G5) = msC m5 := by
 have e1 : (fun j => G5 (10 + j)) = fun j => G5 (10 + j) := rfl
 have e2 : nm G5 42 1 = 2 := by show (0 * 256 + G5 42) = 2; rw [G5_lo _ (by omega)]; rfl
 have e3 : nm G5 43 1 = 0 := by show (0 * 256 + G5 43) = 0; rw [G5_lo _ (by omega)]; rfl
 have e4 : nm G5 44 2 = 5 := by show ((0 * 256 + G5 44) * 256 + G5 45) = 5; rw [G5_lo _ (by omega), G5_lo _ (by omega)]; rfl
 have e5 : yL 32 (fun j => G5 (10 + j)) = yL 32 (fun _ => 0) := List.map_congr_left fun j hj => by show Value.int .u8 ((G5 (10 + j) : Nat) : Int) = _; rw [G5_ses j (by simpa using hj)]
 unfold msC msL rd5 m5
 simp only [e2, e3, e4, e5, ms0]
 rfl
theorem G5_code : 0 < nm G5 44 2 := by
 show 0 < ((0 * 256 + G5 44) * 256 + G5 45)
 rw [G5_lo _ (by omega), G5_lo _ (by omega)]
 decide
theorem G5_4 : G5 4 = 1 := by rw [G5_lo _ (by omega)]; rfl
theorem G5_5 : G5 5 = 5 := by rw [G5_lo _ (by omega)]; rfl
theorem G5_len : nm G5 6 4 = 36 := by
 show ((((0 * 256 + G5 6) * 256 + G5 7) * 256 + G5 8) * 256 + G5 9) = 36
 rw [G5_lo _ (by omega), G5_lo _ (by omega), G5_lo _ (by omega), G5_lo _ (by omega)]
 rfl
theorem check_5 (w : World) : Calls Tryz.prog 28 #[.agg (msC m5)] w fun e w' => e = .returned .nilIface ∧ Chg w w' [] := by
 refine (check_s m5 0 (fun _ => 0) (fun _ => zN) (fun _ => zN) none 0 0 w ⟨⟨cF_ok _ _ _ _, Or.inl ⟨rfl, rfl⟩⟩, fun j hj => by omega⟩ rfl).mono ?_
 rintro e w' ⟨v, rfl, h, k⟩
 refine ⟨?_, k⟩
 rcases h with ⟨h, _⟩ | ⟨_, h, _⟩ | ⟨_, _, h, _⟩ | ⟨_, _, _, h | h | h | h⟩
 · exact absurd (by unfold okKind m5 ms0; decide) h
 · exact absurd (by unfold okPt m5 ms0; decide) h
 · exact absurd (by unfold okPt m5 ms0; decide) h
 · rcases h.1 with h | h <;> (unfold m5 ms0 at h; simp at h)
 · have := h.1; unfold m5 ms0 at this; simp at this
 · rcases h.2 with h | h
   · rw [h.2]
   · exact absurd (by unfold okCode m5 ms0; decide) h.1
 · rw [h.2]
theorem Encode_5 (w : World) (hG : Gl w) : Calls Tryz.prog 7 #[.agg (msC m5)] w fun e w' => ∃ v, e = .returned (.tuple #[v, .nilIface]) ∧ Own w' w.heap.size v 50 G5 ∧ Chg w w' [] :=
 Encode_ok m5 5 rfl (by decide) (34 + 2) F5 (by decide) w hG (fun W _ => check_5 W) (fun W _ => bodyOf_5 m5 rfl (by unfold m5 ms0; decide) (by unfold m5 ms0; decide) (fun i _ => (by decide : (0 : Nat) < 256)) W 5 rfl (by decide))
theorem Decode_5 (g o c : Nat) (hc : 50 ≤ c) (hc2 : c ≤ 9223372036854775807) (w : World) (hG : Gl w) (hB : Bs w g o 50 G5) :
   Calls Tryz.prog 15 #[.slice (some ⟨g, o, none⟩) 50 c] w fun e w' => e = .returned (.tuple #[.agg (msC m5), .nilIface]) ∧ Chg w w' [] :=
 Decode_ok _ m5 ⟨rfl, rfl⟩ w fun W k => readFrame_ok g o 50 c 46 G5 5 m5 ⟨rfl, rfl⟩ rfl hc hc2 W (hG.chg k (by simp) (by simp)) (hB.chg k (by simp)) (fun j _ => G5_sum j)
   (fun W' k' => readHead_ok g o 50 c G5 5 36 (by decide) hc hc2 W' ((hB.chg k (by simp)).chg k' (by simp)) G5_mg G5_4 ⟨G5_5, by decide, by decide⟩ ⟨G5_len, by decide⟩)
   (fun W' r h1 h2 h3 => by have q := message_5 r c g o G5 _ _ (by omega) hc2 W' h1 h2 h3 G5_code; rw [rd5_G5] at q; exact q)
theorem Decode_49 (g o c : Nat) (hc : 50 ≤ c) (hc2 : c ≤ 9223372036854775807) (w : World) (hB : Bs w g o 50 G5) :
   Calls Tryz.prog 15 #[.slice (some ⟨g, o, none⟩) 49 c] w fun e w' => ∃ fv, e = .returned (.tuple #[.agg (msC (ms0 0)), fv]) ∧ Ft w' w.heap.size fv sFrame 49 3 ∧ Chg w w' [] :=
 Decode_gu _ sFrame 49 3 w fun W k => readFrame_short g o 49 c 50 5 (by decide) (by decide) W
   (fun W' k' => readHead_ok g o 49 c G5 5 36 (by decide) (by omega) hc2 W' (((hB.chg k (by simp)).chg k' (by simp)).lo (by decide)) G5_mg G5_4 ⟨G5_5, by decide, by decide⟩ ⟨G5_len, by decide⟩)
end Go.Proofs.YtgjclegpnbjlkaaGreatDoor

set_option linter.all false
namespace Go.Proofs.YtgjclegpnbjlkaaGreatDoor
set_option maxHeartbeats 8000000
set_option maxRecDepth 100000
open Go.RowKit
theorem builtM5 : Tryz.prog.built 35 [(0, .int .i64 5), (2, .int .i64 2), (10, .int .i64 5)] = some (msC m5) := by kernel_rfl
theorem load_gb {ops : Array Oper} {rest : List Oper} {op : Oper} {a : Act} {w : World} {Q : Exit → Act → World → Prop} {b : Nat} {T : TypeId} (hB : Blk w b (msC m5) T) (x : Operand) (hw : Region.wanted op (yielded ops a.tmps) = true) (ho : op.op = .load 35 x) (hx : a.eval x = .pointer (some ⟨b, 0, none⟩))
   (h : wpList Tryz.prog ops Q rest (a.put op.dst (.agg (msC m5))) w) : wpList Tryz.prog ops Q (op :: rest) a w :=
 load_gm hw 35 x ho b 0 hx (msL m5) (fun j v hv => by rw [Nat.zero_add]; exact ms_at hB j v hv) Tryz.underlying35 rfl (by rw [msL_len]; exact msInfoW) h
theorem it_49 : ItA 49 (strOfNums [52] ++ strOfNums [57]) := ⟨by decide, fun W => by
 have q := Itoa_small 49 (by decide) W
 rw [show (⟨(Lib.decDigits 49).toArray⟩ : ByteArray) = strOfNums [52] ++ strOfNums [57] from by kernel_rfl] at q
 exact q⟩
theorem it_d (y : Nat) (hy : y < 10) (h : (⟨(Lib.decDigits y).toArray⟩ : ByteArray) = strOfNums [48 + (y : Int)]) (h1 : (strOfNums [48 + (y : Int)]).size ≤ 1000) : ItA y (strOfNums [48 + (y : Int)]) := ⟨h1, fun W => by
 have q := Itoa_small y (by omega) W
 rw [h] at q
 exact q⟩
theorem it_3 : ItA 3 (strOfNums [48 + ((3 : Nat) : Int)]) := it_d 3 (by decide) (by kernel_rfl) (by decide)
theorem works_s (w : World) (hG : Gl w) : Calls Tryz.prog 13 #[] w fun e w' => e = .returned (.bool true) ∧ Chg w w' [] := by
 have HG : Hid (Gl w) := hG
 clear hG
 go_enter Tryz.func13, Tryz.ntmps13
 go_wp2_with (first
   | (refine wpList_load_row rfl 35 _ rfl mb rfl 35 _ (0, 0) _ BM2 Tryz.underlying35 rfl (by rw [msC_size]; exact msInfoW) ?_)
   | (refine store_w BM rfl 35 _ _ (msC m5) rfl rfl rfl (by rw [msC_size]; exact msInfoW) (by rw [msC_size, msC_size]) (ms_oneC _ rfl rfl) ?_; intro w2 BM2 k2)
   | (with_reducible refine alloc_w rfl 35 rfl (.agg (msC (ms0 0))) zeroMsg (msC (ms0 0)) rfl ?_; intro mb w1 hmb BM k1)
   | (with_reducible refine wpList_buildW ?_ 35 _ ?_ (msC m5) ?_ ?_
      · rfl
      · rfl
      · exact builtM5
      skip))
 have K2 : Chg w w2 [] := k1.new k2 hmb
 clear BM k1 k2
 refine (Encode_5 w2 (HG.out.chg K2 (by simp) (by simp))).mono ?_
 rintro e w3 ⟨v3, rfl, O3, k3⟩
 have S3 := O3.sl
 obtain ⟨g, o, c, rfl, hc, hc2, B3⟩ : ∃ g o c, v3 = .slice (some ⟨g, o, none⟩) 50 c ∧ 50 ≤ c ∧ c ≤ 9223372036854775807 ∧ Bs w3 g o 50 G5 := by
   rcases S3 with ⟨h, _⟩ | h
   · omega
   · exact h
 have HC : Hid (50 ≤ c ∧ c ≤ 9223372036854775807) := ⟨hc, hc2⟩
 have BM3 := BM2.chg k3 (by simp)
 have K3 := K2.trans1 k3
 have hcI : (49 : Int) ≤ (c : Int) := by omega
 clear O3 S3 hc hc2 BM2 K2 k3 hmb
 go_wp2_with fail
 refine (Decode_5 g o c HC.out.1 HC.out.2 w3 (HG.out.chg K3 (by simp) (by simp)) B3).mono ?_
 rintro e w4 ⟨rfl, k4⟩
 have BM4 := BM3.chg k4 (by simp)
 have B4 := B3.chg k4 (by simp)
 have K4 := K3.trans1 k4
 clear BM3 B3 K3 k4
 go_wp2_with (first
   | (refine store_w BX rfl 35 _ _ (msC m5) rfl rfl rfl (by rw [msC_size]; exact msInfoW) (by rw [msC_size, msC_size]) (ms_oneC _ rfl rfl) ?_; intro w6 BX6 k6)
   | (with_reducible refine alloc_w rfl 35 rfl (.agg (msC (ms0 0))) zeroMsg (msC (ms0 0)) rfl ?_; intro xb w5 hxb BX k5))
 have HX : Hid (w.heap.size ≤ xb) := by have := K4.size; show w.heap.size ≤ xb; omega
 have K6 : Chg w w6 [] := (K4.trans1 k5).new k6 HX.out
 have C46 : Chg w4 w6 [] := k5.new k6 hxb
 have BM6 := BM4.chg C46 (by simp)
 have B6 := B4.chg C46 (by simp)
 clear BM4 B4 K4 C46 k5 k6 BX hxb
 refine (Decode_49 g o c HC.out.1 HC.out.2 w6 B6).mono ?_
 rintro e w7 ⟨fv, rfl, ⟨gf, rfl, hgf, BF⟩, k7⟩
 have BM7 := BM6.chg k7 (by simp)
 have BX7 := BX6.chg k7 (by simp)
 have K7 := K6.trans1 k7
 clear BM6 B6 K6 k7 BX6
 go_wp2_with (first
   | (refine store_w BY rfl 35 _ _ (msC (ms0 0)) rfl rfl rfl (by rw [msC_size]; exact msInfoW) rfl (ms_oneC _ rfl rfl) ?_; intro w9 BY9 k9)
   | (with_reducible refine alloc_w rfl 35 rfl (.agg (msC (ms0 0))) zeroMsg (msC (ms0 0)) rfl ?_; intro yb w8 hyb BY k8)
   | (refine load_gb (BX7.chg (k8.new k9 hyb) (by simp)) (.tmp 4) (by rfl) rfl rfl ?_)
   | (refine load_gb (BM7.chg (k8.new k9 hyb) (by simp)) (.tmp 1) (by rfl) rfl rfl ?_))
 have C79 : Chg w7 w9 [] := k8.new k9 hyb
 have BF9 := BF.chg C79 (by simp)
 have K9 := K7.trans1 C79
 refine (SameMsg_5 w9).mono ?_
 rintro e w10 ⟨rfl, k10⟩
 have BF10 := BF9.chg k10 (by simp)
 have K10 := K9.trans1 k10
 clear BM7 BX7 BF K7 BY BY9 k8 k9 C79 BF9 K9 k10 hyb
 go_wp2_with fail
 refine (fault_s gf sFrame (strOfNums [52] ++ strOfNums [57]) (strOfNums [48 + ((3 : Nat) : Int)]) 49 3 (by decide) it_49 it_3 (fun W => dec_49 W) (fun W => none_frame 49 3 W) w10 BF10).mono ?_
 rintro e w11 ⟨rfl, k11⟩
 go_wp2_with fail
 go_ret
 exact ⟨rfl, K10.trans1 k11⟩
end Go.Proofs.YtgjclegpnbjlkaaGreatDoor
