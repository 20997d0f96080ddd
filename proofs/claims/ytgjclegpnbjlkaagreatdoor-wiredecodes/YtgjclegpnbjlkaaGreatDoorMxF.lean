/- Joined: W50t, W51. -/
import Derived.Test.YtgjclegpnbjlkaaGreatDoorMwK
import Derived.Deep.DeepCutAuto
import Derived.Test.YtgjclegpnbjlkaaGreatDoorMwI
import Derived.Test.YtgjclegpnbjlkaaGreatDoorMwS
set_option linter.all false
namespace Go.Proofs.YtgjclegpnbjlkaaGreatDoor
set_option maxHeartbeats 40000000
set_option maxRecDepth 100000
open Go.RowKit
def eqM (m : Ms) (N : Nat) (d : Nat → Int) (h b : Nat → Nat → Nat) (M : Nat) (ft : Nat → Nat) (m' : Ms) (N' : Nat) (d' : Nat → Int) (h' b' : Nat → Nat → Nat) (M' : Nat) (ft' : Nat → Nat) : Bool :=
 (m.kind == m'.kind) && (eqnW 32 m.ses m'.ses) && (m.fr == m'.fr) && (m.to == m'.to) && (eqCm m.id m.hid m.bnd m'.id m'.hid m'.bnd) && (eqCl N d h b N' d' h' b') && (eqB M ft M' ft') && (eqnW 32 m.bind m'.bind) && (eqnW 32 m.share m'.share) && (eqnW 64 m.sig m'.sig) && (m.code == m'.code)
theorem hsI (f : Nat → Nat) : (Tryz.prog.info? 24).map (·.size) = some (yL 32 f).length := by rw [yL_len]; exact hashInfoW
theorem scI (f : Nat → Nat) : (Tryz.prog.info? 30).map (·.size) = some (yL 32 f).length := by rw [yL_len]; exact scInfoW
theorem sgI (f : Nat → Nat) : (Tryz.prog.info? 32).map (·.size) = some (yL 64 f).length := by rw [yL_len]; exact sigInfoW
theorem cmI (d : Int) (h b : Nat → Nat) : (Tryz.prog.info? 27).map (·.size) = some (cmL d h b).length := by rw [cmL_len]; exact cmtInfo
theorem ms_F {w : World} {g : Nat} {m : Ms} {T : TypeId} (B : Blk w g (msC m) T) : (w.rangeAt g 1 (yL 32 m.ses) ∧ w.rangeAt g 35 (cmL m.id m.hid m.bnd) ∧ w.rangeAt g 102 (yL 32 m.bind) ∧ w.rangeAt g 134 (yL 32 m.share) ∧ w.rangeAt g 166 (yL 64 m.sig)) ∧
   w.cell? ⟨g, 0, none⟩ = some (.int .i64 m.kind) ∧ w.cell? ⟨g, 33, none⟩ = some (.int .i64 m.fr) ∧ w.cell? ⟨g, 34, none⟩ = some (.int .i64 m.to) ∧ w.cell? ⟨g, 100, none⟩ = some m.list ∧ w.cell? ⟨g, 101, none⟩ = some m.text ∧ w.cell? ⟨g, 230, none⟩ = some (.int .i64 m.code) :=
 ⟨⟨ms_rses B, ms_rpair B, ms_rbind B, ms_rshare B, ms_rsig B⟩, ms_at B 0 _ (ms_kind _), ms_at B 33 _ (ms_fr _), ms_at B 34 _ (ms_to _), ms_at B 100 _ (ms_list _), ms_at B 101 _ (ms_text _), ms_at B 230 _ (ms_code _)⟩
theorem Zb.chg {w w' : World} {v : Value} {n : Nat} {f : Nat → Nat} (h : Zb w v n f) (hc : Chg w w' []) : Zb w' v n f := by
 obtain ⟨p, c, h1, h2, h3, h4⟩ := h
 exact ⟨p, c, h1, h2, h3, fun h0 => by obtain ⟨g, o, e, B⟩ := h4 h0; exact ⟨g, o, e, B.chg hc (by simp)⟩⟩
theorem eqM_iff (m : Ms) (N : Nat) (d : Nat → Int) (h b : Nat → Nat → Nat) (M : Nat) (ft : Nat → Nat) (m' : Ms) (N' : Nat) (d' : Nat → Int) (h' b' : Nat → Nat → Nat) (M' : Nat) (ft' : Nat → Nat) : eqM m N d h b M ft m' N' d' h' b' M' ft' = true ↔ (m.kind == m'.kind) = true ∧ (eqnW 32 m.ses m'.ses) = true ∧ (m.fr == m'.fr) = true ∧ (m.to == m'.to) = true ∧ (eqCm m.id m.hid m.bnd m'.id m'.hid m'.bnd) = true ∧ (eqCl N d h b N' d' h' b') = true ∧ (eqB M ft M' ft') = true ∧ (eqnW 32 m.bind m'.bind) = true ∧ (eqnW 32 m.share m'.share) = true ∧ (eqnW 64 m.sig m'.sig) = true ∧ (m.code == m'.code) = true := by
 unfold eqM
 simp only [Bool.and_eq_true, and_assoc]
theorem SameMsg_t (m : Ms) (N : Nat) (d : Nat → Int) (h b : Nat → Nat → Nat) (M : Nat) (ft : Nat → Nat) (m' : Ms) (N' : Nat) (d' : Nat → Int) (h' b' : Nat → Nat → Nat) (M' : Nat) (ft' : Nat → Nat) (w : World) (hL : Cl w m.list N d h b) (hT : Zb w m.text M ft) (hL' : Cl w m'.list N' d' h' b') (hT' : Zb w m'.text M' ft') (hY : eqM m N d h b M ft m' N' d' h' b' M' ft' = true) :
   Calls Tryz.prog 19 #[.agg (msC m), .agg (msC m')] w fun e w' => e = .returned (.bool true) ∧ Chg w w' [] := by
 have h1 := eq_hashW
 have h2 := eq_scW
 have h3 := eq_sigW
 have h4 := eq_cmW
 have h5 := cmtGuard
 obtain ⟨E0, E1, E2, E3, E4, E5, E6, E7, E8, E9, E10⟩ := (eqM_iff m N d h b M ft m' N' d' h' b' M' ft').1 hY
 clear hY
 have HCL : Hid (∀ W, Chg w W [] → Calls Tryz.prog 52 #[m.list, m'.list] W fun e w' => e = .returned (.bool (eqCl N d h b N' d' h' b')) ∧ Chg W w' []) := fun W k => SameCommitments_w m.list N d h b m'.list N' d' h' b' W (hL.chg k) (hL'.chg k)
 have HCT : Hid (∀ W, Chg w W [] → Calls Tryz.prog 10 #[m.text, m'.text] W fun e w' => e = .returned (.bool (eqB M ft M' ft')) ∧ Chg W w' []) := fun W k => SameBytes_w m.text M ft m'.text M' ft' W (hT.chg k) (hT'.chg k)
 clear hL hT hL' hT'
 go_enter Tryz.func19, Tryz.ntmps19
 obtain ⟨C, hC⟩ : ∃ C, msC m = C := ⟨_, rfl⟩
 obtain ⟨C', hC'⟩ : ∃ C', msC m' = C' := ⟨_, rfl⟩
 rw [hC, hC']
 go_upto_region 1 with (first
   | (have _h := BA; refine box_w rfl 35 _ rfl C' rfl ?_; intro bb w2 hbb BB k2
      have BA2 := BA.chg k2 (by simp)
      have K2 := k1.trans1 k2
      rw [← hC] at BA2
      rw [← hC'] at BB
      obtain ⟨⟨rA1, rA2, rA3, rA4, rA5⟩, a0, a33, a34, a100, a101, a230⟩ := ms_F BA2
      obtain ⟨⟨rB1, rB2, rB3, rB4, rB5⟩, b0, b33, b34, b100, b101, b230⟩ := ms_F BB)
   | (refine box_w rfl 35 _ rfl C rfl ?_; intro ab w1 hab BA k1))
 refine wp_region_lit ?_
 clear BA
 have e0 := eq_of_beq E0
 rw [← e0] at b0
 clear e0 E0
 refine wpList_step (fun K hK => ?_); rw [if_pos (by rfl)]; go_simp; refine hK _ _ ?_; clear hK K
 refine wpList_step (fun K hK => ?_); rw [if_pos (by rfl)]; go_simp; refine hK _ _ ?_; clear hK K
 refine wpList_step (fun K hK => ?_); rw [if_pos (by rfl)]; go_simp; refine hK _ _ ?_; clear hK K
 refine wpList_step (fun K hK => ?_); rw [if_pos (by rfl)]; go_simp; refine hK _ _ ?_; clear hK K
 refine wpList_step (fun K hK => ?_); rw [if_pos (by rfl)]; go_simp; refine hK _ _ ?_; clear hK K
 refine wpList_step (fun K hK => ?_); rw [if_pos (by rfl)]; go_simp; refine hK _ _ ?_; clear hK K
 have ee := E1
 refine wpList_step (fun K hK => ?_); rw [if_pos (by rfl)]; go_simp; refine hK _ _ ?_; clear hK K
 refine load_gm (by rfl) 24 (.tmp 11) rfl ab 1 rfl (yL 32 m.ses) rA1 Tryz.underlying24 rfl (hsI _) ?_
 try simp only [Act.put, sA]
 refine wpList_step (fun K hK => ?_); rw [if_pos (by rfl)]; go_simp; refine hK _ _ ?_; clear hK K
 refine load_gm (by rfl) 24 (.tmp 13) rfl bb 1 rfl (yL 32 m'.ses) rB1 Tryz.underlying24 rfl (hsI _) ?_
 try simp only [Act.put, sA]
 refine wpList_step (fun K hK => ?_); rw [if_pos (by rfl)]; go_simp; refine hK _ _ ?_; clear hK K
 refine wpList_step (fun K hK => ?_); rw [if_pos (by rfl)]; go_simp; refine hK _ _ ?_; clear hK K
 refine wpList_step (fun K hK => ?_); rw [if_pos (by rfl)]; go_simp; refine hK _ _ ?_; clear hK K
 clear ee E1
 have e2 := eq_of_beq E2
 rw [← e2] at b33
 clear e2 E2
 refine wpList_step (fun K hK => ?_); rw [if_pos (by rfl)]; go_simp; refine hK _ _ ?_; clear hK K
 refine wpList_step (fun K hK => ?_); rw [if_pos (by rfl)]; go_simp; refine hK _ _ ?_; clear hK K
 refine wpList_step (fun K hK => ?_); rw [if_pos (by rfl)]; go_simp; refine hK _ _ ?_; clear hK K
 refine wpList_step (fun K hK => ?_); rw [if_pos (by rfl)]; go_simp; refine hK _ _ ?_; clear hK K
 refine wpList_step (fun K hK => ?_); rw [if_pos (by rfl)]; go_simp; refine hK _ _ ?_; clear hK K
 refine wpList_step (fun K hK => ?_); rw [if_pos (by rfl)]; go_simp; refine hK _ _ ?_; clear hK K
 refine wpList_step (fun K hK => ?_); rw [if_pos (by rfl)]; go_simp; refine hK _ _ ?_; clear hK K
 have e3 := eq_of_beq E3
 rw [← e3] at b34
 clear e3 E3
 refine wpList_step (fun K hK => ?_); rw [if_pos (by rfl)]; go_simp; refine hK _ _ ?_; clear hK K
 refine wpList_step (fun K hK => ?_); rw [if_pos (by rfl)]; go_simp; refine hK _ _ ?_; clear hK K
 refine wpList_step (fun K hK => ?_); rw [if_pos (by rfl)]; go_simp; refine hK _ _ ?_; clear hK K
 refine wpList_step (fun K hK => ?_); rw [if_pos (by rfl)]; go_simp; refine hK _ _ ?_; clear hK K
 refine wpList_step (fun K hK => ?_); rw [if_pos (by rfl)]; go_simp; refine hK _ _ ?_; clear hK K
 refine wpList_step (fun K hK => ?_); rw [if_pos (by rfl)]; go_simp; refine hK _ _ ?_; clear hK K
 refine wpList_step (fun K hK => ?_); rw [if_pos (by rfl)]; go_simp; refine hK _ _ ?_; clear hK K
 have ee := E4
 refine wpList_step (fun K hK => ?_); rw [if_pos (by rfl)]; go_simp; refine hK _ _ ?_; clear hK K
 refine load_gm (by rfl) 27 (.tmp 32) rfl ab 35 rfl (cmL m.id m.hid m.bnd) rA2 Tryz.underlying27 rfl (cmI _ _ _) ?_
 try simp only [Act.put, sA]
 refine wpList_step (fun K hK => ?_); rw [if_pos (by rfl)]; go_simp; refine hK _ _ ?_; clear hK K
 refine load_gm (by rfl) 27 (.tmp 34) rfl bb 35 rfl (cmL m'.id m'.hid m'.bnd) rB2 Tryz.underlying27 rfl (cmI _ _ _) ?_
 try simp only [Act.put, sA]
 refine wpList_step (fun K hK => ?_); rw [if_pos (by rfl)]; go_simp; refine hK _ _ ?_; clear hK K
 refine wpList_step (fun K hK => ?_); rw [if_pos (by rfl)]; go_simp; refine hK _ _ ?_; clear hK K
 refine wpList_step (fun K hK => ?_); rw [if_pos (by rfl)]; go_simp; refine hK _ _ ?_; clear hK K
 clear ee E4
 have ee := E5
 refine wpList_step (fun K hK => ?_); rw [if_pos (by rfl)]; go_simp; refine hK _ _ ?_; clear hK K
 refine wpList_step (fun K hK => ?_); rw [if_pos (by rfl)]; go_simp; refine hK _ _ ?_; clear hK K
 refine wpList_step (fun K hK => ?_); rw [if_pos (by rfl)]; go_simp; refine hK _ _ ?_; clear hK K
 refine wpList_step (fun K hK => ?_); rw [if_pos (by rfl)]; go_simp; refine hK _ _ ?_; clear hK K
 refine wpList_step (fun K hK => ?_)
 rw [if_pos (by rfl)]
 go_simp
 refine (HCL.out w2 K2).mono ?_
 rintro e w3 ⟨rfl, k3⟩
 try rw [ee]
 clear rA1 rA2 rA3 rA4 rA5 rB1 rB2 rB3 rB4 rB5 a0 a33 a34 a100 a101 a230 b0 b33 b34 b100 b101 b230
 have BA3 := BA2.chg k3 (by simp)
 have BB3 := BB.chg k3 (by simp)
 have K3 := K2.trans1 k3
 clear BA2 BB k3
 obtain ⟨⟨rA1, rA2, rA3, rA4, rA5⟩, a0, a33, a34, a100, a101, a230⟩ := ms_F BA3
 obtain ⟨⟨rB1, rB2, rB3, rB4, rB5⟩, b0, b33, b34, b100, b101, b230⟩ := ms_F BB3
 go_simp
 refine hK _ _ ?_
 clear hK K
 refine wpList_step (fun K hK => ?_); rw [if_pos (by rfl)]; go_simp; refine hK _ _ ?_; clear hK K
 refine wpList_step (fun K hK => ?_); rw [if_pos (by rfl)]; go_simp; refine hK _ _ ?_; clear hK K
 clear ee E5
 have ee := E6
 refine wpList_step (fun K hK => ?_); rw [if_pos (by rfl)]; go_simp; refine hK _ _ ?_; clear hK K
 refine wpList_step (fun K hK => ?_); rw [if_pos (by rfl)]; go_simp; refine hK _ _ ?_; clear hK K
 refine wpList_step (fun K hK => ?_); rw [if_pos (by rfl)]; go_simp; refine hK _ _ ?_; clear hK K
 refine wpList_step (fun K hK => ?_); rw [if_pos (by rfl)]; go_simp; refine hK _ _ ?_; clear hK K
 refine wpList_step (fun K hK => ?_)
 rw [if_pos (by rfl)]
 go_simp
 refine (HCT.out w3 K3).mono ?_
 rintro e w4 ⟨rfl, k4⟩
 try rw [ee]
 clear rA1 rA2 rA3 rA4 rA5 rB1 rB2 rB3 rB4 rB5 a0 a33 a34 a100 a101 a230 b0 b33 b34 b100 b101 b230
 have BA4 := BA3.chg k4 (by simp)
 have BB4 := BB3.chg k4 (by simp)
 have K4 := K3.trans1 k4
 clear BA3 BB3 k4
 obtain ⟨⟨rA1, rA2, rA3, rA4, rA5⟩, a0, a33, a34, a100, a101, a230⟩ := ms_F BA4
 obtain ⟨⟨rB1, rB2, rB3, rB4, rB5⟩, b0, b33, b34, b100, b101, b230⟩ := ms_F BB4
 go_simp
 refine hK _ _ ?_
 clear hK K
 refine wpList_step (fun K hK => ?_); rw [if_pos (by rfl)]; go_simp; refine hK _ _ ?_; clear hK K
 refine wpList_step (fun K hK => ?_); rw [if_pos (by rfl)]; go_simp; refine hK _ _ ?_; clear hK K
 clear ee E6
 have ee := E7
 refine wpList_step (fun K hK => ?_); rw [if_pos (by rfl)]; go_simp; refine hK _ _ ?_; clear hK K
 refine load_gm (by rfl) 24 (.tmp 53) rfl ab 102 rfl (yL 32 m.bind) rA3 Tryz.underlying24 rfl (hsI _) ?_
 try simp only [Act.put, sA]
 refine wpList_step (fun K hK => ?_); rw [if_pos (by rfl)]; go_simp; refine hK _ _ ?_; clear hK K
 refine load_gm (by rfl) 24 (.tmp 55) rfl bb 102 rfl (yL 32 m'.bind) rB3 Tryz.underlying24 rfl (hsI _) ?_
 try simp only [Act.put, sA]
 refine wpList_step (fun K hK => ?_); rw [if_pos (by rfl)]; go_simp; refine hK _ _ ?_; clear hK K
 refine wpList_step (fun K hK => ?_); rw [if_pos (by rfl)]; go_simp; refine hK _ _ ?_; clear hK K
 refine wpList_step (fun K hK => ?_); rw [if_pos (by rfl)]; go_simp; refine hK _ _ ?_; clear hK K
 clear ee E7
 have ee := E8
 refine wpList_step (fun K hK => ?_); rw [if_pos (by rfl)]; go_simp; refine hK _ _ ?_; clear hK K
 refine load_gm (by rfl) 30 (.tmp 60) rfl ab 134 rfl (yL 32 m.share) rA4 Tryz.underlying30 rfl (scI _) ?_
 try simp only [Act.put, sA]
 refine wpList_step (fun K hK => ?_); rw [if_pos (by rfl)]; go_simp; refine hK _ _ ?_; clear hK K
 refine load_gm (by rfl) 30 (.tmp 62) rfl bb 134 rfl (yL 32 m'.share) rB4 Tryz.underlying30 rfl (scI _) ?_
 try simp only [Act.put, sA]
 refine wpList_step (fun K hK => ?_); rw [if_pos (by rfl)]; go_simp; refine hK _ _ ?_; clear hK K
 refine wpList_step (fun K hK => ?_); rw [if_pos (by rfl)]; go_simp; refine hK _ _ ?_; clear hK K
 refine wpList_step (fun K hK => ?_); rw [if_pos (by rfl)]; go_simp; refine hK _ _ ?_; clear hK K
 clear ee E8
 have ee := E9
 refine wpList_step (fun K hK => ?_); rw [if_pos (by rfl)]; go_simp; refine hK _ _ ?_; clear hK K
 refine load_gm (by rfl) 32 (.tmp 67) rfl ab 166 rfl (yL 64 m.sig) rA5 Tryz.underlying32 rfl (sgI _) ?_
 try simp only [Act.put, sA]
 refine wpList_step (fun K hK => ?_); rw [if_pos (by rfl)]; go_simp; refine hK _ _ ?_; clear hK K
 refine load_gm (by rfl) 32 (.tmp 69) rfl bb 166 rfl (yL 64 m'.sig) rB5 Tryz.underlying32 rfl (sgI _) ?_
 try simp only [Act.put, sA]
 refine wpList_step (fun K hK => ?_); rw [if_pos (by rfl)]; go_simp; refine hK _ _ ?_; clear hK K
 refine wpList_step (fun K hK => ?_); rw [if_pos (by rfl)]; go_simp; refine hK _ _ ?_; clear hK K
 refine wpList_step (fun K hK => ?_); rw [if_pos (by rfl)]; go_simp; refine hK _ _ ?_; clear hK K
 clear ee E9
 have e10 := eq_of_beq E10
 rw [← e10] at b230
 clear e10 E10
 refine wpList_step (fun K hK => ?_); rw [if_pos (by rfl)]; go_simp; refine hK _ _ ?_; clear hK K
 refine wpList_step (fun K hK => ?_); rw [if_pos (by rfl)]; go_simp; refine hK _ _ ?_; clear hK K
 refine wpList_step (fun K hK => ?_); rw [if_pos (by rfl)]; go_simp; refine hK _ _ ?_; clear hK K
 refine wpList_step (fun K hK => ?_); rw [if_pos (by rfl)]; go_simp; refine hK _ _ ?_; clear hK K
 refine wpList_step (fun K hK => ?_); rw [if_pos (by rfl)]; go_simp; refine hK _ _ ?_; clear hK K
 refine wpList_step (fun K hK => ?_); rw [if_pos (by rfl)]; go_simp; refine hK _ _ ?_; clear hK K
 refine wpList_step (fun K hK => ?_); rw [if_pos (by rfl)]; go_simp; refine hK _ _ ?_; clear hK K
 refine wpList_nil ?_
 go_wp2_with fail
 go_ret
 exact ⟨rfl, K4⟩
end Go.Proofs.YtgjclegpnbjlkaaGreatDoor

set_option linter.all false
namespace Go.Proofs.YtgjclegpnbjlkaaGreatDoor
set_option maxHeartbeats 4000000
set_option maxRecDepth 100000
open Go.RowKit
def s0E : ByteArray := ⟨#[]⟩
def zRF : Array Value := #[.string s0E, .int .i64 0, .int .i64 0]
theorem zeroRF2 : (Tryz.prog.info? 59).bind (·.zero) = some (.agg zRF) := by kernel_rfl
theorem ftC_one (s : ByteArray) (a y : Nat) : (ftC s a y).all (·.oneCell') = true := all_oneCell_toArray (fun v hv => by
 simp only [List.mem_cons, List.not_mem_nil, or_false] at hv
 rcases hv with rfl | rfl | rfl <;> rfl)
theorem s0E_nil : s0E.toList = [] := by kernel_rfl
theorem ne_s0 {s : ByteArray} (h : s.data.toList ≠ []) : s.toList ≠ s0E.toList := by rw [ByteArray.toList_eq, ByteArray.toList_eq]; exact h
theorem None_f (s : ByteArray) (a y : Nat) (hs : s.toList ≠ s0E.toList) (w : World) : Calls Tryz.prog 35 #[.agg (ftC s a y)] w fun e w' => e = .returned (.bool false) ∧ Chg w w' [] := by
 have hb : s.toList.isEmpty = false := List.isEmpty_eq_false_iff.2 (fun q => hs (q.trans s0E_nil.symm))
 go_enter Tryz.func35, Tryz.ntmps35
 go_wp2_with (refine box_w rfl 59 _ rfl (ftC s a y) rfl ?_; intro g w1 hg B k1; have c0 := B.cell 0; simp only [ftC] at c0)
 go_ret
 exact ⟨rfl, k1⟩
theorem None_0 (a y : Nat) (w : World) : Calls Tryz.prog 35 #[.agg (ftC s0E a y)] w fun e w' => e = .returned (.bool true) ∧ Chg w w' [] := by
 have hb : s0E.toList.isEmpty = true := by rw [s0E_nil]; rfl
 go_enter Tryz.func35, Tryz.ntmps35
 go_wp2_with (refine box_w rfl 59 _ rfl (ftC s0E a y) rfl ?_; intro g w1 hg B k1; have c0 := B.cell 0; simp only [ftC] at c0)
 go_ret
 exact ⟨rfl, k1⟩
end Go.Proofs.YtgjclegpnbjlkaaGreatDoor
