import Derived.Test.YtgjclegpnbjlkaaGreatDoorWBoW
import Derived.Test.YtgjclegpnbjlkaaGreatDoorMxE
set_option linter.all false
namespace Go.Proofs.YtgjclegpnbjlkaaGreatDoor
set_option maxHeartbeats 16000000
set_option maxRecDepth 100000
open Go.RowKit
theorem zeroGi : (Tryz.prog.info? 52).bind (·.zero) = some (.agg (giC (.slice none 0 0) (.slice none 0 0))) := by kernel_rfl
def DOut (n : Nat) (F : Nat → Nat) (MC : Array Value) (fv : Value) (w : World) : Prop :=
 (∃ s a y g, FrP n F s a y ∧ MC = msC (ms0 0) ∧ fv = .iface 106 (.pointer (some ⟨g, 0, none⟩)) ∧ Blk w g (ftC s a y) 109) ∨ (∃ B M, MC = msC M ∧ fv = .nilIface ∧ FrR n F B M w)
def ROut (n : Nat) (F : Nat → Nat) (MD FC : Array Value) (w : World) : Prop :=
 (∃ s a y, FrP n F s a y ∧ MD = msC (ms0 0) ∧ FC = ftC s a y) ∨ (∃ B M, MD = msC M ∧ FC = ftC s0E 0 0 ∧ FrR n F B M w)
theorem DOut.chg {n : Nat} {F : Nat → Nat} {MC : Array Value} {fv : Value} {w w' : World} (h : DOut n F MC fv w) (k : Chg w w' []) : DOut n F MC fv w' := by
 rcases h with ⟨s, a, y, g, h1, h2, h3, h4⟩ | ⟨B, M, h1, h2, h3⟩
 · exact Or.inl ⟨s, a, y, g, h1, h2, h3, h4.chg k (by simp)⟩
 · exact Or.inr ⟨B, M, h1, h2, h3.chg k⟩
theorem ROut.chg {n : Nat} {F : Nat → Nat} {MD FC : Array Value} {w w' : World} (h : ROut n F MD FC w) (k : Chg w w' []) : ROut n F MD FC w' := by
 rcases h with h | ⟨B, M, h1, h2, h3⟩
 · exact Or.inl h
 · exact Or.inr ⟨B, M, h1, h2, h3.chg k⟩
theorem ft_one (s : ByteArray) (a y : Nat) : (ftC s a y).size = 3 ∧ (ftC s a y).all (·.oneCell') = true := ⟨rfl, ftC_one _ _ _⟩
theorem ms_one0 {M : Ms} (h : M.list.oneCell' = true ∧ M.text.oneCell' = true) : (msC M).size = 231 ∧ (msC M).all (·.oneCell') = true := ⟨msC_size _, ms_oneC _ h.1 h.2⟩
theorem Decode_o (v : Value) (n : Nat) (F : Nat → Nat) (w : World) (hG : Gl w) (hS : Sl w v n F) : Calls Tryz.prog 15 #[v] w fun e w' => ∃ MC fv, e = .returned (.tuple #[.agg MC, fv]) ∧ (MC.size = 231 ∧ MC.all (·.oneCell') = true) ∧ DOut n F MC fv w' ∧ Chg w w' [] :=
 (Decode_x v n F w hG hS).mono fun e w' q => by
   rcases q with ⟨⟨s, a, y, h1, fv, rfl, g, rfl, _, h2⟩ | ⟨B, M, _, rfl, h1⟩, k⟩
   · exact ⟨_, _, rfl, ms_one0 ⟨rfl, rfl⟩, Or.inl ⟨s, a, y, g, h1, rfl, rfl, h2⟩, k⟩
   · exact ⟨_, _, rfl, ms_one0 h1.one, Or.inr ⟨B, M, rfl, rfl, h1⟩, k⟩
theorem RDec_o (v : Value) (n : Nat) (F : Nat → Nat) (w : World) (hS : Sl w v n F) : Calls Tryz.prog 16 #[v] w fun e w' => ∃ MD FC, e = .returned (.tuple #[.agg MD, .agg FC]) ∧ (MD.size = 231 ∧ MD.all (·.oneCell') = true) ∧ (FC.size = 3 ∧ FC.all (·.oneCell') = true) ∧ ROut n F MD FC w' ∧ Chg w w' [] :=
 (RDec v n F w hS).mono fun e w' q => by
   rcases q with ⟨⟨s, a, y, h1, rfl⟩ | ⟨B, M, _, rfl, h0, h1⟩, k⟩
   · exact ⟨_, _, rfl, ms_one0 ⟨rfl, rfl⟩, ft_one _ _ _, Or.inl ⟨s, a, y, h1, rfl, rfl⟩, k⟩
   · exact ⟨_, _, rfl, ms_one0 h0, ft_one _ _ _, Or.inr ⟨B, M, rfl, rfl, h1⟩, k⟩
theorem both_msg {n : Nat} {F : Nat → Nat} (hF : ∀ i, F i < 256) {MC MD FC : Array Value} {fv : Value} {w : World} (h : DOut n F MC fv w) (h' : ROut n F MD FC w) :
   Calls Tryz.prog 19 #[.agg MC, .agg MD] w fun e w' => e = .returned (.bool true) ∧ Chg w w' [] := by
 rcases h with ⟨s, a, y, g, h1, rfl, _, _⟩ | ⟨B, M, rfl, _, h1⟩
 · rcases h' with ⟨_, _, _, _, rfl, _⟩ | ⟨B', M', _, _, h2⟩
   · exact Same0 w
   · exact absurd h1 h2.noP
 · rcases h' with ⟨_, _, _, h2, _, _⟩ | ⟨B', M', rfl, _, h2⟩
   · exact absurd h2 h1.noP
   · exact Same_fr w hF h1 h2
theorem both_flt {n : Nat} {F : Nat → Nat} (hn : n ≤ 140737488355328) {MC MD FC : Array Value} {fv : Value} {w0 w : World} (hP : Pw w0) (k : Chg w0 w []) (h : DOut n F MC fv w) (h' : ROut n F MD FC w) :
   Calls Tryz.prog 11 #[fv, .agg FC] w fun e w' => e = .returned (.bool true) ∧ Chg w w' [] := by
 rcases h with ⟨s, a, y, g, h1, _, rfl, hB⟩ | ⟨B, M, _, rfl, h1⟩
 · rcases h' with ⟨s', a', y', h2, _, rfl⟩ | ⟨B', M', _, _, h2⟩
   · obtain ⟨rfl, rfl, rfl⟩ := h1.det h2
     have q := h1.le
     exact fault_any w0 hP g s a y q.1 q.2.1 (by have := q.2.2.1; omega) (by have := q.2.2.2; omega) w k hB
   · exact absurd h1 h2.noP
 · rcases h' with ⟨_, _, _, h2, _, _⟩ | ⟨B', M', _, rfl, _⟩
   · exact absurd h2 h1.noP
   · exact fault_nil 0 0 w
def POut (n : Nat) (F : Nat → Nat) (k z : Nat) (fv : Value) (w : World) : Prop :=
 (¬ HdG n F ∧ ∃ s a y g, HdP n F s a y ∧ k = 0 ∧ z = 0 ∧ fv = .iface 106 (.pointer (some ⟨g, 0, none⟩)) ∧ Blk w g (ftC s a y) 109) ∨ (HdG n F ∧ k = F 5 ∧ z = 14 + nm F 6 4 ∧ fv = .nilIface)
def PRut (n : Nat) (F : Nat → Nat) (k z : Nat) (FC : Array Value) : Prop :=
 (∃ s a y, HdP n F s a y ∧ k = 0 ∧ z = 0 ∧ FC = ftC s a y) ∨ (HdG n F ∧ k = F 5 ∧ z = 14 + nm F 6 4 ∧ FC = ftC s0E 0 0)
theorem POut.chg {n : Nat} {F : Nat → Nat} {k z : Nat} {fv : Value} {w w' : World} (h : POut n F k z fv w) (q : Chg w w' []) : POut n F k z fv w' := by
 rcases h with ⟨h0, s, a, y, g, h1, h2, h3, h4, h5⟩ | h
 · exact Or.inl ⟨h0, s, a, y, g, h1, h2, h3, h4, h5.chg q (by simp)⟩
 · exact Or.inr h
theorem Peek_o (v : Value) (n : Nat) (F : Nat → Nat) (w : World) (hS : Sl w v n F) : Calls Tryz.prog 17 #[v] w fun e w' => ∃ k z fv, e = .returned (.tuple #[.int .i64 ((k : Nat) : Int), .int .i64 ((z : Nat) : Int), fv]) ∧ POut n F k z fv w' ∧ Chg w w' [] :=
 (Peek_x v n F w hS).mono fun e w' q => by
   rcases q with ⟨⟨h0, s, a, y, h1, fv, rfl, g, rfl, _, h2⟩ | ⟨h0, rfl⟩, k⟩
   · exact ⟨0, 0, _, rfl, Or.inl ⟨h0, s, a, y, g, h1, rfl, rfl, rfl, h2⟩, k⟩
   · exact ⟨_, _, _, rfl, Or.inr ⟨h0, rfl, rfl, rfl⟩, k⟩
theorem RPeek_o (v : Value) (n : Nat) (F : Nat → Nat) (w : World) (hS : Sl w v n F) : Calls Tryz.prog 18 #[v] w fun e w' => ∃ k z FC, e = .returned (.tuple #[.int .i64 ((k : Nat) : Int), .int .i64 ((z : Nat) : Int), .agg FC]) ∧ (FC.size = 3 ∧ FC.all (·.oneCell') = true) ∧ PRut n F k z FC ∧ Chg w w' [] :=
 (Peek_r v n F w hS).mono fun e w' q => by
   rcases q with ⟨⟨s, a, y, h1, rfl⟩ | ⟨h1, rfl⟩, k⟩
   · exact ⟨0, 0, _, rfl, ft_one _ _ _, Or.inl ⟨s, a, y, h1, rfl, rfl, rfl⟩, k⟩
   · exact ⟨_, _, _, rfl, ft_one _ _ _, Or.inr ⟨h1, rfl, rfl, rfl⟩, k⟩
theorem both_pk {n : Nat} {F : Nat → Nat} {k z k' z' : Nat} {fv : Value} {FC : Array Value} {w : World} (h : POut n F k z fv w) (h' : PRut n F k' z' FC) : k = k' ∧ z = z' := by
 rcases h with ⟨h0, s, a, y, g, h1, rfl, rfl, _⟩ | ⟨h0, rfl, rfl, _⟩
 · rcases h' with ⟨_, _, _, _, rfl, rfl, _⟩ | ⟨h2, _⟩
   · exact ⟨rfl, rfl⟩
   · exact absurd h2 h0
 · rcases h' with ⟨_, _, _, h2, _⟩ | ⟨_, rfl, rfl, _⟩
   · exact absurd h2 h0.noP
   · exact ⟨rfl, rfl⟩
theorem both_pf {n : Nat} {F : Nat → Nat} (hn : n ≤ 140737488355328) {k z k' z' : Nat} {fv : Value} {FC : Array Value} {w0 w : World} (hP : Pw w0) (q : Chg w0 w []) (h : POut n F k z fv w) (h' : PRut n F k' z' FC) :
   Calls Tryz.prog 11 #[fv, .agg FC] w fun e w' => e = .returned (.bool true) ∧ Chg w w' [] := by
 rcases h with ⟨h0, s, a, y, g, h1, _, _, rfl, hB⟩ | ⟨h0, _, _, rfl⟩
 · rcases h' with ⟨s', a', y', h2, _, _, rfl⟩ | ⟨h2, _⟩
   · obtain ⟨rfl, rfl, rfl⟩ := h1.det h2
     have p := h1.le
     exact fault_any w0 hP g s a y p.1 p.2.1 (by have := p.2.2.1; omega) (by have := p.2.2.2; omega) w q hB
   · exact absurd h2 h0
 · rcases h' with ⟨_, _, _, h2, _⟩ | ⟨_, _, _, rfl⟩
   · exact absurd h2 h0.noP
   · exact fault_nil 0 0 w
theorem decodes_walk (v : Value) (n : Nat) (f : Nat → Nat) (hn : n ≤ 140737488351232) (w : World) (hG : Gl w) (hP : Pw w) (hS0 : Sl w v n f) :
   Calls Tryz.prog 4 #[v] w fun e w' => e = .returned (.bool true) ∧ Chg w w' [] := by
 have HWK : Hid (∀ W, Chg w W [] → Calls Tryz.prog 13 #[] W fun e w' => e = .returned (.bool true) ∧ Chg W w' []) := fun W k => works_s W (hG.chg k (by simp) (by simp))
 have HGL : Hid (Gl w) := hG
 have HP : Hid (Pw w) := hP
 obtain ⟨F, hF⟩ : ∃ F, clF n f = F := ⟨_, rfl⟩
 have hcl := hS0.clip
 rw [hF] at hcl
 obtain ⟨p, c, rfl⟩ := slFm hcl.1
 have HS : Hid (∀ W, Chg w W [] → Sl W (.slice p n c) n F) := fun W k => hcl.1.chg k (by simp [Off])
 have H256 : Hid (∀ i, F i < 256) := hcl.2
 have HN : Hid (n ≤ 140737488351232) := hn
 clear hG hP hS0 hF hcl hn
 go_enter Tryz.func4, Tryz.ntmps4
 go_wp2_with (with_reducible refine alloc_w rfl 52 rfl (.agg (giC (.slice none 0 0) (.slice none 0 0))) zeroGi (giC (.slice none 0 0) (.slice none 0 0)) rfl ?_; intro gb w1 hgb BG k1)
 have HGB : Hid (w.heap.size ≤ gb) := hgb
 refine (givenBytes_e gb n _ F w1 (by have := HN.out; omega) (HS.out w1 k1) BG).mono ?_
 rintro e w2 ⟨o, rfl, hB, GIw, k2⟩
 have K2 : Chg w w2 [] := k1.new k2 HGB.out
 have HGI : Hid (∀ W, Chg w2 W [] → GI W gb w1.heap.size w2.heap.size) := fun W k => GIw.chg0 k
 have HU : Hid (∀ W, Chg w2 W [] → Sl W (.slice (some ⟨o, 0, none⟩) n (n + 3)) n F) := fun W k => Or.inr ⟨o, 0, n + 3, rfl, by omega, by have := HN.out; omega, hB.chg k (by simp)⟩
 clear BG k1 hgb hB GIw k2
 go_wp2_with fail
 refine (Decode_o _ n F w2 (HGL.out.chg K2 (by simp) (by simp)) (HU.out w2 (Chg.refl _ _))).mono ?_
 rintro e w3 ⟨MC, fv, rfl, hMS, hD, k3⟩
 have HMS : Hid (MC.size = 231 ∧ MC.all (·.oneCell') = true) := hMS
 have HD3 : Hid (DOut n F MC fv w3) := hD
 have C3 : Chg w2 w3 [] := k3
 have HK2 : Hid (Chg w w2 []) := K2
 clear hMS hD k3 K2
 go_wp2_with (first
   | (refine store_w B4 rfl 35 _ _ MC rfl rfl rfl (by rw [HMS.out.1]; exact msInfoW) (by rw [HMS.out.1]; exact msC_size _) HMS.out.2 ?_; intro w5 BX k5)
   | (with_reducible refine alloc_w rfl 35 rfl (.agg (msC (ms0 0))) zeroMsg (msC (ms0 0)) rfl ?_; intro xb w4 hxb B4 k4))
 have k35 := k4.new k5 hxb
 have HD5 : Hid (DOut n F MC fv w5) := HD3.out.chg k35
 have C5 := C3.trans1 k35
 clear C3 k4 k5 k35 hxb B4 HD3
 refine (RDec_o _ n F w5 (HS.out w5 (HK2.out.trans1 C5))).mono ?_
 rintro e w6 ⟨MD, FC, rfl, hDS, hFS, hR, k6⟩
 have HDS : Hid (MD.size = 231 ∧ MD.all (·.oneCell') = true) := hDS
 have HFS : Hid (FC.size = 3 ∧ FC.all (·.oneCell') = true) := hFS
 have HD6 : Hid (DOut n F MC fv w6) := HD5.out.chg k6
 have HR6 : Hid (ROut n F MD FC w6) := hR
 have BX6 := BX.chg k6 (by simp)
 have C6 := C5.trans1 k6
 clear hDS hFS hR k6 BX C5 HD5
 go_wp2_with (first
   | (refine store_w B9 rfl 59 _ _ FC rfl rfl rfl (by rw [HFS.out.1]; exact rFltInfo) (by rw [HFS.out.1]; rfl) HFS.out.2 ?_; intro w10 BG k10)
   | (refine store_w B7x rfl 35 _ _ MD rfl rfl rfl (by rw [HDS.out.1]; exact msInfoW) (by rw [HDS.out.1]; exact msC_size _) HDS.out.2 ?_; intro w9 BY k9; have B9 := B8.chg k9 (by have := B7.lt; simp; omega))
   | (with_reducible refine alloc_w rfl 59 rfl (.agg zRF) zeroRF2 zRF rfl ?_; intro fb w8 hfb B8 k8; have B7x := B7.chg k8 (by simp))
   | (with_reducible refine alloc_w rfl 35 rfl (.agg (msC (ms0 0))) zeroMsg (msC (ms0 0)) rfl ?_; intro yb w7 hyb B7 k7))
 have k610 : Chg w6 w10 [] := ((k7.trans1 k8).new k9 hyb).new k10 (by have := k7.size; omega)
 have HDA : Hid (DOut n F MC fv w10) := HD6.out.chg k610
 have HRA : Hid (ROut n F MD FC w10) := HR6.out.chg k610
 have BXA := BX6.chg k610 (by simp)
 have BYA := BY.chg k10 (by have := B7.lt; simp; omega)
 have CA := C6.trans1 k610
 clear k7 k8 k9 k10 k610 BX6 BY B7 B7x B8 B9 C6 hyb hfb HD6 HR6
 refine (Peek_o _ n F w10 (HU.out w10 CA)).mono ?_
 rintro e w11 ⟨pk, pz, pv, rfl, hPO, k11⟩
 have HPO : Hid (POut n F pk pz pv w11) := hPO
 have HDB : Hid (DOut n F MC fv w11) := HDA.out.chg k11
 have HRB : Hid (ROut n F MD FC w11) := HRA.out.chg k11
 have BXB := BXA.chg k11 (by simp)
 have BYB := BYA.chg k11 (by simp)
 have BGB := BG.chg k11 (by simp)
 have CB := CA.trans1 k11
 clear hPO k11 BXA BYA BG CA HDA HRA
 go_wp2_with fail
 refine (RPeek_o _ n F w11 (HS.out w11 (HK2.out.trans1 CB))).mono ?_
 rintro e w12 ⟨rk, rz, FP, rfl, hFP, hPR, k12⟩
 obtain ⟨rfl, rfl⟩ := both_pk (HPO.out.chg k12) hPR
 have HFP : Hid (FP.size = 3 ∧ FP.all (·.oneCell') = true) := hFP
 have HPR : Hid (PRut n F pk pz FP) := hPR
 have HPC : Hid (POut n F pk pz pv w12) := HPO.out.chg k12
 have HDC : Hid (DOut n F MC fv w12) := HDB.out.chg k12
 have HRC : Hid (ROut n F MD FC w12) := HRB.out.chg k12
 have BXC := BXB.chg k12 (by simp)
 have BYC := BYB.chg k12 (by simp)
 have BGC := BGB.chg k12 (by simp)
 have CC := CB.trans1 k12
 clear hFP hPR k12 BXB BYB BGB CB HDB HRB HPO
 go_wp2_with (first
   | (refine store_w Bd rfl 59 _ _ FP rfl rfl rfl (by rw [HFP.out.1]; exact rFltInfo) (by rw [HFP.out.1]; rfl) HFP.out.2 ?_; intro w14 BP k14
      have k124 : Chg w12 w14 [] := k13.new k14 hpb
      have BXD := BXC.chg k124 (by simp)
      have BYD := BYC.chg k124 (by simp))
   | (with_reducible refine alloc_w rfl 59 rfl (.agg zRF) zeroRF2 zRF rfl ?_; intro pb w13 hpb Bd k13)
   | (refine wpList_load_row rfl 35 _ rfl xb rfl 35 _ (0, 0) _ BXD Tryz.underlying35 rfl (by rw [HMS.out.1]; exact msInfoW) ?_)
   | (refine wpList_load_row rfl 35 _ rfl yb rfl 35 _ (0, 0) _ BYD Tryz.underlying35 rfl (by rw [HDS.out.1]; exact msInfoW) ?_))
 have BGD := BGC.chg k124 (by simp)
 have CD := CC.trans1 k124
 have HDD : Hid (DOut n F MC fv w14) := HDC.out.chg k124
 have HRD : Hid (ROut n F MD FC w14) := HRC.out.chg k124
 have HPD : Hid (POut n F pk pz pv w14) := HPC.out.chg k124
 clear k13 k14 k124 Bd hpb BXC BYC BGC BXD BYD CC HDC HRC HPC
 refine (both_msg H256.out HDD.out HRD.out).mono ?_
 rintro e w15 ⟨rfl, k15⟩
 have BGE := BGD.chg k15 (by simp)
 have BPE := BP.chg k15 (by simp)
 have CE := CD.trans1 k15
 have HDE : Hid (DOut n F MC fv w15) := HDD.out.chg k15
 have HRE : Hid (ROut n F MD FC w15) := HRD.out.chg k15
 have HPE : Hid (POut n F pk pz pv w15) := HPD.out.chg k15
 clear k15 BGD BP CD HDD HRD HPD
 go_wp2_with (refine load_rowg rfl _ rfl fb rfl _ BGE HFS.out.1 ?_)
 refine (both_flt (by have := HN.out; omega) HP.out (HK2.out.trans1 CE) HDE.out HRE.out).mono ?_
 rintro e w16 ⟨rfl, k16⟩
 have BPF := BPE.chg k16 (by simp)
 have CF := CE.trans1 k16
 have HPF : Hid (POut n F pk pz pv w16) := HPE.out.chg k16
 clear k16 BGE BPE CE HDE HRE HPE
 go_wp2_with (refine load_rowg rfl _ rfl pb rfl _ BPF HFP.out.1 ?_)
 refine (both_pf (by have := HN.out; omega) HP.out (HK2.out.trans1 CF) HPF.out HPR.out).mono ?_
 rintro e w17 ⟨rfl, k17⟩
 have CG := CF.trans1 k17
 clear k17 BPF CF HPF
 go_wp2_with fail
 refine (HGI.out w17 CG).intact.mono ?_
 rintro e w18 ⟨rfl, k18⟩
 have CH := CG.trans1 k18
 clear CG k18
 go_wp2_with fail
 refine (HWK.out w18 (HK2.out.trans1 CH)).mono ?_
 rintro e w19 ⟨rfl, k19⟩
 have CI := CH.trans1 k19
 go_wp2_with fail
 go_ret
 exact ⟨rfl, HK2.out.trans1 CI⟩
end Go.Proofs.YtgjclegpnbjlkaaGreatDoor
