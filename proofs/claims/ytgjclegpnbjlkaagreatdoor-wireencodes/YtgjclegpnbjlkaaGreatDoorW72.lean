/- rimeref10.Encode of a message that may be. -/
import Derived.Test.YtgjclegpnbjlkaaGreatDoorMwM
import Derived.Test.YtgjclegpnbjlkaaGreatDoorW51
import Derived.Test.YtgjclegpnbjlkaaGreatDoorMwY
import Derived.Test.YtgjclegpnbjlkaaGreatDoorW54
set_option linter.unusedVariables false
set_option linter.unusedSimpArgs false
set_option linter.unnecessarySimpa false
namespace Go.Proofs.YtgjclegpnbjlkaaGreatDoor
open Go.RowKit

theorem results_tcW {P : Program} {fn : Func} {p q : Tmp} {ty : TypeId} (h : fn.results = #[.tmp q, .cell p ty]) (tmps : Array Value) (w : World) (g : Nat) (t : TypeId) (cs : Array Value) (d : TypeDesc) (v : Value)
    (hp : tmps.getD p undef = .pointer (some ⟨g, 0, none⟩)) (hq : tmps.getD q undef = v) (hg : w.heap[g]? = some (.cells cs t (0, 0)))
    (hu : P.underlying ty = some d) (hd : (match d with | .struct _ | .array _ _ => true | _ => false) = true) (hi : (P.info? ty).map (·.size) = some cs.size) :
    (results fn tmps).run P w = .ok (.tuple #[v, .agg cs]) w := by
  have hp' : tmps[p]?.getD undef = .pointer (some ⟨g, 0, none⟩) := by simpa using hp
  have hq' : tmps[q]?.getD undef = v := by simpa using hq
  simp [results, h, hp', hq', asAddr, run_loadVar_row w g t ty cs (0, 0) d hg hu hd hi]
theorem SumC.chg {w w' : World} (h : SumC w) (k : Chg w w' []) : SumC w' := fun W v M u h1 k1 S => h W v M u h1 (k.trans1 k1) S
theorem builtRF : Tryz.prog.built 59 [] = some (ftC s0E 0 0) := by kernel_rfl
set_option maxHeartbeats 6000000 in
set_option maxRecDepth 100000 in
theorem REnc_1 (m : Ms) (N : Nat) (d : Nat → Int) (h b : Nat → Nat → Nat) (M : Nat) (ft : Nat → Nat) (k : m.kind = 1) (hg : EnG m N d M) (hm : MsB m) (w : World) (hS : SumC w) (hL : Cl w m.list N d h b) (hT : Sl w m.text M ft) :
    Calls Tryz.prog 9 #[.agg (msC m)] w fun e w' => ∃ v, e = .returned (.tuple #[v, .agg (ftC s0E 0 0)]) ∧ Own w' w.heap.size v (4 + 2 + 4 + enN m N M + 4) (frB m.kind.toNat (enN m N M) (enF m N d h b M ft)) ∧ Chg w w' [] := by
  have HK : Hid (m.kind = 1) := k
  have HX : Hid (EnG m N d M ∧ MsB m) := ⟨hg, hm⟩
  have g2 := hg.2.1
  have g3 := hg.2.2.1
  unfold okPt at g2 g3
  have ef : IntKind.u8.wrap m.fr = m.fr := by rw [u8_conv]; omega
  have et : IntKind.u8.wrap m.to = m.to := by rw [u8_conv]; omega
  have HP : Hid ((0 ≤ m.fr ∧ m.fr ≤ 255) ∧ 0 ≤ m.to ∧ m.to ≤ 255) := ⟨g2, g3⟩
  have HC : Hid (∀ W, Chg w W [] → Calls Tryz.prog 34 #[.agg (msC m)] W fun e w' => e = .returned (.agg (ftC s0E 0 0)) ∧ Chg W w' []) := fun W q => (Check_r m N d h b M ft W (hL.chg q) (hT.chg q (by simp [Off]))).mono fun e w' q => by
    obtain ⟨s, a, y, rfl, hc, kk⟩ := q
    rcases hc with ⟨_, rfl, rfl, rfl⟩ | hc
    · exact ⟨rfl, kk⟩
    · exact absurd hg hc.no
  have HF : Hid (∀ W v n f, n < 4294967296 → Chg w W [] → Sl W v n f → Calls Tryz.prog 20 #[.int .i64 1, v] W fun e w' => ∃ u, e = .returned u ∧ Own w' W.heap.size u (4 + 2 + 4 + n + 4) (frB 1 n f) ∧ Chg W w' []) := fun W v n f hn q S => Framed_r 1 n f v (by omega) hn W (hS.chg q) S
  have HT1 : Hid (¬ (35 : TypeId) = 5) := by show ¬ (35 : TypeId) = 5; decide
  have HT2 : Hid (¬ (59 : TypeId) = 5) := by show ¬ (59 : TypeId) = 5; decide
  clear k hg hm hS hL hT g2 g3
  go_enter Tryz.func9, Tryz.ntmps9
  go_wp2_with (first
    | (have _h := BM; with_reducible refine alloc_w rfl 59 rfl (.agg zRF) zeroRF2 zRF rfl ?_; intro rb w2 hrb BR k2; have BM2 := BM.chg k2 (by simp))
    | (refine box_w rfl 35 _ rfl (msC m) rfl ?_; intro mb w1 hmb BM k1)
    | (refine wpList_load_row rfl 35 _ rfl mb rfl 35 _ (0, 0) _ BM2 Tryz.underlying35 rfl (by rw [msC_size]; exact msInfoW) ?_))
  have K2 := k1.trans1 k2
  have HRB : Hid (w.heap.size ≤ rb) := by have := k1.size; show w.heap.size ≤ rb; omega
  clear BM k1 k2 hmb hrb
  refine (HC.out w2 K2).mono ?_
  rintro e w3 ⟨rfl, k3⟩
  have BM3 := BM2.chg k3 (by simp)
  have BR3 := BR.chg k3 (by simp)
  have K3 := K2.trans1 k3
  clear BM2 BR K2 k3
  go_wp2_with (first
    | (refine wpList_load_row rfl 59 _ rfl cb rfl 59 _ (0, 0) _ BC5 Tryz.underlying59 rfl rFltInfo ?_)
    | (refine store_w BC rfl 59 _ _ (ftC s0E 0 0) rfl rfl rfl (by exact rFltInfo) (by rfl) (ftC_one _ _ _) ?_; intro w5 BC5 k5)
    | (with_reducible refine alloc_w rfl 59 rfl (.agg zRF) zeroRF2 zRF rfl ?_; intro cb w4 hcb BC k4))
  have k35 : Chg w3 w5 [] := k4.new k5 hcb
  have BM5 := BM3.chg k35 (by simp)
  have BR5 := BR3.chg k35 (by simp)
  have K5 := K3.trans1 k35
  clear BM3 BR3 K3 k4 k5 k35 hcb BC
  refine (None_0 0 0 w5).mono ?_
  rintro e w6 ⟨rfl, k6⟩
  have BM6 := BM5.chg k6 (by simp)
  have BR6 := BR5.chg k6 (by simp)
  have K6 := K5.trans1 k6
  have S0 := (ms_ses BM6 HX.out.2.1).sl 32 (by omega) (by omega)
  clear BM5 BR5 K5 k6 BC5
  have c0 := ms_at BM6 0 _ (ms_kind m)
  go_wp2_with (first
    | (with_reducible refine append_y ?_ (.tmp 13) (.tmp 15) ?_ w.heap.size (.slice none 0 0) _ 0 32 (fun _ => 0) m.ses ?_ ?_ (Own.nil w6 w.heap.size (fun _ => 0)) S0 ?_ ?_ ?_
       · rfl
       · rfl
       · rfl
       · rfl
       · omega
       · exact K6.size
       intro v1 u1 O1 q1
       have O1' : Own u1 w.heap.size v1 32 m.ses := by have := O1; rw [cat_0u] at this; exact this
       have L1 : Chg w u1 [] := (Own.nil w6 w.heap.size (fun _ => 0)).chgs K6 q1 (Nat.le_refl _)
       have M1 := BM6.chg q1 (by simp [ob, Value.ownBlock]); have R1 := BR6.chg q1 (by simp [ob, Value.ownBlock])
       have c33 := ms_at M1 33 _ (ms_fr m); have c34 := ms_at M1 34 _ (ms_to m)
       have A1 : Chg u1 (u1.alloc (.cells #[.int .u8 m.fr, .int .u8 m.to] 5)) [] := (Chg.refl _ _).alloc _
       have O1a := O1'.far A1 (fun y hy => by simp at hy); have L1a := L1.trans1 A1; have M1a := M1.chg A1 (by simp); have R1a := R1.chg A1 (by simp)
       have S1 := sl_ft (Blk.new u1 _ _) HP.out)
    | (with_reducible refine append_y ?_ (.tmp 17) (.tmp 24) ?_ w.heap.size v1 _ 32 2 m.ses (ftB m.fr.toNat m.to.toNat) ?_ ?_ O1a S1 ?_ ?_ ?_
       · rfl
       · rfl
       · rfl
       · rfl
       · omega
       · exact L1a.size
       intro v2 u2 O2 q2
       have O2' : Own u2 w.heap.size v2 34 (hdB m) := O2
       have L2 := O1a.chgs L1a q2 (Nat.le_refl _)
       have M2 := M1a.chg q2 (O1a.nt M1a HT1.out); have R2 := R1a.chg q2 (O1a.nt R1a HT2.out)
       have c0b := ms_at M2 0 _ (ms_kind m); rw [HK.out] at c0b))
  refine (HF.out _ v2 (34) (hdB m) (by omega) L2 O2'.sl).mono ?_
  rintro e z1 ⟨vf, rfl, OF, kf⟩
  have LF := L2.trans1 kf
  have RF := R2.chg kf (by simp)
  have OF2 := OF.base L2.size
  have HOF : Hid (Own z1 u2.heap.size vf (4 + 2 + 4 + (34) + 4) (frB 1 (34) (hdB m))) := OF
  have HLT : Hid (rb < u2.heap.size ∧ w.heap.size ≤ u2.heap.size) := ⟨R2.lt, L2.size⟩
  obtain ⟨pf, cf, rfl⟩ := slFm OF.sl
  clear OF OF2
  go_wp2_with (refine store_w RF rfl 59 _ _ (ftC s0E 0 0) rfl rfl rfl (by exact rFltInfo) (by rfl) (ftC_one _ _ _) ?_; intro z2 RF2 kz)
  refine bodyPost_ret (results_tcW Tryz.results9 _ _ rb 59 (ftC s0E 0 0) _ _ rfl rfl RF2 Tryz.underlying59 rfl (by exact rFltInfo)) rfl ⟨_, rfl, ?_, LF.new kz HRB.out⟩
  have km := HK.out
  have e1 : enN m N M = 34 := by unfold enN; rw [if_pos km]
  have e2 : enF m N d h b M ft = hdB m := by unfold enF; rw [if_pos km]
  rw [e1, e2, km]
  exact (HOF.out.far kz (fun y hy => by simp at hy; subst hy; exact HLT.out.1)).base HLT.out.2
set_option maxHeartbeats 6000000 in
set_option maxRecDepth 100000 in
theorem REnc_2 (m : Ms) (N : Nat) (d : Nat → Int) (h b : Nat → Nat → Nat) (M : Nat) (ft : Nat → Nat) (k : m.kind = 2) (hg : EnG m N d M) (hm : MsB m) (w : World) (hS : SumC w) (hL : Cl w m.list N d h b) (hT : Sl w m.text M ft) :
    Calls Tryz.prog 9 #[.agg (msC m)] w fun e w' => ∃ v, e = .returned (.tuple #[v, .agg (ftC s0E 0 0)]) ∧ Own w' w.heap.size v (4 + 2 + 4 + enN m N M + 4) (frB m.kind.toNat (enN m N M) (enF m N d h b M ft)) ∧ Chg w w' [] := by
  have HK : Hid (m.kind = 2) := k
  have HX : Hid (EnG m N d M ∧ MsB m) := ⟨hg, hm⟩
  have g2 := hg.2.1
  have g3 := hg.2.2.1
  unfold okPt at g2 g3
  have ef : IntKind.u8.wrap m.fr = m.fr := by rw [u8_conv]; omega
  have et : IntKind.u8.wrap m.to = m.to := by rw [u8_conv]; omega
  have HP : Hid ((0 ≤ m.fr ∧ m.fr ≤ 255) ∧ 0 ≤ m.to ∧ m.to ≤ 255) := ⟨g2, g3⟩
  have HC : Hid (∀ W, Chg w W [] → Calls Tryz.prog 34 #[.agg (msC m)] W fun e w' => e = .returned (.agg (ftC s0E 0 0)) ∧ Chg W w' []) := fun W q => (Check_r m N d h b M ft W (hL.chg q) (hT.chg q (by simp [Off]))).mono fun e w' q => by
    obtain ⟨s, a, y, rfl, hc, kk⟩ := q
    rcases hc with ⟨_, rfl, rfl, rfl⟩ | hc
    · exact ⟨rfl, kk⟩
    · exact absurd hg hc.no
  have HF : Hid (∀ W v n f, n < 4294967296 → Chg w W [] → Sl W v n f → Calls Tryz.prog 20 #[.int .i64 2, v] W fun e w' => ∃ u, e = .returned u ∧ Own w' W.heap.size u (4 + 2 + 4 + n + 4) (frB 2 n f) ∧ Chg W w' []) := fun W v n f hn q S => Framed_r 2 n f v (by omega) hn W (hS.chg q) S
  have HT1 : Hid (¬ (35 : TypeId) = 5) := by show ¬ (35 : TypeId) = 5; decide
  have HT2 : Hid (¬ (59 : TypeId) = 5) := by show ¬ (59 : TypeId) = 5; decide
  have HPR : Hid (∀ W, Calls Tryz.prog 36 #[.agg (cmC m.id m.hid m.bnd)] W fun e w' => ∃ v, e = .returned v ∧ Own w' W.heap.size v 65 (cmB m.id.toNat m.hid m.bnd) ∧ Chg W w' []) := fun W => pair_r m.id m.hid m.bnd (by have := hg.2.2.2.1 (by omega); unfold okID at this; omega) hm.2.1 hm.2.2.1 W
  clear k hg hm hS hL hT g2 g3
  go_enter Tryz.func9, Tryz.ntmps9
  go_wp2_with (first
    | (have _h := BM; with_reducible refine alloc_w rfl 59 rfl (.agg zRF) zeroRF2 zRF rfl ?_; intro rb w2 hrb BR k2; have BM2 := BM.chg k2 (by simp))
    | (refine box_w rfl 35 _ rfl (msC m) rfl ?_; intro mb w1 hmb BM k1)
    | (refine wpList_load_row rfl 35 _ rfl mb rfl 35 _ (0, 0) _ BM2 Tryz.underlying35 rfl (by rw [msC_size]; exact msInfoW) ?_))
  have K2 := k1.trans1 k2
  have HRB : Hid (w.heap.size ≤ rb) := by have := k1.size; show w.heap.size ≤ rb; omega
  clear BM k1 k2 hmb hrb
  refine (HC.out w2 K2).mono ?_
  rintro e w3 ⟨rfl, k3⟩
  have BM3 := BM2.chg k3 (by simp)
  have BR3 := BR.chg k3 (by simp)
  have K3 := K2.trans1 k3
  clear BM2 BR K2 k3
  go_wp2_with (first
    | (refine wpList_load_row rfl 59 _ rfl cb rfl 59 _ (0, 0) _ BC5 Tryz.underlying59 rfl rFltInfo ?_)
    | (refine store_w BC rfl 59 _ _ (ftC s0E 0 0) rfl rfl rfl (by exact rFltInfo) (by rfl) (ftC_one _ _ _) ?_; intro w5 BC5 k5)
    | (with_reducible refine alloc_w rfl 59 rfl (.agg zRF) zeroRF2 zRF rfl ?_; intro cb w4 hcb BC k4))
  have k35 : Chg w3 w5 [] := k4.new k5 hcb
  have BM5 := BM3.chg k35 (by simp)
  have BR5 := BR3.chg k35 (by simp)
  have K5 := K3.trans1 k35
  clear BM3 BR3 K3 k4 k5 k35 hcb BC
  refine (None_0 0 0 w5).mono ?_
  rintro e w6 ⟨rfl, k6⟩
  have BM6 := BM5.chg k6 (by simp)
  have BR6 := BR5.chg k6 (by simp)
  have K6 := K5.trans1 k6
  have S0 := (ms_ses BM6 HX.out.2.1).sl 32 (by omega) (by omega)
  clear BM5 BR5 K5 k6 BC5
  have c0 := ms_at BM6 0 _ (ms_kind m)
  go_wp2_with (first
    | (with_reducible refine append_y ?_ (.tmp 13) (.tmp 15) ?_ w.heap.size (.slice none 0 0) _ 0 32 (fun _ => 0) m.ses ?_ ?_ (Own.nil w6 w.heap.size (fun _ => 0)) S0 ?_ ?_ ?_
       · rfl
       · rfl
       · rfl
       · rfl
       · omega
       · exact K6.size
       intro v1 u1 O1 q1
       have O1' : Own u1 w.heap.size v1 32 m.ses := by have := O1; rw [cat_0u] at this; exact this
       have L1 : Chg w u1 [] := (Own.nil w6 w.heap.size (fun _ => 0)).chgs K6 q1 (Nat.le_refl _)
       have M1 := BM6.chg q1 (by simp [ob, Value.ownBlock]); have R1 := BR6.chg q1 (by simp [ob, Value.ownBlock])
       have c33 := ms_at M1 33 _ (ms_fr m); have c34 := ms_at M1 34 _ (ms_to m)
       have A1 : Chg u1 (u1.alloc (.cells #[.int .u8 m.fr, .int .u8 m.to] 5)) [] := (Chg.refl _ _).alloc _
       have O1a := O1'.far A1 (fun y hy => by simp at hy); have L1a := L1.trans1 A1; have M1a := M1.chg A1 (by simp); have R1a := R1.chg A1 (by simp)
       have S1 := sl_ft (Blk.new u1 _ _) HP.out)
    | (with_reducible refine append_y ?_ (.tmp 17) (.tmp 24) ?_ w.heap.size v1 _ 32 2 m.ses (ftB m.fr.toNat m.to.toNat) ?_ ?_ O1a S1 ?_ ?_ ?_
       · rfl
       · rfl
       · rfl
       · rfl
       · omega
       · exact L1a.size
       intro v2 u2 O2 q2
       have O2' : Own u2 w.heap.size v2 34 (hdB m) := O2
       have L2 := O1a.chgs L1a q2 (Nat.le_refl _)
       have M2 := M1a.chg q2 (O1a.nt M1a HT1.out); have R2 := R1a.chg q2 (O1a.nt R1a HT2.out)
       have c0b := ms_at M2 0 _ (ms_kind m); rw [HK.out] at c0b
       have rp := ms_rpair M2)
    | (refine wpList_load_mid rfl 27 _ rfl mb 35 rfl (cmL m.id m.hid m.bnd) _ rp Tryz.underlying27 rfl (cmI _ _ _) ?_))
  refine (HPR.out u2).mono ?_
  rintro e u3 ⟨vp, rfl, OP, kp⟩
  have O2x := O2'.far kp (fun y hy => by simp at hy)
  have L2x := L2.trans1 kp
  have M2x := M2.chg kp (by simp)
  have R2x := R2.chg kp (by simp)
  have SP := OP.sl
  go_wp2_with (first
    | (with_reducible refine append_y ?_ (.tmp 30) (.tmp 33) ?_ w.heap.size v2 _ 34 65 (hdB m) (cmB m.id.toNat m.hid m.bnd) ?_ ?_ O2x SP ?_ ?_ ?_
       · rfl
       · rfl
       · rfl
       · rfl
       · omega
       · exact L2x.size
       intro v3 u4 O3 q3
       have L3 := O2x.chgs L2x q3 (Nat.le_refl _)
       have M3 := M2x.chg q3 (O2x.nt M2x HT1.out); have R3 := R2x.chg q3 (O2x.nt R2x HT2.out)
       have c03 := ms_at M3 0 _ (ms_kind m); rw [HK.out] at c03))
  refine (HF.out _ v3 (34 + 65) (cat (hdB m) 34 (cmB m.id.toNat m.hid m.bnd)) (by omega) L3 O3.sl).mono ?_
  rintro e z1 ⟨vf, rfl, OF, kf⟩
  have LF := L3.trans1 kf
  have RF := R3.chg kf (by simp)
  have OF2 := OF.base L3.size
  have HOF : Hid (Own z1 u4.heap.size vf (4 + 2 + 4 + (34 + 65) + 4) (frB 2 (34 + 65) (cat (hdB m) 34 (cmB m.id.toNat m.hid m.bnd)))) := OF
  have HLT : Hid (rb < u4.heap.size ∧ w.heap.size ≤ u4.heap.size) := ⟨R3.lt, L3.size⟩
  obtain ⟨pf, cf, rfl⟩ := slFm OF.sl
  clear OF OF2
  go_wp2_with (refine store_w RF rfl 59 _ _ (ftC s0E 0 0) rfl rfl rfl (by exact rFltInfo) (by rfl) (ftC_one _ _ _) ?_; intro z2 RF2 kz)
  refine bodyPost_ret (results_tcW Tryz.results9 _ _ rb 59 (ftC s0E 0 0) _ _ rfl rfl RF2 Tryz.underlying59 rfl (by exact rFltInfo)) rfl ⟨_, rfl, ?_, LF.new kz HRB.out⟩
  have km := HK.out
  have e1 : enN m N M = 34 + 65 := by unfold enN; rw [if_neg (by omega), if_pos km]
  have e2 : enF m N d h b M ft = cat (hdB m) 34 (cmB m.id.toNat m.hid m.bnd) := by unfold enF; rw [if_neg (by omega), if_pos km]
  rw [e1, e2, km]
  exact (HOF.out.far kz (fun y hy => by simp at hy; subst hy; exact HLT.out.1)).base HLT.out.2
set_option maxHeartbeats 6000000 in
set_option maxRecDepth 100000 in
theorem REnc_4 (m : Ms) (N : Nat) (d : Nat → Int) (h b : Nat → Nat → Nat) (M : Nat) (ft : Nat → Nat) (k : m.kind = 4) (hg : EnG m N d M) (hm : MsB m) (w : World) (hS : SumC w) (hL : Cl w m.list N d h b) (hT : Sl w m.text M ft) :
    Calls Tryz.prog 9 #[.agg (msC m)] w fun e w' => ∃ v, e = .returned (.tuple #[v, .agg (ftC s0E 0 0)]) ∧ Own w' w.heap.size v (4 + 2 + 4 + enN m N M + 4) (frB m.kind.toNat (enN m N M) (enF m N d h b M ft)) ∧ Chg w w' [] := by
  have HK : Hid (m.kind = 4) := k
  have HX : Hid (EnG m N d M ∧ MsB m) := ⟨hg, hm⟩
  have g2 := hg.2.1
  have g3 := hg.2.2.1
  unfold okPt at g2 g3
  have ef : IntKind.u8.wrap m.fr = m.fr := by rw [u8_conv]; omega
  have et : IntKind.u8.wrap m.to = m.to := by rw [u8_conv]; omega
  have HP : Hid ((0 ≤ m.fr ∧ m.fr ≤ 255) ∧ 0 ≤ m.to ∧ m.to ≤ 255) := ⟨g2, g3⟩
  have HC : Hid (∀ W, Chg w W [] → Calls Tryz.prog 34 #[.agg (msC m)] W fun e w' => e = .returned (.agg (ftC s0E 0 0)) ∧ Chg W w' []) := fun W q => (Check_r m N d h b M ft W (hL.chg q) (hT.chg q (by simp [Off]))).mono fun e w' q => by
    obtain ⟨s, a, y, rfl, hc, kk⟩ := q
    rcases hc with ⟨_, rfl, rfl, rfl⟩ | hc
    · exact ⟨rfl, kk⟩
    · exact absurd hg hc.no
  have HF : Hid (∀ W v n f, n < 4294967296 → Chg w W [] → Sl W v n f → Calls Tryz.prog 20 #[.int .i64 4, v] W fun e w' => ∃ u, e = .returned u ∧ Own w' W.heap.size u (4 + 2 + 4 + n + 4) (frB 4 n f) ∧ Chg W w' []) := fun W v n f hn q S => Framed_r 4 n f v (by omega) hn W (hS.chg q) S
  have HT1 : Hid (¬ (35 : TypeId) = 5) := by show ¬ (35 : TypeId) = 5; decide
  have HT2 : Hid (¬ (59 : TypeId) = 5) := by show ¬ (59 : TypeId) = 5; decide
  have HPR : Hid (∀ W, Calls Tryz.prog 36 #[.agg (cmC m.id m.hid m.bnd)] W fun e w' => ∃ v, e = .returned v ∧ Own w' W.heap.size v 65 (cmB m.id.toNat m.hid m.bnd) ∧ Chg W w' []) := fun W => pair_r m.id m.hid m.bnd (by have := hg.2.2.2.1 (by omega); unfold okID at this; omega) hm.2.1 hm.2.2.1 W
  clear k hg hm hS hL hT g2 g3
  go_enter Tryz.func9, Tryz.ntmps9
  go_wp2_with (first
    | (have _h := BM; with_reducible refine alloc_w rfl 59 rfl (.agg zRF) zeroRF2 zRF rfl ?_; intro rb w2 hrb BR k2; have BM2 := BM.chg k2 (by simp))
    | (refine box_w rfl 35 _ rfl (msC m) rfl ?_; intro mb w1 hmb BM k1)
    | (refine wpList_load_row rfl 35 _ rfl mb rfl 35 _ (0, 0) _ BM2 Tryz.underlying35 rfl (by rw [msC_size]; exact msInfoW) ?_))
  have K2 := k1.trans1 k2
  have HRB : Hid (w.heap.size ≤ rb) := by have := k1.size; show w.heap.size ≤ rb; omega
  clear BM k1 k2 hmb hrb
  refine (HC.out w2 K2).mono ?_
  rintro e w3 ⟨rfl, k3⟩
  have BM3 := BM2.chg k3 (by simp)
  have BR3 := BR.chg k3 (by simp)
  have K3 := K2.trans1 k3
  clear BM2 BR K2 k3
  go_wp2_with (first
    | (refine wpList_load_row rfl 59 _ rfl cb rfl 59 _ (0, 0) _ BC5 Tryz.underlying59 rfl rFltInfo ?_)
    | (refine store_w BC rfl 59 _ _ (ftC s0E 0 0) rfl rfl rfl (by exact rFltInfo) (by rfl) (ftC_one _ _ _) ?_; intro w5 BC5 k5)
    | (with_reducible refine alloc_w rfl 59 rfl (.agg zRF) zeroRF2 zRF rfl ?_; intro cb w4 hcb BC k4))
  have k35 : Chg w3 w5 [] := k4.new k5 hcb
  have BM5 := BM3.chg k35 (by simp)
  have BR5 := BR3.chg k35 (by simp)
  have K5 := K3.trans1 k35
  clear BM3 BR3 K3 k4 k5 k35 hcb BC
  refine (None_0 0 0 w5).mono ?_
  rintro e w6 ⟨rfl, k6⟩
  have BM6 := BM5.chg k6 (by simp)
  have BR6 := BR5.chg k6 (by simp)
  have K6 := K5.trans1 k6
  have S0 := (ms_ses BM6 HX.out.2.1).sl 32 (by omega) (by omega)
  clear BM5 BR5 K5 k6 BC5
  have c0 := ms_at BM6 0 _ (ms_kind m)
  go_wp2_with (first
    | (with_reducible refine append_y ?_ (.tmp 13) (.tmp 15) ?_ w.heap.size (.slice none 0 0) _ 0 32 (fun _ => 0) m.ses ?_ ?_ (Own.nil w6 w.heap.size (fun _ => 0)) S0 ?_ ?_ ?_
       · rfl
       · rfl
       · rfl
       · rfl
       · omega
       · exact K6.size
       intro v1 u1 O1 q1
       have O1' : Own u1 w.heap.size v1 32 m.ses := by have := O1; rw [cat_0u] at this; exact this
       have L1 : Chg w u1 [] := (Own.nil w6 w.heap.size (fun _ => 0)).chgs K6 q1 (Nat.le_refl _)
       have M1 := BM6.chg q1 (by simp [ob, Value.ownBlock]); have R1 := BR6.chg q1 (by simp [ob, Value.ownBlock])
       have c33 := ms_at M1 33 _ (ms_fr m); have c34 := ms_at M1 34 _ (ms_to m)
       have A1 : Chg u1 (u1.alloc (.cells #[.int .u8 m.fr, .int .u8 m.to] 5)) [] := (Chg.refl _ _).alloc _
       have O1a := O1'.far A1 (fun y hy => by simp at hy); have L1a := L1.trans1 A1; have M1a := M1.chg A1 (by simp); have R1a := R1.chg A1 (by simp)
       have S1 := sl_ft (Blk.new u1 _ _) HP.out)
    | (with_reducible refine append_y ?_ (.tmp 17) (.tmp 24) ?_ w.heap.size v1 _ 32 2 m.ses (ftB m.fr.toNat m.to.toNat) ?_ ?_ O1a S1 ?_ ?_ ?_
       · rfl
       · rfl
       · rfl
       · rfl
       · omega
       · exact L1a.size
       intro v2 u2 O2 q2
       have O2' : Own u2 w.heap.size v2 34 (hdB m) := O2
       have L2 := O1a.chgs L1a q2 (Nat.le_refl _)
       have M2 := M1a.chg q2 (O1a.nt M1a HT1.out); have R2 := R1a.chg q2 (O1a.nt R1a HT2.out)
       have c0b := ms_at M2 0 _ (ms_kind m); rw [HK.out] at c0b
       have rp := ms_rpair M2)
    | (refine wpList_load_mid rfl 27 _ rfl mb 35 rfl (cmL m.id m.hid m.bnd) _ rp Tryz.underlying27 rfl (cmI _ _ _) ?_))
  refine (HPR.out u2).mono ?_
  rintro e u3 ⟨vp, rfl, OP, kp⟩
  have O2x := O2'.far kp (fun y hy => by simp at hy)
  have L2x := L2.trans1 kp
  have M2x := M2.chg kp (by simp)
  have R2x := R2.chg kp (by simp)
  have SP := OP.sl
  go_wp2_with (first
    | (with_reducible refine append_y ?_ (.tmp 71) (.tmp 74) ?_ w.heap.size v2 _ 34 65 (hdB m) (cmB m.id.toNat m.hid m.bnd) ?_ ?_ O2x SP ?_ ?_ ?_
       · rfl
       · rfl
       · rfl
       · rfl
       · omega
       · exact L2x.size
       intro v3 u4 O3 q3
       have L3 := O2x.chgs L2x q3 (Nat.le_refl _)
       have M3 := M2x.chg q3 (O2x.nt M2x HT1.out); have R3 := R2x.chg q3 (O2x.nt R2x HT2.out)
       have c03 := ms_at M3 0 _ (ms_kind m); rw [HK.out] at c03
       have O3x := O3; have L3x := L3; have M3x := M3; have R3x := R3
       have S3 := (ms_bind M3 HX.out.2.2.2.2.1).sl 32 (by omega) (by omega))
    | (with_reducible refine append_y ?_ (.tmp 76) (.tmp 78) ?_ w.heap.size v3 _ (34 + 65) 32 (cat (hdB m) 34 (cmB m.id.toNat m.hid m.bnd)) m.bind ?_ ?_ O3x S3 ?_ ?_ ?_
       · rfl
       · rfl
       · rfl
       · rfl
       · omega
       · exact L3x.size
       intro v4 u5 O4 q4
       have L4 := O3x.chgs L3x q4 (Nat.le_refl _)
       have M4 := M3x.chg q4 (O3x.nt M3x HT1.out); have R4 := R3x.chg q4 (O3x.nt R3x HT2.out)
       have c04 := ms_at M4 0 _ (ms_kind m); rw [HK.out] at c04
       have O4x := O4; have L4x := L4; have M4x := M4; have R4x := R4
       have S4 := (ms_share M4 HX.out.2.2.2.2.2.1).sl 32 (by omega) (by omega))
    | (with_reducible refine append_y ?_ (.tmp 80) (.tmp 82) ?_ w.heap.size v4 _ (34 + 65 + 32) 32 (cat (cat (hdB m) 34 (cmB m.id.toNat m.hid m.bnd)) (34 + 65) m.bind) m.share ?_ ?_ O4x S4 ?_ ?_ ?_
       · rfl
       · rfl
       · rfl
       · rfl
       · omega
       · exact L4x.size
       intro v5 u6 O5 q5
       have L5 := O4x.chgs L4x q5 (Nat.le_refl _)
       have M5 := M4x.chg q5 (O4x.nt M4x HT1.out); have R5 := R4x.chg q5 (O4x.nt R4x HT2.out)
       have c05 := ms_at M5 0 _ (ms_kind m); rw [HK.out] at c05))
  refine (HF.out _ v5 (34 + 65 + 32 + 32) (cat (cat (cat (hdB m) 34 (cmB m.id.toNat m.hid m.bnd)) (34 + 65) m.bind) (34 + 65 + 32) m.share) (by omega) L5 O5.sl).mono ?_
  rintro e z1 ⟨vf, rfl, OF, kf⟩
  have LF := L5.trans1 kf
  have RF := R5.chg kf (by simp)
  have OF2 := OF.base L5.size
  have HOF : Hid (Own z1 u6.heap.size vf (4 + 2 + 4 + (34 + 65 + 32 + 32) + 4) (frB 4 (34 + 65 + 32 + 32) (cat (cat (cat (hdB m) 34 (cmB m.id.toNat m.hid m.bnd)) (34 + 65) m.bind) (34 + 65 + 32) m.share))) := OF
  have HLT : Hid (rb < u6.heap.size ∧ w.heap.size ≤ u6.heap.size) := ⟨R5.lt, L5.size⟩
  obtain ⟨pf, cf, rfl⟩ := slFm OF.sl
  clear OF OF2
  go_wp2_with (refine store_w RF rfl 59 _ _ (ftC s0E 0 0) rfl rfl rfl (by exact rFltInfo) (by rfl) (ftC_one _ _ _) ?_; intro z2 RF2 kz)
  refine bodyPost_ret (results_tcW Tryz.results9 _ _ rb 59 (ftC s0E 0 0) _ _ rfl rfl RF2 Tryz.underlying59 rfl (by exact rFltInfo)) rfl ⟨_, rfl, ?_, LF.new kz HRB.out⟩
  have km := HK.out
  have e1 : enN m N M = 34 + 65 + 32 + 32 := by unfold enN; rw [if_neg (by omega), if_neg (by omega), if_neg (by omega), if_pos km]
  have e2 : enF m N d h b M ft = cat (cat (cat (hdB m) 34 (cmB m.id.toNat m.hid m.bnd)) (34 + 65) m.bind) (34 + 65 + 32) m.share := by unfold enF; rw [if_neg (by omega), if_neg (by omega), if_neg (by omega), if_pos km]
  rw [e1, e2, km]
  exact (HOF.out.far kz (fun y hy => by simp at hy; subst hy; exact HLT.out.1)).base HLT.out.2
set_option maxHeartbeats 6000000 in
set_option maxRecDepth 100000 in
theorem REnc_5 (m : Ms) (N : Nat) (d : Nat → Int) (h b : Nat → Nat → Nat) (M : Nat) (ft : Nat → Nat) (k : m.kind = 5) (hg : EnG m N d M) (hm : MsB m) (w : World) (hS : SumC w) (hL : Cl w m.list N d h b) (hT : Sl w m.text M ft) :
    Calls Tryz.prog 9 #[.agg (msC m)] w fun e w' => ∃ v, e = .returned (.tuple #[v, .agg (ftC s0E 0 0)]) ∧ Own w' w.heap.size v (4 + 2 + 4 + enN m N M + 4) (frB m.kind.toNat (enN m N M) (enF m N d h b M ft)) ∧ Chg w w' [] := by
  have HK : Hid (m.kind = 5) := k
  have HX : Hid (EnG m N d M ∧ MsB m) := ⟨hg, hm⟩
  have g2 := hg.2.1
  have g3 := hg.2.2.1
  unfold okPt at g2 g3
  have ef : IntKind.u8.wrap m.fr = m.fr := by rw [u8_conv]; omega
  have et : IntKind.u8.wrap m.to = m.to := by rw [u8_conv]; omega
  have HP : Hid ((0 ≤ m.fr ∧ m.fr ≤ 255) ∧ 0 ≤ m.to ∧ m.to ≤ 255) := ⟨g2, g3⟩
  have HC : Hid (∀ W, Chg w W [] → Calls Tryz.prog 34 #[.agg (msC m)] W fun e w' => e = .returned (.agg (ftC s0E 0 0)) ∧ Chg W w' []) := fun W q => (Check_r m N d h b M ft W (hL.chg q) (hT.chg q (by simp [Off]))).mono fun e w' q => by
    obtain ⟨s, a, y, rfl, hc, kk⟩ := q
    rcases hc with ⟨_, rfl, rfl, rfl⟩ | hc
    · exact ⟨rfl, kk⟩
    · exact absurd hg hc.no
  have HF : Hid (∀ W v n f, n < 4294967296 → Chg w W [] → Sl W v n f → Calls Tryz.prog 20 #[.int .i64 5, v] W fun e w' => ∃ u, e = .returned u ∧ Own w' W.heap.size u (4 + 2 + 4 + n + 4) (frB 5 n f) ∧ Chg W w' []) := fun W v n f hn q S => Framed_r 5 n f v (by omega) hn W (hS.chg q) S
  have HT1 : Hid (¬ (35 : TypeId) = 5) := by show ¬ (35 : TypeId) = 5; decide
  have HT2 : Hid (¬ (59 : TypeId) = 5) := by show ¬ (59 : TypeId) = 5; decide
  have g6 := hg.2.2.2.2.2 k
  unfold okCode at g6
  obtain ⟨cN, hcN⟩ : ∃ c : Nat, m.code = (c : Int) := ⟨m.code.toNat, by omega⟩
  have HCN : Hid (m.code = (cN : Int) ∧ cN ≤ 65535) := ⟨hcN, by omega⟩
  have hq1 : (cN : Int) / 256 % 256 = (cN : Int) / 256 := by omega
  have hq2 : cN ≤ 65535 := by omega
  clear g6 hcN
  clear k hg hm hS hL hT g2 g3
  go_enter Tryz.func9, Tryz.ntmps9
  go_wp2_with (first
    | (have _h := BM; with_reducible refine alloc_w rfl 59 rfl (.agg zRF) zeroRF2 zRF rfl ?_; intro rb w2 hrb BR k2; have BM2 := BM.chg k2 (by simp))
    | (refine box_w rfl 35 _ rfl (msC m) rfl ?_; intro mb w1 hmb BM k1)
    | (refine wpList_load_row rfl 35 _ rfl mb rfl 35 _ (0, 0) _ BM2 Tryz.underlying35 rfl (by rw [msC_size]; exact msInfoW) ?_))
  have K2 := k1.trans1 k2
  have HRB : Hid (w.heap.size ≤ rb) := by have := k1.size; show w.heap.size ≤ rb; omega
  clear BM k1 k2 hmb hrb
  refine (HC.out w2 K2).mono ?_
  rintro e w3 ⟨rfl, k3⟩
  have BM3 := BM2.chg k3 (by simp)
  have BR3 := BR.chg k3 (by simp)
  have K3 := K2.trans1 k3
  clear BM2 BR K2 k3
  go_wp2_with (first
    | (refine wpList_load_row rfl 59 _ rfl cb rfl 59 _ (0, 0) _ BC5 Tryz.underlying59 rfl rFltInfo ?_)
    | (refine store_w BC rfl 59 _ _ (ftC s0E 0 0) rfl rfl rfl (by exact rFltInfo) (by rfl) (ftC_one _ _ _) ?_; intro w5 BC5 k5)
    | (with_reducible refine alloc_w rfl 59 rfl (.agg zRF) zeroRF2 zRF rfl ?_; intro cb w4 hcb BC k4))
  have k35 : Chg w3 w5 [] := k4.new k5 hcb
  have BM5 := BM3.chg k35 (by simp)
  have BR5 := BR3.chg k35 (by simp)
  have K5 := K3.trans1 k35
  clear BM3 BR3 K3 k4 k5 k35 hcb BC
  refine (None_0 0 0 w5).mono ?_
  rintro e w6 ⟨rfl, k6⟩
  have BM6 := BM5.chg k6 (by simp)
  have BR6 := BR5.chg k6 (by simp)
  have K6 := K5.trans1 k6
  have S0 := (ms_ses BM6 HX.out.2.1).sl 32 (by omega) (by omega)
  clear BM5 BR5 K5 k6 BC5
  have c0 := ms_at BM6 0 _ (ms_kind m)
  go_wp2_with (first
    | (with_reducible refine append_y ?_ (.tmp 13) (.tmp 15) ?_ w.heap.size (.slice none 0 0) _ 0 32 (fun _ => 0) m.ses ?_ ?_ (Own.nil w6 w.heap.size (fun _ => 0)) S0 ?_ ?_ ?_
       · rfl
       · rfl
       · rfl
       · rfl
       · omega
       · exact K6.size
       intro v1 u1 O1 q1
       have O1' : Own u1 w.heap.size v1 32 m.ses := by have := O1; rw [cat_0u] at this; exact this
       have L1 : Chg w u1 [] := (Own.nil w6 w.heap.size (fun _ => 0)).chgs K6 q1 (Nat.le_refl _)
       have M1 := BM6.chg q1 (by simp [ob, Value.ownBlock]); have R1 := BR6.chg q1 (by simp [ob, Value.ownBlock])
       have c33 := ms_at M1 33 _ (ms_fr m); have c34 := ms_at M1 34 _ (ms_to m)
       have A1 : Chg u1 (u1.alloc (.cells #[.int .u8 m.fr, .int .u8 m.to] 5)) [] := (Chg.refl _ _).alloc _
       have O1a := O1'.far A1 (fun y hy => by simp at hy); have L1a := L1.trans1 A1; have M1a := M1.chg A1 (by simp); have R1a := R1.chg A1 (by simp)
       have S1 := sl_ft (Blk.new u1 _ _) HP.out)
    | (with_reducible refine append_y ?_ (.tmp 17) (.tmp 24) ?_ w.heap.size v1 _ 32 2 m.ses (ftB m.fr.toNat m.to.toNat) ?_ ?_ O1a S1 ?_ ?_ ?_
       · rfl
       · rfl
       · rfl
       · rfl
       · omega
       · exact L1a.size
       intro v2 u2 O2 q2
       have O2' : Own u2 w.heap.size v2 34 (hdB m) := O2
       have L2 := O1a.chgs L1a q2 (Nat.le_refl _)
       have M2 := M1a.chg q2 (O1a.nt M1a HT1.out); have R2 := R1a.chg q2 (O1a.nt R1a HT2.out)
       have c0b := ms_at M2 0 _ (ms_kind m); rw [HK.out] at c0b
       have c230 := ms_at M2 230 _ (ms_code m); rw [HCN.out.1] at c230
       have A2 : Chg u2 (u2.alloc (.cells #[.int .u8 ((cN : Int) / 256), .int .u8 ((cN : Int) % 256)] 5)) [] := (Chg.refl _ _).alloc _
       have O2x := O2'.far A2 (fun y hy => by simp at hy); have L2x := L2.trans1 A2; have M2x := M2.chg A2 (by simp); have R2x := R2.chg A2 (by simp)
       have S2 := sl_b2 cN HCN.out.2 u2)
    | (with_reducible refine append_y ?_ (.tmp 86) (.tmp 94) ?_ w.heap.size v2 _ 34 2 (hdB m) (b2 cN) ?_ ?_ O2x S2 ?_ ?_ ?_
       · rfl
       · rfl
       · rfl
       · rfl
       · omega
       · exact L2x.size
       intro v3 u3 O3 q3
       have L3 := O2x.chgs L2x q3 (Nat.le_refl _)
       have M3 := M2x.chg q3 (O2x.nt M2x HT1.out); have R3 := R2x.chg q3 (O2x.nt R2x HT2.out)
       have c03 := ms_at M3 0 _ (ms_kind m); rw [HK.out] at c03))
  refine (HF.out _ v3 (34 + 2) (cat (hdB m) 34 (b2 cN)) (by omega) L3 O3.sl).mono ?_
  rintro e z1 ⟨vf, rfl, OF, kf⟩
  have LF := L3.trans1 kf
  have RF := R3.chg kf (by simp)
  have OF2 := OF.base L3.size
  have HOF : Hid (Own z1 u3.heap.size vf (4 + 2 + 4 + (34 + 2) + 4) (frB 5 (34 + 2) (cat (hdB m) 34 (b2 cN)))) := OF
  have HLT : Hid (rb < u3.heap.size ∧ w.heap.size ≤ u3.heap.size) := ⟨R3.lt, L3.size⟩
  obtain ⟨pf, cf, rfl⟩ := slFm OF.sl
  clear OF OF2
  go_wp2_with (refine store_w RF rfl 59 _ _ (ftC s0E 0 0) rfl rfl rfl (by exact rFltInfo) (by rfl) (ftC_one _ _ _) ?_; intro z2 RF2 kz)
  refine bodyPost_ret (results_tcW Tryz.results9 _ _ rb 59 (ftC s0E 0 0) _ _ rfl rfl RF2 Tryz.underlying59 rfl (by exact rFltInfo)) rfl ⟨_, rfl, ?_, LF.new kz HRB.out⟩
  have km := HK.out
  have e1 : enN m N M = 34 + 2 := by unfold enN; rw [if_neg (by omega), if_neg (by omega), if_neg (by omega), if_neg (by omega), if_pos km]
  have e2 : enF m N d h b M ft = cat (hdB m) 34 (b2 m.code.toNat) := by unfold enF; rw [if_neg (by omega), if_neg (by omega), if_neg (by omega), if_neg (by omega), if_pos km]
  rw [show m.code.toNat = cN from by rw [HCN.out.1]; rfl] at e2
  rw [e1, e2, km]
  exact (HOF.out.far kz (fun y hy => by simp at hy; subst hy; exact HLT.out.1)).base HLT.out.2
set_option maxHeartbeats 6000000 in
set_option maxRecDepth 100000 in
theorem REnc_6 (m : Ms) (N : Nat) (d : Nat → Int) (h b : Nat → Nat → Nat) (M : Nat) (ft : Nat → Nat) (k : m.kind = 6) (hg : EnG m N d M) (hm : MsB m) (w : World) (hS : SumC w) (hL : Cl w m.list N d h b) (hT : Sl w m.text M ft) :
    Calls Tryz.prog 9 #[.agg (msC m)] w fun e w' => ∃ v, e = .returned (.tuple #[v, .agg (ftC s0E 0 0)]) ∧ Own w' w.heap.size v (4 + 2 + 4 + enN m N M + 4) (frB m.kind.toNat (enN m N M) (enF m N d h b M ft)) ∧ Chg w w' [] := by
  have HK : Hid (m.kind = 6) := k
  have HX : Hid (EnG m N d M ∧ MsB m) := ⟨hg, hm⟩
  have g2 := hg.2.1
  have g3 := hg.2.2.1
  unfold okPt at g2 g3
  have ef : IntKind.u8.wrap m.fr = m.fr := by rw [u8_conv]; omega
  have et : IntKind.u8.wrap m.to = m.to := by rw [u8_conv]; omega
  have HP : Hid ((0 ≤ m.fr ∧ m.fr ≤ 255) ∧ 0 ≤ m.to ∧ m.to ≤ 255) := ⟨g2, g3⟩
  have HC : Hid (∀ W, Chg w W [] → Calls Tryz.prog 34 #[.agg (msC m)] W fun e w' => e = .returned (.agg (ftC s0E 0 0)) ∧ Chg W w' []) := fun W q => (Check_r m N d h b M ft W (hL.chg q) (hT.chg q (by simp [Off]))).mono fun e w' q => by
    obtain ⟨s, a, y, rfl, hc, kk⟩ := q
    rcases hc with ⟨_, rfl, rfl, rfl⟩ | hc
    · exact ⟨rfl, kk⟩
    · exact absurd hg hc.no
  have HF : Hid (∀ W v n f, n < 4294967296 → Chg w W [] → Sl W v n f → Calls Tryz.prog 20 #[.int .i64 6, v] W fun e w' => ∃ u, e = .returned u ∧ Own w' W.heap.size u (4 + 2 + 4 + n + 4) (frB 6 n f) ∧ Chg W w' []) := fun W v n f hn q S => Framed_r 6 n f v (by omega) hn W (hS.chg q) S
  have HT1 : Hid (¬ (35 : TypeId) = 5) := by show ¬ (35 : TypeId) = 5; decide
  have HT2 : Hid (¬ (59 : TypeId) = 5) := by show ¬ (59 : TypeId) = 5; decide
  clear k hg hm hS hL hT g2 g3
  go_enter Tryz.func9, Tryz.ntmps9
  go_wp2_with (first
    | (have _h := BM; with_reducible refine alloc_w rfl 59 rfl (.agg zRF) zeroRF2 zRF rfl ?_; intro rb w2 hrb BR k2; have BM2 := BM.chg k2 (by simp))
    | (refine box_w rfl 35 _ rfl (msC m) rfl ?_; intro mb w1 hmb BM k1)
    | (refine wpList_load_row rfl 35 _ rfl mb rfl 35 _ (0, 0) _ BM2 Tryz.underlying35 rfl (by rw [msC_size]; exact msInfoW) ?_))
  have K2 := k1.trans1 k2
  have HRB : Hid (w.heap.size ≤ rb) := by have := k1.size; show w.heap.size ≤ rb; omega
  clear BM k1 k2 hmb hrb
  refine (HC.out w2 K2).mono ?_
  rintro e w3 ⟨rfl, k3⟩
  have BM3 := BM2.chg k3 (by simp)
  have BR3 := BR.chg k3 (by simp)
  have K3 := K2.trans1 k3
  clear BM2 BR K2 k3
  go_wp2_with (first
    | (refine wpList_load_row rfl 59 _ rfl cb rfl 59 _ (0, 0) _ BC5 Tryz.underlying59 rfl rFltInfo ?_)
    | (refine store_w BC rfl 59 _ _ (ftC s0E 0 0) rfl rfl rfl (by exact rFltInfo) (by rfl) (ftC_one _ _ _) ?_; intro w5 BC5 k5)
    | (with_reducible refine alloc_w rfl 59 rfl (.agg zRF) zeroRF2 zRF rfl ?_; intro cb w4 hcb BC k4))
  have k35 : Chg w3 w5 [] := k4.new k5 hcb
  have BM5 := BM3.chg k35 (by simp)
  have BR5 := BR3.chg k35 (by simp)
  have K5 := K3.trans1 k35
  clear BM3 BR3 K3 k4 k5 k35 hcb BC
  refine (None_0 0 0 w5).mono ?_
  rintro e w6 ⟨rfl, k6⟩
  have BM6 := BM5.chg k6 (by simp)
  have BR6 := BR5.chg k6 (by simp)
  have K6 := K5.trans1 k6
  have S0 := (ms_ses BM6 HX.out.2.1).sl 32 (by omega) (by omega)
  clear BM5 BR5 K5 k6 BC5
  have c0 := ms_at BM6 0 _ (ms_kind m)
  go_wp2_with (first
    | (with_reducible refine append_y ?_ (.tmp 13) (.tmp 15) ?_ w.heap.size (.slice none 0 0) _ 0 32 (fun _ => 0) m.ses ?_ ?_ (Own.nil w6 w.heap.size (fun _ => 0)) S0 ?_ ?_ ?_
       · rfl
       · rfl
       · rfl
       · rfl
       · omega
       · exact K6.size
       intro v1 u1 O1 q1
       have O1' : Own u1 w.heap.size v1 32 m.ses := by have := O1; rw [cat_0u] at this; exact this
       have L1 : Chg w u1 [] := (Own.nil w6 w.heap.size (fun _ => 0)).chgs K6 q1 (Nat.le_refl _)
       have M1 := BM6.chg q1 (by simp [ob, Value.ownBlock]); have R1 := BR6.chg q1 (by simp [ob, Value.ownBlock])
       have c33 := ms_at M1 33 _ (ms_fr m); have c34 := ms_at M1 34 _ (ms_to m)
       have A1 : Chg u1 (u1.alloc (.cells #[.int .u8 m.fr, .int .u8 m.to] 5)) [] := (Chg.refl _ _).alloc _
       have O1a := O1'.far A1 (fun y hy => by simp at hy); have L1a := L1.trans1 A1; have M1a := M1.chg A1 (by simp); have R1a := R1.chg A1 (by simp)
       have S1 := sl_ft (Blk.new u1 _ _) HP.out)
    | (with_reducible refine append_y ?_ (.tmp 17) (.tmp 24) ?_ w.heap.size v1 _ 32 2 m.ses (ftB m.fr.toNat m.to.toNat) ?_ ?_ O1a S1 ?_ ?_ ?_
       · rfl
       · rfl
       · rfl
       · rfl
       · omega
       · exact L1a.size
       intro v2 u2 O2 q2
       have O2' : Own u2 w.heap.size v2 34 (hdB m) := O2
       have L2 := O1a.chgs L1a q2 (Nat.le_refl _)
       have M2 := M1a.chg q2 (O1a.nt M1a HT1.out); have R2 := R1a.chg q2 (O1a.nt R1a HT2.out)
       have c0b := ms_at M2 0 _ (ms_kind m); rw [HK.out] at c0b
       have O2x := O2'; have L2x := L2; have M2x := M2; have R2x := R2
       have S2 := (ms_sig M2 HX.out.2.2.2.2.2.2).sl 64 (by omega) (by omega))
    | (with_reducible refine append_y ?_ (.tmp 98) (.tmp 100) ?_ w.heap.size v2 _ 34 64 (hdB m) m.sig ?_ ?_ O2x S2 ?_ ?_ ?_
       · rfl
       · rfl
       · rfl
       · rfl
       · omega
       · exact L2x.size
       intro v3 u3 O3 q3
       have L3 := O2x.chgs L2x q3 (Nat.le_refl _)
       have M3 := M2x.chg q3 (O2x.nt M2x HT1.out); have R3 := R2x.chg q3 (O2x.nt R2x HT2.out)
       have c03 := ms_at M3 0 _ (ms_kind m); rw [HK.out] at c03))
  refine (HF.out _ v3 (34 + 64) (cat (hdB m) 34 m.sig) (by omega) L3 O3.sl).mono ?_
  rintro e z1 ⟨vf, rfl, OF, kf⟩
  have LF := L3.trans1 kf
  have RF := R3.chg kf (by simp)
  have OF2 := OF.base L3.size
  have HOF : Hid (Own z1 u3.heap.size vf (4 + 2 + 4 + (34 + 64) + 4) (frB 6 (34 + 64) (cat (hdB m) 34 m.sig))) := OF
  have HLT : Hid (rb < u3.heap.size ∧ w.heap.size ≤ u3.heap.size) := ⟨R3.lt, L3.size⟩
  obtain ⟨pf, cf, rfl⟩ := slFm OF.sl
  clear OF OF2
  go_wp2_with (refine store_w RF rfl 59 _ _ (ftC s0E 0 0) rfl rfl rfl (by exact rFltInfo) (by rfl) (ftC_one _ _ _) ?_; intro z2 RF2 kz)
  refine bodyPost_ret (results_tcW Tryz.results9 _ _ rb 59 (ftC s0E 0 0) _ _ rfl rfl RF2 Tryz.underlying59 rfl (by exact rFltInfo)) rfl ⟨_, rfl, ?_, LF.new kz HRB.out⟩
  have km := HK.out
  have e1 : enN m N M = 34 + 64 := by unfold enN; rw [if_neg (by omega), if_neg (by omega), if_neg (by omega), if_neg (by omega), if_neg (by omega)]
  have e2 : enF m N d h b M ft = cat (hdB m) 34 m.sig := by unfold enF; rw [if_neg (by omega), if_neg (by omega), if_neg (by omega), if_neg (by omega), if_neg (by omega)]
  rw [e1, e2, km]
  exact (HOF.out.far kz (fun y hy => by simp at hy; subst hy; exact HLT.out.1)).base HLT.out.2
end Go.Proofs.YtgjclegpnbjlkaaGreatDoor
