/- Joined: W73, W74, W75. -/
import Derived.Test.YtgjclegpnbjlkaaGreatDoorW72
/- rimeref10.Encode of a message that may not be: nothing, and the fault. -/
set_option linter.unusedVariables false
set_option linter.unusedSimpArgs false
set_option linter.unnecessarySimpa false
namespace Go.Proofs.YtgjclegpnbjlkaaGreatDoor
open Go.RowKit

theorem Blk.rowR {w : World} {g : Nat} {s : ByteArray} {a y : Nat} {t : TypeId} (B : Blk w g (ftC s a y) t) : w.rangeAt g 0 [.string s, .int .i64 (a : Int), .int .i64 (y : Int)] := by
  intro j v hv
  rw [Nat.zero_add, B.cell j, ← hv]
  unfold ftC
  simp only [List.getElem?_toArray]
set_option maxHeartbeats 4000000 in
set_option maxRecDepth 100000 in
theorem REnc_bad (m : Ms) (N : Nat) (d : Nat → Int) (h b : Nat → Nat → Nat) (M : Nat) (ft : Nat → Nat) (hg : ¬ EnG m N d M) (w : World) (hL : Cl w m.list N d h b) (hT : Sl w m.text M ft) :
    Calls Tryz.prog 9 #[.agg (msC m)] w fun e w' => ∃ s a y, EnP m N d M s a y ∧ e = .returned (.tuple #[.slice none 0 0, .agg (ftC s a y)]) ∧ Chg w w' [] := by
  have HC : Hid (∀ W, Chg w W [] → Calls Tryz.prog 34 #[.agg (msC m)] W fun e w' => ∃ s a y, e = .returned (.agg (ftC s a y)) ∧ EnP m N d M s a y ∧ Chg W w' []) := fun W q => (Check_r m N d h b M ft W (hL.chg q) (hT.chg q (by simp [Off]))).mono fun e w' q => by
    obtain ⟨s, a, y, rfl, hc, kk⟩ := q
    rcases hc with ⟨g, _, _, _⟩ | hc
    · exact absurd g hg
    · exact ⟨s, a, y, rfl, hc, kk⟩
  clear hg hL hT
  go_enter Tryz.func9, Tryz.ntmps9
  go_wp2_with (first
    | (have _h := BM; with_reducible refine alloc_w rfl 59 rfl (.agg zRF) zeroRF2 zRF rfl ?_; intro rb w2 hrb BR k2; have BM2 := BM.chg k2 (by simp))
    | (refine box_w rfl 35 _ rfl (msC m) rfl ?_; intro mb w1 hmb BM k1)
    | (refine wpList_load_row rfl 35 _ rfl mb rfl 35 _ (0, 0) _ BM2 Tryz.underlying35 rfl (by rw [msC_size]; exact msInfoW) ?_))
  have K2 := k1.trans1 k2
  have HRB : Hid (w.heap.size ≤ rb) := by have := k1.size; show w.heap.size ≤ rb; omega
  clear BM k1 k2 hmb hrb
  refine (HC.out w2 K2).mono ?_
  rintro e w3 ⟨s, a, y, rfl, hP, k3⟩
  have HPs : Hid (EnP m N d M s a y) := hP
  have BR3 := BR.chg k3 (by simp)
  have K3 := K2.trans1 k3
  clear BM2 BR K2 k3 hP
  go_wp2_with (first
    | (refine wpList_load_row rfl 59 _ rfl cb rfl 59 _ (0, 0) _ BC5 Tryz.underlying59 rfl (by exact rFltInfo) ?_)
    | (refine store_w BC rfl 59 _ _ (ftC s a y) rfl rfl rfl (by exact rFltInfo) (by rfl) (ftC_one _ _ _) ?_; intro w5 BC5 k5)
    | (with_reducible refine alloc_w rfl 59 rfl (.agg zRF) zeroRF2 zRF rfl ?_; intro cb w4 hcb BC k4))
  have k35 : Chg w3 w5 [] := k4.new k5 hcb
  have BR5 := BR3.chg k35 (by simp)
  have K5 := K3.trans1 k35
  clear BR3 K3 k4 k5 k35 hcb BC
  refine (None_f s a y HPs.out.ne w5).mono ?_
  rintro e w6 ⟨rfl, k6⟩
  have BC6 := BC5.chg k6 (by simp)
  have BR6 := BR5.chg k6 (by simp)
  have K6 := K5.trans1 k6
  clear BR5 K5 k6 BC5
  go_wp2_with fail
  refine lt_begin (fun w' => Blk w' cb (ftC s a y) 59) (fun i => i == 2) (by kernel_rfl) ?_
  have hHeld : Blk w6.drew cb (ftC s a y) 59 := BC6.drew
  have BRd := BR6.drew
  have C6 := K6.drew
  refine lt_read (v := .agg (ftC s a y)) 0 (some 12) rfl (by kernel_rfl) (by kernel_rfl) (by kernel_rfl) (by kernel_rfl) (fun _ _ _ h => h) rfl rfl (fun w hSw => ?_) hHeld ?_
  · exact (exec_load_m w 59 (.tmp 4) rfl cb 0 rfl [.string s, .int .i64 (a : Int), .int .i64 (y : Int)] _ hSw.rowR Tryz.underlying59 rfl (by exact rFltInfo))
  try simp only [Act.put, List.setIfInBounds_toArray, List.set_cons_zero, List.set_cons_succ]
  refine lt_val (v := .slice none 0 0) 1 (some 2) rfl (by kernel_rfl) (by kernel_rfl) (by kernel_rfl) (fun _ _ _ h => h) rfl rfl (fun w => ?_) ?_
  · (go_simp; try with_reducible rfl)
  try simp only [Act.put, List.setIfInBounds_toArray, List.set_cons_zero, List.set_cons_succ]
  refine lt_one 2 rfl (by kernel_rfl) rfl (fun K hK => ?_)
  refine wp_store_w BRd 59 (.tmp 3) (.tmp 12) (ftC s a y) rfl rfl rfl (by exact rFltInfo) rfl (ftC_one _ _ _) (fun z2 RF2 kz => ?_)
  refine hK.out _ _ (fun h => absurd h (by decide)) ?_
  clear hK K
  try simp only [Act.put, List.setIfInBounds_toArray, List.set_cons_zero, List.set_cons_succ]
  refine lt_done (by kernel_rfl) ?_ _
  go_wp2_with fail
  exact bodyPost_ret (results_tcW Tryz.results9 _ _ rb 59 (ftC s a y) _ _ rfl rfl RF2 Tryz.underlying59 rfl (by exact rFltInfo)) rfl ⟨s, a, y, HPs.out, rfl, C6.new kz HRB.out⟩
end Go.Proofs.YtgjclegpnbjlkaaGreatDoor

/- rimeref10.Encode of a package. -/
namespace Go.Proofs.YtgjclegpnbjlkaaGreatDoor
open Go.RowKit

set_option maxHeartbeats 6000000 in
set_option maxRecDepth 100000 in
theorem REnc_3 (m : Ms) (N : Nat) (d : Nat → Int) (h b : Nat → Nat → Nat) (M : Nat) (ft : Nat → Nat) (k : m.kind = 3) (hg : EnG m N d M) (hm : MsB m) (w : World) (hS : SumC w) (hL : Cl w m.list N d h b) (hT : Sl w m.text M ft) :
    Calls Tryz.prog 9 #[.agg (msC m)] w fun e w' => ∃ v, e = .returned (.tuple #[v, .agg (ftC s0E 0 0)]) ∧ Own w' w.heap.size v (4 + 2 + 4 + enN m N M + 4) (frB m.kind.toNat (enN m N M) (enF m N d h b M ft)) ∧ Chg w w' [] := by
  have HK : Hid (m.kind = 3) := k
  have HX : Hid (EnG m N d M ∧ MsB m) := ⟨hg, hm⟩
  have g2 := hg.2.1
  have g3 := hg.2.2.1
  unfold okPt at g2 g3
  have ef : IntKind.u8.wrap m.fr = m.fr := by rw [u8_conv]; omega
  have et : IntKind.u8.wrap m.to = m.to := by rw [u8_conv]; omega
  have HPT : Hid ((0 ≤ m.fr ∧ m.fr ≤ 255) ∧ 0 ≤ m.to ∧ m.to ≤ 255) := ⟨g2, g3⟩
  have g5 := hg.2.2.2.2.1 k
  obtain ⟨pv, cv, hlv, hp0⟩ := hL.1.form
  obtain ⟨pt, ct, htv⟩ : ∃ p c, m.text = .slice p M c := by
    rcases hT with ⟨h0, h1⟩ | ⟨g, o, c, h1, _⟩
    · exact ⟨none, 0, by rw [h1, h0]⟩
    · exact ⟨_, _, h1⟩
  have eN : IntKind.u8.wrap (N : Int) = (N : Int) := by rw [u8_conv]; have := g5.1; omega
  have HV : Hid (m.list = .slice pv N cv ∧ m.text = .slice pt M ct) := ⟨hlv, htv⟩
  have HNM : Hid (N ≤ 255 ∧ M ≤ 1048575) := ⟨g5.1, g5.2.2⟩
  have HD : Hid (∀ j, j < N → 0 ≤ d j ∧ d j < 256) := fun j hj => by have q := g5.2.1 j hj; unfold okID at q; omega
  have HTX : Hid (∀ W, Chg w W [] → Sl W (.slice pt M ct) M ft) := fun W q => by have := hT.chg q (by simp [Off]); rwa [htv] at this
  have HP : Hid (∀ i, i < N → ∃ g o, pv = some ⟨g, o, none⟩ ∧ g < w.heap.size ∧ w.rangeAt g (o + i * 65) (cF d h b i)) := hp0
  have HHB : Hid (∀ i, i < N → ∀ j, j < 32 → h i j < 256 ∧ b i j < 256) := hL.2
  have HC : Hid (∀ W, Chg w W [] → Calls Tryz.prog 34 #[.agg (msC m)] W fun e w' => e = .returned (.agg (ftC s0E 0 0)) ∧ Chg W w' []) := fun W q => (Check_r m N d h b M ft W (hL.chg q) (hT.chg q (by simp [Off]))).mono fun e w' q => by
    obtain ⟨s, a, y, rfl, hc, kk⟩ := q
    rcases hc with ⟨_, rfl, rfl, rfl⟩ | hc
    · exact ⟨rfl, kk⟩
    · exact absurd hg hc.no
  have HF : Hid (∀ W v n f, n < 4294967296 → Chg w W [] → Sl W v n f → Calls Tryz.prog 20 #[.int .i64 3, v] W fun e w' => ∃ u, e = .returned u ∧ Own w' W.heap.size u (4 + 2 + 4 + n + 4) (frB 3 n f) ∧ Chg W w' []) := fun W v n f hn q S => Framed_r 3 n f v (by omega) hn W (hS.chg q) S
  have HT1 : Hid (¬ (35 : TypeId) = 5) := by show ¬ (35 : TypeId) = 5; decide
  have HT2 : Hid (¬ (59 : TypeId) = 5) := by show ¬ (59 : TypeId) = 5; decide
  clear k hg hm hS hL hT g2 g3 g5 hlv htv hp0
  go_enter Tryz.func9, Tryz.ntmps9
  go_wp2_with (first
    | (have _h := BM; with_reducible refine alloc_w rfl 59 rfl (.agg zRF) zeroRF2 zRF rfl ?_; intro rb w2 hrb BR k2; have BM2 := BM.chg k2 (by simp))
    | (refine box_w rfl 35 _ rfl (msC m) rfl ?_; intro mb w1 hmb BM k1)
    | (refine wpList_load_row rfl 35 _ rfl mb rfl 35 _ (0, 0) _ BM2 Tryz.underlying35 rfl (by rw [msC_size]; exact msInfoW) ?_))
  have K2 := k1.trans1 k2
  have HRB : Hid (w.heap.size ≤ rb) := by have := k1.size; show w.heap.size ≤ rb; omega
  clear BM k1 k2 hmb hrb
  refine (HC.out w2 K2).mono ?_
  rintro e w3 ⟨rfl, k3⟩
  have BM3 := BM2.chg k3 (by simp)
  have BR3 := BR.chg k3 (by simp)
  have K3 := K2.trans1 k3
  clear BM2 BR K2 k3
  go_wp2_with (first
    | (refine wpList_load_row rfl 59 _ rfl cb rfl 59 _ (0, 0) _ BC5 Tryz.underlying59 rfl rFltInfo ?_)
    | (refine store_w BC rfl 59 _ _ (ftC s0E 0 0) rfl rfl rfl (by exact rFltInfo) (by rfl) (ftC_one _ _ _) ?_; intro w5 BC5 k5)
    | (with_reducible refine alloc_w rfl 59 rfl (.agg zRF) zeroRF2 zRF rfl ?_; intro cb w4 hcb BC k4))
  have k35 : Chg w3 w5 [] := k4.new k5 hcb
  have BM5 := BM3.chg k35 (by simp)
  have BR5 := BR3.chg k35 (by simp)
  have K5 := K3.trans1 k35
  clear BM3 BR3 K3 k4 k5 k35 hcb BC
  refine (None_0 0 0 w5).mono ?_
  rintro e w6 ⟨rfl, k6⟩
  have BM6 := BM5.chg k6 (by simp)
  have BR6 := BR5.chg k6 (by simp)
  have K6 := K5.trans1 k6
  have S0 := (ms_ses BM6 HX.out.2.1).sl 32 (by omega) (by omega)
  clear BM5 BR5 K5 k6 BC5
  have c0 := ms_at BM6 0 _ (ms_kind m)
  go_wp2_with (first
    | (with_reducible refine append_y ?_ (.tmp 13) (.tmp 15) ?_ w.heap.size (.slice none 0 0) _ 0 32 (fun _ => 0) m.ses ?_ ?_ (Own.nil w6 w.heap.size (fun _ => 0)) S0 ?_ ?_ ?_
       · rfl
       · rfl
       · rfl
       · rfl
       · omega
       · exact K6.size
       intro v1 u1 O1 q1
       have O1' : Own u1 w.heap.size v1 32 m.ses := by have := O1; rw [cat_0u] at this; exact this
       have L1 : Chg w u1 [] := (Own.nil w6 w.heap.size (fun _ => 0)).chgs K6 q1 (Nat.le_refl _)
       have M1 := BM6.chg q1 (by simp [ob, Value.ownBlock]); have R1 := BR6.chg q1 (by simp [ob, Value.ownBlock])
       have c33 := ms_at M1 33 _ (ms_fr m); have c34 := ms_at M1 34 _ (ms_to m)
       have A1 : Chg u1 (u1.alloc (.cells #[.int .u8 m.fr, .int .u8 m.to] 5)) [] := (Chg.refl _ _).alloc _
       have O1a := O1'.far A1 (fun y hy => by simp at hy); have L1a := L1.trans1 A1; have M1a := M1.chg A1 (by simp); have R1a := R1.chg A1 (by simp)
       have S1 := sl_ft (Blk.new u1 _ _) HPT.out)
    | (with_reducible refine append_y ?_ (.tmp 17) (.tmp 24) ?_ w.heap.size v1 _ 32 2 m.ses (ftB m.fr.toNat m.to.toNat) ?_ ?_ O1a S1 ?_ ?_ ?_
       · rfl
       · rfl
       · rfl
       · rfl
       · omega
       · exact L1a.size
       intro v2 u2 O2 q2
       have O2' : Own u2 w.heap.size v2 34 (hdB m) := O2
       have L2 := O1a.chgs L1a q2 (Nat.le_refl _)
       have M2 := M1a.chg q2 (O1a.nt M1a HT1.out); have R2 := R1a.chg q2 (O1a.nt R1a HT2.out)
       have c0b := ms_at M2 0 _ (ms_kind m); rw [HK.out] at c0b
       have c100 := ms_at M2 100 _ (ms_list m); rw [HV.out.1] at c100
       have A2 : Chg u2 (u2.alloc (.cells #[.int .u8 (N : Int)] 5)) [] := (Chg.refl _ _).alloc _
       have O2x := O2'.far A2 (fun y hy => by simp at hy); have L2x := L2.trans1 A2; have M2x := M2.chg A2 (by simp); have R2x := R2.chg A2 (by simp)
       have S2 := sl_b1 (N : Int) (by have := HNM.out; omega) u2)
    | (with_reducible refine append_y ?_ (.tmp 37) (.tmp 42) ?_ w.heap.size v2 _ 34 1 (hdB m) (fun _ => ((N : Nat) : Int).toNat) ?_ ?_ O2x S2 ?_ ?_ ?_
       · rfl
       · rfl
       · rfl
       · rfl
       · omega
       · exact L2x.size
       intro v3 u3 O3 q3
       have L3 := O2x.chgs L2x q3 (Nat.le_refl _)
       have M3 := M2x.chg q3 (O2x.nt M2x HT1.out); have R3 := R2x.chg q3 (O2x.nt R2x HT2.out)))
  have O3b : Own u3 w.heap.size v3 (34 + (1 + 65 * 0)) (cat (hdB m) 34 (lsB N d h b)) := O3.cg (fun k hk => by
    unfold cat lsB cat
    by_cases a : k < 34
    · rw [if_pos a, if_pos a]
    · rw [if_neg a, if_neg a, if_pos (show k - 34 < 1 by omega), Int.toNat_natCast])
  have HE : Hid (Chg w u3 []) := L3
  clear O3 M2 R2 M2x R2x O2x L2x S2 c100 c0b O2' q3 L2 q2 A2 K6 S0 c0 O1 q1 O1' L1 M1 R1 c33 c34 A1 O1a L1a M1a R1a S1 BM6 BR6
  --CUT0
  go_loopw [5, 6] (fun t5 t6 wr => ∃ i : Nat, i ≤ N ∧ t6 = .int .i64 (i : Int) ∧ Own wr w.heap.size t5 (34 + (1 + 65 * i)) (cat (hdB m) 34 (lsB N d h b)) ∧ Chg w wr [] ∧ Blk wr mb (msC m) 35 ∧ Blk wr rb zRF 59) (fun _ t _ => ((N : Int) - intOf t).toNat)
  case atStart => exact ⟨0, by omega, rfl, O3b, L3, M3, R3⟩
  case round =>
    clear O3b L3 M3 R3
    obtain ⟨i, hi, rfl, Oi, Ci, Mi, Ri⟩ := hrel
    have c100 := ms_at Mi 100 _ (ms_list m); rw [HV.out.1] at c100
    have c101 := ms_at Mi 101 _ (ms_text m); rw [HV.out.2] at c101
    have c00 := ms_at Mi 0 _ (ms_kind m); rw [HK.out] at c00
    by_cases h8 : i = N
    · subst h8
      have hI : ¬ (i : Int) < (i : Int) := by omega
      go_wp2_with fail
      --CUT1
      refine (four_r M (by have := HNM.out; omega) wr).mono ?_
      rintro e w3 ⟨vp, rfl, OP, kp⟩
      have Oix := Oi.far kp (fun y hy => by simp at hy)
      have Cix := Ci.trans1 kp
      have Mix := Mi.chg kp (by simp)
      have Rix := Ri.chg kp (by simp)
      have SP := OP.sl
      go_wp2_with (first
        | (with_reducible refine append_y ?_ (.tmp 59) (.tmp 63) ?_ w.heap.size _ _ (34 + (1 + 65 * i)) 4 (cat (hdB m) 34 (lsB i d h b)) (b4 M) ?_ ?_ Oix SP ?_ ?_ ?_
           · rfl
           · rfl
           · rfl
           · rfl
           · have := HNM.out; omega
           · exact Cix.size
           intro v4 u4 O4 q4
           have L4 := Oix.chgs Cix q4 (Nat.le_refl _)
           have M4 := Mix.chg q4 (Oix.nt Mix HT1.out); have R4 := Rix.chg q4 (Oix.nt Rix HT2.out)
           have c104 := ms_at M4 101 _ (ms_text m); rw [HV.out.2] at c104
           have T4 := HTX.out _ L4)
        | (with_reducible refine append_y ?_ (.tmp 65) (.tmp 67) ?_ w.heap.size v4 _ (34 + (1 + 65 * i) + 4) M _ ft ?_ ?_ O4 T4 ?_ ?_ ?_
           · rfl
           · rfl
           · rfl
           · rfl
           · have := HNM.out; omega
           · exact L4.size
           intro v5 u5 O5 q5
           have L5 := O4.chgs L4 q5 (Nat.le_refl _)
           have M5 := M4.chg q5 (O4.nt M4 HT1.out); have R5 := R4.chg q5 (O4.nt R4 HT2.out)
           have c05 := ms_at M5 0 _ (ms_kind m); rw [HK.out] at c05))
      have O6 : Own u5 w.heap.size v5 (34 + (1 + 65 * i) + (4 + M)) (cat (hdB m) 34 (pkB i d h b M ft)) := by
        rw [Nat.add_assoc] at O5
        exact O5.cg (fun k _ => by
          rw [cat_as, cat_as]
          rfl)
      --CUT3
      refine (HF.out _ v5 (34 + (1 + 65 * i) + (4 + M)) (cat (hdB m) 34 (pkB i d h b M ft)) (by have := HNM.out; omega) L5 O6.sl).mono ?_
      rintro e z1 ⟨vf, rfl, OF, kf⟩
      have RF := R5.chg kf (by simp)
      have LF := L5.trans1 kf
      have HOF : Hid (Own z1 u5.heap.size vf (4 + 2 + 4 + (34 + (1 + 65 * i) + (4 + M)) + 4) (frB 3 (34 + (1 + 65 * i) + (4 + M)) (cat (hdB m) 34 (pkB i d h b M ft)))) := OF
      have HLT : Hid (rb < u5.heap.size ∧ w.heap.size ≤ u5.heap.size) := ⟨R5.lt, L5.size⟩
      obtain ⟨pf, cf, rfl⟩ := slFm OF.sl
      clear OF
      go_wp2_with (refine store_w RF rfl 59 _ _ (ftC s0E 0 0) rfl rfl rfl (by exact rFltInfo) (by rfl) (ftC_one _ _ _) ?_; intro z2 RF2 kz)
      refine bodyPost_ret (results_tcW Tryz.results9 _ _ rb 59 (ftC s0E 0 0) _ _ rfl rfl RF2 Tryz.underlying59 rfl (by exact rFltInfo)) rfl ⟨_, rfl, ?_, LF.new kz HRB.out⟩
      have km := HK.out
      have e1 : enN m i M = 34 + (1 + 65 * i) + (4 + M) := by unfold enN; rw [if_neg (by omega), if_neg (by omega), if_pos km]
      have e2 : enF m i d h b M ft = cat (hdB m) 34 (pkB i d h b M ft) := by unfold enF; rw [if_neg (by omega), if_neg (by omega), if_pos km]
      rw [e1, e2, km]
      exact (HOF.out.far kz (fun y hy => by simp at hy; subst hy; exact HLT.out.1)).base HLT.out.2
    · have hlt : i < N := by omega
      have hI : (i : Int) < (N : Int) := by omega
      have hi0 : (0 : Int) ≤ (i : Int) := by omega
      have ew : IntKind.i64.wrap ((i : Int) + 1) = (i : Int) + 1 := by have := HNM.out; rw [IntKind.wrap_i64]; omega
      have HI : Hid (i < N) := hlt
      have HM : Hid (((N : Int) - intOf (.int .i64 ((i : Int) + 1))).toNat < ((N : Int) - intOf (.int .i64 (i : Int))).toNat) := by show ((N : Int) - intOf (.int .i64 ((i : Int) + 1))).toNat < ((N : Int) - intOf (.int .i64 (i : Int))).toNat; simp [intOf] <;> omega
      obtain ⟨g, o, rfl, hg, hr0⟩ := HP.out i hlt
      have hr := rangeAt_chg hr0 hg Ci (by simp)
      clear h8 hlt hi hr0 hg
      go_wp2_with (refine wpList_load_mid rfl 27 _ rfl g (o + i * 65) rfl (cF d h b i) _ hr Tryz.underlying27 rfl (by rw [(cF_ok (i + 1) d h b i (by omega)).1]; exact cmInfo) ?_)
      --CUT2
      refine (pair_r (d i) (h i) (b i) (HD.out i HI.out) (fun j hj => (HHB.out i HI.out j hj).1) (fun j hj => (HHB.out i HI.out j hj).2) wr).mono ?_
      rintro e w3 ⟨vp, rfl, OP, kp⟩
      have Oix := Oi.far kp (fun y hy => by simp at hy)
      have Cix := Ci.trans1 kp
      have Mix := Mi.chg kp (by simp)
      have Rix := Ri.chg kp (by simp)
      have SP := OP.sl
      go_wp2_with (first
        | (with_reducible refine append_y ?_ (.tmp 51) (.tmp 57) ?_ w.heap.size _ _ (34 + (1 + 65 * i)) 65 (cat (hdB m) 34 (lsB N d h b)) (cmB (d i).toNat (h i) (b i)) ?_ ?_ Oix SP ?_ ?_ ?_
           · rfl
           · rfl
           · rfl
           · rfl
           · have := HNM.out; have := HI.out; omega
           · exact Cix.size
           intro v4 u4 O4 q4
           have L4 := Oix.chgs Cix q4 (Nat.le_refl _)
           have M4 := Mix.chg q4 (Oix.nt Mix HT1.out); have R4 := Rix.chg q4 (Oix.nt Rix HT2.out)))
      refine ⟨⟨i + 1, HI.out, by go_num, ?_, L4, M4, R4⟩, HM.out⟩
      have e1 : 34 + (1 + 65 * i) + 65 = 34 + (1 + 65 * (i + 1)) := by omega
      rw [← e1]
      exact O4.cg (fun k hk => ls_step (hdB m) 34 N d h b i k hk)
end Go.Proofs.YtgjclegpnbjlkaaGreatDoor

/- rimeref10.Encode of any message. -/
namespace Go.Proofs.YtgjclegpnbjlkaaGreatDoor
open Go.RowKit

/-- What the document's Encode answers. -/
def REnQ (m : Ms) (N : Nat) (d : Nat → Int) (h b : Nat → Nat → Nat) (M : Nat) (ft : Nat → Nat) (w : World) (e : Ending) (w' : World) : Prop :=
  (¬ EnG m N d M ∧ ∃ s a y, EnP m N d M s a y ∧ e = .returned (.tuple #[.slice none 0 0, .agg (ftC s a y)]) ∧ Chg w w' []) ∨
  (EnG m N d M ∧ ∃ v, e = .returned (.tuple #[v, .agg (ftC s0E 0 0)]) ∧ Own w' w.heap.size v (4 + 2 + 4 + enN m N M + 4) (frB m.kind.toNat (enN m N M) (enF m N d h b M ft)) ∧ Chg w w' [])
theorem REnc (m : Ms) (N : Nat) (d : Nat → Int) (h b : Nat → Nat → Nat) (M : Nat) (ft : Nat → Nat) (hm : MsB m) (w : World) (hS : SumC w) (hL : Cl w m.list N d h b) (hT : Sl w m.text M ft) :
    Calls Tryz.prog 9 #[.agg (msC m)] w fun e w' => REnQ m N d h b M ft w e w' := by
  by_cases hg : EnG m N d M
  · have g1 := hg.1
    unfold okKind at g1
    obtain k | k | k | k | k | k : m.kind = 1 ∨ m.kind = 2 ∨ m.kind = 3 ∨ m.kind = 4 ∨ m.kind = 5 ∨ m.kind = 6 := by omega
    · exact (REnc_1 m N d h b M ft k hg hm w hS hL hT).mono fun e w' q => Or.inr ⟨hg, q⟩
    · exact (REnc_2 m N d h b M ft k hg hm w hS hL hT).mono fun e w' q => Or.inr ⟨hg, q⟩
    · exact (REnc_3 m N d h b M ft k hg hm w hS hL hT).mono fun e w' q => Or.inr ⟨hg, q⟩
    · exact (REnc_4 m N d h b M ft k hg hm w hS hL hT).mono fun e w' q => Or.inr ⟨hg, q⟩
    · exact (REnc_5 m N d h b M ft k hg hm w hS hL hT).mono fun e w' q => Or.inr ⟨hg, q⟩
    · exact (REnc_6 m N d h b M ft k hg hm w hS hL hT).mono fun e w' q => Or.inr ⟨hg, q⟩
  · exact (REnc_bad m N d h b M ft hg w hL hT).mono fun e w' q => Or.inl ⟨hg, q⟩
end Go.Proofs.YtgjclegpnbjlkaaGreatDoor
