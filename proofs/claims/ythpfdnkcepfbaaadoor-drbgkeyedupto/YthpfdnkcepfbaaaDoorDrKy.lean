/- DrbgKeyed: the walk. -/
import Derived.Test.YthpfdnkcepfbaaaDoorDrG
set_option linter.unusedVariables false
set_option linter.unusedSimpArgs false
set_option linter.unnecessarySimpa false
namespace Go.Proofs.YthpfdnkcepfbaaaDoor
open Go.RowKit

theorem rl_one1 (w : World) (v : Value) (hv : v.oneCell' = true) (T : TypeId) : Rl (w.alloc (.cells #[v] T)) 1 (.slice (some ⟨w.heap.size, 0, none⟩) 1 1) 1 (fun _ => [v]) := by
  have B := Blk.new w #[v] T
  refine ⟨fun _ _ => ⟨rfl, by intro u hu; simp at hu; subst hu; exact hv⟩, Or.inr ⟨w.heap.size, 0, 1, rfl, Nat.le_refl _, by decide, B.lt, fun j hj => ?_⟩⟩
  obtain rfl : j = 0 := by omega
  intro q u hu
  rw [B.cell]
  simpa using hu
theorem zeroGiven : (Tryd.prog.info? 39).bind (·.zero) = some (.agg (gvC gNil)) := by kernel_rfl
set_option maxHeartbeats 4000000 in
set_option maxRecDepth 100000 in
theorem Extract_s (sv kv : Value) (n : Nat) (f : Nat → Nat) (m : Nat) (g : Nat → Nat) (w : World) (hG : Gl w) (hs : Se w sv n f) (hk : Se w kv m g) :
    Calls Tryd.prog 14 #[sv, kv] w fun e w' => e = .returned (.agg (yC 64 (mac n f m g))) ∧ Chg w w' [] := by
  obtain ⟨p0, c0, rfl⟩ := hs.form
  obtain ⟨p1, c1, rfl⟩ := hk.form
  have HS : Hid (Se w (.slice p0 n c0) n f ∧ n < 9223372036854775808 ∧ Gl w) := ⟨hs, hs.le, hG⟩
  have HK : Hid (Se w (.slice p1 m c1) m g ∧ m < 9223372036854775808) := ⟨hk, hk.le⟩
  obtain ⟨D, hD⟩ : ∃ z, mac n f m g = z := ⟨_, rfl⟩
  have HD : Hid (mac n f m g = D) := hD
  rw [hD]
  clear hs hG hk hD
  go_enter Tryd.func14, Tryd.ntmps14
  go_upto_region 1 with (with_reducible refine alloc_w rfl 47 rfl (.agg (yC 64 (fun _ => 0))) zeroDig (yC 64 (fun _ => 0)) rfl ?_; intro rb w1 hrb BR k1)
  have BL := Blk.new w1 #[.slice p1 m c1] 22
  have k2 := (Chg.refl w1 []).alloc (.cells #[.slice p1 m c1] 22)
  go_wp2_with fail
  generalize w1.alloc (.cells #[.slice p1 m c1] 22) = w2 at *
  have C2 := k1.trans1 k2
  refine (MAC_s _ n f _ 1 _ _ _ w2 (HS.out.2.2.chg C2 (by simp) (by simp)) (HS.out.1.chg C2) (by have := HS.out; omega) (Ps.mk1 BL (HK.out.1.chg C2)) (by rw [cN_1]; have := HK.out; omega)).mono ?_
  rintro e w3 ⟨rfl, k3⟩
  rw [cN_1, cF_1, HD.out]
  have BR3 := (BR.chg k2 (by simp)).chg k3 (by simp)
  have C3 := C2.trans1 k3
  go_wp2_with (refine store_w BR3 rfl 47 _ _ (yC 64 D) rfl rfl rfl (by rw [yC_size]; exact digInfo) (by rw [yC_size, yC_size]) (yC_one 64 _) ?_; intro w10 BR10 k10)
  exact bodyPost_ret (results_cell_row Tryd.results14 _ _ rb 47 (yC 64 D) (0, 0) _ rfl BR10 Tryd.underlying47 rfl (by rw [yC_size]; exact digInfo)) rfl ⟨rfl, C3.new k10 hrb⟩
theorem cell_keep {w w' : World} {g o : Nat} {v : Value} (h : w.cell? ⟨g, o, none⟩ = some v) (c : Chg w w' []) : w'.cell? ⟨g, o, none⟩ = some v := by
  have hg : g < w.heap.size := by
    unfold World.cell? at h
    by_cases hb : g < w.heap.size
    · exact hb
    · rw [Array.getElem?_eq_none (by simpa using Nat.le_of_not_lt hb)] at h
      simp at h
  rw [← h]
  simp only [World.cell?, c.block g hg (by simp)]
set_option maxHeartbeats 16000000 in
set_option maxRecDepth 100000 in
theorem keyed_walk (v0 v1 v2 : Value) (n0 : Nat) (f0 : Nat → Nat) (k : Nat) (pv : Nat → Value) (pn : Nat → Nat) (pf : Nat → Nat → Nat) (n2 : Nat) (f2 : Nat → Nat) (z : Int) (w : World) (hG : Gl w) (h0 : Sl w v0 n0 f0) (hn0 : n0 ≤ 1048576) (hp : Ps w v1 k pv pn pf) (hm : cN pn k ≤ 1048576) (hk : k ≤ 1048576) (h2 : Sl w v2 n2 f2) (hn2 : n2 ≤ 1048576) :
    Calls Tryd.prog 3 #[v0, v1, v2, .int .i64 z] w fun e w' => e = .returned (.bool true) ∧ Chg w w' [] := by
  have hge : Tryd.prog.eqGuardType Tryd.prog.depth 47 = false := by kernel_rfl
  have H0 : Hid (∀ W, Chg w W [] → Se W v0 n0 f0) := fun W h => Or.inl (h0.chg h (Off.nil _))
  have H2 : Hid (∀ W, Chg w W [] → Se W v2 n2 f2) := fun W h => Or.inl (h2.chg h (Off.nil _))
  have HPS : Hid (∀ W, Chg w W [] → Ps W v1 k pv pn pf) := fun W h => hp.chg h
  have HB : Hid (n0 ≤ 1048576 ∧ n2 ≤ 1048576 ∧ cN pn k ≤ 1048576 ∧ k ≤ 1048576) := ⟨hn0, hn2, hm, hk⟩
  have HF0 : Hid (∀ i, i < n0 → f0 i < 256) := Se.bd (Or.inl h0)
  have HF2 : Hid (∀ i, i < n2 → f2 i < 256) := Se.bd (Or.inl h2)
  have HPN : Hid (∀ j, j < k → pn j ≤ 1048576) := fun j hj => Nat.le_trans (show pn j ≤ cN pn (j + 1) from Nat.le_add_left _ _) (Nat.le_trans (cN_mono pn hj) hm)
  have HLF : Hid (∀ j, j < k → ∀ q, q < pn j → pf j q < 256) := fun j hj => (hp.1 j hj).bd
  have HGL : Hid (∀ W, Chg w W [] → Gl W) := fun W h => hG.chg h (by simp) (by simp)
  obtain ⟨p0, c0, rfl⟩ := Se.form (Or.inl h0)
  obtain ⟨p2, c2, rfl⟩ := Se.form (Or.inl h2)
  obtain ⟨p1, c1, rfl, hk9⟩ := hp.len
  obtain ⟨inf, hinf, hz, hs1, hs2⟩ := listRow
  clear h0 h2 hp hm hk hn0 hn2 hG
  go_enter Tryd.func3, Tryd.ntmps3
  go_upto_region 2 with (refine alloc_w rfl 39 rfl (.agg (gvC gNil)) zeroGiven (gvC gNil) rfl ?_; intro gb w1 hgb BG k1)
  have Q0 : SuI w w1 gb gNil 0 (fun _ => 0) pn pf (.slice none 0 0) := ⟨Gv.none BG _ _, fun _ _ _ _ => rfl, OwnR.nil _ _ _ _ _, fun _ => rfl, fun j hj => absurd hj (Nat.not_lt_zero _), hgb, k1⟩
  clear BG k1
  go_wp2_with fail
  go_loopw [11, 10] (fun t tl wr => ∃ (i : Nat) (G : Nat → Value) (ov : Nat → Nat), i ≤ k ∧ t = .int .i64 (i : Int) ∧ SuI w wr gb G i ov pn pf tl) (fun t _ _ => (k - intOf t).toNat)
  case atStart => exact ⟨0, gNil, fun _ => 0, Nat.zero_le _, rfl, Q0⟩
  case round =>
    clear Q0 hgb
    obtain ⟨i, G, ov, hi, rfl, Q⟩ := hrel
    by_cases h : i < k
    · have hI : (i : Int) < (k : Int) := by omega
      have hI0 : (0 : Int) ≤ (i : Int) := by omega
      have e1 : IntKind.i64.wrap ((i : Int) + 1) = (i : Int) + 1 := by rw [IntKind.wrap_i64]; omega
      have HMI : Hid _ := mJ k i h
      have HI1 : Hid (i + 1 ≤ k) := h
      have HIK : Hid (i ≤ 2000000) := by have := HB.out; show i ≤ 2000000; omega
      have HPW := HPS.out wr Q.cc
      have SE1 := HPW.1 i h
      have HLT : Hid (∀ j, j < pn i → pf i j < 256) := SE1.bd
      have HPI : Hid (pn i ≤ 1048576) := HPN.out i h
      obtain ⟨g, o, rfl, cx⟩ := HPW.cell h
      have HGW : Hid (gb ≤ wr.heap.size) := Nat.le_of_lt Q.gv.gb.lt
      have HBY : Hid ((i + 1) * 24 ≤ 140737488355328) := by have := HIK.out; show (i + 1) * 24 ≤ 140737488355328; omega
      have H63 : Hid (i + 1 ≤ 9223372036854775807) := by have := HIK.out; show i + 1 ≤ 9223372036854775807; omega
      have HQ : Hid (SuI w wr gb G i ov pn pf u10) := Q
      have HGV : Hid (Gv wr gb gb G 0 39 22 5 1 i (fun j => pn j + 3) (fun j => bR (gvf (pf j) (pn j)))) := Q.gv
      clear hi h Q HPW
      go_wp2_with fail
      refine (GivenBytes_ke gb (pn i) gb i (pv i) (pf i) G _ _ wr (by have := HPI.out; omega) HIK.out HGW.out SE1 HGV.out).mono ?_
      rintro e w1 ⟨r, rfl, oc, la, lb, rfl, hoc, c1, bo, G1⟩
      obtain ⟨g2, l2, cp2, bc, C2⟩ := HQ.out.bytes c1 HLT.out hoc bo G1
      have HGZ : Hid (∀ q, q < 30 → ¬ q = 0 → ¬ q = 1 → upV (upV G 0 la) (0 + 1) lb q = .slice none 0 0) := fun q h0 h1 h2 => by rw [upV_other _ _ _ _ h2, upV_other _ _ _ _ h1]; exact HQ.out.gz q h0 h1 h2
      have HZ0 : Hid (i = 0 → u10 = .slice none 0 0) := HQ.out.z0
      have HWG : Hid (w.heap.size ≤ gb) := HQ.out.wg
      have HCO : Hid (∃ C, Blk w1 oc C 5) := ⟨_, bo⟩
      obtain ⟨G', hG'⟩ : ∃ G', upV (upV G 0 la) (0 + 1) lb = G' := ⟨_, rfl⟩
      rw [hG'] at g2 HGZ
      have KA : Chg w1 (w1.alloc (.cells #[.slice (some ⟨oc, 0, none⟩) (pn i) (pn i + 3)] 22)) [] := (Chg.refl w1 []).alloc _
      have RX : Hid (Rl (w1.alloc (.cells #[.slice (some ⟨oc, 0, none⟩) (pn i) (pn i + 3)] 22)) 1 (.slice (some ⟨w1.heap.size, 0, none⟩) 1 1) 1 (fun _ => [.slice (some ⟨oc, 0, none⟩) (pn i) (pn i + 3)])) := rl_one1 w1 _ rfl _
      have HFI : Hid (∀ W2 a, OwnR W2 gb 22 1 a (i + 1) (catR (lR ov pn) i (fun _ => [.slice (some ⟨oc, 0, none⟩) (pn i) (pn i + 3)])) → Chg (w1.alloc (.cells #[.slice (some ⟨oc, 0, none⟩) (pn i) (pn i + 3)] 22)) W2 (ob u10) → SuI w W2 gb G' (i + 1) (fun j => if j < i then ov j else oc) pn pf a) := fun W2 a hO hC =>
        SuI.step HWG.out (g2.chg KA) HGZ.out (l2.chg KA (by simp)) HZ0.out (fun j hj => ⟨by obtain ⟨C, hC⟩ := (cp2 j hj).1; exact ⟨C, hC.chg KA (by simp)⟩, (cp2 j hj).2.chg KA (by simp)⟩) ⟨by obtain ⟨C, hC⟩ := HCO.out; exact ⟨C, hC.chg KA (by simp)⟩, bc.chg KA (by simp)⟩ (C2.trans1 KA) hC hO
      have OA : OwnR (w1.alloc (.cells #[.slice (some ⟨oc, 0, none⟩) (pn i) (pn i + 3)] 22)) gb 22 1 u10 i (lR ov pn) := l2.chg KA (by simp)
      have HBA : Hid (gb ≤ (w1.alloc (.cells #[.slice (some ⟨oc, 0, none⟩) (pn i) (pn i + 3)] 22)).heap.size) := Nat.le_trans HGW.out (Nat.le_trans c1.size KA.size)
      obtain ⟨c3, hc3⟩ : ∃ c, pn i + 3 = c := ⟨_, rfl⟩
      rw [hc3] at RX HFI OA HBA
      rw [hc3]
      obtain ⟨bn, hbn⟩ : ∃ b, pn i = b := ⟨_, rfl⟩
      rw [hbn] at RX HFI OA HBA
      rw [hbn]
      clear hG' G1 g2 l2 cp2 bc C2 KA HQ HGV c1 bo hoc SE1 cx hc3 hbn
      go_wp2_with (with_reducible refine wpList_append_r ?_ (.tmp 22) (.tmp 28) 23 ?_ 22 inf (.slice none 0 0) 1 24 Tryd.underlying23 hinf hz hs1 hs2 ?_ ?_ gb u10 (.slice (some ⟨w1.heap.size, 0, none⟩) 1 1) i 1 (lR ov pn) (fun _ => [.slice (some ⟨oc, 0, none⟩) bn c3]) ?_ ?_ OA RX.out ?_ HBY.out H63.out HBA.out ?_
                   · rfl
                   · rfl
                   · rfl
                   · decide
                   · rfl
                   · rfl
                   · decide
                   intro ng nc w2 O2 k2 _ _)
      exact ⟨⟨i + 1, G', fun j => if j < i then ov j else oc, HI1.out, by go_num, HFI.out _ _ O2 k2⟩, HMI.out⟩
    · obtain rfl : i = k := by omega
      have hI : ¬ (i : Int) < (i : Int) := by omega
      have KS0 := KS.of Q HPN.out HLF.out
      have HKK : Hid (i ≤ 1048576) := HB.out.2.2.2
      obtain ⟨D1, hD1⟩ : ∃ d, mac n0 f0 (cN pn i) (cF pn pf i) = d := ⟨_, rfl⟩
      obtain ⟨D2, hD2⟩ : ∃ d, mac n2 f2 n0 f0 = d := ⟨_, rfl⟩
      have HD1 : Hid (mac n0 f0 (cN pn i) (cF pn pf i) = D1) := hD1
      have HD2 : Hid (mac n2 f2 n0 f0 = D2) := hD2
      have q1 : ∀ w, (Op.equalIn 10000 47 (.agg (yC 64 D1)) (.agg (yC 64 D1))).run Tryd.prog w = .ok true w := fun w => (eq_dgs D1 D1 w).trans (by rw [eqy_self])
      have q2 : ∀ w, (Op.equalIn 10000 47 (.agg (yC 64 D2)) (.agg (yC 64 D2))).run Tryd.prog w = .ok true w := fun w => (eq_dgs D2 D2 w).trans (by rw [eqy_self])
      obtain ⟨E, hE⟩ : ∃ d, xe z = d := ⟨_, rfl⟩
      obtain ⟨L, hL⟩ : ∃ d, xl z = d := ⟨_, rfl⟩
      have HEL : Hid (xe z = E ∧ xl z = L) := ⟨hE, hL⟩
      have hEE : (E == E) = true := by simp
      clear hi h Q hD1 hD2 hE hL
      go_wp2_with fail
      refine (KS0.bytes (by have := HKK.out; omega) HB.out.1 (H0.out _ KS0.cc) HF0.out).mono ?_
      rintro e w2 ⟨o1, rfl, _, KS1, A1, _⟩
      clear KS0
      go_wp2_with fail
      refine (KS1.bytes (by have := HKK.out; omega) HB.out.2.1 (H2.out _ KS1.cc) HF2.out).mono ?_
      rintro e w3 ⟨o2, rfl, _, KS2, A2, kq⟩
      replace A1 := A1.kq kq
      clear KS1 kq
      go_wp2_with fail
      refine (Expand_y _ n0 f0 _ n2 f2 z w3 (HGL.out _ KS2.cc) (Or.inl (A1.sl (n0 + 3) (by omega) (by have := HB.out; omega))) (Or.inl (A2.sl (n2 + 3) (by omega) (by have := HB.out; omega)))).mono ?_
      rintro e w4 ⟨va, rfl, NA, k4⟩
      rw [HEL.out.1]
      rw [HEL.out.2] at NA
      have KS4 := KS2.chg k4
      clear KS2 k4 A1 A2
      go_wp2_with fail
      refine (Expand_r _ n0 f0 _ n2 f2 z w4 (H0.out _ KS4.cc) (by have := HB.out; omega) (H2.out _ KS4.cc) (by have := HB.out; omega)).mono ?_
      rintro e w5 ⟨vb, rfl, NB, k5⟩
      rw [HEL.out.1]
      rw [HEL.out.2] at NB
      have KS5 := KS4.chg k5
      replace NA := NA.chg k5
      clear KS4 k5
      go_wp2_with fail
      refine (KS5.bytes (by have := HKK.out; omega) HB.out.1 (H0.out _ KS5.cc) HF0.out).mono ?_
      rintro e w6 ⟨o3, rfl, _, KS6, A3, kq⟩
      replace NA := NA.kq kq
      replace NB := NB.kq kq
      clear KS5 kq
      go_wp2_with fail
      refine (MAC_s _ n0 f0 _ i _ pn pf w6 (HGL.out _ KS6.cc) (Or.inl (A3.sl (n0 + 3) (by omega) (by have := HB.out; omega))) (by have := HB.out; omega) (KS6.ps (fun j hj => by have := HPN.out j hj; omega)) (by have := HB.out; omega)).mono ?_
      rintro e w7 ⟨rfl, k7⟩
      rw [HD1.out]
      have KS7 := KS6.chg k7
      replace NA := NA.chg k7
      replace NB := NB.chg k7
      clear KS6 k7 A3
      go_wp2_with fail
      refine (MAC_r _ n0 f0 _ i pv pn pf w7 (H0.out _ KS7.cc) (by have := HB.out; omega) (HPS.out _ KS7.cc) (by have := HB.out; omega)).mono ?_
      rintro e w8 ⟨rfl, k8⟩
      rw [HD1.out]
      have KS8 := KS7.chg k8
      replace NA := NA.chg k8
      replace NB := NB.chg k8
      clear KS7 k8
      go_wp2_with fail
      refine (KS8.bytes (by have := HKK.out; omega) HB.out.2.1 (H2.out _ KS8.cc) HF2.out).mono ?_
      rintro e w9 ⟨o4, rfl, _, KS9, A4, kq⟩
      replace NA := NA.kq kq
      replace NB := NB.kq kq
      clear KS8 kq
      go_wp2_with fail
      refine (KS9.bytes (by have := HKK.out; omega) HB.out.1 (H0.out _ KS9.cc) HF0.out).mono ?_
      rintro e w10 ⟨o5, rfl, _, KSa, A5, kq⟩
      replace NA := NA.kq kq
      replace NB := NB.kq kq
      replace A4 := A4.kq kq
      clear KS9 kq
      go_wp2_with fail
      refine (Extract_s _ _ n2 f2 n0 f0 w10 (HGL.out _ KSa.cc) (Or.inl (A4.sl (n2 + 3) (by omega) (by have := HB.out; omega))) (Or.inl (A5.sl (n0 + 3) (by omega) (by have := HB.out; omega)))).mono ?_
      rintro e w11 ⟨rfl, k11⟩
      rw [HD2.out]
      have KSb := KSa.chg k11
      replace NA := NA.chg k11
      replace NB := NB.chg k11
      clear KSa k11 A4 A5
      go_wp2_with fail
      refine (Extract_r _ _ n2 f2 n0 f0 w11 (H2.out _ KSb.cc) (by have := HB.out; omega) (H0.out _ KSb.cc) (by have := HB.out; omega)).mono ?_
      rintro e w12 ⟨rfl, k12⟩
      rw [HD2.out]
      have KSc := KSb.chg k12
      replace NA := NA.chg k12
      replace NB := NB.chg k12
      clear KSb k12
      go_wp2_with fail
      refine (SameBytes_sl _ _ L _ w12 NA.sl NB.sl).mono ?_
      rintro e w13 ⟨rfl, k13⟩
      have KSd := KSc.chg k13
      clear KSc k13 NA NB
      go_wp2_with fail
      refine (num_s E w13).mono ?_
      rintro e w14 ⟨rfl, rfl⟩
      go_wp2_with fail
      refine (KSd.intact (by have := HKK.out; omega)).mono ?_
      rintro e w15 ⟨rfl, k15⟩
      have C15 := KSd.cc.trans1 k15
      clear KSd k15
      go_wp2_with fail
      refine (aliveD_s w15 (HGL.out _ C15)).mono ?_
      rintro e w16 ⟨rfl, k16⟩
      go_wp2_with fail
      go_ret
      exact ⟨rfl, C15.trans1 k16⟩
end Go.Proofs.YthpfdnkcepfbaaaDoor
