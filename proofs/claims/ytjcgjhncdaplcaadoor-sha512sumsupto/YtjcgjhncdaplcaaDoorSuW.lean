/- Sha512Sums: the walk. -/
import Derived.Test.YtjcgjhncdaplcaaDoorSuI
import Derived.Test.YtjcgjhncdaplcaaDoorH10
import Derived.Test.YtjcgjhncdaplcaaDoorChainWalk
set_option linter.unusedVariables false
set_option linter.unusedSimpArgs false
set_option linter.unnecessarySimpa false
namespace Go.Proofs.YtjcgjhncdaplcaaDoor
open Go.RowKit

theorem rl_one1 (w : World) (v : Value) (hv : v.oneCell' = true) (T : TypeId) : Rl (w.alloc (.cells #[v] T)) 1 (.slice (some ⟨w.heap.size, 0, none⟩) 1 1) 1 (fun _ => [v]) := by
  have B := Blk.new w #[v] T
  refine ⟨fun _ _ => ⟨rfl, by intro u hu; simp at hu; subst hu; exact hv⟩, Or.inr ⟨w.heap.size, 0, 1, rfl, Nat.le_refl _, by decide, B.lt, fun j hj => ?_⟩⟩
  obtain rfl : j = 0 := by omega
  intro q u hu
  rw [B.cell]
  simpa using hu
set_option maxHeartbeats 16000000 in
set_option maxRecDepth 100000 in
theorem sums_walk (bv0 v : Value) (bn0 : Nat) (bf0 : Nat → Nat) (k : Nat) (pv : Nat → Value) (pn : Nat → Nat) (pf : Nat → Nat → Nat) (w : World) (hG : Gl w) (hb0 : Sl w bv0 bn0 bf0) (hn0 : bn0 ≤ 1048576) (hp : Ps w v k pv pn pf) (hm : cN pn k ≤ 1048576) (hk : k ≤ 1048576) :
    Calls Tryd.prog 3 #[bv0, v] w fun e w' => e = .returned (.bool true) ∧ Chg w w' [] := by
  have hge : Tryd.prog.eqGuardType Tryd.prog.depth 42 = false := by kernel_rfl
  have hgh : Tryd.prog.eqGuardType Tryd.prog.depth 47 = false := by kernel_rfl
  obtain ⟨hK, vp, vc, hve, hcells⟩ := hp.frm
  have HPS : Hid (∀ W, Chg w W [] → Ps W v k pv pn pf) := fun W h => hp.chg h
  have HSE : Hid (∀ i, i < k → Se w (pv i) (pn i) (pf i)) := hp.1
  have HCE : Hid (∀ i, i < k → ∃ g o, vp = some ⟨g, o, none⟩ ∧ g < w.heap.size ∧ w.cell? ⟨g, o + i, none⟩ = some (pv i)) := hcells
  have HBU : Hid (cN pn k ≤ 1048576) := hm
  have HKK : Hid (k ≤ 1048576) := hk
  have HB0 : Hid (bn0 ≤ 1048576) := hn0
  have HSB : Hid (Sl w bv0 bn0 bf0) := hb0
  have HW2 : Hid (2 ≤ w.heap.size) := hG.lt
  have HPN : Hid (∀ j, j < k → pn j ≤ 1048576) := fun j hj => Nat.le_trans (show pn j ≤ cN pn (j + 1) from Nat.le_add_left _ _) (Nat.le_trans (cN_mono pn hj) hm)
  obtain ⟨inf, hinf, hz, hs1, hs2⟩ := listRow
  have B0 : Blk (w.alloc (.cells (gvC gNil) 39)) w.heap.size (gvC gNil) 39 := Blk.new _ _ _
  have C0 : Chg w (w.alloc (.cells (gvC gNil) 39)) [] := (Chg.refl w []).alloc _
  have Q0 : SuI w (w.alloc (.cells (gvC gNil) 39)) w.heap.size gNil 0 (fun _ => 0) pn pf (.slice none 0 0) := ⟨Gv.none B0 _ _, fun _ _ _ _ => rfl, OwnR.nil _ _ _ _ _, fun _ => rfl, fun j hj => absurd hj (Nat.not_lt_zero _), Nat.le_refl _, C0⟩
  subst hve
  have HGL : Hid (∀ W, Chg w W [] → Gl W) := fun W h => hG.chg h (by simp) (by simp)
  clear hK hcells hp hm hk hn0 hb0 hG B0 C0
  go_enter Tryd.func3, Tryd.ntmps3
  go_wp2_with fail
  rw [zGiven]
  generalize w.alloc (.cells (gvC gNil) 39) = w0 at *
  obtain ⟨gb, hgb⟩ : ∃ b, w.heap.size = b := ⟨_, rfl⟩
  have HGB : Hid (w.heap.size = gb) := hgb
  rw [hgb] at Q0
  rw [hgb]
  clear hgb
  go_loopw [7, 6] (fun t tl wr => ∃ (i : Nat) (G : Nat → Value) (ov : Nat → Nat), i ≤ k ∧ t = .int .i64 (i : Int) ∧ SuI w wr gb G i ov pn pf tl) (fun t _ _ => (k - intOf t).toNat)
  case atStart => exact ⟨0, gNil, fun _ => 0, Nat.zero_le _, rfl, Q0⟩
  case round =>
    clear Q0
    obtain ⟨i, G, ov, hi, rfl, Q⟩ := hrel
    by_cases h : i < k
    · have hI : (i : Int) < (k : Int) := by omega
      have hI0 : (0 : Int) ≤ (i : Int) := by omega
      have e1 : IntKind.i64.wrap ((i : Int) + 1) = (i : Int) + 1 := by have := HKK.out; rw [IntKind.wrap_i64]; omega
      have HMI : Hid _ := mJ k i h
      have HI1 : Hid (i + 1 ≤ k) := h
      have HIK : Hid (i ≤ 2000000) := by have := HKK.out; show i ≤ 2000000; omega
      have SE1 := (HSE.out i h).chg Q.cc
      have HLT : Hid (∀ j, j < pn i → pf i j < 256) := (HSE.out i h).lt256
      have HPI : Hid (pn i ≤ 1048576) := HPN.out i h
      obtain ⟨g, o, rfl, hg, hc1⟩ := HCE.out i h
      have cx := cell_chg1 hc1 hg Q.cc
      have HGW : Hid (gb ≤ wr.heap.size) := Nat.le_of_lt Q.gv.gb.lt
      have HBY : Hid ((i + 1) * 24 ≤ 140737488355328) := by have := HIK.out; show (i + 1) * 24 ≤ 140737488355328; omega
      have H63 : Hid (i + 1 ≤ 9223372036854775807) := by have := HIK.out; show i + 1 ≤ 9223372036854775807; omega
      have HQ : Hid (SuI w wr gb G i ov pn pf u6) := Q
      have HGV : Hid (Gv wr gb gb G 0 39 22 5 1 i (fun j => pn j + 3) (fun j => bR (gvf (pf j) (pn j)))) := Q.gv
      clear hi h hg hc1 Q
      go_wp2_with fail
      refine (GivenBytes_ke gb (pn i) gb i (pv i) (pf i) G _ _ wr (by have := HPI.out; omega) HIK.out HGW.out SE1 HGV.out).mono ?_
      rintro e w1 ⟨r, rfl, oc, la, lb, rfl, hoc, c1, bo, G1⟩
      obtain ⟨g2, l2, cp2, bc, C2⟩ := HQ.out.bytes c1 HLT.out hoc bo G1
      have HGZ : Hid (∀ q, q < 30 → ¬ q = 0 → ¬ q = 1 → upV (upV G 0 la) (0 + 1) lb q = .slice none 0 0) := fun q h0 h1 h2 => by rw [upV_other _ _ _ _ h2, upV_other _ _ _ _ h1]; exact HQ.out.gz q h0 h1 h2
      have HZ0 : Hid (i = 0 → u6 = .slice none 0 0) := HQ.out.z0
      have HWG : Hid (w.heap.size ≤ gb) := HQ.out.wg
      have HCO : Hid (∃ C, Blk w1 oc C 5) := ⟨_, bo⟩
      obtain ⟨G', hG'⟩ : ∃ G', upV (upV G 0 la) (0 + 1) lb = G' := ⟨_, rfl⟩
      rw [hG'] at g2 HGZ
      have KA : Chg w1 (w1.alloc (.cells #[.slice (some ⟨oc, 0, none⟩) (pn i) (pn i + 3)] 22)) [] := (Chg.refl w1 []).alloc _
      have RX : Hid (Rl (w1.alloc (.cells #[.slice (some ⟨oc, 0, none⟩) (pn i) (pn i + 3)] 22)) 1 (.slice (some ⟨w1.heap.size, 0, none⟩) 1 1) 1 (fun _ => [.slice (some ⟨oc, 0, none⟩) (pn i) (pn i + 3)])) := rl_one1 w1 _ rfl _
      have HFI : Hid (∀ W2 a, OwnR W2 gb 22 1 a (i + 1) (catR (lR ov pn) i (fun _ => [.slice (some ⟨oc, 0, none⟩) (pn i) (pn i + 3)])) → Chg (w1.alloc (.cells #[.slice (some ⟨oc, 0, none⟩) (pn i) (pn i + 3)] 22)) W2 (ob u6) → SuI w W2 gb G' (i + 1) (fun j => if j < i then ov j else oc) pn pf a) := fun W2 a hO hC =>
        SuI.step HWG.out (g2.chg KA) HGZ.out (l2.chg KA (by simp)) HZ0.out (fun j hj => ⟨by obtain ⟨C, hC⟩ := (cp2 j hj).1; exact ⟨C, hC.chg KA (by simp)⟩, (cp2 j hj).2.chg KA (by simp)⟩) ⟨by obtain ⟨C, hC⟩ := HCO.out; exact ⟨C, hC.chg KA (by simp)⟩, bc.chg KA (by simp)⟩ (C2.trans1 KA) hC hO
      have OA : OwnR (w1.alloc (.cells #[.slice (some ⟨oc, 0, none⟩) (pn i) (pn i + 3)] 22)) gb 22 1 u6 i (lR ov pn) := l2.chg KA (by simp)
      have HBA : Hid (gb ≤ (w1.alloc (.cells #[.slice (some ⟨oc, 0, none⟩) (pn i) (pn i + 3)] 22)).heap.size) := Nat.le_trans HGW.out (Nat.le_trans c1.size KA.size)
      obtain ⟨c3, hc3⟩ : ∃ c, pn i + 3 = c := ⟨_, rfl⟩
      rw [hc3] at RX HFI OA HBA
      rw [hc3]
      obtain ⟨bn, hbn⟩ : ∃ b, pn i = b := ⟨_, rfl⟩
      rw [hbn] at RX HFI OA HBA
      rw [hbn]
      clear hG' G1 g2 l2 cp2 bc C2 KA HQ HGV c1 bo hoc SE1 cx hc3 hbn
      go_wp2_with (with_reducible refine wpList_append_r ?_ (.tmp 14) (.tmp 20) 23 ?_ 22 inf (.slice none 0 0) 1 24 Tryd.underlying23 hinf hz hs1 hs2 ?_ ?_ gb u6 (.slice (some ⟨w1.heap.size, 0, none⟩) 1 1) i 1 (lR ov pn) (fun _ => [.slice (some ⟨oc, 0, none⟩) bn c3]) ?_ ?_ OA RX.out ?_ HBY.out H63.out HBA.out ?_
                   · rfl
                   · rfl
                   · rfl
                   · decide
                   · rfl
                   · rfl
                   · decide
                   intro ng nc w2 O2 k2 _ _)
      exact ⟨⟨i + 1, G', fun j => if j < i then ov j else oc, HI1.out, by go_num, HFI.out _ _ O2 k2⟩, HMI.out⟩
    · obtain rfl : i = k := by omega
      have hI : ¬ (i : Int) < (i : Int) := by omega
      have HJS : Hid (∀ W, Ps W u6 i (fun j => .slice (some ⟨ov j, 0, none⟩) (pn j) (pn j + 3)) pn pf → Gl W → Calls Tryd.prog 12 #[u6] W fun e w' => e = .returned (.agg (yC 64 (sha (cF pn pf i) (cN pn i)))) ∧ Chg W w' []) := fun W h1 h2 => Join_s u6 i _ pn pf W h2 h1 (Nat.lt_of_le_of_lt HBU.out (by decide))
      have HJR : Hid (∀ W, Chg w W [] → Calls Tryd.prog 13 #[.slice vp i vc] W fun e w' => e = .returned (.agg (yC 64 (sha (cF pn pf i) (cN pn i)))) ∧ Chg W w' []) := fun W h => Join_r _ i pv pn pf W (HPS.out W h) HBU.out
      have HIK : Hid (i ≤ 2000000) := by have := HKK.out; show i ≤ 2000000; omega
      have HGW : Hid (gb ≤ wr.heap.size) := Nat.le_of_lt Q.gv.gb.lt
      have HGV : Hid (Gv wr gb gb G 0 39 22 5 1 i (fun j => pn j + 3) (fun j => bR (gvf (pf j) (pn j)))) := Q.gv
      have SB1 : Se wr bv0 bn0 bf0 := Or.inl (HSB.out.chg Q.cc (Off.nil _))
      have HLT : Hid (∀ j, j < bn0 → bf0 j < 256) := sl_lt HSB.out
      have HPS2 : Hid (Ps wr u6 i (fun j => .slice (some ⟨ov j, 0, none⟩) (pn j) (pn j + 3)) pn pf) := Q.ps (fun j hj => by have := HPN.out j hj; omega)
      have HLF : Hid (∀ j, j < i → ∀ q, q < pn j → pf j q < 256) := fun j hj => (HSE.out j hj).lt256
      have HAP : Hid (∀ x, x ∈ ob u6 → ¬ x ∈ gch gb G 0) := Q.apart
      have HGE : Hid (∀ x, x ∈ gch gb G 0 → gb ≤ x) := Q.gv.ge (Nat.le_refl _)
      have HQ : Hid (SuI w wr gb G i ov pn pf u6) := Q
      clear hi h
      go_wp2_with fail
      refine (GivenBytes_ke gb bn0 gb i bv0 bf0 G _ _ wr (by have := HB0.out; omega) HIK.out HGW.out SB1 HGV.out).mono ?_
      rintro e w1 ⟨r, rfl, oc, la, lb, rfl, hoc, c1, bo, G1⟩
      have C1 : Chg w w1 [] := HQ.out.cc.trans c1 (fun x hx => Or.inr (by have := HGE.out x hx; have := HGB.out; omega))
      have LI1 := HQ.out.li.chg c1 HAP.out
      have CP1 : ∀ j, j < i → Bs w1 (ov j) 0 (pn j) (pf j) := fun j hj => by
        obtain ⟨⟨C, hC⟩, hB⟩ := HQ.out.cp j hj
        exact hB.chg c1 (HQ.out.gv.off hC (by decide) (by decide))
      have PS1 : Ps w1 u6 i (fun j => .slice (some ⟨ov j, 0, none⟩) (pn j) (pn j + 3)) pn pf := by
        refine ⟨fun j hj => Or.inl (Or.inr ⟨ov j, 0, pn j + 3, rfl, by omega, by have := HPN.out j hj; omega, CP1 j hj⟩), ?_⟩
        rcases LI1.rl.2 with h2 | ⟨g, o, cap, e, h1, h2, h3, h4⟩
        · exact Or.inl h2
        · refine Or.inr ⟨g, o, cap, e, h1, h2, h3, fun j hj => ?_⟩
          have := h4 j hj 0 (.slice (some ⟨ov j, 0, none⟩) (pn j) (pn j + 3)) rfl
          rwa [Nat.mul_one, Nat.add_zero] at this
      have HGZ : Hid (∀ q, q < 30 → ¬ q = 0 → ¬ q = 1 → upV (upV G 0 la) (0 + 1) lb q = .slice none 0 0) := fun q h0 h1 h2 => by rw [upV_other _ _ _ _ h2, upV_other _ _ _ _ h1]; exact HQ.out.gz q h0 h1 h2
      have SC : Sl w1 (.slice (some ⟨oc, 0, none⟩) bn0 (bn0 + 3)) bn0 bf0 := Or.inr ⟨oc, 0, bn0 + 3, rfl, by omega, by have := HB0.out; omega, bo.lt, HLT.out, fun j hj => by
        rw [Nat.zero_add, bo.cell, ← yC_bR, yC_get _ _ _ (by omega)]
        unfold gvf
        rw [if_pos hj]⟩
      obtain ⟨G', hG'⟩ : ∃ G', upV (upV G 0 la) (0 + 1) lb = G' := ⟨_, rfl⟩
      rw [hG'] at G1 HGZ
      obtain ⟨c3, hc3⟩ : ∃ c, bn0 + 3 = c := ⟨_, rfl⟩
      have HC3 : Hid (bn0 + 3 = c3) := hc3
      rw [hc3] at SC
      rw [hc3]
      have HSS : Hid (∀ W v, Sl W v bn0 bf0 → Gl W → Calls Tryd.prog 10 #[v] W fun e w' => e = .returned (.agg (yC 64 (sha bf0 bn0))) ∧ Chg W w' []) := fun W v h1 h2 => Sum_s v bn0 bf0 W h2 h1 (by have := HB0.out; omega)
      have HSR : Hid (∀ W v, Sl W v bn0 bf0 → Calls Tryd.prog 11 #[v] W fun e w' => e = .returned (.agg (yC 64 (sha bf0 bn0))) ∧ Chg W w' []) := fun W v h1 => Sum_r v bn0 bf0 W (by have := HB0.out; omega) h1
      have HHS : Hid (∀ W, Ps W u6 i (fun j => .slice (some ⟨ov j, 0, none⟩) (pn j) (pn j + 3)) pn pf → Gl W → Calls Tryd.prog 14 #[u6] W fun e w' => e = .returned (.agg (yC 32 (sha (cF pn pf i) (cN pn i)))) ∧ Chg W w' []) := fun W h1 h2 => Short_s u6 _ W (fun W' h => HJS.out W' (h1.chg h) (h2.chg h (by simp) (by simp)))
      have HHR : Hid (∀ W, Chg w W [] → Calls Tryd.prog 15 #[.slice vp i vc] W fun e w' => e = .returned (.agg (yC 32 (sha (cF pn pf i) (cN pn i)))) ∧ Chg W w' []) := fun W h => Short_r _ _ W (fun W' h' => HJR.out W' (h.trans1 h'))
      have q1 : ∀ w, (Op.equalIn 10000 42 (.agg (yC 64 (sha bf0 bn0))) (.agg (yC 64 (sha bf0 bn0)))).run Tryd.prog w = .ok true w := fun w => by rw [eq_dig, eqy_self]
      have q2 : ∀ w, (Op.equalIn 10000 42 (.agg (yC 64 (sha (cF pn pf i) (cN pn i)))) (.agg (yC 64 (sha (cF pn pf i) (cN pn i))))).run Tryd.prog w = .ok true w := fun w => by rw [eq_dig, eqy_self]
      have q3 : ∀ w, (Op.equalIn 10000 47 (.agg (yC 32 (sha (cF pn pf i) (cN pn i)))) (.agg (yC 32 (sha (cF pn pf i) (cN pn i))))).run Tryd.prog w = .ok true w := fun w => by rw [eq_hash, eqh_self]
      obtain ⟨d1, hd1⟩ : ∃ d, yC 64 (sha bf0 bn0) = d := ⟨_, rfl⟩
      obtain ⟨d2, hd2⟩ : ∃ d, yC 64 (sha (cF pn pf i) (cN pn i)) = d := ⟨_, rfl⟩
      obtain ⟨d3, hd3⟩ : ∃ d, yC 32 (sha (cF pn pf i) (cN pn i)) = d := ⟨_, rfl⟩
      rw [hd1] at HSS HSR q1
      rw [hd2] at HJS HJR q2
      rw [hd3] at HHS HHR q3
      have GL1 := HGL.out _ C1
      clear hG' hc3 hd1 hd2 hd3 LI1 CP1 c1 bo hoc SB1 HQ HGV HAP HGE HPS2 Q
      go_wp2_with fail
      refine (HSS.out _ _ SC GL1).mono ?_
      rintro e w2 ⟨rfl, k2⟩
      replace C1 := C1.trans1 k2
      replace PS1 := PS1.chg k2
      replace G1 := G1.chg k2
      clear k2 SC GL1
      go_wp2_with fail
      refine (HSR.out _ _ (HSB.out.chg C1 (Off.nil _))).mono ?_
      rintro e w3 ⟨rfl, k3⟩
      replace C1 := C1.trans1 k3
      replace PS1 := PS1.chg k3
      replace G1 := G1.chg k3
      clear k3
      go_wp2_with fail
      refine (HJS.out _ PS1 (HGL.out _ C1)).mono ?_
      rintro e w4 ⟨rfl, k4⟩
      replace C1 := C1.trans1 k4
      replace PS1 := PS1.chg k4
      replace G1 := G1.chg k4
      clear k4
      go_wp2_with fail
      refine (HJR.out _ C1).mono ?_
      rintro e w5 ⟨rfl, k5⟩
      replace C1 := C1.trans1 k5
      replace PS1 := PS1.chg k5
      replace G1 := G1.chg k5
      clear k5
      go_wp2_with fail
      refine (HHS.out _ PS1 (HGL.out _ C1)).mono ?_
      rintro e w6 ⟨rfl, k6⟩
      replace C1 := C1.trans1 k6
      replace G1 := G1.chg k6
      clear k6 PS1
      go_wp2_with fail
      refine (HHR.out _ C1).mono ?_
      rintro e w7 ⟨rfl, k7⟩
      replace C1 := C1.trans1 k7
      replace G1 := G1.chg k7
      clear k7
      go_wp2_with fail
      refine (Intact_be gb gb (i + 1) G' _ _ _ (by have := HKK.out; omega) G1 HGZ.out ?_ ?_).mono ?_
      · intro j hj
        have h1 := HB0.out
        have h2 := HPN.out
        show (if j = i then bn0 + 3 else pn j + 3) ≤ _
        by_cases e : j = i
        · rw [if_pos e]; omega
        · rw [if_neg e]
          have := h2 j (by omega)
          omega
      · intro j hj
        by_cases e : j = i
        · rw [if_pos e]
          exact ⟨_, rfl, fun q _ => gvf_lt HLT.out q⟩
        · rw [if_neg e]
          exact ⟨_, rfl, fun q _ => gvf_lt (HLF.out j (by omega)) q⟩
      rintro e w8 ⟨rfl, k8⟩
      replace C1 := C1.trans1 k8
      clear k8
      go_wp2_with fail
      refine (alive_s _ (HGL.out _ C1)).mono ?_
      rintro e w9 ⟨rfl, k9⟩
      replace C1 := C1.trans1 k9
      clear k9
      go_wp2_with fail
      go_ret
      exact ⟨rfl, C1⟩
end Go.Proofs.YtjcgjhncdaplcaaDoor
