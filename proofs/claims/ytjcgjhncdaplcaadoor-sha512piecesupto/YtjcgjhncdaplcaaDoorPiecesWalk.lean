/- Sha512Pieces: the walk. -/
import Derived.Test.YtjcgjhncdaplcaaDoorH10
import Derived.Test.YtjcgjhncdaplcaaDoorH13
import Derived.Test.YtjcgjhncdaplcaaDoorH14
import Derived.Test.YtjcgjhncdaplcaaDoorH15
import Derived.Test.YtjcgjhncdaplcaaDoorChainWalk
set_option linter.unusedVariables false
set_option linter.unusedSimpArgs false
set_option linter.unnecessarySimpa false
namespace Go.Proofs.YtjcgjhncdaplcaaDoor
open Go.RowKit

/-- A []bool. -/
def Bls (w : World) (v : Value) (k : Nat) (b : Nat → Bool) : Prop :=
  (k = 0 ∧ v = .slice none 0 0) ∨ ∃ g o cap, v = .slice (some ⟨g, o, none⟩) k cap ∧ k ≤ cap ∧ cap ≤ 9223372036854775807 ∧ g < w.heap.size ∧ ∀ i, i < k → w.cell? ⟨g, o + i, none⟩ = some (.bool (b i))
theorem Bls.chg {w w' : World} {v : Value} {k : Nat} {b : Nat → Bool} (h : Bls w v k b) (hc : Chg w w' []) : Bls w' v k b := by
  rcases h with h | ⟨g, o, cap, rfl, h1, h2, h3, h4⟩
  · exact Or.inl h
  · exact Or.inr ⟨g, o, cap, rfl, h1, h2, Nat.lt_of_lt_of_le h3 hc.size, fun i hi => by rw [← h4 i hi]; simp only [World.cell?, hc.block g h3 (by simp)]⟩
theorem own_hs {w : World} {base : Nat} {v : Value} {n : Nat} {f : Nat → Nat} {h : Nat} {F : Nat → Nat} {N : Nat} (O : Own w base v n f) (H : Hs w h F N) : ¬ h ∈ ob v := by
  obtain ⟨⟨_, h1⟩, _⟩ := O
  obtain ⟨t, B, _⟩ := H
  rcases h1 with ⟨rfl, _⟩ | ⟨g, cap, cur, rfl, hg, hh, _⟩
  · simp [ob, Value.ownBlock]
  · intro hx
    have e : h = g := by simpa [ob, Value.ownBlock] using hx
    subst e
    unfold Blk at B
    rw [B] at hh
    simp only [Option.some.injEq, Obj.cells.injEq] at hh
    exact absurd hh.2.1 (by decide)
theorem own_len {w : World} {base : Nat} {v : Value} {n : Nat} {f : Nat → Nat} (O : Own w base v n f) : ∃ p c, v = .slice p n c := by
  obtain ⟨⟨_, h1⟩, _⟩ := O
  rcases h1 with ⟨rfl, rfl⟩ | ⟨g, cap, cur, rfl, _⟩
  · exact ⟨none, 0, rfl⟩
  · exact ⟨_, _, rfl⟩
theorem hs_begin {w : World} {h : Nat} (A : Blk w h (hC IV (fun _ => 0) 0) 96) (pn : Nat → Nat) (pf : Nat → Nat → Nat) : Hs w h (cF pn pf 0) (cN pn 0) := by
  have H00 : Hs w h (fun _ => 0) 0 := ⟨fun _ => 0, A, fun _ _ => Nat.zero_lt_succ _, fun j hj => absurd hj (Nat.not_lt_zero _)⟩
  unfold cF cN
  exact H00
theorem own_begin (w : World) (b : Nat) (pn : Nat → Nat) (pf : Nat → Nat → Nat) : Own w b (.slice none 0 0) (cN pn 0) (cF pn pf 0) := Own.nil _ _ _
theorem cN_succ (pn : Nat → Nat) (i : Nat) : cN pn (i + 1) = cN pn i + pn i := rfl
theorem cF_succ (pn : Nat → Nat) (pf : Nat → Nat → Nat) (i : Nat) : cF pn pf (i + 1) = cat (cF pn pf i) (cN pn i) (pf i) := rfl
set_option maxHeartbeats 16000000 in
set_option maxRecDepth 100000 in
theorem pieces_w (v bv : Value) (k : Nat) (pv : Nat → Value) (pn : Nat → Nat) (pf : Nat → Nat → Nat) (bk : Nat) (bf : Nat → Bool) (w : World) (hG : Gl w) (hp : Ps w v k pv pn pf) (hb : Bls w bv bk bf) (hm : cN pn k ≤ 1048576) :
    Calls Tryd.prog 7 #[v, bv] w fun e w' => e = .returned (.bool true) ∧ Chg w w' [] := by
  have hlen : ∃ p c, v = .slice p k c := by
    rcases hp.2 with ⟨rfl, rfl⟩ | ⟨g, o, cap, rfl, _⟩
    · exact ⟨none, 0, rfl⟩
    · exact ⟨_, _, rfl⟩
  obtain ⟨vp, vc, rfl⟩ := hlen
  have hlenb : ∃ p c, bv = .slice p bk c := by
    rcases hb with ⟨rfl, rfl⟩ | ⟨g, o, cap, rfl, _⟩
    · exact ⟨none, 0, rfl⟩
    · exact ⟨_, _, rfl⟩
  obtain ⟨bp, bc, rfl⟩ := hlenb
  have hkb : k ≤ 9223372036854775807 := by
    rcases hp.2 with ⟨rfl, _⟩ | ⟨g, o, cap, _, h1, h2, _⟩ <;> omega
  have hbb : bk ≤ 9223372036854775807 := by
    rcases hb with ⟨rfl, _⟩ | ⟨g, o, cap, _, h1, h2, _⟩ <;> omega
  have hl := hG.lt
  have hge : Tryd.prog.eqGuardType Tryd.prog.depth 42 = false := by kernel_rfl
  go_enter Tryd.func7, Tryd.ntmps7
  go_wp2_with fail
  refine (alive_s _ hG).mono ?_
  rintro e v1 ⟨rfl, k1⟩
  go_wp2_with fail
  refine (New_s _ (hG.chg k1 (by simp) (by simp))).mono ?_
  rintro e v2 ⟨h0, rfl, k2, hh0, A⟩
  have C0 : Chg w v2 [] := k1.trans1 k2
  have hh1 : w.heap.size ≤ h0 := Nat.le_trans k1.size hh0
  have H0 := hs_begin A pn pf
  have O0 := own_begin v2 w.heap.size pn pf
  clear A k1 k2 hh0
  go_wp2_with fail
  go_loopw [7, 5, 6] (fun t th ta wr => ∃ (i hb : Nat) (av : Value), i ≤ k ∧ t = .int .i64 (i : Int) ∧ th = .pointer (some ⟨hb, 0, none⟩) ∧ av = ta ∧ w.heap.size ≤ hb ∧ Own wr w.heap.size av (cN pn i) (cF pn pf i) ∧ Hs wr hb (cF pn pf i) (cN pn i) ∧ Chg w wr []) (fun t _ _ _ => ((k : Int) - intOf t).toNat)
  case atStart => exact ⟨0, h0, _, by omega, rfl, rfl, rfl, hh1, O0, H0, C0⟩
  case round =>
    obtain ⟨i, y, av, hi, rfl, rfl, rfl, hy, OA, HH, CC⟩ := hrel
    clear O0 H0 C0 hh1
    have hGr := hG.chg CC (by simp) (by simp)
    by_cases h8 : i < k
    · have hI : (i : Int) < (k : Int) := by omega
      have e1 : IntKind.i64.wrap ((i : Int) + 1) = (i : Int) + 1 := by rw [IntKind.wrap_i64]; omega
      have hpi := hp.1 i h8
      have hp2 := (hp.chg CC).2
      have hsm : cN pn (i + 1) ≤ 1048576 := Nat.le_trans (cN_mono pn (show i + 1 ≤ k by omega)) hm
      have hNs : cN pn (i + 1) = cN pn i + pn i := cN_succ pn i
      have hFs : cF pn pf (i + 1) = cat (cF pn pf i) (cN pn i) (pf i) := cF_succ pn pf i
      rcases hp2 with ⟨hz, _⟩ | ⟨g, o, cap, he, _, _, hgl, hcell⟩
      · omega
      · simp only [Value.slice.injEq] at he
        obtain ⟨rfl, _, rfl⟩ := he
        have cx := hcell i h8
        have HW := Write_e y (cN pn i) (pn i) (cF pn pf i) (pf i) (pv i) wr hGr HH (by omega) (hpi.off CC y hy) (by omega)
        have HWH : Hid (Calls Tryd.prog 28 #[.pointer (some ⟨y, 0, none⟩), pv i] wr fun e w' => e = .returned (.tuple #[]) ∧ Chg wr w' [y] ∧ Hs w' y (cat (cF pn pf i) (cN pn i) (pf i)) (cN pn i + pn i)) := HW
        clear HW
        go_wp2_with fail
        refine HWH.out.mono ?_
        rintro e v3 ⟨rfl, k3, H3⟩
        have K3 : Chg w v3 [] := CC.new k3 hy
        have OA3 := OA.chg k3 (fun j hj hx => own_hs OA HH (by simp at hx; subst hx; exact hj))
        replace cx : v3.cell? ⟨g, o + i, none⟩ = some (pv i) := by
          rcases (hp.chg K3).2 with ⟨hz, _⟩ | ⟨g', o', cap', he, _, _, _, hc⟩
          · omega
          · simp only [Value.slice.injEq, Option.some.injEq, Addr.mk.injEq] at he
            obtain ⟨⟨rfl, rfl, _⟩, _, _⟩ := he
            exact hc i h8
        have hpi3 := hpi.chg K3
        clear HWH OA HH hcell CC hGr k3
        have key : ∀ a1 w1, Own w1 w.heap.size a1 (cN pn i + pn i) (cat (cF pn pf i) (cN pn i) (pf i)) → Chg v3 w1 (ob av) → Own w1 w.heap.size a1 (cN pn (i + 1)) (cF pn pf (i + 1)) ∧ Hs w1 y (cF pn pf (i + 1)) (cN pn (i + 1)) ∧ Chg w w1 [] := fun a1 w1 O1 q1 => by
          rw [hNs, hFs]
          exact ⟨O1, H3.chg q1 (own_hs OA3 H3), K3.trans q1 (fun j hj => Or.inr (OA3.ob_ge j hj).1)⟩
        have KEY : Hid (∀ a1 w1, Own w1 w.heap.size a1 (cN pn i + pn i) (cat (cF pn pf i) (cN pn i) (pf i)) → Chg v3 w1 (ob av) → Own w1 w.heap.size a1 (cN pn (i + 1)) (cF pn pf (i + 1)) ∧ Hs w1 y (cF pn pf (i + 1)) (cN pn (i + 1)) ∧ Chg w w1 []) := key
        have HSM : Hid (cN pn i + pn i ≤ 1048576) := by show cN pn i + pn i ≤ 1048576; omega
        clear key hNs hFs
        by_cases hbk : bk = 0
        · subst hbk
          go_wp2_with (refine append_e rfl (.tmp 27) (.tmp 31) rfl w.heap.size av (pv i) (cN pn i) (pn i) (cF pn pf i) (pf i) rfl rfl OA3 hpi3 (Nat.le_trans HSM.out (by decide)) K3.size ?_; intro a1 w1 O1 q1; obtain ⟨O2, H2, K2⟩ := KEY.out a1 w1 O1 q1)
          exact ⟨⟨i + 1, y, _, by omega, by go_num, rfl, rfl, hy, O2, H2, K2⟩, by simp [intOf]; omega⟩
        · obtain ⟨r, hr⟩ : ∃ r, i % bk = r := ⟨_, rfl⟩
          have hrl : r < bk := by rw [← hr]; exact Nat.mod_lt _ (by omega)
          have er : (i : Int).tmod (bk : Int) = (r : Int) := by rw [Int.tmod_eq_emod_of_nonneg (by omega), ← hr]; exact (Int.natCast_emod i bk).symm
          have hb0 : (0 : Int) < (bk : Int) := by omega
          have hbn : ¬ (bk : Int) = 0 := by omega
          have hrI : (r : Int) < (bk : Int) := by omega
          have HBC : Hid (∀ w1, Chg w w1 [] → ∃ bg bo, bp = some ⟨bg, bo, none⟩ ∧ w1.cell? ⟨bg, bo + r, none⟩ = some (.bool (bf r))) := fun w1 K1 => by
            rcases hb.chg K1 with ⟨hz, _⟩ | ⟨bg, bo, cap', he, _, _, _, hc⟩
            · exact absurd hz hbk
            · simp only [Value.slice.injEq] at he
              exact ⟨bg, bo, he.1, hc r hrl⟩
          obtain ⟨bg, bo, rfl, _⟩ := HBC.out w (Chg.refl w [])
          have HBC2 : Hid (∀ w1, Chg w w1 [] → w1.cell? ⟨bg, bo + r, none⟩ = some (.bool (bf r))) := fun w1 K1 => by
            obtain ⟨bg', bo', he, hc⟩ := HBC.out w1 K1
            simp only [Option.some.injEq, Addr.mk.injEq] at he
            obtain ⟨rfl, rfl, _⟩ := he
            exact hc
          clear HBC hr hbk
          cases hbt : bf r
          · go_wp2_with (refine append_e rfl (.tmp 27) (.tmp 31) rfl w.heap.size av (pv i) (cN pn i) (pn i) (cF pn pf i) (pf i) rfl rfl OA3 hpi3 (Nat.le_trans HSM.out (by decide)) K3.size ?_; intro a1 w1 O1 q1; obtain ⟨O2, H2, K2⟩ := KEY.out a1 w1 O1 q1; have cb := HBC2.out w1 K2; rw [hbt] at cb)
            exact ⟨⟨i + 1, y, _, by omega, by go_num, rfl, rfl, hy, O2, H2, K2⟩, by simp [intOf]; omega⟩
          · go_wp2_with (refine append_e rfl (.tmp 27) (.tmp 31) rfl w.heap.size av (pv i) (cN pn i) (pn i) (cF pn pf i) (pf i) rfl rfl OA3 hpi3 (Nat.le_trans HSM.out (by decide)) K3.size ?_; intro a1 w1 O1 q1; obtain ⟨O2, H2, K2⟩ := KEY.out a1 w1 O1 q1; have cb := HBC2.out w1 K2; rw [hbt] at cb)
            clear cb HBC2 KEY O1 q1 OA3 hpi3 H3 K3
            generalize hN1 : cN pn (i + 1) = N at *
            generalize hF1 : cF pn pf (i + 1) = F at *
            clear HSM
            have hes := eqy_self (sha F N)
            obtain ⟨t, B, ht1, ht2⟩ := H2
            refine (State_s y N _ t _ (by unfold U; omega) ht1 B).mono ?_
            rintro e w2 ⟨z, rfl, hz, k4, BZ⟩
            have H4 : Hs w2 y F N := ⟨t, B.chg k4 (by simp), ht1, ht2⟩
            have O4 := O2.chg k4 (fun j _ hx => by simp at hx)
            have K4 := K2.trans1 k4
            clear B O2 K2 k4
            go_wp2_with fail
            refine (Resume_s N _ t (some ⟨z, 0, none⟩) (N % 128) _ (by omega) (Or.inr ⟨z, 0, N % 128, rfl, Nat.le_refl _, by omega, BZ.lt, fun j hj => ht1 j (by omega), fun j hj => by rw [Nat.zero_add, BZ.cell, yC_get _ _ _ hj]⟩)).mono ?_
            rintro e w3 ⟨h', t', rfl, hh', k5, ht', ht'', B'⟩
            have H5 : Hs w3 h' F N := ⟨t', B', ht', fun j hj => (ht'' j hj).trans (ht2 j hj)⟩
            have H6 := H4.chg k5 (by simp)
            have O5 := O4.chg k5 (fun j _ hx => by simp at hx)
            have hyh : w.heap.size ≤ h' := Nat.le_trans K4.size hh'
            have K5 := K4.trans1 k5
            clear B' H4 O4 K4 k5 BZ ht' ht'' ht1 ht2 hh' hz
            go_wp2_with fail
            refine (num_s 0 _ (by omega) (by omega)).mono ?_
            rintro e w3' ⟨rfl, rfl⟩
            go_wp2_with fail
            refine (Sum_h y N F _ (hG.chg K5 (by simp) (by simp)) H6 (by omega)).mono ?_
            rintro e w4 ⟨rfl, k6⟩
            have H7 := H5.chg k6 (by simp)
            have O6 := O5.chg k6 (fun j _ hx => by simp at hx)
            have K6 := K5.trans1 k6
            clear H5 H6 O5 K5 k6
            go_wp2_with fail
            refine (Sum_s a1 N F _ (hG.chg K6 (by simp) (by simp)) O6.sl (by omega)).mono ?_
            rintro e w5 ⟨rfl, k7⟩
            have H8 := H7.chg k7 (by simp)
            have O7 := O6.chg k7 (fun j _ hx => by simp at hx)
            have K7 := K6.trans1 k7
            clear H7 O6 K6 k7
            go_wp2_with fail
            exact ⟨⟨i + 1, h', _, by omega, by go_num, rfl, rfl, hyh, by rw [hN1, hF1]; exact O7, by rw [hN1, hF1]; exact H8, K7⟩, by simp [intOf]; omega⟩
    · have h9 : i = k := by omega
      subst h9
      have hI : ¬ (i : Int) < (i : Int) := by omega
      obtain ⟨ap, ac, rfl⟩ := own_len OA
      have hJ := hm
      generalize hN1 : cN pn i = N at *
      generalize hF1 : cF pn pf i = F at *
      have hes := eqy_self (sha F N)
      have hwu : IntKind.u64.wrap (N : Int) = (N : Int) := by rw [IntKind.wrap_u64]; omega
      go_wp2_with fail
      refine (Sum_h y N F _ hGr HH (by omega)).mono ?_
      rintro e w4 ⟨rfl, k6⟩
      have H7 := HH.chg k6 (by simp)
      have O6 := OA.chg k6 (fun j _ hx => by simp at hx)
      have K6 := CC.trans1 k6
      clear HH OA CC k6 hGr
      go_wp2_with fail
      refine (Sum_s _ N F _ (hG.chg K6 (by simp) (by simp)) O6.sl (by omega)).mono ?_
      rintro e w5 ⟨rfl, k7⟩
      have H8 := H7.chg k7 (by simp)
      have O7 := O6.chg k7 (fun j _ hx => by simp at hx)
      have K7 := K6.trans1 k7
      clear H7 O6 K6 k7
      go_wp2_with fail
      refine (Join_s _ i pv pn pf _ (hG.chg K7 (by simp) (by simp)) (hp.chg K7) (by rw [hN1]; omega)).mono ?_
      rintro e w6 ⟨rfl, k8⟩
      rw [hN1, hF1]
      have H9 := H8.chg k8 (by simp)
      have O8 := O7.chg k8 (fun j _ hx => by simp at hx)
      have K8 := K7.trans1 k8
      clear H8 O7 K7 k8
      go_wp2_with fail
      refine (Sum_s _ N F _ (hG.chg K8 (by simp) (by simp)) O8.sl (by omega)).mono ?_
      rintro e w7 ⟨rfl, k9⟩
      have H10 := H9.chg k9 (by simp)
      have K9 := K8.trans1 k9
      clear H9 O8 K8 k9
      obtain ⟨t, B, ht1, ht2⟩ := H10
      go_wp2_with fail
      refine (Len_s y N _ t _ B).mono ?_
      rintro e w8 ⟨rfl, rfl⟩
      go_wp2_with fail
      go_ret
      exact ⟨rfl, K9⟩
end Go.Proofs.YtjcgjhncdaplcaaDoor
