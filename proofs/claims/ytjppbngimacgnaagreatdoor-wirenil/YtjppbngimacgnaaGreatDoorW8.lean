/- wire.putPackage. -/
import Derived.Test.YtjppbngimacgnaaGreatDoorW6
set_option linter.unusedVariables false
set_option linter.unusedSimpArgs false
set_option linter.unnecessarySimpa false
namespace Go.Proofs.YtjppbngimacgnaaGreatDoor
open Go.RowKit

/-- The bytes of commitments, one behind the other. -/
def csB (d : Nat → Int) (h b : Nat → Nat → Nat) : Nat → Nat := fun j => cmB (d (j / 65)).toNat (h (j / 65)) (b (j / 65)) (j % 65)
def lsB (N : Nat) (d : Nat → Int) (h b : Nat → Nat → Nat) : Nat → Nat := cat (fun _ => N) 1 (csB d h b)
def pkB (N : Nat) (d : Nat → Int) (h b : Nat → Nat → Nat) (M : Nat) (t : Nat → Nat) : Nat → Nat := cat (lsB N d h b) (1 + 65 * N) (cat (b4 M) 4 t)
theorem ls_step (f : Nat → Nat) (m N : Nat) (d : Nat → Int) (h b : Nat → Nat → Nat) (i k : Nat) (hk : k < m + (1 + 65 * i) + 65) : cat (cat f m (lsB N d h b)) (m + (1 + 65 * i)) (cmB (d i).toNat (h i) (b i)) k = cat f m (lsB N d h b) k := by
  show (if k < m + (1 + 65 * i) then cat f m (lsB N d h b) k else cmB (d i).toNat (h i) (b i) (k - (m + (1 + 65 * i)))) = _
  by_cases a : k < m + (1 + 65 * i)
  · rw [if_pos a]
  · rw [if_neg a]
    unfold cat lsB cat csB
    rw [if_neg (show ¬ k < m by omega), if_neg (show ¬ k - m < 1 by omega), show (k - m - 1) / 65 = i by omega, show (k - m - 1) % 65 = k - (m + (1 + 65 * i)) by omega]
theorem Own.chx {w w' : World} {base x : Nat} {v : Value} {n : Nat} {f : Nat → Nat} (h : Own w base v n f) (hc : Chg w w' [x]) (hx : w.heap.size ≤ x) : Own w' base v n f := h.chg hc (fun k hk => by have := (h.ob_ge k hk).2; simp; omega)
set_option maxHeartbeats 8000000 in
set_option maxRecDepth 100000 in
theorem putPackage_s (v vl vt : Value) (base m N M : Nat) (f ft : Nat → Nat) (d : Nat → Int) (h b : Nat → Nat → Nat) (hm : m ≤ 100000000) (hN : N ≤ 255) (hM : M ≤ 1048575) (hd : ∀ j, j < N → 0 ≤ d j ∧ d j < 256) (w : World) (hO : Own w base v m f) (hb : base ≤ w.heap.size)
    (hL : ∀ W, Cb base w W → Cl W vl N d h b) (hT : ∀ W, Cb base w W → Sl W vt M ft) :
    Calls Tryz.prog 48 #[v, vl, vt] w fun e w' => ∃ v', e = .returned v' ∧ Own w' base v' (m + (1 + 65 * N) + (4 + M)) (cat f m (pkB N d h b M ft)) ∧ Cb base w w' := by
  have HO : Hid (Own w base v m f) := hO
  have HB : Hid (m ≤ 100000000 ∧ N ≤ 255 ∧ M ≤ 1048575 ∧ base ≤ w.heap.size) := ⟨hm, hN, hM, hb⟩
  have HD : Hid (∀ j, j < N → 0 ≤ d j ∧ d j < 256) := hd
  have HL : Hid (∀ W, Cb base w W → Cl W vl N d h b) := hL
  have HT : Hid (∀ W, Cb base w W → Sl W vt M ft) := hT
  have hL0 := hL w (Cb.refl _ _)
  obtain ⟨pv, cv, rfl, _⟩ := hL0.1.form
  obtain ⟨pt, ct, rfl⟩ : ∃ p c, vt = .slice p M c := by
    rcases hT w (Cb.refl _ _) with ⟨rfl, rfl⟩ | ⟨g, o, c, rfl, _⟩
    · exact ⟨_, _, rfl⟩
    · exact ⟨_, _, rfl⟩
  have eN : IntKind.u8.wrap (N : Int) = (N : Int) := by rw [u8_conv]; omega
  have S1 := sl_b1 (N : Int) ⟨by omega, by omega⟩ w
  have O1 := hO.chg ((Chg.refl w []).alloc (.cells #[.int .u8 (N : Int)] 5)) (fun _ _ => by simp)
  clear hm hN hM hb hd hL hT hL0 hO
  go_enter Tryz.func48, Tryz.ntmps48
  go_wp2_with (first
    | (with_reducible refine append_c ?_ (.tmp 9) (.tmp 13) ?_ base v _ m 1 f (fun _ => ((N : Nat) : Int).toNat) ?_ ?_ O1 S1 ?_ ?_ ?_
       · rfl
       · rfl
       · rfl
       · rfl
       · have := HB.out; omega
       · have := HB.out; simp; omega
       intro v2 w2 O2 q2))
  have C0 : Cb base w w2 := (Cb.none ((Chg.refl w []).alloc _)).trans q2
  have O3 : Own w2 base v2 (m + (1 + 65 * 0)) (cat f m (lsB N d h b)) := O2.cg (fun k hk => by
    unfold cat lsB cat
    by_cases a : k < m
    · rw [if_pos a, if_pos a]
    · rw [if_neg a, if_neg a, if_pos (show k - m < 1 by omega), Int.toNat_natCast])
  clear O1 S1 O2 q2
  --CUT0
  go_loopw [0, 17] (fun t0 t17 wr => ∃ i : Nat, i ≤ N ∧ t17 = .int .i64 (i : Int) ∧ Own wr base t0 (m + (1 + 65 * i)) (cat f m (lsB N d h b)) ∧ Cb base w wr) (fun _ t _ => ((N : Int) - intOf t).toNat)
  case atStart => exact ⟨0, by omega, rfl, O3, C0⟩
  case round =>
    clear O3 C0
    obtain ⟨i, hi, rfl, Oi, C⟩ := hrel
    by_cases h8 : i = N
    · subst h8
      have hI : ¬ (i : Int) < (i : Int) := by omega
      go_wp2_with fail
      --CUT1
      refine (putLength_s _ base (m + (1 + 65 * i)) M _ (by have := HB.out; omega) (by have := HB.out; omega) _ Oi (Nat.le_trans HB.out.2.2.2 C.size)).mono ?_
      rintro e w3 ⟨v3, rfl, O3, c3⟩
      have T3 := HT.out _ (C.trans c3)
      have hs3 : base ≤ w3.heap.size := Nat.le_trans (Nat.le_trans HB.out.2.2.2 C.size) c3.size
      go_wp2_with (first
        | (with_reducible refine append_c ?_ (.tmp 28) (.tmp 29) ?_ base v3 _ (m + (1 + 65 * i) + 4) M _ ft ?_ ?_ O3 T3 ?_ hs3 ?_
           · rfl
           · rfl
           · rfl
           · rfl
           · have := HB.out; omega
           intro v4 w4 O4 c4))
      go_ret
      refine ⟨_, rfl, ?_, (C.trans c3).trans c4⟩
      rw [Nat.add_assoc] at O4
      exact O4.cg (fun k _ => by
        rw [cat_as, cat_as]
        rfl)
    · have hlt : i < N := by omega
      have hI : (i : Int) < (N : Int) := by omega
      have hi0 : (0 : Int) ≤ (i : Int) := by omega
      have ew : IntKind.i64.wrap ((i : Int) + 1) = (i : Int) + 1 := by have := HB.out; rw [IntKind.wrap_i64]; omega
      have HI : Hid (i < N) := hlt
      have HM : Hid (((N : Int) - intOf (.int .i64 ((i : Int) + 1))).toNat < ((N : Int) - intOf (.int .i64 (i : Int))).toNat) := by show ((N : Int) - intOf (.int .i64 ((i : Int) + 1))).toNat < ((N : Int) - intOf (.int .i64 (i : Int))).toNat; simp [intOf] <;> omega
      have hc := HL.out _ C
      obtain ⟨p', c', e', hp⟩ := hc.1.form
      simp only [Value.slice.injEq] at e'
      obtain ⟨rfl, _, rfl⟩ := e'
      obtain ⟨g, o, rfl, hg, hr⟩ := hp i hlt
      have HH := hc.2 i hlt
      have HHd : Hid (∀ j, j < 32 → h i j < 256 ∧ b i j < 256) := HH
      clear h8 hlt hi hc hp HH
      go_wp2_with (first
        | (refine wpList_load_mid rfl 50 _ rfl g (o + i * 65) rfl (cF d h b i) _ hr Tryz.underlying50 rfl (by rw [(cF_ok (i + 1) d h b i (by omega)).1]; exact cmInfo) ?_)
        | (with_reducible refine alloc_w rfl 50 rfl (.agg (cmC 0 zN zN)) zeroCm (cmC 0 zN zN) rfl ?_; intro x w1 hx B k1)
        | (refine store_w B rfl 50 _ _ (cmC (d i) (h i) (b i)) rfl rfl rfl (by rw [cmC_size]; exact cmInfo) (by rw [cmC_size, cmC_size]) (cmC_one _ _ _) ?_; intro w2 B2 k2)
        | (refine wpList_load_row rfl 50 _ rfl x rfl 50 _ (0, 0) _ B2 Tryz.underlying50 rfl (by rw [cmC_size]; exact cmInfo) ?_))
      --CUT2
      have hsz : base ≤ wr.heap.size := Nat.le_trans HB.out.2.2.2 C.size
      have hx1 : wr.heap.size ≤ x := hx
      have Oj : Own w2 base u0 (m + (1 + 65 * i)) (cat f m (lsB N d h b)) := Oi.chg (k1.new k2 hx1) (fun _ _ => by simp)
      have Cj : Cb base wr w2 := (Cb.none k1).trans (Cb.of k2 (fun k hk => by simp at hk; omega))
      refine (putPair_s u0 base (m + (1 + 65 * i)) _ (d i) (h i) (b i) (HD.out i HI.out) (fun j hj => (HHd.out j hj).1) (fun j hj => (HHd.out j hj).2) (by have := HB.out; have := HI.out; omega) w2 Oj (Nat.le_trans hsz Cj.size)).mono ?_
      rintro e w3 ⟨v3, rfl, O3, c3, _⟩
      go_wp2_with fail
      refine ⟨⟨i + 1, HI.out, by go_num, ?_, (C.trans Cj).trans c3⟩, HM.out⟩
      have e1 : m + (1 + 65 * i) + 65 = m + (1 + 65 * (i + 1)) := by omega
      rw [← e1]
      exact O3.cg (fun k hk => ls_step f m N d h b i k hk)
end Go.Proofs.YtjppbngimacgnaaGreatDoor
