/- Joined: W3, W4, W8. -/
import Derived.Test.YtgjclegpnbjlkaaGreatDoorMwT
import Derived.Lib.AppendZerosOnto
import Derived.Deep.DeepAppendWide
import Derived.Test.YtgjclegpnbjlkaaGreatDoorMwU
/- slices.Grow of nothing, slices.Concat of two lists of bytes. -/
set_option linter.unusedVariables false
set_option linter.unusedSimpArgs false
set_option linter.unnecessarySimpa false
namespace Go.Proofs.YtgjclegpnbjlkaaGreatDoor
open Go.RowKit

theorem grow_w {w : World} {ops : Array Oper} {rest : List Oper} {o : Oper} {a : Act} {Q : Exit → Act → World → Prop} (hgd : o.guard = none) (so xo : Operand) (ho : o.op = .call { callee := .builtin .append, args := #[so, xo], argTypes := #[29, 3] })
    (vs vx v' : Value) (w' : World) (hs : a.eval so = vs) (hx : a.eval xo = vx) (hrun : ∀ ty, (Builtin.append_ #[29, 3] ty #[vs, vx]).run Tryz.prog w = .ok v' w') (h : wpList Tryz.prog ops Q rest (a.put o.dst v') w') : wpList Tryz.prog ops Q (o :: rest) a w := by
  refine wpList_plain hgd fun K hK => ?_
  unfold Oper.wp execOp
  simp only [ho, resolve, invoke, builtin, Sem.run_bind, Sem.run_pure, Result.andThen_ok, List.map_toArray, List.map_cons, List.map_nil, hs, hx, hrun]
  exact hK _ _ h
set_option maxHeartbeats 4000000 in
set_option maxRecDepth 100000 in
theorem Grow_s (n : Nat) (h0 : 0 < n) (hn : n ≤ 1000000000) (w : World) :
    Calls Tryz.prog 78 #[.slice none 0 0, .int .i64 (n : Int)] w fun e w' => ∃ v', e = .returned v' ∧ (∀ f, Own w' w.heap.size v' 0 f) ∧ Chg w w' [] := by
  obtain ⟨i, hi, hz, h1, h2⟩ := u8Row
  have hge := grownCap_ge w n 0 5
  have hle := grownCap_le_maxLen w n 0 5 (by unfold maxLen; omega)
  obtain ⟨G, hG⟩ : ∃ G, G = grownCap w n 0 5 := ⟨_, rfl⟩
  rw [← hG] at hge hle
  have hrz : ∃ C : Array Value, C.size = G ∧ ∀ ty, (Builtin.append_ #[29, 3] ty #[.slice none 0 0, .int .i64 (n : Int)]).run Tryz.prog w = .ok (.slice (some ⟨w.heap.size, 0, none⟩) n G) (w.drew.alloc (.cells C 5)) := by
    have q := fun ty => Lib.run_append_grow_zeros w 29 3 ty 5 i (.int .u8 0) .i64 .i64 Tryz.underlying29 Tryz.underlying3 hi hz none 0 0 [] (run_firstCells_none w.drew i.size 0 0 0) n h0 (by omega) (by omega) (by omega) (by rw [h2]; omega) (by rw [h2]; exact growslice_fits_wide (by omega) (by omega))
    simp only [Nat.zero_add, ← hG] at q
    exact ⟨_, by simp [Builtin.zeroCells, Value.cells]; omega, q⟩
  clear hG
  obtain ⟨C, hC, hrun⟩ := hrz
  have ew : IntKind.i64.wrap (n : Int) = (n : Int) := by rw [IntKind.wrap_i64]; omega
  have hpos : (0 : Int) < (n : Int) := by omega
  have hnn : ¬ (n : Int) < 0 := by omega
  have HG : Hid (n ≤ G ∧ G ≤ maxLen ∧ C.size = G) := ⟨hge, hle, hC⟩
  have hG0 : (0 : Int) ≤ (G : Int) := by omega
  clear hz hi h0 hn hge hle hC
  go_enter Tryz.func78, Tryz.ntmps78
  go_wp2_with (with_reducible refine grow_w ?_ (.tmp 20) (.tmp 21) ?_ (.slice none 0 0) (.int .i64 (n : Int)) _ _ ?_ ?_ hrun ?_
               · rfl
               · rfl
               · rfl
               · rfl)
  go_ret
  refine ⟨_, rfl, fun f => ⟨⟨by simp [yL], Or.inr ⟨w.heap.size, G, C, rfl, Nat.le_refl _, ?_, by omega, HG.out.2.1, by rw [HG.out.2.2, Nat.mul_one], by simp [yL]⟩⟩, fun i hi => by omega⟩, ((Chg.refl w []).drew).alloc _⟩
  exact Blk.new w.drew C 5
end Go.Proofs.YtgjclegpnbjlkaaGreatDoor

/- slices.Concat of two lists of bytes. -/
namespace Go.Proofs.YtgjclegpnbjlkaaGreatDoor
open Go.RowKit

theorem Sl.fm {w : World} {v : Value} {n : Nat} {f : Nat → Nat} (h : Sl w v n f) : ∃ p c, v = .slice p n c := by
  rcases h with ⟨rfl, rfl⟩ | ⟨g, o, c, rfl, _⟩
  · exact ⟨_, _, rfl⟩
  · exact ⟨_, _, rfl⟩
def szf (n1 n2 i : Nat) : Nat := if i = 0 then 0 else if i = 1 then n1 else n1 + n2
def ctf (f1 f2 : Nat → Nat) (n1 i : Nat) : Nat → Nat := if i < 2 then f1 else cat f1 n1 f2
set_option maxHeartbeats 8000000 in
set_option maxRecDepth 100000 in
theorem Concat_2 (g c : Nat) (v1 v2 : Value) (n1 n2 : Nat) (f1 f2 : Nat → Nat) (h0 : 0 < n1 + n2) (hn : n1 + n2 ≤ 1000000000) (w : World) (hB : Blk w g #[v1, v2] 29) (h1 : Sl w v1 n1 f1) (h2 : Sl w v2 n2 f2) :
    Calls Tryz.prog 30 #[.slice (some ⟨g, 0, none⟩) 2 c] w fun e w' => ∃ v', e = .returned v' ∧ Own w' w.heap.size v' (n1 + n2) (cat f1 n1 f2) ∧ Chg w w' [] := by
  have HN : Hid (0 < n1 + n2 ∧ n1 + n2 ≤ 1000000000) := ⟨h0, hn⟩
  have H1 : Hid (∀ W, Chg w W [] → Sl W v1 n1 f1) := fun W h => h1.chg h (Off.nil _)
  have H2 : Hid (∀ W, Chg w W [] → Sl W v2 n2 f2) := fun W h => h2.chg h (Off.nil _)
  have HC1 : Hid (∀ W, Chg w W [] → W.cell? ⟨g, 0, none⟩ = some v1) := fun W h => by rw [(hB.chg h (by simp)).cell]; rfl
  have HC2 : Hid (∀ W, Chg w W [] → W.cell? ⟨g, 1, none⟩ = some v2) := fun W h => by rw [(hB.chg h (by simp)).cell]; rfl
  obtain ⟨p1, c1, rfl⟩ := h1.fm
  obtain ⟨p2, c2, rfl⟩ := h2.fm
  clear h0 hn h1 h2 hB
  go_enter Tryz.func30, Tryz.ntmps30
  go_wp2_with fail
  --CUT0
  go_loopw [3, 11] (fun t3 t11 wr => ∃ i : Nat, i ≤ 2 ∧ t3 = .int .i64 ((szf n1 n2 i : Nat) : Int) ∧ t11 = .int .i64 (i : Int) ∧ wr = w) (fun _ t _ => (2 - intOf t).toNat)
  case atStart => exact ⟨0, by omega, rfl, rfl, rfl⟩
  case round =>
    obtain ⟨i, hi, rfl, rfl, rfl⟩ := hrel
    obtain ⟨w0, hw0⟩ : ∃ z, z = wr := ⟨_, rfl⟩
    subst hw0
    obtain rfl | rfl | rfl : i = 0 ∨ i = 1 ∨ i = 2 := by omega
    · have ca := HC1.out _ (Chg.refl _ _)
      have ew : IntKind.i64.wrap ((n1 : Nat) : Int) = ((n1 : Nat) : Int) := by have := HN.out; rw [IntKind.wrap_i64]; omega
      have es : szf n1 n2 0 = 0 := rfl
      have hl : ¬ ((n1 : Nat) : Int) < 0 := by omega
      rw [es]
      go_wp2_with fail
      --CUT1
      exact ⟨⟨1, by omega, rfl, rfl, by trivial⟩, by decide⟩
    · have ca := HC2.out _ (Chg.refl _ _)
      have es : szf n1 n2 1 = n1 := rfl
      have ew : IntKind.i64.wrap (((n1 : Nat) : Int) + ((n2 : Nat) : Int)) = ((n1 : Nat) : Int) + ((n2 : Nat) : Int) := by have := HN.out; rw [IntKind.wrap_i64]; omega
      have hl : ¬ ((n1 : Nat) : Int) + ((n2 : Nat) : Int) < 0 := by omega
      rw [es]
      go_wp2_with fail
      --CUT2
      exact ⟨⟨2, by omega, by show _ = Value.int .i64 ((n1 + n2 : Nat) : Int); simp, rfl, by trivial⟩, by decide⟩
    · have es : szf n1 n2 2 = n1 + n2 := rfl
      rw [es]
      go_wp2_with fail
      --CUT3
      refine (Grow_s (n1 + n2) HN.out.1 HN.out.2 _).mono ?_
      rintro e w2 ⟨v', rfl, O, k⟩
      have O0 : Own w2 w0.heap.size v' (szf n1 n2 0) (ctf f1 f2 n1 0) := O _
      have HB : Hid (w0.heap.size ≤ w2.heap.size) := k.size
      clear O
      go_wp2_with fail
      --CUT4
      go_loopw [6, 27] (fun t6 t27 wq => ∃ i : Nat, i ≤ 2 ∧ t27 = .int .i64 (i : Int) ∧ Own wq w0.heap.size t6 (szf n1 n2 i) (ctf f1 f2 n1 i) ∧ Chg w0 wq []) (fun _ t _ => (2 - intOf t).toNat)
      case atStart => exact ⟨0, by omega, rfl, O0, k⟩
      case round =>
        clear O0 k HB
        obtain ⟨i, hi, rfl, Oi, C⟩ := hrel
        obtain rfl | rfl | rfl : i = 0 ∨ i = 1 ∨ i = 2 := by omega
        · have ca := HC1.out _ C
          have HS := H1.out _ C
          go_wp2_with (first
            | (with_reducible refine append_y ?_ (.tmp 31) (.tmp 32) ?_ w0.heap.size _ _ _ n1 _ f1 ?_ ?_ Oi HS ?_ ?_ ?_
               · rfl
               · rfl
               · rfl
               · rfl
               · have := HN.out; unfold szf; simp; omega
               · exact C.size
               intro v5 w5 O5 k5))
          have O6 : Own w5 w0.heap.size v5 (szf n1 n2 1) (ctf f1 f2 n1 1) := by
            have e : szf n1 n2 0 + n1 = szf n1 n2 1 := Nat.zero_add n1
            rw [← e]
            exact O5.cg (fun j hj => by show cat _ 0 f1 j = f1 j; rw [cat_zero])
          exact ⟨⟨1, by omega, rfl, O6, C.trans k5 (fun x hx => Or.inr (Oi.ob_ge x hx).1)⟩, by decide⟩
        · have ca := HC2.out _ C
          have HS := H2.out _ C
          go_wp2_with (first
            | (with_reducible refine append_y ?_ (.tmp 31) (.tmp 32) ?_ w0.heap.size _ _ _ n2 _ f2 ?_ ?_ Oi HS ?_ ?_ ?_
               · rfl
               · rfl
               · rfl
               · rfl
               · have := HN.out; unfold szf; simp; omega
               · exact C.size
               intro v5 w5 O5 k5))
          exact ⟨⟨2, by omega, rfl, O5, C.trans k5 (fun x hx => Or.inr (Oi.ob_ge x hx).1)⟩, by decide⟩
        · go_wp2_with fail
          go_ret
          exact ⟨_, rfl, Oi, C⟩
end Go.Proofs.YtgjclegpnbjlkaaGreatDoor

/- wire.putPackage. -/
namespace Go.Proofs.YtgjclegpnbjlkaaGreatDoor
open Go.RowKit

/-- The bytes of commitments, one behind the other. -/
def csB (d : Nat → Int) (h b : Nat → Nat → Nat) : Nat → Nat := fun j => cmB (d (j / 65)).toNat (h (j / 65)) (b (j / 65)) (j % 65)
def lsB (N : Nat) (d : Nat → Int) (h b : Nat → Nat → Nat) : Nat → Nat := cat (fun _ => N) 1 (csB d h b)
def pkB (N : Nat) (d : Nat → Int) (h b : Nat → Nat → Nat) (M : Nat) (t : Nat → Nat) : Nat → Nat := cat (lsB N d h b) (1 + 65 * N) (cat (b4 M) 4 t)
theorem ls_step (f : Nat → Nat) (m N : Nat) (d : Nat → Int) (h b : Nat → Nat → Nat) (i k : Nat) (hk : k < m + (1 + 65 * i) + 65) : cat (cat f m (lsB N d h b)) (m + (1 + 65 * i)) (cmB (d i).toNat (h i) (b i)) k = cat f m (lsB N d h b) k := by
  show (if k < m + (1 + 65 * i) then cat f m (lsB N d h b) k else cmB (d i).toNat (h i) (b i) (k - (m + (1 + 65 * i)))) = _
  by_cases a : k < m + (1 + 65 * i)
  · rw [if_pos a]
  · rw [if_neg a]
    unfold cat lsB cat csB
    rw [if_neg (show ¬ k < m by omega), if_neg (show ¬ k - m < 1 by omega), show (k - m - 1) / 65 = i by omega, show (k - m - 1) % 65 = k - (m + (1 + 65 * i)) by omega]
theorem Own.chx {w w' : World} {base x : Nat} {v : Value} {n : Nat} {f : Nat → Nat} (h : Own w base v n f) (hc : Chg w w' [x]) (hx : w.heap.size ≤ x) : Own w' base v n f := h.chg hc (fun k hk => by have := (h.ob_ge k hk).2; simp; omega)
set_option maxHeartbeats 8000000 in
set_option maxRecDepth 100000 in
theorem putPackage_s (v vl vt : Value) (base m N M : Nat) (f ft : Nat → Nat) (d : Nat → Int) (h b : Nat → Nat → Nat) (hm : m ≤ 100000000) (hN : N ≤ 255) (hM : M ≤ 1048575) (hd : ∀ j, j < N → 0 ≤ d j ∧ d j < 256) (w : World) (hO : Own w base v m f) (hb : base ≤ w.heap.size)
    (hL : ∀ W, Cb base w W → Cl W vl N d h b) (hT : ∀ W, Cb base w W → Sl W vt M ft) :
    Calls Tryz.prog 77 #[v, vl, vt] w fun e w' => ∃ v', e = .returned v' ∧ Own w' base v' (m + (1 + 65 * N) + (4 + M)) (cat f m (pkB N d h b M ft)) ∧ Cb base w w' := by
  have HO : Hid (Own w base v m f) := hO
  have HB : Hid (m ≤ 100000000 ∧ N ≤ 255 ∧ M ≤ 1048575 ∧ base ≤ w.heap.size) := ⟨hm, hN, hM, hb⟩
  have HD : Hid (∀ j, j < N → 0 ≤ d j ∧ d j < 256) := hd
  have HL : Hid (∀ W, Cb base w W → Cl W vl N d h b) := hL
  have HT : Hid (∀ W, Cb base w W → Sl W vt M ft) := hT
  have hL0 := hL w (Cb.refl _ _)
  obtain ⟨pv, cv, rfl, _⟩ := hL0.1.form
  obtain ⟨pt, ct, rfl⟩ : ∃ p c, vt = .slice p M c := by
    rcases hT w (Cb.refl _ _) with ⟨rfl, rfl⟩ | ⟨g, o, c, rfl, _⟩
    · exact ⟨_, _, rfl⟩
    · exact ⟨_, _, rfl⟩
  have eN : IntKind.u8.wrap (N : Int) = (N : Int) := by rw [u8_conv]; omega
  have S1 := sl_b1 (N : Int) ⟨by omega, by omega⟩ w
  have O1 := hO.chg ((Chg.refl w []).alloc (.cells #[.int .u8 (N : Int)] 5)) (fun _ _ => by simp)
  clear hm hN hM hb hd hL hT hL0 hO
  go_enter Tryz.func77, Tryz.ntmps77
  go_wp2_with (first
    | (with_reducible refine append_c ?_ (.tmp 9) (.tmp 13) ?_ base v _ m 1 f (fun _ => ((N : Nat) : Int).toNat) ?_ ?_ O1 S1 ?_ ?_ ?_
       · rfl
       · rfl
       · rfl
       · rfl
       · have := HB.out; omega
       · have := HB.out; simp; omega
       intro v2 w2 O2 q2))
  have C0 : Cb base w w2 := (Cb.none ((Chg.refl w []).alloc _)).trans q2
  have O3 : Own w2 base v2 (m + (1 + 65 * 0)) (cat f m (lsB N d h b)) := O2.cg (fun k hk => by
    unfold cat lsB cat
    by_cases a : k < m
    · rw [if_pos a, if_pos a]
    · rw [if_neg a, if_neg a, if_pos (show k - m < 1 by omega), Int.toNat_natCast])
  clear O1 S1 O2 q2
  --CUT0
  go_loopw [0, 17] (fun t0 t17 wr => ∃ i : Nat, i ≤ N ∧ t17 = .int .i64 (i : Int) ∧ Own wr base t0 (m + (1 + 65 * i)) (cat f m (lsB N d h b)) ∧ Cb base w wr) (fun _ t _ => ((N : Int) - intOf t).toNat)
  case atStart => exact ⟨0, by omega, rfl, O3, C0⟩
  case round =>
    clear O3 C0
    obtain ⟨i, hi, rfl, Oi, C⟩ := hrel
    by_cases h8 : i = N
    · subst h8
      have hI : ¬ (i : Int) < (i : Int) := by omega
      go_wp2_with fail
      --CUT1
      refine (putLength_s _ base (m + (1 + 65 * i)) M _ (by have := HB.out; omega) (by have := HB.out; omega) _ Oi (Nat.le_trans HB.out.2.2.2 C.size)).mono ?_
      rintro e w3 ⟨v3, rfl, O3, c3⟩
      have T3 := HT.out _ (C.trans c3)
      have hs3 : base ≤ w3.heap.size := Nat.le_trans (Nat.le_trans HB.out.2.2.2 C.size) c3.size
      go_wp2_with (first
        | (with_reducible refine append_c ?_ (.tmp 28) (.tmp 29) ?_ base v3 _ (m + (1 + 65 * i) + 4) M _ ft ?_ ?_ O3 T3 ?_ hs3 ?_
           · rfl
           · rfl
           · rfl
           · rfl
           · have := HB.out; omega
           intro v4 w4 O4 c4))
      go_ret
      refine ⟨_, rfl, ?_, (C.trans c3).trans c4⟩
      rw [Nat.add_assoc] at O4
      exact O4.cg (fun k _ => by
        rw [cat_as, cat_as]
        rfl)
    · have hlt : i < N := by omega
      have hI : (i : Int) < (N : Int) := by omega
      have hi0 : (0 : Int) ≤ (i : Int) := by omega
      have ew : IntKind.i64.wrap ((i : Int) + 1) = (i : Int) + 1 := by have := HB.out; rw [IntKind.wrap_i64]; omega
      have HI : Hid (i < N) := hlt
      have HM : Hid (((N : Int) - intOf (.int .i64 ((i : Int) + 1))).toNat < ((N : Int) - intOf (.int .i64 (i : Int))).toNat) := by show ((N : Int) - intOf (.int .i64 ((i : Int) + 1))).toNat < ((N : Int) - intOf (.int .i64 (i : Int))).toNat; simp [intOf] <;> omega
      have hc := HL.out _ C
      obtain ⟨p', c', e', hp⟩ := hc.1.form
      simp only [Value.slice.injEq] at e'
      obtain ⟨rfl, _, rfl⟩ := e'
      obtain ⟨g, o, rfl, hg, hr⟩ := hp i hlt
      have HH := hc.2 i hlt
      have HHd : Hid (∀ j, j < 32 → h i j < 256 ∧ b i j < 256) := HH
      clear h8 hlt hi hc hp HH
      go_wp2_with (first
        | (refine wpList_load_mid rfl 27 _ rfl g (o + i * 65) rfl (cF d h b i) _ hr Tryz.underlying27 rfl (by rw [(cF_ok (i + 1) d h b i (by omega)).1]; exact cmInfo) ?_)
        | (with_reducible refine alloc_w rfl 27 rfl (.agg (cmC 0 zN zN)) zeroCm (cmC 0 zN zN) rfl ?_; intro x w1 hx B k1)
        | (refine store_w B rfl 27 _ _ (cmC (d i) (h i) (b i)) rfl rfl rfl (by rw [cmC_size]; exact cmInfo) (by rw [cmC_size, cmC_size]) (cmC_one _ _ _) ?_; intro w2 B2 k2)
        | (refine wpList_load_row rfl 27 _ rfl x rfl 27 _ (0, 0) _ B2 Tryz.underlying27 rfl (by rw [cmC_size]; exact cmInfo) ?_))
      --CUT2
      have hsz : base ≤ wr.heap.size := Nat.le_trans HB.out.2.2.2 C.size
      have hx1 : wr.heap.size ≤ x := hx
      have Oj : Own w2 base u0 (m + (1 + 65 * i)) (cat f m (lsB N d h b)) := Oi.chg (k1.new k2 hx1) (fun _ _ => by simp)
      have Cj : Cb base wr w2 := (Cb.none k1).trans (Cb.of k2 (fun k hk => by simp at hk; omega))
      refine (putPair_s u0 base (m + (1 + 65 * i)) _ (d i) (h i) (b i) (HD.out i HI.out) (fun j hj => (HHd.out j hj).1) (fun j hj => (HHd.out j hj).2) (by have := HB.out; have := HI.out; omega) w2 Oj (Nat.le_trans hsz Cj.size)).mono ?_
      rintro e w3 ⟨v3, rfl, O3, c3, _⟩
      go_wp2_with fail
      refine ⟨⟨i + 1, HI.out, by go_num, ?_, (C.trans Cj).trans c3⟩, HM.out⟩
      have e1 : m + (1 + 65 * i) + 65 = m + (1 + 65 * (i + 1)) := by omega
      rw [← e1]
      exact O3.cg (fun k hk => ls_step f m N d h b i k hk)
end Go.Proofs.YtgjclegpnbjlkaaGreatDoor
