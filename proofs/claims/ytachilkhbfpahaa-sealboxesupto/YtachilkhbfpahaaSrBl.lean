/- rimeref12.Block. -/
import Derived.Test.YtachilkhbfpahaaSrQ
import Derived.Test.YtachilkhbfpahaaSrMul
import Derived.Test.YtachilkhbfpahaaSeK
set_option linter.unusedVariables false
set_option linter.unusedSimpArgs false
set_option linter.unnecessarySimpa false
namespace Go.Proofs.Ytachilkhbfpahaa
open Go.RowKit

def tL (n : Nat) (f : Nat → Nat) : List Value := (List.range n).map fun i => Value.int .u32 (f i)
theorem tL_len (n : Nat) (f : Nat → Nat) : (tL n f).length = n := by simp [tL]
theorem tL_get (n : Nat) (f : Nat → Nat) (i : Nat) (h : i < n) : (tL n f)[i]? = some (.int .u32 (f i)) := by simp [tL, h]
theorem tL_one (n : Nat) (f : Nat → Nat) : ∀ v ∈ tL n f, v.oneCell' = true := by
  intro v hv
  simp [tL] at hv
  obtain ⟨i, _, rfl⟩ := hv
  rfl
theorem tL_snoc (n : Nat) (f : Nat → Nat) (c : Nat) (h : f n = c) : tL n f ++ [Value.int .u32 (c : Int)] = tL (n + 1) f := by
  subst h
  unfold tL
  rw [List.range_succ, List.map_append]
  rfl
/-- v is a list of u32 of the call's own. -/
def OU (w : World) (base : Nat) (v : Value) (n : Nat) (f : Nat → Nat) : Prop := w.ownsRow base 24 1 v n (tL n f)
theorem OU.chg {w w' : World} {base : Nat} {v : Value} {n : Nat} {f : Nat → Nat} {l : List Nat} (h : OU w base v n f) (hc : Chg w w' l) (ho : ∀ k ∈ ob v, ¬ k ∈ l) : OU w' base v n f := by
  obtain ⟨h0, h1⟩ := h
  refine ⟨h0, ?_⟩
  rcases h1 with h1 | ⟨g, cap, cur, rfl, hg, hh, hr⟩
  · exact Or.inl h1
  · refine Or.inr ⟨g, cap, cur, rfl, hg, ?_, hr⟩
    rw [hc.block g (Array.getElem?_eq_some_iff.1 hh).1 (ho g (by simp [ob, Value.ownBlock]))]
    exact hh
theorem OU.kept {w w' : World} {base : Nat} {v : Value} {n : Nat} {f : Nat → Nat} (h : OU w base v n f) (hc : Chg w w' []) : OU w' base v n f := h.chg hc (by simp)
theorem OU.ob_ge {w : World} {base : Nat} {v : Value} {n : Nat} {f : Nat → Nat} (h : OU w base v n f) : ∀ k ∈ ob v, base ≤ k ∧ k < w.heap.size := by
  intro k hk
  exact h.lt k (by unfold ob at hk; cases hq : v.ownBlock with
    | none => rw [hq] at hk; simp at hk
    | some x => rw [hq] at hk; simp at hk; rw [hk])
theorem OU.form {w : World} {base : Nat} {v : Value} {n : Nat} {f : Nat → Nat} (h : OU w base v n f) (hn : 0 < n) :
    ∃ g cap, v = .slice (some ⟨g, 0, none⟩) n cap ∧ base ≤ g ∧ g < w.heap.size ∧ n ≤ cap ∧ cap ≤ 9223372036854775807 ∧ ∀ i, i < n → w.cell? ⟨g, 0 + i, none⟩ = some (.int .u32 (f i)) := by
  obtain ⟨_, h1⟩ := h
  rcases h1 with ⟨_, h1⟩ | ⟨g, cap, cur, rfl, hg, hh, hc, hm, hs, ht⟩
  · omega
  · refine ⟨g, cap, rfl, hg, (Array.getElem?_eq_some_iff.1 hh).1, hc, by simpa [maxLen] using hm, fun i hi => ?_⟩
    have e := congrArg (fun l => l[i]?) ht
    simp only [Nat.mul_one] at e
    rw [List.getElem?_take_of_lt hi, tL_get _ _ _ hi, Array.getElem?_toList] at e
    rw [Nat.zero_add]
    simp [World.cell?, hh, e]
theorem u32Row : ∃ i, Try.prog.info? 24 = some i ∧ i.zero = some (.int .u32 0) ∧ i.size = 1 ∧ i.bytes = 4 := by
  have h : (Try.prog.info? 24).map (fun i => (i.zero, i.size, i.bytes)) = some (some (.int .u32 0), 1, 4) := by kernel_rfl
  cases hi : Try.prog.info? 24 with
  | none => rw [hi] at h; simp at h
  | some i => rw [hi] at h; simp at h; exact ⟨i, rfl, h.1, h.2.1, h.2.2⟩
theorem append_u {w : World} {ops : Array Oper} {rest : List Oper} {o : Oper} {a : Act} {Q : Exit → Act → World → Prop} (hgd : o.guard = none) (s x : Operand)
    (ho : o.op = .call { callee := .builtin .append, args := #[s, x], argTypes := #[87, 87] })
    (base : Nat) (vs : Value) (n : Nat) (f : Nat → Nat) (c gx : Nat) (hs : a.eval s = vs) (hx : a.eval x = .slice (some ⟨gx, 0, none⟩) 1 1) (hown : OU w base vs n f) (hbx : Blk w gx (tC 1 fun _ => c) 24) (hf : f n = c) (hnm : n ≤ 1000) (hbase : base ≤ w.heap.size)
    (h : ∀ v' w', OU w' base v' (n + 1) f → Chg w w' (ob vs) → wpList Try.prog ops Q rest (a.put o.dst v') w') : wpList Try.prog ops Q (o :: rest) a w := by
  obtain ⟨i, hi, hz, h1, h2⟩ := u32Row
  refine wpList_append_own_wide w hgd s x 87 ho base 24 i (.int .u32 0) 1 4 Try.underlying87 hi hz h1 h2 rfl (by omega) vs n (tL n f) hs hown ⟨gx, 0, none⟩ 1 1 [.int .u32 (c : Int)] hx (by simp)
    (fun j u hj => ?_) (by simp [Value.oneCell']) (by simp [maxLen]; omega) (by omega) hbase ?_
  · match j, hj with
    | 0, hj =>
      simp only [List.getElem?_cons_zero, Option.some.injEq] at hj
      subst hj
      exact add_cell (by show w.cell? ⟨gx, 0 + 0, none⟩ = _; rw [hbx.cell, tC_get _ _ _ (by omega)])
    | j + 1, hj => simp at hj
  · intro v' w' h3 h4 _
    rw [tL_snoc n f c hf] at h3
    exact h v' w' h3 (Chg.grown h4)
theorem bsl_u {w : World} {ops : Array Oper} {rest : List Oper} {op : Oper} {a : Act} {Q : Exit → Act → World → Prop} (hgd : op.guard = none) (x : Operand) (ho : op.op = .buildSlice 87 1 #[(0, x)]) (c : Nat) (hx : a.eval x = .int .u32 (c : Int))
    (h : ∀ g w', w.heap.size ≤ g → Blk w' g (tC 1 (fun _ => c)) 24 → Chg w w' [] → wpList Try.prog ops Q rest (a.put op.dst (.slice (some ⟨g, 0, none⟩) 1 1)) w') : wpList Try.prog ops Q (op :: rest) a w := by
  obtain ⟨i, hi, hz, h1, h2⟩ := u32Row
  exact bsl_w hgd 87 24 1 _ ho [(0, .int .u32 (c : Int))] (by simp [hx]) (tC 1 (fun _ => c)) i (.int .u32 0) Try.underlying87 hi hz 1 h1 (by decide) (by decide) (by kernel_rfl) h
def sgm : Array Value := #[.int .u32 1634760805, .int .u32 857760878, .int .u32 2036477234, .int .u32 1797285236]
theorem bsl_4 {w : World} {ops : Array Oper} {rest : List Oper} {op : Oper} {a : Act} {Q : Exit → Act → World → Prop} (hgd : op.guard = none) (ho : op.op = .buildSlice 87 4 #[(0, .const (.int .u32 1634760805)), (1, .const (.int .u32 857760878)), (2, .const (.int .u32 2036477234)), (3, .const (.int .u32 1797285236))])
    (h : ∀ g w', w.heap.size ≤ g → Blk w' g sgm 24 → Chg w w' [] → wpList Try.prog ops Q rest (a.put op.dst (.slice (some ⟨g, 0, none⟩) 4 4)) w') : wpList Try.prog ops Q (op :: rest) a w := by
  obtain ⟨i, hi, hz, h1, h2⟩ := u32Row
  exact bsl_w hgd 87 24 4 _ ho [(0, .int .u32 1634760805), (1, .int .u32 857760878), (2, .int .u32 2036477234), (3, .int .u32 1797285236)] (by kernel_rfl) sgm i (.int .u32 0) Try.underlying87 hi hz 1 h1 (by decide) (by decide) (by kernel_rfl) h
theorem sgm_OU {w : World} {g base : Nat} (k nn : Nat → Nat) (ct : Nat) (h : Blk w g sgm 24) (hb : base ≤ g) : OU w base (.slice (some ⟨g, 0, none⟩) 4 4) 4 (st0 k ct nn) :=
  ⟨by rw [tL_len], Or.inr ⟨g, 4, sgm, rfl, hb, h, Nat.le_refl _, by simp [maxLen], rfl, rfl⟩⟩
theorem mk_u (r : Nat) (hr : r ≤ 1000) {w : World} {ops : Array Oper} {rest : List Oper} {o : Oper} {a : Act} {Q : Exit → Act → World → Prop} (hgd : o.guard = none) (x y : Operand) (ho : o.op = .makeSlice 87 x y) (hx : a.eval x = .int .i64 (r : Int)) (hy : a.eval y = .int .i64 (r : Int))
    (h : ∀ g w', w.heap.size ≤ g → Blk w' g (tC r fun _ => 0) 24 → Chg w w' [] → wpList Try.prog ops Q rest (a.put o.dst (.slice (some ⟨g, 0, none⟩) r r)) w') : wpList Try.prog ops Q (o :: rest) a w := by
  refine wpList_plain hgd fun K hK => ?_
  unfold Oper.wp execOp
  simp only [ho, hx, hy, Sem.run_bind, mkU r (by omega) w, Sem.run_pure, Result.andThen_ok]
  exact hK _ _ (h _ _ (Nat.le_refl _) (Blk.new w _ _) ((Chg.refl w []).alloc _))
theorem copy_16 {w : World} {ops : Array Oper} {rest : List Oper} {o : Oper} {a : Act} {Q : Exit → Act → World → Prop} (hgd : o.guard = none) (d s : Operand)
    (ho : o.op = .call { callee := .builtin .copy, args := #[d, s], argTypes := #[87, 87] }) (g gf cap : Nat) (hd : a.eval d = .slice (some ⟨g, 0, none⟩) 16 16) (hs : a.eval s = .slice (some ⟨gf, 0, none⟩) 16 cap) (t f : Nat → Nat) (hg : Blk w g (tC 16 t) 24)
    (hc : ∀ i, i < 16 → w.cell? ⟨gf, 0 + i, none⟩ = some (.int .u32 (f i)))
    (h : ∀ w', Blk w' g (tC 16 f) 24 → Chg w w' [g] → wpList Try.prog ops Q rest (a.put o.dst (goInt 16)) w') : wpList Try.prog ops Q (o :: rest) a w := by
  have hk := wpList_copy_own (P := Try.prog) (w := w) (ops := ops) (rest := rest) (o := o) (a := a) (Q := Q) hgd d s 87 87 ho 24 Try.underlying87 u32Info g 0 16 16 ⟨gf, 0, none⟩ 16 cap hd hs _ 24 hg (tL 16 f) (by rw [tL_len]; rfl)
    (fun j v hj => by
      have h1 : j < 16 := by have := (List.getElem?_eq_some_iff.1 hj).1; rw [tL_len] at this; exact this
      rw [tL_get _ _ _ h1] at hj
      injection hj with hj
      subst hj
      exact add_cell (hc j h1)) (by rw [tL_len, tC_size]; decide) (tL_one 16 f)
  have e : ((tC 16 t).toList.take 0 ++ (tL 16 f ++ (tC 16 t).toList.drop (0 + (tL 16 f).length))).toArray = tC 16 f := by
    rw [tL_len, List.take_zero, List.nil_append, List.drop_of_length_le (by rw [Array.length_toList, tC_size]; decide), List.append_nil]
    rfl
  rw [e, tL_len] at hk
  exact hk (h _ (hg.setRow _) (Chg.of (gb_setRow (gb_refl _ _) _)))
theorem dbl_is (s : Nat → Nat) : dbl s = qat (qat (qat (qat (qat (qat (qat (qat s 0 4 8 12) 1 5 9 13) 2 6 10 14) 3 7 11 15) 0 5 10 15) 1 6 11 12) 2 7 8 13) 3 4 9 14 := rfl
set_option maxHeartbeats 16000000 in
set_option maxRecDepth 100000 in
theorem Block_r (k : Nat → Nat) (ct : Nat) (nn : Nat → Nat) (hk : ∀ i, i < 32 → k i < 256) (hn : ∀ i, i < 12 → nn i < 256) (hct : V ct) (w : World) :
    Calls Try.prog 13 #[.agg (yC 32 k), .int .u32 (ct : Nat), .agg (yC 12 nn)] w fun e w' => e = .returned (.agg (yC 64 (bkB (st0 k ct nn)))) ∧ Chg w w' [] := by
  have HKN : Hid ((∀ i, i < 32 → k i < 256) ∧ (∀ i, i < 12 → nn i < 256) ∧ V ct) := ⟨hk, hn, hct⟩
  have HS : Hid (V16 (st0 k ct nn)) := st0_V hk hn hct
  have HE1 : Hid (∀ i, i < 8 → st0 k ct nn (4 + i) = le4 (fun j => k (4 * i + j))) := fun i hi => by
    unfold st0; rw [if_neg (by omega), if_pos (by omega), Nat.add_sub_cancel_left]
  have HE2 : Hid (st0 k ct nn 12 = ct) := by show st0 k ct nn 12 = ct; unfold st0; rw [if_neg (by omega), if_neg (by omega), if_pos rfl]
  have HE3 : Hid (∀ i, i < 3 → st0 k ct nn (13 + i) = le4 (fun j => nn (4 * i + j))) := fun i hi => by
    unfold st0; rw [if_neg (by omega), if_neg (by omega), if_neg (by omega), Nat.add_sub_cancel_left]
  have HO4 : Hid (∀ w g base, Blk w g sgm 24 → base ≤ g → OU w base (.slice (some ⟨g, 0, none⟩) 4 4) 4 (st0 k ct nn)) := fun w g base h hb => sgm_OU k nn ct h hb
  obtain ⟨S, hS⟩ : ∃ S, st0 k ct nn = S := ⟨_, rfl⟩
  rw [hS] at HS HE1 HE2 HE3 HO4 ⊢
  clear hS hk hn hct
  go_enter Try.func13, Try.ntmps13
  go_wp2_with (first
    | (refine bsl_4 rfl rfl ?_; intro fb w4 hfb BF k4)
    | (with_reducible refine alloc_w rfl 51 rfl (.agg (yC 64 (fun _ => 0))) zeroB64 (yC 64 (fun _ => 0)) rfl ?_; intro rb w3 hrb BR k3)
    | (have _h := BK; refine box_w rfl 26 _ rfl (yC 12 nn) rfl ?_; intro nb w2 hnb BN k2)
    | (refine box_w rfl 23 _ rfl (yC 32 k) rfl ?_; intro kb w1 hkb BK k1))
  have O4 := HO4.out w4 fb w.heap.size BF (by have := ((k1.trans1 k2).trans1 k3).size; omega)
  have K4 : Chg w w4 [] := ((k1.trans1 k2).trans1 k3).trans1 k4
  have BK4 := ((BK.chg k2 (by simp)).chg k3 (by simp)).chg k4 (by simp)
  have BN4 := (BN.chg k3 (by simp)).chg k4 (by simp)
  have BR4 := BR.chg k4 (by simp)
  have HO : Hid (w.heap.size ≤ rb) := by have := (k1.trans1 k2).size; show w.heap.size ≤ rb; omega
  have O4b : OU w4 w3.heap.size (.slice (some ⟨fb, 0, none⟩) 4 4) 4 S := HO4.out w4 fb w3.heap.size BF hfb
  have HB3 : Hid (w.heap.size ≤ w3.heap.size ∧ kb < w3.heap.size ∧ nb < w3.heap.size ∧ rb < w3.heap.size ∧ w3.heap.size ≤ w4.heap.size) := ⟨((k1.trans1 k2).trans1 k3).size, ((BK.chg k2 (by simp)).chg k3 (by simp)).lt, (BN.chg k3 (by simp)).lt, BR.lt, k4.size⟩
  obtain ⟨b3, hb3⟩ : ∃ x, w3.heap.size = x := ⟨_, rfl⟩
  rw [hb3] at O4b HB3
  clear O4 BF BK BN BR k1 k2 k3 k4 hkb hnb hrb hfb hb3 HO4
  go_loopw [8, 7] (fun t8 t7 wr => ∃ i : Nat, i ≤ 8 ∧ t8 = .int .i64 (i : Int) ∧ OU wr b3 t7 (4 + i) S ∧ (Blk wr kb (yC 32 k) 23 ∧ Blk wr nb (yC 12 nn) 26 ∧ Blk wr rb (yC 64 fun _ => 0) 51 ∧ Chg w wr [] ∧ b3 ≤ wr.heap.size)) (fun t8 _ _ => (8 - intOf t8).toNat)
  case atStart => exact ⟨0, by omega, rfl, O4b, BK4, BN4, BR4, K4, HB3.out.2.2.2.2⟩
  case round =>
    clear O4b BK4 BN4 BR4 K4
    obtain ⟨i, hi, rfl, o0, b0, b1, b2, c0, s0⟩ := hrel
    by_cases h8 : i < 8
    · have HC := HE1.out i h8
      obtain ⟨u, hu⟩ : ∃ u, 4 * i = u := ⟨_, rfl⟩
      rw [hu] at HC
      obtain ⟨cv, hcv⟩ : ∃ x, le4 (fun j => k (u + j)) = x := ⟨_, rfl⟩
      rw [hcv] at HC
      have HCV : Hid (S (4 + i) = cv ∧ le4 (fun j => k (u + j)) = cv) := ⟨HC, hcv⟩
      have HI : Hid (4 * i = u ∧ i < 8 ∧ u ≤ 28) := ⟨hu, h8, by omega⟩
      have hI : (i : Int) < 8 := by omega
      have e1 : IntKind.i64.wrap ((i : Int) + 1) = (i : Int) + 1 := by rw [IntKind.wrap_i64]; omega
      have d1 : IntKind.i64.wrap (4 * (i : Int)) = (u : Int) := by rw [IntKind.wrap_i64]; omega
      have d0 : 4 * (i : Int) = (u : Int) := by omega
      have i1 : (u : Int) ≤ 32 := by omega
      have i2 : ¬ 32 = u := by omega
      obtain ⟨L, hL⟩ : ∃ L, 32 - u = L := ⟨_, rfl⟩
      have HL : Hid (4 ≤ L) := (by omega : 4 ≤ L)
      clear HC hcv hu h8 hi
      go_wp2_with fail
      refine (low4_r kb u L L (fun j => k (u + j)) wr HL.out (fun j hj => HKN.out.1 _ (by have := HI.out; omega)) (fun j hj => by rw [b0.cell, yC_get _ _ _ (by have := HI.out; omega)])).mono ?_
      rw [HCV.out.2]
      rintro e w5 ⟨rfl, k5⟩
      replace o0 := o0.kept k5
      replace b0 := b0.chg k5 (by simp)
      replace b1 := b1.chg k5 (by simp)
      replace b2 := b2.chg k5 (by simp)
      replace c0 := c0.trans1 k5
      replace s0 : b3 ≤ w5.heap.size := Nat.le_trans s0 k5.size
      clear k5
      go_wp2_with (first
        | (refine append_u rfl (.tmp 19) (.tmp 24) rfl b3 _ (4 + i) S cv gx rfl rfl (o0.kept kx) BX HCV.out.1 (by have := HI.out; omega) (by have := kx.size; omega) ?_; intro v' w7 o7 k7)
        | (refine bsl_u rfl (.tmp 23) rfl cv rfl ?_; intro gx w6 hgx BX kx))
      have HOB := (o0.kept kx).ob_ge
      exact ⟨⟨i + 1, by have := HI.out; omega, by go_num, o7, (b0.chg kx (by simp)).chg k7 (fun h => by have := (HOB _ h).1; have := HB3.out; omega), (b1.chg kx (by simp)).chg k7 (fun h => by have := (HOB _ h).1; have := HB3.out; omega), (b2.chg kx (by simp)).chg k7 (fun h => by have := (HOB _ h).1; have := HB3.out; omega), (c0.trans1 kx).trans k7 (fun x hx => Or.inr (by have := (HOB _ hx).1; have := HB3.out; omega)), by have := kx.size; have := k7.size; omega⟩, by simp [intOf]; have := HI.out; omega⟩
    · obtain rfl : i = 8 := by omega
      have hI : ¬ ((8 : Nat) : Int) < 8 := by omega
      clear h8 hi
      go_wp2_with (first
        | (refine append_u rfl (.tmp 26) (.tmp 28) rfl b3 _ 12 S ct gx rfl rfl (OU.kept o0 kx) BX HE2.out (by decide) (by have := kx.size; omega) ?_; intro v' w7 o7 k7)
        | (refine bsl_u rfl (.tmp 27) rfl ct rfl ?_; intro gx w6 hgx BX kx))
      have HOB := (o0.kept kx).ob_ge
      have b07 := (b0.chg kx (by simp)).chg k7 (fun h => by have := (HOB _ h).1; have := HB3.out; omega)
      have b17 := (b1.chg kx (by simp)).chg k7 (fun h => by have := (HOB _ h).1; have := HB3.out; omega)
      have b27 := (b2.chg kx (by simp)).chg k7 (fun h => by have := (HOB _ h).1; have := HB3.out; omega)
      have c07 : Chg w w7 [] := (c0.trans1 kx).trans k7 (fun x hx => Or.inr (by have := (HOB _ hx).1; have := HB3.out; omega))
      have s07 : b3 ≤ w7.heap.size := by have := kx.size; have := k7.size; omega
      clear HOB b0 b1 b2 c0 s0 o0 kx k7 BX hgx hI
      go_loopw [9, 7] (fun t9 t7 wr => ∃ i : Nat, i ≤ 3 ∧ t9 = .int .i64 (i : Int) ∧ OU wr b3 t7 (13 + i) S ∧ (Blk wr nb (yC 12 nn) 26 ∧ Blk wr rb (yC 64 fun _ => 0) 51 ∧ Chg w wr [] ∧ b3 ≤ wr.heap.size)) (fun t9 _ _ => (3 - intOf t9).toNat)
      case atStart => exact ⟨0, by omega, rfl, o7, b17, b27, c07, s07⟩
      case round =>
        clear o7 b07 b17 b27 c07 s07
        obtain ⟨i, hi, rfl, o0, b1, b2, c0, s0⟩ := hrel
        by_cases h8 : i < 3
        · have HC := HE3.out i h8
          obtain ⟨u, hu⟩ : ∃ u, 4 * i = u := ⟨_, rfl⟩
          rw [hu] at HC
          obtain ⟨cv, hcv⟩ : ∃ x, le4 (fun j => nn (u + j)) = x := ⟨_, rfl⟩
          rw [hcv] at HC
          have HCV : Hid (S (13 + i) = cv ∧ le4 (fun j => nn (u + j)) = cv) := ⟨HC, hcv⟩
          have HI : Hid (4 * i = u ∧ i < 3 ∧ u ≤ 8) := ⟨hu, h8, by omega⟩
          have hI : (i : Int) < 3 := by omega
          have e1 : IntKind.i64.wrap ((i : Int) + 1) = (i : Int) + 1 := by rw [IntKind.wrap_i64]; omega
          have d1 : IntKind.i64.wrap (4 * (i : Int)) = (u : Int) := by rw [IntKind.wrap_i64]; omega
          have d0 : 4 * (i : Int) = (u : Int) := by omega
          have i1 : (u : Int) ≤ 12 := by omega
          have i2 : ¬ 12 = u := by omega
          obtain ⟨L, hL⟩ : ∃ L, 12 - u = L := ⟨_, rfl⟩
          have HL : Hid (4 ≤ L) := (by omega : 4 ≤ L)
          clear HC hcv hu h8 hi
          go_wp2_with fail
          refine (low4_r nb u L L (fun j => nn (u + j)) wr HL.out (fun j hj => HKN.out.2.1 _ (by have := HI.out; omega)) (fun j hj => by rw [b1.cell, yC_get _ _ _ (by have := HI.out; omega)])).mono ?_
          rw [HCV.out.2]
          rintro e w5 ⟨rfl, k5⟩
          replace o0 := o0.kept k5
          replace b1 := b1.chg k5 (by simp)
          replace b2 := b2.chg k5 (by simp)
          replace c0 := c0.trans1 k5
          replace s0 : b3 ≤ w5.heap.size := Nat.le_trans s0 k5.size
          clear k5
          go_wp2_with (first
            | (refine append_u rfl (.tmp 34) (.tmp 39) rfl b3 _ (13 + i) S cv gx rfl rfl (o0.kept kx) BX HCV.out.1 (by have := HI.out; omega) (by have := kx.size; omega) ?_; intro v' w7 o7 k7)
            | (refine bsl_u rfl (.tmp 38) rfl cv rfl ?_; intro gx w6 hgx BX kx))
          have HOB := (o0.kept kx).ob_ge
          exact ⟨⟨i + 1, by have := HI.out; omega, by go_num, o7, (b1.chg kx (by simp)).chg k7 (fun h => by have := (HOB _ h).1; have := HB3.out; omega), (b2.chg kx (by simp)).chg k7 (fun h => by have := (HOB _ h).1; have := HB3.out; omega), (c0.trans1 kx).trans k7 (fun x hx => Or.inr (by have := (HOB _ hx).1; have := HB3.out; omega)), by have := kx.size; have := k7.size; omega⟩, by simp [intOf]; have := HI.out; omega⟩
        · obtain rfl : i = 3 := by omega
          have hI : ¬ ((3 : Nat) : Int) < 3 := by omega
          obtain ⟨gf, cap, rfl, hbg, hlt, hcc, hcap, hcell⟩ := o0.form (by decide)
          have HCF : Hid (∀ i, i < 16 → wr.cell? ⟨gf, 0 + i, none⟩ = some (.int .u32 (S i))) := fun i hi => hcell i (by omega)
          have HGF : Hid (gf < wr.heap.size ∧ b3 ≤ gf) := ⟨hlt, hbg⟩
          have hcI : (16 : Int) ≤ (cap : Int) := by omega
          obtain ⟨wq, rfl⟩ : ∃ z, z = wr := ⟨wr, rfl⟩
          clear h8 hi o0 hbg hlt hcc hcap hcell b1
          go_wp2_with (first
            | (refine copy_16 rfl (.tmp 42) (.tmp 43) rfl gs gf cap rfl rfl (fun _ => 0) S BS (fun i hi => (k8.cell gf (0 + i) HGF.out.1 (by simp)).trans (HCF.out i hi)) ?_; intro w9 BS9 k9)
            | (refine mk_u 16 (by decide) rfl (.const (.int .i64 16)) (.const (.int .i64 16)) rfl rfl rfl ?_; intro gs w8 hgs BS k8))
          have HGS : Hid ((¬ gs = gf ∧ ¬ gs = rb) ∧ w.heap.size ≤ gs) := ⟨⟨by have := HGF.out; omega, by have := b2.lt; omega⟩, by have := c0.size; omega⟩
          have HCF9 : Hid (∀ i, i < 16 → w9.cell? ⟨gf, 0 + i, none⟩ = some (.int .u32 (S i))) := fun i hi => ((k9.cell gf (0 + i) (Nat.lt_of_lt_of_le HGF.out.1 k8.size) (by have := HGS.out; simp; omega)).trans (k8.cell gf (0 + i) HGF.out.1 (by simp))).trans (HCF.out i hi)
          have HG9 : Hid (gf < w9.heap.size) := Nat.lt_of_lt_of_le HGF.out.1 (Nat.le_trans k8.size k9.size)
          have b29 := (b2.chg k8 (by simp)).chg k9 (by have := HGS.out; simp; omega)
          have c09 : Chg w w9 [] := (c0.trans1 k8).new k9 HGS.out.2
          clear HCF b2 c0 s0 k8 k9 BS hgs hI
          go_loopw [11] (fun t11 wr => ∃ i : Nat, i ≤ 10 ∧ t11 = .int .i64 (i : Int) ∧ Blk wr gs (tC 16 (stirs S i)) 24 ∧ Chg w9 wr [gs]) (fun t11 _ => (10 - intOf t11).toNat)
          case atStart => exact ⟨0, by omega, rfl, BS9, Chg.refl _ _⟩
          case round =>
            clear BS9
            obtain ⟨i, hi, rfl, q0, c0⟩ := hrel
            by_cases h10 : i < 10
            · have hI : (i : Int) < 10 := by omega
              have e1 : IntKind.i64.wrap ((i : Int) + 1) = (i : Int) + 1 := by rw [IntKind.wrap_i64]; omega
              have HI : Hid (i < 10) := h10
              have HX : Hid (stirs S (i + 1) = dbl (stirs S i)) := rfl
              rw [dbl_is] at HX
              have V0 : Hid (V16 (stirs S i)) := stirs_V HS.out i
              obtain ⟨s0, hs0⟩ : ∃ t, stirs S i = t := ⟨_, rfl⟩
              rw [hs0] at HX V0 q0
              clear h10 hi hs0
              go_wp2_with fail
              refine (quarter_r gs 16 s0 V0.out 0 4 8 12 (by decide) (by decide) (by decide) (by decide) (by decide) wr q0).mono ?_
              rintro e wz0 ⟨rfl, q1, kq⟩
              replace c0 := c0.trans1 kq
              have V1 : Hid (V16 (qat s0 0 4 8 12)) := qat_V V0.out 0 4 8 12 (by decide) (by decide)
              obtain ⟨s1, hs1⟩ : ∃ t, qat s0 0 4 8 12 = t := ⟨_, rfl⟩
              rw [hs1] at q1 V1 HX
              clear hs1 kq q0 V0
              go_wp2_with fail
              refine (quarter_r gs 16 s1 V1.out 1 5 9 13 (by decide) (by decide) (by decide) (by decide) (by decide) wz0 q1).mono ?_
              rintro e wz1 ⟨rfl, q2, kq⟩
              replace c0 := c0.trans1 kq
              have V2 : Hid (V16 (qat s1 1 5 9 13)) := qat_V V1.out 1 5 9 13 (by decide) (by decide)
              obtain ⟨s2, hs2⟩ : ∃ t, qat s1 1 5 9 13 = t := ⟨_, rfl⟩
              rw [hs2] at q2 V2 HX
              clear hs2 kq q1 V1
              go_wp2_with fail
              refine (quarter_r gs 16 s2 V2.out 2 6 10 14 (by decide) (by decide) (by decide) (by decide) (by decide) wz1 q2).mono ?_
              rintro e wz2 ⟨rfl, q3, kq⟩
              replace c0 := c0.trans1 kq
              have V3 : Hid (V16 (qat s2 2 6 10 14)) := qat_V V2.out 2 6 10 14 (by decide) (by decide)
              obtain ⟨s3, hs3⟩ : ∃ t, qat s2 2 6 10 14 = t := ⟨_, rfl⟩
              rw [hs3] at q3 V3 HX
              clear hs3 kq q2 V2
              go_wp2_with fail
              refine (quarter_r gs 16 s3 V3.out 3 7 11 15 (by decide) (by decide) (by decide) (by decide) (by decide) wz2 q3).mono ?_
              rintro e wz3 ⟨rfl, q4, kq⟩
              replace c0 := c0.trans1 kq
              have V4 : Hid (V16 (qat s3 3 7 11 15)) := qat_V V3.out 3 7 11 15 (by decide) (by decide)
              obtain ⟨s4, hs4⟩ : ∃ t, qat s3 3 7 11 15 = t := ⟨_, rfl⟩
              rw [hs4] at q4 V4 HX
              clear hs4 kq q3 V3
              go_wp2_with fail
              refine (quarter_r gs 16 s4 V4.out 0 5 10 15 (by decide) (by decide) (by decide) (by decide) (by decide) wz3 q4).mono ?_
              rintro e wz4 ⟨rfl, q5, kq⟩
              replace c0 := c0.trans1 kq
              have V5 : Hid (V16 (qat s4 0 5 10 15)) := qat_V V4.out 0 5 10 15 (by decide) (by decide)
              obtain ⟨s5, hs5⟩ : ∃ t, qat s4 0 5 10 15 = t := ⟨_, rfl⟩
              rw [hs5] at q5 V5 HX
              clear hs5 kq q4 V4
              go_wp2_with fail
              refine (quarter_r gs 16 s5 V5.out 1 6 11 12 (by decide) (by decide) (by decide) (by decide) (by decide) wz4 q5).mono ?_
              rintro e wz5 ⟨rfl, q6, kq⟩
              replace c0 := c0.trans1 kq
              have V6 : Hid (V16 (qat s5 1 6 11 12)) := qat_V V5.out 1 6 11 12 (by decide) (by decide)
              obtain ⟨s6, hs6⟩ : ∃ t, qat s5 1 6 11 12 = t := ⟨_, rfl⟩
              rw [hs6] at q6 V6 HX
              clear hs6 kq q5 V5
              go_wp2_with fail
              refine (quarter_r gs 16 s6 V6.out 2 7 8 13 (by decide) (by decide) (by decide) (by decide) (by decide) wz5 q6).mono ?_
              rintro e wz6 ⟨rfl, q7, kq⟩
              replace c0 := c0.trans1 kq
              have V7 : Hid (V16 (qat s6 2 7 8 13)) := qat_V V6.out 2 7 8 13 (by decide) (by decide)
              obtain ⟨s7, hs7⟩ : ∃ t, qat s6 2 7 8 13 = t := ⟨_, rfl⟩
              rw [hs7] at q7 V7 HX
              clear hs7 kq q6 V6
              go_wp2_with fail
              refine (quarter_r gs 16 s7 V7.out 3 4 9 14 (by decide) (by decide) (by decide) (by decide) (by decide) wz6 q7).mono ?_
              rintro e wz7 ⟨rfl, q8, kq⟩
              replace c0 := c0.trans1 kq
              have V8 : Hid (V16 (qat s7 3 4 9 14)) := qat_V V7.out 3 4 9 14 (by decide) (by decide)
              obtain ⟨s8, hs8⟩ : ∃ t, qat s7 3 4 9 14 = t := ⟨_, rfl⟩
              rw [hs8] at q8 V8 HX
              clear hs8 kq q7 V7
              go_wp2_with fail
              exact ⟨⟨i + 1, by have := HI.out; omega, by go_num, by rw [HX.out]; exact q8, c0⟩, by simp [intOf]; have := HI.out; omega⟩
            · obtain rfl : i = 10 := by omega
              have hI : ¬ ((10 : Nat) : Int) < 10 := by omega
              have b2A := b29.chg c0 (by have := HGS.out; simp; omega)
              have c0A : Chg w wr [] := c09.new c0 HGS.out.2
              have HCA : Hid (∀ i, i < 16 → wr.cell? ⟨gf, 0 + i, none⟩ = some (.int .u32 (S i))) := fun i hi => (c0.cell gf (0 + i) HG9.out (by have := HGS.out; simp; omega)).trans (HCF9.out i hi)
              have HGA : Hid (gf < wr.heap.size) := Nat.lt_of_lt_of_le HG9.out c0.size
              have HW : Hid (∀ j, bkB S j = (stirs S 10 (j / 4) + S (j / 4)) % 4294967296 / 256 ^ (j % 4) % 256) := fun _ => rfl
              obtain ⟨X, hX⟩ : ∃ X, stirs S 10 = X := ⟨_, rfl⟩
              have HXV : Hid (V16 X) := by rw [← hX]; exact stirs_V HS.out 10
              rw [hX] at HW q0
              obtain ⟨wq2, rfl⟩ : ∃ z, z = wr := ⟨wr, rfl⟩
              clear h10 hi b29 c09 c0 HCF9 HG9 hX
              go_wp2_with (with_reducible refine alloc_w rfl 51 rfl (.agg (yC 64 (fun _ => 0))) zeroB64 (yC 64 (fun _ => 0)) rfl ?_; intro tb wB htb BT kB)
              clear hI
              have HT : Hid ((¬ tb = gf ∧ ¬ tb = gs ∧ ¬ tb = rb) ∧ w.heap.size ≤ tb) := ⟨⟨by have := HGA.out; omega, by have := q0.lt; omega, by have := b2A.lt; omega⟩, by have := c0A.size; omega⟩
              have qB := q0.chg kB (by simp)
              have b2B := b2A.chg kB (by simp)
              have c0B := c0A.trans1 kB
              have HCB : Hid (∀ i, i < 16 → wB.cell? ⟨gf, 0 + i, none⟩ = some (.int .u32 (S i))) := fun i hi => (kB.cell gf (0 + i) HGA.out (by simp)).trans (HCA.out i hi)
              have HGB : Hid (gf < wB.heap.size) := Nat.lt_of_lt_of_le HGA.out kB.size
              replace BT := BT.to (yC_eq (g := fun j => if j < 0 then bkB S j else 0) fun j _ => by rw [if_neg (by omega)])
              clear q0 b2A c0A HCA HGA kB htb
              go_loopw [13] (fun t13 wr => ∃ i : Nat, i ≤ 64 ∧ t13 = .int .i64 (i : Int) ∧ Blk wr tb (yC 64 (fun j => if j < i then bkB S j else 0)) 51 ∧ Chg wB wr [tb]) (fun t13 _ => (64 - intOf t13).toNat)
              case atStart => exact ⟨0, by omega, rfl, BT, Chg.refl _ _⟩
              case round =>
                clear BT
                obtain ⟨i, hi, rfl, r0, c0⟩ := hrel
                by_cases h64 : i < 64
                · have qC := qB.chg c0 (by have := HT.out; simp; omega)
                  obtain ⟨x, hx⟩ : ∃ x, bkB S i = x := ⟨_, rfl⟩
                  have hup : up (fun j => if j < i then bkB S j else 0) i x = fun j => if j < i + 1 then bkB S j else 0 := by
                    funext j
                    unfold up
                    by_cases h : j = i
                    · subst h; rw [if_pos rfl, if_pos (by omega), hx]
                    · rw [if_neg h]
                      show (if j < i then bkB S j else 0) = _
                      by_cases h2 : j < i
                      · rw [if_pos h2, if_pos (by omega)]
                      · rw [if_neg h2, if_neg (by omega)]
                  obtain ⟨p, t, ht, hp, rfl⟩ : ∃ p t, t < 4 ∧ p < 16 ∧ i = 4 * p + t := ⟨i / 4, i % 4, by omega, by omega, by omega⟩
                  obtain ⟨W, hW⟩ : ∃ W, (X p + S p) % 4294967296 = W := ⟨_, rfl⟩
                  have hW2 : W < 4294967296 := by omega
                  have hv : ((W : Nat) : Int) / 2 ^ (8 * t) % 256 = ((x : Nat) : Int) := by
                    rw [← hx, HW.out, show (4 * p + t) / 4 = p by omega, show (4 * p + t) % 4 = t by omega, hW]
                    have h4 : t = 0 ∨ t = 1 ∨ t = 2 ∨ t = 3 := by omega
                    rcases h4 with rfl | rfl | rfl | rfl <;> simp
                  have ew : IntKind.u32.wrap (((X p : Nat) : Int) + ((S p : Nat) : Int)) = (W : Int) := by rw [w32, hW]
                  have hI : ((4 * p + t : Nat) : Int) < 64 := by omega
                  have hI0 : (0 : Int) ≤ ((4 * p + t : Nat) : Int) := by omega
                  have hdv : ((4 * p + t : Nat) : Int) / 4 = ((p : Nat) : Int) := by omega
                  have hmd : ((4 * p + t : Nat) : Int) % 4 = ((t : Nat) : Int) := by omega
                  have hpl : ((p : Nat) : Int) < 16 := by omega
                  have hw : IntKind.u64.wrap (8 * ((t : Nat) : Int)) = 8 * ((t : Nat) : Int) := by rw [IntKind.wrap_u64]; omega
                  have htn : (8 * ((t : Nat) : Int)).toNat = 8 * t := by omega
                  have hmi : min (8 * t) 32 = 8 * t := by omega
                  have cA := (qC.cell p).trans (tC_get 16 X p hp)
                  have cF := (c0.cell gf (0 + p) HGB.out (by have := HT.out; simp; omega)).trans (HCB.out p hp)
                  rw [Nat.zero_add] at cF
                  have cB := (r0.cell (4 * p + t)).trans (yC_get 64 _ (4 * p + t) h64)
                  have fB := r0.frozen (4 * p + t)
                  have xA : X p < 4294967296 := HXV.out p hp
                  have xF : S p < 4294967296 := HS.out p hp
                  have r2 := (r0.setCell (4 * p + t) (.int .u8 ((x : Nat) : Int))).to ((yC_set 64 _ (4 * p + t) _).trans (congrArg (yC 64) hup))
                  have c2 := c0.setIn (k := tb) (by simp) (4 * p + t) (.int .u8 ((x : Nat) : Int))
                  clear hup qC r0 c0 qB b2B c0B HXV
                  obtain ⟨XP, hXP⟩ : ∃ z, X p = z := ⟨_, rfl⟩
                  obtain ⟨SP, hSP⟩ : ∃ z, S p = z := ⟨_, rfl⟩
                  rw [hXP] at ew cA xA
                  rw [hSP] at ew cF xF
                  generalize hii : 4 * p + t = i at *
                  clear hii hx hW hXP hSP
                  go_wp2_with fail
                  go_region
                  go_wp2_with fail
                  exact ⟨⟨i + 1, by omega, by go_num, r2.drew, c2.drew⟩, by simp [intOf]; omega⟩
                · obtain rfl : i = 64 := by omega
                  have hI : ¬ ((64 : Nat) : Int) < 64 := by omega
                  have b2C := b2B.chg c0 (by have := HT.out; simp; omega)
                  have cC : Chg w wr [] := c0B.new c0 HT.out.2
                  have r1 := r0.to (yC_eq (g := bkB S) fun j hj => by rw [if_pos hj])
                  clear r0 c0 qB b2B c0B HW HXV
                  go_wp2_with (first
                    | (with_reducible refine load_b r1 51 (.tmp 12) Try.underlying51 ?_ ?_ ?_ ?_ ?_ ?_
                       · rfl
                       · rfl
                       · rfl
                       · rfl
                       · (rw [yC_size]; exact b64Info))
                    | (refine store_w b2C rfl 51 _ _ (yC 64 (bkB S)) rfl rfl rfl (by rw [yC_size]; exact b64Info) (by rw [yC_size, yC_size]) (yC_one 64 _) ?_; intro wE BE kE))
                  exact bodyPost_ret (results_cell_row Try.results13 _ _ rb 51 (yC 64 (bkB S)) (0, 0) _ rfl BE Try.underlying51 rfl (by rw [yC_size]; exact b64Info)) rfl ⟨rfl, cC.new kE HO.out⟩
end Go.Proofs.Ytachilkhbfpahaa
