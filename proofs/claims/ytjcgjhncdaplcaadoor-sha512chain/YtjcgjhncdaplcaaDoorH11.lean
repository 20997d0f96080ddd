/- append of bytes, slices.Clone, Pad, Compress. -/
import Derived.Test.YtjcgjhncdaplcaaDoorH10
import Derived.Laws.AppendOwnNone
import Derived.Deep.DeepAppendWide
import Derived.Deep.MidRow
import Derived.Laws.MakeOwn
import Derived.Lib.BufferMore
set_option linter.unusedVariables false
set_option linter.unusedSimpArgs false
set_option linter.unnecessarySimpa false
namespace Go.Proofs.YtjcgjhncdaplcaaDoor
open Go.RowKit

/-- v is a slice of the call's own (in a block from base on) with n bytes f. -/
def Own (w : World) (base : Nat) (v : Value) (n : Nat) (f : Nat → Nat) : Prop := w.ownsRow base 5 1 v n (yL n f) ∧ ∀ i, i < n → f i < 256
theorem Own.nil (w : World) (base : Nat) (f : Nat → Nat) : Own w base (.slice none 0 0) 0 f := ⟨World.ownsRow_nil w base _ _, fun i hi => by omega⟩
theorem Own.sl {w : World} {base : Nat} {v : Value} {n : Nat} {f : Nat → Nat} (h : Own w base v n f) : Sl w v n f := by
  obtain ⟨⟨_, h1⟩, hb⟩ := h
  rcases h1 with ⟨rfl, rfl⟩ | ⟨g, cap, cur, rfl, hg, hh, hc, hm, hs, ht⟩
  · exact Or.inl ⟨rfl, rfl⟩
  · refine Or.inr ⟨g, 0, cap, rfl, hc, by simpa [maxLen] using hm, (Array.getElem?_eq_some_iff.1 hh).1, hb, fun i hi => ?_⟩
    have e := congrArg (fun l => l[i]?) ht
    simp only [Nat.mul_one] at e
    rw [List.getElem?_take_of_lt hi, yL_get _ _ _ hi, Array.getElem?_toList] at e
    simp [World.cell?, hh, e]
theorem Own.off {w : World} {base : Nat} {v : Value} {n : Nat} {f : Nat → Nat} (h : Own w base v n f) (l : List Nat) (hl : ∀ i ∈ l, i < base) : Off v l := by
  obtain ⟨⟨_, h1⟩, _⟩ := h
  intro g o m c he hg
  rcases h1 with ⟨h1, _⟩ | ⟨g', cap, cur, h1, hg', _⟩
  · rw [h1] at he; simp at he
  · rw [h1] at he
    simp only [Value.slice.injEq, Option.some.injEq, Addr.mk.injEq] at he
    have := hl g hg
    omega
/-- What a slice of the call's own may have turned. -/
def ob (v : Value) : List Nat := v.ownBlock.toList
theorem Chg.grown {w w' : World} {v : Value} (h : w.grownBy w' v.ownBlock) : Chg w w' (ob v) :=
  ⟨h.os, h.tape, h.output, h.size, fun k hk hl => h.block k hk (fun e => hl (by unfold ob; rw [← e]; simp))⟩
theorem Own.chg {w w' : World} {base : Nat} {v : Value} {n : Nat} {f : Nat → Nat} {l : List Nat} (h : Own w base v n f) (hc : Chg w w' l) (ho : ∀ k ∈ ob v, ¬ k ∈ l) : Own w' base v n f := by
  obtain ⟨⟨h0, h1⟩, h2⟩ := h
  refine ⟨⟨h0, ?_⟩, h2⟩
  rcases h1 with h1 | ⟨g, cap, cur, rfl, hg, hh, hr⟩
  · exact Or.inl h1
  · refine Or.inr ⟨g, cap, cur, rfl, hg, ?_, hr⟩
    rw [hc.block g (Array.getElem?_eq_some_iff.1 hh).1 (ho g (by simp [ob, Value.ownBlock]))]
    exact hh
theorem Own.ob_ge {w : World} {base : Nat} {v : Value} {n : Nat} {f : Nat → Nat} (h : Own w base v n f) : ∀ k ∈ ob v, base ≤ k ∧ k < w.heap.size := by
  intro k hk
  exact h.1.lt k (by unfold ob at hk; cases hq : v.ownBlock with
    | none => rw [hq] at hk; simp at hk
    | some x => rw [hq] at hk; simp at hk; rw [hk])
theorem u8Row : ∃ i, Tryd.prog.info? 5 = some i ∧ i.zero = some (.int .u8 0) ∧ i.size = 1 ∧ i.bytes = 1 := by
  have h : (Tryd.prog.info? 5).map (fun i => (i.zero, i.size, i.bytes)) = some (some (.int .u8 0), 1, 1) := by kernel_rfl
  cases hi : Tryd.prog.info? 5 with
  | none => rw [hi] at h; simp at h
  | some i => rw [hi] at h; simp at h; exact ⟨i, rfl, h.1, h.2.1, h.2.2⟩
theorem yL_cat (n m : Nat) (f g : Nat → Nat) : yL n f ++ yL m g = yL (n + m) (cat f n g) := by
  apply List.ext_getElem?
  intro i
  by_cases h : i < n
  · rw [List.getElem?_append_left (by rw [yL_len]; exact h), yL_get _ _ _ h, yL_get _ _ _ (by omega)]
    unfold cat
    rw [if_pos h]
  · rw [List.getElem?_append_right (by rw [yL_len]; omega), yL_len]
    by_cases h2 : i < n + m
    · rw [yL_get _ _ _ (by omega), yL_get _ _ _ h2]
      unfold cat
      rw [if_neg h]
    · rw [List.getElem?_eq_none (by rw [yL_len]; omega), List.getElem?_eq_none (by rw [yL_len]; omega)]
/-- append(s, x...) of bytes, s the call's own. -/
theorem append_y {w : World} {ops : Array Oper} {rest : List Oper} {o : Oper} {a : Act} {Q : Exit → Act → World → Prop} (hgd : o.guard = none) (s x : Operand)
    (ho : o.op = .call { callee := .builtin .append, args := #[s, x], argTypes := #[22, 22] })
    (base : Nat) (vs vx : Value) (n m : Nat) (f g : Nat → Nat) (hs : a.eval s = vs) (hx : a.eval x = vx) (hown : Own w base vs n f) (hsl : Sl w vx m g) (hnm : n + m ≤ 211106232532992) (hbase : base ≤ w.heap.size)
    (h : ∀ v' w', Own w' base v' (n + m) (cat f n g) → Chg w w' (ob vs) → wpList Tryd.prog ops Q rest (a.put o.dst v') w') : wpList Tryd.prog ops Q (o :: rest) a w := by
  obtain ⟨i, hi, hz, h1, h2⟩ := u8Row
  rcases hsl with ⟨rfl, rfl⟩ | ⟨gx, ox, cap, rfl, hc1, hc2, hb⟩
  · refine wpList_append_own_none hgd s x 22 ho base 5 i 1 Tryd.underlying22 hi vs n (yL n f) hs hown.1 hx ?_
    refine h vs w ⟨?_, fun j hj => ?_⟩ (Chg.refl w _)
    · have e : yL (n + 0) (cat f n g) = yL n f := by rw [← yL_cat]; simp [yL]
      rw [e]
      exact hown.1
    · unfold cat
      rw [if_pos (by omega)]
      exact hown.2 j (by omega)
  · refine wpList_append_own_wide w hgd s x 22 ho base 5 i (.int .u8 0) 1 1 Tryd.underlying22 hi hz h1 h2 rfl (by omega) vs n (yL n f) hs hown.1 ⟨gx, ox, none⟩ m cap (yL m g) hx (by rw [yL_len]; omega)
      (fun j u hj => by obtain ⟨hj1, rfl⟩ := yL_some m g j u hj; exact add_cell (hb.cell j hj1)) (yL_one m g) (by simp [maxLen]; omega) (by omega) hbase ?_
    intro v' w' h3 h4 _
    rw [yL_cat] at h3
    refine h v' w' ⟨h3, fun j hj => ?_⟩ (Chg.grown h4)
    unfold cat
    by_cases hj2 : j < n
    · rw [if_pos hj2]; exact hown.2 j hj2
    · rw [if_neg hj2]; exact hb.bd _ (by omega)

theorem results_cell_tmp {P : Program} {fn : Func} {p q : Tmp} {ty : TypeId} (h : fn.results = #[.cell p ty, .tmp q]) (tmps : Array Value) (w : World) (g : Nat) (t : TypeId) (cs : Array Value) (d : TypeDesc) (v : Value)
    (hp : tmps.getD p undef = .pointer (some ⟨g, 0, none⟩)) (hq : tmps.getD q undef = v) (hg : w.heap[g]? = some (.cells cs t (0, 0)))
    (hu : P.underlying ty = some d) (hd : (match d with | .struct _ | .array _ _ => true | _ => false) = true) (hi : (P.info? ty).map (·.size) = some cs.size) :
    (results fn tmps).run P w = .ok (.tuple #[.agg cs, v]) w := by
  have hp' : tmps[p]?.getD undef = .pointer (some ⟨g, 0, none⟩) := by simpa using hp
  have hq' : tmps[q]?.getD undef = v := by simpa using hq
  simp [results, h, hp', hq', asAddr, run_loadVar_row w g t ty cs (0, 0) d hg hu hd hi]
/-- Eight words 0. -/
def z8 : Array Value := #[.int .u64 0, .int .u64 0, .int .u64 0, .int .u64 0, .int .u64 0, .int .u64 0, .int .u64 0, .int .u64 0]
attribute [local irreducible] hC vC yC IV KK sha cmp
set_option maxHeartbeats 4000000 in
set_option maxRecDepth 100000 in
theorem Compress_s (g o c : Nat) (s b : Nat → Nat) (w : World) (hG : Gl w) (hs : ∀ i, i < 8 → U (s i)) (hc : 128 ≤ c) (hc2 : c ≤ 9223372036854775807) (hb : Bs w g o 128 b) :
    Calls Tryd.prog 18 #[.agg (vC 8 s), .slice (some ⟨g, o, none⟩) 128 c] w fun e w' => e = .returned (.tuple #[.agg (vC 8 (cmp KK s b)), .int .i64 0]) ∧ Chg w w' [] := by
  have hl := hG.lt
  have hgl := hb.lt
  have K0 := ((Chg.refl w []).alloc (.cells (vC 8 s) 53)).alloc (.cells z8 53)
  have F0 : Blk ((w.alloc (.cells (vC 8 s) 53)).alloc (.cells z8 53)) w.heap.size (vC 8 s ++ #[]) 53 := ((Blk.new w (vC 8 s) 53).alloc (.cells z8 53)).to (by simp)
  have F1 : Blk ((w.alloc (.cells (vC 8 s) 53)).alloc (.cells z8 53)) (w.heap.size + 1) z8 53 := by have q := Blk.new (w.alloc (.cells (vC 8 s) 53)) z8 53; simpa using q
  go_enter Tryd.func18, Tryd.ntmps18
  go_wp2_with fail
  refine (compress_s w.heap.size g o c KK s b #[] 53 _ hc hc2 ((hG.chg K0 (by simp) (by simp)).kc) hs (hb.chg K0 (by simp)) F0 (by omega)).mono ?_
  rintro e v1 ⟨rfl, B1, k1⟩
  rw [Array.append_empty] at B1
  replace F1 := F1.chg k1 (by simp)
  replace K0 := K0.trans k1 (by simp)
  go_wp2_with (first | (refine wpList_load_row rfl 53 _ rfl w.heap.size rfl 53 _ (0, 0) _ B1 Tryd.underlying53 rfl (by rw [vC_size]; exact S8Info) ?_) | (refine wpList_store_row rfl 53 _ _ rfl (w.heap.size + 1) _ rfl rfl 53 _ F1 (by rw [vC_size]; exact S8Info) (by rw [vC_size]; rfl) (vC_one _ _) ?_))
  exact bodyPost_ret (results_cell_tmp Tryd.results18 _ _ (w.heap.size + 1) 53 (vC 8 (cmp KK s b)) _ _ rfl rfl (F1.setRow _) Tryd.underlying53 rfl (by rw [vC_size]; exact S8Info)) rfl ⟨rfl, K0.setRowNew (by omega) _⟩
set_option maxHeartbeats 4000000 in
set_option maxRecDepth 100000 in
theorem Clone_s (g o n c : Nat) (f : Nat → Nat) (w : World) (hn : n ≤ 211106232532992) (hnc : n ≤ c) (hc : c ≤ 9223372036854775807) (hb : Bs w g o n f) :
    Calls Tryd.prog 57 #[.slice (some ⟨g, o, none⟩) n c] w fun e w' => ∃ v, e = .returned v ∧ Own w' w.heap.size v n f ∧ Chg w w' [] := by
  have O0 : Own (w.alloc (.cells #[] 5)) w.heap.size (.slice (some ⟨w.heap.size, 0, none⟩) 0 0) 0 f := ⟨World.ownsRow_made w #[] 0 (Nat.le_refl _) (by simp [maxLen]) (by simp), fun i hi => by omega⟩
  have K0 := (Chg.refl w []).alloc (.cells #[] 5)
  have S0 : Sl (w.alloc (.cells #[] 5)) (.slice (some ⟨g, o, none⟩) n c) n f := Or.inr ⟨g, o, c, rfl, hnc, hc, hb.chg K0 (by simp)⟩
  have hq : ∀ W, (binOp .eql 22 (.slice (some ⟨g, o, none⟩) n c) (.slice none 0 0)).run Tryd.prog W = .ok (.bool false) W := fun W => Lib.run_eql_slice_some_nil W _ _ _ Tryd.underlying22
  go_enter Tryd.func57, Tryd.ntmps57
  go_wp2_with (refine append_y rfl (.tmp 5) (.tmp 6) rfl w.heap.size (.slice (some ⟨w.heap.size, 0, none⟩) 0 0) (.slice (some ⟨g, o, none⟩) n c) 0 n f f rfl rfl O0 S0 (by omega) (by simp) ?_; intro v1 w1 O1 k1)
  rw [Nat.zero_add] at O1
  have e : cat f 0 f = f := cat_zero f f
  rw [e] at O1
  go_wp2_with fail
  go_ret
  exact ⟨v1, rfl, O1, K0.trans k1 (by simp [ob, Value.ownBlock])⟩
set_option maxHeartbeats 4000000 in
set_option maxRecDepth 100000 in
theorem Pad_s (n : Nat) (w : World) (hn : n < 2305843009213693952) : Calls Tryd.prog 20 #[.int .u64 n] w fun e w' => ∃ v, e = .returned (.tuple #[v, .int .i64 0]) ∧ Own w' w.heap.size v (17 + zr n) (pdf n) ∧ Chg w w' [] := by
  have F0 : Blk (w.alloc (.cells Tryd.zeroCells129 129)) w.heap.size (yC 144 fun _ => 0) 129 := (Blk.new w _ _).to zR
  have K0 := (Chg.refl w []).alloc (.cells Tryd.zeroCells129 129)
  have hI : ¬ (2305843009213693952 : Int) ≤ (n : Int) := by omega
  have hz : zr n < 128 := Nat.mod_lt _ (by decide)
  obtain ⟨m, hm⟩ : ∃ m, 17 + zr n = m := ⟨_, rfl⟩
  have hm1 : m ≤ 144 := by omega
  have hm2 : (m : Int) ≤ 144 := by omega
  have HF := fill_s w.heap.size n (w.alloc (.cells Tryd.zeroCells129 129)) (show U n by unfold U; omega) F0
  rw [hm] at HF ⊢
  have e4 : IntKind.i64.wrap (m : Int) = (m : Int) := by rw [IntKind.wrap_i64]; omega
  clear hn hz hm
  have HFH : Hid (Calls Tryd.prog 58 #[.pointer (some ⟨w.heap.size, 0, none⟩), .int .u64 n] (w.alloc (.cells Tryd.zeroCells129 129)) fun e w' => e = .returned (.int .i64 (m : Int)) ∧ Blk w' w.heap.size (yC 144 (pdf n)) 129 ∧ Chg (w.alloc (.cells Tryd.zeroCells129 129)) w' [w.heap.size]) := HF
  clear HF F0
  go_enter Tryd.func20, Tryd.ntmps20
  go_wp2_with fail
  refine HFH.out.mono ?_
  rintro e v1 ⟨rfl, R1, k1⟩
  replace K0 := K0.trans k1 (by simp)
  have BR : Bs v1 w.heap.size 0 m (pdf n) := ⟨R1.lt, fun i _ => pdf_lt n i, fun i hi => by rw [Nat.zero_add, R1.cell, yC_get _ _ _ (by omega)]⟩
  go_wp2_with fail
  refine (Clone_s w.heap.size 0 m 144 (pdf n) v1 (by omega) hm1 (by omega) BR).mono ?_
  rintro e v2 ⟨v, rfl, O2, k2⟩
  go_wp2_with fail
  go_ret2
  refine ⟨v, rfl, ⟨?_, O2.2⟩, K0.trans1 k2⟩
  obtain ⟨a1, a2⟩ := O2.1
  refine ⟨a1, ?_⟩
  rcases a2 with a2 | ⟨g, cap, cur, e1, e2, e3⟩
  · exact Or.inl a2
  · exact Or.inr ⟨g, cap, cur, e1, Nat.le_trans K0.size e2, e3⟩
end Go.Proofs.YtjcgjhncdaplcaaDoor
