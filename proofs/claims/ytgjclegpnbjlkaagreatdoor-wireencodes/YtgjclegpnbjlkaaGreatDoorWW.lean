/- Operations whose new world is a letter; what a call of its own may write. -/
import Derived.Test.YtgjclegpnbjlkaaGreatDoorMwA
import Derived.Great.BuildSlice
set_option linter.unusedVariables false
set_option linter.unusedSimpArgs false
set_option linter.unnecessarySimpa false
namespace Go.Proofs.YtgjclegpnbjlkaaGreatDoor
open Go.RowKit

theorem wp_alloc_w {P : Program} {w : World} {op : Oper} {a : Act} {K : Act → World → Prop} {Q : Exit → Act → World → Prop} (ty : TypeId) (ho : op.op = .alloc ty) (z : Value) (hz : (P.info? ty).bind (·.zero) = some z) (cs : Array Value) (hc : z.cells = cs)
    (h : ∀ g w', w.heap.size ≤ g → Blk w' g cs ty → Chg w w' [] → K (a.put op.dst (.pointer (some ⟨g, 0, none⟩))) w') : op.wp P a w K Q := by
  subst hc
  cases hi : P.info? ty with
  | none => rw [hi] at hz; cases hz
  | some i =>
    rw [hi] at hz
    replace hz : i.zero = some z := hz
    have hr : (Instr.alloc ty true (.tuple #[])).run P w = .ok (.pointer (some ⟨w.heap.size, 0, none⟩)) (w.alloc (.cells z.cells ty)) := by simp [Instr.alloc, zeroValue, typeInfo, hi, hz, newVar, newRow]
    unfold Oper.wp execOp
    simp only [ho, Sem.run_bind, hr, Sem.run_pure, Result.andThen_ok]
    exact h _ _ (Nat.le_refl _) (Blk.new w _ _) ((Chg.refl w []).alloc _)
theorem alloc_w {P : Program} {w : World} {ops : Array Oper} {rest : List Oper} {op : Oper} {a : Act} {Q : Exit → Act → World → Prop} (hgd : op.guard = none) (ty : TypeId) (ho : op.op = .alloc ty) (z : Value) (hz : (P.info? ty).bind (·.zero) = some z) (cs : Array Value) (hc : z.cells = cs)
    (h : ∀ g w', w.heap.size ≤ g → Blk w' g cs ty → Chg w w' [] → wpList P ops Q rest (a.put op.dst (.pointer (some ⟨g, 0, none⟩))) w') : wpList P ops Q (op :: rest) a w :=
  wpList_plain hgd fun _ hK => wp_alloc_w ty ho z hz cs hc fun g w' q1 q2 q3 => hK _ _ (h g w' q1 q2 q3)
theorem box_w {P : Program} {w : World} {ops : Array Oper} {rest : List Oper} {op : Oper} {a : Act} {Q : Exit → Act → World → Prop} (hgd : op.guard = none) (ty : TypeId) (x : Operand) (ho : op.op = .box ty x) (cs : Array Value) (hx : (a.eval x).cells = cs)
    (h : ∀ g w', w.heap.size ≤ g → Blk w' g cs ty → Chg w w' [] → wpList P ops Q rest (a.put op.dst (.pointer (some ⟨g, 0, none⟩))) w') : wpList P ops Q (op :: rest) a w := by
  subst hx
  refine wpList_plain hgd fun K hK => ?_
  unfold Oper.wp execOp
  simp only [ho, Sem.run_bind, Instr.box, newVar, newRow, run_newObj_alloc, Sem.run_pure, Result.andThen_ok]
  exact hK _ _ (h _ _ (Nat.le_refl _) (Blk.new w _ _) ((Chg.refl w []).alloc _))
theorem wp_store_w {P : Program} {w : World} {op : Oper} {a : Act} {K : Act → World → Prop} {Q : Exit → Act → World → Prop} {g : Nat} {cs : Array Value} {t : TypeId} (hg : Blk w g cs t) (ty : TypeId) (x y : Operand) (cells : Array Value)
    (ho : op.op = .store ty x y) (hx : a.eval x = .pointer (some ⟨g, 0, none⟩)) (hy : a.eval y = .agg cells) (hi : (P.info? ty).map (·.size) = some cells.size) (hs : cs.size = cells.size) (h1 : cells.all (·.oneCell') = true)
    (h : ∀ w', Blk w' g cells t → Chg w w' [g] → K (a.put op.dst undef) w') : op.wp P a w K Q :=
  wp_store_row ty x y ho g cells hx hy t cs hg hi hs h1 (h _ (Blk.setRow hg _) (Chg.of (gb_setRow (gb_refl _ _) _)))
theorem store_w {P : Program} {w : World} {ops : Array Oper} {rest : List Oper} {op : Oper} {a : Act} {Q : Exit → Act → World → Prop} {g : Nat} {cs : Array Value} {t : TypeId} (hg : Blk w g cs t) (hgd : op.guard = none) (ty : TypeId) (x y : Operand) (cells : Array Value)
    (ho : op.op = .store ty x y) (hx : a.eval x = .pointer (some ⟨g, 0, none⟩)) (hy : a.eval y = .agg cells) (hi : (P.info? ty).map (·.size) = some cells.size) (hs : cs.size = cells.size) (h1 : cells.all (·.oneCell') = true)
    (h : ∀ w', Blk w' g cells t → Chg w w' [g] → wpList P ops Q rest (a.put op.dst undef) w') : wpList P ops Q (op :: rest) a w :=
  wpList_plain hgd fun _ hK => wp_store_w hg ty x y cells ho hx hy hi hs h1 fun w' q1 q2 => hK _ _ (h w' q1 q2)
theorem exec_load_m {P : Program} {op : Oper} {a : Act} (w : World) (ty : TypeId) (x : Operand) (ho : op.op = .load ty x) (b o : Nat) (hx : a.eval x = .pointer (some ⟨b, o, none⟩)) (cs : List Value) (d : TypeDesc) (hc : w.rangeAt b o cs)
    (hu : P.underlying ty = some d) (hd : d.isRow = true) (hi : (P.info? ty).map (·.size) = some cs.length) : (execOp a.eval op).run P w = .ok (.value (.agg cs.toArray)) w := by
  unfold execOp
  simp only [ho, hx, Instr.loadAt, Instr.sureAddr, Sem.run_bind, Sem.run_pure, Result.andThen_ok, run_loadVar_mid w b o ty cs d hc hu hd hi]
theorem bslice_w {P : Program} {w : World} {ops : Array Oper} {rest : List Oper} {op : Oper} {a : Act} {Q : Exit → Act → World → Prop} (hgd : op.guard = none) (t e : TypeId) (x : Operand) (ho : op.op = .buildSlice t 1 #[(0, x)]) (v : Value) (hx : a.eval x = v) (cells : Array Value) (ie : TypeInfo) (z : Value)
    (hu : P.underlying t = some (.slice e)) (hie : P.info? e = some ie) (hz : ie.zero = some z) (s : Nat) (hs : ie.size = s) (h0 : 0 < s) (h1 : s ≤ 1000)
    (hf : Instr.fill (fun i => some (i * s, s)) ((Array.range (1 * s)).map (z.cells[· % z.cells.size]!)) [(0, v)] = some cells)
    (h : ∀ g w', w.heap.size ≤ g → Blk w' g cells e → Chg w w' [] → wpList P ops Q rest (a.put op.dst (.slice (some ⟨g, 0, none⟩) 1 1)) w') : wpList P ops Q (op :: rest) a w := by
  subst hs hx
  refine wpList_buildSlice hgd t e 1 _ ho cells ie z hu hie hz (by omega) (by omega) (by simpa using hf) (h _ _ (Nat.le_refl _) (Blk.new w _ _) ((Chg.refl w []).alloc _))
theorem bsl_w {P : Program} {w : World} {ops : Array Oper} {rest : List Oper} {op : Oper} {a : Act} {Q : Exit → Act → World → Prop} (hgd : op.guard = none) (t e : TypeId) (n : Nat) (parts : Array (Nat × Operand)) (ho : op.op = .buildSlice t n parts) (vs : List (Nat × Value)) (hv : (parts.map fun (i, x) => (i, a.eval x)).toList = vs) (cells : Array Value) (ie : TypeInfo) (z : Value)
    (hu : P.underlying t = some (.slice e)) (hie : P.info? e = some ie) (hz : ie.zero = some z) (s : Nat) (hs : ie.size = s) (h0 : ¬ n * s = 0) (h1 : ¬ n * s > 2 ^ 24)
    (hf : Instr.fill (fun i => some (i * s, s)) ((Array.range (n * s)).map (z.cells[· % z.cells.size]!)) vs = some cells)
    (h : ∀ g w', w.heap.size ≤ g → Blk w' g cells e → Chg w w' [] → wpList P ops Q rest (a.put op.dst (.slice (some ⟨g, 0, none⟩) n n)) w') : wpList P ops Q (op :: rest) a w := by
  subst hs hv
  exact wpList_buildSlice hgd t e n _ ho cells ie z hu hie hz h1 h0 hf (h _ _ (Nat.le_refl _) (Blk.new w _ _) ((Chg.refl w []).alloc _))
/-- Only blocks from base on are written. -/
def Cb (base : Nat) (w w' : World) : Prop := ∃ l, Chg w w' l ∧ ∀ k, k ∈ l → base ≤ k
theorem Cb.refl (base : Nat) (w : World) : Cb base w w := ⟨[], Chg.refl _ _, fun k hk => by simp at hk⟩
theorem Cb.of {base : Nat} {w w' : World} {l : List Nat} (h : Chg w w' l) (hl : ∀ k, k ∈ l → base ≤ k) : Cb base w w' := ⟨l, h, hl⟩
theorem Cb.none {base : Nat} {w w' : World} (h : Chg w w' []) : Cb base w w' := ⟨[], h, fun k hk => by simp at hk⟩
theorem Cb.trans {base : Nat} {a b c : World} (h : Cb base a b) (k : Cb base b c) : Cb base a c := by
  obtain ⟨l, h1, h2⟩ := h
  obtain ⟨m, k1, k2⟩ := k
  exact ⟨l ++ m, (h1.incl (fun i hi => by simp [hi])).trans1 (k1.incl (fun i hi => by simp [hi])), fun i hi => by
    rcases List.mem_append.1 hi with hi | hi
    · exact h2 i hi
    · exact k2 i hi⟩
theorem Cb.size {base : Nat} {w w' : World} (h : Cb base w w') : w.heap.size ≤ w'.heap.size := by obtain ⟨l, h1, _⟩ := h; exact h1.size
theorem Cb.low {base : Nat} {w0 w w' : World} (c : Chg w0 w []) (h : Cb base w w') (hb : w0.heap.size ≤ base) : Chg w0 w' [] := by
  obtain ⟨l, h1, h2⟩ := h
  exact c.trans h1 (fun i hi => Or.inr (Nat.le_trans hb (h2 i hi)))
theorem Cb.down {base base' : Nat} {w w' : World} (h : Cb base w w') (hb : base' ≤ base) : Cb base' w w' := by
  obtain ⟨l, h1, h2⟩ := h
  exact ⟨l, h1, fun k hk => Nat.le_trans hb (h2 k hk)⟩
theorem Blk.cb {w w' : World} {b base : Nat} {c : Array Value} {T : TypeId} (h : Blk w b c T) (hc : Cb base w w') (hb : b < base) : Blk w' b c T := by
  obtain ⟨l, h1, h2⟩ := hc
  exact h.chg h1 (fun hx => by have := h2 b hx; omega)
theorem Own.cg {w : World} {base : Nat} {v : Value} {n : Nat} {f g : Nat → Nat} (h : Own w base v n f) (e : ∀ i, i < n → f i = g i) : Own w base v n g := by
  refine ⟨?_, fun i hi => by rw [← e i hi]; exact h.2 i hi⟩
  have e2 : yL n g = yL n f := by
    unfold yL
    exact List.map_congr_left fun i hi => by rw [e i (by simpa using hi)]
  rw [e2]; exact h.1
/-- append of bytes to bytes of the call's own. -/
theorem append_c {w : World} {ops : Array Oper} {rest : List Oper} {o : Oper} {a : Act} {Q : Exit → Act → World → Prop} (hgd : o.guard = none) (s x : Operand)
    (ho : o.op = .call { callee := .builtin .append, args := #[s, x], argTypes := #[29, 29] })
    (base : Nat) (vs vx : Value) (n m : Nat) (f g : Nat → Nat) (hs : a.eval s = vs) (hx : a.eval x = vx) (hown : Own w base vs n f) (hsl : Sl w vx m g) (hnm : n + m ≤ 211106232532992) (hbase : base ≤ w.heap.size)
    (h : ∀ v' w', Own w' base v' (n + m) (cat f n g) → Cb base w w' → wpList Tryz.prog ops Q rest (a.put o.dst v') w') : wpList Tryz.prog ops Q (o :: rest) a w :=
  append_y hgd s x ho base vs vx n m f g hs hx hown hsl hnm hbase fun v' w' O c => h v' w' O (Cb.of c (fun k hk => (hown.ob_ge k hk).1))
theorem Own.nt {w : World} {base : Nat} {v : Value} {n : Nat} {f : Nat → Nat} {g : Nat} {C : Array Value} {T : TypeId} (h : Own w base v n f) (B : Blk w g C T) (hT : ¬ T = 5) : ¬ g ∈ ob v := fun hm => by
  obtain ⟨C', hC'⟩ := ownsRow_blk h.1 hm
  exact B.ne hC' hT rfl
theorem Own.cb {w w' : World} {base : Nat} {v : Value} {n : Nat} {f : Nat → Nat} (h : Own w base v n f) (c : Chg w w' (ob v)) : Cb base w w' := Cb.of c (fun k hk => (h.ob_ge k hk).1)
/-- Blocks of other kinds than bytes stay. -/
def Kp (w w' : World) : Prop := ∀ g C T, ¬ T = 5 → Blk w g C T → Blk w' g C T
theorem Kp.of {w w' : World} (h : Chg w w' []) : Kp w w' := fun _ _ _ _ B => B.chg h (by simp)
theorem Kp.trans {a b c : World} (h : Kp a b) (k : Kp b c) : Kp a c := fun g C T hT B => k g C T hT (h g C T hT B)
theorem Own.kp {w w' : World} {base : Nat} {v : Value} {n : Nat} {f : Nat → Nat} (h : Own w base v n f) (c : Chg w w' (ob v)) : Kp w w' := fun _ _ _ hT B => B.chg c (h.nt B hT)
theorem Blk.sly {w : World} {g : Nat} {n : Nat} {f : Nat → Nat} (h : Blk w g (yC n f) 5) (hf : ∀ i, i < n → f i < 256) (hn : n ≤ 9223372036854775807) : Sl w (.slice (some ⟨g, 0, none⟩) n n) n f :=
  Or.inr ⟨g, 0, n, rfl, Nat.le_refl _, hn, h.lt, hf, fun i hi => by rw [Nat.zero_add, h.cell]; unfold yC; simp [hi]⟩
end Go.Proofs.YtgjclegpnbjlkaaGreatDoor
