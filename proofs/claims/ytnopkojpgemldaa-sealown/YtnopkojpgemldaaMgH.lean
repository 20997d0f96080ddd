/- Joined: GvG, WW, Giv. -/
import Derived.Test.YtnopkojpgemldaaMgB
import Derived.Great.BuildSlice
/- rimeplain.Given: its thirty lists as a function; a pair of its lists (what was handed in, and its twins). Of no package. -/
set_option linter.unusedVariables false
set_option linter.unusedSimpArgs false
set_option linter.unnecessarySimpa false
namespace Go.Proofs.Ytnopkojpgemldaa
open Go.RowKit

/-- A Given's thirty lists. -/
def gvC (G : Nat → Value) : Array Value := ((List.range 30).map G).toArray
theorem gvC_get (G : Nat → Value) (k : Nat) (h : k < 30) : (gvC G)[k]? = some (G k) := by simp [gvC, h]
def upV (G : Nat → Value) (i : Nat) (v : Value) : Nat → Value := fun j => if j = i then v else G j
theorem upV_same (G : Nat → Value) (i : Nat) (v : Value) : upV G i v i = v := by simp [upV]
theorem upV_other (G : Nat → Value) (i : Nat) (v : Value) (j : Nat) (h : ¬ j = i) : upV G i v j = G j := by simp [upV, h]
theorem gvC_set (G : Nat → Value) (i : Nat) (v : Value) : (gvC G).setIfInBounds i v = gvC (upV G i v) := by
  apply Array.ext_getElem?
  intro k
  by_cases h : k < 30
  · rw [gvC_get _ _ h]
    by_cases h2 : i = k
    · subst h2
      rw [Array.getElem?_setIfInBounds_self_of_lt (by simp [gvC]; exact h), upV_same]
    · rw [Array.getElem?_setIfInBounds_ne h2, gvC_get _ _ h, upV_other _ _ _ _ (fun e => h2 e.symm)]
  · rw [Array.getElem?_eq_none (by simp [gvC]; omega), Array.getElem?_eq_none (by simp [gvC]; omega)]
theorem Blk.ne {w : World} {a b : Nat} {C D : Array Value} {T U : TypeId} (h : Blk w a C T) (k : Blk w b D U) (hT : ¬ T = U) : ¬ a = b := by
  intro e
  subst e
  have : (some (Obj.cells C T (0, 0))) = some (Obj.cells D U (0, 0)) := by rw [← h, ← k]
  simp at this
  exact hT this.2
theorem ownsRow_blk {w : World} {base : Nat} {T : TypeId} {s : Nat} {v : Value} {n : Nat} {xs : List Value} (h : w.ownsRow base T s v n xs) {k : Nat} (hk : k ∈ ob v) : ∃ C, Blk w k C T := by
  rcases h.2 with ⟨rfl, _⟩ | ⟨g, cap, cur, rfl, hb, hg, _⟩
  · simp [ob, Value.ownBlock] at hk
  · simp [ob, Value.ownBlock] at hk
    subst hk
    exact ⟨cur, hg⟩
/-- The pair of lists at p and p + 1 of a Given in block gb: K copies, of N j rows F j each, and their twins. -/
structure Gv (w : World) (gb base : Nat) (G : Nat → Value) (p : Nat) (TG TE T : TypeId) (s K : Nat) (N : Nat → Nat) (F : Nat → Nat → List Value) : Prop where
  gb : Blk w gb (gvC G) TG
  lists : ∃ vs us : List Value, w.ownsRow base TE 1 (G p) K vs ∧ w.ownsRow base TE 1 (G (p + 1)) K us ∧ (∀ x, x ∈ ob (G p) → ¬ x ∈ ob (G (p + 1))) ∧
    ∀ j, j < K → ∃ o x, vs[j]? = some (.slice (some ⟨o, 0, none⟩) (N j) (N j)) ∧ us[j]? = some x ∧ N j ≤ 9223372036854775807 ∧ Blk w o (rL s (N j) (F j)).toArray T ∧ OwnR w base T s x (N j) (F j)
/-- What a call of Given may turn. -/
def gch (gb : Nat) (G : Nat → Value) (p : Nat) : List Nat := gb :: (ob (G p) ++ ob (G (p + 1)))
theorem Gv.off {w : World} {gb base : Nat} {G : Nat → Value} {p : Nat} {TG TE T : TypeId} {s K : Nat} {N : Nat → Nat} {F : Nat → Nat → List Value} (h : Gv w gb base G p TG TE T s K N F) {o : Nat} {C : Array Value} {U : TypeId} (hb : Blk w o C U) (h1 : ¬ U = TG) (h2 : ¬ U = TE) : ¬ o ∈ gch gb G p := by
  obtain ⟨vs, us, l1, l2, _⟩ := h.lists
  intro hm
  rcases List.mem_cons.1 hm with e | hm
  · exact hb.ne h.gb h1 e
  · rcases List.mem_append.1 hm with hm | hm
    · obtain ⟨C', hC⟩ := ownsRow_blk l1 hm
      exact hb.ne hC h2 rfl
    · obtain ⟨C', hC⟩ := ownsRow_blk l2 hm
      exact hb.ne hC h2 rfl
theorem ownR_blk {w : World} {base : Nat} {T : TypeId} {s : Nat} {v : Value} {n : Nat} {F : Nat → List Value} (h : OwnR w base T s v n F) {k : Nat} (hk : k ∈ ob v) : ∃ C, Blk w k C T := ownsRow_blk h.1 hk
/-- It stands where nothing old is turned. -/
theorem Gv.chg {w w' : World} {gb base : Nat} {G : Nat → Value} {p : Nat} {TG TE T : TypeId} {s K : Nat} {N : Nat → Nat} {F : Nat → Nat → List Value} (h : Gv w gb base G p TG TE T s K N F) (hc : Chg w w' []) : Gv w' gb base G p TG TE T s K N F := by
  refine ⟨h.gb.chg hc (by simp), ?_⟩
  obtain ⟨vs, us, l1, l2, hd, hj⟩ := h.lists
  refine ⟨vs, us, ownsRow_chg l1 hc (by simp), ownsRow_chg l2 hc (by simp), hd, fun j hjk => ?_⟩
  obtain ⟨o, x, h1, h2, h3, h4, h5⟩ := hj j hjk
  exact ⟨o, x, h1, h2, h3, h4.chg hc (by simp), h5.chg hc (by simp)⟩
theorem ob_slice (g n c : Nat) : ob (.slice (some ⟨g, 0, none⟩) n c) = [g] := rfl
/-- One more, and its twin: behind both appends. -/
theorem Gv.more {w w' : World} {gb base : Nat} {G : Nat → Value} {p : Nat} {TG TE T : TypeId} {s K : Nat} {N : Nat → Nat} {F : Nat → Nat → List Value} (h : Gv w gb base G p TG TE T s K N F) (hT1 : ¬ T = TG) (hT2 : ¬ T = TE)
    (hc : Chg w w' (gch gb G p)) {la lb : Value} {vs0 us0 : List Value} {o : Nat} {x : Value} {m : Nat} {H : Nat → List Value}
    (k1 : w.ownsRow base TE 1 (G p) K vs0) (k2 : w.ownsRow base TE 1 (G (p + 1)) K us0) (hj : ∀ j, j < K → ∃ o x, vs0[j]? = some (.slice (some ⟨o, 0, none⟩) (N j) (N j)) ∧ us0[j]? = some x ∧ N j ≤ 9223372036854775807 ∧ Blk w o (rL s (N j) (F j)).toArray T ∧ OwnR w base T s x (N j) (F j))
    (hgb : Blk w' gb (gvC (upV (upV G p la) (p + 1) lb)) TG) (l1 : w'.ownsRow base TE 1 la (K + 1) (vs0 ++ [.slice (some ⟨o, 0, none⟩) m m])) (l2 : w'.ownsRow base TE 1 lb (K + 1) (us0 ++ [x])) (hd : ∀ x, x ∈ ob la → ¬ x ∈ ob lb)
    (hm : m ≤ 9223372036854775807) (ho : Blk w' o (rL s m H).toArray T) (hx : OwnR w' base T s x m H) :
    Gv w' gb base (upV (upV G p la) (p + 1) lb) p TG TE T s (K + 1) (fun j => if j = K then m else N j) (fun j => if j = K then H else F j) := by
  refine ⟨hgb, ?_⟩
  have e1 : upV (upV G p la) (p + 1) lb p = la := by rw [upV_other _ _ _ _ (by omega), upV_same]
  have e2 : upV (upV G p la) (p + 1) lb (p + 1) = lb := upV_same _ _ _
  rw [e1, e2]
  have hoff := fun o C hb => h.off (o := o) (C := C) (U := T) hb hT1 hT2
  have s1 : vs0.length = K := by have := k1.1; omega
  have s2 : us0.length = K := by have := k2.1; omega
  refine ⟨_, _, l1, l2, hd, fun j hjk => ?_⟩
  by_cases hjK : j = K
  · subst hjK
    refine ⟨o, x, ?_, ?_, ?_, ?_, ?_⟩
    · rw [List.getElem?_append_right (by omega), s1, if_pos rfl]; simp
    · rw [List.getElem?_append_right (by omega), s2]; simp
    · rw [if_pos rfl]; exact hm
    · rw [if_pos rfl, if_pos rfl]; exact ho
    · rw [if_pos rfl, if_pos rfl]; exact hx
  · obtain ⟨o', x', q1, q2, q3, q4, q5⟩ := hj j (by omega)
    refine ⟨o', x', ?_, ?_, ?_, ?_, ?_⟩
    · rw [List.getElem?_append_left (by omega), if_neg hjK]; exact q1
    · rw [List.getElem?_append_left (by omega)]; exact q2
    · rw [if_neg hjK]; exact q3
    · rw [if_neg hjK, if_neg hjK]; exact q4.chg hc (hoff _ _ q4)
    · rw [if_neg hjK, if_neg hjK]
      exact q5.chg hc (fun k hk => by obtain ⟨C, hC⟩ := ownR_blk q5 hk; exact hoff _ _ hC)
/-- The rows of a copy that is handed in: those that came, and marks behind them. -/
def gvR (mk F : Nat → List Value) (n : Nat) : Nat → List Value := fun j => if j < n then F j else mk j
def gvR1 (mk : Nat → List Value) (z : List Value) (i : Nat) : Nat → List Value := fun j => if j < i then mk j else z
theorem gvR1_step (mk : Nat → List Value) (z : List Value) (i : Nat) : upR (gvR1 mk z i) i (mk i) = gvR1 mk z (i + 1) := by
  funext j; unfold upR gvR1
  by_cases h : j = i
  · subst h; rw [if_pos rfl, if_pos (by omega)]
  · rw [if_neg h]
    by_cases h2 : j < i
    · rw [if_pos h2, if_pos (by omega)]
    · rw [if_neg h2, if_neg (by omega)]
theorem gvR_step (mk F : Nat → List Value) (i : Nat) : upR (gvR mk F i) i (F i) = gvR mk F (i + 1) := by
  funext j; unfold upR gvR
  by_cases h : j = i
  · subst h; rw [if_pos rfl, if_pos (by omega)]
  · rw [if_neg h]
    by_cases h2 : j < i
    · rw [if_pos h2, if_pos (by omega)]
    · rw [if_neg h2, if_neg (by omega)]
theorem gvR1_ok {s m : Nat} {mk : Nat → List Value} {z : List Value} (hm : ∀ i, (mk i).length = s ∧ ∀ v ∈ mk i, v.oneCell' = true) (hz : z.length = s ∧ ∀ v ∈ z, v.oneCell' = true) (i : Nat) : Rok s m (gvR1 mk z i) := fun j _ => by
  unfold gvR1
  by_cases h : j < i
  · rw [if_pos h]; exact hm j
  · rw [if_neg h]; exact hz
theorem gvR_ok {s m n : Nat} {mk F : Nat → List Value} (hm : ∀ i, (mk i).length = s ∧ ∀ v ∈ mk i, v.oneCell' = true) (hF : Rok s n F) (i : Nat) (hi : i ≤ n) : Rok s m (gvR mk F i) := fun j _ => by
  unfold gvR
  by_cases h : j < i
  · rw [if_pos h]; exact hF j (by omega)
  · rw [if_neg h]; exact hm j
end Go.Proofs.Ytnopkojpgemldaa

/- Operations whose new world is a letter; what a call of its own may write. -/
namespace Go.Proofs.Ytnopkojpgemldaa
open Go.RowKit

theorem wp_alloc_w {P : Program} {w : World} {op : Oper} {a : Act} {K : Act → World → Prop} {Q : Exit → Act → World → Prop} (ty : TypeId) (ho : op.op = .alloc ty) (z : Value) (hz : (P.info? ty).bind (·.zero) = some z) (cs : Array Value) (hc : z.cells = cs)
    (h : ∀ g w', w.heap.size ≤ g → Blk w' g cs ty → Chg w w' [] → K (a.put op.dst (.pointer (some ⟨g, 0, none⟩))) w') : op.wp P a w K Q := by
  subst hc
  cases hi : P.info? ty with
  | none => rw [hi] at hz; cases hz
  | some i =>
    rw [hi] at hz
    replace hz : i.zero = some z := hz
    have hr : (Instr.alloc ty true (.tuple #[])).run P w = .ok (.pointer (some ⟨w.heap.size, 0, none⟩)) (w.alloc (.cells z.cells ty)) := by simp [Instr.alloc, zeroValue, typeInfo, hi, hz, newVar, newRow]
    unfold Oper.wp execOp
    simp only [ho, Sem.run_bind, hr, Sem.run_pure, Result.andThen_ok]
    exact h _ _ (Nat.le_refl _) (Blk.new w _ _) ((Chg.refl w []).alloc _)
theorem alloc_w {P : Program} {w : World} {ops : Array Oper} {rest : List Oper} {op : Oper} {a : Act} {Q : Exit → Act → World → Prop} (hgd : op.guard = none) (ty : TypeId) (ho : op.op = .alloc ty) (z : Value) (hz : (P.info? ty).bind (·.zero) = some z) (cs : Array Value) (hc : z.cells = cs)
    (h : ∀ g w', w.heap.size ≤ g → Blk w' g cs ty → Chg w w' [] → wpList P ops Q rest (a.put op.dst (.pointer (some ⟨g, 0, none⟩))) w') : wpList P ops Q (op :: rest) a w :=
  wpList_plain hgd fun _ hK => wp_alloc_w ty ho z hz cs hc fun g w' q1 q2 q3 => hK _ _ (h g w' q1 q2 q3)
theorem box_w {P : Program} {w : World} {ops : Array Oper} {rest : List Oper} {op : Oper} {a : Act} {Q : Exit → Act → World → Prop} (hgd : op.guard = none) (ty : TypeId) (x : Operand) (ho : op.op = .box ty x) (cs : Array Value) (hx : (a.eval x).cells = cs)
    (h : ∀ g w', w.heap.size ≤ g → Blk w' g cs ty → Chg w w' [] → wpList P ops Q rest (a.put op.dst (.pointer (some ⟨g, 0, none⟩))) w') : wpList P ops Q (op :: rest) a w := by
  subst hx
  refine wpList_plain hgd fun K hK => ?_
  unfold Oper.wp execOp
  simp only [ho, Sem.run_bind, Instr.box, newVar, newRow, run_newObj_alloc, Sem.run_pure, Result.andThen_ok]
  exact hK _ _ (h _ _ (Nat.le_refl _) (Blk.new w _ _) ((Chg.refl w []).alloc _))
theorem wp_store_w {P : Program} {w : World} {op : Oper} {a : Act} {K : Act → World → Prop} {Q : Exit → Act → World → Prop} {g : Nat} {cs : Array Value} {t : TypeId} (hg : Blk w g cs t) (ty : TypeId) (x y : Operand) (cells : Array Value)
    (ho : op.op = .store ty x y) (hx : a.eval x = .pointer (some ⟨g, 0, none⟩)) (hy : a.eval y = .agg cells) (hi : (P.info? ty).map (·.size) = some cells.size) (hs : cs.size = cells.size) (h1 : cells.all (·.oneCell') = true)
    (h : ∀ w', Blk w' g cells t → Chg w w' [g] → K (a.put op.dst undef) w') : op.wp P a w K Q :=
  wp_store_row ty x y ho g cells hx hy t cs hg hi hs h1 (h _ (Blk.setRow hg _) (Chg.of (gb_setRow (gb_refl _ _) _)))
theorem store_w {P : Program} {w : World} {ops : Array Oper} {rest : List Oper} {op : Oper} {a : Act} {Q : Exit → Act → World → Prop} {g : Nat} {cs : Array Value} {t : TypeId} (hg : Blk w g cs t) (hgd : op.guard = none) (ty : TypeId) (x y : Operand) (cells : Array Value)
    (ho : op.op = .store ty x y) (hx : a.eval x = .pointer (some ⟨g, 0, none⟩)) (hy : a.eval y = .agg cells) (hi : (P.info? ty).map (·.size) = some cells.size) (hs : cs.size = cells.size) (h1 : cells.all (·.oneCell') = true)
    (h : ∀ w', Blk w' g cells t → Chg w w' [g] → wpList P ops Q rest (a.put op.dst undef) w') : wpList P ops Q (op :: rest) a w :=
  wpList_plain hgd fun _ hK => wp_store_w hg ty x y cells ho hx hy hi hs h1 fun w' q1 q2 => hK _ _ (h w' q1 q2)
theorem exec_load_m {P : Program} {op : Oper} {a : Act} (w : World) (ty : TypeId) (x : Operand) (ho : op.op = .load ty x) (b o : Nat) (hx : a.eval x = .pointer (some ⟨b, o, none⟩)) (cs : List Value) (d : TypeDesc) (hc : w.rangeAt b o cs)
    (hu : P.underlying ty = some d) (hd : d.isRow = true) (hi : (P.info? ty).map (·.size) = some cs.length) : (execOp a.eval op).run P w = .ok (.value (.agg cs.toArray)) w := by
  unfold execOp
  simp only [ho, hx, Instr.loadAt, Instr.sureAddr, Sem.run_bind, Sem.run_pure, Result.andThen_ok, run_loadVar_mid w b o ty cs d hc hu hd hi]
theorem bslice_w {P : Program} {w : World} {ops : Array Oper} {rest : List Oper} {op : Oper} {a : Act} {Q : Exit → Act → World → Prop} (hgd : op.guard = none) (t e : TypeId) (x : Operand) (ho : op.op = .buildSlice t 1 #[(0, x)]) (v : Value) (hx : a.eval x = v) (cells : Array Value) (ie : TypeInfo) (z : Value)
    (hu : P.underlying t = some (.slice e)) (hie : P.info? e = some ie) (hz : ie.zero = some z) (s : Nat) (hs : ie.size = s) (h0 : 0 < s) (h1 : s ≤ 1000)
    (hf : Instr.fill (fun i => some (i * s, s)) ((Array.range (1 * s)).map (z.cells[· % z.cells.size]!)) [(0, v)] = some cells)
    (h : ∀ g w', w.heap.size ≤ g → Blk w' g cells e → Chg w w' [] → wpList P ops Q rest (a.put op.dst (.slice (some ⟨g, 0, none⟩) 1 1)) w') : wpList P ops Q (op :: rest) a w := by
  subst hs hx
  refine wpList_buildSlice hgd t e 1 _ ho cells ie z hu hie hz (by omega) (by omega) (by simpa using hf) (h _ _ (Nat.le_refl _) (Blk.new w _ _) ((Chg.refl w []).alloc _))
theorem bsl_w {P : Program} {w : World} {ops : Array Oper} {rest : List Oper} {op : Oper} {a : Act} {Q : Exit → Act → World → Prop} (hgd : op.guard = none) (t e : TypeId) (n : Nat) (parts : Array (Nat × Operand)) (ho : op.op = .buildSlice t n parts) (vs : List (Nat × Value)) (hv : (parts.map fun (i, x) => (i, a.eval x)).toList = vs) (cells : Array Value) (ie : TypeInfo) (z : Value)
    (hu : P.underlying t = some (.slice e)) (hie : P.info? e = some ie) (hz : ie.zero = some z) (s : Nat) (hs : ie.size = s) (h0 : ¬ n * s = 0) (h1 : ¬ n * s > 2 ^ 24)
    (hf : Instr.fill (fun i => some (i * s, s)) ((Array.range (n * s)).map (z.cells[· % z.cells.size]!)) vs = some cells)
    (h : ∀ g w', w.heap.size ≤ g → Blk w' g cells e → Chg w w' [] → wpList P ops Q rest (a.put op.dst (.slice (some ⟨g, 0, none⟩) n n)) w') : wpList P ops Q (op :: rest) a w := by
  subst hs hv
  exact wpList_buildSlice hgd t e n _ ho cells ie z hu hie hz h1 h0 hf (h _ _ (Nat.le_refl _) (Blk.new w _ _) ((Chg.refl w []).alloc _))
/-- Only blocks from base on are written. -/
def Cb (base : Nat) (w w' : World) : Prop := ∃ l, Chg w w' l ∧ ∀ k, k ∈ l → base ≤ k
theorem Cb.refl (base : Nat) (w : World) : Cb base w w := ⟨[], Chg.refl _ _, fun k hk => by simp at hk⟩
theorem Cb.of {base : Nat} {w w' : World} {l : List Nat} (h : Chg w w' l) (hl : ∀ k, k ∈ l → base ≤ k) : Cb base w w' := ⟨l, h, hl⟩
theorem Cb.none {base : Nat} {w w' : World} (h : Chg w w' []) : Cb base w w' := ⟨[], h, fun k hk => by simp at hk⟩
theorem Cb.trans {base : Nat} {a b c : World} (h : Cb base a b) (k : Cb base b c) : Cb base a c := by
  obtain ⟨l, h1, h2⟩ := h
  obtain ⟨m, k1, k2⟩ := k
  exact ⟨l ++ m, (h1.incl (fun i hi => by simp [hi])).trans1 (k1.incl (fun i hi => by simp [hi])), fun i hi => by
    rcases List.mem_append.1 hi with hi | hi
    · exact h2 i hi
    · exact k2 i hi⟩
theorem Cb.size {base : Nat} {w w' : World} (h : Cb base w w') : w.heap.size ≤ w'.heap.size := by obtain ⟨l, h1, _⟩ := h; exact h1.size
theorem Cb.low {base : Nat} {w0 w w' : World} (c : Chg w0 w []) (h : Cb base w w') (hb : w0.heap.size ≤ base) : Chg w0 w' [] := by
  obtain ⟨l, h1, h2⟩ := h
  exact c.trans h1 (fun i hi => Or.inr (Nat.le_trans hb (h2 i hi)))
theorem Cb.down {base base' : Nat} {w w' : World} (h : Cb base w w') (hb : base' ≤ base) : Cb base' w w' := by
  obtain ⟨l, h1, h2⟩ := h
  exact ⟨l, h1, fun k hk => Nat.le_trans hb (h2 k hk)⟩
theorem Blk.cb {w w' : World} {b base : Nat} {c : Array Value} {T : TypeId} (h : Blk w b c T) (hc : Cb base w w') (hb : b < base) : Blk w' b c T := by
  obtain ⟨l, h1, h2⟩ := hc
  exact h.chg h1 (fun hx => by have := h2 b hx; omega)
theorem Own.cg {w : World} {base : Nat} {v : Value} {n : Nat} {f g : Nat → Nat} (h : Own w base v n f) (e : ∀ i, i < n → f i = g i) : Own w base v n g := by
  refine ⟨?_, fun i hi => by rw [← e i hi]; exact h.2 i hi⟩
  have e2 : yL n g = yL n f := by
    unfold yL
    exact List.map_congr_left fun i hi => by rw [e i (by simpa using hi)]
  rw [e2]; exact h.1
/-- append of bytes to bytes of the call's own. -/
theorem append_c {w : World} {ops : Array Oper} {rest : List Oper} {o : Oper} {a : Act} {Q : Exit → Act → World → Prop} (hgd : o.guard = none) (s x : Operand)
    (ho : o.op = .call { callee := .builtin .append, args := #[s, x], argTypes := #[26, 26] })
    (base : Nat) (vs vx : Value) (n m : Nat) (f g : Nat → Nat) (hs : a.eval s = vs) (hx : a.eval x = vx) (hown : Own w base vs n f) (hsl : Sl w vx m g) (hnm : n + m ≤ 211106232532992) (hbase : base ≤ w.heap.size)
    (h : ∀ v' w', Own w' base v' (n + m) (cat f n g) → Cb base w w' → wpList Try.prog ops Q rest (a.put o.dst v') w') : wpList Try.prog ops Q (o :: rest) a w :=
  append_y hgd s x ho base vs vx n m f g hs hx hown hsl hnm hbase fun v' w' O c => h v' w' O (Cb.of c (fun k hk => (hown.ob_ge k hk).1))
theorem Own.nt {w : World} {base : Nat} {v : Value} {n : Nat} {f : Nat → Nat} {g : Nat} {C : Array Value} {T : TypeId} (h : Own w base v n f) (B : Blk w g C T) (hT : ¬ T = 5) : ¬ g ∈ ob v := fun hm => by
  obtain ⟨C', hC'⟩ := ownsRow_blk h.1 hm
  exact B.ne hC' hT rfl
theorem Own.cb {w w' : World} {base : Nat} {v : Value} {n : Nat} {f : Nat → Nat} (h : Own w base v n f) (c : Chg w w' (ob v)) : Cb base w w' := Cb.of c (fun k hk => (h.ob_ge k hk).1)
/-- Blocks of other kinds than bytes stay. -/
def Kp (w w' : World) : Prop := ∀ g C T, ¬ T = 5 → Blk w g C T → Blk w' g C T
theorem Kp.of {w w' : World} (h : Chg w w' []) : Kp w w' := fun _ _ _ _ B => B.chg h (by simp)
theorem Kp.trans {a b c : World} (h : Kp a b) (k : Kp b c) : Kp a c := fun g C T hT B => k g C T hT (h g C T hT B)
theorem Own.kp {w w' : World} {base : Nat} {v : Value} {n : Nat} {f : Nat → Nat} (h : Own w base v n f) (c : Chg w w' (ob v)) : Kp w w' := fun _ _ _ hT B => B.chg c (h.nt B hT)
theorem Blk.sly {w : World} {g : Nat} {n : Nat} {f : Nat → Nat} (h : Blk w g (yC n f) 5) (hf : ∀ i, i < n → f i < 256) (hn : n ≤ 9223372036854775807) : Sl w (.slice (some ⟨g, 0, none⟩) n n) n f :=
  Or.inr ⟨g, 0, n, rfl, Nat.le_refl _, hn, h.lt, hf, fun i hi => by rw [Nat.zero_add, h.cell]; unfold yC; simp [hi]⟩
end Go.Proofs.Ytnopkojpgemldaa

/- rimeplain: markBytes, CopyBytes, SameBytes; (*Given).Bytes. -/
namespace Go.Proofs.Ytnopkojpgemldaa
open Go.RowKit

/-- The mark at place k. -/
def mkb (k : Nat) : Nat := (30602 + 7 * k) % 256
theorem mkb_lt (k : Nat) : mkb k < 256 := Nat.mod_lt _ (by decide)
theorem markBytes_s (k : Nat) (hk : k ≤ 140737488355331) (w : World) : Calls Try.prog 72 #[.int .i64 987, .int .i64 (k : Int)] w fun x w' => x = .returned (.int .u8 ((mkb k : Nat) : Int)) ∧ w' = w := by
  have e1 : IntKind.i64.wrap ((k : Int) * 7) = (k : Int) * 7 := by rw [IntKind.wrap_i64]; omega
  have e2 : IntKind.i64.wrap (30597 + (k : Int) * 7) = 30597 + (k : Int) * 7 := by rw [IntKind.wrap_i64]; omega
  have e3 : IntKind.i64.wrap (30597 + (k : Int) * 7 + 5) = 30597 + (k : Int) * 7 + 5 := by rw [IntKind.wrap_i64]; omega
  have e4 : IntKind.u8.wrap (30597 + (k : Int) * 7 + 5) = ((mkb k : Nat) : Int) := by rw [IntKind.wrap_u8']; unfold mkb; omega
  go_enter Try.func72, Try.ntmps72
  go_wp2
  go_ret
  exact ⟨by rw [← e4]; congr 2, rfl⟩
set_option maxHeartbeats 4000000 in
theorem CopyBytes_s (v : Value) (n : Nat) (f : Nat → Nat) (w : World) (hn : n ≤ 211106232532992) (hv : Sl w v n f) :
    Calls Try.prog 14 #[v] w fun e w' => ∃ v', e = .returned v' ∧ Own w' w.heap.size v' n f ∧ Chg w w' [] := by
  go_enter Try.func14, Try.ntmps14
  go_wp2_with (refine append_y rfl (.tmp 4) (.tmp 5) rfl w.heap.size (.slice none 0 0) v 0 n f f rfl rfl (Own.nil _ _ f) hv (by omega) (Nat.le_refl _) ?_; intro a1 w1 O1 q1; rw [Nat.zero_add, cat_zero] at O1; replace q1 : Chg w w1 [] := q1)
  go_ret
  exact ⟨a1, rfl, O1, q1⟩
set_option maxHeartbeats 4000000 in
set_option maxRecDepth 100000 in
theorem SameBytes_g (g o c g' o' c' n : Nat) (f f' : Nat → Nat) (w : World) (hn : n ≤ 9223372036854775807) (hb : Bs w g o n f) (hb' : Bs w g' o' n f') (hf : ∀ i, i < n → f i = f' i) :
    Calls Try.prog 12 #[.slice (some ⟨g, o, none⟩) n c, .slice (some ⟨g', o', none⟩) n c'] w fun e w' => e = .returned (.bool true) ∧ ∃ m, w' = w.drewN m := by
  go_enter Try.func12, Try.ntmps12
  go_wp2_with fail
  go_loopw [5] (fun t wr => ∃ i : Nat, i ≤ n ∧ t = .int .i64 (i : Int) ∧ ∃ m, wr = w.drewN m) (fun t _ => ((n : Int) - intOf t).toNat)
  case atStart => exact ⟨0, by omega, rfl, 0, rfl⟩
  case round =>
    obtain ⟨i, hi, rfl, q, rfl⟩ := hrel
    by_cases h8 : i < n
    · have hI : (i : Int) < (n : Int) := by omega
      have c1 := hb.cell i h8
      have c2 := hb'.cell i h8
      rw [← hf i h8] at c2
      have e1 : IntKind.i64.wrap ((i : Int) + 1) = (i : Int) + 1 := by rw [IntKind.wrap_i64]; omega
      generalize f i = x at *
      go_wp2_with fail
      go_quiet (fail)
      go_wp2_with fail
      exact ⟨⟨i + 1, by omega, by go_num, _, rfl⟩, by simp [intOf]; omega⟩
    · have hI : ¬ (i : Int) < (n : Int) := by omega
      go_wp2_with fail
      go_ret
      exact ⟨rfl, q, rfl⟩
end Go.Proofs.Ytnopkojpgemldaa
