/- A map from identifiers to scalars, of the call's own. -/
import Derived.Test.YtemjpibmefggnaaGreatMgC
import Derived.Test.YtemjpibmefggnaaGreatMgD
import Derived.MapKept
set_option linter.unusedVariables false
set_option linter.unusedSimpArgs false
set_option linter.unnecessarySimpa false
namespace Go.Proofs.YtemjpibmefggnaaGreat
open Go.RowKit Go.MapKept N

def mE (d v : Nat → Int) (j : Nat) : MapEntry := { key := .int .i64 (d j), val := fe (v j), born := j }
def mL (d v : Nat → Int) (k : Nat) : List MapEntry := (List.range k).map (mE d v)
/-- A map with the entries d j to v j, j below k. -/
def Mp (w : World) (b k : Nat) (d v : Nat → Int) : Prop := w.heap[b]? = some (.map (mL d v k).toArray k)
theorem Mp.lt {w : World} {b k : Nat} {d v : Nat → Int} (h : Mp w b k d v) : b < w.heap.size := (Array.getElem?_eq_some_iff.1 h).1
theorem Mp.chg {w w' : World} {b k : Nat} {d v : Nat → Int} {l : List Nat} (h : Mp w b k d v) (hc : Chg w w' l) (hb : ¬ b ∈ l) : Mp w' b k d v := by
  unfold Mp
  rw [hc.block b h.lt hb]
  exact h
theorem mL_s (d v : Nat → Int) (k : Nat) : mL d v (k + 1) = mL d v k ++ [mE d v k] := by simp [mL, List.range_succ]
theorem find_no (x : Int) : ∀ (l : List MapEntry) (i : Nat), (∀ e ∈ l, ∃ y, e.key = .int .i64 y ∧ ¬ x = y) → Instr.findNow (.int .i64) (.int .i64 x) l i = some none
  | [], _, _ => rfl
  | e :: es, i, h => by
    obtain ⟨y, hy, hn⟩ := h e (by simp)
    unfold Instr.findNow
    rw [hy]
    have : (x == y) = false := by simpa using hn
    simp only [Instr.sameNow, if_true, this]
    exact find_no x es (i + 1) (fun e he => h e (by simp [he]))
theorem find_at (x : Int) (u : Value) : ∀ (l : List MapEntry) (i j : Nat), (∀ m e, m < j → l[m]? = some e → ∃ y, e.key = .int .i64 y ∧ ¬ x = y) → (∃ e, l[j]? = some e ∧ e.key = .int .i64 x ∧ e.val = u) → Instr.findNow (.int .i64) (.int .i64 x) l i = some (some (i + j, u))
  | [], i, j, _, ⟨e, h, _⟩ => by simp at h
  | e :: es, i, 0, _, ⟨e', h, h1, h2⟩ => by
    simp at h
    subst h
    unfold Instr.findNow
    rw [h1]
    have : (x == x) = true := by simp
    simp only [Instr.sameNow, if_true, this]
    rw [h2, Nat.add_zero]
  | e :: es, i, j + 1, hm, ⟨e', h, h1, h2⟩ => by
    obtain ⟨y, hy, hn⟩ := hm 0 e (by omega) rfl
    unfold Instr.findNow
    rw [hy]
    have : (x == y) = false := by simpa using hn
    simp only [Instr.sameNow, if_true, this]
    rw [find_at x u es (i + 1) j (fun m e2 hmj he => hm (m + 1) e2 (by omega) (by simpa using he)) ⟨e', by simpa using h, h1, h2⟩, show i + 1 + j = i + (j + 1) by omega]
theorem mL_get (d v : Nat → Int) (k m : Nat) (e : MapEntry) (h : (mL d v k)[m]? = some e) : m < k ∧ e = mE d v m := by
  unfold mL at h
  rw [List.getElem?_map] at h
  by_cases hm : m < k
  · rw [List.getElem?_range hm] at h
    simp at h
    exact ⟨hm, h.symm⟩
  · rw [List.getElem?_eq_none (by simp; omega)] at h
    simp at h
/-- What stands at an identifier. -/
theorem mp_look {w : World} {b k : Nat} {d v : Nat → Int} (h : Mp w b k d v) (hd : ∀ i j, i < k → j < k → d i = d j → i = j) {j : Nat} (hj : j < k) :
    (Instr.lookup 134 (.map (some b)) (.int .i64 (d j)) false).run Tryz.prog w = .ok (fe (v j)) w := by
  have hf : Instr.findNow (.int .i64) (.int .i64 (d j)) (mL d v k) 0 = some (some (0 + j, fe (v j))) := by
    refine find_at (d j) (fe (v j)) (mL d v k) 0 j (fun m e hm he => ?_) ⟨mE d v j, ?_, rfl, rfl⟩
    · obtain ⟨h1, rfl⟩ := mL_get d v k m e he
      exact ⟨d m, rfl, fun e2 => by have := hd j m hj h1 e2; omega⟩
    · unfold mL
      rw [List.getElem?_map, List.getElem?_range hj]
      rfl
  simp [Instr.lookup, run_underlying Tryz.underlying134, MapKept.run_getObj_map (show w.heap[b]? = some (.map _ _) from h), MapKept.run_checkKey (k := .int .i64 (d j)) Tryz.underlying3 (by simp [IsKey]) _ 9999, MapKept.run_findKey Tryz.underlying3 hf, Result.andThen]
/-- An entry more. -/
theorem mp_put {w : World} {b k : Nat} {d v : Nat → Int} (h : Mp w b k d v) (hd : ∀ j, j < k → ¬ d j = d k) :
    ∃ w', (Instr.mapUpdate 134 (.map (some b)) (.int .i64 (d k)) (fe (v k))).run Tryz.prog w = .ok () w' ∧ Mp w' b (k + 1) d v ∧ Chg w w' [b] := by
  have hf : Instr.findNow (.int .i64) (.int .i64 (d k)) (mL d v k) 0 = some none := by
    refine find_no (d k) (mL d v k) 0 (fun e he => ?_)
    unfold mL at he
    obtain ⟨m, hm, rfl⟩ := List.mem_map.1 he
    exact ⟨d m, rfl, fun e => hd m (List.mem_range.1 hm) e.symm⟩
  refine ⟨{ w with heap := w.heap.setIfInBounds b (.map ((mL d v k).toArray.push (mE d v k)) (k + 1)) }, ?_, ?_, ?_⟩
  · simp [Instr.mapUpdate, run_underlying Tryz.underlying134, MapKept.run_getObj_map (show w.heap[b]? = some (.map _ _) from h), MapKept.run_checkKey (k := .int .i64 (d k)) Tryz.underlying3 (by simp [IsKey]) false 9999, MapKept.run_findKey Tryz.underlying3 hf, MapKept.run_setObj_map _ (show w.heap[b]? = some (.map _ _) from h), Result.andThen, mE]
  · unfold Mp
    have e := (heap_set (o' := .map ((mL d v k).toArray.push (mE d v k)) (k + 1)) h).1
    rw [e, mL_s]
    simp
  · exact ⟨rfl, rfl, rfl, by simp, fun i _ hi => (heap_set (o' := .map ((mL d v k).toArray.push (mE d v k)) (k + 1)) h).2 i (by simpa using hi)⟩
theorem wp_look_m {w : World} {o : Oper} {a : Act} {K : Act → World → Prop} {Q : Exit → Act → World → Prop} (m x : Operand) (ho : o.op = .lookup 134 m x false) (b k j : Nat) (d v : Nat → Int) (hm : a.eval m = .map (some b)) (hx : a.eval x = .int .i64 (d j)) (hM : Mp w b k d v) (hd : ∀ i j, i < k → j < k → d i = d j → i = j) (hj : j < k)
    (h : K (a.put o.dst (fe (v j))) w) : o.wp Tryz.prog a w K Q := by
  unfold Oper.wp
  simp [execOp, ho, hm, hx, mp_look hM hd hj, Result.andThen]
  exact h
theorem look_m {w : World} {ops : Array Oper} {rest : List Oper} {o : Oper} {a : Act} {Q : Exit → Act → World → Prop} (hg : o.guard = none) (m x : Operand) (ho : o.op = .lookup 134 m x false) (b k j : Nat) (d v : Nat → Int) (hm : a.eval m = .map (some b)) (hx : a.eval x = .int .i64 (d j)) (hM : Mp w b k d v) (hd : ∀ i j, i < k → j < k → d i = d j → i = j) (hj : j < k)
    (h : wpList Tryz.prog ops Q rest (a.put o.dst (fe (v j))) w) : wpList Tryz.prog ops Q (o :: rest) a w :=
  wpList_plain hg fun _ hK => wp_look_m m x ho b k j d v hm hx hM hd hj (hK _ _ h)
theorem wp_put_m {w : World} {o : Oper} {a : Act} {K : Act → World → Prop} {Q : Exit → Act → World → Prop} (m x y : Operand) (ho : o.op = .mapUpdate 134 m x y) (b k : Nat) (d v : Nat → Int) (hm : a.eval m = .map (some b)) (hx : a.eval x = .int .i64 (d k)) (hy : a.eval y = fe (v k)) (hM : Mp w b k d v) (hd : ∀ j, j < k → ¬ d j = d k)
    (h : ∀ w', Mp w' b (k + 1) d v → Chg w w' [b] → K (a.put o.dst undef) w') : o.wp Tryz.prog a w K Q := by
  obtain ⟨w', hr, h1, h2⟩ := mp_put hM hd
  unfold Oper.wp
  simp [execOp, ho, hm, hx, hy, hr, Result.andThen]
  exact h w' h1 h2
theorem put_m {w : World} {ops : Array Oper} {rest : List Oper} {o : Oper} {a : Act} {Q : Exit → Act → World → Prop} (hg : o.guard = none) (m x y : Operand) (ho : o.op = .mapUpdate 134 m x y) (b k : Nat) (d v : Nat → Int) (hm : a.eval m = .map (some b)) (hx : a.eval x = .int .i64 (d k)) (hy : a.eval y = fe (v k)) (hM : Mp w b k d v) (hd : ∀ j, j < k → ¬ d j = d k)
    (h : ∀ w', Mp w' b (k + 1) d v → Chg w w' [b] → wpList Tryz.prog ops Q rest (a.put o.dst undef) w') : wpList Tryz.prog ops Q (o :: rest) a w :=
  wpList_plain hg fun _ hK => wp_put_m m x y ho b k d v hm hx hy hM hd (fun w' q1 q2 => hK _ _ (h w' q1 q2))
/-- make of a map, with a hint. -/
theorem make_m {w : World} {ops : Array Oper} {rest : List Oper} {o : Oper} {a : Act} {Q : Exit → Act → World → Prop} (hg : o.guard = none) (x : Operand) (ho : o.op = .makeMap 134 (some x)) (n : Int) (d v : Nat → Int) (hx : a.eval x = .int .i64 n)
    (h : ∀ b w', w.heap.size ≤ b → Mp w' b 0 d v → Chg w w' [] → wpList Tryz.prog ops Q rest (a.put o.dst (.map (some b))) w') : wpList Tryz.prog ops Q (o :: rest) a w :=
  wpList_plain hg fun K hK => by
    have hr : (Instr.makeMap 134 (some (.int .i64 n))).run Tryz.prog w = .ok (.map (some w.heap.size)) (w.alloc (.map #[] 0)) := by
      simp [Instr.makeMap, run_underlying Tryz.underlying134, asInt, asIntOf, Result.andThen, run_newObj_alloc]
    unfold Oper.wp
    simp [execOp, ho, hx, hr, Result.andThen]
    exact hK _ _ (h w.heap.size _ (Nat.le_refl _) (by unfold Mp; exact (heap_alloc w _).1) ((Chg.refl w []).alloc _))
end Go.Proofs.YtemjpibmefggnaaGreat
