/- Joined: LsD, ShL, ShW, ShS. -/
import Derived.Test.YtoafcaieifjoiaaGreatLoadAt
import Derived.Test.YtoafcaieifjoiaaGreatFun2
import Derived.Test.YtoafcaieifjoiaaGreatMgB
import Derived.Deep.MidRow
import Derived.Great.BuildSlice
/- Lists of scalars. -/
set_option linter.unusedVariables false
set_option linter.unusedSimpArgs false
set_option linter.unnecessarySimpa false
namespace Go.Proofs.YtoafcaieifjoiaaGreat
open Go.RowKit N

/-- A list of N scalars f. -/
def Ls (w : World) (v : Value) (N : Nat) (f : Nat → Nat) : Prop := (∀ i, i < N → f i < 115792089237316195423570985008687907853269984665640564039457584007913129639936) ∧
  ((N = 0 ∧ v = .slice none 0 0) ∨ ∃ g o cap, v = .slice (some ⟨g, o, none⟩) N cap ∧ N ≤ cap ∧ cap ≤ 9223372036854775807 ∧ g < w.heap.size ∧ ∀ i, i < N → Fc w g (o + i * 32) (f i : Nat))
theorem Ls.chg {w w' : World} {v : Value} {N : Nat} {f : Nat → Nat} {l : List Nat} (h : Ls w v N f) (hc : Chg w w' l) (ho : Off v l) : Ls w' v N f := by
  refine ⟨h.1, ?_⟩
  rcases h.2 with h2 | ⟨g, o, cap, rfl, h1, h2, h3, h4⟩
  · exact Or.inl h2
  · exact Or.inr ⟨g, o, cap, rfl, h1, h2, Nat.lt_of_lt_of_le h3 hc.size, fun i hi => (h4 i hi).chg hc (ho g o N cap rfl)⟩
theorem Ls.form {w : World} {v : Value} {N : Nat} {f : Nat → Nat} (h : Ls w v N f) : ∃ p c, v = .slice p N c ∧ ∀ i, i < N → ∃ g o, p = some ⟨g, o, none⟩ ∧ g < w.heap.size ∧ Fc w g (o + i * 32) (f i : Nat) := by
  rcases h.2 with ⟨rfl, rfl⟩ | ⟨g, o, cap, rfl, h1, h2, h3, h4⟩
  · exact ⟨none, 0, rfl, fun i hi => by omega⟩
  · exact ⟨_, cap, rfl, fun i hi => ⟨g, o, rfl, h3, h4 i hi⟩⟩
theorem mN (N i : Nat) (h : i < N) : (N - intOf (.int .i64 ((i : Int) + 1))).toNat < (N - intOf (.int .i64 (i : Int))).toNat := by simp [intOf]; omega
/-- The product of the first k. -/
def pL (f : Nat → Nat) : Nat → Int
  | 0 => 1
  | k + 1 => pL f k * ((f k : Nat) : Int)
theorem pL_0 (f : Nat → Nat) : pL f 0 = 1 := rfl
theorem pL_s (f : Nat → Nat) (k : Nat) : pL f k % L * (((f k : Nat) : Int) % L) % L = pL f (k + 1) % L := by
  show _ = (pL f k * ((f k : Nat) : Int)) % L
  rw [← Int.mul_emod]
end Go.Proofs.YtoafcaieifjoiaaGreat

/- Lists of scalars of the call's own, lists of shares, lists of points. -/
namespace Go.Proofs.YtoafcaieifjoiaaGreat
open Go.RowKit N

theorem fe_ok (n : Int) : (feL n).length = 32 ∧ ∀ v ∈ feL n, v.oneCell' = true := ⟨rfl, by simp [feL, Value.oneCell']⟩
/-! ### Scalars in a block -/
def sF (g : Nat → Int) : Nat → List Value := fun j => feL (g j)
theorem sF_ok (N : Nat) (g : Nat → Int) : Rok 32 N (sF g) := fun i _ => fe_ok _
/-- A block of N scalars g. -/
def Sb (w : World) (o N : Nat) (g : Nat → Int) : Prop := Blk w o (rL 32 N (sF g)).toArray 24
theorem Sb.chg {w w' : World} {o N : Nat} {g : Nat → Int} {l : List Nat} (h : Sb w o N g) (hc : Chg w w' l) (ho : ¬ o ∈ l) : Sb w' o N g := Blk.chg h hc ho
theorem Sb.congr {w : World} {o N : Nat} {g g' : Nat → Int} (h : Sb w o N g) (hg : ∀ j, j < N → g j = g' j) : Sb w o N g' := Blk.to h (congrArg List.toArray (rL_congr fun j hj => by unfold sF; rw [hg j hj]))
theorem Sb.lt {w : World} {o N : Nat} {g : Nat → Int} (h : Sb w o N g) : o < w.heap.size := Blk.lt h
theorem Sb.alloc {w : World} {o N : Nat} {g : Nat → Int} (h : Sb w o N g) (x : Obj) : Sb (w.alloc x) o N g := Blk.alloc h x
theorem Sb.range {w : World} {o N : Nat} {g : Nat → Int} (h : Sb w o N g) {i : Nat} (hi : i < N) : w.rangeAt o (i * 32) (feL (g i)) := Blk.rangeRw h (sF_ok N g) hi
def upS (g : Nat → Int) (i : Nat) (v : Int) : Nat → Int := fun j => if j = i then v else g j
theorem upS_step (g : Nat → Int) (i j : Nat) : upS (fun j => if j < i then g j else 0) i (g i) j = if j < i + 1 then g j else 0 := by
  unfold upS
  by_cases h : j = i
  · subst h; rw [if_pos rfl, if_pos (by omega)]
  · rw [if_neg h]
    show (if j < i then g j else 0) = _
    by_cases h2 : j < i
    · rw [if_pos h2, if_pos (by omega)]
    · rw [if_neg h2, if_neg (by omega)]
theorem sF_up (g : Nat → Int) (i : Nat) (v : Int) : upR (sF g) i (feL v) = sF (upS g i v) := by
  funext j; unfold upR sF upS
  by_cases h : j = i
  · rw [if_pos h, if_pos h]
  · rw [if_neg h, if_neg h]
def nT (g : Nat → Int) : Nat → Nat := fun j => (g j).toNat
theorem nT_c (g : Nat → Int) (j : Nat) (h : 0 ≤ g j) : ((nT g j : Nat) : Int) = g j := Int.toNat_of_nonneg h
theorem fc_of {w : World} {g o : Nat} {n : Int} (h : w.rangeAt g o (feL n)) (hg : g < w.heap.size) : Fc w g o n := ⟨hg, fun i hi => by
  refine h i _ ?_
  have e := feC_get n i hi
  rw [← e]
  exact List.getElem?_toArray.symm⟩
theorem fc_range {w : World} {g o : Nat} {n : Int} (h : Fc w g o n) : w.rangeAt g o (feL n) := fun j v hv => by
  have hj : j < 32 := by
    have := (List.getElem?_eq_some_iff.1 hv).1
    rw [feL_len] at this
    exact this
  rw [h.cell j hj]
  have e := feC_get n j hj
  have e2 : (feC n)[j]? = some v := by
    have h' : (feL n).toArray[j]? = some v := by simpa using hv
    exact h'
  rw [e] at e2
  exact e2
/-- The first n of them as a list. -/
theorem Sb.ls {w : World} {o N : Nat} {g : Nat → Int} (h : Sb w o N g) (hN : N ≤ 9223372036854775807) (hg : ∀ j, j < N → R256 (g j)) {n : Nat} (hn : n ≤ N) : Ls w (.slice (some ⟨o, 0, none⟩) n N) n (nT g) := by
  refine ⟨fun i hi => by have := hg i (by omega); unfold R256 at this; unfold nT; omega, Or.inr ⟨o, 0, N, rfl, hn, hN, h.lt, fun i hi => ?_⟩⟩
  rw [nT_c g i (hg i (by omega)).1, Nat.zero_add]
  exact fc_of (h.range (by omega)) h.lt
theorem Ls.range {w : World} {v : Value} {N : Nat} {f : Nat → Nat} (h : Ls w v N f) : ∃ p c, v = .slice p N c ∧ ∀ i, i < N → ∃ g o, p = some ⟨g, o, none⟩ ∧ g < w.heap.size ∧ w.rangeAt g (o + i * 32) (feL (f i : Nat)) := by
  obtain ⟨p, c, e, hp⟩ := h.form
  refine ⟨p, c, e, fun i hi => ?_⟩
  obtain ⟨g, o, h1, h2, h3⟩ := hp i hi
  exact ⟨g, o, h1, h2, fc_range h3⟩
theorem Ls.chg0 {w w' : World} {v : Value} {N : Nat} {f : Nat → Nat} (h : Ls w v N f) (hc : Chg w w' []) : Ls w' v N f := h.chg hc (fun _ _ _ _ _ hg => by simp at hg)
theorem Ls.congr {w : World} {v : Value} {N : Nat} {f f' : Nat → Nat} (h : Ls w v N f) (hf : ∀ i, i < N → f i = f' i) : Ls w v N f' := by
  refine ⟨fun i hi => by rw [← hf i hi]; exact h.1 i hi, ?_⟩
  rcases h.2 with h2 | ⟨g, o, cap, e, h1, h2, h3, h4⟩
  · exact Or.inl h2
  · exact Or.inr ⟨g, o, cap, e, h1, h2, h3, fun i hi => by rw [← hf i hi]; exact h4 i hi⟩
theorem Ls.r256 {w : World} {v : Value} {N : Nat} {f : Nat → Nat} (h : Ls w v N f) {i : Nat} (hi : i < N) : R256 ((f i : Nat) : Int) := by have := h.1 i hi; exact ⟨by omega, by omega⟩

/-! ### Loads from within, stores within a block -/
theorem load_sc {w : World} {ops : Array Oper} {rest : List Oper} {op : Oper} {a : Act} {Q : Exit → Act → World → Prop} (hgd : op.guard = none) (x : Operand) (ho : op.op = .load 24 x) (b o : Nat) (X : Int) (hx : a.eval x = .pointer (some ⟨b, o, none⟩)) (hc : w.rangeAt b o (feL X))
    (h : wpList Tryz.prog ops Q rest (a.put op.dst (fe X)) w) : wpList Tryz.prog ops Q (op :: rest) a w := wpList_load_mid hgd 24 x ho b o hx (feL X) _ hc Tryz.underlying24 rfl feInfo h
theorem store_sb {w : World} {ops : Array Oper} {rest : List Oper} {op : Oper} {a : Act} {Q : Exit → Act → World → Prop} (hgd : op.guard = none) (x y : Operand) (ho : op.op = .store 24 x y) (b N i : Nat) (g : Nat → Int) (X : Int) (hx : a.eval x = .pointer (some ⟨b, i * 32, none⟩)) (hy : a.eval y = fe X) (hb : Sb w b N g) (hi : i < N)
    (h : ∀ w', Sb w' b N (upS g i X) → Chg w w' [b] → wpList Tryz.prog ops Q rest (a.put op.dst undef) w') : wpList Tryz.prog ops Q (op :: rest) a w :=
  wpList_store_rw hgd 24 x y ho b 32 N i (sF g) (feL X) 24 hx hy hb (sF_ok N g) hi rfl (fe_ok X).2 feInfo fun w' q1 q2 => h w' (by rw [sF_up] at q1; exact q1) q2
theorem wp_store_sb {w : World} {op : Oper} {a : Act} {K : Act → World → Prop} {Q : Exit → Act → World → Prop} (x y : Operand) (ho : op.op = .store 24 x y) (b N i : Nat) (g : Nat → Int) (X : Int) (hx : a.eval x = .pointer (some ⟨b, i * 32, none⟩)) (hy : a.eval y = fe X) (hb : Sb w b N g) (hi : i < N)
    (h : ∀ w', Sb w' b N (upS g i X) → Chg w w' [b] → K (a.put op.dst undef) w') : op.wp Tryz.prog a w K Q :=
  wp_store_rw 24 x y ho b 32 N i (sF g) (feL X) 24 hx hy hb (sF_ok N g) hi rfl (fe_ok X).2 feInfo fun w' q1 q2 => h w' (by rw [sF_up] at q1; exact q1) q2
theorem scRowL : ∃ i, Tryz.prog.info? 24 = some i ∧ i.zero = some (.agg z32) ∧ i.size = 32 ∧ i.bytes = 32 := by
  have h : (Tryz.prog.info? 24).map (fun i => (i.zero, i.size, i.bytes)) = some (some (.agg z32), 32, 32) := by kernel_rfl
  cases hi : Tryz.prog.info? 24 with
  | none => rw [hi] at h; simp at h
  | some i => rw [hi] at h; simp at h; exact ⟨i, rfl, h.1, h.2.1, h.2.2⟩
/-- make of n scalars: all are 0. -/
theorem make_sb (r : Nat) (hr : r ≤ 4398046511104) (W : World) : ∃ W', (Instr.makeSlice 22 (.int .i64 (r : Int)) (.int .i64 (r : Int))).run Tryz.prog W = .ok (.slice (some ⟨W.heap.size, 0, none⟩) r r) W' ∧ Sb W' W.heap.size r (fun _ => 0) ∧ Chg W W' [] := by
  obtain ⟨i, hi, hz, h1, h2⟩ := scRowL
  have h := run_make (P := Tryz.prog) W 22 24 i (.agg z32) Tryz.underlying22 hi hz .i64 .i64 (r : Int) (r : Int) (by omega) (by omega) (by rw [h2]; omega) (by omega)
  rw [h, h1, Int.toNat_natCast]
  refine ⟨_, rfl, ?_, (Chg.refl W []).alloc _⟩
  show Blk (W.alloc (.cells (madeCells z32 (r * 32)) 24)) W.heap.size _ _
  rw [made_r z32 32 r rfl]
  refine (Blk.new W _ _).to (congrArg List.toArray (rL_congr fun j _ => ?_))
  unfold sF
  rw [z32_fe]

/-! ### Shares -/
def hF (d : Nat → Int) (y : Nat → Int) : Nat → List Value := fun j => .int .i64 (d j) :: feL (y j)
theorem hF_ok (N : Nat) (d y : Nat → Int) : Rok 33 N (hF d y) := fun i _ => ⟨rfl, fun v hv => by
  unfold hF at hv
  rcases List.mem_cons.1 hv with rfl | hv
  · rfl
  · exact (fe_ok _).2 v hv⟩
/-- A list of N shares. -/
def Hl (w : World) (v : Value) (N : Nat) (d y : Nat → Int) : Prop := Rl w 33 v N (hF d y) ∧ ∀ j, j < N → R256 (y j)
theorem Hl.chg {w w' : World} {v : Value} {N : Nat} {d y : Nat → Int} (h : Hl w v N d y) (hc : Chg w w' []) : Hl w' v N d y := ⟨h.1.chg hc (fun _ _ _ _ _ hg => by simp at hg), h.2⟩
def zSh : Array Value := #[.int .i64 0, .int .u8 0, .int .u8 0, .int .u8 0, .int .u8 0, .int .u8 0, .int .u8 0, .int .u8 0, .int .u8 0, .int .u8 0, .int .u8 0, .int .u8 0, .int .u8 0, .int .u8 0, .int .u8 0, .int .u8 0, .int .u8 0, .int .u8 0, .int .u8 0, .int .u8 0, .int .u8 0, .int .u8 0, .int .u8 0, .int .u8 0, .int .u8 0, .int .u8 0, .int .u8 0, .int .u8 0, .int .u8 0, .int .u8 0, .int .u8 0, .int .u8 0, .int .u8 0]
theorem shInfo : (Tryz.prog.info? 96).map (·.size) = some 33 := by kernel_rfl
/-- A share in a block. -/
def shC (d y : Int) : Array Value := (.int .i64 d :: feL y).toArray
theorem shC_one (d y : Int) : (shC d y).all (·.oneCell') = true := all_oneCell_toArray (hF_ok 1 (fun _ => d) (fun _ => y) 0 (by omega)).2
theorem sh_id {w : World} {b : Nat} {d y : Int} (h : Blk w b (shC d y) 96) : w.cell? ⟨b, 0, none⟩ = some (.int .i64 d) := by rw [h.cell]; rfl
theorem sh_val {w : World} {b : Nat} {d y : Int} (h : Blk w b (shC d y) 96) : w.rangeAt b 1 (feL y) := fun j v hv => by
  rw [h.cell]
  unfold shC
  rw [List.getElem?_toArray, Nat.add_comm, List.getElem?_cons_succ]
  exact hv
/-! ### Points -/
def pF (x y : Nat → Int) : Nat → List Value := fun j => feL (x j) ++ feL (y j)
theorem pF_ok (N : Nat) (x y : Nat → Int) : Rok 64 N (pF x y) := fun i _ => ⟨rfl, fun v hv => by
  unfold pF at hv
  rcases List.mem_append.1 hv with hv | hv
  · exact (fe_ok _).2 v hv
  · exact (fe_ok _).2 v hv⟩
def Pl (w : World) (v : Value) (N : Nat) (x y : Nat → Int) : Prop := Rl w 64 v N (pF x y) ∧ ∀ j, j < N → R256 (x j) ∧ R256 (y j)
theorem Pl.chg {w w' : World} {v : Value} {N : Nat} {x y : Nat → Int} (h : Pl w v N x y) (hc : Chg w w' []) : Pl w' v N x y := ⟨h.1.chg hc (fun _ _ _ _ _ hg => by simp at hg), h.2⟩
def ptC (x y : Int) : Array Value := (feL x ++ feL y).toArray
theorem ptInfo : (Tryz.prog.info? 82).map (·.size) = some 64 := by kernel_rfl
theorem ptC_one (x y : Int) : (ptC x y).all (·.oneCell') = true := all_oneCell_toArray (pF_ok 1 (fun _ => x) (fun _ => y) 0 (by omega)).2
theorem pt_x {w : World} {b : Nat} {x y : Int} (h : Blk w b (ptC x y) 82) : w.rangeAt b 0 (feL x) := fun j v hv => by
  have hj : j < 32 := by have := (List.getElem?_eq_some_iff.1 hv).1; rwa [feL_len] at this
  rw [h.cell]
  unfold ptC
  rw [List.getElem?_toArray, Nat.zero_add, List.getElem?_append_left (by rw [feL_len]; exact hj)]
  exact hv
theorem pt_y {w : World} {b : Nat} {x y : Int} (h : Blk w b (ptC x y) 82) : w.rangeAt b 32 (feL y) := fun j v hv => by
  rw [h.cell]
  unfold ptC
  rw [List.getElem?_toArray, List.getElem?_append_right (by rw [feL_len]; omega), feL_len, Nat.add_sub_cancel_left]
  exact hv
end Go.Proofs.YtoafcaieifjoiaaGreat

/- Operations whose new world is a letter. -/
namespace Go.Proofs.YtoafcaieifjoiaaGreat
open Go.RowKit N

theorem wp_alloc_w {P : Program} {w : World} {op : Oper} {a : Act} {K : Act → World → Prop} {Q : Exit → Act → World → Prop} (ty : TypeId) (ho : op.op = .alloc ty) (z : Value) (hz : (P.info? ty).bind (·.zero) = some z) (cs : Array Value) (hc : z.cells = cs)
    (h : ∀ g w', w.heap.size ≤ g → Blk w' g cs ty → Chg w w' [] → K (a.put op.dst (.pointer (some ⟨g, 0, none⟩))) w') : op.wp P a w K Q := by
  subst hc
  cases hi : P.info? ty with
  | none => rw [hi] at hz; cases hz
  | some i =>
    rw [hi] at hz
    replace hz : i.zero = some z := hz
    have hr : (Instr.alloc ty true (.tuple #[])).run P w = .ok (.pointer (some ⟨w.heap.size, 0, none⟩)) (w.alloc (.cells z.cells ty)) := by simp [Instr.alloc, zeroValue, typeInfo, hi, hz, newVar, newRow]
    unfold Oper.wp execOp
    simp only [ho, Sem.run_bind, hr, Sem.run_pure, Result.andThen_ok]
    exact h _ _ (Nat.le_refl _) (Blk.new w _ _) ((Chg.refl w []).alloc _)
theorem alloc_w {P : Program} {w : World} {ops : Array Oper} {rest : List Oper} {op : Oper} {a : Act} {Q : Exit → Act → World → Prop} (hgd : op.guard = none) (ty : TypeId) (ho : op.op = .alloc ty) (z : Value) (hz : (P.info? ty).bind (·.zero) = some z) (cs : Array Value) (hc : z.cells = cs)
    (h : ∀ g w', w.heap.size ≤ g → Blk w' g cs ty → Chg w w' [] → wpList P ops Q rest (a.put op.dst (.pointer (some ⟨g, 0, none⟩))) w') : wpList P ops Q (op :: rest) a w :=
  wpList_plain hgd fun _ hK => wp_alloc_w ty ho z hz cs hc fun g w' q1 q2 q3 => hK _ _ (h g w' q1 q2 q3)
theorem box_w {P : Program} {w : World} {ops : Array Oper} {rest : List Oper} {op : Oper} {a : Act} {Q : Exit → Act → World → Prop} (hgd : op.guard = none) (ty : TypeId) (x : Operand) (ho : op.op = .box ty x) (cs : Array Value) (hx : (a.eval x).cells = cs)
    (h : ∀ g w', w.heap.size ≤ g → Blk w' g cs ty → Chg w w' [] → wpList P ops Q rest (a.put op.dst (.pointer (some ⟨g, 0, none⟩))) w') : wpList P ops Q (op :: rest) a w := by
  subst hx
  refine wpList_plain hgd fun K hK => ?_
  unfold Oper.wp execOp
  simp only [ho, Sem.run_bind, Instr.box, newVar, newRow, run_newObj_alloc, Sem.run_pure, Result.andThen_ok]
  exact hK _ _ (h _ _ (Nat.le_refl _) (Blk.new w _ _) ((Chg.refl w []).alloc _))
theorem wp_store_w {P : Program} {w : World} {op : Oper} {a : Act} {K : Act → World → Prop} {Q : Exit → Act → World → Prop} {g : Nat} {cs : Array Value} {t : TypeId} (hg : Blk w g cs t) (ty : TypeId) (x y : Operand) (cells : Array Value)
    (ho : op.op = .store ty x y) (hx : a.eval x = .pointer (some ⟨g, 0, none⟩)) (hy : a.eval y = .agg cells) (hi : (P.info? ty).map (·.size) = some cells.size) (hs : cs.size = cells.size) (h1 : cells.all (·.oneCell') = true)
    (h : ∀ w', Blk w' g cells t → Chg w w' [g] → K (a.put op.dst undef) w') : op.wp P a w K Q :=
  wp_store_row ty x y ho g cells hx hy t cs hg hi hs h1 (h _ (Blk.setRow hg _) (Chg.of (gb_setRow (gb_refl _ _) _)))
theorem store_w {P : Program} {w : World} {ops : Array Oper} {rest : List Oper} {op : Oper} {a : Act} {Q : Exit → Act → World → Prop} {g : Nat} {cs : Array Value} {t : TypeId} (hg : Blk w g cs t) (hgd : op.guard = none) (ty : TypeId) (x y : Operand) (cells : Array Value)
    (ho : op.op = .store ty x y) (hx : a.eval x = .pointer (some ⟨g, 0, none⟩)) (hy : a.eval y = .agg cells) (hi : (P.info? ty).map (·.size) = some cells.size) (hs : cs.size = cells.size) (h1 : cells.all (·.oneCell') = true)
    (h : ∀ w', Blk w' g cells t → Chg w w' [g] → wpList P ops Q rest (a.put op.dst undef) w') : wpList P ops Q (op :: rest) a w :=
  wpList_plain hgd fun _ hK => wp_store_w hg ty x y cells ho hx hy hi hs h1 fun w' q1 q2 => hK _ _ (h w' q1 q2)
/-- make of a list of scalars. -/
theorem wp_make_sb {w : World} {op : Oper} {a : Act} {K : Act → World → Prop} {Q : Exit → Act → World → Prop} (x y : Operand) (ho : op.op = .makeSlice 22 x y) (r : Nat) (hr : r ≤ 4398046511104) (hx : a.eval x = .int .i64 (r : Int)) (hy : a.eval y = .int .i64 (r : Int))
    (h : ∀ g w', w.heap.size ≤ g → Sb w' g r (fun _ => 0) → Chg w w' [] → K (a.put op.dst (.slice (some ⟨g, 0, none⟩) r r)) w') : op.wp Tryz.prog a w K Q := by
  obtain ⟨W', hm, h1, h2⟩ := make_sb r hr w
  unfold Oper.wp execOp
  simp only [ho, hx, hy, Sem.run_bind, hm, Sem.run_pure, Result.andThen_ok]
  exact h _ _ (Nat.le_refl _) h1 h2
theorem make_w {w : World} {ops : Array Oper} {rest : List Oper} {op : Oper} {a : Act} {Q : Exit → Act → World → Prop} (hgd : op.guard = none) (x y : Operand) (ho : op.op = .makeSlice 22 x y) (r : Nat) (hr : r ≤ 4398046511104) (hx : a.eval x = .int .i64 (r : Int)) (hy : a.eval y = .int .i64 (r : Int))
    (h : ∀ g w', w.heap.size ≤ g → Sb w' g r (fun _ => 0) → Chg w w' [] → wpList Tryz.prog ops Q rest (a.put op.dst (.slice (some ⟨g, 0, none⟩) r r)) w') : wpList Tryz.prog ops Q (op :: rest) a w :=
  wpList_plain hgd fun _ hK => wp_make_sb x y ho r hr hx hy fun g w' q1 q2 q3 => hK _ _ (h g w' q1 q2 q3)
/-- A share out of a list. -/
theorem load_sh {w : World} {ops : Array Oper} {rest : List Oper} {op : Oper} {a : Act} {Q : Exit → Act → World → Prop} (hgd : op.guard = none) (x : Operand) (ho : op.op = .load 96 x) (b o : Nat) (d y : Int) (hx : a.eval x = .pointer (some ⟨b, o, none⟩)) (hc : w.rangeAt b o (.int .i64 d :: feL y))
    (h : wpList Tryz.prog ops Q rest (a.put op.dst (.agg (shC d y))) w) : wpList Tryz.prog ops Q (op :: rest) a w := wpList_load_mid hgd 96 x ho b o hx (.int .i64 d :: feL y) _ hc Tryz.underlying96 rfl shInfo h
theorem load_pt {w : World} {ops : Array Oper} {rest : List Oper} {op : Oper} {a : Act} {Q : Exit → Act → World → Prop} (hgd : op.guard = none) (p : Operand) (ho : op.op = .load 82 p) (b o : Nat) (x y : Int) (hx : a.eval p = .pointer (some ⟨b, o, none⟩)) (hc : w.rangeAt b o (feL x ++ feL y))
    (h : wpList Tryz.prog ops Q rest (a.put op.dst (.agg (ptC x y))) w) : wpList Tryz.prog ops Q (op :: rest) a w := wpList_load_mid hgd 82 p ho b o hx (feL x ++ feL y) _ hc Tryz.underlying82 rfl ptInfo h
theorem exec_load_m {P : Program} {op : Oper} {a : Act} (w : World) (ty : TypeId) (x : Operand) (ho : op.op = .load ty x) (b o : Nat) (hx : a.eval x = .pointer (some ⟨b, o, none⟩)) (cs : List Value) (d : TypeDesc) (hc : w.rangeAt b o cs)
    (hu : P.underlying ty = some d) (hd : d.isRow = true) (hi : (P.info? ty).map (·.size) = some cs.length) : (execOp a.eval op).run P w = .ok (.value (.agg cs.toArray)) w := by
  unfold execOp
  simp only [ho, hx, Instr.loadAt, Instr.sureAddr, Sem.run_bind, Sem.run_pure, Result.andThen_ok, run_loadVar_mid w b o ty cs d hc hu hd hi]
/-- A slice literal of one element, its cells said. -/
theorem bslice_w {P : Program} {w : World} {ops : Array Oper} {rest : List Oper} {op : Oper} {a : Act} {Q : Exit → Act → World → Prop} (hgd : op.guard = none) (t e : TypeId) (x : Operand) (ho : op.op = .buildSlice t 1 #[(0, x)]) (v : Value) (hx : a.eval x = v) (cells : Array Value) (ie : TypeInfo) (z : Value)
    (hu : P.underlying t = some (.slice e)) (hie : P.info? e = some ie) (hz : ie.zero = some z) (s : Nat) (hs : ie.size = s) (h0 : 0 < s) (h1 : s ≤ 1000)
    (hf : Instr.fill (fun i => some (i * s, s)) ((Array.range (1 * s)).map (z.cells[· % z.cells.size]!)) [(0, v)] = some cells)
    (h : ∀ g w', w.heap.size ≤ g → Blk w' g cells e → Chg w w' [] → wpList P ops Q rest (a.put op.dst (.slice (some ⟨g, 0, none⟩) 1 1)) w') : wpList P ops Q (op :: rest) a w := by
  subst hs hx
  refine wpList_buildSlice hgd t e 1 _ ho cells ie z hu hie hz (by omega) (by omega) (by simpa using hf) (h _ _ (Nat.le_refl _) (Blk.new w _ _) ((Chg.refl w []).alloc _))
theorem fill_sc (X : Int) : Instr.fill (fun i => some (i * 32, 32)) ((Array.range (1 * 32)).map ((Value.agg z32).cells[· % (Value.agg z32).cells.size]!)) [(0, fe X)] = some (feC X) := by kernel_rfl
theorem sb_one {w : World} {o : Nat} {X : Int} (h : Blk w o (feC X) 24) : Sb w o 1 (fun _ => X) := Blk.to h (by kernel_rfl)
theorem zeroSc : (Tryz.prog.info? 24).bind (·.zero) = some (.agg z32) := by kernel_rfl
theorem zeroSh : (Tryz.prog.info? 96).bind (·.zero) = some (.agg zSh) := by kernel_rfl
def zPt : Array Value := (z32.toList ++ z32.toList).toArray
theorem zeroPt : (Tryz.prog.info? 82).bind (·.zero) = some (.agg zPt) := by kernel_rfl
theorem zPt_size : zPt.size = 64 := by kernel_rfl
end Go.Proofs.YtoafcaieifjoiaaGreat

/- Blocks of shares, blocks of points. -/
namespace Go.Proofs.YtoafcaieifjoiaaGreat
open Go.RowKit N

def Hb (w : World) (o N : Nat) (d y : Nat → Int) : Prop := Blk w o (rL 33 N (hF d y)).toArray 96
theorem Hb.chg {w w' : World} {o N : Nat} {d y : Nat → Int} {l : List Nat} (h : Hb w o N d y) (hc : Chg w w' l) (ho : ¬ o ∈ l) : Hb w' o N d y := Blk.chg h hc ho
theorem Hb.congr {w : World} {o N : Nat} {d y d' y' : Nat → Int} (h : Hb w o N d y) (hd : ∀ j, j < N → d j = d' j) (hy : ∀ j, j < N → y j = y' j) : Hb w o N d' y' := Blk.to h (congrArg List.toArray (rL_congr fun j hj => by unfold hF; rw [hd j hj, hy j hj]))
theorem Hb.lt {w : World} {o N : Nat} {d y : Nat → Int} (h : Hb w o N d y) : o < w.heap.size := Blk.lt h
/-- The first n of them as a list. -/
theorem Hb.hl {w : World} {o N : Nat} {d y : Nat → Int} (h : Hb w o N d y) (hN : N ≤ 9223372036854775807) (hy : ∀ j, j < N → R256 (y j)) {n : Nat} (hn : n ≤ N) : Hl w (.slice (some ⟨o, 0, none⟩) n N) n d y :=
  ⟨⟨hF_ok n d y, Or.inr ⟨o, 0, N, rfl, hn, hN, h.lt, fun i hi => by rw [Nat.zero_add]; exact Blk.rangeRw h (hF_ok N d y) (by omega)⟩⟩, fun j hj => hy j (by omega)⟩
theorem hF_up (d y : Nat → Int) (i : Nat) (a b : Int) : upR (hF d y) i (.int .i64 a :: feL b) = hF (upS d i a) (upS y i b) := by
  funext j; unfold upR hF upS
  by_cases h : j = i
  · rw [if_pos h, if_pos h, if_pos h]
  · rw [if_neg h, if_neg h, if_neg h]
theorem wp_store_hb {w : World} {op : Oper} {a : Act} {K : Act → World → Prop} {Q : Exit → Act → World → Prop} (x y : Operand) (ho : op.op = .store 96 x y) (b N i : Nat) (d v : Nat → Int) (D X : Int) (hx : a.eval x = .pointer (some ⟨b, i * 33, none⟩)) (hy : a.eval y = .agg (shC D X)) (hb : Hb w b N d v) (hi : i < N)
    (h : ∀ w', Hb w' b N (upS d i D) (upS v i X) → Chg w w' [b] → K (a.put op.dst undef) w') : op.wp Tryz.prog a w K Q :=
  wp_store_rw 96 x y ho b 33 N i (hF d v) (.int .i64 D :: feL X) 96 hx hy hb (hF_ok N d v) hi rfl (hF_ok 1 (fun _ => D) (fun _ => X) 0 (by omega)).2 shInfo fun w' q1 q2 => h w' (by rw [hF_up] at q1; exact q1) q2
theorem store_hb {w : World} {ops : Array Oper} {rest : List Oper} {op : Oper} {a : Act} {Q : Exit → Act → World → Prop} (hgd : op.guard = none) (x y : Operand) (ho : op.op = .store 96 x y) (b N i : Nat) (d v : Nat → Int) (D X : Int) (hx : a.eval x = .pointer (some ⟨b, i * 33, none⟩)) (hy : a.eval y = .agg (shC D X)) (hb : Hb w b N d v) (hi : i < N)
    (h : ∀ w', Hb w' b N (upS d i D) (upS v i X) → Chg w w' [b] → wpList Tryz.prog ops Q rest (a.put op.dst undef) w') : wpList Tryz.prog ops Q (op :: rest) a w :=
  wpList_plain hgd fun _ hK => wp_store_hb x y ho b N i d v D X hx hy hb hi fun w' q1 q2 => hK _ _ (h w' q1 q2)
theorem shRow : ∃ i, Tryz.prog.info? 96 = some i ∧ i.zero = some (.agg zSh) ∧ i.size = 33 ∧ i.bytes = 40 := by
  have h : (Tryz.prog.info? 96).map (fun i => (i.zero, i.size, i.bytes)) = some (some (.agg zSh), 33, 40) := by kernel_rfl
  cases hi : Tryz.prog.info? 96 with
  | none => rw [hi] at h; simp at h
  | some i => rw [hi] at h; simp at h; exact ⟨i, rfl, h.1, h.2.1, h.2.2⟩
theorem make_hb {w : World} {ops : Array Oper} {rest : List Oper} {op : Oper} {a : Act} {Q : Exit → Act → World → Prop} (hgd : op.guard = none) (x y : Operand) (ho : op.op = .makeSlice 49 x y) (r : Nat) (hr : r ≤ 3298534883328) (hx : a.eval x = .int .i64 (r : Int)) (hy : a.eval y = .int .i64 (r : Int))
    (h : ∀ g w', w.heap.size ≤ g → Hb w' g r (fun _ => 0) (fun _ => 0) → Chg w w' [] → wpList Tryz.prog ops Q rest (a.put op.dst (.slice (some ⟨g, 0, none⟩) r r)) w') : wpList Tryz.prog ops Q (op :: rest) a w := by
  obtain ⟨i, hi, hz, h1, h2⟩ := shRow
  have hm := run_make (P := Tryz.prog) w 49 96 i (.agg zSh) Tryz.underlying49 hi hz .i64 .i64 (r : Int) (r : Int) (by omega) (by omega) (by rw [h2]; omega) (by omega)
  rw [h1, Int.toNat_natCast] at hm
  have hB : Hb (w.alloc (.cells (madeCells zSh (r * 33)) 96)) w.heap.size r (fun _ => 0) (fun _ => 0) := by
    rw [made_r zSh 33 r rfl]
    refine (Blk.new w _ _).to (congrArg List.toArray (rL_congr fun j _ => ?_))
    kernel_rfl
  refine wpList_plain hgd fun K hK => ?_
  unfold Oper.wp execOp
  simp only [ho, hx, hy, Sem.run_bind, hm, Sem.run_pure, Result.andThen_ok]
  exact hK _ _ (h _ _ (Nat.le_refl _) hB ((Chg.refl w []).alloc _))
theorem built_sh (d y : Int) : Tryz.prog.built 96 [(0, .int .i64 d), (1, fe y)] = some (shC d y) := by kernel_rfl
theorem built_pt (x y : Int) : Tryz.prog.built 82 [(0, fe x), (1, fe y)] = some (ptC x y) := by kernel_rfl
theorem build_w {P : Program} {ops : Array Oper} {rest : List Oper} {o : Oper} {a : Act} {w : World} {Q : Exit → Act → World → Prop} (hg : o.guard = none) (t : TypeId) (parts : Array (Nat × Operand)) (ho : o.op = .build t parts)
    (cells : Array Value) (hb : P.built t (parts.map fun (i, x) => (i, a.eval x)).toList = some cells) (h : wpList P ops Q rest (a.put o.dst (.agg cells)) w) : wpList P ops Q (o :: rest) a w :=
  wpList_build hg t parts ho (by rw [hb]; rfl) (by rw [hb]; exact h)
theorem exec_build {P : Program} {o : Oper} {a : Act} (w : World) (t : TypeId) (parts : Array (Nat × Operand)) (ho : o.op = .build t parts) (cells : Array Value) (hb : P.built t (parts.map fun (i, x) => (i, a.eval x)).toList = some cells) :
    (execOp a.eval o).run P w = .ok (.value (.agg cells)) w := by
  have h := run_build (P := P) w t (parts.map fun (i, x) => (i, a.eval x)) cells hb
  unfold execOp
  simp only [ho, Sem.run_bind, h, Result.andThen_ok, Sem.run_pure]
theorem build_2 {P : Program} {ops : Array Oper} {rest : List Oper} {o : Oper} {a : Act} {w : World} {Q : Exit → Act → World → Prop} (hg : o.guard = none) (t : TypeId) (i0 i1 : Nat) (x0 x1 : Operand) (ho : o.op = .build t #[(i0, x0), (i1, x1)])
    (v0 v1 : Value) (h0 : a.eval x0 = v0) (h1 : a.eval x1 = v1) (cells : Array Value) (hb : P.built t [(i0, v0), (i1, v1)] = some cells) (h : wpList P ops Q rest (a.put o.dst (.agg cells)) w) : wpList P ops Q (o :: rest) a w := by
  refine build_w hg t _ ho cells ?_ h
  subst h0 h1
  simpa using hb
theorem exec_build2 {P : Program} {o : Oper} {a : Act} (w : World) (t : TypeId) (i0 i1 : Nat) (x0 x1 : Operand) (ho : o.op = .build t #[(i0, x0), (i1, x1)])
    (v0 v1 : Value) (h0 : a.eval x0 = v0) (h1 : a.eval x1 = v1) (cells : Array Value) (hb : P.built t [(i0, v0), (i1, v1)] = some cells) :
    (execOp a.eval o).run P w = .ok (.value (.agg cells)) w := by
  refine exec_build w t _ ho cells ?_
  subst h0 h1
  simpa using hb
theorem build_0 {P : Program} {ops : Array Oper} {rest : List Oper} {o : Oper} {a : Act} {w : World} {Q : Exit → Act → World → Prop} (hg : o.guard = none) (t : TypeId) (ho : o.op = .build t #[])
    (cells : Array Value) (hb : P.built t [] = some cells) (h : wpList P ops Q rest (a.put o.dst (.agg cells)) w) : wpList P ops Q (o :: rest) a w := build_w hg t _ ho cells (by simpa using hb) h
theorem build_1 {P : Program} {ops : Array Oper} {rest : List Oper} {o : Oper} {a : Act} {w : World} {Q : Exit → Act → World → Prop} (hg : o.guard = none) (t : TypeId) (i0 : Nat) (x0 : Operand) (ho : o.op = .build t #[(i0, x0)])
    (v0 : Value) (h0 : a.eval x0 = v0) (cells : Array Value) (hb : P.built t [(i0, v0)] = some cells) (h : wpList P ops Q rest (a.put o.dst (.agg cells)) w) : wpList P ops Q (o :: rest) a w := by
  refine build_w hg t _ ho cells ?_ h
  subst h0
  simpa using hb
theorem built_z : Tryz.prog.built 24 [] = some (feC 0) := by kernel_rfl
theorem built_1 : Tryz.prog.built 24 [(0, .int .u8 1)] = some (feC 1) := by kernel_rfl
/-! ### Points -/
def Pb (w : World) (o N : Nat) (x y : Nat → Int) : Prop := Blk w o (rL 64 N (pF x y)).toArray 82
theorem Pb.chg {w w' : World} {o N : Nat} {d y : Nat → Int} {l : List Nat} (h : Pb w o N d y) (hc : Chg w w' l) (ho : ¬ o ∈ l) : Pb w' o N d y := Blk.chg h hc ho
theorem Pb.congr {w : World} {o N : Nat} {d y d' y' : Nat → Int} (h : Pb w o N d y) (hd : ∀ j, j < N → d j = d' j) (hy : ∀ j, j < N → y j = y' j) : Pb w o N d' y' := Blk.to h (congrArg List.toArray (rL_congr fun j hj => by unfold pF; rw [hd j hj, hy j hj]))
theorem Pb.lt {w : World} {o N : Nat} {d y : Nat → Int} (h : Pb w o N d y) : o < w.heap.size := Blk.lt h
theorem Pb.pl {w : World} {o N : Nat} {d y : Nat → Int} (h : Pb w o N d y) (hN : N ≤ 9223372036854775807) (hd : ∀ j, j < N → R256 (d j)) (hy : ∀ j, j < N → R256 (y j)) : Pl w (.slice (some ⟨o, 0, none⟩) N N) N d y :=
  ⟨⟨pF_ok N d y, Or.inr ⟨o, 0, N, rfl, Nat.le_refl _, hN, h.lt, fun i hi => by rw [Nat.zero_add]; exact Blk.rangeRw h (pF_ok N d y) (by omega)⟩⟩, fun j hj => ⟨hd j (by omega), hy j (by omega)⟩⟩
theorem pF_up (d y : Nat → Int) (i : Nat) (a b : Int) : upR (pF d y) i (feL a ++ feL b) = pF (upS d i a) (upS y i b) := by
  funext j; unfold upR pF upS
  by_cases h : j = i
  · rw [if_pos h, if_pos h, if_pos h]
  · rw [if_neg h, if_neg h, if_neg h]
theorem wp_store_pb {w : World} {op : Oper} {a : Act} {K : Act → World → Prop} {Q : Exit → Act → World → Prop} (x y : Operand) (ho : op.op = .store 82 x y) (b N i : Nat) (d v : Nat → Int) (D X : Int) (hx : a.eval x = .pointer (some ⟨b, i * 64, none⟩)) (hy : a.eval y = .agg (ptC D X)) (hb : Pb w b N d v) (hi : i < N)
    (h : ∀ w', Pb w' b N (upS d i D) (upS v i X) → Chg w w' [b] → K (a.put op.dst undef) w') : op.wp Tryz.prog a w K Q :=
  wp_store_rw 82 x y ho b 64 N i (pF d v) (feL D ++ feL X) 82 hx hy hb (pF_ok N d v) hi rfl (pF_ok 1 (fun _ => D) (fun _ => X) 0 (by omega)).2 ptInfo fun w' q1 q2 => h w' (by rw [pF_up] at q1; exact q1) q2
theorem ptRow : ∃ i, Tryz.prog.info? 82 = some i ∧ i.zero = some (.agg zPt) ∧ i.size = 64 ∧ i.bytes = 64 := by
  have h : (Tryz.prog.info? 82).map (fun i => (i.zero, i.size, i.bytes)) = some (some (.agg zPt), 64, 64) := by kernel_rfl
  cases hi : Tryz.prog.info? 82 with
  | none => rw [hi] at h; simp at h
  | some i => rw [hi] at h; simp at h; exact ⟨i, rfl, h.1, h.2.1, h.2.2⟩
theorem make_pb {w : World} {ops : Array Oper} {rest : List Oper} {op : Oper} {a : Act} {Q : Exit → Act → World → Prop} (hgd : op.guard = none) (x y : Operand) (ho : op.op = .makeSlice 78 x y) (r : Nat) (hr : r ≤ 2199023255552) (hx : a.eval x = .int .i64 (r : Int)) (hy : a.eval y = .int .i64 (r : Int))
    (h : ∀ g w', w.heap.size ≤ g → Pb w' g r (fun _ => 0) (fun _ => 0) → Chg w w' [] → wpList Tryz.prog ops Q rest (a.put op.dst (.slice (some ⟨g, 0, none⟩) r r)) w') : wpList Tryz.prog ops Q (op :: rest) a w := by
  obtain ⟨i, hi, hz, h1, h2⟩ := ptRow
  have hm := run_make (P := Tryz.prog) w 78 82 i (.agg zPt) Tryz.underlying78 hi hz .i64 .i64 (r : Int) (r : Int) (by omega) (by omega) (by rw [h2]; omega) (by omega)
  rw [h1, Int.toNat_natCast] at hm
  have hB : Pb (w.alloc (.cells (madeCells zPt (r * 64)) 82)) w.heap.size r (fun _ => 0) (fun _ => 0) := by
    rw [made_r zPt 64 r zPt_size]
    refine (Blk.new w _ _).to (congrArg List.toArray (rL_congr fun j _ => ?_))
    kernel_rfl
  refine wpList_plain hgd fun K hK => ?_
  unfold Oper.wp execOp
  simp only [ho, hx, hy, Sem.run_bind, hm, Sem.run_pure, Result.andThen_ok]
  exact hK _ _ (h _ _ (Nat.le_refl _) hB ((Chg.refl w []).alloc _))
end Go.Proofs.YtoafcaieifjoiaaGreat
