/- The reference's rows: a list that was appended to, of lists that were. -/
import Derived.Test.YtoafcaieifjoiaaGreatCoD
import Derived.Test.YtoafcaieifjoiaaGreatMgI
set_option linter.unusedVariables false
set_option linter.unusedSimpArgs false
set_option linter.unnecessarySimpa false
namespace Go.Proofs.YtoafcaieifjoiaaGreat
open Go.RowKit N

/-- Block rb begins with M lists. -/
def Rw (w : World) (rb M W : Nat) (q cp : Nat → Nat) : Prop := ∃ cur : Array Value, Blk w rb cur 22 ∧ ∀ i, i < M → cur[i]? = some (.slice (some ⟨q i, 0, none⟩) W (cp i))
theorem Rw.chg {w w' : World} {rb M W : Nat} {q cp : Nat → Nat} {l : List Nat} (h : Rw w rb M W q cp) (hc : Chg w w' l) (ho : ¬ rb ∈ l) : Rw w' rb M W q cp := by
  obtain ⟨cur, h1, h2⟩ := h
  exact ⟨cur, h1.chg hc ho, h2⟩
theorem Rw.lt {w : World} {rb M W : Nat} {q cp : Nat → Nat} (h : Rw w rb M W q cp) : rb < w.heap.size := by
  obtain ⟨cur, h1, _⟩ := h
  exact h1.lt
theorem Rw.cell {w : World} {rb M W : Nat} {q cp : Nat → Nat} (h : Rw w rb M W q cp) {i : Nat} (hi : i < M) : w.cell? ⟨rb, i, none⟩ = some (.slice (some ⟨q i, 0, none⟩) W (cp i)) := by
  obtain ⟨cur, h1, h2⟩ := h
  rw [h1.cell]; exact h2 i hi
structure My (w0 w : World) (rb M W : Nat) (q cp : Nat → Nat) (R : Nat → Nat → Int) : Prop where
  blk : Rw w rb M W q cp
  row : ∀ i, i < M → Sp w (q i) W (R i)
  cap : ∀ i, i < M → W ≤ cp i
  ne : ∀ i, i < M → ¬ q i = rb
  inj : ∀ i j, i < M → j < M → q i = q j → i = j
  rl : ∀ i j, i < M → j < W → RL (R i j)
  base : w0.heap.size ≤ rb
  bases : ∀ i, i < M → w0.heap.size ≤ q i
  chg : Chg w0 w []
theorem My.cell {w0 w : World} {rb M W : Nat} {q cp : Nat → Nat} {R : Nat → Nat → Int} (h : My w0 w rb M W q cp R) {i : Nat} (hi : i < M) : w.cell? ⟨rb, i, none⟩ = some (.slice (some ⟨q i, 0, none⟩) W (cp i)) := h.blk.cell hi
theorem My.range {w0 w : World} {rb M W : Nat} {q cp : Nat → Nat} {R : Nat → Nat → Int} (h : My w0 w rb M W q cp R) {i j : Nat} (hi : i < M) (hj : j < W) {X : Int} (hX : R i j = X) : w.rangeAt (q i) (j * 32) (feL X) := hX ▸ (h.row i hi).range hj
theorem My.qlt {w0 w : World} {rb M W : Nat} {q cp : Nat → Nat} {R : Nat → Nat → Int} (h : My w0 w rb M W q cp R) {i : Nat} (hi : i < M) : q i < w.heap.size := (h.row i hi).lt
theorem My.keep {w0 w w' : World} {rb M W : Nat} {q cp : Nat → Nat} {R : Nat → Nat → Int} (h : My w0 w rb M W q cp R) (k : Chg w w' []) : My w0 w' rb M W q cp R :=
  ⟨h.blk.chg k (by simp), fun i hi => (h.row i hi).chg k (by simp), h.cap, h.ne, h.inj, h.rl, h.base, h.bases, h.chg.trans1 k⟩
theorem My.fresh {w0 w w1 w' : World} {rb M W : Nat} {q cp : Nat → Nat} {R : Nat → Nat → Int} {b : Nat} (h : My w0 w rb M W q cp R) (k1 : Chg w w1 []) (hb : w.heap.size ≤ b) (k : Chg w1 w' [b]) : My w0 w' rb M W q cp R := by
  have h1 := h.keep k1
  have hr := h.blk.lt
  refine ⟨h1.blk.chg k (by simp; omega), fun i hi => (h1.row i hi).chg k (by have := h.qlt hi; simp; omega), h.cap, h.ne, h.inj, h.rl, h.base, h.bases, h1.chg.new k (by have := h.chg.size; omega)⟩
theorem My.put {w0 w w' : World} {rb M W : Nat} {q cp : Nat → Nat} {R : Nat → Nat → Int} (h : My w0 w rb M W q cp R) {i : Nat} (hi : i < M) {g : Nat → Int} (hs : Sp w' (q i) W g) (hg : ∀ j, j < W → RL (g j)) (k : Chg w w' [q i]) : My w0 w' rb M W q cp (upM R i g) := by
  refine ⟨h.blk.chg k (by have := h.ne i hi; simp; omega), fun j hj => ?_, h.cap, h.ne, h.inj, fun a b ha hb => ?_, h.base, h.bases, h.chg.new k (h.bases i hi)⟩
  · unfold upM
    by_cases e : j = i
    · subst e; rw [if_pos rfl]; exact hs
    · rw [if_neg e]; exact (h.row j hj).chg k (by simp; intro x; exact e (h.inj j i hj hi x))
  · unfold upM
    by_cases e : a = i
    · rw [if_pos e]; exact hg b hb
    · rw [if_neg e]; exact h.rl a b ha hb
theorem My.congr {w0 w : World} {rb M W : Nat} {q cp : Nat → Nat} {R R' : Nat → Nat → Int} (h : My w0 w rb M W q cp R) (e : ∀ i j, i < M → j < W → R i j = R' i j) : My w0 w rb M W q cp R' :=
  ⟨h.blk, fun i hi => (h.row i hi).congr (fun j hj => e i j hi hj), h.cap, h.ne, h.inj, fun i j hi hj => by rw [← e i j hi hj]; exact h.rl i j hi hj, h.base, h.bases, h.chg⟩
theorem My.drew {w0 w : World} {rb M W : Nat} {q cp : Nat → Nat} {R : Nat → Nat → Int} (h : My w0 w rb M W q cp R) : My w0 w.drew rb M W q cp R := ⟨h.blk, h.row, h.cap, h.ne, h.inj, h.rl, h.base, h.bases, h.chg.drew⟩
theorem My.off {w0 w w' : World} {rb M W : Nat} {q cp : Nat → Nat} {R : Nat → Nat → Int} {b : Nat} (h : My w0 w rb M W q cp R) (k : Chg w w' [b]) (hb : w0.heap.size ≤ b) (h1 : ¬ rb = b) (h2 : ∀ i, i < M → ¬ q i = b) : My w0 w' rb M W q cp R :=
  ⟨h.blk.chg k (by simp; exact h1), fun i hi => (h.row i hi).chg k (by simp; exact h2 i hi), h.cap, h.ne, h.inj, h.rl, h.base, h.bases, h.chg.new k hb⟩
theorem wp_store_my {w0 w : World} {op : Oper} {a : Act} {K : Act → World → Prop} {Q : Exit → Act → World → Prop} (x y : Operand) (ho : op.op = .store 24 x y) {rb M W : Nat} {q cp : Nat → Nat} {R : Nat → Nat → Int} (h0 : My w0 w rb M W q cp R) (k j : Nat) (X : Int) (hx : a.eval x = .pointer (some ⟨q k, j * 32, none⟩)) (hy : a.eval y = fe X) (hk : k < M) (hj : j < W) (rX : RL X)
    (h : ∀ w', My w0 w' rb M W q cp (upM R k (upS (R k) j X)) → Chg w w' [q k] → K (a.put op.dst undef) w') : op.wp Tryz.prog a w K Q :=
  wp_store_sp x y ho (q k) W j (R k) X hx hy (h0.row k hk) hj fun w' s1 s2 => h w' (h0.put hk s1 (fun j' hj' => by
    unfold upS
    by_cases e : j' = j
    · rw [if_pos e]; exact rX
    · rw [if_neg e]; exact h0.rl k j' hk hj') s2) s2
/-- One row's place is written. -/
theorem wp_store_rwy {w : World} {op : Oper} {a : Act} {K : Act → World → Prop} {Q : Exit → Act → World → Prop} (x y : Operand) (ho : op.op = .store 22 x y) (b M W i g c : Nat) (q cp : Nat → Nat) (hx : a.eval x = .pointer (some ⟨b, i, none⟩)) (hy : a.eval y = .slice (some ⟨g, 0, none⟩) W c) (hb : Rw w b M W q cp) (hi : i < M)
    (h : ∀ w', Rw w' b M W (fun k => if k = i then g else q k) (fun k => if k = i then c else cp k) → Chg w w' [b] → K (a.put op.dst undef) w') : op.wp Tryz.prog a w K Q := by
  have hc := hb.cell hi
  obtain ⟨cur, h1, h2⟩ := hb
  have hz : w.frozen? ⟨b, i, none⟩ = false := h1.frozen i
  have hI : (Tryz.prog.info? 22).map (·.size) = some 1 := by kernel_rfl
  have hr : (Instr.storeAt 22 (.pointer (some ⟨b, i, none⟩)) (.slice (some ⟨g, 0, none⟩) W c)).run Tryz.prog w = .ok () (w.setCell ⟨b, i, none⟩ (.slice (some ⟨g, 0, none⟩) W c)) := by
    cases hi : Tryz.prog.info? 22 with
    | none => rw [hi] at hI; cases hI
    | some i =>
      rw [hi] at hI
      have hs : i.size = 1 := by simpa using hI
      simp [go_sem, hc, hz, hi, hs]
  unfold Oper.wp execOp
  simp only [ho, hx, hy, Sem.run_bind, hr, Sem.run_pure, Result.andThen_ok]
  refine h _ ⟨_, h1.setCell i _, fun k hk => ?_⟩ ((Chg.refl w [b]).setIn (by simp) i _)
  have hl : i < cur.size := (Array.getElem?_eq_some_iff.1 (h2 i hi)).1
  rw [Array.getElem?_setIfInBounds]
  by_cases e : i = k
  · subst e
    rw [if_pos rfl, if_pos hl]
    show _ = some (Value.slice (some ⟨if i = i then g else q i, 0, none⟩) W (if i = i then c else cp i))
    rw [if_pos rfl, if_pos rfl]
  · rw [if_neg e]
    show _ = some (Value.slice (some ⟨if k = i then g else q k, 0, none⟩) W (if k = i then c else cp k))
    rw [if_neg (fun x => e x.symm), if_neg (fun x => e x.symm)]
    exact h2 k hk
theorem My.swap {w0 w w' : World} {rb M W : Nat} {q cp : Nat → Nat} {R : Nat → Nat → Int} (h : My w0 w rb M W q cp R) {c r : Nat} (hc : c < M) (hr : r < M) (k : Chg w w' [rb])
    (hb : Rw w' rb M W (fun k => if k = r then q c else (fun k => if k = c then q r else q k) k) (fun k => if k = r then cp c else (fun k => if k = c then cp r else cp k) k)) :
    My w0 w' rb M W (fun i => q (Q.swp c r i)) (fun i => cp (Q.swp c r i)) (fun i => R (Q.swp c r i)) := by
  have hs : ∀ f : Nat → Nat, ∀ i, (if i = r then f c else if i = c then f r else f i) = f (Q.swp c r i) := fun f i => by
    unfold Q.swp
    by_cases e : i = r
    · subst e
      rw [if_pos rfl]
      by_cases e2 : i = c
      · subst e2; rw [if_pos rfl]
      · rw [if_neg e2, if_pos rfl]
    · rw [if_neg e]
      by_cases e2 : i = c
      · rw [if_pos e2, if_pos e2]
      · rw [if_neg e2, if_neg e2, if_neg e]
  have hl : ∀ i, i < M → Q.swp c r i < M := fun i hi => Q.swp_lt hc hr hi
  refine ⟨?_, fun i hi => (h.row _ (hl i hi)).chg k (by have := h.ne _ (hl i hi); simp; exact this), fun i hi => h.cap _ (hl i hi), fun i hi => h.ne _ (hl i hi), fun i j hi hj e => ?_, fun i j hi hj => h.rl _ j (hl i hi) hj, h.base, fun i hi => h.bases _ (hl i hi), h.chg.new k h.base⟩
  · obtain ⟨cur, h1, h2⟩ := hb
    refine ⟨cur, h1, fun i hi => ?_⟩
    rw [h2 i hi]
    show some (Value.slice (some ⟨if i = r then q c else if i = c then q r else q i, 0, none⟩) W (if i = r then cp c else if i = c then cp r else cp i)) = _
    rw [hs q i, hs cp i]
  · have e2 := congrArg (Q.swp c r) (h.inj _ _ (hl i hi) (hl j hj) e)
    rwa [Q.swp_swp, Q.swp_swp] at e2
theorem blk_rangeG {w : World} {b : Nat} {X : Int} (h : Blk w b (feC X) 24) : w.rangeAt b 0 (feL X) := h.range
/-- A scalar loaded under a guard that lets it. -/
theorem load_gG {w : World} {ops : Array Oper} {rest : List Oper} {op : Oper} {a : Act} {Q : Exit → Act → World → Prop} {b : Nat} {X : Int} (hB : Blk w b (feC X) 24) (x : Operand) (hw : Region.wanted op (yielded ops a.tmps) = true) (ho : op.op = .load 24 x) (hx : a.eval x = .pointer (some ⟨b, 0, none⟩))
    (h : wpList Tryz.prog ops Q rest (a.put op.dst (fe X)) w) : wpList Tryz.prog ops Q (op :: rest) a w :=
  wpList_step fun K hK => by rw [if_pos hw]; exact wp_load_mid 24 x ho b 0 hx (feL X) _ (blk_rangeG hB) Tryz.underlying24 rfl feInfo (hK _ _ h)
/-! ### The steps -/
def gs1 (R : Nat → Nat → Int) (r : Nat) (V : Int) (i : Nat) : Nat → Nat → Int := fun k j => if k = r ∧ j < i then ml (R r j) V else R k j
def gsI (R : Nat → Nat → Int) (r c : Nat) (V : Int) : Nat → Nat → Int := fun k j => if k = r then ml (R r j) V else if R k c = 0 then R k j else sb (R k j) (ml (R k c) (ml (R r j) V))
def gt2 (R : Nat → Nat → Int) (r c : Nat) (V : Int) (i : Nat) : Nat → Nat → Int := fun k j => if k < i then gsI R r c V k j else if k = r then ml (R r j) V else R k j
def gt3 (R : Nat → Nat → Int) (r c : Nat) (V : Int) (i m : Nat) : Nat → Nat → Int := fun k j => if k = i ∧ j < m then sb (R i j) (ml (R i c) (ml (R r j) V)) else gt2 R r c V i k j
theorem gs1_0 (R : Nat → Nat → Int) (r : Nat) (V : Int) (k j : Nat) : R k j = gs1 R r V 0 k j := (if_neg (by omega)).symm
theorem gs1_at (R : Nat → Nat → Int) (r : Nat) (V : Int) (i : Nat) : gs1 R r V i r i = R r i := if_neg (by omega)
theorem gs1_step (R : Nat → Nat → Int) (r : Nat) (V : Int) (i a b : Nat) : upM (gs1 R r V i) r (upS (gs1 R r V i r) i (ml (R r i) V)) a b = gs1 R r V (i + 1) a b := by
  unfold upM
  by_cases h : a = r
  · subst h
    rw [if_pos rfl]
    unfold upS
    by_cases h2 : b = i
    · subst h2
      rw [if_pos rfl]
      exact (if_pos ⟨rfl, by omega⟩).symm
    · rw [if_neg h2]
      unfold gs1
      by_cases h3 : b < i
      · rw [if_pos ⟨rfl, h3⟩, if_pos ⟨rfl, by omega⟩]
      · rw [if_neg (by omega), if_neg (by omega)]
  · rw [if_neg h]
    unfold gs1
    rw [if_neg (by omega), if_neg (by omega)]
theorem gs1_end (R : Nat → Nat → Int) (r c : Nat) (V : Int) {W : Nat} (a b : Nat) (hb : b < W) : gs1 R r V W a b = gt2 R r c V 0 a b := by
  unfold gs1 gt2
  rw [if_neg (show ¬ a < 0 by omega)]
  by_cases h : a = r
  · rw [if_pos ⟨h, hb⟩, if_pos h]
  · rw [if_neg (fun x => h x.1), if_neg h]
theorem gt2_own (R : Nat → Nat → Int) (r c : Nat) (V : Int) (a b : Nat) : gt2 R r c V r a b = gt2 R r c V (r + 1) a b := by
  unfold gt2
  by_cases h : a < r
  · rw [if_pos h, if_pos (by omega)]
  · by_cases h2 : a = r
    · rw [if_neg h, if_pos h2, if_pos (by omega)]
      unfold gsI; rw [if_pos h2]
    · rw [if_neg h, if_neg h2, if_neg (by omega)]
theorem gt2_zero (R : Nat → Nat → Int) (r c : Nat) (V : Int) {i : Nat} (hi : ¬ i = r) (h0 : R i c = 0) (a b : Nat) : gt2 R r c V i a b = gt2 R r c V (i + 1) a b := by
  unfold gt2
  by_cases h : a < i
  · rw [if_pos h, if_pos (by omega)]
  · by_cases h2 : a = i
    · subst h2
      rw [if_neg h, if_neg hi, if_pos (by omega)]
      unfold gsI; rw [if_neg hi, if_pos h0]
    · rw [if_neg h, if_neg (show ¬ a < i + 1 by omega)]
theorem gt2_r (R : Nat → Nat → Int) (r c : Nat) (V : Int) (i j : Nat) : gt2 R r c V i r j = ml (R r j) V := by
  unfold gt2
  by_cases h : r < i
  · rw [if_pos h]; unfold gsI; rw [if_pos rfl]
  · rw [if_neg h, if_pos rfl]
theorem gt2_i (R : Nat → Nat → Int) (r c : Nat) (V : Int) {i : Nat} (h : ¬ i = r) (j : Nat) : gt2 R r c V i i j = R i j := by
  unfold gt2
  rw [if_neg (Nat.lt_irrefl _), if_neg h]
theorem gt3_0 (R : Nat → Nat → Int) (r c : Nat) (V : Int) (i k j : Nat) : gt2 R r c V i k j = gt3 R r c V i 0 k j := (if_neg (by omega)).symm
theorem gt3_r (R : Nat → Nat → Int) (r c : Nat) (V : Int) {i : Nat} (h : ¬ i = r) (m j : Nat) : gt3 R r c V i m r j = ml (R r j) V := by
  unfold gt3
  rw [if_neg (fun x => h x.1.symm)]
  exact gt2_r R r c V i j
theorem gt3_at (R : Nat → Nat → Int) (r c : Nat) (V : Int) {i : Nat} (h : ¬ i = r) (m : Nat) : gt3 R r c V i m i m = R i m := by
  unfold gt3
  rw [if_neg (by omega)]
  exact gt2_i R r c V h m
theorem gt3_step (R : Nat → Nat → Int) (r c : Nat) (V : Int) (i m a b : Nat) : upM (gt3 R r c V i m) i (upS (gt3 R r c V i m i) m (sb (R i m) (ml (R i c) (ml (R r m) V)))) a b = gt3 R r c V i (m + 1) a b := by
  unfold upM
  by_cases h : a = i
  · subst h
    rw [if_pos rfl]
    unfold upS
    by_cases h2 : b = m
    · subst h2
      rw [if_pos rfl]
      exact (if_pos ⟨rfl, by omega⟩).symm
    · rw [if_neg h2]
      unfold gt3
      by_cases h3 : b < m
      · rw [if_pos ⟨rfl, h3⟩, if_pos ⟨rfl, by omega⟩]
      · rw [if_neg (by omega), if_neg (by omega)]
  · rw [if_neg h]
    unfold gt3
    rw [if_neg (by omega), if_neg (by omega)]
theorem gt3_end (R : Nat → Nat → Int) (r c : Nat) (V : Int) {i W : Nat} (h : ¬ i = r) (h0 : ¬ R i c = 0) (a b : Nat) (hb : b < W) : gt3 R r c V i W a b = gt2 R r c V (i + 1) a b := by
  unfold gt3 gt2
  by_cases h1 : a = i
  · subst h1
    rw [if_pos ⟨rfl, hb⟩, if_pos (show a < a + 1 by omega)]
    unfold gsI; rw [if_neg h, if_neg h0]
  · rw [if_neg (fun x => h1 x.1)]
    by_cases h2 : a < i
    · rw [if_pos h2, if_pos (by omega)]
    · rw [if_neg h2, if_neg (show ¬ a < i + 1 by omega)]
theorem gt2_end (R : Nat → Nat → Int) (r c : Nat) (V : Int) {M a : Nat} (h : a < M) (b : Nat) : gt2 R r c V M a b = gsI R r c V a b := if_pos h
/-! ### What stands behind each column -/
def GsQ (R0 R : Nat → Nat → Int) (M W c r : Nat) (A : Nat → Int) : Prop := haveI := LN_nz; Q.GI (zR R) M W c r A ∧ ∀ v : Nat → Fin LN, Q.Sol (zR R) M W v ↔ Q.Sol (zR R0) M W v
theorem GsQ.zero (R : Nat → Nat → Int) (M W : Nat) (A : Nat → Int) : GsQ R R M W 0 0 A := ⟨@Q.GI.zero LN LN_nz _ _ _ _, fun _ => Iff.rfl⟩
theorem sol_congr {n : Nat} [NeZero n] {R R' : Nat → Nat → Fin n} {M W : Nat} (e : ∀ i j, i < M → R i j = R' i j) (v : Nat → Fin n) : Q.Sol R M W v ↔ Q.Sol R' M W v := by
  constructor
  · intro h i hi
    rw [← e i W hi, ← h i hi]; exact Q.sm_congr fun j _ => by rw [e i j hi]
  · intro h i hi
    rw [e i W hi, ← h i hi]; exact Q.sm_congr fun j _ => by rw [e i j hi]
theorem gi_congr {n : Nat} [NeZero n] {R R' : Nat → Nat → Fin n} {M W c r : Nat} {A : Nat → Int} (e : ∀ i j, i < M → R i j = R' i j) (h : Q.GI R M W c r A) : Q.GI R' M W c r A := by
  have hle := h.le
  refine ⟨h.le, fun k hk i h1 h2 => by rw [← e i k h2]; exact h.low k hk i h1 h2, fun k hk => ?_, h.inj, h.sur⟩
  rcases h.piv k hk with q | ⟨p, p1, p2, p3, p4⟩
  · exact Or.inl q
  · exact Or.inr ⟨p, p1, p2, by rw [← e p k (by omega)]; exact p3, fun i hi hip => by rw [← e i k hi]; exact p4 i hi hip⟩
theorem zR_gsI (R : Nat → Nat → Int) (r c : Nat) (V : Int) (i j : Nat) : haveI := LN_nz; zR (gsI R r c V) i j = Q.gst (zR R) r c (zq LN V) i j := by
  haveI := LN_nz
  unfold zR gsI Q.gst
  by_cases e : i = r
  · rw [if_pos e, if_pos e, zq_ml L_LN]
  · rw [if_neg e, if_neg e]
    show _ = zq LN (R i j) - zq LN (R i c) * (zq LN (R r j) * zq LN V)
    by_cases h : R i c = 0
    · rw [if_pos h, h, zq_0]; grind
    · rw [if_neg h, zq_sb L_LN, zq_ml L_LN, zq_ml L_LN]
theorem GsQ.skip {R0 R : Nat → Nat → Int} {M W c r : Nat} {A : Nat → Int} (h : GsQ R0 R M W c r A) (h0 : ∀ i, r ≤ i → i < M → R i c = 0) : GsQ R0 R M W (c + 1) r (upS A c (-1)) := by
  haveI := LN_nz
  exact ⟨h.1.skip (fun i a b => by show zq LN (R i c) = 0; rw [h0 i a b]; exact zq_0), h.2⟩
theorem GsQ.step {R0 R : Nat → Nat → Int} {M W c r p : Nat} {A : Nat → Int} (h : GsQ R0 R M W c r A) (hrp : r ≤ p) (hp : p < M) (hrl : RL (R p c)) (hnz : eqn (cn (R p c)) 0 = false) :
    GsQ R0 (gsI (fun i => R (Q.swp r p i)) r c (iv (R p c))) M W (c + 1) (r + 1) (upS (upS A c (-1)) c ((r : Nat) : Int)) := by
  haveI := LN_nz
  have hu : zR R p c * zq LN (iv (R p c)) = 1 := zq_ivm hrl hnz
  have hz : ∀ i j, zR (gsI (fun i => R (Q.swp r p i)) r c (iv (R p c))) i j = Q.gst (zR (fun i => R (Q.swp r p i))) r c (zq LN (iv (R p c))) i j := zR_gsI _ r c _
  have hu2 : (fun i => zR R (Q.swp r p i)) r c * zq LN (iv (R p c)) = 1 := by
    show zR R (Q.swp r p r) c * _ = 1
    rw [swp_c]; exact hu
  have e : upS (upS A c (-1)) c ((r : Nat) : Int) = fun k => if k = c then ((r : Nat) : Int) else A k := by
    funext k
    unfold upS
    by_cases a : k = c
    · rw [if_pos a, if_pos a]
    · rw [if_neg a, if_neg a, if_neg a]
  refine ⟨?_, fun v => ?_⟩
  · rw [e]
    exact gi_congr (fun i j _ => (hz i j).symm) (h.1.step hrp hp hu)
  · rw [sol_congr (fun i j _ => hz i j) v]
    refine Iff.trans (Q.gst_sol (show r < M by omega) hu2 v) (Iff.trans (Q.swp_sol (R := zR R) (W := W) (show r < M by omega) hp v) (h.2 v))
/-- What solved answers. -/
def SoP (R : Nat → Nat → Int) (M W base : Nat) (w' : World) (x : Value) : Prop := haveI := LN_nz;
  (x = .tuple #[.slice none 0 0, .bool false] ∧ ∀ v : Nat → Fin LN, ¬ Q.Sol (zR R) M W v) ∨
  ∃ (g : Nat) (u : Nat → Int), x = .tuple #[.slice (some ⟨g, 0, none⟩) W W, .bool true] ∧ base ≤ g ∧ Sb w' g W u ∧ (∀ j, j < W → RL (u j)) ∧ Q.Sol (zR R) M W (fun j => zq LN (u j))
/-- The answer's numbers. -/
def oF (R : Nat → Nat → Int) (A : Nat → Int) (W i : Nat) : Nat → Int := fun j => if j < i then (if A j < 0 then 0 else R (A j).toNat W) else 0
/-- Whether a row was found. -/
def FdP (R : Nat → Nat → Int) (c r M : Nat) (v : Value) (i : Nat) : Prop := (v = .int .i64 (-1) ∧ ∀ j, r ≤ j → j < i → R j c = 0) ∨ ∃ p : Nat, v = .int .i64 (p : Int) ∧ r ≤ p ∧ p < M ∧ ¬ R p c = 0
end Go.Proofs.YtoafcaieifjoiaaGreat
