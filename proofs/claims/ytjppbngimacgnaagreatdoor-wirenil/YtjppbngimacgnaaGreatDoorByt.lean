/- Bytes: in a block, as a slice, as a slice of the call's own; copy, append, make. Of no package. -/
import Derived.Test.YtjppbngimacgnaaGreatDoorS
import Derived.Test.YtjppbngimacgnaaGreatDoorBsI
import Derived.Laws.CopyOwn
import Derived.Laws.AppendOwnNone
import Derived.Deep.DeepAppendWide
import Derived.Deep.MidRow
import Derived.Laws.MakeOwn
set_option linter.unusedVariables false
set_option linter.unusedSimpArgs false
set_option linter.unnecessarySimpa false
namespace Go.Proofs.YtjppbngimacgnaaGreatDoor
open Go.RowKit

/-! ### Bytes within a block -/
theorem seg_get (pre : Array Value) (N : Nat) (t : Nat → Nat) (post : Array Value) (i : Nat) :
    (pre ++ (yC N t ++ post))[i]? = if i < pre.size then pre[i]? else if i - pre.size < N then some (.int .u8 (t (i - pre.size))) else post[i - pre.size - N]? := by
  by_cases h : i < pre.size
  · rw [if_pos h, Array.getElem?_append_left h]
  · rw [if_neg h, Array.getElem?_append_right (by omega)]
    by_cases h2 : i - pre.size < N
    · rw [if_pos h2, Array.getElem?_append_left (by rw [yC_size]; exact h2), yC_get _ _ _ h2]
    · rw [if_neg h2, Array.getElem?_append_right (by rw [yC_size]; omega), yC_size]
theorem seg_size (pre : Array Value) (N : Nat) (t : Nat → Nat) (post : Array Value) : (pre ++ (yC N t ++ post)).size = pre.size + (N + post.size) := by simp [yC_size]
/-- n bytes f laid over t at off. -/
def lay (t : Nat → Nat) (off n : Nat) (f : Nat → Nat) : Nat → Nat := fun j => if off ≤ j ∧ j < off + n then f (j - off) else t j
def yL (n : Nat) (f : Nat → Nat) : List Value := (List.range n).map fun i => Value.int .u8 (f i)
theorem yL_len (n : Nat) (f : Nat → Nat) : (yL n f).length = n := by simp [yL]
theorem yL_get (n : Nat) (f : Nat → Nat) (i : Nat) (h : i < n) : (yL n f)[i]? = some (.int .u8 (f i)) := by simp [yL, h]
theorem yL_some (n : Nat) (f : Nat → Nat) (i : Nat) (v : Value) (h : (yL n f)[i]? = some v) : i < n ∧ v = .int .u8 (f i) := by
  by_cases hi : i < n
  · rw [yL_get n f i hi] at h; simp at h; exact ⟨hi, h.symm⟩
  · rw [List.getElem?_eq_none (by rw [yL_len]; omega)] at h; simp at h
theorem yL_one (n : Nat) (f : Nat → Nat) : ∀ v ∈ yL n f, v.oneCell' = true := by
  intro v hv
  simp [yL] at hv
  obtain ⟨i, _, rfl⟩ := hv
  rfl
theorem yC_one (n : Nat) (f : Nat → Nat) : (yC n f).all (·.oneCell') = true := by simp [yC, Value.oneCell']
theorem vC_one (n : Nat) (f : Nat → Nat) : (vC n f).all (·.oneCell') = true := by simp [vC, Value.oneCell']
theorem lay_row (pre : Array Value) (N : Nat) (t : Nat → Nat) (post : Array Value) (off n : Nat) (f : Nat → Nat) (h : off + n ≤ N) :
    ((pre ++ (yC N t ++ post)).toList.take (pre.size + off) ++ (yL n f ++ (pre ++ (yC N t ++ post)).toList.drop (pre.size + off + n))).toArray = pre ++ (yC N (lay t off n f) ++ post) := by
  obtain ⟨cur, hcur⟩ : ∃ c, c = pre ++ (yC N t ++ post) := ⟨_, rfl⟩
  have hz : cur.size = pre.size + (N + post.size) := by rw [hcur, seg_size]
  have hl : cur.toList.length = cur.size := Array.length_toList
  rw [← hcur]
  apply Array.ext_getElem?
  intro i
  rw [seg_get, List.getElem?_toArray]
  by_cases h1 : i < pre.size + off
  · rw [List.getElem?_append_left (by rw [List.length_take]; omega), List.getElem?_take_of_lt h1, Array.getElem?_toList, hcur, seg_get]
    by_cases h2 : i < pre.size
    · rw [if_pos h2, if_pos h2]
    · rw [if_neg h2, if_neg h2, if_pos (by omega), if_pos (by omega)]
      unfold lay
      rw [if_neg (by omega)]
  · have ht : (cur.toList.take (pre.size + off)).length = pre.size + off := by rw [List.length_take]; omega
    rw [List.getElem?_append_right (by omega), ht]
    by_cases h2 : i < pre.size + off + n
    · rw [List.getElem?_append_left (by rw [yL_len]; omega), yL_get _ _ _ (by omega), if_neg (by omega), if_pos (by omega)]
      unfold lay
      rw [if_pos (by omega), show i - (pre.size + off) = i - pre.size - off from by omega]
    · rw [List.getElem?_append_right (by rw [yL_len]; omega), yL_len, List.getElem?_drop, Array.getElem?_toList, hcur, seg_get,
        show pre.size + off + n + (i - (pre.size + off) - n) = i from by omega]
      have h5 : ¬ i < pre.size := by omega
      simp only [if_neg h5]
      by_cases h3 : i - pre.size < N
      · rw [if_pos h3, if_pos h3]
        unfold lay
        rw [if_neg (by omega)]
      · rw [if_neg h3, if_neg h3]
theorem lay_zero (t : Nat → Nat) (off : Nat) (f : Nat → Nat) : lay t off 0 f = t := by
  funext j
  unfold lay
  rw [if_neg (by omega)]
theorem add_cell {w : World} {g o j : Nat} {v : Option Value} (h : w.cell? ⟨g, o + j, none⟩ = v) : w.cell? ((⟨g, o, none⟩ : Addr).add j) = v := by
  unfold Addr.add
  split
  · next e => subst e; simpa using h
  · exact h
/-- copy of bytes into a block's own bytes. -/
theorem copy_y {P : Program} {w : World} {ops : Array Oper} {rest : List Oper} {o : Oper} {a : Act} {Q : Exit → Act → World → Prop} (hgd : o.guard = none) (d s : Operand) (dT sT : TypeId)
    (ho : o.op = .call { callee := .builtin .copy, args := #[d, s], argTypes := #[dT, sT] }) (elem : TypeId) (hu : P.underlying dT = some (.slice elem)) (hsz : (P.info? elem).map (·.size) = some 1)
    (g at' dLen dCap : Nat) (sp : Option Addr) (sLen sCap : Nat) (hd : a.eval d = .slice (some ⟨g, at', none⟩) dLen dCap) (hs : a.eval s = .slice sp sLen sCap)
    (pre : Array Value) (N : Nat) (t : Nat → Nat) (post : Array Value) (T : TypeId) (hg : Blk w g (pre ++ (yC N t ++ post)) T) (off n : Nat) (f : Nat → Nat) (hat : 0 < n → at' = pre.size + off) (hn : n = Nat.min sLen dLen)
    (hsrc : 0 < n → ∃ gs os, sp = some ⟨gs, os, none⟩ ∧ ∀ j, j < n → w.cell? ⟨gs, os + j, none⟩ = some (.int .u8 (f j))) (hfit : off + n ≤ N)
    (h : ∀ w', Blk w' g (pre ++ (yC N (lay t off n f) ++ post)) T → Chg w w' [g] → wpList P ops Q rest (a.put o.dst (goInt n)) w') : wpList P ops Q (o :: rest) a w := by
  by_cases h0 : n = 0
  · subst h0
    refine wpList_copy_nothing hgd d s dT sT ho elem hu hsz _ _ _ _ _ _ hd hs hn.symm ?_
    exact h w (by rw [lay_zero]; exact hg) (Chg.refl w _)
  · obtain ⟨gs, os, rfl, hc⟩ := hsrc (by omega)
    obtain rfl := hat (by omega)
    have hk := wpList_copy_own (P := P) (w := w) (ops := ops) (rest := rest) (o := o) (a := a) (Q := Q) hgd d s dT sT ho elem hu hsz g (pre.size + off) dLen dCap ⟨gs, os, none⟩ sLen sCap hd hs _ T hg (yL n f) (by rw [yL_len]; exact hn)
      (fun j v hj => by obtain ⟨h1, rfl⟩ := yL_some n f j v hj; exact add_cell (hc j h1)) (by rw [yL_len, seg_size]; omega) (yL_one n f)
    rw [yL_len, lay_row pre N t post off n f hfit] at hk
    exact hk (h _ (hg.setRow _) ⟨rfl, rfl, rfl, by simp, fun k hk hl => setRow_other _ _ _ _ (by simpa using hl)⟩)

/-- A slice of n bytes f. -/
def Sl (w : World) (v : Value) (n : Nat) (f : Nat → Nat) : Prop := (n = 0 ∧ v = .slice none 0 0) ∨ ∃ g o cap, v = .slice (some ⟨g, o, none⟩) n cap ∧ n ≤ cap ∧ cap ≤ 9223372036854775807 ∧ Bs w g o n f
/-- It lies in none of these blocks. -/
def Off (v : Value) (l : List Nat) : Prop := ∀ g o n c, v = .slice (some ⟨g, o, none⟩) n c → ¬ g ∈ l
theorem Sl.chg {w w' : World} {v : Value} {n : Nat} {f : Nat → Nat} {ch : List Nat} (h : Sl w v n f) (hc : Chg w w' ch) (ho : Off v ch) : Sl w' v n f := by
  rcases h with h | ⟨g, o, cap, rfl, h1, h2, h3⟩
  · exact Or.inl h
  · exact Or.inr ⟨g, o, cap, rfl, h1, h2, h3.chg hc (ho g o n cap rfl)⟩
theorem Sl.new {w : World} {v : Value} {n : Nat} {f : Nat → Nat} (h : Sl w v n f) (l : List Nat) (hl : ∀ i ∈ l, w.heap.size ≤ i) : Off v l := by
  intro g o m c he hg
  rcases h with h | ⟨g', o', cap, h0, h1, h2, h3⟩
  · rw [he] at h
    exact absurd h.2 (by simp)
  · have q1 := h3.lt
    have q2 := hl g hg
    rw [he] at h0
    have e : g = g' := by
      simp only [Value.slice.injEq, Option.some.injEq, Addr.mk.injEq] at h0
      exact h0.1.1
    omega
theorem Off.nil (v : Value) : Off v [] := fun g o n c _ h => by simp at h
theorem cat_zero (t f : Nat → Nat) : cat t 0 f = f := by funext j; unfold cat; rw [if_neg (by omega), Nat.sub_zero]
/-- v is a slice of the call's own (in a block from base on) with n bytes f. -/
def Own (w : World) (base : Nat) (v : Value) (n : Nat) (f : Nat → Nat) : Prop := w.ownsRow base 5 1 v n (yL n f) ∧ ∀ i, i < n → f i < 256
theorem Own.nil (w : World) (base : Nat) (f : Nat → Nat) : Own w base (.slice none 0 0) 0 f := ⟨World.ownsRow_nil w base _ _, fun i hi => by omega⟩
theorem Own.sl {w : World} {base : Nat} {v : Value} {n : Nat} {f : Nat → Nat} (h : Own w base v n f) : Sl w v n f := by
  obtain ⟨⟨_, h1⟩, hb⟩ := h
  rcases h1 with ⟨rfl, rfl⟩ | ⟨g, cap, cur, rfl, hg, hh, hc, hm, hs, ht⟩
  · exact Or.inl ⟨rfl, rfl⟩
  · refine Or.inr ⟨g, 0, cap, rfl, hc, by simpa [maxLen] using hm, (Array.getElem?_eq_some_iff.1 hh).1, hb, fun i hi => ?_⟩
    have e := congrArg (fun l => l[i]?) ht
    simp only [Nat.mul_one] at e
    rw [List.getElem?_take_of_lt hi, yL_get _ _ _ hi, Array.getElem?_toList] at e
    simp [World.cell?, hh, e]
theorem Own.off {w : World} {base : Nat} {v : Value} {n : Nat} {f : Nat → Nat} (h : Own w base v n f) (l : List Nat) (hl : ∀ i ∈ l, i < base) : Off v l := by
  obtain ⟨⟨_, h1⟩, _⟩ := h
  intro g o m c he hg
  rcases h1 with ⟨h1, _⟩ | ⟨g', cap, cur, h1, hg', _⟩
  · rw [h1] at he; simp at he
  · rw [h1] at he
    simp only [Value.slice.injEq, Option.some.injEq, Addr.mk.injEq] at he
    have := hl g hg
    omega
/-- What a slice of the call's own may have turned. -/
def ob (v : Value) : List Nat := v.ownBlock.toList
theorem Chg.grown {w w' : World} {v : Value} (h : w.grownBy w' v.ownBlock) : Chg w w' (ob v) :=
  ⟨h.os, h.tape, h.output, h.size, fun k hk hl => h.block k hk (fun e => hl (by unfold ob; rw [← e]; simp))⟩
theorem Own.chg {w w' : World} {base : Nat} {v : Value} {n : Nat} {f : Nat → Nat} {l : List Nat} (h : Own w base v n f) (hc : Chg w w' l) (ho : ∀ k ∈ ob v, ¬ k ∈ l) : Own w' base v n f := by
  obtain ⟨⟨h0, h1⟩, h2⟩ := h
  refine ⟨⟨h0, ?_⟩, h2⟩
  rcases h1 with h1 | ⟨g, cap, cur, rfl, hg, hh, hr⟩
  · exact Or.inl h1
  · refine Or.inr ⟨g, cap, cur, rfl, hg, ?_, hr⟩
    rw [hc.block g (Array.getElem?_eq_some_iff.1 hh).1 (ho g (by simp [ob, Value.ownBlock]))]
    exact hh
theorem Own.ob_ge {w : World} {base : Nat} {v : Value} {n : Nat} {f : Nat → Nat} (h : Own w base v n f) : ∀ k ∈ ob v, base ≤ k ∧ k < w.heap.size := by
  intro k hk
  exact h.1.lt k (by unfold ob at hk; cases hq : v.ownBlock with
    | none => rw [hq] at hk; simp at hk
    | some x => rw [hq] at hk; simp at hk; rw [hk])
theorem Own.form {w : World} {base : Nat} {v : Value} {n : Nat} {f : Nat → Nat} (h : Own w base v n f) (hn : 0 < n) :
    ∃ g cap, v = .slice (some ⟨g, 0, none⟩) n cap ∧ base ≤ g ∧ n ≤ cap ∧ cap ≤ 9223372036854775807 ∧ Bs w g 0 n f := by
  have hs := h.sl
  obtain ⟨⟨_, h1⟩, _⟩ := h
  rcases h1 with ⟨_, h1⟩ | ⟨g, cap, cur, rfl, hg, hh, hc, hm, _⟩
  · omega
  · refine ⟨g, cap, rfl, hg, hc, by simpa [maxLen] using hm, ?_⟩
    rcases hs with ⟨h0, _⟩ | ⟨g', o', cap', he, _, _, hb⟩
    · omega
    · simp only [Value.slice.injEq, Option.some.injEq, Addr.mk.injEq] at he
      obtain ⟨⟨rfl, rfl, _⟩, _⟩ := he
      exact hb
theorem Own.base {w : World} {base base' : Nat} {v : Value} {n : Nat} {f : Nat → Nat} (h : Own w base v n f) (hb : base' ≤ base) : Own w base' v n f := by
  obtain ⟨⟨h0, h1⟩, h2⟩ := h
  refine ⟨⟨h0, ?_⟩, h2⟩
  rcases h1 with h1 | ⟨g, cap, cur, e, hg, hr⟩
  · exact Or.inl h1
  · exact Or.inr ⟨g, cap, cur, e, Nat.le_trans hb hg, hr⟩
theorem u8Row : ∃ i, Tryz.prog.info? 5 = some i ∧ i.zero = some (.int .u8 0) ∧ i.size = 1 ∧ i.bytes = 1 := by
  have h : (Tryz.prog.info? 5).map (fun i => (i.zero, i.size, i.bytes)) = some (some (.int .u8 0), 1, 1) := by kernel_rfl
  cases hi : Tryz.prog.info? 5 with
  | none => rw [hi] at h; simp at h
  | some i => rw [hi] at h; simp at h; exact ⟨i, rfl, h.1, h.2.1, h.2.2⟩
theorem yL_cat (n m : Nat) (f g : Nat → Nat) : yL n f ++ yL m g = yL (n + m) (cat f n g) := by
  apply List.ext_getElem?
  intro i
  by_cases h : i < n
  · rw [List.getElem?_append_left (by rw [yL_len]; exact h), yL_get _ _ _ h, yL_get _ _ _ (by omega)]
    unfold cat
    rw [if_pos h]
  · rw [List.getElem?_append_right (by rw [yL_len]; omega), yL_len]
    by_cases h2 : i < n + m
    · rw [yL_get _ _ _ (by omega), yL_get _ _ _ h2]
      unfold cat
      rw [if_neg h]
    · rw [List.getElem?_eq_none (by rw [yL_len]; omega), List.getElem?_eq_none (by rw [yL_len]; omega)]
/-- append(s, x...) of bytes, s the call's own. -/
theorem append_y {w : World} {ops : Array Oper} {rest : List Oper} {o : Oper} {a : Act} {Q : Exit → Act → World → Prop} (hgd : o.guard = none) (s x : Operand)
    (ho : o.op = .call { callee := .builtin .append, args := #[s, x], argTypes := #[24, 24] })
    (base : Nat) (vs vx : Value) (n m : Nat) (f g : Nat → Nat) (hs : a.eval s = vs) (hx : a.eval x = vx) (hown : Own w base vs n f) (hsl : Sl w vx m g) (hnm : n + m ≤ 211106232532992) (hbase : base ≤ w.heap.size)
    (h : ∀ v' w', Own w' base v' (n + m) (cat f n g) → Chg w w' (ob vs) → wpList Tryz.prog ops Q rest (a.put o.dst v') w') : wpList Tryz.prog ops Q (o :: rest) a w := by
  obtain ⟨i, hi, hz, h1, h2⟩ := u8Row
  rcases hsl with ⟨rfl, rfl⟩ | ⟨gx, ox, cap, rfl, hc1, hc2, hb⟩
  · refine wpList_append_own_none hgd s x 24 ho base 5 i 1 Tryz.underlying24 hi vs n (yL n f) hs hown.1 hx ?_
    refine h vs w ⟨?_, fun j hj => ?_⟩ (Chg.refl w _)
    · have e : yL (n + 0) (cat f n g) = yL n f := by rw [← yL_cat]; simp [yL]
      rw [e]
      exact hown.1
    · unfold cat
      rw [if_pos (by omega)]
      exact hown.2 j (by omega)
  · refine wpList_append_own_wide w hgd s x 24 ho base 5 i (.int .u8 0) 1 1 Tryz.underlying24 hi hz h1 h2 rfl (by omega) vs n (yL n f) hs hown.1 ⟨gx, ox, none⟩ m cap (yL m g) hx (by rw [yL_len]; omega)
      (fun j u hj => by obtain ⟨hj1, rfl⟩ := yL_some m g j u hj; exact add_cell (hb.cell j hj1)) (yL_one m g) (by simp [maxLen]; omega) (by omega) hbase ?_
    intro v' w' h3 h4 _
    rw [yL_cat] at h3
    refine h v' w' ⟨h3, fun j hj => ?_⟩ (Chg.grown h4)
    unfold cat
    by_cases hj2 : j < n
    · rw [if_pos hj2]; exact hown.2 j hj2
    · rw [if_neg hj2]; exact hb.bd _ (by omega)

theorem made_y (n : Nat) : madeCells #[.int .u8 0] n = yC n fun _ => 0 := by
  unfold madeCells
  apply Array.ext_getElem?
  intro i
  by_cases h : i < n
  · rw [yC_get _ _ _ h]
    simp [h, Nat.mod_one]
  · rw [Array.getElem?_eq_none (by simp; omega), Array.getElem?_eq_none (by rw [yC_size]; omega)]
theorem make_y (r : Nat) (hr : r < 128) (W : World) : (Instr.makeSlice 24 (.int .u64 (r : Int)) (.int .u64 (r : Int))).run Tryz.prog W = .ok (.slice (some ⟨W.heap.size, 0, none⟩) r r) (W.alloc (.cells (yC r fun _ => 0) 5)) := by
  obtain ⟨i, hi, hz, h1, h2⟩ := u8Row
  have h := run_make (P := Tryz.prog) W 24 5 i (.int .u8 0) Tryz.underlying24 hi hz .u64 .u64 (r : Int) (r : Int) (by omega) (by omega) (by rw [h2]; omega) (by omega)
  rw [h, h1, Int.toNat_natCast, Nat.mul_one]
  show Result.ok _ (W.alloc (.cells (madeCells #[.int .u8 0] r) 5)) = _
  rw [made_y]
end Go.Proofs.YtjppbngimacgnaaGreatDoor
