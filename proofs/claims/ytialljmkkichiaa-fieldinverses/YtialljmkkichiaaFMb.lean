/- Layer 1, for FieldInverses: Rws, GvG, GvFe, GvFes. -/
import Derived.Test.YtialljmkkichiaaByt
import Derived.Deep.AppendLies
import Derived.Test.YtialljmkkichiaaFMa
set_option linter.unusedVariables false
set_option linter.unusedSimpArgs false
set_option linter.unnecessarySimpa false
namespace Go.Proofs.Ytialljmkkichiaa
section
open Go.RowKit

/-- m rows F of s cells each, one behind the other. -/
def rL (s m : Nat) (F : Nat → List Value) : List Value := (List.range (m * s)).map fun k => ((F (k / s))[k % s]?).getD (.int .u8 0)
/-- Each of the m rows has s cells, and each is one. -/
def Rok (s m : Nat) (F : Nat → List Value) : Prop := ∀ i, i < m → (F i).length = s ∧ ∀ v ∈ F i, v.oneCell' = true
theorem rL_len (s m : Nat) (F : Nat → List Value) : (rL s m F).length = m * s := by simp [rL]
theorem row_lt {s m i j : Nat} (hi : i < m) (hj : j < s) : i * s + j < m * s := by
  have h : (i + 1) * s ≤ m * s := Nat.mul_le_mul_right s hi
  rw [Nat.add_mul, Nat.one_mul] at h
  omega
theorem row_div {s i j : Nat} (hj : j < s) : (i * s + j) / s = i := by
  rw [Nat.add_comm, Nat.add_mul_div_right _ _ (by omega), Nat.div_eq_of_lt hj, Nat.zero_add]
theorem row_mod {s i j : Nat} (hj : j < s) : (i * s + j) % s = j := by
  rw [Nat.add_comm, Nat.add_mul_mod_self_right, Nat.mod_eq_of_lt hj]
theorem row_at {s m k : Nat} (h : k < m * s) : k / s < m ∧ k % s < s ∧ k = k / s * s + k % s := by
  have hs : 0 < s := by
    rcases Nat.eq_zero_or_pos s with rfl | h0
    · simp at h
    · exact h0
  refine ⟨(Nat.div_lt_iff_lt_mul hs).2 h, Nat.mod_lt _ hs, ?_⟩
  have := Nat.div_add_mod k s
  rw [Nat.mul_comm] at this
  omega
theorem rL_get {s m : Nat} {F : Nat → List Value} (hF : Rok s m F) {i j : Nat} (hi : i < m) (hj : j < s) : (rL s m F)[i * s + j]? = (F i)[j]? := by
  have hl := (hF i hi).1
  rw [rL, List.getElem?_map, List.getElem?_range (row_lt hi hj), Option.map_some, row_div hj, row_mod hj, List.getElem?_eq_getElem (by omega)]
  rfl
theorem rL_at {s m : Nat} {F : Nat → List Value} (hF : Rok s m F) {k : Nat} (h : k < m * s) : (rL s m F)[k]? = (F (k / s))[k % s]? := by
  obtain ⟨h1, h2, h3⟩ := row_at h
  have := rL_get hF h1 h2
  rwa [← h3] at this
theorem rL_congr {s m : Nat} {F G : Nat → List Value} (h : ∀ i, i < m → F i = G i) : rL s m F = rL s m G := by
  apply List.ext_getElem?
  intro k
  by_cases hk : k < m * s
  · rw [rL, rL, List.getElem?_map, List.getElem?_map, List.getElem?_range hk, Option.map_some, Option.map_some, h _ (row_at hk).1]
  · rw [List.getElem?_eq_none (by rw [rL_len]; omega), List.getElem?_eq_none (by rw [rL_len]; omega)]
theorem rL_one {s m : Nat} {F : Nat → List Value} (hF : Rok s m F) : ∀ v ∈ rL s m F, v.oneCell' = true := by
  intro v hv
  obtain ⟨k, hk, he⟩ := List.getElem_of_mem hv
  have hk' : k < m * s := by rw [rL_len] at hk; exact hk
  have h2 : (rL s m F)[k]? = some v := by rw [List.getElem?_eq_getElem hk, he]
  rw [rL_at hF hk'] at h2
  exact (hF _ (row_at hk').1).2 v (List.mem_of_getElem? h2)
/-- n rows F, and behind them G. -/
def catR (F : Nat → List Value) (n : Nat) (G : Nat → List Value) : Nat → List Value := fun i => if i < n then F i else G (i - n)
theorem rL_cat (s n m : Nat) (F G : Nat → List Value) : rL s n F ++ rL s m G = rL s (n + m) (catR F n G) := by
  apply List.ext_getElem?
  intro k
  have e : (n + m) * s = n * s + m * s := Nat.add_mul n m s
  by_cases h : k < n * s
  · rw [List.getElem?_append_left (by rw [rL_len]; exact h), rL, rL, List.getElem?_map, List.getElem?_map, List.getElem?_range h, List.getElem?_range (by omega), Option.map_some, Option.map_some]
    unfold catR
    rw [if_pos (row_at h).1]
  · rw [List.getElem?_append_right (by rw [rL_len]; omega), rL_len]
    by_cases h2 : k < (n + m) * s
    · obtain ⟨h3, h4, h5⟩ := row_at h2
      have hn : ¬ k / s < n := fun hc => h (by have := row_lt hc h4; omega)
      have e2 : k - n * s = (k / s - n) * s + k % s := by
        rw [Nat.sub_mul]
        have : n * s ≤ k / s * s := Nat.mul_le_mul_right s (by omega)
        omega
      rw [rL, rL, List.getElem?_map, List.getElem?_map, List.getElem?_range (by omega), List.getElem?_range h2, Option.map_some, Option.map_some, e2, row_div h4, row_mod h4]
      unfold catR
      rw [if_neg hn]
    · rw [List.getElem?_eq_none (by rw [rL_len]; omega), List.getElem?_eq_none (by rw [rL_len]; omega)]
theorem Rok.cat {s n m : Nat} {F G : Nat → List Value} (hF : Rok s n F) (hG : Rok s m G) : Rok s (n + m) (catR F n G) := by
  intro i hi
  unfold catR
  by_cases h : i < n
  · rw [if_pos h]; exact hF i h
  · rw [if_neg h]; exact hG _ (by omega)
theorem Rok.sub {s n m : Nat} {F : Nat → List Value} (hF : Rok s n F) (h : m ≤ n) : Rok s m F := fun i hi => hF i (by omega)
/-- The row at i turned. -/
def upR (F : Nat → List Value) (i : Nat) (x : List Value) : Nat → List Value := fun j => if j = i then x else F j
theorem Rok.up {s m : Nat} {F : Nat → List Value} (hF : Rok s m F) (i : Nat) {x : List Value} (hx : x.length = s) (h1 : ∀ v ∈ x, v.oneCell' = true) : Rok s m (upR F i x) := by
  intro j hj
  unfold upR
  by_cases h : j = i
  · rw [if_pos h]; exact ⟨hx, h1⟩
  · rw [if_neg h]; exact hF j hj

/-! ### Cells set one by one -/
def setL (C : Array Value) : Nat → List Value → Array Value
  | _, [] => C
  | o, v :: r => setL (C.setIfInBounds o v) (o + 1) r
theorem setL_size (C : Array Value) (o : Nat) (vs : List Value) : (setL C o vs).size = C.size := by
  induction vs generalizing C o with
  | nil => rfl
  | cons v r ih => rw [setL, ih]; simp
theorem setL_get (C : Array Value) (o : Nat) (vs : List Value) (k : Nat) : (setL C o vs)[k]? = if o ≤ k ∧ k < o + vs.length ∧ k < C.size then vs[k - o]? else C[k]? := by
  induction vs generalizing C o with
  | nil => rw [setL, if_neg (by simp; omega)]
  | cons v r ih =>
    rw [setL, ih, Array.size_setIfInBounds]
    by_cases h : o + 1 ≤ k ∧ k < o + 1 + r.length ∧ k < C.size
    · rw [if_pos h, if_pos (by simp; omega), show k - o = (k - (o + 1)) + 1 from by omega, List.getElem?_cons_succ]
    · rw [if_neg h]
      by_cases h2 : o = k
      · subst h2
        by_cases h3 : o < C.size
        · rw [if_pos (by simp; omega), Nat.sub_self, Array.getElem?_setIfInBounds_self_of_lt h3]
          rfl
        · rw [if_neg (by omega), Array.getElem?_eq_none (by simp; omega), Array.getElem?_eq_none (by omega)]
      · rw [if_neg (by simp; omega), Array.getElem?_setIfInBounds_ne h2]
theorem Blk.setCells {w : World} {b : Nat} {C : Array Value} {T : TypeId} (h : Blk w b C T) (o : Nat) (vs : List Value) : Blk (w.setCells b o vs) b (setL C o vs) T := by
  induction vs generalizing w C o with
  | nil => exact h
  | cons v r ih => exact ih (h.setCell o v) (o + 1)
theorem Chg.setCellsIn {a w : World} {l : List Nat} {b : Nat} (h : Chg a w l) (hb : b ∈ l) (o : Nat) (vs : List Value) : Chg a (w.setCells b o vs) l := by
  induction vs generalizing w o with
  | nil => exact h
  | cons v r ih => exact ih (h.setIn hb o v) (o + 1)
theorem Chg.setCellsNew {a w : World} {l : List Nat} {b : Nat} (h : Chg a w l) (hb : a.heap.size ≤ b) (o : Nat) (vs : List Value) : Chg a (w.setCells b o vs) l := by
  induction vs generalizing w o with
  | nil => exact h
  | cons v r ih => exact ih (h.setNew hb o v) (o + 1)
theorem Blk.there {w : World} {b : Nat} {C : Array Value} {T : TypeId} (h : Blk w b C T) {o n : Nat} (hn : o + n ≤ C.size) : w.there b o n := fun j hj =>
  ⟨by rw [h.cell, Array.getElem?_eq_getElem (by omega)]; rfl, h.frozen _⟩
theorem setL_row {s m : Nat} {F : Nat → List Value} (hF : Rok s m F) {i : Nat} (hi : i < m) {x : List Value} (hx : x.length = s) (h1 : ∀ v ∈ x, v.oneCell' = true) : setL (rL s m F).toArray (i * s) x = (rL s m (upR F i x)).toArray := by
  apply Array.ext_getElem?
  intro k
  rw [setL_get, List.size_toArray, rL_len, List.getElem?_toArray, List.getElem?_toArray]
  by_cases hk : k < m * s
  · obtain ⟨h2, h3, h4⟩ := row_at hk
    rw [rL_at (hF.up i hx h1) hk, rL_at hF hk]
    unfold upR
    by_cases h : k / s = i
    · rw [if_pos h, if_pos (by rw [h] at h4; omega), show k - i * s = k % s from by rw [h] at h4; omega]
    · rw [if_neg h, if_neg]
      rintro ⟨q1, q2, _⟩
      apply h
      obtain ⟨j, hj⟩ : ∃ j, k = i * s + j := ⟨k - i * s, by omega⟩
      subst hj
      exact row_div (by omega)
  · rw [if_neg (by omega), List.getElem?_eq_none (by rw [rL_len]; omega), List.getElem?_eq_none (by rw [rL_len]; omega)]
/-- A row stored at its place of a block of rows. -/
theorem Blk.setRw {w : World} {b s m : Nat} {F : Nat → List Value} {T : TypeId} (h : Blk w b (rL s m F).toArray T) (hF : Rok s m F) {i : Nat} (hi : i < m) {x : List Value} (hx : x.length = s) (h1 : ∀ v ∈ x, v.oneCell' = true) :
    Blk (w.setCells b (i * s) x) b (rL s m (upR F i x)).toArray T := by
  have h2 := h.setCells (i * s) x
  rwa [setL_row hF hi hx h1] at h2
theorem Blk.thereRw {w : World} {b s m : Nat} {F : Nat → List Value} {T : TypeId} (h : Blk w b (rL s m F).toArray T) {i : Nat} (hi : i < m) : w.there b (i * s) s := by
  refine h.there ?_
  rw [List.size_toArray, rL_len]
  have h : (i + 1) * s ≤ m * s := Nat.mul_le_mul_right s hi
  rw [Nat.add_mul, Nat.one_mul] at h
  omega
theorem Blk.rangeRw {w : World} {b s m : Nat} {F : Nat → List Value} {T : TypeId} (h : Blk w b (rL s m F).toArray T) (hF : Rok s m F) {i : Nat} (hi : i < m) : w.rangeAt b (i * s) (F i) := fun j v hv => by
  have hj : j < s := by have := (List.getElem?_eq_some_iff.1 hv).1; rw [(hF i hi).1] at this; exact this
  rw [h.cell, List.getElem?_toArray, rL_get hF hi hj, hv]
theorem made_r (z : Array Value) (s m : Nat) (hz : z.size = s) : madeCells z (m * s) = (rL s m fun _ => z.toList).toArray := by
  unfold madeCells
  apply Array.ext_getElem?
  intro k
  by_cases h : k < m * s
  · have h2 := (row_at h).2.1
    rw [Array.getElem?_map, Array.getElem?_range, if_pos h, Option.map_some, hz, List.getElem?_toArray, rL, List.getElem?_map, List.getElem?_range h, Option.map_some, Array.getElem?_toList]
    congr 1
    rw [Array.getElem?_eq_getElem (by omega)]
    simp [getElem!_pos, hz, h2]
  · rw [Array.getElem?_eq_none (by simp; omega), List.getElem?_toArray, List.getElem?_eq_none (by rw [rL_len]; omega)]

/-! ### Slices of rows -/
theorem rangeAt_chg {w w' : World} {g o : Nat} {cs : List Value} {l : List Nat} (h : w.rangeAt g o cs) (hg : g < w.heap.size) (hc : Chg w w' l) (hn : ¬ g ∈ l) : w'.rangeAt g o cs := fun j v hv => by
  rw [← h j v hv]
  simp only [World.cell?, hc.block g hg hn]
/-- A slice of N rows F of s cells each. -/
def Rl (w : World) (s : Nat) (v : Value) (N : Nat) (F : Nat → List Value) : Prop := Rok s N F ∧
  ((N = 0 ∧ v = .slice none 0 0) ∨ ∃ g o cap, v = .slice (some ⟨g, o, none⟩) N cap ∧ N ≤ cap ∧ cap ≤ 9223372036854775807 ∧ g < w.heap.size ∧ ∀ i, i < N → w.rangeAt g (o + i * s) (F i))
theorem Rl.chg {w w' : World} {s : Nat} {v : Value} {N : Nat} {F : Nat → List Value} {l : List Nat} (h : Rl w s v N F) (hc : Chg w w' l) (ho : Off v l) : Rl w' s v N F := by
  refine ⟨h.1, ?_⟩
  rcases h.2 with h2 | ⟨g, o, cap, rfl, h1, h2, h3, h4⟩
  · exact Or.inl h2
  · exact Or.inr ⟨g, o, cap, rfl, h1, h2, Nat.lt_of_lt_of_le h3 hc.size, fun i hi => rangeAt_chg (h4 i hi) h3 hc (ho g o N cap rfl)⟩
theorem Rl.form {w : World} {s : Nat} {v : Value} {N : Nat} {F : Nat → List Value} (h : Rl w s v N F) : ∃ p c, v = .slice p N c ∧ ∀ i, i < N → ∃ g o, p = some ⟨g, o, none⟩ ∧ g < w.heap.size ∧ w.rangeAt g (o + i * s) (F i) := by
  rcases h.2 with ⟨rfl, rfl⟩ | ⟨g, o, cap, rfl, h1, h2, h3, h4⟩
  · exact ⟨none, 0, rfl, fun i hi => by omega⟩
  · exact ⟨_, cap, rfl, fun i hi => ⟨g, o, rfl, h3, h4 i hi⟩⟩
theorem Rl.new {w : World} {s : Nat} {v : Value} {N : Nat} {F : Nat → List Value} (h : Rl w s v N F) (l : List Nat) (hl : ∀ i ∈ l, w.heap.size ≤ i) : Off v l := by
  intro g o n c he hg
  rcases h.2 with ⟨_, rfl⟩ | ⟨g', o', cap, rfl, h1, h2, h3, h4⟩
  · cases he
  · simp only [Value.slice.injEq, Option.some.injEq, Addr.mk.injEq] at he
    have := hl g hg
    omega
theorem Rl.cells {w : World} {s : Nat} {g o cap N : Nat} {F : Nat → List Value} (hF : Rok s N F) (h : ∀ i, i < N → w.rangeAt g (o + i * s) (F i)) : ∀ j u, (rL s N F)[j]? = some u → w.cell? ((⟨g, o, none⟩ : Addr).add j) = some u := by
  intro k u hk
  have hl : k < N * s := by have := (List.getElem?_eq_some_iff.1 hk).1; rwa [rL_len] at this
  obtain ⟨h1, h2, h3⟩ := row_at hl
  refine add_cell ?_
  rw [rL_at hF hl] at hk
  have := h (k / s) h1 (k % s) u hk
  rwa [Nat.add_assoc, ← h3] at this
/-- v is a slice of the call's own with n rows F. -/
def OwnR (w : World) (base : Nat) (T : TypeId) (s : Nat) (v : Value) (n : Nat) (F : Nat → List Value) : Prop := w.ownsRow base T s v n (rL s n F) ∧ Rok s n F
theorem OwnR.nil (w : World) (base : Nat) (T : TypeId) (s : Nat) (F : Nat → List Value) : OwnR w base T s (.slice none 0 0) 0 F := by
  refine ⟨?_, fun i hi => by omega⟩
  have e : rL s 0 F = [] := List.eq_nil_of_length_eq_zero (by rw [rL_len]; omega)
  rw [e]
  exact World.ownsRow_nil w base T s
theorem OwnR.rl {w : World} {base : Nat} {T : TypeId} {s : Nat} {v : Value} {n : Nat} {F : Nat → List Value} (h : OwnR w base T s v n F) : Rl w s v n F := by
  obtain ⟨⟨_, h1⟩, hF⟩ := h
  refine ⟨hF, ?_⟩
  rcases h1 with ⟨rfl, rfl⟩ | ⟨g, cap, cur, rfl, hg, hh, hc, hm, hs, ht⟩
  · exact Or.inl ⟨rfl, rfl⟩
  · refine Or.inr ⟨g, 0, cap, rfl, hc, by simpa [maxLen] using hm, (Array.getElem?_eq_some_iff.1 hh).1, fun i hi j u hu => ?_⟩
    have hj : j < s := by have := (List.getElem?_eq_some_iff.1 hu).1; rw [(hF i hi).1] at this; exact this
    have e := congrArg (fun l => l[i * s + j]?) ht
    rw [List.getElem?_take_of_lt (row_lt hi hj), rL_get hF hi hj, hu, Array.getElem?_toList] at e
    rw [Nat.zero_add]
    simp [World.cell?, hh, e]
theorem OwnR.chg {w w' : World} {base : Nat} {T : TypeId} {s : Nat} {v : Value} {n : Nat} {F : Nat → List Value} {l : List Nat} (h : OwnR w base T s v n F) (hc : Chg w w' l) (ho : ∀ k ∈ ob v, ¬ k ∈ l) : OwnR w' base T s v n F := by
  obtain ⟨⟨h0, h1⟩, h2⟩ := h
  refine ⟨⟨h0, ?_⟩, h2⟩
  rcases h1 with h1 | ⟨g, cap, cur, rfl, hg, hh, hr⟩
  · exact Or.inl h1
  · refine Or.inr ⟨g, cap, cur, rfl, hg, ?_, hr⟩
    rw [hc.block g (Array.getElem?_eq_some_iff.1 hh).1 (ho g (by simp [ob, Value.ownBlock]))]
    exact hh
theorem ownsRow_chg {w w' : World} {base : Nat} {T : TypeId} {s : Nat} {v : Value} {n : Nat} {xs : List Value} {l : List Nat} (h : w.ownsRow base T s v n xs) (hc : Chg w w' l) (ho : ∀ k ∈ ob v, ¬ k ∈ l) : w'.ownsRow base T s v n xs := by
  obtain ⟨h0, h1⟩ := h
  refine ⟨h0, ?_⟩
  rcases h1 with h1 | ⟨g, cap, cur, rfl, hg, hh, hr⟩
  · exact Or.inl h1
  · refine Or.inr ⟨g, cap, cur, rfl, hg, ?_, hr⟩
    rw [hc.block g (Array.getElem?_eq_some_iff.1 hh).1 (ho g (by simp [ob, Value.ownBlock]))]
    exact hh
theorem ownsRow_base {w : World} {base base' : Nat} {T : TypeId} {s : Nat} {v : Value} {n : Nat} {xs : List Value} (h : w.ownsRow base T s v n xs) (hb : base' ≤ base) : w.ownsRow base' T s v n xs := by
  obtain ⟨h0, h1⟩ := h
  refine ⟨h0, ?_⟩
  rcases h1 with h1 | ⟨g, cap, cur, e, hg, hr⟩
  · exact Or.inl h1
  · exact Or.inr ⟨g, cap, cur, e, Nat.le_trans hb hg, hr⟩
theorem ownsRow_cell {w : World} {base : Nat} {T : TypeId} {g n cap : Nat} {xs : List Value} (h : w.ownsRow base T 1 (.slice (some ⟨g, 0, none⟩) n cap) n xs) {j : Nat} {v : Value} (hj : xs[j]? = some v) : w.cell? ⟨g, j, none⟩ = some v := by
  have := h.cells (g := g) rfl j v hj
  rwa [Addr.add_mid, Nat.zero_add] at this
/-- append(s, x...) of rows, s the call's own, at least one row appended. -/
theorem run_append_r {P : Program} (w : World) (t ty e : TypeId) (i : TypeInfo) (z : Value) (s bytes : Nat) (ht : P.underlying t = some (.slice e)) (hi : P.info? e = some i) (hz : i.zero = some z)
    (hsize : i.size = s) (hby : i.bytes = bytes) (hzs : z.cells.size = s) (hsz : 0 < s) (base : Nat) (v x : Value) (n m : Nat) (F G : Nat → List Value) (hown : OwnR w base e s v n F) (hx : Rl w s x m G) (hm : 0 < m) (hbytes : (n + m) * bytes ≤ 140737488355328) (h63 : n + m ≤ 9223372036854775807) (hbase : base ≤ w.heap.size) :
    ∃ g cap w', (Builtin.append_ #[t, t] ty #[v, x]).run P w = .ok (.slice (some ⟨g, 0, none⟩) (n + m) cap) w' ∧ OwnR w' base e s (.slice (some ⟨g, 0, none⟩) (n + m) cap) (n + m) (catR F n G) ∧ Chg w w' (ob v) ∧ (v.ownBlock = some g ∨ g = w.heap.size) ∧ g < w'.heap.size := by
  rcases hx.2 with ⟨h0, _⟩ | ⟨gx, ox, cx, rfl, h1, h2, h3, h4⟩
  · omega
  · obtain ⟨g, cap, w', hr, q1, q2, q3, q4⟩ := run_append_lies (P := P) w t ty base e i z s bytes ht hi hz hsize hby hzs hsz v n (rL s n F) hown.1 ⟨gx, ox, none⟩ m cx (rL s m G) (rL_len s m G)
      (Rl.cells (cap := cx) hx.1 h4) (rL_one hx.1) hm (by simpa [maxLen] using h63) hbytes hbase _ rfl
    rw [rL_cat] at q1
    exact ⟨g, cap, w', hr, ⟨q1, hown.2.cat hx.1⟩, Chg.grown q2, q3, q4⟩
theorem wp_append_r {P : Program} {w : World} {o : Oper} {a : Act} {K : Act → World → Prop} {Q : Exit → Act → World → Prop} (so xo : Operand) (t : TypeId)
    (ho : o.op = .call { callee := .builtin .append, args := #[so, xo], argTypes := #[t, t] })
    (e : TypeId) (i : TypeInfo) (z : Value) (s bytes : Nat) (ht : P.underlying t = some (.slice e)) (hi : P.info? e = some i) (hz : i.zero = some z)
    (hsize : i.size = s) (hby : i.bytes = bytes) (hzs : z.cells.size = s) (hsz : 0 < s) (base : Nat) (v x : Value) (n m : Nat) (F G : Nat → List Value) (hs : a.eval so = v) (hxe : a.eval xo = x) (hown : OwnR w base e s v n F) (hx : Rl w s x m G) (hm : 0 < m) (hbytes : (n + m) * bytes ≤ 140737488355328) (h63 : n + m ≤ 9223372036854775807) (hbase : base ≤ w.heap.size)
    (h : ∀ g cap w', OwnR w' base e s (.slice (some ⟨g, 0, none⟩) (n + m) cap) (n + m) (catR F n G) → Chg w w' (ob v) → (v.ownBlock = some g ∨ g = w.heap.size) → g < w'.heap.size → K (a.put o.dst (.slice (some ⟨g, 0, none⟩) (n + m) cap)) w') : o.wp P a w K Q := by
  obtain ⟨g, cap, w', hr, q1, q2, q3, q4⟩ := run_append_r (P := P) w t o.type e i z s bytes ht hi hz hsize hby hzs hsz base v x n m F G hown hx hm hbytes h63 hbase
  unfold Oper.wp execOp
  simp only [ho, resolve, invoke, builtin, Sem.run_bind, Sem.run_pure, Result.andThen_ok, List.map_toArray, List.map_cons, List.map_nil, hs, hxe, hr]
  exact h g cap w' q1 q2 q3 q4
theorem wpList_append_r {P : Program} {w : World} {ops : Array Oper} {rest : List Oper} {o : Oper} {a : Act} {Q : Exit → Act → World → Prop} (hgd : o.guard = none) (so xo : Operand) (t : TypeId)
    (ho : o.op = .call { callee := .builtin .append, args := #[so, xo], argTypes := #[t, t] })
    (e : TypeId) (i : TypeInfo) (z : Value) (s bytes : Nat) (ht : P.underlying t = some (.slice e)) (hi : P.info? e = some i) (hz : i.zero = some z)
    (hsize : i.size = s) (hby : i.bytes = bytes) (hzs : z.cells.size = s) (hsz : 0 < s) (base : Nat) (v x : Value) (n m : Nat) (F G : Nat → List Value) (hs : a.eval so = v) (hxe : a.eval xo = x) (hown : OwnR w base e s v n F) (hx : Rl w s x m G) (hm : 0 < m) (hbytes : (n + m) * bytes ≤ 140737488355328) (h63 : n + m ≤ 9223372036854775807) (hbase : base ≤ w.heap.size)
    (h : ∀ g cap w', OwnR w' base e s (.slice (some ⟨g, 0, none⟩) (n + m) cap) (n + m) (catR F n G) → Chg w w' (ob v) → (v.ownBlock = some g ∨ g = w.heap.size) → g < w'.heap.size → wpList P ops Q rest (a.put o.dst (.slice (some ⟨g, 0, none⟩) (n + m) cap)) w') : wpList P ops Q (o :: rest) a w :=
  wpList_plain hgd fun _ hK => wp_append_r so xo t ho e i z s bytes ht hi hz hsize hby hzs hsz base v x n m F G hs hxe hown hx hm hbytes h63 hbase fun g cap w' q1 q2 q3 q4 => hK _ _ (h g cap w' q1 q2 q3 q4)
/-- A row stored at its place of a block of rows. -/
theorem wp_store_rw {P : Program} {w : World} {op : Oper} {a : Act} {K : Act → World → Prop} {Q : Exit → Act → World → Prop} (ty : TypeId) (x y : Operand) (ho : op.op = .store ty x y)
    (b s m i : Nat) (F : Nat → List Value) (xs : List Value) (T : TypeId) (hx : a.eval x = .pointer (some ⟨b, i * s, none⟩)) (hy : a.eval y = .agg xs.toArray) (hb : Blk w b (rL s m F).toArray T) (hF : Rok s m F) (hi : i < m) (hl : xs.length = s) (h1 : ∀ v ∈ xs, v.oneCell' = true)
    (hinfo : (P.info? ty).map (·.size) = some s) (h : ∀ w', Blk w' b (rL s m (upR F i xs)).toArray T → Chg w w' [b] → K (a.put op.dst undef) w') : op.wp P a w K Q := by
  refine wp_store_mid ty x y ho b (i * s) xs.toArray hx hy ?_ ?_ ?_ ?_
  · rw [List.size_toArray, hl]; exact hb.thereRw hi
  · rw [List.size_toArray, hl]; exact hinfo
  · exact all_oneCell_toArray h1
  · exact h _ (hb.setRw hF hi hl h1) ((Chg.refl w [b]).setCellsIn (by simp) (i * s) xs)
theorem wpList_store_rw {P : Program} {w : World} {ops : Array Oper} {rest : List Oper} {op : Oper} {a : Act} {Q : Exit → Act → World → Prop} (hgd : op.guard = none) (ty : TypeId) (x y : Operand) (ho : op.op = .store ty x y)
    (b s m i : Nat) (F : Nat → List Value) (xs : List Value) (T : TypeId) (hx : a.eval x = .pointer (some ⟨b, i * s, none⟩)) (hy : a.eval y = .agg xs.toArray) (hb : Blk w b (rL s m F).toArray T) (hF : Rok s m F) (hi : i < m) (hl : xs.length = s) (h1 : ∀ v ∈ xs, v.oneCell' = true)
    (hinfo : (P.info? ty).map (·.size) = some s) (h : ∀ w', Blk w' b (rL s m (upR F i xs)).toArray T → Chg w w' [b] → wpList P ops Q rest (a.put op.dst undef) w') : wpList P ops Q (op :: rest) a w :=
  wpList_plain hgd fun _ hK => wp_store_rw ty x y ho b s m i F xs T hx hy hb hF hi hl h1 hinfo fun w' q1 q2 => hK _ _ (h w' q1 q2)
end
section
open Go.RowKit

/-- A Given's thirty lists. -/
def gvC (G : Nat → Value) : Array Value := ((List.range 30).map G).toArray
theorem gvC_get (G : Nat → Value) (k : Nat) (h : k < 30) : (gvC G)[k]? = some (G k) := by simp [gvC, h]
def upV (G : Nat → Value) (i : Nat) (v : Value) : Nat → Value := fun j => if j = i then v else G j
theorem upV_same (G : Nat → Value) (i : Nat) (v : Value) : upV G i v i = v := by simp [upV]
theorem upV_other (G : Nat → Value) (i : Nat) (v : Value) (j : Nat) (h : ¬ j = i) : upV G i v j = G j := by simp [upV, h]
theorem gvC_set (G : Nat → Value) (i : Nat) (v : Value) : (gvC G).setIfInBounds i v = gvC (upV G i v) := by
  apply Array.ext_getElem?
  intro k
  by_cases h : k < 30
  · rw [gvC_get _ _ h]
    by_cases h2 : i = k
    · subst h2
      rw [Array.getElem?_setIfInBounds_self_of_lt (by simp [gvC]; exact h), upV_same]
    · rw [Array.getElem?_setIfInBounds_ne h2, gvC_get _ _ h, upV_other _ _ _ _ (fun e => h2 e.symm)]
  · rw [Array.getElem?_eq_none (by simp [gvC]; omega), Array.getElem?_eq_none (by simp [gvC]; omega)]
theorem Blk.ne {w : World} {a b : Nat} {C D : Array Value} {T U : TypeId} (h : Blk w a C T) (k : Blk w b D U) (hT : ¬ T = U) : ¬ a = b := by
  intro e
  subst e
  have : (some (Obj.cells C T (0, 0))) = some (Obj.cells D U (0, 0)) := by rw [← h, ← k]
  simp at this
  exact hT this.2
theorem ownsRow_blk {w : World} {base : Nat} {T : TypeId} {s : Nat} {v : Value} {n : Nat} {xs : List Value} (h : w.ownsRow base T s v n xs) {k : Nat} (hk : k ∈ ob v) : ∃ C, Blk w k C T := by
  rcases h.2 with ⟨rfl, _⟩ | ⟨g, cap, cur, rfl, hb, hg, _⟩
  · simp [ob, Value.ownBlock] at hk
  · simp [ob, Value.ownBlock] at hk
    subst hk
    exact ⟨cur, hg⟩
/-- The pair of lists at p and p + 1 of a Given in block gb: K copies, of N j rows F j each, and their twins. -/
structure Gv (w : World) (gb base : Nat) (G : Nat → Value) (p : Nat) (TG TE T : TypeId) (s K : Nat) (N : Nat → Nat) (F : Nat → Nat → List Value) : Prop where
  gb : Blk w gb (gvC G) TG
  lists : ∃ vs us : List Value, w.ownsRow base TE 1 (G p) K vs ∧ w.ownsRow base TE 1 (G (p + 1)) K us ∧ (∀ x, x ∈ ob (G p) → ¬ x ∈ ob (G (p + 1))) ∧
    ∀ j, j < K → ∃ o x, vs[j]? = some (.slice (some ⟨o, 0, none⟩) (N j) (N j)) ∧ us[j]? = some x ∧ N j ≤ 9223372036854775807 ∧ Blk w o (rL s (N j) (F j)).toArray T ∧ OwnR w base T s x (N j) (F j)
/-- What a call of Given may turn. -/
def gch (gb : Nat) (G : Nat → Value) (p : Nat) : List Nat := gb :: (ob (G p) ++ ob (G (p + 1)))
theorem Gv.off {w : World} {gb base : Nat} {G : Nat → Value} {p : Nat} {TG TE T : TypeId} {s K : Nat} {N : Nat → Nat} {F : Nat → Nat → List Value} (h : Gv w gb base G p TG TE T s K N F) {o : Nat} {C : Array Value} {U : TypeId} (hb : Blk w o C U) (h1 : ¬ U = TG) (h2 : ¬ U = TE) : ¬ o ∈ gch gb G p := by
  obtain ⟨vs, us, l1, l2, _⟩ := h.lists
  intro hm
  rcases List.mem_cons.1 hm with e | hm
  · exact hb.ne h.gb h1 e
  · rcases List.mem_append.1 hm with hm | hm
    · obtain ⟨C', hC⟩ := ownsRow_blk l1 hm
      exact hb.ne hC h2 rfl
    · obtain ⟨C', hC⟩ := ownsRow_blk l2 hm
      exact hb.ne hC h2 rfl
theorem ownR_blk {w : World} {base : Nat} {T : TypeId} {s : Nat} {v : Value} {n : Nat} {F : Nat → List Value} (h : OwnR w base T s v n F) {k : Nat} (hk : k ∈ ob v) : ∃ C, Blk w k C T := ownsRow_blk h.1 hk
/-- It stands where nothing old is turned. -/
theorem Gv.chg {w w' : World} {gb base : Nat} {G : Nat → Value} {p : Nat} {TG TE T : TypeId} {s K : Nat} {N : Nat → Nat} {F : Nat → Nat → List Value} (h : Gv w gb base G p TG TE T s K N F) (hc : Chg w w' []) : Gv w' gb base G p TG TE T s K N F := by
  refine ⟨h.gb.chg hc (by simp), ?_⟩
  obtain ⟨vs, us, l1, l2, hd, hj⟩ := h.lists
  refine ⟨vs, us, ownsRow_chg l1 hc (by simp), ownsRow_chg l2 hc (by simp), hd, fun j hjk => ?_⟩
  obtain ⟨o, x, h1, h2, h3, h4, h5⟩ := hj j hjk
  exact ⟨o, x, h1, h2, h3, h4.chg hc (by simp), h5.chg hc (by simp)⟩
theorem ob_slice (g n c : Nat) : ob (.slice (some ⟨g, 0, none⟩) n c) = [g] := rfl
/-- One more, and its twin: behind both appends. -/
theorem Gv.more {w w' : World} {gb base : Nat} {G : Nat → Value} {p : Nat} {TG TE T : TypeId} {s K : Nat} {N : Nat → Nat} {F : Nat → Nat → List Value} (h : Gv w gb base G p TG TE T s K N F) (hT1 : ¬ T = TG) (hT2 : ¬ T = TE)
    (hc : Chg w w' (gch gb G p)) {la lb : Value} {vs0 us0 : List Value} {o : Nat} {x : Value} {m : Nat} {H : Nat → List Value}
    (k1 : w.ownsRow base TE 1 (G p) K vs0) (k2 : w.ownsRow base TE 1 (G (p + 1)) K us0) (hj : ∀ j, j < K → ∃ o x, vs0[j]? = some (.slice (some ⟨o, 0, none⟩) (N j) (N j)) ∧ us0[j]? = some x ∧ N j ≤ 9223372036854775807 ∧ Blk w o (rL s (N j) (F j)).toArray T ∧ OwnR w base T s x (N j) (F j))
    (hgb : Blk w' gb (gvC (upV (upV G p la) (p + 1) lb)) TG) (l1 : w'.ownsRow base TE 1 la (K + 1) (vs0 ++ [.slice (some ⟨o, 0, none⟩) m m])) (l2 : w'.ownsRow base TE 1 lb (K + 1) (us0 ++ [x])) (hd : ∀ x, x ∈ ob la → ¬ x ∈ ob lb)
    (hm : m ≤ 9223372036854775807) (ho : Blk w' o (rL s m H).toArray T) (hx : OwnR w' base T s x m H) :
    Gv w' gb base (upV (upV G p la) (p + 1) lb) p TG TE T s (K + 1) (fun j => if j = K then m else N j) (fun j => if j = K then H else F j) := by
  refine ⟨hgb, ?_⟩
  have e1 : upV (upV G p la) (p + 1) lb p = la := by rw [upV_other _ _ _ _ (by omega), upV_same]
  have e2 : upV (upV G p la) (p + 1) lb (p + 1) = lb := upV_same _ _ _
  rw [e1, e2]
  have hoff := fun o C hb => h.off (o := o) (C := C) (U := T) hb hT1 hT2
  have s1 : vs0.length = K := by have := k1.1; omega
  have s2 : us0.length = K := by have := k2.1; omega
  refine ⟨_, _, l1, l2, hd, fun j hjk => ?_⟩
  by_cases hjK : j = K
  · subst hjK
    refine ⟨o, x, ?_, ?_, ?_, ?_, ?_⟩
    · rw [List.getElem?_append_right (by omega), s1, if_pos rfl]; simp
    · rw [List.getElem?_append_right (by omega), s2]; simp
    · rw [if_pos rfl]; exact hm
    · rw [if_pos rfl, if_pos rfl]; exact ho
    · rw [if_pos rfl, if_pos rfl]; exact hx
  · obtain ⟨o', x', q1, q2, q3, q4, q5⟩ := hj j (by omega)
    refine ⟨o', x', ?_, ?_, ?_, ?_, ?_⟩
    · rw [List.getElem?_append_left (by omega), if_neg hjK]; exact q1
    · rw [List.getElem?_append_left (by omega)]; exact q2
    · rw [if_neg hjK]; exact q3
    · rw [if_neg hjK, if_neg hjK]; exact q4.chg hc (hoff _ _ q4)
    · rw [if_neg hjK, if_neg hjK]
      exact q5.chg hc (fun k hk => by obtain ⟨C, hC⟩ := ownR_blk q5 hk; exact hoff _ _ hC)
/-- The rows of a copy that is handed in: those that came, and marks behind them. -/
def gvR (mk F : Nat → List Value) (n : Nat) : Nat → List Value := fun j => if j < n then F j else mk j
def gvR1 (mk : Nat → List Value) (z : List Value) (i : Nat) : Nat → List Value := fun j => if j < i then mk j else z
theorem gvR1_step (mk : Nat → List Value) (z : List Value) (i : Nat) : upR (gvR1 mk z i) i (mk i) = gvR1 mk z (i + 1) := by
  funext j; unfold upR gvR1
  by_cases h : j = i
  · subst h; rw [if_pos rfl, if_pos (by omega)]
  · rw [if_neg h]
    by_cases h2 : j < i
    · rw [if_pos h2, if_pos (by omega)]
    · rw [if_neg h2, if_neg (by omega)]
theorem gvR_step (mk F : Nat → List Value) (i : Nat) : upR (gvR mk F i) i (F i) = gvR mk F (i + 1) := by
  funext j; unfold upR gvR
  by_cases h : j = i
  · subst h; rw [if_pos rfl, if_pos (by omega)]
  · rw [if_neg h]
    by_cases h2 : j < i
    · rw [if_pos h2, if_pos (by omega)]
    · rw [if_neg h2, if_neg (by omega)]
theorem gvR1_ok {s m : Nat} {mk : Nat → List Value} {z : List Value} (hm : ∀ i, (mk i).length = s ∧ ∀ v ∈ mk i, v.oneCell' = true) (hz : z.length = s ∧ ∀ v ∈ z, v.oneCell' = true) (i : Nat) : Rok s m (gvR1 mk z i) := fun j _ => by
  unfold gvR1
  by_cases h : j < i
  · rw [if_pos h]; exact hm j
  · rw [if_neg h]; exact hz
theorem gvR_ok {s m n : Nat} {mk F : Nat → List Value} (hm : ∀ i, (mk i).length = s ∧ ∀ v ∈ mk i, v.oneCell' = true) (hF : Rok s n F) (i : Nat) (hi : i ≤ n) : Rok s m (gvR mk F i) := fun j _ => by
  unfold gvR
  by_cases h : j < i
  · rw [if_pos h]; exact hF j (by omega)
  · rw [if_neg h]; exact hm j
end
section
open Go.RowKit N

/-- A list of N scalars f. -/
def Ls (w : World) (v : Value) (N : Nat) (f : Nat → Nat) : Prop := (∀ i, i < N → f i < 115792089237316195423570985008687907853269984665640564039457584007913129639936) ∧
  ((N = 0 ∧ v = .slice none 0 0) ∨ ∃ g o cap, v = .slice (some ⟨g, o, none⟩) N cap ∧ N ≤ cap ∧ cap ≤ 9223372036854775807 ∧ g < w.heap.size ∧ ∀ i, i < N → Fc w g (o + i * 32) (f i : Nat))
theorem Ls.chg {w w' : World} {v : Value} {N : Nat} {f : Nat → Nat} {l : List Nat} (h : Ls w v N f) (hc : Chg w w' l) (ho : Off v l) : Ls w' v N f := by
  refine ⟨h.1, ?_⟩
  rcases h.2 with h2 | ⟨g, o, cap, rfl, h1, h2, h3, h4⟩
  · exact Or.inl h2
  · exact Or.inr ⟨g, o, cap, rfl, h1, h2, Nat.lt_of_lt_of_le h3 hc.size, fun i hi => (h4 i hi).chg hc (ho g o N cap rfl)⟩
theorem Ls.form {w : World} {v : Value} {N : Nat} {f : Nat → Nat} (h : Ls w v N f) : ∃ p c, v = .slice p N c ∧ ∀ i, i < N → ∃ g o, p = some ⟨g, o, none⟩ ∧ g < w.heap.size ∧ Fc w g (o + i * 32) (f i : Nat) := by
  rcases h.2 with ⟨rfl, rfl⟩ | ⟨g, o, cap, rfl, h1, h2, h3, h4⟩
  · exact ⟨none, 0, rfl, fun i hi => by omega⟩
  · exact ⟨_, cap, rfl, fun i hi => ⟨g, o, rfl, h3, h4 i hi⟩⟩
theorem mN (N i : Nat) (h : i < N) : (N - intOf (.int .i64 ((i : Int) + 1))).toNat < (N - intOf (.int .i64 (i : Int))).toNat := by simp [intOf]; omega
/-- The mark of list i at place k. -/
def mkS (i k : Nat) : Nat := i % 256 + i / 256 % 256 * 256 + k % 256 * 65536 + k / 256 % 256 * 16777216 + 77 * 4294967296
theorem five_fe (a b c d : Nat) (ha : a < 256) (hb : b < 256) (hc : c < 256) (hd : d < 256) (N : Nat) (hN : a + b * 256 + c * 65536 + d * 16777216 + 77 * 4294967296 = N) :
    #[Value.int .u8 (a : Int), .int .u8 (b : Int), .int .u8 (c : Int), .int .u8 (d : Int), .int .u8 77, .int .u8 0, .int .u8 0, .int .u8 0, .int .u8 0, .int .u8 0, .int .u8 0, .int .u8 0, .int .u8 0, .int .u8 0, .int .u8 0, .int .u8 0,
      .int .u8 0, .int .u8 0, .int .u8 0, .int .u8 0, .int .u8 0, .int .u8 0, .int .u8 0, .int .u8 0, .int .u8 0, .int .u8 0, .int .u8 0, .int .u8 0, .int .u8 0, .int .u8 0, .int .u8 0, .int .u8 0] = feC (N : Nat) := by
  have h0 : by8 (N : Int) 0 = (a : Int) := by unfold by8; omega
  have h1 : by8 (N : Int) 1 = (b : Int) := by unfold by8; omega
  have h2 : by8 (N : Int) 2 = (c : Int) := by unfold by8; omega
  have h3 : by8 (N : Int) 3 = (d : Int) := by unfold by8; omega
  have h4 : by8 (N : Int) 4 = 77 := by unfold by8; omega
  have hz : ∀ i, 5 ≤ i → by8 (N : Int) i = 0 := fun i hi => by
    unfold by8
    have e : (256 : Int) ^ i = 256 ^ 5 * 256 ^ (i - 5) := by rw [← Int.pow_add]; congr 1; omega
    have p : (1 : Int) ≤ 256 ^ (i - 5) := by have : (0 : Int) < 256 ^ (i - 5) := Int.pow_pos (by decide); omega
    have q : (N : Int) < 256 ^ i := by
      rw [e]
      have : (256 : Int) ^ 5 * 1 ≤ 256 ^ 5 * 256 ^ (i - 5) := Int.mul_le_mul_of_nonneg_left p (by decide)
      omega
    rw [Int.ediv_eq_zero_of_lt (by omega) q]
    rfl
  simp only [feC, feL, h0, h1, h2, h3, h4, hz 5 (by omega), hz 6 (by omega), hz 7 (by omega), hz 8 (by omega), hz 9 (by omega), hz 10 (by omega), hz 11 (by omega), hz 12 (by omega), hz 13 (by omega), hz 14 (by omega), hz 15 (by omega), hz 16 (by omega), hz 17 (by omega), hz 18 (by omega), hz 19 (by omega), hz 20 (by omega), hz 21 (by omega), hz 22 (by omega), hz 23 (by omega), hz 24 (by omega), hz 25 (by omega), hz 26 (by omega), hz 27 (by omega), hz 28 (by omega), hz 29 (by omega), hz 30 (by omega), hz 31 (by omega)]
theorem mkS_lt (i k : Nat) : mkS i k < 115792089237316195423570985008687907853269984665640564039457584007913129639936 := by unfold mkS; omega
theorem built5 (a b c d : Int) : Try.prog.built 24 [(0, .int .u8 a), (1, .int .u8 b), (2, .int .u8 c), (3, .int .u8 d), (4, .int .u8 77)] = some #[.int .u8 a, .int .u8 b, .int .u8 c, .int .u8 d, .int .u8 77, .int .u8 0, .int .u8 0, .int .u8 0, .int .u8 0, .int .u8 0, .int .u8 0, .int .u8 0, .int .u8 0, .int .u8 0, .int .u8 0, .int .u8 0, .int .u8 0, .int .u8 0, .int .u8 0, .int .u8 0, .int .u8 0, .int .u8 0, .int .u8 0, .int .u8 0, .int .u8 0, .int .u8 0, .int .u8 0, .int .u8 0, .int .u8 0, .int .u8 0, .int .u8 0, .int .u8 0] := by kernel_rfl
theorem wpList_build_c' {P : Program} {ops : Array Oper} {rest : List Oper} {o : Oper} {a : Act} {w : World} {Q : Exit → Act → World → Prop} (hg : o.guard = none) (t : TypeId) (parts : Array (Nat × Operand)) (ho : o.op = .build t parts)
    (cells : Array Value) (hb : P.built t (parts.map fun (i, x) => (i, a.eval x)).toList = some cells) (h : wpList P ops Q rest (a.put o.dst (.agg cells)) w) : wpList P ops Q (o :: rest) a w :=
  wpList_build hg t parts ho (by rw [hb]; rfl) (by rw [hb]; exact h)
set_option maxHeartbeats 4000000 in
set_option maxRecDepth 100000 in
theorem markFes_s (i k : Nat) (hi : i ≤ 140737488355331) (hk : k ≤ 140737488355331) (w : World) : Calls Try.prog 97 #[.int .i64 (i : Int), .int .i64 (k : Int)] w fun x w' => x = .returned (fe (mkS i k : Nat)) ∧ Chg w w' [] := by
  have e1 : IntKind.u8.wrap (i : Int) = ((i % 256 : Nat) : Int) := by rw [IntKind.wrap_u8']; omega
  have e2 : IntKind.u8.wrap (k : Int) = ((k % 256 : Nat) : Int) := by rw [IntKind.wrap_u8']; omega
  have e3 : IntKind.u8.wrap ((i : Int) / 256) = ((i / 256 % 256 : Nat) : Int) := by rw [IntKind.wrap_u8']; omega
  have e4 : IntKind.u8.wrap ((k : Int) / 256) = ((k / 256 % 256 : Nat) : Int) := by rw [IntKind.wrap_u8']; omega
  have hf := five_fe (i % 256) (i / 256 % 256) (k % 256) (k / 256 % 256) (by omega) (by omega) (by omega) (by omega) (mkS i k) rfl
  have hb := built5 ((i % 256 : Nat) : Int) ((i / 256 % 256 : Nat) : Int) ((k % 256 : Nat) : Int) ((k / 256 % 256 : Nat) : Int)
  rw [hf] at hb
  clear hf
  obtain ⟨X, hX⟩ : ∃ X : Int, ((mkS i k : Nat) : Int) = X := ⟨_, rfl⟩
  rw [hX] at hb ⊢
  clear hX
  generalize i % 256 = a at *
  generalize i / 256 % 256 = b at *
  generalize k % 256 = c at *
  generalize k / 256 % 256 = d at *
  have F := Blk.new w z32 24
  have HB : Hid _ := hb
  clear hb
  go_enter Try.func97, Try.ntmps97
  go_wp2_with (first | (refine wpList_build_c' rfl 24 #[(0, .tmp 6), (1, .tmp 9), (2, .tmp 11), (3, .tmp 14), (4, .const (.int .u8 77))] rfl (feC X) (by go_simp; with_reducible exact HB.out) ?_) | (refine wpList_store_row rfl 24 _ _ rfl w.heap.size _ rfl rfl 24 _ F feInfo rfl (feC_one _) ?_))
  exact bodyPost_ret (results_cell_row Try.results97 _ _ w.heap.size 24 (feC X) (0, 0) _ rfl (Blk.setRow F _) Try.underlying24 rfl feInfo) rfl ⟨rfl, ((Chg.refl w []).alloc _).setRowNew (Nat.le_refl _) _⟩
theorem scRow : ∃ i, Try.prog.info? 24 = some i ∧ i.zero = some (.agg z32) ∧ i.size = 32 ∧ i.bytes = 32 := by
  have h : (Try.prog.info? 24).map (fun i => (i.zero, i.size, i.bytes)) = some (some (.agg z32), 32, 32) := by kernel_rfl
  cases hi : Try.prog.info? 24 with
  | none => rw [hi] at h; simp at h
  | some i => rw [hi] at h; simp at h; exact ⟨i, rfl, h.1, h.2.1, h.2.2⟩
/-- Rows that are numbers. -/
abbrev fR (f : Nat → Nat) : Nat → List Value := fun i => feL ((f i : Nat) : Int)
theorem feL_ok (n : Int) : (feL n).length = 32 ∧ ∀ v ∈ feL n, v.oneCell' = true := ⟨feL_len n, by intro v hv; simp [feL] at hv; rcases hv with rfl | rfl | rfl | rfl | rfl | rfl | rfl | rfl | rfl | rfl | rfl | rfl | rfl | rfl | rfl | rfl | rfl | rfl | rfl | rfl | rfl | rfl | rfl | rfl | rfl | rfl | rfl | rfl | rfl | rfl | rfl | rfl <;> rfl⟩
theorem fR_ok (m : Nat) (f : Nat → Nat) : Rok 32 m (fR f) := fun i _ => feL_ok _
theorem Fc.range' {w : World} {g o : Nat} {n : Int} (h : Fc w g o n) : w.rangeAt g o (feL n) := fun j v hv => by
  have hj : j < 32 := by
    have := (List.getElem?_eq_some_iff.1 hv).1
    rw [feL_len] at this
    exact this
  rw [h.cell j hj]
  have e := feC_get n j hj
  have e2 : (feC n)[j]? = some v := by
    have h' : (feL n).toArray[j]? = some v := by simpa using hv
    exact h'
  rw [e] at e2
  exact e2
theorem Fc.ofRange {w : World} {g o : Nat} {n : Int} (h : w.rangeAt g o (feL n)) (hg : g < w.heap.size) : Fc w g o n := ⟨hg, fun i hi => by
  have e := feC_get n i hi
  have e2 : (feL n)[i]? = some (.int .u8 (by8 n i)) := by rw [← e]; simp
  exact h i _ e2⟩
theorem Ls.rl {w : World} {v : Value} {N : Nat} {f : Nat → Nat} (h : Ls w v N f) : Rl w 32 v N (fR f) := by
  refine ⟨fR_ok N f, ?_⟩
  rcases h.2 with h2 | ⟨g, o, cap, e, h1, h2, h3, h4⟩
  · exact Or.inl h2
  · exact Or.inr ⟨g, o, cap, e, h1, h2, h3, fun i hi => (h4 i hi).range'⟩
theorem Rl.ls {w : World} {v : Value} {N : Nat} {f : Nat → Nat} (h : Rl w 32 v N (fR f)) (hf : ∀ i, i < N → f i < 115792089237316195423570985008687907853269984665640564039457584007913129639936) : Ls w v N f := by
  refine ⟨hf, ?_⟩
  rcases h.2 with h2 | ⟨g, o, cap, e, h1, h2, h3, h4⟩
  · exact Or.inl h2
  · exact Or.inr ⟨g, o, cap, e, h1, h2, h3, fun i hi => Fc.ofRange (h4 i hi) h3⟩
theorem catR_zero (F G : Nat → List Value) : catR F 0 G = G := by funext j; unfold catR; rw [if_neg (by omega), Nat.sub_zero]
set_option maxHeartbeats 4000000 in
set_option maxRecDepth 100000 in
theorem CopyFes_s (v : Value) (n : Nat) (F : Nat → List Value) (w : World) (h0 : 0 < n) (hn : n ≤ 4398046511104) (hv : Rl w 32 v n F) :
    Calls Try.prog 98 #[v] w fun e w' => ∃ g cap, e = .returned (.slice (some ⟨g, 0, none⟩) n cap) ∧ OwnR w' w.heap.size 24 32 (.slice (some ⟨g, 0, none⟩) n cap) n F ∧ Chg w w' [] := by
  obtain ⟨inf, hinf, hz, hs1, hs2⟩ := scRow
  go_enter Try.func98, Try.ntmps98
  go_wp2_with (refine wpList_append_r rfl (.tmp 4) (.tmp 5) 63 rfl 24 inf (.agg z32) 32 32 Try.underlying63 hinf hz hs1 hs2 rfl (by omega) w.heap.size (.slice none 0 0) v 0 n F F rfl rfl (OwnR.nil _ _ _ _ F) hv h0 (by omega) (by omega) (Nat.le_refl _) ?_; intro g cap w1 O1 q1 _ _; rw [Nat.zero_add, catR_zero] at O1; rw [Nat.zero_add]; replace q1 : Chg w w1 [] := q1)
  go_ret
  exact ⟨g, cap, rfl, O1, q1⟩
/-- A number's 32 bytes loaded from within a block. -/
theorem load_fe {w : World} {ops : Array Oper} {rest : List Oper} {op : Oper} {a : Act} {Q : Exit → Act → World → Prop} (hgd : op.guard = none) (x : Operand) (ho : op.op = .load 24 x) (b o : Nat) (X : Int) (hx : a.eval x = .pointer (some ⟨b, o, none⟩)) (hc : w.rangeAt b o (feL X))
    (h : wpList Try.prog ops Q rest (a.put op.dst (fe X)) w) : wpList Try.prog ops Q (op :: rest) a w := wpList_load_mid hgd 24 x ho b o hx (feL X) _ hc Try.underlying24 rfl feInfo h
end
section
open Go.RowKit N

theorem z32L : z32 = (z32.toList).toArray := rfl
theorem z32_ok : (z32.toList).length = 32 ∧ ∀ v ∈ z32.toList, v.oneCell' = true := ⟨rfl, by simp [z32, Value.oneCell']⟩
theorem make_si (r : Nat) (hr : r ≤ 4398046511104) (W : World) : (Instr.makeSlice 63 (.int .i64 (r : Int)) (.int .i64 (r : Int))).run Try.prog W = .ok (.slice (some ⟨W.heap.size, 0, none⟩) r r) (W.alloc (.cells (rL 32 r fun _ => z32.toList).toArray 24)) := by
  obtain ⟨i, hi, hz, h1, h2⟩ := scRow
  have h := run_make (P := Try.prog) W 63 24 i (.agg z32) Try.underlying63 hi hz .i64 .i64 (r : Int) (r : Int) (by omega) (by omega) (by rw [h2]; omega) (by omega)
  rw [h, h1, Int.toNat_natCast]
  show Result.ok _ (W.alloc (.cells (madeCells z32 (r * 32)) 24)) = _
  rw [made_r z32 32 r rfl]
theorem listRowS : ∃ i, Try.prog.info? 63 = some i ∧ i.zero = some (.slice none 0 0) ∧ i.size = 1 ∧ i.bytes = 24 := by
  have h : (Try.prog.info? 63).map (fun i => (i.zero, i.size, i.bytes)) = some (some (.slice none 0 0), 1, 24) := by kernel_rfl
  cases hi : Try.prog.info? 63 with
  | none => rw [hi] at h; simp at h
  | some i => rw [hi] at h; simp at h; exact ⟨i, rfl, h.1, h.2.1, h.2.2⟩
theorem mk_ok (i : Nat) : (fR (mkS 987) i).length = 32 ∧ ∀ v ∈ fR (mkS 987) i, v.oneCell' = true := feL_ok _
/-- What Scalars answers and leaves. -/
def GvP (w w' : World) (gb base n m : Nat) (f : Nat → Nat) (G : Nat → Value) (Kn : Nat) (N : Nat → Nat) (F : Nat → Nat → List Value) (r : Value) : Prop :=
  ∃ o la lb, r = .slice (some ⟨o, 0, none⟩) n m ∧ w.heap.size ≤ o ∧ Chg w w' (gch gb G 6) ∧ Blk w' o (rL 32 m (gvR (fR (mkS 987)) (fR f) n)).toArray 24 ∧
    Gv w' gb base (upV (upV G 6 la) (6 + 1) lb) 6 42 63 24 32 (Kn + 1) (fun j => if j = Kn then m else N j) (fun j => if j = Kn then gvR (fR (mkS 987)) (fR f) n else F j)
theorem there_fe {w : World} {b o : Nat} (h : w.there b o 32) (n : Int) : w.there b o (feC n).size := h
set_option maxHeartbeats 8000000 in
set_option maxRecDepth 100000 in
theorem GivenFes_s (gb n base Kn : Nat) (v : Value) (f : Nat → Nat) (G : Nat → Value) (N : Nat → Nat) (F : Nat → Nat → List Value) (w : World) (hn : n ≤ 4398046511100) (hK : Kn ≤ 1000) (hbase : base ≤ w.heap.size) (hv : Rl w 32 v n (fR f))
    (hg : Gv w gb base G 6 42 63 24 32 Kn N F) :
    Calls Try.prog 49 #[.pointer (some ⟨gb, 0, none⟩), v] w fun e w' => ∃ r, e = .returned r ∧ GvP w w' gb base n (n + 3) f G Kn N F r := by
  obtain ⟨vp, vc, rfl, hp⟩ := hv.form
  obtain ⟨m, hm⟩ : ∃ m, n + 3 = m := ⟨_, rfl⟩
  have HM : Hid (n + 3 = m) := hm
  have e1 : IntKind.i64.wrap ((n : Int) + 3) = (m : Int) := by rw [IntKind.wrap_i64]; omega
  have hmk := make_si m (by omega)
  have B0 := Blk.new w (rL 32 m fun _ => z32.toList).toArray 24
  have B1 : Blk (w.alloc (.cells (rL 32 m fun _ => z32.toList).toArray 24)) w.heap.size (rL 32 m (gvR1 (fR (mkS 987)) z32.toList 0)).toArray 24 := B0.to (congrArg List.toArray (rL_congr fun j _ => (if_neg (by omega)).symm))
  have C1 := (Chg.refl w []).alloc (.cells (rL 32 m fun _ => z32.toList).toArray 24)
  have hnm : n < m := by omega
  have hmb : m ≤ 4398046511103 := by omega
  rw [hm]
  clear hm B0 hn
  go_enter Try.func49, Try.ntmps49
  go_wp2_with fail
  clear hmk
  generalize (rL 32 m fun _ => z32.toList) = L0 at *
  go_loopw [6] (fun t wr => ∃ i : Nat, i ≤ m ∧ t = .int .i64 (i : Int) ∧ Blk wr w.heap.size (rL 32 m (gvR1 (fR (mkS 987)) z32.toList i)).toArray 24 ∧ Chg w wr []) (fun t _ => ((m : Int) - intOf t).toNat)
  case atStart => exact ⟨0, by omega, rfl, B1, C1⟩
  case round =>
    clear B1 C1
    obtain ⟨i, hi, rfl, b0, c0⟩ := hrel
    by_cases h8 : i < m
    · have hI : (i : Int) < (m : Int) := by omega
      have hI0 : (0 : Int) ≤ (i : Int) := by omega
      have HI : Hid (i < m) := h8
      have HI1 : Hid (i ≤ 140737488355331) := by show i ≤ 140737488355331; omega
      have e2 : IntKind.i64.wrap ((i : Int) + 1) = (i : Int) + 1 := by rw [IntKind.wrap_i64]; omega
      have HJ : Hid (((m : Int) - intOf (.int .i64 ((i : Int) + 1))).toNat < ((m : Int) - intOf (.int .i64 (i : Int))).toNat) := by show ((m : Int) - intOf (.int .i64 ((i : Int) + 1))).toNat < ((m : Int) - intOf (.int .i64 (i : Int))).toNat; simp [intOf]; omega
      have HS : Hid (w.heap.size ≤ w.heap.size) := Nat.le_refl _
      clear h8 hi
      go_wp2_with fail
      refine (markFes_s 987 i (by decide) HI1.out _).mono ?_
      rintro e v1 ⟨rfl, k1⟩
      obtain ⟨X, hX⟩ : ∃ X : Int, ((mkS 987 i : Nat) : Int) = X := ⟨_, rfl⟩
      have eX : fR (mkS 987) i = feL X := by show feL _ = _; rw [hX]
      rw [hX]
      have q0 := b0.chg k1 (by simp)
      have c1 := c0.trans1 k1
      have HO : Hid (Rok 32 m (gvR1 (fR (mkS 987)) z32.toList i)) := gvR1_ok mk_ok z32_ok i
      have HF : Hid (upR (gvR1 (fR (mkS 987)) z32.toList i) i (feL X) = gvR1 (fR (mkS 987)) z32.toList (i + 1)) := by rw [← eX]; exact gvR1_step _ _ _
      clear k1 b0 c0 eX hX hp hv hg hnm hmb hbase hK HM
      generalize gvR1 (fR (mkS 987)) z32.toList i = R0 at *
      go_wp2_with (with_reducible refine wpList_store_rw ?_ 24 (.tmp 22) (.tmp 21) ?_ w.heap.size 32 m i R0 (feL X) 24 ?_ ?_ q0 HO.out HI.out (feL_ok X).1 (feL_ok X).2 feInfo ?_
                   · rfl
                   · rfl
                   · rfl
                   · rfl
                   intro w2 b2 c2
                   rw [HF.out] at b2)
      exact ⟨⟨i + 1, HI.out, by go_num, b2, c1.new c2 (Nat.le_refl _)⟩, HJ.out⟩
    · have h9 : i = m := by omega
      subst h9
      have hI : ¬ (i : Int) < (i : Int) := by omega
      go_wp2_with fail
      have B2 : Blk wr w.heap.size (rL 32 i (gvR (fR (mkS 987)) (fR f) 0)).toArray 24 := b0.to (congrArg List.toArray (rL_congr fun j hj => by unfold gvR1 gvR; rw [if_pos hj, if_neg (by omega)]))
      clear b0
      go_loopw [7] (fun t wr => ∃ k : Nat, k ≤ n ∧ t = .int .i64 (k : Int) ∧ Blk wr w.heap.size (rL 32 i (gvR (fR (mkS 987)) (fR f) k)).toArray 24 ∧ Chg w wr []) (fun t _ => ((n : Int) - intOf t).toNat)
      case atStart => exact ⟨0, by omega, rfl, B2, c0⟩
      case round =>
        clear B2 c0
        obtain ⟨k, hk, rfl, b0, c0⟩ := hrel
        by_cases h8 : k < n
        · have hI1 : (k : Int) < (n : Int) := by omega
          have hI2 : (k : Int) < (i : Int) := by omega
          have HK1 : Hid (k + 1 ≤ n) := by show k + 1 ≤ n; omega
          have e2 : IntKind.i64.wrap ((k : Int) + 1) = (k : Int) + 1 := by rw [IntKind.wrap_i64]; omega
          have HJ : Hid (((n : Int) - intOf (.int .i64 ((k : Int) + 1))).toNat < ((n : Int) - intOf (.int .i64 (k : Int))).toNat) := by show ((n : Int) - intOf (.int .i64 ((k : Int) + 1))).toNat < ((n : Int) - intOf (.int .i64 (k : Int))).toNat; simp [intOf]; omega
          obtain ⟨g, o, rfl, hgl, hr0⟩ := hp k h8
          have hr := rangeAt_chg hr0 hgl c0 (by simp)
          have HO : Hid (Rok 32 i (gvR (fR (mkS 987)) (fR f) k)) := gvR_ok mk_ok (fR_ok n f) k (by omega)
          have HKI : Hid (k < i) := by show k < i; omega
          obtain ⟨X, hX⟩ : ∃ X : Int, ((f k : Nat) : Int) = X := ⟨_, rfl⟩
          have eX : fR f k = feL X := by show feL _ = _; rw [hX]
          rw [eX] at hr
          have HF : Hid (upR (gvR (fR (mkS 987)) (fR f) k) k (feL X) = gvR (fR (mkS 987)) (fR f) (k + 1)) := by rw [← eX]; exact gvR_step _ _ _
          have HR : Hid _ := hr
          clear h8 hk hp hr0 hv hnm hmb eX hX hr hg hbase hK HM
          generalize gvR (fR (mkS 987)) (fR f) k = R0 at *
          go_wp2_with (first
            | (with_reducible refine load_fe ?_ (.tmp 33) ?_ g (o + k * 32) X ?_ ?_ ?_
               · rfl
               · rfl
               · rfl
               · exact HR.out)
            | (with_reducible refine wpList_store_rw ?_ 24 (.tmp 35) (.tmp 34) ?_ w.heap.size 32 i k R0 (feL X) 24 ?_ ?_ b0 HO.out HKI.out (feL_ok X).1 (feL_ok X).2 feInfo ?_
               · rfl
               · rfl
               · rfl
               · rfl
               intro w2 b2 c2
               rw [HF.out] at b2))
          exact ⟨⟨k + 1, HK1.out, by go_num, b2, c0.new c2 (Nat.le_refl _)⟩, HJ.out⟩
        · have h9 : k = n := by omega
          subst h9
          have hI1 : ¬ (k : Int) < (k : Int) := by omega
          obtain ⟨y, hy⟩ : ∃ y, w.heap.size = y := ⟨_, rfl⟩
          have HY : Hid (w.heap.size = y) := hy
          obtain ⟨RR, hRR⟩ : ∃ RR, gvR (fR (mkS 987)) (fR f) k = RR := ⟨_, rfl⟩
          have HRR : Hid (gvR (fR (mkS 987)) (fR f) k = RR) := hRR
          have HOK : Hid (Rok 32 i RR) := hRR ▸ gvR_ok mk_ok (fR_ok k f) k (Nat.le_refl _)
          have BO : Blk wr y (rL 32 i RR).toArray 24 := hRR ▸ hy ▸ b0
          have HCW : Hid (Chg w wr []) := c0
          have HG1 : Hid (Gv wr gb base G 6 42 63 24 32 Kn N F) := hg.chg c0
          have hg1 := HG1.out
          have ybs : base ≤ wr.heap.size := Nat.le_trans hbase c0.size
          obtain ⟨vs, us, l1, l2, hd, hj⟩ := hg1.lists
          have HJ : Hid (∀ j, j < Kn → ∃ o x, vs[j]? = some (.slice (some ⟨o, 0, none⟩) (N j) (N j)) ∧ us[j]? = some x ∧ N j ≤ 9223372036854775807 ∧ Blk wr o (rL 32 (N j) (F j)).toArray 24 ∧ OwnR wr base 24 32 x (N j) (F j)) := hj
          have HL1 : Hid (wr.ownsRow base 63 1 (G 6) Kn vs) := l1
          have HL2 : Hid (wr.ownsRow base 63 1 (G (6 + 1)) Kn us) := l2
          have g8 : ¬ gb ∈ ob (G 6) := fun hx => by obtain ⟨C, hC⟩ := ownsRow_blk l1 hx; exact hg1.gb.ne hC (by decide) rfl
          have g9 : ¬ gb ∈ ob (G (6 + 1)) := fun hx => by obtain ⟨C, hC⟩ := ownsRow_blk l2 hx; exact hg1.gb.ne hC (by decide) rfl
          have y8 : ¬ y ∈ ob (G 6) := fun hx => by obtain ⟨C, hC⟩ := ownsRow_blk l1 hx; exact BO.ne hC (by decide) rfl
          have y9 : ¬ y ∈ ob (G (6 + 1)) := fun hx => by obtain ⟨C, hC⟩ := ownsRow_blk l2 hx; exact BO.ne hC (by decide) rfl
          have yg : ¬ y = gb := BO.ne hg1.gb (by decide)
          have HCH : Hid (gch gb G 6 = gb :: (ob (G 6) ++ ob (G (6 + 1)))) := rfl
          have GB00 := hg1.gb
          obtain ⟨la0, hla0⟩ : ∃ v, G 6 = v := ⟨_, rfl⟩
          obtain ⟨lb0, hlb0⟩ : ∃ v, G (6 + 1) = v := ⟨_, rfl⟩
          rw [hla0] at g8 y8 l1 hd
          rw [hlb0] at g9 y9 l2 hd
          have cg0 : wr.cell? ⟨gb, 6, none⟩ = some la0 := by rw [GB00.cell, gvC_get _ _ (by decide), hla0]
          have HLA0 : Hid (G 6 = la0) := hla0
          have HLB0 : Hid (G (6 + 1) = lb0) := hlb0
          rw [hy]
          have HI0 : Hid (0 < i) := by show 0 < i; omega
          have HIM : Hid (i ≤ 4398046511104) := by show i ≤ 4398046511104; omega
          have hki : (k : Int) ≤ (i : Int) := by omega
          obtain ⟨inf, hinf, hz, hs1, hs2⟩ := listRowS
          have AL := Blk.new wr #[.slice (some ⟨y, 0, none⟩) i i] 63
          have HNW : Hid (∀ j u, ([.slice (some ⟨y, 0, none⟩) i i] : List Value)[j]? = some u → (wr.alloc (.cells #[.slice (some ⟨y, 0, none⟩) i i] 63)).cell? ((⟨wr.heap.size, 0, none⟩ : Addr).add j) = some u) := by
            intro j u hj
            refine add_cell ?_
            rw [Nat.zero_add, AL.cell]
            simpa using hj
          have HLA : Hid ((wr.alloc (.cells #[.slice (some ⟨y, 0, none⟩) i i] 63)).ownsRow base 63 1 la0 Kn vs) := l1.alloc _
          have H63 : Hid (Kn + 1 ≤ maxLen) := by show Kn + 1 ≤ maxLen; simp only [maxLen]; omega
          have HBY : Hid ((Kn + 1) * 24 ≤ 140737488355328) := by show (Kn + 1) * 24 ≤ 140737488355328; omega
          have HBA : Hid (base ≤ (wr.alloc (.cells #[.slice (some ⟨y, 0, none⟩) i i] 63)).heap.size) := by show base ≤ _; simp; omega
          have HON : Hid (∀ u ∈ ([.slice (some ⟨y, 0, none⟩) i i] : List Value), u.oneCell' = true) := by show ∀ u ∈ ([.slice (some ⟨y, 0, none⟩) i i] : List Value), u.oneCell' = true; simp [Value.oneCell']
          have GA := GB00.alloc (.cells #[.slice (some ⟨y, 0, none⟩) i i] 63)
          have BA := BO.alloc (.cells #[.slice (some ⟨y, 0, none⟩) i i] 63)
          have LB1 := l2.alloc (.cells #[.slice (some ⟨y, 0, none⟩) i i] 63)
          have HD0 : Hid (∀ x, x ∈ ob la0 → ¬ x ∈ ob lb0) := hd
          have HLT : Hid (∀ x, x ∈ ob lb0 → x < wr.heap.size) := fun x hx => by obtain ⟨C, hC⟩ := ownsRow_blk l2 hx; exact hC.lt
          have CA := (Chg.refl wr (gch gb G 6)).alloc (.cells #[.slice (some ⟨y, 0, none⟩) i i] 63)
          have HIN : Hid (∀ x, x ∈ ob la0 → x ∈ gch gb G 6) := fun x hx => by rw [HCH.out, hla0]; simp [hx]
          have HIN9 : Hid (∀ x, x ∈ gb :: ob lb0 → x ∈ gch gb G 6) := fun x hx => by rw [HCH.out, hlb0]; simp only [List.mem_cons, List.mem_append] at hx ⊢; rcases hx with h | h <;> simp [h]
          have HGI : Hid (gb ∈ gch gb G 6) := List.mem_cons_self
          have wasz : (wr.alloc (.cells #[.slice (some ⟨y, 0, none⟩) i i] 63)).heap.size = wr.heap.size + 1 := by simp
          clear hy hRR b0 hv hp hg hj hd AL l1 l2 BO hg1 GB00 c0 hla0 hlb0 hnm hmb hk h8 hK
          go_wp2_with (with_reducible refine wpList_append_lies _ ?_ (.tmp 40) (.tmp 42) 29 ?_ base 63 inf (.slice none 0 0) 1 24 Try.underlying29 hinf hz hs1 hs2 ?_ ?_ la0 Kn vs ?_ HLA.out ⟨wr.heap.size, 0, none⟩ 1 1 [.slice (some ⟨y, 0, none⟩) i i] ?_ ?_ HNW.out HON.out ?_ H63.out HBY.out HBA.out (wr.heap.size + 1) ?_ ?_
                       · rfl
                       · rfl
                       · rfl
                       · decide
                       · rfl
                       · rfl
                       · rfl
                       · decide
                       · exact wasz
                       intro lg lc w1 O1 G1 hat hlt
                       replace G1 := Chg.grown G1
                       have GB0 := GA.chg G1 g8
                       have cgb : w1.cell? ⟨gb, 6, none⟩ = some la0 := by rw [GB0.cell, gvC_get _ _ (by decide)]; exact congrArg some HLA0.out
                       have fgb := GB0.frozen 6)
          have lgg : ¬ lg = gb := by obtain ⟨C, hC⟩ := ownsRow_blk O1 (k := lg) (by rw [ob_slice]; simp); exact hC.ne GB0 (by decide)
          have DJ : ¬ lg ∈ ob lb0 := by
            rcases hat with h | h
            · exact HD0.out lg (by simp [ob, h])
            · intro hx
              have := HLT.out lg hx
              omega
          have GB := (GB0.setCell 6 (.slice (some ⟨lg, 0, none⟩) (Kn + 1) lc)).to (gvC_set _ _ _)
          have BO1 := (BA.chg G1 y8).setOther yg 6 (.slice (some ⟨lg, 0, none⟩) (Kn + 1) lc)
          have SV := (Chg.refl w1 [gb]).setIn (k := gb) (by simp) 6 (.slice (some ⟨lg, 0, none⟩) (Kn + 1) lc)
          have LA1 := ownsRow_chg O1 SV (by rw [ob_slice]; simpa using lgg)
          have LB2 := ownsRow_chg (ownsRow_chg LB1 G1 (fun x hx hx' => HD0.out x hx' hx)) SV (fun x hx he => g9 (by simp at he; exact he ▸ hx))
          have CV := (CA.trans G1 (fun x hx => Or.inl (HIN.out x hx))).setIn HGI.out 6 (.slice (some ⟨lg, 0, none⟩) (Kn + 1) lc)
          have bV : base ≤ (w1.setCell ⟨gb, 6, none⟩ (.slice (some ⟨lg, 0, none⟩) (Kn + 1) lc)).heap.size := Nat.le_trans ybs CV.size
          clear SV cgb fgb GB0 O1 G1 GA BA LB1 CA HLA HNW HON HBA wasz cg0 hat hlt HD0 HLT HIN
          generalize w1.setCell ⟨gb, 6, none⟩ (.slice (some ⟨lg, 0, none⟩) (Kn + 1) lc) = V at *
          have HBV : Hid (base ≤ V.heap.size) := bV
          refine wp_region_held_drew (S := fun w' => Chg V w' (gb :: ob lb0)) (by kernel_rfl) ((Chg.refl V _).drew) (fun hHeld => ?_)
          replace GB := GB.drew
          replace BO1 := BO1.drew
          replace LA1 := ownsRow_chg LA1 ((Chg.refl V []).drew) (by simp)
          replace LB2 := ownsRow_chg LB2 ((Chg.refl V []).drew) (by simp)
          refine take_val (v := ?_) 0 (some 46) rfl (by kernel_rfl) (by kernel_rfl) (by kernel_rfl) (fun _ _ _ h => h) rfl rfl (fun w hSw => ?_) hHeld ?_
          rotate_left
          · (go_simp; try with_reducible rfl)
          try simp only [Act.put, List.setIfInBounds_toArray, List.set_cons_zero, List.set_cons_succ]
          refine take_val (v := ?_) 1 (some 47) rfl (by kernel_rfl) (by kernel_rfl) (by kernel_rfl) (fun _ _ _ h => h) rfl rfl (fun w hSw => ?_) hHeld ?_
          rotate_left
          · (go_simp; try with_reducible rfl)
          try simp only [Act.put, List.setIfInBounds_toArray, List.set_cons_zero, List.set_cons_succ]
          refine take_val (v := ?_) 2 (some 48) rfl (by kernel_rfl) (by kernel_rfl) (by kernel_rfl) (fun _ _ _ h => h) rfl rfl (fun w hSw => ?_) hHeld ?_
          rotate_left
          · (go_simp; try with_reducible rfl)
          try simp only [Act.put, List.setIfInBounds_toArray, List.set_cons_zero, List.set_cons_succ]
          refine take_val (v := ?_) 3 (some 49) rfl (by kernel_rfl) (by kernel_rfl) (by kernel_rfl) (fun _ _ _ h => h) rfl rfl (fun w hSw => ?_) hHeld ?_
          rotate_left
          · (go_simp; try with_reducible rfl)
          try simp only [Act.put, List.setIfInBounds_toArray, List.set_cons_zero, List.set_cons_succ]
          refine take_val (v := ?_) 5 (some 51) rfl (by kernel_rfl) (by kernel_rfl) (by kernel_rfl) (fun _ _ _ h => h) rfl rfl (fun w hSw => ?_) hHeld ?_
          rotate_left
          · (go_simp; try with_reducible rfl)
          try simp only [Act.put, List.setIfInBounds_toArray, List.set_cons_zero, List.set_cons_succ]
          refine wpAnyH_ready (rs := [4, 6]) (by kernel_rfl) (by simp) ?_
          refine AllReadyH.cons (o := _) rfl (fun K hK => ?_) ?_
          ·
            have cg := GB.cell 7
            rw [gvC_get _ _ (by decide), upV_other _ _ _ _ (by decide), show G 7 = lb0 from HLB0.out] at cg
            rw [if_pos (by rfl)]
            go_simp
            refine hK.out _ _ (hHeld) (fun hHeld => ?_)
            clear hK K
            try simp only [Act.put, List.setIfInBounds_toArray, List.set_cons_zero, List.set_cons_succ]
            refine wpAnyH_ready (rs := [6]) (by kernel_rfl) (by simp) ?_
            refine AllReadyH.cons (o := _) rfl (fun K hK => ?_) ?_
            ·
              go_simp
              refine (CopyFes_s (.slice (some ⟨y, 0, none⟩) i i) i RR _ HI0.out HIM.out ⟨HOK.out, Or.inr ⟨y, 0, i, rfl, Nat.le_refl _, by have := HIM.out; omega, BO1.lt, fun j hj => by rw [Nat.zero_add]; exact BO1.rangeRw HOK.out hj⟩⟩).mono ?_
              rintro e v7 ⟨xg, xc, rfl, OX, k7⟩
              go_wp2_with fail
              refine hK.out _ _ (hHeld.trans1 k7.wide) (fun hHeld => ?_)
              clear hK K
              try simp only [Act.put, List.setIfInBounds_toArray, List.set_cons_zero, List.set_cons_succ]
              replace GB := GB.chg k7 (by simp)
              replace BO1 := BO1.chg k7 (by simp)
              replace LA1 := ownsRow_chg LA1 k7 (by simp)
              replace LB2 := ownsRow_chg LB2 k7 (by simp)
              have bv7 : base ≤ v7.heap.size := Nat.le_trans HBV.out k7.size
              have lglt : lg < v7.heap.size := by obtain ⟨C, hC⟩ := ownsRow_blk LA1 (k := lg) (by rw [ob_slice]; simp); exact hC.lt
              have xg9 : ¬ xg ∈ ob lb0 := fun hx => by obtain ⟨C, hC⟩ := ownsRow_blk LB2 hx; obtain ⟨D, hD⟩ := ownR_blk OX (k := xg) (by rw [ob_slice]; simp); exact hD.ne hC (by decide) rfl
              have xgg : ¬ xg = gb := by obtain ⟨D, hD⟩ := ownR_blk OX (k := xg) (by rw [ob_slice]; simp); exact hD.ne GB (by decide)
              clear k7
              refine wpAnyH_ready (rs := [7]) (by kernel_rfl) (by simp) ?_
              refine AllReadyH.cons (o := _) rfl (fun K hK => ?_) ?_
              ·
                rw [if_pos (by rfl)]
                go_simp
                refine hK.out _ _ (hHeld.alloc _) (fun hHeld => ?_)
                clear hK K
                try simp only [Act.put, List.setIfInBounds_toArray, List.set_cons_zero, List.set_cons_succ]
                have AL := Blk.new v7 #[.slice (some ⟨xg, 0, none⟩) i xc] 63
                replace GB := GB.alloc (.cells #[.slice (some ⟨xg, 0, none⟩) i xc] 63)
                replace BO1 := BO1.alloc (.cells #[.slice (some ⟨xg, 0, none⟩) i xc] 63)
                replace LA1 := LA1.alloc (.cells #[.slice (some ⟨xg, 0, none⟩) i xc] 63)
                replace LB2 := LB2.alloc (.cells #[.slice (some ⟨xg, 0, none⟩) i xc] 63)
                replace OX := OX.chg ((Chg.refl v7 []).alloc (.cells #[.slice (some ⟨xg, 0, none⟩) i xc] 63)) (by simp)
                refine wpAnyH_ready (rs := [8]) (by kernel_rfl) (by simp) ?_
                refine AllReadyH.cons (o := _) rfl (fun K hK => ?_) ?_
                ·
                  rw [if_pos (by rfl)]
                  refine wp_append_lies _ (.tmp 50) (.tmp 53) 29 rfl base 63 inf (.slice none 0 0) 1 24 Try.underlying29 hinf hz hs1 hs2 rfl (by decide) lb0 Kn us rfl LB2 ⟨v7.heap.size, 0, none⟩ 1 1 [.slice (some ⟨xg, 0, none⟩) i xc] rfl rfl (fun j u hj => add_cell (by rw [Nat.zero_add, AL.cell]; simpa using hj)) (by simp [Value.oneCell']) (by decide) H63.out HBY.out (by simp; omega) (v7.heap.size + 1) (by simp) ?_
                  intro mg mc w8 O8 G8 hat8 hlt8
                  replace G8 := Chg.grown G8
                  have DJ2 : ¬ lg = mg := by
                    rcases hat8 with h | h
                    · intro e; exact DJ (by simp [ob, h, e])
                    · omega
                  refine hK.out _ _ (hHeld.trans1 (G8.incl (fun x hx => List.mem_cons_of_mem _ hx))) (fun hHeld => ?_)
                  clear hK K
                  try simp only [Act.put, List.setIfInBounds_toArray, List.set_cons_zero, List.set_cons_succ]
                  replace GB := GB.chg G8 g9
                  replace BO1 := BO1.chg G8 y9
                  replace LA1 := ownsRow_chg LA1 G8 (by rw [ob_slice]; simpa using DJ)
                  replace OX := OX.chg G8 (by rw [ob_slice]; simpa using xg9)
                  have mgg : ¬ mg = gb := by obtain ⟨C, hC⟩ := ownsRow_blk O8 (k := mg) (by rw [ob_slice]; simp); exact hC.ne GB (by decide)
                  clear G8 AL hat8 hlt8 LB2
                  refine take_val (v := ?_) 9 (some 55) rfl (by kernel_rfl) (by kernel_rfl) (by kernel_rfl) (fun _ _ _ h => h) rfl rfl (fun w hSw => ?_) hHeld ?_
                  rotate_left
                  · (go_simp; try with_reducible rfl)
                  try simp only [Act.put, List.setIfInBounds_toArray, List.set_cons_zero, List.set_cons_succ]
                  refine take_val (v := ?_) 10 (some 56) rfl (by kernel_rfl) (by kernel_rfl) (by kernel_rfl) (fun _ _ _ h => h) rfl rfl (fun w hSw => ?_) hHeld ?_
                  rotate_left
                  · (go_simp; try with_reducible rfl)
                  try simp only [Act.put, List.setIfInBounds_toArray, List.set_cons_zero, List.set_cons_succ]
                  refine wpAnyH_ready (rs := [11]) (by kernel_rfl) (by simp) ?_
                  refine AllReadyH.cons (o := _) rfl (fun K hK => ?_) ?_
                  ·
                    have cg := GB.cell 7
                    rw [gvC_get _ _ (by decide), upV_other _ _ _ _ (by decide), show G 7 = lb0 from HLB0.out] at cg
                    have fg := GB.frozen 7
                    rw [if_pos (by rfl)]
                    go_simp
                    refine hK.out _ _ (hHeld.setIn (by simp) _ _) (fun hHeld => ?_)
                    clear hK K
                    try simp only [Act.put, List.setIfInBounds_toArray, List.set_cons_zero, List.set_cons_succ]
                    refine wpAnyH_done (by kernel_rfl) ?_ _
                    have GB2 := (GB.setCell 7 (.slice (some ⟨mg, 0, none⟩) (Kn + 1) mc)).to (gvC_set _ _ _)
                    have SC := (Chg.refl w8 [gb]).setIn (k := gb) (by simp) 7 (.slice (some ⟨mg, 0, none⟩) (Kn + 1) mc)
                    have BO2 := BO1.chg SC (by simpa using yg)
                    have LA2 := ownsRow_chg LA1 SC (by rw [ob_slice]; simpa using lgg)
                    have LB3 := ownsRow_chg O8 SC (by rw [ob_slice]; simpa using mgg)
                    have OX2 := OX.chg SC (by rw [ob_slice]; simpa using xgg)
                    have C9 := CV.trans hHeld (fun x hx => Or.inl (HIN9.out x hx))
                    clear hHeld SC
                    go_wp2_with fail
                    go_ret
                    refine ⟨_, rfl, y, .slice (some ⟨lg, 0, none⟩) (Kn + 1) lc, .slice (some ⟨mg, 0, none⟩) (Kn + 1) mc, rfl, by rw [show w.heap.size = y from HY.out]; exact Nat.le_refl _, (HCW.out.wide).trans1 C9, by rw [show gvR (fR (mkS 987)) (fR f) k = RR from HRR.out]; exact BO2, ?_⟩
                    rw [show gvR (fR (mkS 987)) (fR f) k = RR from HRR.out]
                    exact Gv.more HG1.out (by decide) (by decide) C9 HL1.out HL2.out HJ.out GB2 LA2 LB3 (by rw [ob_slice, ob_slice]; intro x hx hx'; simp at hx hx'; exact DJ2 (hx.symm.trans hx')) (by have := HIM.out; omega) BO2 ⟨ownsRow_base OX2.1 HBV.out, OX2.2⟩
                  exact AllReadyH.nil
                exact AllReadyH.nil
              exact AllReadyH.nil
            exact AllReadyH.nil
          refine AllReadyH.cons (o := _) rfl (fun K hK => ?_) ?_
          ·
            go_simp
            refine (CopyFes_s (.slice (some ⟨y, 0, none⟩) i i) i RR _ HI0.out HIM.out ⟨HOK.out, Or.inr ⟨y, 0, i, rfl, Nat.le_refl _, by have := HIM.out; omega, BO1.lt, fun j hj => by rw [Nat.zero_add]; exact BO1.rangeRw HOK.out hj⟩⟩).mono ?_
            rintro e v7 ⟨xg, xc, rfl, OX, k7⟩
            go_wp2_with fail
            refine hK.out _ _ (hHeld.trans1 k7.wide) (fun hHeld => ?_)
            clear hK K
            try simp only [Act.put, List.setIfInBounds_toArray, List.set_cons_zero, List.set_cons_succ]
            replace GB := GB.chg k7 (by simp)
            replace BO1 := BO1.chg k7 (by simp)
            replace LA1 := ownsRow_chg LA1 k7 (by simp)
            replace LB2 := ownsRow_chg LB2 k7 (by simp)
            have bv7 : base ≤ v7.heap.size := Nat.le_trans HBV.out k7.size
            have lglt : lg < v7.heap.size := by obtain ⟨C, hC⟩ := ownsRow_blk LA1 (k := lg) (by rw [ob_slice]; simp); exact hC.lt
            have xg9 : ¬ xg ∈ ob lb0 := fun hx => by obtain ⟨C, hC⟩ := ownsRow_blk LB2 hx; obtain ⟨D, hD⟩ := ownR_blk OX (k := xg) (by rw [ob_slice]; simp); exact hD.ne hC (by decide) rfl
            have xgg : ¬ xg = gb := by obtain ⟨D, hD⟩ := ownR_blk OX (k := xg) (by rw [ob_slice]; simp); exact hD.ne GB (by decide)
            clear k7
            refine wpAnyH_ready (rs := [4, 7]) (by kernel_rfl) (by simp) ?_
            refine AllReadyH.cons (o := _) rfl (fun K hK => ?_) ?_
            ·
              have cg := GB.cell 7
              rw [gvC_get _ _ (by decide), upV_other _ _ _ _ (by decide), show G 7 = lb0 from HLB0.out] at cg
              rw [if_pos (by rfl)]
              go_simp
              refine hK.out _ _ (hHeld) (fun hHeld => ?_)
              clear hK K
              try simp only [Act.put, List.setIfInBounds_toArray, List.set_cons_zero, List.set_cons_succ]
              refine wpAnyH_ready (rs := [7]) (by kernel_rfl) (by simp) ?_
              refine AllReadyH.cons (o := _) rfl (fun K hK => ?_) ?_
              ·
                rw [if_pos (by rfl)]
                go_simp
                refine hK.out _ _ (hHeld.alloc _) (fun hHeld => ?_)
                clear hK K
                try simp only [Act.put, List.setIfInBounds_toArray, List.set_cons_zero, List.set_cons_succ]
                have AL := Blk.new v7 #[.slice (some ⟨xg, 0, none⟩) i xc] 63
                replace GB := GB.alloc (.cells #[.slice (some ⟨xg, 0, none⟩) i xc] 63)
                replace BO1 := BO1.alloc (.cells #[.slice (some ⟨xg, 0, none⟩) i xc] 63)
                replace LA1 := LA1.alloc (.cells #[.slice (some ⟨xg, 0, none⟩) i xc] 63)
                replace LB2 := LB2.alloc (.cells #[.slice (some ⟨xg, 0, none⟩) i xc] 63)
                replace OX := OX.chg ((Chg.refl v7 []).alloc (.cells #[.slice (some ⟨xg, 0, none⟩) i xc] 63)) (by simp)
                refine wpAnyH_ready (rs := [8]) (by kernel_rfl) (by simp) ?_
                refine AllReadyH.cons (o := _) rfl (fun K hK => ?_) ?_
                ·
                  rw [if_pos (by rfl)]
                  refine wp_append_lies _ (.tmp 50) (.tmp 53) 29 rfl base 63 inf (.slice none 0 0) 1 24 Try.underlying29 hinf hz hs1 hs2 rfl (by decide) lb0 Kn us rfl LB2 ⟨v7.heap.size, 0, none⟩ 1 1 [.slice (some ⟨xg, 0, none⟩) i xc] rfl rfl (fun j u hj => add_cell (by rw [Nat.zero_add, AL.cell]; simpa using hj)) (by simp [Value.oneCell']) (by decide) H63.out HBY.out (by simp; omega) (v7.heap.size + 1) (by simp) ?_
                  intro mg mc w8 O8 G8 hat8 hlt8
                  replace G8 := Chg.grown G8
                  have DJ2 : ¬ lg = mg := by
                    rcases hat8 with h | h
                    · intro e; exact DJ (by simp [ob, h, e])
                    · omega
                  refine hK.out _ _ (hHeld.trans1 (G8.incl (fun x hx => List.mem_cons_of_mem _ hx))) (fun hHeld => ?_)
                  clear hK K
                  try simp only [Act.put, List.setIfInBounds_toArray, List.set_cons_zero, List.set_cons_succ]
                  replace GB := GB.chg G8 g9
                  replace BO1 := BO1.chg G8 y9
                  replace LA1 := ownsRow_chg LA1 G8 (by rw [ob_slice]; simpa using DJ)
                  replace OX := OX.chg G8 (by rw [ob_slice]; simpa using xg9)
                  have mgg : ¬ mg = gb := by obtain ⟨C, hC⟩ := ownsRow_blk O8 (k := mg) (by rw [ob_slice]; simp); exact hC.ne GB (by decide)
                  clear G8 AL hat8 hlt8 LB2
                  refine take_val (v := ?_) 9 (some 55) rfl (by kernel_rfl) (by kernel_rfl) (by kernel_rfl) (fun _ _ _ h => h) rfl rfl (fun w hSw => ?_) hHeld ?_
                  rotate_left
                  · (go_simp; try with_reducible rfl)
                  try simp only [Act.put, List.setIfInBounds_toArray, List.set_cons_zero, List.set_cons_succ]
                  refine take_val (v := ?_) 10 (some 56) rfl (by kernel_rfl) (by kernel_rfl) (by kernel_rfl) (fun _ _ _ h => h) rfl rfl (fun w hSw => ?_) hHeld ?_
                  rotate_left
                  · (go_simp; try with_reducible rfl)
                  try simp only [Act.put, List.setIfInBounds_toArray, List.set_cons_zero, List.set_cons_succ]
                  refine wpAnyH_ready (rs := [11]) (by kernel_rfl) (by simp) ?_
                  refine AllReadyH.cons (o := _) rfl (fun K hK => ?_) ?_
                  ·
                    have cg := GB.cell 7
                    rw [gvC_get _ _ (by decide), upV_other _ _ _ _ (by decide), show G 7 = lb0 from HLB0.out] at cg
                    have fg := GB.frozen 7
                    rw [if_pos (by rfl)]
                    go_simp
                    refine hK.out _ _ (hHeld.setIn (by simp) _ _) (fun hHeld => ?_)
                    clear hK K
                    try simp only [Act.put, List.setIfInBounds_toArray, List.set_cons_zero, List.set_cons_succ]
                    refine wpAnyH_done (by kernel_rfl) ?_ _
                    have GB2 := (GB.setCell 7 (.slice (some ⟨mg, 0, none⟩) (Kn + 1) mc)).to (gvC_set _ _ _)
                    have SC := (Chg.refl w8 [gb]).setIn (k := gb) (by simp) 7 (.slice (some ⟨mg, 0, none⟩) (Kn + 1) mc)
                    have BO2 := BO1.chg SC (by simpa using yg)
                    have LA2 := ownsRow_chg LA1 SC (by rw [ob_slice]; simpa using lgg)
                    have LB3 := ownsRow_chg O8 SC (by rw [ob_slice]; simpa using mgg)
                    have OX2 := OX.chg SC (by rw [ob_slice]; simpa using xgg)
                    have C9 := CV.trans hHeld (fun x hx => Or.inl (HIN9.out x hx))
                    clear hHeld SC
                    go_wp2_with fail
                    go_ret
                    refine ⟨_, rfl, y, .slice (some ⟨lg, 0, none⟩) (Kn + 1) lc, .slice (some ⟨mg, 0, none⟩) (Kn + 1) mc, rfl, by rw [show w.heap.size = y from HY.out]; exact Nat.le_refl _, (HCW.out.wide).trans1 C9, by rw [show gvR (fR (mkS 987)) (fR f) k = RR from HRR.out]; exact BO2, ?_⟩
                    rw [show gvR (fR (mkS 987)) (fR f) k = RR from HRR.out]
                    exact Gv.more HG1.out (by decide) (by decide) C9 HL1.out HL2.out HJ.out GB2 LA2 LB3 (by rw [ob_slice, ob_slice]; intro x hx hx'; simp at hx hx'; exact DJ2 (hx.symm.trans hx')) (by have := HIM.out; omega) BO2 ⟨ownsRow_base OX2.1 HBV.out, OX2.2⟩
                  exact AllReadyH.nil
                exact AllReadyH.nil
              exact AllReadyH.nil
            refine AllReadyH.cons (o := _) rfl (fun K hK => ?_) ?_
            ·
              rw [if_pos (by rfl)]
              go_simp
              refine hK.out _ _ (hHeld.alloc _) (fun hHeld => ?_)
              clear hK K
              try simp only [Act.put, List.setIfInBounds_toArray, List.set_cons_zero, List.set_cons_succ]
              have AL := Blk.new v7 #[.slice (some ⟨xg, 0, none⟩) i xc] 63
              replace GB := GB.alloc (.cells #[.slice (some ⟨xg, 0, none⟩) i xc] 63)
              replace BO1 := BO1.alloc (.cells #[.slice (some ⟨xg, 0, none⟩) i xc] 63)
              replace LA1 := LA1.alloc (.cells #[.slice (some ⟨xg, 0, none⟩) i xc] 63)
              replace LB2 := LB2.alloc (.cells #[.slice (some ⟨xg, 0, none⟩) i xc] 63)
              replace OX := OX.chg ((Chg.refl v7 []).alloc (.cells #[.slice (some ⟨xg, 0, none⟩) i xc] 63)) (by simp)
              refine wpAnyH_ready (rs := [4]) (by kernel_rfl) (by simp) ?_
              refine AllReadyH.cons (o := _) rfl (fun K hK => ?_) ?_
              ·
                have cg := GB.cell 7
                rw [gvC_get _ _ (by decide), upV_other _ _ _ _ (by decide), show G 7 = lb0 from HLB0.out] at cg
                rw [if_pos (by rfl)]
                go_simp
                refine hK.out _ _ (hHeld) (fun hHeld => ?_)
                clear hK K
                try simp only [Act.put, List.setIfInBounds_toArray, List.set_cons_zero, List.set_cons_succ]
                refine wpAnyH_ready (rs := [8]) (by kernel_rfl) (by simp) ?_
                refine AllReadyH.cons (o := _) rfl (fun K hK => ?_) ?_
                ·
                  rw [if_pos (by rfl)]
                  refine wp_append_lies _ (.tmp 50) (.tmp 53) 29 rfl base 63 inf (.slice none 0 0) 1 24 Try.underlying29 hinf hz hs1 hs2 rfl (by decide) lb0 Kn us rfl LB2 ⟨v7.heap.size, 0, none⟩ 1 1 [.slice (some ⟨xg, 0, none⟩) i xc] rfl rfl (fun j u hj => add_cell (by rw [Nat.zero_add, AL.cell]; simpa using hj)) (by simp [Value.oneCell']) (by decide) H63.out HBY.out (by simp; omega) (v7.heap.size + 1) (by simp) ?_
                  intro mg mc w8 O8 G8 hat8 hlt8
                  replace G8 := Chg.grown G8
                  have DJ2 : ¬ lg = mg := by
                    rcases hat8 with h | h
                    · intro e; exact DJ (by simp [ob, h, e])
                    · omega
                  refine hK.out _ _ (hHeld.trans1 (G8.incl (fun x hx => List.mem_cons_of_mem _ hx))) (fun hHeld => ?_)
                  clear hK K
                  try simp only [Act.put, List.setIfInBounds_toArray, List.set_cons_zero, List.set_cons_succ]
                  replace GB := GB.chg G8 g9
                  replace BO1 := BO1.chg G8 y9
                  replace LA1 := ownsRow_chg LA1 G8 (by rw [ob_slice]; simpa using DJ)
                  replace OX := OX.chg G8 (by rw [ob_slice]; simpa using xg9)
                  have mgg : ¬ mg = gb := by obtain ⟨C, hC⟩ := ownsRow_blk O8 (k := mg) (by rw [ob_slice]; simp); exact hC.ne GB (by decide)
                  clear G8 AL hat8 hlt8 LB2
                  refine take_val (v := ?_) 9 (some 55) rfl (by kernel_rfl) (by kernel_rfl) (by kernel_rfl) (fun _ _ _ h => h) rfl rfl (fun w hSw => ?_) hHeld ?_
                  rotate_left
                  · (go_simp; try with_reducible rfl)
                  try simp only [Act.put, List.setIfInBounds_toArray, List.set_cons_zero, List.set_cons_succ]
                  refine take_val (v := ?_) 10 (some 56) rfl (by kernel_rfl) (by kernel_rfl) (by kernel_rfl) (fun _ _ _ h => h) rfl rfl (fun w hSw => ?_) hHeld ?_
                  rotate_left
                  · (go_simp; try with_reducible rfl)
                  try simp only [Act.put, List.setIfInBounds_toArray, List.set_cons_zero, List.set_cons_succ]
                  refine wpAnyH_ready (rs := [11]) (by kernel_rfl) (by simp) ?_
                  refine AllReadyH.cons (o := _) rfl (fun K hK => ?_) ?_
                  ·
                    have cg := GB.cell 7
                    rw [gvC_get _ _ (by decide), upV_other _ _ _ _ (by decide), show G 7 = lb0 from HLB0.out] at cg
                    have fg := GB.frozen 7
                    rw [if_pos (by rfl)]
                    go_simp
                    refine hK.out _ _ (hHeld.setIn (by simp) _ _) (fun hHeld => ?_)
                    clear hK K
                    try simp only [Act.put, List.setIfInBounds_toArray, List.set_cons_zero, List.set_cons_succ]
                    refine wpAnyH_done (by kernel_rfl) ?_ _
                    have GB2 := (GB.setCell 7 (.slice (some ⟨mg, 0, none⟩) (Kn + 1) mc)).to (gvC_set _ _ _)
                    have SC := (Chg.refl w8 [gb]).setIn (k := gb) (by simp) 7 (.slice (some ⟨mg, 0, none⟩) (Kn + 1) mc)
                    have BO2 := BO1.chg SC (by simpa using yg)
                    have LA2 := ownsRow_chg LA1 SC (by rw [ob_slice]; simpa using lgg)
                    have LB3 := ownsRow_chg O8 SC (by rw [ob_slice]; simpa using mgg)
                    have OX2 := OX.chg SC (by rw [ob_slice]; simpa using xgg)
                    have C9 := CV.trans hHeld (fun x hx => Or.inl (HIN9.out x hx))
                    clear hHeld SC
                    go_wp2_with fail
                    go_ret
                    refine ⟨_, rfl, y, .slice (some ⟨lg, 0, none⟩) (Kn + 1) lc, .slice (some ⟨mg, 0, none⟩) (Kn + 1) mc, rfl, by rw [show w.heap.size = y from HY.out]; exact Nat.le_refl _, (HCW.out.wide).trans1 C9, by rw [show gvR (fR (mkS 987)) (fR f) k = RR from HRR.out]; exact BO2, ?_⟩
                    rw [show gvR (fR (mkS 987)) (fR f) k = RR from HRR.out]
                    exact Gv.more HG1.out (by decide) (by decide) C9 HL1.out HL2.out HJ.out GB2 LA2 LB3 (by rw [ob_slice, ob_slice]; intro x hx hx'; simp at hx hx'; exact DJ2 (hx.symm.trans hx')) (by have := HIM.out; omega) BO2 ⟨ownsRow_base OX2.1 HBV.out, OX2.2⟩
                  exact AllReadyH.nil
                exact AllReadyH.nil
              exact AllReadyH.nil
            exact AllReadyH.nil
          exact AllReadyH.nil
end
end Go.Proofs.Ytialljmkkichiaa
