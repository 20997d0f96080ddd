/- Lists of rows: s cells an element. Of no package. -/
import Derived.Test.YtjppbngimacgnaaGreatDoorByt
import Derived.Deep.AppendLies
set_option linter.unusedVariables false
set_option linter.unusedSimpArgs false
set_option linter.unnecessarySimpa false
namespace Go.Proofs.YtjppbngimacgnaaGreatDoor
open Go.RowKit

/-- m rows F of s cells each, one behind the other. -/
def rL (s m : Nat) (F : Nat → List Value) : List Value := (List.range (m * s)).map fun k => ((F (k / s))[k % s]?).getD (.int .u8 0)
/-- Each of the m rows has s cells, and each is one. -/
def Rok (s m : Nat) (F : Nat → List Value) : Prop := ∀ i, i < m → (F i).length = s ∧ ∀ v ∈ F i, v.oneCell' = true
theorem rL_len (s m : Nat) (F : Nat → List Value) : (rL s m F).length = m * s := by simp [rL]
theorem row_lt {s m i j : Nat} (hi : i < m) (hj : j < s) : i * s + j < m * s := by
  have h : (i + 1) * s ≤ m * s := Nat.mul_le_mul_right s hi
  rw [Nat.add_mul, Nat.one_mul] at h
  omega
theorem row_div {s i j : Nat} (hj : j < s) : (i * s + j) / s = i := by
  rw [Nat.add_comm, Nat.add_mul_div_right _ _ (by omega), Nat.div_eq_of_lt hj, Nat.zero_add]
theorem row_mod {s i j : Nat} (hj : j < s) : (i * s + j) % s = j := by
  rw [Nat.add_comm, Nat.add_mul_mod_self_right, Nat.mod_eq_of_lt hj]
theorem row_at {s m k : Nat} (h : k < m * s) : k / s < m ∧ k % s < s ∧ k = k / s * s + k % s := by
  have hs : 0 < s := by
    rcases Nat.eq_zero_or_pos s with rfl | h0
    · simp at h
    · exact h0
  refine ⟨(Nat.div_lt_iff_lt_mul hs).2 h, Nat.mod_lt _ hs, ?_⟩
  have := Nat.div_add_mod k s
  rw [Nat.mul_comm] at this
  omega
theorem rL_get {s m : Nat} {F : Nat → List Value} (hF : Rok s m F) {i j : Nat} (hi : i < m) (hj : j < s) : (rL s m F)[i * s + j]? = (F i)[j]? := by
  have hl := (hF i hi).1
  rw [rL, List.getElem?_map, List.getElem?_range (row_lt hi hj), Option.map_some, row_div hj, row_mod hj, List.getElem?_eq_getElem (by omega)]
  rfl
theorem rL_at {s m : Nat} {F : Nat → List Value} (hF : Rok s m F) {k : Nat} (h : k < m * s) : (rL s m F)[k]? = (F (k / s))[k % s]? := by
  obtain ⟨h1, h2, h3⟩ := row_at h
  have := rL_get hF h1 h2
  rwa [← h3] at this
theorem rL_congr {s m : Nat} {F G : Nat → List Value} (h : ∀ i, i < m → F i = G i) : rL s m F = rL s m G := by
  apply List.ext_getElem?
  intro k
  by_cases hk : k < m * s
  · rw [rL, rL, List.getElem?_map, List.getElem?_map, List.getElem?_range hk, Option.map_some, Option.map_some, h _ (row_at hk).1]
  · rw [List.getElem?_eq_none (by rw [rL_len]; omega), List.getElem?_eq_none (by rw [rL_len]; omega)]
theorem rL_one {s m : Nat} {F : Nat → List Value} (hF : Rok s m F) : ∀ v ∈ rL s m F, v.oneCell' = true := by
  intro v hv
  obtain ⟨k, hk, he⟩ := List.getElem_of_mem hv
  have hk' : k < m * s := by rw [rL_len] at hk; exact hk
  have h2 : (rL s m F)[k]? = some v := by rw [List.getElem?_eq_getElem hk, he]
  rw [rL_at hF hk'] at h2
  exact (hF _ (row_at hk').1).2 v (List.mem_of_getElem? h2)
/-- n rows F, and behind them G. -/
def catR (F : Nat → List Value) (n : Nat) (G : Nat → List Value) : Nat → List Value := fun i => if i < n then F i else G (i - n)
theorem rL_cat (s n m : Nat) (F G : Nat → List Value) : rL s n F ++ rL s m G = rL s (n + m) (catR F n G) := by
  apply List.ext_getElem?
  intro k
  have e : (n + m) * s = n * s + m * s := Nat.add_mul n m s
  by_cases h : k < n * s
  · rw [List.getElem?_append_left (by rw [rL_len]; exact h), rL, rL, List.getElem?_map, List.getElem?_map, List.getElem?_range h, List.getElem?_range (by omega), Option.map_some, Option.map_some]
    unfold catR
    rw [if_pos (row_at h).1]
  · rw [List.getElem?_append_right (by rw [rL_len]; omega), rL_len]
    by_cases h2 : k < (n + m) * s
    · obtain ⟨h3, h4, h5⟩ := row_at h2
      have hn : ¬ k / s < n := fun hc => h (by have := row_lt hc h4; omega)
      have e2 : k - n * s = (k / s - n) * s + k % s := by
        rw [Nat.sub_mul]
        have : n * s ≤ k / s * s := Nat.mul_le_mul_right s (by omega)
        omega
      rw [rL, rL, List.getElem?_map, List.getElem?_map, List.getElem?_range (by omega), List.getElem?_range h2, Option.map_some, Option.map_some, e2, row_div h4, row_mod h4]
      unfold catR
      rw [if_neg hn]
    · rw [List.getElem?_eq_none (by rw [rL_len]; omega), List.getElem?_eq_none (by rw [rL_len]; omega)]
theorem Rok.cat {s n m : Nat} {F G : Nat → List Value} (hF : Rok s n F) (hG : Rok s m G) : Rok s (n + m) (catR F n G) := by
  intro i hi
  unfold catR
  by_cases h : i < n
  · rw [if_pos h]; exact hF i h
  · rw [if_neg h]; exact hG _ (by omega)
theorem Rok.sub {s n m : Nat} {F : Nat → List Value} (hF : Rok s n F) (h : m ≤ n) : Rok s m F := fun i hi => hF i (by omega)
/-- The row at i turned. -/
def upR (F : Nat → List Value) (i : Nat) (x : List Value) : Nat → List Value := fun j => if j = i then x else F j
theorem Rok.up {s m : Nat} {F : Nat → List Value} (hF : Rok s m F) (i : Nat) {x : List Value} (hx : x.length = s) (h1 : ∀ v ∈ x, v.oneCell' = true) : Rok s m (upR F i x) := by
  intro j hj
  unfold upR
  by_cases h : j = i
  · rw [if_pos h]; exact ⟨hx, h1⟩
  · rw [if_neg h]; exact hF j hj

/-! ### Cells set one by one -/
def setL (C : Array Value) : Nat → List Value → Array Value
  | _, [] => C
  | o, v :: r => setL (C.setIfInBounds o v) (o + 1) r
theorem setL_size (C : Array Value) (o : Nat) (vs : List Value) : (setL C o vs).size = C.size := by
  induction vs generalizing C o with
  | nil => rfl
  | cons v r ih => rw [setL, ih]; simp
theorem setL_get (C : Array Value) (o : Nat) (vs : List Value) (k : Nat) : (setL C o vs)[k]? = if o ≤ k ∧ k < o + vs.length ∧ k < C.size then vs[k - o]? else C[k]? := by
  induction vs generalizing C o with
  | nil => rw [setL, if_neg (by simp; omega)]
  | cons v r ih =>
    rw [setL, ih, Array.size_setIfInBounds]
    by_cases h : o + 1 ≤ k ∧ k < o + 1 + r.length ∧ k < C.size
    · rw [if_pos h, if_pos (by simp; omega), show k - o = (k - (o + 1)) + 1 from by omega, List.getElem?_cons_succ]
    · rw [if_neg h]
      by_cases h2 : o = k
      · subst h2
        by_cases h3 : o < C.size
        · rw [if_pos (by simp; omega), Nat.sub_self, Array.getElem?_setIfInBounds_self_of_lt h3]
          rfl
        · rw [if_neg (by omega), Array.getElem?_eq_none (by simp; omega), Array.getElem?_eq_none (by omega)]
      · rw [if_neg (by simp; omega), Array.getElem?_setIfInBounds_ne h2]
theorem Blk.setCells {w : World} {b : Nat} {C : Array Value} {T : TypeId} (h : Blk w b C T) (o : Nat) (vs : List Value) : Blk (w.setCells b o vs) b (setL C o vs) T := by
  induction vs generalizing w C o with
  | nil => exact h
  | cons v r ih => exact ih (h.setCell o v) (o + 1)
theorem Chg.setCellsIn {a w : World} {l : List Nat} {b : Nat} (h : Chg a w l) (hb : b ∈ l) (o : Nat) (vs : List Value) : Chg a (w.setCells b o vs) l := by
  induction vs generalizing w o with
  | nil => exact h
  | cons v r ih => exact ih (h.setIn hb o v) (o + 1)
theorem Chg.setCellsNew {a w : World} {l : List Nat} {b : Nat} (h : Chg a w l) (hb : a.heap.size ≤ b) (o : Nat) (vs : List Value) : Chg a (w.setCells b o vs) l := by
  induction vs generalizing w o with
  | nil => exact h
  | cons v r ih => exact ih (h.setNew hb o v) (o + 1)
theorem Blk.there {w : World} {b : Nat} {C : Array Value} {T : TypeId} (h : Blk w b C T) {o n : Nat} (hn : o + n ≤ C.size) : w.there b o n := fun j hj =>
  ⟨by rw [h.cell, Array.getElem?_eq_getElem (by omega)]; rfl, h.frozen _⟩
theorem setL_row {s m : Nat} {F : Nat → List Value} (hF : Rok s m F) {i : Nat} (hi : i < m) {x : List Value} (hx : x.length = s) (h1 : ∀ v ∈ x, v.oneCell' = true) : setL (rL s m F).toArray (i * s) x = (rL s m (upR F i x)).toArray := by
  apply Array.ext_getElem?
  intro k
  rw [setL_get, List.size_toArray, rL_len, List.getElem?_toArray, List.getElem?_toArray]
  by_cases hk : k < m * s
  · obtain ⟨h2, h3, h4⟩ := row_at hk
    rw [rL_at (hF.up i hx h1) hk, rL_at hF hk]
    unfold upR
    by_cases h : k / s = i
    · rw [if_pos h, if_pos (by rw [h] at h4; omega), show k - i * s = k % s from by rw [h] at h4; omega]
    · rw [if_neg h, if_neg]
      rintro ⟨q1, q2, _⟩
      apply h
      obtain ⟨j, hj⟩ : ∃ j, k = i * s + j := ⟨k - i * s, by omega⟩
      subst hj
      exact row_div (by omega)
  · rw [if_neg (by omega), List.getElem?_eq_none (by rw [rL_len]; omega), List.getElem?_eq_none (by rw [rL_len]; omega)]
/-- A row stored at its place of a block of rows. -/
theorem Blk.setRw {w : World} {b s m : Nat} {F : Nat → List Value} {T : TypeId} (h : Blk w b (rL s m F).toArray T) (hF : Rok s m F) {i : Nat} (hi : i < m) {x : List Value} (hx : x.length = s) (h1 : ∀ v ∈ x, v.oneCell' = true) :
    Blk (w.setCells b (i * s) x) b (rL s m (upR F i x)).toArray T := by
  have h2 := h.setCells (i * s) x
  rwa [setL_row hF hi hx h1] at h2
theorem Blk.thereRw {w : World} {b s m : Nat} {F : Nat → List Value} {T : TypeId} (h : Blk w b (rL s m F).toArray T) {i : Nat} (hi : i < m) : w.there b (i * s) s := by
  refine h.there ?_
  rw [List.size_toArray, rL_len]
  have h : (i + 1) * s ≤ m * s := Nat.mul_le_mul_right s hi
  rw [Nat.add_mul, Nat.one_mul] at h
  omega
theorem Blk.rangeRw {w : World} {b s m : Nat} {F : Nat → List Value} {T : TypeId} (h : Blk w b (rL s m F).toArray T) (hF : Rok s m F) {i : Nat} (hi : i < m) : w.rangeAt b (i * s) (F i) := fun j v hv => by
  have hj : j < s := by have := (List.getElem?_eq_some_iff.1 hv).1; rw [(hF i hi).1] at this; exact this
  rw [h.cell, List.getElem?_toArray, rL_get hF hi hj, hv]
theorem made_r (z : Array Value) (s m : Nat) (hz : z.size = s) : madeCells z (m * s) = (rL s m fun _ => z.toList).toArray := by
  unfold madeCells
  apply Array.ext_getElem?
  intro k
  by_cases h : k < m * s
  · have h2 := (row_at h).2.1
    rw [Array.getElem?_map, Array.getElem?_range, if_pos h, Option.map_some, hz, List.getElem?_toArray, rL, List.getElem?_map, List.getElem?_range h, Option.map_some, Array.getElem?_toList]
    congr 1
    rw [Array.getElem?_eq_getElem (by omega)]
    simp [getElem!_pos, hz, h2]
  · rw [Array.getElem?_eq_none (by simp; omega), List.getElem?_toArray, List.getElem?_eq_none (by rw [rL_len]; omega)]

/-! ### Slices of rows -/
theorem rangeAt_chg {w w' : World} {g o : Nat} {cs : List Value} {l : List Nat} (h : w.rangeAt g o cs) (hg : g < w.heap.size) (hc : Chg w w' l) (hn : ¬ g ∈ l) : w'.rangeAt g o cs := fun j v hv => by
  rw [← h j v hv]
  simp only [World.cell?, hc.block g hg hn]
/-- A slice of N rows F of s cells each. -/
def Rl (w : World) (s : Nat) (v : Value) (N : Nat) (F : Nat → List Value) : Prop := Rok s N F ∧
  ((N = 0 ∧ v = .slice none 0 0) ∨ ∃ g o cap, v = .slice (some ⟨g, o, none⟩) N cap ∧ N ≤ cap ∧ cap ≤ 9223372036854775807 ∧ g < w.heap.size ∧ ∀ i, i < N → w.rangeAt g (o + i * s) (F i))
theorem Rl.chg {w w' : World} {s : Nat} {v : Value} {N : Nat} {F : Nat → List Value} {l : List Nat} (h : Rl w s v N F) (hc : Chg w w' l) (ho : Off v l) : Rl w' s v N F := by
  refine ⟨h.1, ?_⟩
  rcases h.2 with h2 | ⟨g, o, cap, rfl, h1, h2, h3, h4⟩
  · exact Or.inl h2
  · exact Or.inr ⟨g, o, cap, rfl, h1, h2, Nat.lt_of_lt_of_le h3 hc.size, fun i hi => rangeAt_chg (h4 i hi) h3 hc (ho g o N cap rfl)⟩
theorem Rl.form {w : World} {s : Nat} {v : Value} {N : Nat} {F : Nat → List Value} (h : Rl w s v N F) : ∃ p c, v = .slice p N c ∧ ∀ i, i < N → ∃ g o, p = some ⟨g, o, none⟩ ∧ g < w.heap.size ∧ w.rangeAt g (o + i * s) (F i) := by
  rcases h.2 with ⟨rfl, rfl⟩ | ⟨g, o, cap, rfl, h1, h2, h3, h4⟩
  · exact ⟨none, 0, rfl, fun i hi => by omega⟩
  · exact ⟨_, cap, rfl, fun i hi => ⟨g, o, rfl, h3, h4 i hi⟩⟩
theorem Rl.new {w : World} {s : Nat} {v : Value} {N : Nat} {F : Nat → List Value} (h : Rl w s v N F) (l : List Nat) (hl : ∀ i ∈ l, w.heap.size ≤ i) : Off v l := by
  intro g o n c he hg
  rcases h.2 with ⟨_, rfl⟩ | ⟨g', o', cap, rfl, h1, h2, h3, h4⟩
  · cases he
  · simp only [Value.slice.injEq, Option.some.injEq, Addr.mk.injEq] at he
    have := hl g hg
    omega
theorem Rl.cells {w : World} {s : Nat} {g o cap N : Nat} {F : Nat → List Value} (hF : Rok s N F) (h : ∀ i, i < N → w.rangeAt g (o + i * s) (F i)) : ∀ j u, (rL s N F)[j]? = some u → w.cell? ((⟨g, o, none⟩ : Addr).add j) = some u := by
  intro k u hk
  have hl : k < N * s := by have := (List.getElem?_eq_some_iff.1 hk).1; rwa [rL_len] at this
  obtain ⟨h1, h2, h3⟩ := row_at hl
  refine add_cell ?_
  rw [rL_at hF hl] at hk
  have := h (k / s) h1 (k % s) u hk
  rwa [Nat.add_assoc, ← h3] at this
/-- v is a slice of the call's own with n rows F. -/
def OwnR (w : World) (base : Nat) (T : TypeId) (s : Nat) (v : Value) (n : Nat) (F : Nat → List Value) : Prop := w.ownsRow base T s v n (rL s n F) ∧ Rok s n F
theorem OwnR.nil (w : World) (base : Nat) (T : TypeId) (s : Nat) (F : Nat → List Value) : OwnR w base T s (.slice none 0 0) 0 F := by
  refine ⟨?_, fun i hi => by omega⟩
  have e : rL s 0 F = [] := List.eq_nil_of_length_eq_zero (by rw [rL_len]; omega)
  rw [e]
  exact World.ownsRow_nil w base T s
theorem OwnR.rl {w : World} {base : Nat} {T : TypeId} {s : Nat} {v : Value} {n : Nat} {F : Nat → List Value} (h : OwnR w base T s v n F) : Rl w s v n F := by
  obtain ⟨⟨_, h1⟩, hF⟩ := h
  refine ⟨hF, ?_⟩
  rcases h1 with ⟨rfl, rfl⟩ | ⟨g, cap, cur, rfl, hg, hh, hc, hm, hs, ht⟩
  · exact Or.inl ⟨rfl, rfl⟩
  · refine Or.inr ⟨g, 0, cap, rfl, hc, by simpa [maxLen] using hm, (Array.getElem?_eq_some_iff.1 hh).1, fun i hi j u hu => ?_⟩
    have hj : j < s := by have := (List.getElem?_eq_some_iff.1 hu).1; rw [(hF i hi).1] at this; exact this
    have e := congrArg (fun l => l[i * s + j]?) ht
    rw [List.getElem?_take_of_lt (row_lt hi hj), rL_get hF hi hj, hu, Array.getElem?_toList] at e
    rw [Nat.zero_add]
    simp [World.cell?, hh, e]
theorem OwnR.chg {w w' : World} {base : Nat} {T : TypeId} {s : Nat} {v : Value} {n : Nat} {F : Nat → List Value} {l : List Nat} (h : OwnR w base T s v n F) (hc : Chg w w' l) (ho : ∀ k ∈ ob v, ¬ k ∈ l) : OwnR w' base T s v n F := by
  obtain ⟨⟨h0, h1⟩, h2⟩ := h
  refine ⟨⟨h0, ?_⟩, h2⟩
  rcases h1 with h1 | ⟨g, cap, cur, rfl, hg, hh, hr⟩
  · exact Or.inl h1
  · refine Or.inr ⟨g, cap, cur, rfl, hg, ?_, hr⟩
    rw [hc.block g (Array.getElem?_eq_some_iff.1 hh).1 (ho g (by simp [ob, Value.ownBlock]))]
    exact hh
theorem ownsRow_chg {w w' : World} {base : Nat} {T : TypeId} {s : Nat} {v : Value} {n : Nat} {xs : List Value} {l : List Nat} (h : w.ownsRow base T s v n xs) (hc : Chg w w' l) (ho : ∀ k ∈ ob v, ¬ k ∈ l) : w'.ownsRow base T s v n xs := by
  obtain ⟨h0, h1⟩ := h
  refine ⟨h0, ?_⟩
  rcases h1 with h1 | ⟨g, cap, cur, rfl, hg, hh, hr⟩
  · exact Or.inl h1
  · refine Or.inr ⟨g, cap, cur, rfl, hg, ?_, hr⟩
    rw [hc.block g (Array.getElem?_eq_some_iff.1 hh).1 (ho g (by simp [ob, Value.ownBlock]))]
    exact hh
theorem ownsRow_base {w : World} {base base' : Nat} {T : TypeId} {s : Nat} {v : Value} {n : Nat} {xs : List Value} (h : w.ownsRow base T s v n xs) (hb : base' ≤ base) : w.ownsRow base' T s v n xs := by
  obtain ⟨h0, h1⟩ := h
  refine ⟨h0, ?_⟩
  rcases h1 with h1 | ⟨g, cap, cur, e, hg, hr⟩
  · exact Or.inl h1
  · exact Or.inr ⟨g, cap, cur, e, Nat.le_trans hb hg, hr⟩
theorem ownsRow_cell {w : World} {base : Nat} {T : TypeId} {g n cap : Nat} {xs : List Value} (h : w.ownsRow base T 1 (.slice (some ⟨g, 0, none⟩) n cap) n xs) {j : Nat} {v : Value} (hj : xs[j]? = some v) : w.cell? ⟨g, j, none⟩ = some v := by
  have := h.cells (g := g) rfl j v hj
  rwa [Addr.add_mid, Nat.zero_add] at this
/-- append(s, x...) of rows, s the call's own, at least one row appended. -/
theorem run_append_r {P : Program} (w : World) (t ty e : TypeId) (i : TypeInfo) (z : Value) (s bytes : Nat) (ht : P.underlying t = some (.slice e)) (hi : P.info? e = some i) (hz : i.zero = some z)
    (hsize : i.size = s) (hby : i.bytes = bytes) (hzs : z.cells.size = s) (hsz : 0 < s) (base : Nat) (v x : Value) (n m : Nat) (F G : Nat → List Value) (hown : OwnR w base e s v n F) (hx : Rl w s x m G) (hm : 0 < m) (hbytes : (n + m) * bytes ≤ 140737488355328) (h63 : n + m ≤ 9223372036854775807) (hbase : base ≤ w.heap.size) :
    ∃ g cap w', (Builtin.append_ #[t, t] ty #[v, x]).run P w = .ok (.slice (some ⟨g, 0, none⟩) (n + m) cap) w' ∧ OwnR w' base e s (.slice (some ⟨g, 0, none⟩) (n + m) cap) (n + m) (catR F n G) ∧ Chg w w' (ob v) ∧ (v.ownBlock = some g ∨ g = w.heap.size) ∧ g < w'.heap.size := by
  rcases hx.2 with ⟨h0, _⟩ | ⟨gx, ox, cx, rfl, h1, h2, h3, h4⟩
  · omega
  · obtain ⟨g, cap, w', hr, q1, q2, q3, q4⟩ := run_append_lies (P := P) w t ty base e i z s bytes ht hi hz hsize hby hzs hsz v n (rL s n F) hown.1 ⟨gx, ox, none⟩ m cx (rL s m G) (rL_len s m G)
      (Rl.cells (cap := cx) hx.1 h4) (rL_one hx.1) hm (by simpa [maxLen] using h63) hbytes hbase _ rfl
    rw [rL_cat] at q1
    exact ⟨g, cap, w', hr, ⟨q1, hown.2.cat hx.1⟩, Chg.grown q2, q3, q4⟩
theorem wp_append_r {P : Program} {w : World} {o : Oper} {a : Act} {K : Act → World → Prop} {Q : Exit → Act → World → Prop} (so xo : Operand) (t : TypeId)
    (ho : o.op = .call { callee := .builtin .append, args := #[so, xo], argTypes := #[t, t] })
    (e : TypeId) (i : TypeInfo) (z : Value) (s bytes : Nat) (ht : P.underlying t = some (.slice e)) (hi : P.info? e = some i) (hz : i.zero = some z)
    (hsize : i.size = s) (hby : i.bytes = bytes) (hzs : z.cells.size = s) (hsz : 0 < s) (base : Nat) (v x : Value) (n m : Nat) (F G : Nat → List Value) (hs : a.eval so = v) (hxe : a.eval xo = x) (hown : OwnR w base e s v n F) (hx : Rl w s x m G) (hm : 0 < m) (hbytes : (n + m) * bytes ≤ 140737488355328) (h63 : n + m ≤ 9223372036854775807) (hbase : base ≤ w.heap.size)
    (h : ∀ g cap w', OwnR w' base e s (.slice (some ⟨g, 0, none⟩) (n + m) cap) (n + m) (catR F n G) → Chg w w' (ob v) → (v.ownBlock = some g ∨ g = w.heap.size) → g < w'.heap.size → K (a.put o.dst (.slice (some ⟨g, 0, none⟩) (n + m) cap)) w') : o.wp P a w K Q := by
  obtain ⟨g, cap, w', hr, q1, q2, q3, q4⟩ := run_append_r (P := P) w t o.type e i z s bytes ht hi hz hsize hby hzs hsz base v x n m F G hown hx hm hbytes h63 hbase
  unfold Oper.wp execOp
  simp only [ho, resolve, invoke, builtin, Sem.run_bind, Sem.run_pure, Result.andThen_ok, List.map_toArray, List.map_cons, List.map_nil, hs, hxe, hr]
  exact h g cap w' q1 q2 q3 q4
theorem wpList_append_r {P : Program} {w : World} {ops : Array Oper} {rest : List Oper} {o : Oper} {a : Act} {Q : Exit → Act → World → Prop} (hgd : o.guard = none) (so xo : Operand) (t : TypeId)
    (ho : o.op = .call { callee := .builtin .append, args := #[so, xo], argTypes := #[t, t] })
    (e : TypeId) (i : TypeInfo) (z : Value) (s bytes : Nat) (ht : P.underlying t = some (.slice e)) (hi : P.info? e = some i) (hz : i.zero = some z)
    (hsize : i.size = s) (hby : i.bytes = bytes) (hzs : z.cells.size = s) (hsz : 0 < s) (base : Nat) (v x : Value) (n m : Nat) (F G : Nat → List Value) (hs : a.eval so = v) (hxe : a.eval xo = x) (hown : OwnR w base e s v n F) (hx : Rl w s x m G) (hm : 0 < m) (hbytes : (n + m) * bytes ≤ 140737488355328) (h63 : n + m ≤ 9223372036854775807) (hbase : base ≤ w.heap.size)
    (h : ∀ g cap w', OwnR w' base e s (.slice (some ⟨g, 0, none⟩) (n + m) cap) (n + m) (catR F n G) → Chg w w' (ob v) → (v.ownBlock = some g ∨ g = w.heap.size) → g < w'.heap.size → wpList P ops Q rest (a.put o.dst (.slice (some ⟨g, 0, none⟩) (n + m) cap)) w') : wpList P ops Q (o :: rest) a w :=
  wpList_plain hgd fun _ hK => wp_append_r so xo t ho e i z s bytes ht hi hz hsize hby hzs hsz base v x n m F G hs hxe hown hx hm hbytes h63 hbase fun g cap w' q1 q2 q3 q4 => hK _ _ (h g cap w' q1 q2 q3 q4)
/-- A row stored at its place of a block of rows. -/
theorem wp_store_rw {P : Program} {w : World} {op : Oper} {a : Act} {K : Act → World → Prop} {Q : Exit → Act → World → Prop} (ty : TypeId) (x y : Operand) (ho : op.op = .store ty x y)
    (b s m i : Nat) (F : Nat → List Value) (xs : List Value) (T : TypeId) (hx : a.eval x = .pointer (some ⟨b, i * s, none⟩)) (hy : a.eval y = .agg xs.toArray) (hb : Blk w b (rL s m F).toArray T) (hF : Rok s m F) (hi : i < m) (hl : xs.length = s) (h1 : ∀ v ∈ xs, v.oneCell' = true)
    (hinfo : (P.info? ty).map (·.size) = some s) (h : ∀ w', Blk w' b (rL s m (upR F i xs)).toArray T → Chg w w' [b] → K (a.put op.dst undef) w') : op.wp P a w K Q := by
  refine wp_store_mid ty x y ho b (i * s) xs.toArray hx hy ?_ ?_ ?_ ?_
  · rw [List.size_toArray, hl]; exact hb.thereRw hi
  · rw [List.size_toArray, hl]; exact hinfo
  · exact all_oneCell_toArray h1
  · exact h _ (hb.setRw hF hi hl h1) ((Chg.refl w [b]).setCellsIn (by simp) (i * s) xs)
theorem wpList_store_rw {P : Program} {w : World} {ops : Array Oper} {rest : List Oper} {op : Oper} {a : Act} {Q : Exit → Act → World → Prop} (hgd : op.guard = none) (ty : TypeId) (x y : Operand) (ho : op.op = .store ty x y)
    (b s m i : Nat) (F : Nat → List Value) (xs : List Value) (T : TypeId) (hx : a.eval x = .pointer (some ⟨b, i * s, none⟩)) (hy : a.eval y = .agg xs.toArray) (hb : Blk w b (rL s m F).toArray T) (hF : Rok s m F) (hi : i < m) (hl : xs.length = s) (h1 : ∀ v ∈ xs, v.oneCell' = true)
    (hinfo : (P.info? ty).map (·.size) = some s) (h : ∀ w', Blk w' b (rL s m (upR F i xs)).toArray T → Chg w w' [b] → wpList P ops Q rest (a.put op.dst undef) w') : wpList P ops Q (op :: rest) a w :=
  wpList_plain hgd fun _ hK => wp_store_rw ty x y ho b s m i F xs T hx hy hb hF hi hl h1 hinfo fun w' q1 q2 => hK _ _ (h w' q1 q2)
end Go.Proofs.YtjppbngimacgnaaGreatDoor
