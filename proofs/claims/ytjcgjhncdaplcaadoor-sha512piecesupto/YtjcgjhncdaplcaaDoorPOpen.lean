/- What comes in: a [][]byte, a []bool; the bound on what is read. -/
import Derived.Test.YtjcgjhncdaplcaaDoorSOpen
import Derived.Test.YtjcgjhncdaplcaaDoorPiecesWalk
set_option linter.constructorNameAsVariable false
set_option linter.unusedVariables false
set_option linter.unusedSimpArgs false
set_option linter.unnecessarySimpa false
namespace Go.Proofs.YtjcgjhncdaplcaaDoor
open Go.ChangeShapes Go.WideShapes Go.ChangeAt Go.RowKit Go.Deep

theorem bytesCells : Tryd.prog.cellsOf 22 = 1 := by kernel_rfl
theorem boolCells : Tryd.prog.cellsOf 4 = 1 := by kernel_rfl
/-- What is read counts one at least. -/
theorem bulk_pos {H : Type} (d : DataW H) : 1 ≤ Rows.uptoBulk d := by
  cases d with
  | lit l => cases l <;> simp [Rows.uptoBulk]
  | nil => simp [Rows.uptoBulk]
  | ptr d => simp [Rows.uptoBulk]
  | slice x y => simp [Rows.uptoBulk]
  | agg x => simp [Rows.uptoBulk]
  | iface t d => simp [Rows.uptoBulk]
  | map x => simp [Rows.uptoBulk]
  | held h => simp [Rows.uptoBulk]
theorem bulk_join {H : Type} (l : List (DataW H)) : ∀ r, Rows.uptoBulkAll (l ++ r) = Rows.uptoBulkAll l + Rows.uptoBulkAll r := by
  induction l with
  | nil => intro r; simp [Rows.uptoBulkAll]
  | cons x l ih => intro r; simp only [List.cons_append, Rows.uptoBulkAll, ih r]; omega
theorem bulk_range {H : Type} (D : Nat → DataW H) : ∀ n, n ≤ Rows.uptoBulkAll ((List.range n).map D)
  | 0 => Nat.zero_le _
  | n + 1 => by
    rw [List.range_succ, List.map_append, bulk_join]
    have h1 := bulk_range D n
    have h2 := bulk_pos (D n)
    simp only [List.map_cons, List.map_nil, Rows.uptoBulkAll]
    omega
theorem cN_bulk {H : Type} (D : Nat → DataW H) (pn : Nat → Nat) (k : Nat) (h : ∀ i, i < k → pn i ≤ Rows.uptoBulk (D i)) : ∀ n, n ≤ k → cN pn n ≤ Rows.uptoBulkAll ((List.range n).map D)
  | 0, _ => Nat.zero_le _
  | n + 1, hn => by
    rw [List.range_succ, List.map_append, bulk_join]
    have h1 := cN_bulk D pn k h n (by omega)
    have h2 := h n (by omega)
    simp only [List.map_cons, List.map_nil, Rows.uptoBulkAll]
    show cN pn n + pn n ≤ _
    omega
theorem cell_plain {w : World} {g o : Nat} {s : Option Nat} {v : Value} (h : w.cell? ⟨g, o, s⟩ = some v) : s = none ∧ g < w.heap.size := by
  unfold World.cell? at h
  by_cases hb : g < w.heap.size
  · refine ⟨?_, hb⟩
    cases s with
    | none => rfl
    | some x =>
      exfalso
      revert h
      split <;> simp
  · rw [Array.getElem?_eq_none (by simpa using Nat.le_of_not_lt hb)] at h
    simp at h
set_option maxRecDepth 100000 in
/-- A []byte that is read in a list. -/
theorem open_part {H : Type} {enc : TypeId × Value → H} {w : World} {base fuel : Nat} {held : Bool} {v : Value} {d : DataW H} {p : List MemPlace}
    (hf : DataW.trod enc Tryd.prog w base (fun _ => true) held fuel 22 [v] = some (d, p)) : ∃ n f, Se w v n f ∧ n ≤ Rows.uptoBulk d := by
  rcases open_slice1 Tryd.underlying22 u8Cells hf with ⟨h0, _⟩ | ⟨a, len, cap, m, n, V, D, Pl, h0, _, hl, hc, hm, hd, hx⟩
  · have e : v = .slice none 0 0 := by simpa using h0
    exact ⟨0, fun _ => 0, Or.inl (Or.inl ⟨rfl, e⟩), Nat.zero_le _⟩
  · have e : v = .slice (some a) len cap := by simpa using h0
    have hm2 : m = cap := by rw [hm]; simp
    subst hm2
    have ed : d = .slice ((List.range len).map D) ((List.range (m - len)).map fun j => D (len + j)) := (Prod.mk.inj hd).1
    have hb : len ≤ Rows.uptoBulk d := by
      rw [ed]
      have := bulk_range D len
      simp only [Rows.uptoBulk]
      omega
    by_cases h0c : m = 0
    · subst h0c
      obtain rfl : len = 0 := by omega
      exact ⟨0, fun _ => 0, Or.inr ⟨rfl, a, e⟩, Nat.zero_le _⟩
    · obtain ⟨g, o, s⟩ := a
      obtain ⟨c0, _⟩ := hx 0 (by omega)
      rw [show Addr.add ⟨g, o, s⟩ 0 = ⟨g, o, s⟩ from by simp [Addr.add]] at c0
      obtain ⟨rfl, hlt⟩ := cell_plain c0
      refine ⟨len, fun i => (intOf (V i)).toNat, Or.inl (Or.inr ⟨g, o, m, e, hl, by simpa [maxLen] using hc, hlt, fun i hi => ?_, fun i hi => ?_⟩), hb⟩
      · obtain ⟨_, h2⟩ := hx i (by omega)
        obtain ⟨k, e1, _, wf⟩ := DataW.trod_int Tryd.underlying5 h2
        have u := u8_wf wf
        have e2 : V i = .int .u8 k := by simpa using e1
        rw [e2]
        simp only [intOf]
        omega
      · obtain ⟨h1, h2⟩ := hx i (by omega)
        obtain ⟨k, e1, _, wf⟩ := DataW.trod_int Tryd.underlying5 h2
        have u := u8_wf wf
        have e2 : V i = .int .u8 k := by simpa using e1
        have ha : (Addr.add ⟨g, o, none⟩ i) = ⟨g, o + i, none⟩ := Addr.add_mid g o i
        rw [ha, e2] at h1
        rw [h1, e2]
        simp only [intOf]
        rw [Int.toNat_of_nonneg u.1]
set_option maxRecDepth 100000 in
/-- A [][]byte that came in. -/
theorem open_parts {H : Type} {enc : TypeId × Value → H} {w : World} {r : Reach} {b0 base : Nat} {held : Bool} {v : Value} {d : DataW H} {p : List MemPlace}
    (hv : Value.okWide Tryd.prog w r b0 23 v) (h : DataW.Trod enc Tryd.prog w base (fun _ => true) held 23 v d p) :
    ∃ k pv pn pf, Ps w v k pv pn pf ∧ cN pn k ≤ Rows.uptoBulk d := by
  obtain ⟨fuel, hf⟩ := h
  obtain ⟨a0, l0, c0, rfl⟩ := okWide_slice Tryd.underlying23 hv
  rcases open_slice1 Tryd.underlying23 bytesCells hf with ⟨h0, _⟩ | ⟨a, len, cap, m, n, V, D, Pl, h0, _, hl, hc, hm, hd, hx⟩
  · refine ⟨0, fun _ => .slice none 0 0, fun _ => 0, fun _ _ => 0, ⟨fun i hi => absurd hi (Nat.not_lt_zero _), Or.inl ⟨rfl, ?_⟩⟩, Nat.zero_le _⟩
    simpa [Value.cells] using h0
  · have h0' : Value.slice a0 l0 c0 = .slice (some a) len cap := by simpa [Value.cells] using h0
    rw [h0'] at hv ⊢
    simp only [Value.okWide, Tryd.underlying23, Cell.okWide, Cell.ok, World.has] at hv
    obtain ⟨_, _, _, hs, row, cells, hsh, _⟩ := hv
    have hlt := shape_lt hsh
    obtain ⟨g, o, spot⟩ := a
    simp only at hs
    subst hs
    have hml : len ≤ m := by rw [hm]; split <;> omega
    obtain ⟨q, hq⟩ := choose_lt (α := Nat × (Nat → Nat)) (n := len) (p := fun i x => Se w (V i) x.1 x.2 ∧ x.1 ≤ Rows.uptoBulk (D i)) (fun i hi => by
      obtain ⟨n', f', h1, h2⟩ := open_part (hx i (by omega)).2
      exact ⟨(n', f'), h1, h2⟩)
    have ed : d = .slice ((List.range len).map D) ((List.range (m - len)).map fun j => D (len + j)) := (Prod.mk.inj hd).1
    refine ⟨len, V, fun i => (q i).1, fun i => (q i).2, ⟨fun i hi => (hq i hi).1, Or.inr ⟨g, o, cap, rfl, hl, by simpa [maxLen] using hc, hlt, fun i hi => ?_⟩⟩, ?_⟩
    · have h1 := (hx i (by omega)).1
      rw [show (Addr.add ⟨g, o, none⟩ i) = ⟨g, o + i, none⟩ from Addr.add_mid g o i] at h1
      exact h1
    · have hcn := cN_bulk D (fun i => (q i).1) len (fun i hi => (hq i hi).2) len (Nat.le_refl _)
      rw [ed]
      simp only [Rows.uptoBulk]
      omega
set_option maxRecDepth 100000 in
/-- A []bool that came in. -/
theorem open_bools {H : Type} {enc : TypeId × Value → H} {w : World} {r : Reach} {b0 base : Nat} {spare : Nat → Bool} {held : Bool} {v : Value} {d : DataW H} {p : List MemPlace}
    (hv : Value.okWide Tryd.prog w r b0 88 v) (h : DataW.Trod enc Tryd.prog w base spare held 88 v d p) : ∃ k b, Bls w v k b := by
  obtain ⟨fuel, hf⟩ := h
  obtain ⟨a0, l0, c0, rfl⟩ := okWide_slice Tryd.underlying88 hv
  rcases open_slice1 Tryd.underlying88 boolCells hf with ⟨h0, _⟩ | ⟨a, len, cap, m, n, V, D, Pl, h0, _, hl, hc, hm, hd, hx⟩
  · refine ⟨0, fun _ => false, Or.inl ⟨rfl, ?_⟩⟩
    simpa [Value.cells] using h0
  · have h0' : Value.slice a0 l0 c0 = .slice (some a) len cap := by simpa [Value.cells] using h0
    rw [h0'] at hv ⊢
    simp only [Value.okWide, Tryd.underlying88, Cell.okWide, Cell.ok, World.has] at hv
    obtain ⟨_, _, _, hs, row, cells, hsh, _⟩ := hv
    have hlt := shape_lt hsh
    obtain ⟨g, o, spot⟩ := a
    simp only at hs
    subst hs
    have hml : len ≤ m := by rw [hm]; split <;> omega
    obtain ⟨q, hq⟩ := choose_lt (α := Bool) (n := len) (p := fun i x => w.cell? ⟨g, o + i, none⟩ = some (.bool x)) (fun i hi => by
      obtain ⟨h1, h2⟩ := hx i (by omega)
      obtain ⟨x, e1, _⟩ := DataW.trod_bool Tryd.underlying4 h2
      have e2 : V i = .bool x := by simpa using e1
      rw [show (Addr.add ⟨g, o, none⟩ i) = ⟨g, o + i, none⟩ from Addr.add_mid g o i, e2] at h1
      exact ⟨x, h1⟩)
    exact ⟨len, q, Or.inr ⟨g, o, cap, rfl, hl, by simpa [maxLen] using hc, hlt, hq⟩⟩
end Go.Proofs.YtjcgjhncdaplcaaDoor
