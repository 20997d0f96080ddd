/- The bound on what is read; a []byte that is read in a list. -/
import Derived.Test.YthpfdnkcepfbaaaDoorDrO
import Derived.Test.YthpfdnkcepfbaaaDoorMgM
set_option linter.constructorNameAsVariable false
set_option linter.unusedVariables false
set_option linter.unusedSimpArgs false
set_option linter.unnecessarySimpa false
namespace Go.Proofs.YthpfdnkcepfbaaaDoor
open Go.ChangeShapes Go.WideShapes Go.ChangeAt Go.RowKit Go.Deep

/-- What is read counts one at least. -/
theorem bulk_pos {H : Type} (d : DataW H) : 1 ≤ Rows.uptoBulk d := by
  cases d with
  | lit l => cases l <;> simp [Rows.uptoBulk]
  | nil => simp [Rows.uptoBulk]
  | ptr d => simp [Rows.uptoBulk]
  | slice x y => simp [Rows.uptoBulk]
  | agg x => simp [Rows.uptoBulk]
  | iface t d => simp [Rows.uptoBulk]
  | map x => simp [Rows.uptoBulk]
  | held h => simp [Rows.uptoBulk]
theorem bulk_join {H : Type} (l : List (DataW H)) : ∀ r, Rows.uptoBulkAll (l ++ r) = Rows.uptoBulkAll l + Rows.uptoBulkAll r := by
  induction l with
  | nil => intro r; simp [Rows.uptoBulkAll]
  | cons x l ih => intro r; simp only [List.cons_append, Rows.uptoBulkAll, ih r]; omega
theorem bulk_range {H : Type} (D : Nat → DataW H) : ∀ n, n ≤ Rows.uptoBulkAll ((List.range n).map D)
  | 0 => Nat.zero_le _
  | n + 1 => by
    rw [List.range_succ, List.map_append, bulk_join]
    have h1 := bulk_range D n
    have h2 := bulk_pos (D n)
    simp only [List.map_cons, List.map_nil, Rows.uptoBulkAll]
    omega
theorem cN_bulk {H : Type} (D : Nat → DataW H) (pn : Nat → Nat) (k : Nat) (h : ∀ i, i < k → pn i ≤ Rows.uptoBulk (D i)) : ∀ n, n ≤ k → cN pn n ≤ Rows.uptoBulkAll ((List.range n).map D)
  | 0, _ => Nat.zero_le _
  | n + 1, hn => by
    rw [List.range_succ, List.map_append, bulk_join]
    have h1 := cN_bulk D pn k h n (by omega)
    have h2 := h n (by omega)
    simp only [List.map_cons, List.map_nil, Rows.uptoBulkAll]
    show cN pn n + pn n ≤ _
    omega
theorem cell_plain {w : World} {g o : Nat} {s : Option Nat} {v : Value} (h : w.cell? ⟨g, o, s⟩ = some v) : s = none ∧ g < w.heap.size := by
  unfold World.cell? at h
  by_cases hb : g < w.heap.size
  · refine ⟨?_, hb⟩
    cases s with
    | none => rfl
    | some x =>
      exfalso
      revert h
      split <;> simp
  · rw [Array.getElem?_eq_none (by simpa using Nat.le_of_not_lt hb)] at h
    simp at h
set_option maxRecDepth 100000 in
/-- A []byte that is read in a list. -/
theorem open_part {H : Type} {enc : TypeId × Value → H} {w : World} {base fuel : Nat} {held : Bool} {v : Value} {d : DataW H} {p : List MemPlace}
    (hf : DataW.trod enc Tryd.prog w base (fun _ => true) held fuel 22 [v] = some (d, p)) : ∃ n f, Se w v n f ∧ n ≤ Rows.uptoBulk d := by
  rcases open_slice1 Tryd.underlying22 u8Cells hf with ⟨h0, _⟩ | ⟨a, len, cap, m, n, V, D, Pl, h0, _, hl, hc, hm, hd, hx⟩
  · have e : v = .slice none 0 0 := by simpa using h0
    exact ⟨0, fun _ => 0, Or.inl (Or.inl ⟨rfl, e⟩), Nat.zero_le _⟩
  · have e : v = .slice (some a) len cap := by simpa using h0
    have hm2 : m = cap := by rw [hm]; simp
    subst hm2
    have ed : d = .slice ((List.range len).map D) ((List.range (m - len)).map fun j => D (len + j)) := (Prod.mk.inj hd).1
    have hb : len ≤ Rows.uptoBulk d := by
      rw [ed]
      have := bulk_range D len
      simp only [Rows.uptoBulk]
      omega
    by_cases h0c : m = 0
    · subst h0c
      obtain rfl : len = 0 := by omega
      exact ⟨0, fun _ => 0, Or.inr ⟨rfl, a, e⟩, Nat.zero_le _⟩
    · obtain ⟨g, o, s⟩ := a
      obtain ⟨c0, _⟩ := hx 0 (by omega)
      rw [show Addr.add ⟨g, o, s⟩ 0 = ⟨g, o, s⟩ from by simp [Addr.add]] at c0
      obtain ⟨rfl, hlt⟩ := cell_plain c0
      refine ⟨len, fun i => (intOf (V i)).toNat, Or.inl (Or.inr ⟨g, o, m, e, hl, by simpa [maxLen] using hc, hlt, fun i hi => ?_, fun i hi => ?_⟩), hb⟩
      · obtain ⟨_, h2⟩ := hx i (by omega)
        obtain ⟨k, e1, _, wf⟩ := DataW.trod_int Tryd.underlying5 h2
        have u := u8_wf wf
        have e2 : V i = .int .u8 k := by simpa using e1
        rw [e2]
        simp only [intOf]
        omega
      · obtain ⟨h1, h2⟩ := hx i (by omega)
        obtain ⟨k, e1, _, wf⟩ := DataW.trod_int Tryd.underlying5 h2
        have u := u8_wf wf
        have e2 : V i = .int .u8 k := by simpa using e1
        have ha : (Addr.add ⟨g, o, none⟩ i) = ⟨g, o + i, none⟩ := Addr.add_mid g o i
        rw [ha, e2] at h1
        rw [h1, e2]
        simp only [intOf]
        rw [Int.toNat_of_nonneg u.1]
end Go.Proofs.YthpfdnkcepfbaaaDoor
