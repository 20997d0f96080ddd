/- What comes in: a [][]byte. -/
import Derived.Test.YthpfdnkcepfbaaaDoorDrP
import Derived.Deep.Strs
set_option linter.constructorNameAsVariable false
set_option linter.unusedVariables false
set_option linter.unusedSimpArgs false
set_option linter.unnecessarySimpa false
namespace Go.Proofs.YthpfdnkcepfbaaaDoor
open Go.ChangeShapes Go.WideShapes Go.ChangeAt Go.RowKit Go.Deep

theorem len_bulk {H : Type} : ∀ l : List (DataW H), l.length ≤ Rows.uptoBulkAll l
  | [] => Nat.zero_le _
  | x :: l => by
    have h1 := len_bulk l
    have h2 := bulk_pos x
    simp only [List.length_cons, Rows.uptoBulkAll]
    omega
theorem bytesC1 : Tryd.prog.cellsOf 22 = 1 := by kernel_rfl
set_option maxRecDepth 100000 in
/-- A [][]byte that came in. -/
theorem open_parts {H : Type} {enc : TypeId × Value → H} {w : World} {r : Reach} {b0 base : Nat} {held : Bool} {v : Value} {d : DataW H} {p : List MemPlace}
    (hv : Value.okWide Tryd.prog w r b0 23 v) (h : DataW.Trod enc Tryd.prog w base (fun _ => true) held 23 v d p) :
    ∃ k pv pn pf, Ps w v k pv pn pf ∧ cN pn k ≤ Rows.uptoBulk d ∧ k ≤ Rows.uptoBulk d := by
  obtain ⟨fuel, hf⟩ := h
  obtain ⟨a0, l0, c0, rfl⟩ := okWide_slice Tryd.underlying23 hv
  rcases open_slice1 Tryd.underlying23 bytesC1 hf with ⟨h0, _⟩ | ⟨a, len, cap, m, n, V, D, Pl, h0, _, hl, hc, hm, hd, hx⟩
  · refine ⟨0, fun _ => .slice none 0 0, fun _ => 0, fun _ _ => 0, ⟨fun i hi => absurd hi (Nat.not_lt_zero _), Or.inl ⟨rfl, ?_⟩⟩, Nat.zero_le _, Nat.zero_le _⟩
    simpa [Value.cells] using h0
  · have h0' : Value.slice a0 l0 c0 = .slice (some a) len cap := by simpa [Value.cells] using h0
    rw [h0'] at hv ⊢
    simp only [Value.okWide, Tryd.underlying23, Cell.okWide, Cell.ok, World.has] at hv
    obtain ⟨_, _, _, hs, row, cells, hsh, _⟩ := hv
    have hlt := shape_lt hsh
    obtain ⟨g, o, spot⟩ := a
    simp only at hs
    subst hs
    have hml : len ≤ m := by rw [hm]; split <;> omega
    obtain ⟨q, hq⟩ := choose_lt (α := Nat × (Nat → Nat)) (n := len) (p := fun i x => Se w (V i) x.1 x.2 ∧ x.1 ≤ Rows.uptoBulk (D i)) (fun i hi => by
      obtain ⟨n', f', h1, h2⟩ := open_part (hx i (by omega)).2
      exact ⟨(n', f'), h1, h2⟩)
    have ed : d = .slice ((List.range len).map D) ((List.range (m - len)).map fun j => D (len + j)) := (Prod.mk.inj hd).1
    refine ⟨len, V, fun i => (q i).1, fun i => (q i).2, ⟨fun i hi => (hq i hi).1, Or.inr ⟨g, o, cap, rfl, hl, by simpa [maxLen] using hc, hlt, fun i hi => ?_⟩⟩, ?_, ?_⟩
    · have h1 := (hx i (by omega)).1
      rw [show (Addr.add ⟨g, o, none⟩ i) = ⟨g, o + i, none⟩ from Addr.add_mid g o i] at h1
      exact h1
    · have hcn := cN_bulk D (fun i => (q i).1) len (fun i hi => (hq i hi).2) len (Nat.le_refl _)
      rw [ed]
      simp only [Rows.uptoBulk]
      omega
    · rw [ed]
      have := bulk_range D len
      simp only [Rows.uptoBulk]
      omega
end Go.Proofs.YthpfdnkcepfbaaaDoor
