/- A list of steps that came in. -/
import Derived.Test.YtjcgjhncdaplcaaDoorPOp0
import Derived.Test.YtjcgjhncdaplcaaDoorHaW
import Derived.Deep.Strs
set_option linter.constructorNameAsVariable false
set_option linter.unusedVariables false
set_option linter.unusedSimpArgs false
set_option linter.unnecessarySimpa false
namespace Go.Proofs.YtjcgjhncdaplcaaDoor
open Go.ChangeShapes Go.WideShapes Go.ChangeAt Go.RowKit Go.Deep

theorem stepCells : Tryd.prog.cellsOf 75 = 2 := by kernel_rfl
theorem intCells : Tryd.prog.cellsOf 3 = 1 := by kernel_rfl
theorem bytesCells : Tryd.prog.cellsOf 22 = 1 := by kernel_rfl
set_option maxRecDepth 100000 in
/-- Two cells that read as a step. -/
theorem open_step {H : Type} {enc : TypeId × Value → H} {w : World} {base fuel : Nat} {held : Bool} {cs : List Value} {x : DataW H × List MemPlace}
    (hl : cs.length = 2) (hf : DataW.trod enc Tryd.prog w base (fun _ => true) held fuel 75 cs = some x) : ∃ (a : Int) (v : Value) (n : Nat) (f : Nat → Nat), cs[0]? = some (.int .i64 a) ∧ cs[1]? = some v ∧ Se w v n f ∧ n ≤ Rows.uptoBulk x.1 := by
  obtain ⟨y0, y1, m, rfl, _, h0, h1⟩ := trod_struct2 Tryd.underlying75 hf
  match cs, hl with
  | [c0, c1], _ =>
    obtain ⟨a, e0, _, _⟩ := DataW.trod_int Tryd.underlying3 h0
    have e0' : c0 = .int .i64 a := by
      rw [intCells] at e0
      simpa using e0
    have h1' : DataW.trod enc Tryd.prog w base (fun _ => true) held m 22 [c1] = some (y1.1, y1.2) := by
      rw [bytesCells] at h1
      simpa using h1
    obtain ⟨n, f, hS, hb⟩ := open_part h1'
    refine ⟨a, c1, n, f, by rw [e0']; rfl, rfl, hS, ?_⟩
    simp only [Rows.uptoBulk, Rows.uptoBulkAll]
    omega
set_option maxRecDepth 100000 in
theorem open_steps {H : Type} {enc : TypeId × Value → H} {w : World} {r : Reach} {b0 base : Nat} {held : Bool} {v : Value} {d : DataW H} {p : List MemPlace}
    (hv : Value.okWide Tryd.prog w r b0 68 v) (h : DataW.Trod enc Tryd.prog w base (fun _ => true) held 68 v d p) :
    ∃ K what pv pn pf, Sp w v K what pv pn pf ∧ cN pn K ≤ Rows.uptoBulk d := by
  obtain ⟨fuel, hf⟩ := h
  obtain ⟨a0, l0, c0, rfl⟩ := okWide_slice Tryd.underlying68 hv
  rcases open_slice Tryd.underlying68 hf with ⟨h0, _⟩ | ⟨a, len, cap, m, n, D, Pl, h0, _, hl, hc, hm, hd, hx⟩
  · refine ⟨0, fun _ => 0, fun _ => .slice none 0 0, fun _ => 0, fun _ _ => 0, ⟨fun i hi => absurd hi (Nat.not_lt_zero _), Or.inl ⟨rfl, ?_⟩⟩, Nat.zero_le _⟩
    simpa [Value.cells] using h0
  · have h0' : Value.slice a0 l0 c0 = .slice (some a) len cap := by simpa [Value.cells] using h0
    rw [h0'] at hv ⊢
    simp only [Value.okWide, Tryd.underlying68, Cell.okWide, Cell.ok, World.has] at hv
    obtain ⟨_, _, _, hs, row, cells, hsh, _⟩ := hv
    have hlt := shape_lt hsh
    obtain ⟨g, o, spot⟩ := a
    simp only at hs
    subst hs
    have hml : len ≤ m := by rw [hm]; split <;> omega
    obtain ⟨q, hq⟩ := choose_lt (α := Int × Value × Nat × (Nat → Nat)) (n := len) (p := fun i x => w.cell? ⟨g, o + i * 2, none⟩ = some (.int .i64 x.1) ∧ w.cell? ⟨g, o + i * 2 + 1, none⟩ = some x.2.1 ∧ Se w x.2.1 x.2.2.1 x.2.2.2 ∧ x.2.2.1 ≤ Rows.uptoBulk (D i)) (fun i hi => by
      obtain ⟨cs', h1, h2⟩ := hx i (by omega)
      rw [stepCells] at h1
      obtain ⟨_, hlen', hcell⟩ := World.cells?_some h1
      obtain ⟨a, v, n', f', e0, e1, hS, hb⟩ := open_step hlen' h2
      have c0 := hcell 0 (by omega)
      have c1 := hcell 1 (by omega)
      rw [Addr.add_mid g o (i * 2), Addr.add_mid g (o + i * 2) 0, e0] at c0
      rw [Addr.add_mid g o (i * 2), Addr.add_mid g (o + i * 2) 1, e1] at c1
      exact ⟨(a, v, n', f'), c0, c1, hS, hb⟩)
    have ed : d = .slice ((List.range len).map D) ((List.range (m - len)).map fun j => D (len + j)) := (Prod.mk.inj hd).1
    refine ⟨len, fun i => (q i).1, fun i => (q i).2.1, fun i => (q i).2.2.1, fun i => (q i).2.2.2, ⟨fun i hi => (hq i hi).2.2.1, Or.inr ⟨g, o, cap, rfl, hl, by simpa [maxLen] using hc, hlt, fun i hi => ⟨(hq i hi).1, (hq i hi).2.1⟩⟩⟩, ?_⟩
    have hcn := cN_bulk D (fun i => (q i).2.2.1) len (fun i hi => (hq i hi).2.2.2) len (Nat.le_refl _)
    rw [ed]
    simp only [Rows.uptoBulk]
    omega
end Go.Proofs.YtjcgjhncdaplcaaDoor
