/- A list of steps of a generator that came in. -/
import Derived.Test.YthpfdnkcepfbaaaDoorDrP
import Derived.Test.YthpfdnkcepfbaaaDoorDrTw
import Derived.Deep.Strs
import Derived.Lib.SmallJoins
set_option linter.constructorNameAsVariable false
set_option linter.unusedVariables false
set_option linter.unusedSimpArgs false
set_option linter.unnecessarySimpa false
namespace Go.Proofs.YthpfdnkcepfbaaaDoor
open Go.ChangeShapes Go.WideShapes Go.ChangeAt Go.RowKit Go.Deep

theorem stepCells : Tryd.prog.cellsOf 63 = 4 := by kernel_rfl
theorem intCells : Tryd.prog.cellsOf 3 = 1 := by kernel_rfl
theorem bytesCells : Tryd.prog.cellsOf 22 = 1 := by kernel_rfl
set_option maxRecDepth 100000 in
/-- Four cells that read as a step. -/
theorem open_step {H : Type} {enc : TypeId × Value → H} {w : World} {base fuel : Nat} {held : Bool} {cs : List Value} {x : DataW H × List MemPlace}
    (hl : cs.length = 4) (hf : DataW.trod enc Tryd.prog w base (fun _ => true) held fuel 63 cs = some x) : ∃ (a b : Int) (v : Value) (n : Nat) (f : Nat → Nat) (u : Value) (m : Nat) (g : Nat → Nat), cs[0]? = some (.int .i64 a) ∧ cs[1]? = some (.int .i64 b) ∧ cs[2]? = some v ∧ cs[3]? = some u ∧ Se w v n f ∧ Se w u m g ∧ n + m + 2 ≤ Rows.uptoBulk x.1 ∧ (Lit.int .i64 a).wf = true ∧ (Lit.int .i64 b).wf = true := by
  obtain ⟨y0, y1, y2, y3, m, rfl, _, h0, h1, h2, h3⟩ := Go.Joins.trod_struct4 Tryd.underlying63 hf
  match cs, hl with
  | [c0, c1, c2, c3], _ =>
    obtain ⟨a, e0, _, wa⟩ := DataW.trod_int Tryd.underlying3 h0
    have e0' : c0 = .int .i64 a := by
      rw [intCells] at e0
      simpa using e0
    obtain ⟨b, e1, _, wb⟩ := DataW.trod_int Tryd.underlying3 h1
    have e1' : c1 = .int .i64 b := by
      rw [intCells] at e1
      simpa using e1
    have h2' : DataW.trod enc Tryd.prog w base (fun _ => true) held m 22 [c2] = some (y2.1, y2.2) := by
      rw [bytesCells] at h2
      simpa using h2
    have h3' : DataW.trod enc Tryd.prog w base (fun _ => true) held m 22 [c3] = some (y3.1, y3.2) := by
      rw [bytesCells] at h3
      simpa using h3
    obtain ⟨n, f, hS, hb⟩ := open_part h2'
    obtain ⟨n', f', hS', hb'⟩ := open_part h3'
    have b0 := bulk_pos y0.1
    have b1 := bulk_pos y1.1
    refine ⟨a, b, c2, n, f, c3, n', f', by rw [e0']; rfl, by rw [e1']; rfl, rfl, rfl, hS, hS', ?_, wa, wb⟩
    simp only [Rows.uptoBulk, Rows.uptoBulkAll]
    omega
set_option maxRecDepth 100000 in
theorem open_steps {H : Type} {enc : TypeId × Value → H} {w : World} {r : Reach} {b0 base : Nat} {held : Bool} {v : Value} {d : DataW H} {p : List MemPlace}
    (hv : Value.okWide Tryd.prog w r b0 55 v) (h : DataW.Trod enc Tryd.prog w base (fun _ => true) held 55 v d p) :
    ∃ K wh nn bv bn bf ev en ef, St4 w v K wh nn bv bn bf ev en ef ∧ 2 * K ≤ Rows.uptoBulk d ∧ cN bn K + cN en K ≤ Rows.uptoBulk d := by
  obtain ⟨fuel, hf⟩ := h
  obtain ⟨a0, l0, c0, rfl⟩ := okWide_slice Tryd.underlying55 hv
  rcases open_slice Tryd.underlying55 hf with ⟨h0, _⟩ | ⟨a, len, cap, m, n, D, Pl, h0, _, hl, hc, hm, hd, hx⟩
  · refine ⟨0, fun _ => 0, fun _ => 0, fun _ => .slice none 0 0, fun _ => 0, fun _ _ => 0, fun _ => .slice none 0 0, fun _ => 0, fun _ _ => 0, ⟨fun i hi => absurd hi (Nat.not_lt_zero _), Or.inl ⟨rfl, ?_⟩⟩, Nat.zero_le _, by simp [cN]⟩
    simpa [Value.cells] using h0
  · have h0' : Value.slice a0 l0 c0 = .slice (some a) len cap := by simpa [Value.cells] using h0
    rw [h0'] at hv ⊢
    simp only [Value.okWide, Tryd.underlying55, Cell.okWide, Cell.ok, World.has] at hv
    obtain ⟨_, _, _, hs, row, cells, hsh, _⟩ := hv
    have hlt := shape_lt hsh
    obtain ⟨g, o, spot⟩ := a
    simp only at hs
    subst hs
    have hml : len ≤ m := by rw [hm]; split <;> omega
    obtain ⟨q, hq⟩ := choose_lt (α := (Int × Int) × (Value × Nat × (Nat → Nat)) × (Value × Nat × (Nat → Nat))) (n := len) (p := fun i x => w.cell? ⟨g, o + i * 4, none⟩ = some (.int .i64 x.1.1) ∧ w.cell? ⟨g, o + i * 4 + 1, none⟩ = some (.int .i64 x.1.2) ∧ w.cell? ⟨g, o + i * 4 + 2, none⟩ = some x.2.1.1 ∧ w.cell? ⟨g, o + i * 4 + 3, none⟩ = some x.2.2.1 ∧ Se w x.2.1.1 x.2.1.2.1 x.2.1.2.2 ∧ Se w x.2.2.1 x.2.2.2.1 x.2.2.2.2 ∧ x.2.1.2.1 + x.2.2.2.1 + 2 ≤ Rows.uptoBulk (D i)) (fun i hi => by
      obtain ⟨cs', h1, h2⟩ := hx i (by omega)
      rw [stepCells] at h1
      obtain ⟨_, hlen', hcell⟩ := World.cells?_some h1
      obtain ⟨a, b, v, n', f', u, m', g', e0, e1, e2, e3, hS, hS', hb, _, _⟩ := open_step hlen' h2
      have c0 := hcell 0 (by omega)
      have c1 := hcell 1 (by omega)
      have c2 := hcell 2 (by omega)
      have c3 := hcell 3 (by omega)
      rw [Addr.add_mid g o (i * 4), Addr.add_mid g (o + i * 4) 0, e0] at c0
      rw [Addr.add_mid g o (i * 4), Addr.add_mid g (o + i * 4) 1, e1] at c1
      rw [Addr.add_mid g o (i * 4), Addr.add_mid g (o + i * 4) 2, e2] at c2
      rw [Addr.add_mid g o (i * 4), Addr.add_mid g (o + i * 4) 3, e3] at c3
      exact ⟨((a, b), (v, n', f'), (u, m', g')), c0, c1, c2, c3, hS, hS', hb⟩)
    have ed : d = .slice ((List.range len).map D) ((List.range (m - len)).map fun j => D (len + j)) := (Prod.mk.inj hd).1
    refine ⟨len, fun i => (q i).1.1, fun i => (q i).1.2, fun i => (q i).2.1.1, fun i => (q i).2.1.2.1, fun i => (q i).2.1.2.2, fun i => (q i).2.2.1, fun i => (q i).2.2.2.1, fun i => (q i).2.2.2.2, ⟨fun i hi => ⟨(hq i hi).2.2.2.2.1, (hq i hi).2.2.2.2.2.1⟩, Or.inr ⟨g, o, cap, rfl, hl, by simpa [maxLen] using hc, hlt, fun i hi => ⟨(hq i hi).1, (hq i hi).2.1, (hq i hi).2.2.1, (hq i hi).2.2.2.1⟩⟩⟩, ?_, ?_⟩
    · have hcn := cN_bulk D (fun i => 2) len (fun i hi => by have := (hq i hi).2.2.2.2.2.2; omega) len (Nat.le_refl _)
      have h2 : ∀ k, cN (fun _ => 2) k = 2 * k := by
        intro k
        induction k with
        | zero => rfl
        | succ k ih => simp only [cN] at ih ⊢; omega
      rw [h2] at hcn
      rw [ed]
      simp only [Rows.uptoBulk]
      omega
    · have hcn := cN_bulk D (fun i => (q i).2.1.2.1 + (q i).2.2.2.1) len (fun i hi => by have := (hq i hi).2.2.2.2.2.2; show (q i).2.1.2.1 + (q i).2.2.2.1 ≤ _; omega) len (Nat.le_refl _)
      have hsum : ∀ (a b : Nat → Nat) (k : Nat), cN (fun i => a i + b i) k = cN a k + cN b k := by
        intro a b k
        induction k with
        | zero => rfl
        | succ k ih => simp only [cN] at ih ⊢; omega
      rw [hsum] at hcn
      rw [ed]
      simp only [Rows.uptoBulk]
      omega
end Go.Proofs.YthpfdnkcepfbaaaDoor
