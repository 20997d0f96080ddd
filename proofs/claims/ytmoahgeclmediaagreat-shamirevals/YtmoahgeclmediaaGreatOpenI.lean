/- A []int that came in. -/
import Derived.Test.YtmoahgeclmediaaGreatOpenB
import Derived.Test.YtmoahgeclmediaaGreatMgD
set_option linter.unusedVariables false
set_option linter.unusedSimpArgs false
set_option linter.unnecessarySimpa false
namespace Go.Proofs.YtmoahgeclmediaaGreat
open Go.ChangeShapes Go.WideShapes Go.ChangeAt Go.RowKit Go.Deep N

theorem intCells : Tryz.prog.cellsOf 3 = 1 := by kernel_rfl
theorem i64_wf {n : Int} (h : (Lit.int .i64 n).wf = true) : -9223372036854775808 ≤ n ∧ n ≤ 9223372036854775807 := by
  have h1 : IntKind.i64.min = -9223372036854775808 := by kernel_rfl
  have h2 : IntKind.i64.max = 9223372036854775807 := by kernel_rfl
  simp [Lit.wf, h1, h2] at h
  omega
set_option maxRecDepth 100000 in
theorem open_il {H : Type} {enc : TypeId × Value → H} {w : World} {r : Reach} {b0 base : Nat} {spare : Nat → Bool} {held : Bool} {v : Value} {d : DataW H} {p : List MemPlace}
    (hv : Value.okWide Tryz.prog w r b0 25 v) (h : DataW.Trod enc Tryz.prog w base spare held 25 v d p) :
    ∃ N f, Il w v N f ∧ (∀ i, i < N → -9223372036854775808 ≤ f i ∧ f i ≤ 9223372036854775807) ∧ (N = 0 ∨ ∃ elems spare, d = .slice elems spare ∧ elems.length = N) := by
  obtain ⟨fuel, hf⟩ := h
  obtain ⟨a0, l0, c0, rfl⟩ := okWide_slice Tryz.underlying25 hv
  rcases open_slice Tryz.underlying25 hf with ⟨h0, _⟩ | ⟨a, len, cap, m, n, D, Pl, h0, _, hl, hc, hm, hd, hx⟩
  · refine ⟨0, fun _ => 0, Or.inl ⟨rfl, ?_⟩, fun i hi => by omega, Or.inl rfl⟩
    simpa [Value.cells] using h0
  · have h0' : Value.slice a0 l0 c0 = .slice (some a) len cap := by simpa [Value.cells] using h0
    rw [h0'] at hv ⊢
    simp only [Value.okWide, Tryz.underlying25, Cell.okWide, Cell.ok, World.has] at hv
    obtain ⟨_, _, _, hs, row, cells, hsh, _⟩ := hv
    have hlt := shape_lt hsh
    obtain ⟨g, o, spot⟩ := a
    simp only at hs
    subst hs
    have hml : len ≤ m := by rw [hm]; split <;> omega
    have hex : ∀ i, i < len → ∃ k : Int, (-9223372036854775808 ≤ k ∧ k ≤ 9223372036854775807) ∧ w.cell? ⟨g, o + i, none⟩ = some (.int .i64 k) := fun i hi => by
      obtain ⟨cs', h1, h2⟩ := hx i (by omega)
      rw [intCells] at h1
      obtain ⟨_, hlen', hcell⟩ := World.cells?_some h1
      obtain ⟨k, e1, _, wf⟩ := DataW.trod_int Tryz.underlying3 h2
      refine ⟨k, i64_wf wf, ?_⟩
      have hc2 := hcell 0 (by omega)
      rw [Nat.mul_one, Addr.add_mid g o i, Addr.add_mid g (o + i) 0, Nat.add_zero] at hc2
      rw [hc2, e1]
      rfl
    refine ⟨len, fun i => if hi : i < len then (hex i hi).choose else 0, Or.inr ⟨g, o, cap, rfl, hl, by simpa [maxLen] using hc, hlt, fun i hi => ?_⟩, fun i hi => ?_, Or.inr ⟨_, _, (Prod.mk.inj hd).1, by simp⟩⟩
    · simp only [hi, dif_pos]
      exact (hex i hi).choose_spec.2
    · simp only [hi, dif_pos]
      exact (hex i hi).choose_spec.1
end Go.Proofs.YtmoahgeclmediaaGreat
