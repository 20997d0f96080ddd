/- A []api.Random and a []int that came in. -/
import Derived.Test.YthpfdnkcepfbaaaDoorDrO
import Derived.Test.YthpfdnkcepfbaaaDoorDrTp
set_option linter.constructorNameAsVariable false
set_option linter.unusedVariables false
set_option linter.unusedSimpArgs false
set_option linter.unnecessarySimpa false
namespace Go.Proofs.YthpfdnkcepfbaaaDoor
open Go.ChangeShapes Go.WideShapes Go.ChangeAt Go.RowKit Go.Deep

theorem int1Cells : Tryd.prog.cellsOf 3 = 1 := by kernel_rfl
theorem rndCells : Tryd.prog.cellsOf 69 = 32 := by kernel_rfl
theorem rndBytes : Tryd.prog.bytesOf 69 = 32 := by kernel_rfl
set_option maxRecDepth 100000 in
/-- A []int that came in. -/
theorem open_ints {H : Type} {enc : TypeId × Value → H} {w : World} {r : Reach} {b0 base : Nat} {spare : Nat → Bool} {held : Bool} {v : Value} {d : DataW H} {p : List MemPlace}
    (hv : Value.okWide Tryd.prog w r b0 79 v) (h : DataW.Trod enc Tryd.prog w base spare held 79 v d p) : ∃ N f, IL w v N f := by
  obtain ⟨fuel, hf⟩ := h
  obtain ⟨a0, l0, c0, rfl⟩ := okWide_slice Tryd.underlying79 hv
  rcases open_slice Tryd.underlying79 hf with ⟨h0, _⟩ | ⟨a, len, cap, m, n, D, Pl, h0, _, hl, hc, hm, hd, hx⟩
  · refine ⟨0, fun _ => 0, Or.inl ⟨rfl, ?_⟩⟩
    simpa [Value.cells] using h0
  · have h0' : Value.slice a0 l0 c0 = .slice (some a) len cap := by simpa [Value.cells] using h0
    rw [h0'] at hv ⊢
    simp only [Value.okWide, Tryd.underlying79, Cell.okWide, Cell.ok, World.has] at hv
    obtain ⟨_, _, _, hs, row, cells, hsh, _⟩ := hv
    have hlt := shape_lt hsh
    obtain ⟨g, o, spot⟩ := a
    simp only at hs
    subst hs
    have hml : len ≤ m := by rw [hm]; split <;> omega
    have hex : ∀ i, i < len → ∃ k : Int, w.cell? ⟨g, o + i, none⟩ = some (.int .i64 k) := fun i hi => by
      obtain ⟨cs', h1, h2⟩ := hx i (by omega)
      rw [int1Cells] at h1
      obtain ⟨_, hlen', hcell⟩ := World.cells?_some h1
      obtain ⟨k, e1, _, wf⟩ := DataW.trod_int Tryd.underlying3 h2
      refine ⟨k, ?_⟩
      have hc2 := hcell 0 (by omega)
      rw [Nat.mul_one, Addr.add_mid g o i, Addr.add_mid g (o + i) 0, Nat.add_zero] at hc2
      rw [hc2, e1]
      rfl
    refine ⟨len, fun i => if hi : i < len then (hex i hi).choose else 0, Or.inr ⟨g, o, cap, rfl, hl, by simpa [maxLen] using hc, hlt, fun i hi => ?_⟩⟩
    simp only [hi, dif_pos]
    exact (hex i hi).choose_spec
set_option maxRecDepth 100000 in
/-- 32 cells that read as an api.Random. -/
theorem open_rcells {H : Type} {enc : TypeId × Value → H} {w : World} {base fuel : Nat} {spare : Nat → Bool} {held : Bool} {cs : List Value} {x : DataW H × List MemPlace}
    (hlen0 : cs.length = 32) (hf : DataW.trod enc Tryd.prog w base spare held fuel 69 cs = some x) : ∃ b : Nat → Nat, ∀ i, i < 32 → cs[i]? = some (.int .u8 (b i : Int)) ∧ b i < 256 := by
  obtain ⟨xs, m, _, _, _, hlen, hall⟩ := DataW.trod_array Tryd.underlying69 hf
  have hb : ∀ i, i < 32 → ∃ b : Nat, cs[i]? = some (.int .u8 (b : Int)) ∧ b < 256 := fun i hi => by
    have h1 := hall i hi
    rw [List.getElem?_eq_getElem (by omega), u8Cells, Nat.mul_one] at h1
    obtain ⟨n, e1, _, wf⟩ := DataW.trod_int Tryd.underlying5 h1
    have u := u8_wf wf
    have e2 := congrArg (fun l => l[0]?) e1
    simp only [List.getElem?_take, List.getElem?_drop] at e2
    refine ⟨n.toNat, ?_, by omega⟩
    rw [Int.toNat_of_nonneg u.1]
    simpa using e2
  refine ⟨fun i => if hi : i < 32 then (hb i hi).choose else 0, fun i hi => ?_⟩
  simp only [hi, dif_pos]
  exact (hb i hi).choose_spec
set_option maxRecDepth 100000 in
/-- A []api.Random that came in. -/
theorem open_rnds {H : Type} {enc : TypeId × Value → H} {w : World} {r : Reach} {b0 base : Nat} {spare : Nat → Bool} {held : Bool} {v : Value} {d : DataW H} {p : List MemPlace}
    (hv : Value.okWide Tryd.prog w r b0 78 v) (h : DataW.Trod enc Tryd.prog w base spare held 78 v d p) :
    ∃ N f, Rl w 32 v N (rn f) ∧ (∀ j, j < N → ∀ i, i < 32 → f j i < 256) ∧ (N = 0 ∨ ∃ elems spare, d = .slice elems spare ∧ elems.length = N) := by
  obtain ⟨fuel, hf⟩ := h
  obtain ⟨a0, l0, c0, rfl⟩ := okWide_slice Tryd.underlying78 hv
  rcases open_slice Tryd.underlying78 hf with ⟨h0, _⟩ | ⟨a, len, cap, m, n, D, Pl, h0, _, hl, hc, hm, hd, hx⟩
  · refine ⟨0, fun _ _ => 0, ⟨rn_ok _ _, Or.inl ⟨rfl, ?_⟩⟩, fun j hj => by omega, Or.inl rfl⟩
    simpa [Value.cells] using h0
  · have h0' : Value.slice a0 l0 c0 = .slice (some a) len cap := by simpa [Value.cells] using h0
    rw [h0'] at hv ⊢
    simp only [Value.okWide, Tryd.underlying78, Cell.okWide, Cell.ok, World.has] at hv
    obtain ⟨_, _, _, hs, row, cells, hsh, _⟩ := hv
    have hlt := shape_lt hsh
    obtain ⟨g, o, spot⟩ := a
    simp only at hs
    subst hs
    have hml : len ≤ m := by rw [hm]; split <;> omega
    have hex : ∀ i, i < len → ∃ k : Nat → Nat, (∀ j, j < 32 → k j < 256) ∧ w.rangeAt g (o + i * 32) (yL 32 k) := fun i hi => by
      obtain ⟨cs', h1, h2⟩ := hx i (by omega)
      rw [rndCells] at h1
      obtain ⟨_, hlen', hcell⟩ := World.cells?_some h1
      obtain ⟨k, hk⟩ := open_rcells hlen' h2
      refine ⟨k, fun j hj => (hk j hj).2, fun j v hv => ?_⟩
      obtain ⟨hj, rfl⟩ := yL_some _ _ _ _ hv
      have hc2 := hcell j hj
      rw [Addr.add_mid g o (i * 32), Addr.add_mid g (o + i * 32) j, (hk j hj).1] at hc2
      exact hc2
    refine ⟨len, fun i => if hi : i < len then (hex i hi).choose else fun _ => 0, ⟨rn_ok _ _, Or.inr ⟨g, o, cap, rfl, hl, by simpa [maxLen] using hc, hlt, fun i hi => ?_⟩⟩, fun i hi => ?_, Or.inr ⟨_, _, (Prod.mk.inj hd).1, by simp⟩⟩
    · show w.rangeAt g (o + i * 32) (yL 32 (if hi : i < len then (hex i hi).choose else fun _ => 0))
      simp only [hi, dif_pos]
      exact (hex i hi).choose_spec.2
    · simp only [hi, dif_pos]
      exact (hex i hi).choose_spec.1
end Go.Proofs.YthpfdnkcepfbaaaDoor
