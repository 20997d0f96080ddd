/- What comes in: five limbs, bytes. -/
import Derived.Test.YtialljmkkichiabOpen
import Derived.Test.YtialljmkkichiabFun6
import Derived.Deep.Slices
set_option linter.unusedVariables false
set_option linter.unusedSimpArgs false
set_option linter.unnecessarySimpa false
namespace Go.Proofs.Ytialljmkkichiab
open Go.ChangeShapes Go.WideShapes Go.ChangeAt Go.RowKit Go.Deep N

theorem u64_wf {n : Int} (h : (Lit.int .u64 n).wf = true) : Wo n := by
  have := bounds_u64 h
  unfold Wo
  omega
theorem u64Cells : Try.prog.cellsOf 26 = 1 := by kernel_rfl
theorem limCells : Try.prog.cellsOf 41 = 5 := by kernel_rfl

set_option maxRecDepth 100000 in
/-- An api.Limbs that came in is five numbers. -/
theorem open_limbs {H : Type} {enc : TypeId × Value → H} {w : World} {r : Reach} {b0 base : Nat} {spare : Nat → Bool} {held : Bool} {v : Value} {d : DataW H} {p : List MemPlace}
    (hv : Value.okWide Try.prog w r b0 41 v) (h : DataW.Trod enc Try.prog w base spare held 41 v d p) : ∃ l0 l1 l2 l3 l4, (Wo l0 ∧ Wo l1 ∧ Wo l2 ∧ Wo l3 ∧ Wo l4) ∧ v = .agg (lc l0 l1 l2 l3 l4) := by
  simp only [Value.okWide, Try.underlying41] at hv
  obtain ⟨cs, rfl, hsz, _⟩ := hv
  rw [limCells] at hsz
  obtain ⟨fuel, hf⟩ := h
  obtain ⟨xs, m, _, _, _, hlen, hall⟩ := DataW.trod_array Try.underlying41 hf
  have hb : ∀ i, i < 5 → ∃ b, cs[i]? = some (.int .u64 b) ∧ Wo b := fun i hi => by
    have h1 := hall i hi
    rw [List.getElem?_eq_getElem (by omega), u64Cells, Nat.mul_one] at h1
    obtain ⟨n, e1, _, wf⟩ := DataW.trod_int Try.underlying26 h1
    exact ⟨n, getElem?_of_chunk e1, u64_wf wf⟩
  obtain ⟨l0, e0, w0⟩ := hb 0 (by decide)
  obtain ⟨l1, e1, w1⟩ := hb 1 (by decide)
  obtain ⟨l2, e2, w2⟩ := hb 2 (by decide)
  obtain ⟨l3, e3, w3⟩ := hb 3 (by decide)
  obtain ⟨l4, e4, w4⟩ := hb 4 (by decide)
  refine ⟨l0, l1, l2, l3, l4, ⟨w0, w1, w2, w3, w4⟩, congrArg Value.agg ?_⟩
  apply Array.ext_getElem?
  intro i
  by_cases hi : i < 5
  · have h5 : i = 0 ∨ i = 1 ∨ i = 2 ∨ i = 3 ∨ i = 4 := by omega
    rcases h5 with rfl | rfl | rfl | rfl | rfl
    · rw [e0]; rfl
    · rw [e1]; rfl
    · rw [e2]; rfl
    · rw [e3]; rfl
    · rw [e4]; rfl
  · rw [Array.getElem?_eq_none (by omega), Array.getElem?_eq_none (by simp [lc]; omega)]

theorem shape_lt {w : World} {b : Nat} {x : TypeId × Nat} (h : w.shape? b = some x) : b < w.heap.size := by
  unfold World.shape? at h
  by_cases hb : b < w.heap.size
  · exact hb
  · rw [Array.getElem?_eq_none (by omega)] at h
    simp at h

set_option maxRecDepth 100000 in
/-- A []byte that came in: nil, or bytes in memory. -/
theorem open_bytes {H : Type} {enc : TypeId × Value → H} {w : World} {r : Reach} {b0 base : Nat} {spare : Nat → Bool} {held : Bool} {v : Value} {d : DataW H} {p : List MemPlace}
    (hv : Value.okWide Try.prog w r b0 32 v) (h : DataW.Trod enc Try.prog w base spare held 32 v d p) :
    v = .slice none 0 0 ∨ ∃ (g o len cap : Nat) (b : Nat → Nat), v = .slice (some ⟨g, o, none⟩) len cap ∧ len ≤ cap ∧ cap ≤ 9223372036854775807 ∧ Bs w g o len b := by
  obtain ⟨fuel, hf⟩ := h
  obtain ⟨a0, l0, c0, rfl⟩ := okWide_slice Try.underlying32 hv
  rcases open_slice1 Try.underlying32 u8Cells hf with ⟨h0, _⟩ | ⟨a, len, cap, m, n, V, D, Pl, h0, _, hl, hc, hm, _, hx⟩
  · left
    simpa [Value.cells] using h0
  · right
    have h0' : Value.slice a0 l0 c0 = .slice (some a) len cap := by simpa [Value.cells] using h0
    rw [h0'] at hv ⊢
    simp only [Value.okWide, Try.underlying32, Cell.okWide, Cell.ok, World.has] at hv
    obtain ⟨_, _, _, hs, row, cells, hsh, _⟩ := hv
    have hlt := shape_lt hsh
    obtain ⟨g, o, spot⟩ := a
    simp only at hs
    subst hs
    have hml : len ≤ m := by rw [hm]; split <;> omega
    refine ⟨g, o, len, cap, fun i => (intOf (V i)).toNat, rfl, hl, hc, ⟨hlt, fun i hi => ?_, fun i hi => ?_⟩⟩
    · obtain ⟨_, h2⟩ := hx i (by omega)
      obtain ⟨k, e1, _, wf⟩ := DataW.trod_int Try.underlying5 h2
      have u := u8_wf wf
      have e2 : V i = .int .u8 k := by simpa using e1
      rw [e2]
      simp only [intOf]
      omega
    · obtain ⟨h1, h2⟩ := hx i (by omega)
      obtain ⟨k, e1, _, wf⟩ := DataW.trod_int Try.underlying5 h2
      have u := u8_wf wf
      have e2 : V i = .int .u8 k := by simpa using e1
      have ha : (Addr.add ⟨g, o, none⟩ i) = ⟨g, o + i, none⟩ := by
        by_cases h0 : i = 0
        · subst h0; simp [Addr.add]
        · simp [Addr.add, h0]
      rw [ha, e2] at h1
      rw [h1, e2]
      simp only [intOf]
      rw [Int.toNat_of_nonneg u.1]
end Go.Proofs.Ytialljmkkichiab
