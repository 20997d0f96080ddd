/- A midstate that came in. -/
import Derived.Test.YtjcgjhncdaplcaaDoorSOpen
import Derived.Test.YtjcgjhncdaplcaaDoorH13
import Derived.Deep.Strs
set_option linter.constructorNameAsVariable false
set_option linter.unusedVariables false
set_option linter.unusedSimpArgs false
set_option linter.unnecessarySimpa false
namespace Go.Proofs.YtjcgjhncdaplcaaDoor
open Go.ChangeShapes Go.WideShapes Go.ChangeAt Go.RowKit Go.Deep

theorem u64_wf {n : Int} (h : (Lit.int .u64 n).wf = true) : 0 ≤ n ∧ n < 18446744073709551616 := by
  have := bounds_u64 h
  omega
theorem MidCells : Tryd.prog.cellsOf 73 = 10 := by kernel_rfl
theorem bytesCells : Tryd.prog.cellsOf 22 = 1 := by kernel_rfl
theorem midTypes : Tryd.prog.cellTypes Tryd.prog.depth 73 = some [52, 52, 52, 52, 52, 52, 52, 52, 22, 52] := by kernel_rfl
theorem take_at {cs : List Value} {i : Nat} {v : Value} (e1 : ((cs.drop i).take 1) = [v]) : cs[i]? = some v := by
  have e2 := congrArg (fun l => l[0]?) e1
  simp only [List.getElem?_take, List.getElem?_drop] at e2
  simpa using e2
set_option maxRecDepth 100000 in
theorem open_mid {H : Type} {enc : TypeId × Value → H} {w : World} {r : Reach} {b0 base : Nat} {spare : Nat → Bool} {held : Bool} {v : Value} {d : DataW H} {p : List MemPlace}
    (hv : Value.okWide Tryd.prog w r b0 73 v) (h : DataW.Trod enc Tryd.prog w base spare held 73 v d p) :
    ∃ s q k c n t, v = .agg (mC s (.slice q k c) n) ∧ (∀ i, i < 8 → U (s i)) ∧ n < 18446744073709551616 ∧ Sl w (.slice q k c) k t ∧ (k = 0 ∨ ∃ d0 d2 elems spare, d = .agg [d0, .slice elems spare, d2] ∧ elems.length = k) := by
  simp only [Value.okWide, Tryd.underlying73] at hv
  obtain ⟨cs, rfl, hsz, ts, hts, _, hrow⟩ := hv
  rw [MidCells] at hsz
  rw [midTypes] at hts
  obtain rfl := (Option.some.inj hts).symm
  obtain ⟨fuel, hf⟩ := h
  obtain ⟨y0, y1, y2, m, hx, _, h0, h1, h2⟩ := trod_struct3 Tryd.underlying73 hf
  have hb : ∀ i, i < 8 → ∃ b : Nat, cs[i]? = some (.int .u64 (b : Int)) ∧ b < 18446744073709551616 := fun i hi => by
    obtain ⟨xs, m', _, _, _, hlen, hall⟩ := DataW.trod_array Tryd.underlying53 h0
    have h3 := hall i hi
    rw [List.getElem?_eq_getElem (by omega), u64Cells, Nat.mul_one] at h3
    obtain ⟨n, e1, _, wf⟩ := DataW.trod_int Tryd.underlying52 h3
    have u := u64_wf wf
    obtain ⟨k, rfl⟩ := Int.eq_ofNat_of_zero_le u.1
    refine ⟨k, ?_, by omega⟩
    have e3 := take_at e1
    rw [S8Cells] at e3
    rw [List.getElem?_take_of_lt hi, List.getElem?_drop] at e3
    simpa [Value.cells] using e3
  have h8 : ∃ v8, cs[8]? = some v8 := ⟨cs[8], Array.getElem?_eq_getElem (by omega)⟩
  obtain ⟨v8, h8⟩ := h8
  obtain ⟨u, hu, ok8⟩ := hrow 8 v8 h8
  obtain rfl : u = 22 := by simpa using hu.symm
  have hv8 : Value.okWide Tryd.prog w r b0 22 v8 := by
    simp only [Value.okWide, Tryd.underlying22]
    exact ok8
  obtain ⟨q, k0, c, rfl⟩ := okWide_slice Tryd.underlying22 hv8
  have hT8 : DataW.Trod enc Tryd.prog w base spare held 22 (.slice q k0 c) y1.1 y1.2 := by
    refine ⟨m, ?_⟩
    rw [bytesCells] at h1
    have e8 : (List.take 1 (List.drop 8 (Value.agg cs).cells.toList)) = (Value.slice q k0 c).cells.toList := by
      apply List.ext_getElem?
      intro j
      by_cases hj : j = 0
      · subst hj
        simp only [List.getElem?_take, List.getElem?_drop, Value.cells]
        simpa using h8
      · rw [List.getElem?_eq_none (by simp; omega), List.getElem?_eq_none (by simp [Value.cells]; omega)]
    rw [← e8]
    exact h1
  obtain ⟨k, t, hS, hd⟩ := open_bytes hv8 hT8
  obtain rfl : k0 = k := by
    rcases hS with ⟨rfl, he⟩ | ⟨g, o, cap, he, _⟩
    · simp only [Value.slice.injEq] at he; exact he.2.1
    · simp only [Value.slice.injEq] at he; exact he.2.1
  obtain ⟨n9, e9, _, wf9⟩ := DataW.trod_int Tryd.underlying52 h2
  have u9 := u64_wf wf9
  obtain ⟨n, rfl⟩ := Int.eq_ofNat_of_zero_le u9.1
  have h9 : cs[9]? = some (.int .u64 (n : Int)) := by
    rw [u64Cells] at e9
    have e3 := take_at e9
    simpa [Value.cells] using e3
  refine ⟨fun i => if hi : i < 8 then (hb i hi).choose else 0, q, k0, c, n, t, congrArg Value.agg ?_, fun i hi => ?_, by omega, hS, ?_⟩
  · apply Array.ext_getElem?
    intro i
    by_cases hi : i < 8
    · unfold mC
      rw [Array.getElem?_append_left (by rw [vC_size]; exact hi), vC_get 8 _ i hi]
      simp only [hi, dif_pos]
      exact (hb i hi).choose_spec.1
    · by_cases hi8 : i = 8
      · subst hi8
        rw [mC_tail]; exact h8
      · by_cases hi9 : i = 9
        · subst hi9
          rw [mC_len]; exact h9
        · rw [Array.getElem?_eq_none (by omega), Array.getElem?_eq_none (by rw [mC_size]; omega)]
  · simp only [hi, dif_pos]
    exact (hb i hi).choose_spec.2
  · rcases hd with hd | ⟨elems, sp, he, hl⟩
    · exact Or.inl hd
    · exact Or.inr ⟨y0.1, y2.1, elems, sp, by rw [(Prod.mk.inj hx).1, he], hl⟩
end Go.Proofs.YtjcgjhncdaplcaaDoor
