/- A case that came in. -/
import Derived.Test.YtpdbdaleheeldaaSeO
import Derived.Test.YtpdbdaleheeldaaSeM
import Derived.JoinedCond
set_option linter.constructorNameAsVariable false
set_option linter.unusedVariables false
set_option linter.unusedSimpArgs false
set_option linter.unnecessarySimpa false
namespace Go.Proofs.Ytpdbdaleheeldaa
open Go.ChangeShapes Go.WideShapes Go.ChangeAt Go.RowKit Go.Deep

theorem caseCells : Try.prog.cellsOf 28 = 49 := by kernel_rfl
theorem intC1 : Try.prog.cellsOf 3 = 1 := by kernel_rfl
theorem one_at (cs : List Value) (i : Nat) (h : i < cs.length) : (cs.drop i).take 1 = [cs[i]] := by
  rw [List.drop_eq_getElem_cons h]
  rfl
set_option maxRecDepth 100000 in
theorem open_case {H : Type} {enc : TypeId × Value → H} {w : World} {r : Reach} {b0 base : Nat} {held : Bool} {v : Value} {d : DataW H} {p : List MemPlace}
    (hv : Value.okWide Try.prog w r b0 28 v) (h : DataW.Trod enc Try.prog w base (fun _ => true) held 28 v d p) :
    ∃ (k nn : Nat → Nat) (vO vT vX : Value) (at' : Int) (by' : Nat) (n0 : Nat) (f0 : Nat → Nat) (n1 : Nat) (f1 : Nat → Nat) (n2 : Nat) (f2 : Nat → Nat), v = .agg (caC k nn vO vT vX at' by') ∧ ((∀ i, i < 32 → k i < 256) ∧ (∀ i, i < 12 → nn i < 256) ∧ by' < 256 ∧ (Lit.int .i64 at').wf = true) ∧
      (Sz w vO n0 f0 ∧ Sz w vT n1 f1 ∧ Sz w vX n2 f2) ∧ n0 + n1 + n2 ≤ Rows.uptoBulk d := by
  simp only [Value.okWide, Try.underlying28] at hv
  obtain ⟨C, rfl, hsz, _⟩ := hv
  rw [caseCells] at hsz
  obtain ⟨fuel, hf⟩ := h
  obtain ⟨xs, m, _, hx, _, hlen, hall⟩ := DataW.trod_struct Try.underlying28 hf
  obtain ⟨cs, hcs⟩ : ∃ cs, (Value.agg C).cells.toList = cs := ⟨_, rfl⟩
  have hC : C.toList = cs := hcs
  rw [hcs] at hall
  have hl : cs.length = 49 := by rw [← hC]; simpa using hsz
  match xs, hlen with
  | [y0, y1, y2, y3, y4, y5, y6], _ =>
    have a0 : DataW.trod enc Try.prog w base (fun _ => true) held m 23 ((cs.drop 0).take (Try.prog.cellsOf 23)) = some y0 := hall 0 _ rfl
    rw [keyCells] at a0
    have a1 : DataW.trod enc Try.prog w base (fun _ => true) held m 25 ((cs.drop 32).take (Try.prog.cellsOf 25)) = some y1 := hall 1 _ rfl
    rw [nonCells] at a1
    have a2 : DataW.trod enc Try.prog w base (fun _ => true) held m 26 ((cs.drop 44).take (Try.prog.cellsOf 26)) = some y2 := hall 2 _ rfl
    rw [bytesC1] at a2
    have a3 : DataW.trod enc Try.prog w base (fun _ => true) held m 26 ((cs.drop 45).take (Try.prog.cellsOf 26)) = some y3 := hall 3 _ rfl
    rw [bytesC1] at a3
    have a4 : DataW.trod enc Try.prog w base (fun _ => true) held m 26 ((cs.drop 46).take (Try.prog.cellsOf 26)) = some y4 := hall 4 _ rfl
    rw [bytesC1] at a4
    have a5 : DataW.trod enc Try.prog w base (fun _ => true) held m 3 ((cs.drop 47).take (Try.prog.cellsOf 3)) = some y5 := hall 5 _ rfl
    rw [intC1] at a5
    have a6 : DataW.trod enc Try.prog w base (fun _ => true) held m 5 ((cs.drop 48).take (Try.prog.cellsOf 5)) = some y6 := hall 6 _ rfl
    rw [u8Cells] at a6
    obtain ⟨k, hk⟩ := arr_cells Try.underlying23 a0
    obtain ⟨nn, hn⟩ := arr_cells Try.underlying25 a1
    rw [one_at cs _ (by omega)] at a2
    rw [one_at cs _ (by omega)] at a3
    rw [one_at cs _ (by omega)] at a4
    obtain ⟨n0, f0, s0, q0, _⟩ := open_part (d := y2.1) (p := y2.2) a2
    obtain ⟨n1, f1, s1, q1, _⟩ := open_part (d := y3.1) (p := y3.2) a3
    obtain ⟨n2, f2, s2, q2, _⟩ := open_part (d := y4.1) (p := y4.2) a4
    obtain ⟨z5, e5, _, wf5⟩ := DataW.trod_int Try.underlying3 a5
    obtain ⟨z6, e6, _, wf6⟩ := DataW.trod_int Try.underlying5 a6
    have u6 := u8_wf wf6
    obtain ⟨b6, rfl⟩ := Int.eq_ofNat_of_zero_le u6.1
    have c5 := take_at e5
    have c6 := take_at e6
    refine ⟨k, nn, cs[44], cs[45], cs[46], z5, b6, n0, f0, n1, f1, n2, f2, congrArg Value.agg ?_, ⟨fun i hi => (hk i hi).1, fun i hi => (hn i hi).1, by omega, wf5⟩, ⟨s0, s1, s2⟩, ?_⟩
    · apply Array.ext_getElem?
      intro i
      have hCi : C[i]? = cs[i]? := by rw [← hC]; simp
      rw [hCi]
      by_cases h32 : i < 32
      · rw [caC_k _ _ _ _ _ _ _ _ h32]
        have := (hk i h32).2
        rw [List.getElem?_take_of_lt h32, List.getElem?_drop, Nat.zero_add] at this
        exact this
      · by_cases h44 : i < 44
        · obtain ⟨j, rfl⟩ : ∃ j, i = 32 + j := ⟨i - 32, by omega⟩
          rw [caC_n _ _ _ _ _ _ _ _ (by omega)]
          have := (hn j (by omega)).2
          rw [List.getElem?_take_of_lt (by omega), List.getElem?_drop] at this
          exact this
        · have hcs : i = 44 ∨ i = 45 ∨ i = 46 ∨ i = 47 ∨ i = 48 ∨ 49 ≤ i := by omega
          rcases hcs with rfl | rfl | rfl | rfl | rfl | h49
          · rw [caC_44, List.getElem?_eq_getElem (by omega)]
          · rw [caC_45, List.getElem?_eq_getElem (by omega)]
          · rw [caC_46, List.getElem?_eq_getElem (by omega)]
          · rw [caC_47]; exact c5
          · rw [caC_48]; exact c6
          · rw [List.getElem?_eq_none (by omega), Array.getElem?_eq_none (by rw [caC_size]; omega)]
    · have ed : d = .agg [y0.1, y1.1, y2.1, y3.1, y4.1, y5.1, y6.1] := (Prod.mk.inj hx).1
      rw [ed]
      simp only [Rows.uptoBulk, Rows.uptoBulkAll]
      omega
end Go.Proofs.Ytpdbdaleheeldaa
