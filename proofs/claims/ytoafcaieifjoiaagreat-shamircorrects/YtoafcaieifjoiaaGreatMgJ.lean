/- Joined: OpenB, OpenL, OpenI, OpenS. -/
import Derived.Test.YtoafcaieifjoiaaGreatOpen
import Derived.Test.YtoafcaieifjoiaaGreatMgB
import Derived.Deep.Slices
import Derived.SizedLaws
import Derived.Below
import Derived.Test.YtoafcaieifjoiaaGreatMgC
import Derived.Test.YtoafcaieifjoiaaGreatMgD
import Derived.ChangeSame
/- A []byte that came in. -/
set_option linter.unusedVariables false
set_option linter.unusedSimpArgs false
set_option linter.unnecessarySimpa false
namespace Go.Proofs.YtoafcaieifjoiaaGreat
open Go.ChangeShapes Go.WideShapes Go.ChangeAt Go.RowKit Go.Deep N

theorem nat_r256 {a : Int} (ra : R256 a) : ∃ n : Nat, a = (n : Int) ∧ n < 115792089237316195423570985008687907853269984665640564039457584007913129639936 := by
  obtain ⟨n, rfl⟩ := Int.eq_ofNat_of_zero_le ra.1
  exact ⟨n, rfl, by unfold R256 at ra; omega⟩
theorem shape_lt {w : World} {b : Nat} {x : TypeId × Nat} (h : w.shape? b = some x) : b < w.heap.size := by
  unfold World.shape? at h
  by_cases hb : b < w.heap.size
  · exact hb
  · rw [Array.getElem?_eq_none (by omega)] at h
    simp at h
end Go.Proofs.YtoafcaieifjoiaaGreat

/- A []api.Scalar that came in. -/
namespace Go.Proofs.YtoafcaieifjoiaaGreat
open Go.ChangeShapes Go.WideShapes Go.ChangeAt Go.RowKit Go.Deep N

set_option maxRecDepth 100000 in
/-- 32 cells that read as an api.Scalar are the bytes of some number. -/
theorem open_cells {H : Type} {enc : TypeId × Value → H} {w : World} {base fuel : Nat} {spare : Nat → Bool} {held : Bool} {cs : List Value} {x : DataW H × List MemPlace}
    (hlen0 : cs.length = 32) (hf : DataW.trod enc Tryz.prog w base spare held fuel 24 cs = some x) : ∃ n : Nat, n < 115792089237316195423570985008687907853269984665640564039457584007913129639936 ∧ ∀ i, i < 32 → cs[i]? = some (.int .u8 (by8 (n : Int) i)) := by
  obtain ⟨xs, m, _, _, _, hlen, hall⟩ := DataW.trod_array Tryz.underlying24 hf
  have hb : ∀ i, i < 32 → ∃ b, cs[i]? = some (.int .u8 b) ∧ 0 ≤ b ∧ b < 256 := fun i hi => by
    have h1 := hall i hi
    rw [List.getElem?_eq_getElem (by omega), u8Cells, Nat.mul_one] at h1
    obtain ⟨n, e1, _, wf⟩ := DataW.trod_int Tryz.underlying5 h1
    have u := u8_wf wf
    have e2 := congrArg (fun l => l[0]?) e1
    simp only [List.getElem?_take, List.getElem?_drop] at e2
    exact ⟨n, by simpa using e2, u.1, u.2⟩
  obtain ⟨b, hb'⟩ : ∃ b : Nat → Int, ∀ i, i < 32 → cs[i]? = some (.int .u8 (b i)) ∧ 0 ≤ b i ∧ b i < 256 := by
    refine ⟨fun i => if hi : i < 32 then (hb i hi).choose else 0, fun i hi => ?_⟩
    simp only [hi, dif_pos]
    exact (hb i hi).choose_spec
  obtain ⟨n, hn, hby⟩ := num_of_bytes b (fun i hi => (hb' i hi).2)
  obtain ⟨k, rfl, hk⟩ := nat_r256 hn
  exact ⟨k, hk, fun i hi => by rw [(hb' i hi).1, hby i hi]⟩
theorem scCells : Tryz.prog.cellsOf 24 = 32 := by kernel_rfl
end Go.Proofs.YtoafcaieifjoiaaGreat

/- A []int that came in. -/
namespace Go.Proofs.YtoafcaieifjoiaaGreat
open Go.ChangeShapes Go.WideShapes Go.ChangeAt Go.RowKit Go.Deep N

theorem intCells : Tryz.prog.cellsOf 3 = 1 := by kernel_rfl
theorem i64_wf {n : Int} (h : (Lit.int .i64 n).wf = true) : -9223372036854775808 ≤ n ∧ n ≤ 9223372036854775807 := by
  have h1 : IntKind.i64.min = -9223372036854775808 := by kernel_rfl
  have h2 : IntKind.i64.max = 9223372036854775807 := by kernel_rfl
  simp [Lit.wf, h1, h2] at h
  omega
end Go.Proofs.YtoafcaieifjoiaaGreat

/- A []api.Share, a []api.Point that came in. -/
namespace Go.Proofs.YtoafcaieifjoiaaGreat
open Go.ChangeShapes Go.WideShapes Go.ChangeAt Go.RowKit Go.Deep N

theorem shCells : Tryz.prog.cellsOf 96 = 33 := by kernel_rfl
theorem cells_fe {cs : List Value} {k : Nat} (hlen : cs.length = 32) (h : ∀ i, i < 32 → cs[i]? = some (.int .u8 (by8 (k : Int) i))) : cs = feL (k : Int) := by
  apply List.ext_getElem?
  intro i
  by_cases hi : i < 32
  · have e := feC_get (k : Int) i hi
    rw [h i hi, ← e]
    exact List.getElem?_toArray
  · rw [List.getElem?_eq_none (by omega), List.getElem?_eq_none (by rw [feL_len]; omega)]
set_option maxRecDepth 100000 in
/-- 33 cells that read as a share. -/
theorem open_share {H : Type} {enc : TypeId × Value → H} {w : World} {base fuel : Nat} {spare : Nat → Bool} {held : Bool} {cs : List Value} {x : DataW H × List MemPlace}
    (hl : cs.length = 33) (hf : DataW.trod enc Tryz.prog w base spare held fuel 96 cs = some x) : ∃ (a : Int) (k : Nat), (-9223372036854775808 ≤ a ∧ a ≤ 9223372036854775807) ∧ k < 115792089237316195423570985008687907853269984665640564039457584007913129639936 ∧ cs = .int .i64 a :: feL (k : Int) := by
  obtain ⟨y0, y1, m, rfl, _, h0, h1⟩ := trod_struct2 Tryz.underlying96 hf
  match cs, hl with
  | c0 :: cs1, hl =>
    have hl1 : cs1.length = 32 := by simpa using hl
    obtain ⟨a, e0, _, wf⟩ := DataW.trod_int Tryz.underlying3 h0
    have e0' : c0 = .int .i64 a := by
      rw [intCells] at e0
      simpa using e0
    have h1' : DataW.trod enc Tryz.prog w base spare held m 24 cs1 = some y1 := by
      rw [scCells] at h1
      have e : List.take 32 (List.drop 1 (c0 :: cs1)) = cs1 := by rw [List.drop_succ_cons, List.drop_zero, List.take_of_length_le (by omega)]
      rw [← e]
      exact h1
    obtain ⟨k, hk, hc⟩ := open_cells hl1 h1'
    exact ⟨a, k, i64_wf wf, hk, by rw [e0', cells_fe hl1 hc]⟩
set_option maxRecDepth 100000 in
theorem open_shs {H : Type} {enc : TypeId × Value → H} {w : World} {r : Reach} {b0 base : Nat} {spare : Nat → Bool} {held : Bool} {v : Value} {d : DataW H} {p : List MemPlace}
    (hv : Value.okWide Tryz.prog w r b0 49 v) (h : DataW.Trod enc Tryz.prog w base spare held 49 v d p) :
    ∃ N f y, Hl w v N f y ∧ (∀ i, i < N → -9223372036854775808 ≤ f i ∧ f i ≤ 9223372036854775807) ∧ (N = 0 ∨ ∃ elems spare, d = .slice elems spare ∧ elems.length = N) := by
  obtain ⟨fuel, hf⟩ := h
  obtain ⟨a0, l0, c0, rfl⟩ := okWide_slice Tryz.underlying49 hv
  rcases open_slice Tryz.underlying49 hf with ⟨h0, _⟩ | ⟨a, len, cap, m, n, D, Pl, h0, _, hl, hc, hm, hd, hx⟩
  · refine ⟨0, fun _ => 0, fun _ => 0, ⟨⟨hF_ok 0 _ _, Or.inl ⟨rfl, ?_⟩⟩, fun i hi => by omega⟩, fun i hi => by omega, Or.inl rfl⟩
    simpa [Value.cells] using h0
  · have h0' : Value.slice a0 l0 c0 = .slice (some a) len cap := by simpa [Value.cells] using h0
    rw [h0'] at hv ⊢
    simp only [Value.okWide, Tryz.underlying49, Cell.okWide, Cell.ok, World.has] at hv
    obtain ⟨_, _, _, hs, row, cells, hsh, _⟩ := hv
    have hlt := shape_lt hsh
    obtain ⟨g, o, spot⟩ := a
    simp only at hs
    subst hs
    have hml : len ≤ m := by rw [hm]; split <;> omega
    have hex : ∀ i, i < len → ∃ z : Int × Nat, (-9223372036854775808 ≤ z.1 ∧ z.1 ≤ 9223372036854775807) ∧ z.2 < 115792089237316195423570985008687907853269984665640564039457584007913129639936 ∧ w.rangeAt g (o + i * 33) (.int .i64 z.1 :: feL (z.2 : Int)) := fun i hi => by
      obtain ⟨cs', h1, h2⟩ := hx i (by omega)
      rw [shCells] at h1
      obtain ⟨_, hlen', hcell⟩ := World.cells?_some h1
      obtain ⟨a, k, ha, hk, rfl⟩ := open_share hlen' h2
      refine ⟨(a, k), ha, hk, fun j u hu => ?_⟩
      have hj : j < 33 := by have := (List.getElem?_eq_some_iff.1 hu).1; rwa [hlen'] at this
      have hc2 := hcell j hj
      rw [Addr.add_mid g o (i * 33), Addr.add_mid g (o + i * 33) j] at hc2
      rw [hc2]
      exact hu
    refine ⟨len, fun i => if hi : i < len then (hex i hi).choose.1 else 0, fun i => if hi : i < len then ((hex i hi).choose.2 : Int) else 0, ⟨⟨hF_ok _ _ _, Or.inr ⟨g, o, cap, rfl, hl, by simpa [maxLen] using hc, hlt, fun i hi => ?_⟩⟩, fun i hi => ?_⟩, fun i hi => ?_, Or.inr ⟨_, _, (Prod.mk.inj hd).1, by simp⟩⟩
    · unfold hF
      simp only [hi, dif_pos]
      exact (hex i hi).choose_spec.2.2
    · simp only [hi, dif_pos]
      have := (hex i hi).choose_spec.2.1
      exact ⟨by omega, by omega⟩
    · simp only [hi, dif_pos]
      exact (hex i hi).choose_spec.1
end Go.Proofs.YtoafcaieifjoiaaGreat
