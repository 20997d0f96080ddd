/- Joined: OpenB, OpenL, OpenI. -/
import Derived.Test.YtledggdoehnlcaaOpen
import Derived.Test.YtledggdoehnlcaaMgB
import Derived.Deep.Slices
import Derived.SizedLaws
import Derived.Below
import Derived.Test.YtledggdoehnlcaaMgC
import Derived.Test.YtledggdoehnlcaaMgD
/- A []byte that came in. -/
set_option linter.unusedVariables false
set_option linter.unusedSimpArgs false
set_option linter.unnecessarySimpa false
namespace Go.Proofs.Ytledggdoehnlcaa
open Go.ChangeShapes Go.WideShapes Go.ChangeAt Go.RowKit Go.Deep N

theorem u8Bytes : Try.prog.bytesOf 5 = 1 := by kernel_rfl
theorem nat_r256 {a : Int} (ra : R256 a) : ∃ n : Nat, a = (n : Int) ∧ n < 115792089237316195423570985008687907853269984665640564039457584007913129639936 := by
  obtain ⟨n, rfl⟩ := Int.eq_ofNat_of_zero_le ra.1
  exact ⟨n, rfl, by unfold R256 at ra; omega⟩
theorem shape_lt {w : World} {b : Nat} {x : TypeId × Nat} (h : w.shape? b = some x) : b < w.heap.size := by
  unfold World.shape? at h
  by_cases hb : b < w.heap.size
  · exact hb
  · rw [Array.getElem?_eq_none (by omega)] at h
    simp at h
set_option maxRecDepth 100000 in
/-- A []byte that came in. -/
theorem open_bytes {H : Type} {enc : TypeId × Value → H} {w : World} {r : Reach} {b0 base : Nat} {spare : Nat → Bool} {held : Bool} {v : Value} {d : DataW H} {p : List MemPlace}
    (hv : Value.okWide Try.prog w r b0 96 v) (h : DataW.Trod enc Try.prog w base spare held 96 v d p) :
    ∃ n f, Sl w v n f ∧ (n = 0 ∨ ∃ elems spare, d = .slice elems spare ∧ elems.length = n) := by
  obtain ⟨fuel, hf⟩ := h
  obtain ⟨a0, l0, c0, rfl⟩ := okWide_slice Try.underlying96 hv
  rcases open_slice1 Try.underlying96 u8Cells hf with ⟨h0, _⟩ | ⟨a, len, cap, m, n, V, D, Pl, h0, _, hl, hc, hm, hd, hx⟩
  · refine ⟨0, fun _ => 0, Or.inl ⟨rfl, ?_⟩, Or.inl rfl⟩
    simpa [Value.cells] using h0
  · have h0' : Value.slice a0 l0 c0 = .slice (some a) len cap := by simpa [Value.cells] using h0
    rw [h0'] at hv ⊢
    simp only [Value.okWide, Try.underlying96, Cell.okWide, Cell.ok, World.has] at hv
    obtain ⟨_, _, _, hs, row, cells, hsh, _⟩ := hv
    have hlt := shape_lt hsh
    obtain ⟨g, o, spot⟩ := a
    simp only at hs
    subst hs
    have hml : len ≤ m := by rw [hm]; split <;> omega
    refine ⟨len, fun i => (intOf (V i)).toNat, Or.inr ⟨g, o, cap, rfl, hl, by simpa [maxLen] using hc, hlt, fun i hi => ?_, fun i hi => ?_⟩, Or.inr ⟨_, _, (Prod.mk.inj hd).1, by simp⟩⟩
    · obtain ⟨_, h2⟩ := hx i (by omega)
      obtain ⟨k, e1, _, wf⟩ := DataW.trod_int Try.underlying5 h2
      have u := u8_wf wf
      have e2 : V i = .int .u8 k := by simpa using e1
      rw [e2]
      simp only [intOf]
      omega
    · obtain ⟨h1, h2⟩ := hx i (by omega)
      obtain ⟨k, e1, _, wf⟩ := DataW.trod_int Try.underlying5 h2
      have u := u8_wf wf
      have e2 : V i = .int .u8 k := by simpa using e1
      have ha : (Addr.add ⟨g, o, none⟩ i) = ⟨g, o + i, none⟩ := Addr.add_mid g o i
      rw [ha, e2] at h1
      rw [h1, e2]
      simp only [intOf]
      rw [Int.toNat_of_nonneg u.1]
end Go.Proofs.Ytledggdoehnlcaa

/- A []api.Scalar that came in. -/
set_option linter.unusedVariables false
set_option linter.unusedSimpArgs false
set_option linter.unnecessarySimpa false
namespace Go.Proofs.Ytledggdoehnlcaa
open Go.ChangeShapes Go.WideShapes Go.ChangeAt Go.RowKit Go.Deep N

set_option maxRecDepth 100000 in
/-- 32 cells that read as an api.Scalar are the bytes of some number. -/
theorem open_cells {H : Type} {enc : TypeId × Value → H} {w : World} {base fuel : Nat} {spare : Nat → Bool} {held : Bool} {cs : List Value} {x : DataW H × List MemPlace}
    (hlen0 : cs.length = 32) (hf : DataW.trod enc Try.prog w base spare held fuel 24 cs = some x) : ∃ n : Nat, n < 115792089237316195423570985008687907853269984665640564039457584007913129639936 ∧ ∀ i, i < 32 → cs[i]? = some (.int .u8 (by8 (n : Int) i)) := by
  obtain ⟨xs, m, _, _, _, hlen, hall⟩ := DataW.trod_array Try.underlying24 hf
  have hb : ∀ i, i < 32 → ∃ b, cs[i]? = some (.int .u8 b) ∧ 0 ≤ b ∧ b < 256 := fun i hi => by
    have h1 := hall i hi
    rw [List.getElem?_eq_getElem (by omega), u8Cells, Nat.mul_one] at h1
    obtain ⟨n, e1, _, wf⟩ := DataW.trod_int Try.underlying5 h1
    have u := u8_wf wf
    have e2 := congrArg (fun l => l[0]?) e1
    simp only [List.getElem?_take, List.getElem?_drop] at e2
    exact ⟨n, by simpa using e2, u.1, u.2⟩
  obtain ⟨b, hb'⟩ : ∃ b : Nat → Int, ∀ i, i < 32 → cs[i]? = some (.int .u8 (b i)) ∧ 0 ≤ b i ∧ b i < 256 := by
    refine ⟨fun i => if hi : i < 32 then (hb i hi).choose else 0, fun i hi => ?_⟩
    simp only [hi, dif_pos]
    exact (hb i hi).choose_spec
  obtain ⟨n, hn, hby⟩ := num_of_bytes b (fun i hi => (hb' i hi).2)
  obtain ⟨k, rfl, hk⟩ := nat_r256 hn
  exact ⟨k, hk, fun i hi => by rw [(hb' i hi).1, hby i hi]⟩
theorem scCells : Try.prog.cellsOf 24 = 32 := by kernel_rfl
set_option maxRecDepth 100000 in
/-- A []api.Scalar that came in. -/
theorem open_scs {H : Type} {enc : TypeId × Value → H} {w : World} {r : Reach} {b0 base : Nat} {spare : Nat → Bool} {held : Bool} {v : Value} {d : DataW H} {p : List MemPlace}
    (hv : Value.okWide Try.prog w r b0 25 v) (h : DataW.Trod enc Try.prog w base spare held 25 v d p) :
    ∃ N f, Ls w v N f ∧ (N = 0 ∨ ∃ elems spare, d = .slice elems spare ∧ elems.length = N) := by
  obtain ⟨fuel, hf⟩ := h
  obtain ⟨a0, l0, c0, rfl⟩ := okWide_slice Try.underlying25 hv
  rcases open_slice Try.underlying25 hf with ⟨h0, _⟩ | ⟨a, len, cap, m, n, D, Pl, h0, _, hl, hc, hm, hd, hx⟩
  · refine ⟨0, fun _ => 0, ⟨fun i hi => by omega, Or.inl ⟨rfl, ?_⟩⟩, Or.inl rfl⟩
    simpa [Value.cells] using h0
  · have h0' : Value.slice a0 l0 c0 = .slice (some a) len cap := by simpa [Value.cells] using h0
    rw [h0'] at hv ⊢
    simp only [Value.okWide, Try.underlying25, Cell.okWide, Cell.ok, World.has] at hv
    obtain ⟨_, _, _, hs, row, cells, hsh, _⟩ := hv
    have hlt := shape_lt hsh
    obtain ⟨g, o, spot⟩ := a
    simp only at hs
    subst hs
    have hml : len ≤ m := by rw [hm]; split <;> omega
    have hex : ∀ i, i < len → ∃ k : Nat, k < 115792089237316195423570985008687907853269984665640564039457584007913129639936 ∧ Fc w g (o + i * 32) (k : Int) := fun i hi => by
      obtain ⟨cs', h1, h2⟩ := hx i (by omega)
      rw [scCells] at h1
      obtain ⟨_, hlen', hcell⟩ := World.cells?_some h1
      obtain ⟨k, hk, hkb⟩ := open_cells hlen' h2
      refine ⟨k, hk, hlt, fun j hj => ?_⟩
      have hc2 := hcell j hj
      rw [Addr.add_mid g o (i * 32), Addr.add_mid g (o + i * 32) j, hkb j hj] at hc2
      exact hc2
    refine ⟨len, fun i => if hi : i < len then (hex i hi).choose else 0, ⟨fun i hi => ?_, Or.inr ⟨g, o, cap, rfl, hl, by simpa [maxLen] using hc, hlt, fun i hi => ?_⟩⟩, Or.inr ⟨_, _, (Prod.mk.inj hd).1, by simp⟩⟩
    · simp only [hi, dif_pos]
      exact (hex i hi).choose_spec.1
    · simp only [hi, dif_pos]
      exact (hex i hi).choose_spec.2
end Go.Proofs.Ytledggdoehnlcaa

/- A []int that came in. -/
set_option linter.unusedVariables false
set_option linter.unusedSimpArgs false
set_option linter.unnecessarySimpa false
namespace Go.Proofs.Ytledggdoehnlcaa
open Go.ChangeShapes Go.WideShapes Go.ChangeAt Go.RowKit Go.Deep N

theorem intCells : Try.prog.cellsOf 3 = 1 := by kernel_rfl
theorem i64_wf {n : Int} (h : (Lit.int .i64 n).wf = true) : -9223372036854775808 ≤ n ∧ n ≤ 9223372036854775807 := by
  have h1 : IntKind.i64.min = -9223372036854775808 := by kernel_rfl
  have h2 : IntKind.i64.max = 9223372036854775807 := by kernel_rfl
  simp [Lit.wf, h1, h2] at h
  omega
set_option maxRecDepth 100000 in
theorem open_il {H : Type} {enc : TypeId × Value → H} {w : World} {r : Reach} {b0 base : Nat} {spare : Nat → Bool} {held : Bool} {v : Value} {d : DataW H} {p : List MemPlace}
    (hv : Value.okWide Try.prog w r b0 27 v) (h : DataW.Trod enc Try.prog w base spare held 27 v d p) :
    ∃ N f, Il w v N f ∧ (∀ i, i < N → -9223372036854775808 ≤ f i ∧ f i ≤ 9223372036854775807) ∧ (N = 0 ∨ ∃ elems spare, d = .slice elems spare ∧ elems.length = N) := by
  obtain ⟨fuel, hf⟩ := h
  obtain ⟨a0, l0, c0, rfl⟩ := okWide_slice Try.underlying27 hv
  rcases open_slice Try.underlying27 hf with ⟨h0, _⟩ | ⟨a, len, cap, m, n, D, Pl, h0, _, hl, hc, hm, hd, hx⟩
  · refine ⟨0, fun _ => 0, Or.inl ⟨rfl, ?_⟩, fun i hi => by omega, Or.inl rfl⟩
    simpa [Value.cells] using h0
  · have h0' : Value.slice a0 l0 c0 = .slice (some a) len cap := by simpa [Value.cells] using h0
    rw [h0'] at hv ⊢
    simp only [Value.okWide, Try.underlying27, Cell.okWide, Cell.ok, World.has] at hv
    obtain ⟨_, _, _, hs, row, cells, hsh, _⟩ := hv
    have hlt := shape_lt hsh
    obtain ⟨g, o, spot⟩ := a
    simp only at hs
    subst hs
    have hml : len ≤ m := by rw [hm]; split <;> omega
    have hex : ∀ i, i < len → ∃ k : Int, (-9223372036854775808 ≤ k ∧ k ≤ 9223372036854775807) ∧ w.cell? ⟨g, o + i, none⟩ = some (.int .i64 k) := fun i hi => by
      obtain ⟨cs', h1, h2⟩ := hx i (by omega)
      rw [intCells] at h1
      obtain ⟨_, hlen', hcell⟩ := World.cells?_some h1
      obtain ⟨k, e1, _, wf⟩ := DataW.trod_int Try.underlying3 h2
      refine ⟨k, i64_wf wf, ?_⟩
      have hc2 := hcell 0 (by omega)
      rw [Nat.mul_one, Addr.add_mid g o i, Addr.add_mid g (o + i) 0, Nat.add_zero] at hc2
      rw [hc2, e1]
      rfl
    refine ⟨len, fun i => if hi : i < len then (hex i hi).choose else 0, Or.inr ⟨g, o, cap, rfl, hl, by simpa [maxLen] using hc, hlt, fun i hi => ?_⟩, fun i hi => ?_, Or.inr ⟨_, _, (Prod.mk.inj hd).1, by simp⟩⟩
    · simp only [hi, dif_pos]
      exact (hex i hi).choose_spec.2
    · simp only [hi, dif_pos]
      exact (hex i hi).choose_spec.1
end Go.Proofs.Ytledggdoehnlcaa
