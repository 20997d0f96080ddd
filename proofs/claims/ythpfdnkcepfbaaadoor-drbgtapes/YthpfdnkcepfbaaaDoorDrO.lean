/- What comes in: the two tables as the row lists them; a []byte. -/
import Derived.Test.YthpfdnkcepfbaaaDoorRows
import Derived.Test.YthpfdnkcepfbaaaDoorDr2
import Derived.ProofKit
import Derived.LaidMore
import Derived.OpenShut
import Derived.Stop.Joined
import Derived.Stop.LaidErr
import Derived.Lib.LaidTab
import Derived.Deep.Slices
import Derived.SizedLaws
import Derived.Below
set_option linter.constructorNameAsVariable false
set_option linter.unusedVariables false
set_option linter.unusedSimpArgs false
set_option linter.unnecessarySimpa false
namespace Go.Proofs.YthpfdnkcepfbaaaDoor
open Go.ChangeShapes Go.WideShapes Go.ChangeAt Go.RowKit Go.Deep

theorem own : ownKnob Tryd.prog.godebug = none := by kernel_rfl
theorem laidOut : laidOutB Tryd.prog = true := by kernel_rfl
/-- The row's list. -/
abbrev tabs : List (String × DataW Unit) := [("rime/sha512.firstWords", Rows.laid_rime_sha512_firstWords), ("rime/sha512.roundWords", Rows.laid_rime_sha512_roundWords)]
theorem glF : Tryd.prog.globalNamed "rime/sha512.firstWords" = some 0 := by kernel_rfl
theorem glK : Tryd.prog.globalNamed "rime/sha512.roundWords" = some 1 := by kernel_rfl
theorem tyF : (Tryd.prog.globals[0]?).map (·.type) = some 155 := by kernel_rfl
theorem tyK : (Tryd.prog.globals[1]?).map (·.type) = some 237 := by kernel_rfl
theorem u64Cells : Tryd.prog.cellsOf 154 = 1 := by kernel_rfl
theorem S8Cells : Tryd.prog.cellsOf 155 = 8 := by kernel_rfl
theorem W80Cells : Tryd.prog.cellsOf 237 = 80 := by kernel_rfl
theorem u8Cells : Tryd.prog.cellsOf 5 = 1 := by kernel_rfl
theorem u8Bytes : Tryd.prog.bytesOf 5 = 1 := by kernel_rfl
def ziF : List Int := IVL.map Int.ofNat
def ziK : List Int := KL.map Int.ofNat
theorem laF : Rows.laid_rime_sha512_firstWords (H := Unit) = Lib.tabData .u64 ziF := by kernel_rfl
theorem laK : Rows.laid_rime_sha512_roundWords (H := Unit) = Lib.tabData .u64 ziK := by kernel_rfl
theorem arF : (ziF.map fun z => Value.int .u64 z).toArray = vC 8 IV := by kernel_rfl
theorem arK : (ziK.map fun z => Value.int .u64 z).toArray = vC 80 KK := by kernel_rfl
theorem of_var {W : World} {n : String} {g : Nat} {cs : Array Value} (hg : Tryd.prog.globalNamed n = some g) (h : W.var? Tryd.prog n = some cs) : ∃ t f, W.heap[g]? = some (.cells cs t f) := by
  unfold World.var? at h
  rw [hg] at h
  simp only [Option.bind_some] at h
  split at h
  · next c t f e => obtain rfl := Option.some.inj h; exact ⟨t, f, e⟩
  · cases h
theorem gl_of_laid {W : World} (h : laidMetH Tryd.prog tabs W) : Gl W := by
  rw [MakeChecks.laidMetH_plain _ _ _ (by kernel_rfl)] at h
  have h2 := h.tail
  unfold tabs at h
  rw [laF] at h
  rw [laK] at h2
  have q1 := Lib.tabIs_of_head glF tyF Tryd.underlying155 Tryd.underlying154 u64Cells S8Cells h
  have q2 := Lib.tabIs_of_head glK tyK Tryd.underlying237 Tryd.underlying154 u64Cells W80Cells h2
  unfold Lib.TabIs at q1 q2
  rw [arF] at q1
  rw [arK] at q2
  obtain ⟨t1, f1, e1⟩ := of_var glF q1
  obtain ⟨t0, f0, e0⟩ := of_var glK q2
  exact ⟨t0, f0, t1, f1, e0, e1⟩
/-- The door's own heap meets the condition. -/
theorem door_met (os : Os) (args : Array Value) : laidMetH Tryd.prog tabs ((World.doorLaid Tryd.prog 400 os).forCall (fun _ _ => 0) ⟨#[], args, []⟩).memory :=
  laidMetH_of_parts3 (fuel := 8) (laidMet_of_run' 8 (by kernel_rfl) (by kernel_rfl)) (by kernel_rfl) (by kernel_rfl)
theorem u8_wf {n : Int} (h : (Lit.int .u8 n).wf = true) : 0 ≤ n ∧ n < 256 := by
  have := bounds_u8 h
  omega
theorem shape_lt {w : World} {b : Nat} {x : TypeId × Nat} (h : w.shape? b = some x) : b < w.heap.size := by
  unfold World.shape? at h
  by_cases hb : b < w.heap.size
  · exact hb
  · rw [Array.getElem?_eq_none (by omega)] at h
    simp at h
set_option maxRecDepth 100000 in
/-- A []byte that came in. -/
theorem open_bytes {H : Type} {enc : TypeId × Value → H} {w : World} {r : Reach} {b0 base : Nat} {spare : Nat → Bool} {held : Bool} {v : Value} {d : DataW H} {p : List MemPlace}
    (hv : Value.okWide Tryd.prog w r b0 22 v) (h : DataW.Trod enc Tryd.prog w base spare held 22 v d p) :
    ∃ n f, Sl w v n f ∧ (n = 0 ∨ ∃ elems spare, d = .slice elems spare ∧ elems.length = n) := by
  obtain ⟨fuel, hf⟩ := h
  obtain ⟨a0, l0, c0, rfl⟩ := okWide_slice Tryd.underlying22 hv
  rcases open_slice1 Tryd.underlying22 u8Cells hf with ⟨h0, _⟩ | ⟨a, len, cap, m, n, V, D, Pl, h0, _, hl, hc, hm, hd, hx⟩
  · refine ⟨0, fun _ => 0, Or.inl ⟨rfl, ?_⟩, Or.inl rfl⟩
    simpa [Value.cells] using h0
  · have h0' : Value.slice a0 l0 c0 = .slice (some a) len cap := by simpa [Value.cells] using h0
    rw [h0'] at hv ⊢
    simp only [Value.okWide, Tryd.underlying22, Cell.okWide, Cell.ok, World.has] at hv
    obtain ⟨_, _, _, hs, row, cells, hsh, _⟩ := hv
    have hlt := shape_lt hsh
    obtain ⟨g, o, spot⟩ := a
    simp only at hs
    subst hs
    have hml : len ≤ m := by rw [hm]; split <;> omega
    refine ⟨len, fun i => (intOf (V i)).toNat, Or.inr ⟨g, o, cap, rfl, hl, by simpa [maxLen] using hc, hlt, fun i hi => ?_, fun i hi => ?_⟩, Or.inr ⟨_, _, (Prod.mk.inj hd).1, by simp⟩⟩
    · obtain ⟨_, h2⟩ := hx i (by omega)
      obtain ⟨k, e1, _, wf⟩ := DataW.trod_int Tryd.underlying5 h2
      have u := u8_wf wf
      have e2 : V i = .int .u8 k := by simpa using e1
      rw [e2]
      simp only [intOf]
      omega
    · obtain ⟨h1, h2⟩ := hx i (by omega)
      obtain ⟨k, e1, _, wf⟩ := DataW.trod_int Tryd.underlying5 h2
      have u := u8_wf wf
      have e2 : V i = .int .u8 k := by simpa using e1
      have ha : (Addr.add ⟨g, o, none⟩ i) = ⟨g, o + i, none⟩ := Addr.add_mid g o i
      rw [ha, e2] at h1
      rw [h1, e2]
      simp only [intOf]
      rw [Int.toNat_of_nonneg u.1]
end Go.Proofs.YthpfdnkcepfbaaaDoor
