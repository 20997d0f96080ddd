/- Joined: WOp, WLd. -/
import Derived.Test.YtgjclegpnbjlkaaGreatDoorRows
import Derived.Test.YtgjclegpnbjlkaaGreatDoorMwK
import Derived.Test.YtgjclegpnbjlkaaGreatDoorMwI
import Derived.ProofKit
import Derived.LaidMore
import Derived.OpenShut
import Derived.Stop.Joined
import Derived.Stop.LaidErr
import Derived.Lib.LaidTab
import Derived.Deep.Slices
import Derived.SizedLaws
import Derived.Below
import Derived.JoinedCond
import Derived.Test.YtgjclegpnbjlkaaGreatDoorMxH
set_option linter.constructorNameAsVariable false
set_option linter.all false
namespace Go.Proofs.YtgjclegpnbjlkaaGreatDoor
set_option maxRecDepth 100000
open Go.ChangeShapes Go.WideShapes Go.ChangeAt Go.RowKit Go.Deep
theorem own : ownKnob Tryz.prog.godebug = none := by kernel_rfl
theorem laidOut : laidOutB Tryz.prog = true := by kernel_rfl
theorem u8Cells : Tryz.prog.cellsOf 5 = 1 := by kernel_rfl
theorem u8_wf {n : Int} (h : (Lit.int .u8 n).wf = true) : 0 ≤ n ∧ n < 256 := by
 have := bounds_u8 h
 omega
theorem i64_wf {n : Int} (h : (Lit.int .i64 n).wf = true) : -9223372036854775808 ≤ n ∧ n < 9223372036854775808 := by
 have := bounds_i64 h
 omega
theorem shape_lt {w : World} {b : Nat} {x : TypeId × Nat} (h : w.shape? b = some x) : b < w.heap.size := by
 unfold World.shape? at h
 by_cases hb : b < w.heap.size
 · exact hb
 · rw [Array.getElem?_eq_none (by omega)] at h
   simp at h
theorem open_bytes {H : Type} {enc : TypeId × Value → H} {w : World} {r : Reach} {b0 base : Nat} {spare : Nat → Bool} {held : Bool} {v : Value} {d : DataW H} {p : List MemPlace}
   (hv : Value.okWide Tryz.prog w r b0 29 v) (h : DataW.Trod enc Tryz.prog w base spare held 29 v d p) :
   ∃ n f, Sl w v n f ∧ (n = 0 ∨ ∃ elems spare, d = .slice elems spare ∧ elems.length = n) := by
 obtain ⟨fuel, hf⟩ := h
 obtain ⟨a0, l0, c0, rfl⟩ := okWide_slice Tryz.underlying29 hv
 rcases open_slice1 Tryz.underlying29 u8Cells hf with ⟨h0, _⟩ | ⟨a, len, cap, m, n, V, D, Pl, h0, _, hl, hc, hm, hd, hx⟩
 · refine ⟨0, fun _ => 0, Or.inl ⟨rfl, ?_⟩, Or.inl rfl⟩
   simpa [Value.cells] using h0
 · have h0' : Value.slice a0 l0 c0 = .slice (some a) len cap := by simpa [Value.cells] using h0
   rw [h0'] at hv ⊢
   simp only [Value.okWide, Tryz.underlying29, Cell.okWide, Cell.ok, World.has] at hv
   obtain ⟨_, _, _, hs, row, cells, hsh, _⟩ := hv
   have hlt := shape_lt hsh
   obtain ⟨g, o, spot⟩ := a
   simp only at hs
   subst hs
   have hml : len ≤ m := by rw [hm]; split <;> omega
   refine ⟨len, fun i => (intOf (V i)).toNat, Or.inr ⟨g, o, cap, rfl, hl, by simpa [maxLen] using hc, hlt, fun i hi => ?_, fun i hi => ?_⟩, Or.inr ⟨_, _, (Prod.mk.inj hd).1, by simp⟩⟩
   · obtain ⟨_, h2⟩ := hx i (by omega)
     obtain ⟨k, e1, _, wf⟩ := DataW.trod_int Tryz.underlying5 h2
     have u := u8_wf wf
     have e2 : V i = .int .u8 k := by simpa using e1
     rw [e2]
     simp only [intOf]
     omega
   · obtain ⟨h1, h2⟩ := hx i (by omega)
     obtain ⟨k, e1, _, wf⟩ := DataW.trod_int Tryz.underlying5 h2
     have u := u8_wf wf
     have e2 : V i = .int .u8 k := by simpa using e1
     have ha : (Addr.add ⟨g, o, none⟩ i) = ⟨g, o + i, none⟩ := Addr.add_mid g o i
     rw [ha, e2] at h1
     rw [h1, e2]
     simp only [intOf]
     rw [Int.toNat_of_nonneg u.1]
theorem u8Bytes : Tryz.prog.bytesOf 5 = 1 := by kernel_rfl
end Go.Proofs.YtgjclegpnbjlkaaGreatDoor

set_option linter.constructorNameAsVariable false
set_option linter.all false
namespace Go.Proofs.YtgjclegpnbjlkaaGreatDoor
open Go.ChangeShapes Go.WideShapes Go.ChangeAt Go.RowKit Go.Deep
abbrev tabs : List (String × DataW Unit) := [("math/bits.deBruijn32tab", Rows.laid_math_bits_deBruijn32tab), ("math/bits.deBruijn64tab", Rows.laid_math_bits_deBruijn64tab), ("internal/strconv.uint64pow10", Rows.laid_internal_strconv_uint64pow10), ("rime/sha512.firstWords", Rows.laid_rime_sha512_firstWords), ("rime/sha512.roundWords", Rows.laid_rime_sha512_roundWords)]
def tabs5 : List (String × DataW Unit) := [("math/bits.deBruijn32tab", Rows.laid_math_bits_deBruijn32tab), ("math/bits.deBruijn64tab", Rows.laid_math_bits_deBruijn64tab), ("internal/strconv.uint64pow10", Rows.laid_internal_strconv_uint64pow10), ("rime/sha512.firstWords", Rows.laid_rime_sha512_firstWords), ("rime/sha512.roundWords", Rows.laid_rime_sha512_roundWords)]
theorem glF : Tryz.prog.globalNamed "rime/sha512.firstWords" = some 1 := by kernel_rfl
theorem glK : Tryz.prog.globalNamed "rime/sha512.roundWords" = some 2 := by kernel_rfl
theorem glP : Tryz.prog.globalNamed "internal/strconv.uint64pow10" = some 3 := by kernel_rfl
theorem tyF : (Tryz.prog.globals[1]?).map (·.type) = some 189 := by kernel_rfl
theorem tyK : (Tryz.prog.globals[2]?).map (·.type) = some 221 := by kernel_rfl
theorem tyP : (Tryz.prog.globals[3]?).map (·.type) = some 263 := by kernel_rfl
theorem u64Cells : Tryz.prog.cellsOf 188 = 1 := by kernel_rfl
theorem S8Cells : Tryz.prog.cellsOf 189 = 8 := by kernel_rfl
theorem W80Cells : Tryz.prog.cellsOf 221 = 80 := by kernel_rfl
theorem P20Cells : Tryz.prog.cellsOf 263 = 20 := by kernel_rfl
def ziF : List Int := IVL.map Int.ofNat
def ziK : List Int := KL.map Int.ofNat
theorem laF : Rows.laid_rime_sha512_firstWords (H := Unit) = Lib.tabData .u64 ziF := by kernel_rfl
theorem laK : Rows.laid_rime_sha512_roundWords (H := Unit) = Lib.tabData .u64 ziK := by kernel_rfl
theorem laP : Rows.laid_internal_strconv_uint64pow10 (H := Unit) = Lib.tabData .u64 Lib.pow10Tab := by kernel_rfl
theorem arF : (ziF.map fun z => Value.int .u64 z).toArray = vC 8 IV := by kernel_rfl
theorem arK : (ziK.map fun z => Value.int .u64 z).toArray = vC 80 KK := by kernel_rfl
theorem of_var {W : World} {n : String} {g : Nat} {cs : Array Value} (hg : Tryz.prog.globalNamed n = some g) (h : W.var? Tryz.prog n = some cs) : ∃ t f, W.heap[g]? = some (.cells cs t f) := by
 unfold World.var? at h
 rw [hg] at h
 simp only [Option.bind_some] at h
 split at h
 · next c t f e => obtain rfl := Option.some.inj h; exact ⟨t, f, e⟩
 · cases h
theorem laid5 {W : World} (h : laidMetH Tryz.prog tabs W) : laidMet Tryz.prog tabs5 W := by
 rw [MakeChecks.laidMetH_plain _ _ _ (by kernel_rfl)] at h
 exact h
theorem gl_of_laid {W : World} (h0 : laidMetH Tryz.prog tabs W) : Gl W := by
 have h5 := laid5 h0
 unfold tabs5 at h5
 have h := h5.tail.tail.tail
 have h2 := h.tail
 rw [laF] at h
 rw [laK] at h2
 have q1 := Lib.tabIs_of_head glF tyF Tryz.underlying189 Tryz.underlying188 u64Cells S8Cells h
 have q2 := Lib.tabIs_of_head glK tyK Tryz.underlying221 Tryz.underlying188 u64Cells W80Cells h2
 unfold Lib.TabIs at q1 q2
 rw [arF] at q1
 rw [arK] at q2
 obtain ⟨t1, f1, e1⟩ := of_var glF q1
 obtain ⟨t0, f0, e0⟩ := of_var glK q2
 exact ⟨t0, f0, t1, f1, e0, e1⟩
theorem pw_of_laid {W : World} (h0 : laidMetH Tryz.prog tabs W) : Pw W := by
 have h5 := laid5 h0
 unfold tabs5 at h5
 have h := h5.tail.tail
 rw [laP] at h
 have q := Lib.tabIs_of_head glP tyP Tryz.underlying263 Tryz.underlying188 u64Cells P20Cells h
 unfold Lib.TabIs at q
 obtain ⟨t, f, e⟩ := of_var glP q
 exact ⟨_, t, f, glP, e⟩
theorem door_met (os : Os) (args : Array Value) : laidMetH Tryz.prog tabs ((World.doorLaid Tryz.prog 400 os).forCall (fun _ _ => 0) ⟨#[], args, []⟩).memory :=
 laidMetH_of_parts3 (fuel := 8) (laidMet_of_run' 8 (by kernel_rfl) (by kernel_rfl)) (by kernel_rfl) (by kernel_rfl)
end Go.Proofs.YtgjclegpnbjlkaaGreatDoor
