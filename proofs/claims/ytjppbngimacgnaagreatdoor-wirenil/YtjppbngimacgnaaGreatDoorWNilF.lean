/- rimelaw10.WireNil (it has no input) returns true. Its condition, tied by the card: the package variables that its row lists start as the program's text lays them; of these firstWords and roundWords of sha512 are read. -/
import Derived.Test.YtjppbngimacgnaaGreatDoorW29
import Derived.Test.YtjppbngimacgnaaGreatDoorRows
import Derived.Test.YtjppbngimacgnaaGreatDoorTie
import Derived.Test.YtjppbngimacgnaaGreatDoorCards
import Derived.SevenTiedAt
import Derived.Carry
import Derived.ProofKit
import Derived.LaidMore
import Derived.OpenShut
import Derived.Stop.Joined
import Derived.Stop.LaidErr
import Derived.Lib.LaidTab
import Derived.Deep.Slices
import Derived.SizedLaws
import Derived.Below
set_option linter.constructorNameAsVariable false
set_option linter.unusedVariables false
set_option linter.unusedSimpArgs false
set_option linter.unnecessarySimpa false
namespace Go.Proofs.YtjppbngimacgnaaGreatDoor
open Go.ChangeShapes Go.WideShapes Go.ChangeAt Go.RowKit Go.Deep

theorem own : ownKnob Tryz.prog.godebug = none := by kernel_rfl
theorem laidOut : laidOutB Tryz.prog = true := by kernel_rfl
/-- The row's list. -/
abbrev tabs : List (String × DataW Unit) := [("math/bits.deBruijn32tab", Rows.laid_math_bits_deBruijn32tab), ("math/bits.deBruijn64tab", Rows.laid_math_bits_deBruijn64tab), ("internal/strconv.uint64pow10", Rows.laid_internal_strconv_uint64pow10), ("errors.errorType", Rows.laid_errors_errorType), ("rime/sha512.firstWords", Rows.laid_rime_sha512_firstWords), ("rime/sha512.roundWords", Rows.laid_rime_sha512_roundWords)]
def tabs5 : List (String × DataW Unit) := [("math/bits.deBruijn32tab", Rows.laid_math_bits_deBruijn32tab), ("math/bits.deBruijn64tab", Rows.laid_math_bits_deBruijn64tab), ("internal/strconv.uint64pow10", Rows.laid_internal_strconv_uint64pow10), ("rime/sha512.firstWords", Rows.laid_rime_sha512_firstWords), ("rime/sha512.roundWords", Rows.laid_rime_sha512_roundWords)]
theorem laidMetH_cons {P : Program} {l m : List (String × DataW Unit)} {w : World} {x : String × DataW Unit} {xs : List (String × DataW Unit)} (hf : (l.filter fun x => x.2.handleName?.isSome) = x :: xs) (hm : (l.filter fun x => x.2.handleName?.isNone) = m) (h : laidMetH P l w) : laidMet P m w := by
  unfold laidMetH at h
  rw [hf] at h
  rw [← hm]
  exact h.1
theorem gF : Tryz.prog.globalNamed "rime/sha512.firstWords" = some 1 := by kernel_rfl
theorem gK : Tryz.prog.globalNamed "rime/sha512.roundWords" = some 3 := by kernel_rfl
theorem tF : (Tryz.prog.globals[1]?).map (·.type) = some 129 := by kernel_rfl
theorem tK : (Tryz.prog.globals[3]?).map (·.type) = some 165 := by kernel_rfl
theorem u64Cells : Tryz.prog.cellsOf 128 = 1 := by kernel_rfl
theorem S8Cells : Tryz.prog.cellsOf 129 = 8 := by kernel_rfl
theorem W80Cells : Tryz.prog.cellsOf 165 = 80 := by kernel_rfl
def zF : List Int := IVL.map Int.ofNat
def zK : List Int := KL.map Int.ofNat
theorem dF : Rows.laid_rime_sha512_firstWords (H := Unit) = Lib.tabData .u64 zF := by kernel_rfl
theorem dK : Rows.laid_rime_sha512_roundWords (H := Unit) = Lib.tabData .u64 zK := by kernel_rfl
theorem aF : (zF.map fun z => Value.int .u64 z).toArray = vC 8 IV := by kernel_rfl
theorem aK : (zK.map fun z => Value.int .u64 z).toArray = vC 80 KK := by kernel_rfl
theorem of_var {W : World} {n : String} {g : Nat} {cs : Array Value} (hg : Tryz.prog.globalNamed n = some g) (h : W.var? Tryz.prog n = some cs) : ∃ t f, W.heap[g]? = some (.cells cs t f) := by
  unfold World.var? at h
  rw [hg] at h
  simp only [Option.bind_some] at h
  split at h
  · next c t f e => obtain rfl := Option.some.inj h; exact ⟨t, f, e⟩
  · cases h
theorem gl_of_laid {W : World} (h0 : laidMetH Tryz.prog tabs W) : Gl W := by
  have h5 : laidMet Tryz.prog tabs5 W := laidMetH_cons (x := ("errors.errorType", Rows.laid_errors_errorType)) (xs := []) (by kernel_rfl) (by kernel_rfl) h0
  unfold tabs5 at h5
  have h := h5.tail.tail.tail
  have h2 := h.tail
  rw [dF] at h
  rw [dK] at h2
  have q1 := Lib.tabIs_of_head gF tF Tryz.underlying129 Tryz.underlying128 u64Cells S8Cells h
  have q2 := Lib.tabIs_of_head gK tK Tryz.underlying165 Tryz.underlying128 u64Cells W80Cells h2
  unfold Lib.TabIs at q1 q2
  rw [aF] at q1
  rw [aK] at q2
  obtain ⟨t1, f1, e1⟩ := of_var gF q1
  obtain ⟨t0, f0, e0⟩ := of_var gK q2
  exact ⟨t0, f0, t1, f1, e0, e1⟩
/-- The door's own heap meets the condition. -/
theorem door_met (os : Os) (args : Array Value) : laidMetH Tryz.prog tabs ((World.doorLaid Tryz.prog 400 os).forCall (fun _ _ => 0) ⟨#[], args, []⟩).memory :=
  laidMetH_of_parts3 (fuel := 8) (laidMet_of_run' 8 (by kernel_rfl) (by kernel_rfl)) (by kernel_rfl) (by kernel_rfl)
set_option maxRecDepth 100000 in
theorem wireNil_lifted (os : Os) (started : os.Started) (H : Type) (enc : TypeId × Value → H) :
    ReturnsInHanded {} Tryz.checked os 3 .any (fun w args => (Rows.wireNilSpec.pre enc Tryz.prog Tryz.f3 [] false w args ∧ laidMetH Tryz.prog tabs w) ∧ sizedMet enc Tryz.prog Tryz.f3 (OpenSpec.ofChange Rows.wireNilSpec) false w args)
      (Rows.wireNilSpec.post enc Tryz.prog Tryz.f3 false true false false) := by
  refine returnsInHanded_of_change_and (C := Tryz.checked) (X := fun w _ => laidMetH Tryz.prog tabs w) (fun _ _ _ hh h => h.of_heap hh) own started (by kernel_rfl) Tryz.func3
    (ChangeSpec.witness_shaped (enc := enc) (C := Tryz.checked) (os := os) (X := fun w _ => laidMetH Tryz.prog tabs w) false (World.doorLaid Tryz.prog 400 os) #[] 8 rfl (World.shaped_of_RefB (by kernel_rfl) (by kernel_rfl)) (by kernel_rfl) (by kernel_rfl) (by kernel_rfl) (door_met os _)) ?_
  intro W base args ds gs before hval0 hW _ hsz0 hL _
  have hW' := hW
  obtain ⟨p, q, hA0, hV, rfl, hfz, hnd⟩ := hW
  have hA : DataW.TrodAll enc Tryz.prog W 0 (fun _ => true) true Tryz.f3.params.toList args.toList ds p := hA0
  rw [Tryz.params3] at hA
  obtain ⟨rfl, rfl, rfl⟩ := trodAll_none hA
  obtain ⟨rfl, rfl⟩ := trodVars_none hV
  clear hA0 hval0
  refine (nil_walk W (gl_of_laid hL)).mono fun e W' ⟨he, hc⟩ => ?_
  have bel := hc.below
  subst he
  exact ⟨_, rfl, _, _, _, [], _, [], hW', trodAll_mk1 (shut_bool Tryz.underlying4 _), trodAll_mk0, rfl, bel.frame _, fun h => by cases h⟩
theorem wireNil_row : Rows.WireNilSaid :=
  OpenClaim.holds_of_wide 3 Tryz.f3 rfl rfl rfl rfl rfl rfl rfl ⟨rfl, rfl, rfl, rfl, rfl⟩ rfl rfl rfl rfl rfl (by kernel_rfl) Tryz.func3 (by kernel_rfl)
    (of_decide_eq_true (by kernel_rfl)) (by unfold Func.isWrapper; first | (rw [if_pos (by decide +kernel)]; kernel_rfl) | (rw [if_neg (by decide +kernel)]; exact ⟨rfl, rfl⟩))
    (fun os started H enc _ => wireNil_lifted os started H enc)
theorem wireNil_holds : Rows.WireNilCardSaid :=
  Claim7.holds_tied_plain_at .later [] [.data, .data, .data, .handle, .data, .data] true _ true
    wireNil_row (fun _ h => by cases h) (by kernel_rfl) (fun _ h => by cases h) wireNil_row_tie rfl ⟨rfl, rfl⟩ (by kernel_rfl) rfl
    (fun f fn hf hfn => by
      obtain rfl : f = 3 := Option.some.inj ((show Tryz.prog.funcNamed "rime/rimelaw10.WireNil" = some 3 by kernel_rfl).symm.trans hf) |>.symm
      obtain rfl : fn = Tryz.f3 := (Option.some.inj (Tryz.func3.symm.trans hfn)).symm
      exact ⟨by kernel_rfl, fun j t ht => by
        rw [Tryz.params3] at ht
        simp at ht⟩)
    (by kernel_rfl)
end Go.Proofs.YtjppbngimacgnaaGreatDoor
