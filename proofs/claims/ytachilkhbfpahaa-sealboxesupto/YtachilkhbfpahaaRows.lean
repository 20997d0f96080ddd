/-
  No cell of these rows narrows 'for every input' (looked for: loops, veiled, ifaces, maps, wideKeys, modest, calm, conditions, laid).
  DERIVED. THE GIVEN ROWS OF THIS SEAT. 6 by the template 'for every input the law returns true; each argument reads behind the call as it read before'; 0 by the template 'total and deterministic' (their statements: YtachilkhbfpahaaTotals.lean).
  GIVEN WITH THE SEED: the statements are not yours to turn. If you find one false, say at which input.
  Laid BY PROGRAM, IN A SANDBOX (cutbox-rows.mjs): the forced cells as the released guide's own fill.sh prints them over the translation 608e33ad71ad27e2… (all of the seat's roots in one cut). By AI agents, Wed Nov 11 2026. No macro, syntax, notation, axiom, sorry.
-/
import Derived.Test.YtachilkhbfpahaaChecked
import GoSem.Claim
import GoSem.ClaimJoined
import GoSem.ClaimMapViews
import Derived.JoinedTies
import Derived.KernelRfl
namespace Go.Proofs.Ytachilkhbfpahaa
/- THE CELL 'sum', in the pinned program and in every row, IS THE sha256 OF THE DUMP (.gsa) THAT YtachilkhbfpahaaProg.lean LOADS. Nothing in Lean hashes anything: it is a label: what it is worth is what the hold of that sum in a sandbox is worth. -/
noncomputable def Try.pinned : Pinned := { name := "ytachilkhbfpahaa", sum := "608e33ad71ad27e2d0a616e5fff6df1aa3f3c0a3788589c7b5ffaf4069c8a04e", checked := Try.checked }
namespace Rows
def none {H : Type} : Left H := { results := [], args := [] }

/-- 'rimelaw12.SealBlocks': WHATEVER THE INPUT: true; the input reads as it did. -/
def sealBlocksSpec : ChangeSpec := { name := "sealBlocks", fn := fun _ => fun
  | [d1, d2, d3, d4] => { results := [.lit (.bool true)], args := [d1, d2, d3, d4] }
  | _ => none }
def sealBlocksRow : OpenClaim := { program := "ytachilkhbfpahaa", sum := "608e33ad71ad27e2d0a616e5fff6df1aa3f3c0a3788589c7b5ffaf4069c8a04e", func := "rime/rimelaw12.SealBlocks", spec := "sealBlocks", inPlace := ["math/bits.Add64"], apart := false }
def SealBlocksSaid : Prop := sealBlocksRow.holds Try.pinned (OpenSpec.ofChange sealBlocksSpec)

/-- ITS FALSE NEIGHBOUR: 'it returns false'. Refute it at one input. -/
def sealBlocksWrong : ChangeSpec := { name := "sealBlocks", fn := fun _ => fun
  | [d1, d2, d3, d4] => { results := [.lit (.bool false)], args := [d1, d2, d3, d4] }
  | _ => none }
def SealBlocksWrongFalsely : Prop := sealBlocksRow.holds Try.pinned (OpenSpec.ofChange sealBlocksWrong)

/-- 'rimelaw12.SealMacs': WHATEVER THE INPUT: true; the input reads as it did. -/
def sealMacsSpec : ChangeSpec := { name := "sealMacs", fn := fun _ => fun
  | [d1, d2] => { results := [.lit (.bool true)], args := [d1, d2] }
  | _ => none }
def sealMacsRow : OpenClaim := { program := "ytachilkhbfpahaa", sum := "608e33ad71ad27e2d0a616e5fff6df1aa3f3c0a3788589c7b5ffaf4069c8a04e", func := "rime/rimelaw12.SealMacs", spec := "sealMacs", inPlace := ["math/bits.Add64"], apart := false }
def SealMacsSaid : Prop := sealMacsRow.holds Try.pinned (OpenSpec.ofChange sealMacsSpec)

/-- ITS FALSE NEIGHBOUR: 'it returns false'. Refute it at one input. -/
def sealMacsWrong : ChangeSpec := { name := "sealMacs", fn := fun _ => fun
  | [d1, d2] => { results := [.lit (.bool false)], args := [d1, d2] }
  | _ => none }
def SealMacsWrongFalsely : Prop := sealMacsRow.holds Try.pinned (OpenSpec.ofChange sealMacsWrong)

/-- 'rimelaw12.SealSeals': WHATEVER THE INPUT: true; the input reads as it did. -/
def sealSealsSpec : ChangeSpec := { name := "sealSeals", fn := fun _ => fun
  | [d1, d2, d3, d4] => { results := [.lit (.bool true)], args := [d1, d2, d3, d4] }
  | _ => none }
def sealSealsRow : OpenClaim := { program := "ytachilkhbfpahaa", sum := "608e33ad71ad27e2d0a616e5fff6df1aa3f3c0a3788589c7b5ffaf4069c8a04e", func := "rime/rimelaw12.SealSeals", spec := "sealSeals", inPlace := ["math/bits.Add64"], apart := false }
def SealSealsSaid : Prop := sealSealsRow.holds Try.pinned (OpenSpec.ofChange sealSealsSpec)

/-- ITS FALSE NEIGHBOUR: 'it returns false'. Refute it at one input. -/
def sealSealsWrong : ChangeSpec := { name := "sealSeals", fn := fun _ => fun
  | [d1, d2, d3, d4] => { results := [.lit (.bool false)], args := [d1, d2, d3, d4] }
  | _ => none }
def SealSealsWrongFalsely : Prop := sealSealsRow.holds Try.pinned (OpenSpec.ofChange sealSealsWrong)

/-- 'rimelaw12.SealOpens': WHATEVER THE INPUT: true; the input reads as it did. -/
def sealOpensSpec : ChangeSpec := { name := "sealOpens", fn := fun _ => fun
  | [d] => { results := [.lit (.bool true)], args := [d] }
  | _ => none }
def sealOpensRow : OpenClaim := { program := "ytachilkhbfpahaa", sum := "608e33ad71ad27e2d0a616e5fff6df1aa3f3c0a3788589c7b5ffaf4069c8a04e", func := "rime/rimelaw12.SealOpens", spec := "sealOpens", inPlace := ["math/bits.Add64"], apart := false }
def SealOpensSaid : Prop := sealOpensRow.holds Try.pinned (OpenSpec.ofChange sealOpensSpec)

/-- ITS FALSE NEIGHBOUR: 'it returns false'. Refute it at one input. -/
def sealOpensWrong : ChangeSpec := { name := "sealOpens", fn := fun _ => fun
  | [d] => { results := [.lit (.bool false)], args := [d] }
  | _ => none }
def SealOpensWrongFalsely : Prop := sealOpensRow.holds Try.pinned (OpenSpec.ofChange sealOpensWrong)

/-- 'rimelaw12.SealUnboxes': WHATEVER THE INPUT: true; the input reads as it did. -/
def sealUnboxesSpec : ChangeSpec := { name := "sealUnboxes", fn := fun _ => fun
  | [d1, d2, d3] => { results := [.lit (.bool true)], args := [d1, d2, d3] }
  | _ => none }
def sealUnboxesRow : OpenClaim := { program := "ytachilkhbfpahaa", sum := "608e33ad71ad27e2d0a616e5fff6df1aa3f3c0a3788589c7b5ffaf4069c8a04e", func := "rime/rimelaw12.SealUnboxes", spec := "sealUnboxes", inPlace := ["math/bits.Add64"], apart := false }
def SealUnboxesSaid : Prop := sealUnboxesRow.holds Try.pinned (OpenSpec.ofChange sealUnboxesSpec)

/-- ITS FALSE NEIGHBOUR: 'it returns false'. Refute it at one input. -/
def sealUnboxesWrong : ChangeSpec := { name := "sealUnboxes", fn := fun _ => fun
  | [d1, d2, d3] => { results := [.lit (.bool false)], args := [d1, d2, d3] }
  | _ => none }
def SealUnboxesWrongFalsely : Prop := sealUnboxesRow.holds Try.pinned (OpenSpec.ofChange sealUnboxesWrong)

/-- 'rimelaw12.SealBoxes': WHATEVER THE INPUT: true; the input reads as it did. -/
def sealBoxesSpec : ChangeSpec := { name := "sealBoxes", fn := fun _ => fun
  | [d1, d2, d3, d4] => { results := [.lit (.bool true)], args := [d1, d2, d3, d4] }
  | _ => none }
def sealBoxesRow : OpenClaim := { program := "ytachilkhbfpahaa", sum := "608e33ad71ad27e2d0a616e5fff6df1aa3f3c0a3788589c7b5ffaf4069c8a04e", func := "rime/rimelaw12.SealBoxes", spec := "sealBoxes", inPlace := ["math/bits.Add64"], apart := false }
def SealBoxesSaid : Prop := sealBoxesRow.holds Try.pinned (OpenSpec.ofChange sealBoxesSpec)

/-- ITS FALSE NEIGHBOUR: 'it returns false'. Refute it at one input. -/
def sealBoxesWrong : ChangeSpec := { name := "sealBoxes", fn := fun _ => fun
  | [d1, d2, d3, d4] => { results := [.lit (.bool false)], args := [d1, d2, d3, d4] }
  | _ => none }
def SealBoxesWrongFalsely : Prop := sealBoxesRow.holds Try.pinned (OpenSpec.ofChange sealBoxesWrong)

/- THE SECOND FORM. 'bulk': how many values and letters a reading holds, each counted each time it is reached (what is shared counts as often as it is met; a slice's spare places count too). A statement '..UptoSaid' is the law's where the arguments, and the package variables that the reading takes, are together of bulk at most 1048576: NARROWER than '..Said'. Prove '..Said' where nothing that the law and all that it calls make is longer than what came in: it says more and counts as full. Else prove '..UptoSaid'. A law counts once. -/
mutual
def uptoBulk {H : Type} : DataW H → Nat
  | .lit (.string bytes) => bytes.length + 1
  | .lit _ => 1
  | .nil => 1
  | .ptr d => uptoBulk d + 1
  | .slice elems spare => uptoBulkAll elems + uptoBulkAll spare + 1
  | .agg parts => uptoBulkAll parts + 1
  | .iface _ d => uptoBulk d + 1
  | .map entries => uptoBulkEntries entries + 1
  | .held _ => 1
def uptoBulkAll {H : Type} : List (DataW H) → Nat
  | [] => 0
  | d :: r => uptoBulk d + uptoBulkAll r
def uptoBulkEntries {H : Type} : List (Lit × DataW H) → Nat
  | [] => 0
  | x :: r => uptoBulkEntry x + uptoBulkEntries r
def uptoBulkEntry {H : Type} : Lit × DataW H → Nat
  | (.string bytes, d) => bytes.length + uptoBulk d + 1
  | (_, d) => uptoBulk d + 1
 end
def uptoSmall : (H : Type) → List (DataW H) → Bool := fun _ ds => decide (uptoBulkAll ds ≤ 1048576)
def OpenSpec.upto (s : _root_.Go.ChangeSpec) : _root_.Go.OpenSpec := { _root_.Go.OpenSpec.ofChange s with cond := some uptoSmall }

/-- 'rimelaw12.SealBlocks', WHERE WHAT IT READS IS OF BULK AT MOST 1048576: true; the input reads as it did. -/
def sealBlocksUptoRow : OpenClaim := { program := "ytachilkhbfpahaa", sum := "608e33ad71ad27e2d0a616e5fff6df1aa3f3c0a3788589c7b5ffaf4069c8a04e", func := "rime/rimelaw12.SealBlocks", spec := "sealBlocks", inPlace := ["math/bits.Add64"], apart := false, narrowed := true }
def SealBlocksUptoSaid : Prop := sealBlocksUptoRow.holds Try.pinned (OpenSpec.upto sealBlocksSpec)

/-- 'rimelaw12.SealMacs', WHERE WHAT IT READS IS OF BULK AT MOST 1048576: true; the input reads as it did. -/
def sealMacsUptoRow : OpenClaim := { program := "ytachilkhbfpahaa", sum := "608e33ad71ad27e2d0a616e5fff6df1aa3f3c0a3788589c7b5ffaf4069c8a04e", func := "rime/rimelaw12.SealMacs", spec := "sealMacs", inPlace := ["math/bits.Add64"], apart := false, narrowed := true }
def SealMacsUptoSaid : Prop := sealMacsUptoRow.holds Try.pinned (OpenSpec.upto sealMacsSpec)

/-- 'rimelaw12.SealSeals', WHERE WHAT IT READS IS OF BULK AT MOST 1048576: true; the input reads as it did. -/
def sealSealsUptoRow : OpenClaim := { program := "ytachilkhbfpahaa", sum := "608e33ad71ad27e2d0a616e5fff6df1aa3f3c0a3788589c7b5ffaf4069c8a04e", func := "rime/rimelaw12.SealSeals", spec := "sealSeals", inPlace := ["math/bits.Add64"], apart := false, narrowed := true }
def SealSealsUptoSaid : Prop := sealSealsUptoRow.holds Try.pinned (OpenSpec.upto sealSealsSpec)

/-- 'rimelaw12.SealOpens', WHERE WHAT IT READS IS OF BULK AT MOST 1048576: true; the input reads as it did. -/
def sealOpensUptoRow : OpenClaim := { program := "ytachilkhbfpahaa", sum := "608e33ad71ad27e2d0a616e5fff6df1aa3f3c0a3788589c7b5ffaf4069c8a04e", func := "rime/rimelaw12.SealOpens", spec := "sealOpens", inPlace := ["math/bits.Add64"], apart := false, narrowed := true }
def SealOpensUptoSaid : Prop := sealOpensUptoRow.holds Try.pinned (OpenSpec.upto sealOpensSpec)

/-- 'rimelaw12.SealUnboxes', WHERE WHAT IT READS IS OF BULK AT MOST 1048576: true; the input reads as it did. -/
def sealUnboxesUptoRow : OpenClaim := { program := "ytachilkhbfpahaa", sum := "608e33ad71ad27e2d0a616e5fff6df1aa3f3c0a3788589c7b5ffaf4069c8a04e", func := "rime/rimelaw12.SealUnboxes", spec := "sealUnboxes", inPlace := ["math/bits.Add64"], apart := false, narrowed := true }
def SealUnboxesUptoSaid : Prop := sealUnboxesUptoRow.holds Try.pinned (OpenSpec.upto sealUnboxesSpec)

/-- 'rimelaw12.SealBoxes', WHERE WHAT IT READS IS OF BULK AT MOST 1048576: true; the input reads as it did. -/
def sealBoxesUptoRow : OpenClaim := { program := "ytachilkhbfpahaa", sum := "608e33ad71ad27e2d0a616e5fff6df1aa3f3c0a3788589c7b5ffaf4069c8a04e", func := "rime/rimelaw12.SealBoxes", spec := "sealBoxes", inPlace := ["math/bits.Add64"], apart := false, narrowed := true }
def SealBoxesUptoSaid : Prop := sealBoxesUptoRow.holds Try.pinned (OpenSpec.upto sealBoxesSpec)

end Rows
end Go.Proofs.Ytachilkhbfpahaa
