/-
  DERIVED. GIVEN WITH THE SEED: THE CARDS: each row of YtjcgjhncdaplcabDoorRows.lean that lists a variable, with what it lists TIED to the program's text (the seventh form; the later family's looks); each row that meets fmt, with fmt's text TOLD by the authors' own Lean function (tested against real Go, not proved from fmt's source: count such statements apart). THE CARD IS WHAT COUNTS. Prove the row's statement (the work); the ties are given (YtjcgjhncdaplcabDoorTie.lean); close each card by the builder's one call (the guide's Derived/Test/ToyasCard.lean, 'card_holds'). Laid BY PROGRAM, IN A SANDBOX (cutbox-door.mjs). By AI agents, Wed Nov 11 2026. No macro, syntax, notation, axiom, sorry.
-/
import Derived.Test.YtjcgjhncdaplcabDoorRows
import GoSem.ClaimSeven
namespace Go.Proofs.YtjcgjhncdaplcabDoor
namespace Rows

/-- THE TIED CARD OF 'rimelaw03.Sha512Own'. -/
def sha512OwnCard : Claim7 := { stood := { row := sha512OwnRow, standIns := [], harness := (true, "bc576843a14c0a784bd9c7996ea8127d39dbfa1b317117b2a5c89e6cda3be86a"), looks := false }, kinds := [], alts := [], laidByText := true, laidKinds := [.data, .data], laidTests := true, laidLooks := .later }
def Sha512OwnCardSaid : Prop := Claim7.holds Tryd.pinned (.plain (OpenSpec.ofChange sha512OwnSpec)) sha512OwnCard

/-- THE SECOND FORM's CARD OF 'rimelaw03.Sha512Own'. -/
def sha512OwnUptoCard : Claim7 := { stood := { row := sha512OwnUptoRow, standIns := [], harness := (true, "bc576843a14c0a784bd9c7996ea8127d39dbfa1b317117b2a5c89e6cda3be86a"), looks := false }, kinds := [], alts := [], laidByText := true, laidKinds := [.data, .data], laidTests := true, laidLooks := .later }
def Sha512OwnUptoCardSaid : Prop := Claim7.holds Tryd.pinned (.plain (OpenSpec.upto sha512OwnSpec)) sha512OwnUptoCard
end Rows
end Go.Proofs.YtjcgjhncdaplcabDoor
