/-
  DERIVED. GIVEN WITH THE SEED: THE CARDS: each row of YthpfdnkcepfbaaaDoorRows.lean that lists a variable, with what it lists TIED to the program's text (the seventh form; the later family's looks); each row that meets fmt, with fmt's text TOLD by the authors' own Lean function (tested against real Go, not proved from fmt's source: count such statements apart). THE CARD IS WHAT COUNTS. Prove the row's statement (the work); the ties are given (YthpfdnkcepfbaaaDoorTie.lean); close each card by the builder's one call (the guide's Derived/Test/ToyasCard.lean, 'card_holds'). Laid BY PROGRAM, IN A SANDBOX (cutbox-door.mjs). By AI agents, Wed Nov 11 2026. No macro, syntax, notation, axiom, sorry.
-/
import Derived.Test.YthpfdnkcepfbaaaDoorRows
import GoSem.ClaimSeven
namespace Go.Proofs.YthpfdnkcepfbaaaDoor
namespace Rows

/-- THE TIED CARD OF 'rimelaw11.DrbgKeyed'. -/
def drbgKeyedCard : Claim7 := { stood := { row := drbgKeyedRow, standIns := [], harness := (true, "6138b14f841822baaac17c26ea93470a2561dc472b1a5256936e4bc447ad639f"), looks := false }, kinds := [], alts := [], laidByText := true, laidKinds := [.data, .data], laidTests := true, laidLooks := .later }
def DrbgKeyedCardSaid : Prop := Claim7.holds Tryd.pinned (.plain (OpenSpec.ofChange drbgKeyedSpec)) drbgKeyedCard

/-- THE TIED CARD OF 'rimelaw11.DrbgDraws'. -/
def drbgDrawsCard : Claim7 := { stood := { row := drbgDrawsRow, standIns := [], harness := (true, "6138b14f841822baaac17c26ea93470a2561dc472b1a5256936e4bc447ad639f"), looks := false }, kinds := [], alts := [], laidByText := true, laidKinds := [.data, .data], laidTests := true, laidLooks := .later }
def DrbgDrawsCardSaid : Prop := Claim7.holds Tryd.pinned (.plain (OpenSpec.ofChange drbgDrawsSpec)) drbgDrawsCard

/-- THE TIED CARD OF 'rimelaw11.DrbgTapes'. -/
def drbgTapesCard : Claim7 := { stood := { row := drbgTapesRow, standIns := [], harness := (true, "6138b14f841822baaac17c26ea93470a2561dc472b1a5256936e4bc447ad639f"), looks := false }, kinds := [], alts := [], laidByText := true, laidKinds := [.data, .data], laidTests := true, laidLooks := .later }
def DrbgTapesCardSaid : Prop := Claim7.holds Tryd.pinned (.plain (OpenSpec.ofChange drbgTapesSpec)) drbgTapesCard

/-- THE TIED CARD OF 'rimelaw11.DrbgTwins'. -/
def drbgTwinsCard : Claim7 := { stood := { row := drbgTwinsRow, standIns := [], harness := (true, "6138b14f841822baaac17c26ea93470a2561dc472b1a5256936e4bc447ad639f"), looks := false }, kinds := [], alts := [], laidByText := true, laidKinds := [.data, .data], laidTests := true, laidLooks := .later }
def DrbgTwinsCardSaid : Prop := Claim7.holds Tryd.pinned (.plain (OpenSpec.ofChange drbgTwinsSpec)) drbgTwinsCard

/-- THE TIED CARD OF 'rimelaw11.DrbgBegins'. -/
def drbgBeginsCard : Claim7 := { stood := { row := drbgBeginsRow, standIns := [], harness := (true, "6138b14f841822baaac17c26ea93470a2561dc472b1a5256936e4bc447ad639f"), looks := false }, kinds := [], alts := [], laidByText := true, laidKinds := [.data, .data], laidTests := true, laidLooks := .later }
def DrbgBeginsCardSaid : Prop := Claim7.holds Tryd.pinned (.plain (OpenSpec.ofChange drbgBeginsSpec)) drbgBeginsCard

/-- THE TIED CARD OF 'rimelaw11.DrbgOwn'. -/
def drbgOwnCard : Claim7 := { stood := { row := drbgOwnRow, standIns := [], harness := (true, "6138b14f841822baaac17c26ea93470a2561dc472b1a5256936e4bc447ad639f"), looks := false }, kinds := [], alts := [], laidByText := true, laidKinds := [.data, .data], laidTests := true, laidLooks := .later }
def DrbgOwnCardSaid : Prop := Claim7.holds Tryd.pinned (.plain (OpenSpec.ofChange drbgOwnSpec)) drbgOwnCard

/-- THE SECOND FORM's CARD OF 'rimelaw11.DrbgKeyed'. -/
def drbgKeyedUptoCard : Claim7 := { stood := { row := drbgKeyedUptoRow, standIns := [], harness := (true, "6138b14f841822baaac17c26ea93470a2561dc472b1a5256936e4bc447ad639f"), looks := false }, kinds := [], alts := [], laidByText := true, laidKinds := [.data, .data], laidTests := true, laidLooks := .later }
def DrbgKeyedUptoCardSaid : Prop := Claim7.holds Tryd.pinned (.plain (OpenSpec.upto drbgKeyedSpec)) drbgKeyedUptoCard

/-- THE SECOND FORM's CARD OF 'rimelaw11.DrbgDraws'. -/
def drbgDrawsUptoCard : Claim7 := { stood := { row := drbgDrawsUptoRow, standIns := [], harness := (true, "6138b14f841822baaac17c26ea93470a2561dc472b1a5256936e4bc447ad639f"), looks := false }, kinds := [], alts := [], laidByText := true, laidKinds := [.data, .data], laidTests := true, laidLooks := .later }
def DrbgDrawsUptoCardSaid : Prop := Claim7.holds Tryd.pinned (.plain (OpenSpec.upto drbgDrawsSpec)) drbgDrawsUptoCard

/-- THE SECOND FORM's CARD OF 'rimelaw11.DrbgTapes'. -/
def drbgTapesUptoCard : Claim7 := { stood := { row := drbgTapesUptoRow, standIns := [], harness := (true, "6138b14f841822baaac17c26ea93470a2561dc472b1a5256936e4bc447ad639f"), looks := false }, kinds := [], alts := [], laidByText := true, laidKinds := [.data, .data], laidTests := true, laidLooks := .later }
def DrbgTapesUptoCardSaid : Prop := Claim7.holds Tryd.pinned (.plain (OpenSpec.upto drbgTapesSpec)) drbgTapesUptoCard

/-- THE SECOND FORM's CARD OF 'rimelaw11.DrbgTwins'. -/
def drbgTwinsUptoCard : Claim7 := { stood := { row := drbgTwinsUptoRow, standIns := [], harness := (true, "6138b14f841822baaac17c26ea93470a2561dc472b1a5256936e4bc447ad639f"), looks := false }, kinds := [], alts := [], laidByText := true, laidKinds := [.data, .data], laidTests := true, laidLooks := .later }
def DrbgTwinsUptoCardSaid : Prop := Claim7.holds Tryd.pinned (.plain (OpenSpec.upto drbgTwinsSpec)) drbgTwinsUptoCard

/-- THE SECOND FORM's CARD OF 'rimelaw11.DrbgBegins'. -/
def drbgBeginsUptoCard : Claim7 := { stood := { row := drbgBeginsUptoRow, standIns := [], harness := (true, "6138b14f841822baaac17c26ea93470a2561dc472b1a5256936e4bc447ad639f"), looks := false }, kinds := [], alts := [], laidByText := true, laidKinds := [.data, .data], laidTests := true, laidLooks := .later }
def DrbgBeginsUptoCardSaid : Prop := Claim7.holds Tryd.pinned (.plain (OpenSpec.upto drbgBeginsSpec)) drbgBeginsUptoCard

/-- THE SECOND FORM's CARD OF 'rimelaw11.DrbgOwn'. -/
def drbgOwnUptoCard : Claim7 := { stood := { row := drbgOwnUptoRow, standIns := [], harness := (true, "6138b14f841822baaac17c26ea93470a2561dc472b1a5256936e4bc447ad639f"), looks := false }, kinds := [], alts := [], laidByText := true, laidKinds := [.data, .data], laidTests := true, laidLooks := .later }
def DrbgOwnUptoCardSaid : Prop := Claim7.holds Tryd.pinned (.plain (OpenSpec.upto drbgOwnSpec)) drbgOwnUptoCard
end Rows
end Go.Proofs.YthpfdnkcepfbaaaDoor
