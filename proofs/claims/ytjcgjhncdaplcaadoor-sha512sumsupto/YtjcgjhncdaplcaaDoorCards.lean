/-
  DERIVED. GIVEN WITH THE SEED: THE CARDS: each row of YtjcgjhncdaplcaaDoorRows.lean that lists a variable, with what it lists TIED to the program's text (the seventh form; the later family's looks); each row that meets fmt, with fmt's text TOLD by the authors' own Lean function (tested against real Go, not proved from fmt's source: count such statements apart). THE CARD IS WHAT COUNTS. Prove the row's statement (the work); the ties are given (YtjcgjhncdaplcaaDoorTie.lean); close each card by the builder's one call (the guide's Derived/Test/ToyasCard.lean, 'card_holds'). Laid BY PROGRAM, IN A SANDBOX (cutbox-door.mjs). By AI agents, Wed Nov 11 2026. No macro, syntax, notation, axiom, sorry.
-/
import Derived.Test.YtjcgjhncdaplcaaDoorRows
import GoSem.ClaimSeven
namespace Go.Proofs.YtjcgjhncdaplcaaDoor
namespace Rows

/-- THE TIED CARD OF 'rimelaw03.Sha512Sums'. -/
def sha512SumsCard : Claim7 := { stood := { row := sha512SumsRow, standIns := [], harness := (true, "836d865ebf958f2f0164178421b742906eb4bc7b92d7cf8f8bb77c863cbce19c"), looks := false }, kinds := [], alts := [], laidByText := true, laidKinds := [.data, .data], laidTests := true, laidLooks := .later }
def Sha512SumsCardSaid : Prop := Claim7.holds Tryd.pinned (.plain (OpenSpec.ofChange sha512SumsSpec)) sha512SumsCard

/-- THE TIED CARD OF 'rimelaw03.Sha512Blocks'. -/
def sha512BlocksCard : Claim7 := { stood := { row := sha512BlocksRow, standIns := [], harness := (true, "836d865ebf958f2f0164178421b742906eb4bc7b92d7cf8f8bb77c863cbce19c"), looks := false }, kinds := [], alts := [], laidByText := true, laidKinds := [.data, .data], laidTests := true, laidLooks := .later }
def Sha512BlocksCardSaid : Prop := Claim7.holds Tryd.pinned (.plain (OpenSpec.ofChange sha512BlocksSpec)) sha512BlocksCard

/-- THE TIED CARD OF 'rimelaw03.Sha512Hashes'. -/
def sha512HashesCard : Claim7 := { stood := { row := sha512HashesRow, standIns := [], harness := (true, "836d865ebf958f2f0164178421b742906eb4bc7b92d7cf8f8bb77c863cbce19c"), looks := false }, kinds := [], alts := [], laidByText := true, laidKinds := [.data, .data], laidTests := true, laidLooks := .later }
def Sha512HashesCardSaid : Prop := Claim7.holds Tryd.pinned (.plain (OpenSpec.ofChange sha512HashesSpec)) sha512HashesCard

/-- THE TIED CARD OF 'rimelaw03.Sha512Resumes'. -/
def sha512ResumesCard : Claim7 := { stood := { row := sha512ResumesRow, standIns := [], harness := (true, "836d865ebf958f2f0164178421b742906eb4bc7b92d7cf8f8bb77c863cbce19c"), looks := false }, kinds := [], alts := [], laidByText := true, laidKinds := [.data, .data], laidTests := true, laidLooks := .later }
def Sha512ResumesCardSaid : Prop := Claim7.holds Tryd.pinned (.plain (OpenSpec.ofChange sha512ResumesSpec)) sha512ResumesCard

/-- THE TIED CARD OF 'rimelaw03.Sha512Pieces'. -/
def sha512PiecesCard : Claim7 := { stood := { row := sha512PiecesRow, standIns := [], harness := (true, "836d865ebf958f2f0164178421b742906eb4bc7b92d7cf8f8bb77c863cbce19c"), looks := false }, kinds := [], alts := [], laidByText := true, laidKinds := [.data, .data], laidTests := true, laidLooks := .later }
def Sha512PiecesCardSaid : Prop := Claim7.holds Tryd.pinned (.plain (OpenSpec.ofChange sha512PiecesSpec)) sha512PiecesCard

/-- THE TIED CARD OF 'rimelaw03.Sha512Chain'. -/
def sha512ChainCard : Claim7 := { stood := { row := sha512ChainRow, standIns := [], harness := (true, "836d865ebf958f2f0164178421b742906eb4bc7b92d7cf8f8bb77c863cbce19c"), looks := false }, kinds := [], alts := [], laidByText := true, laidKinds := [.data, .data], laidTests := true, laidLooks := .later }
def Sha512ChainCardSaid : Prop := Claim7.holds Tryd.pinned (.plain (OpenSpec.ofChange sha512ChainSpec)) sha512ChainCard

/-- THE SECOND FORM's CARD OF 'rimelaw03.Sha512Sums'. -/
def sha512SumsUptoCard : Claim7 := { stood := { row := sha512SumsUptoRow, standIns := [], harness := (true, "836d865ebf958f2f0164178421b742906eb4bc7b92d7cf8f8bb77c863cbce19c"), looks := false }, kinds := [], alts := [], laidByText := true, laidKinds := [.data, .data], laidTests := true, laidLooks := .later }
def Sha512SumsUptoCardSaid : Prop := Claim7.holds Tryd.pinned (.plain (OpenSpec.upto sha512SumsSpec)) sha512SumsUptoCard

/-- THE SECOND FORM's CARD OF 'rimelaw03.Sha512Blocks'. -/
def sha512BlocksUptoCard : Claim7 := { stood := { row := sha512BlocksUptoRow, standIns := [], harness := (true, "836d865ebf958f2f0164178421b742906eb4bc7b92d7cf8f8bb77c863cbce19c"), looks := false }, kinds := [], alts := [], laidByText := true, laidKinds := [.data, .data], laidTests := true, laidLooks := .later }
def Sha512BlocksUptoCardSaid : Prop := Claim7.holds Tryd.pinned (.plain (OpenSpec.upto sha512BlocksSpec)) sha512BlocksUptoCard

/-- THE SECOND FORM's CARD OF 'rimelaw03.Sha512Hashes'. -/
def sha512HashesUptoCard : Claim7 := { stood := { row := sha512HashesUptoRow, standIns := [], harness := (true, "836d865ebf958f2f0164178421b742906eb4bc7b92d7cf8f8bb77c863cbce19c"), looks := false }, kinds := [], alts := [], laidByText := true, laidKinds := [.data, .data], laidTests := true, laidLooks := .later }
def Sha512HashesUptoCardSaid : Prop := Claim7.holds Tryd.pinned (.plain (OpenSpec.upto sha512HashesSpec)) sha512HashesUptoCard

/-- THE SECOND FORM's CARD OF 'rimelaw03.Sha512Resumes'. -/
def sha512ResumesUptoCard : Claim7 := { stood := { row := sha512ResumesUptoRow, standIns := [], harness := (true, "836d865ebf958f2f0164178421b742906eb4bc7b92d7cf8f8bb77c863cbce19c"), looks := false }, kinds := [], alts := [], laidByText := true, laidKinds := [.data, .data], laidTests := true, laidLooks := .later }
def Sha512ResumesUptoCardSaid : Prop := Claim7.holds Tryd.pinned (.plain (OpenSpec.upto sha512ResumesSpec)) sha512ResumesUptoCard

/-- THE SECOND FORM's CARD OF 'rimelaw03.Sha512Pieces'. -/
def sha512PiecesUptoCard : Claim7 := { stood := { row := sha512PiecesUptoRow, standIns := [], harness := (true, "836d865ebf958f2f0164178421b742906eb4bc7b92d7cf8f8bb77c863cbce19c"), looks := false }, kinds := [], alts := [], laidByText := true, laidKinds := [.data, .data], laidTests := true, laidLooks := .later }
def Sha512PiecesUptoCardSaid : Prop := Claim7.holds Tryd.pinned (.plain (OpenSpec.upto sha512PiecesSpec)) sha512PiecesUptoCard

/-- THE SECOND FORM's CARD OF 'rimelaw03.Sha512Chain'. -/
def sha512ChainUptoCard : Claim7 := { stood := { row := sha512ChainUptoRow, standIns := [], harness := (true, "836d865ebf958f2f0164178421b742906eb4bc7b92d7cf8f8bb77c863cbce19c"), looks := false }, kinds := [], alts := [], laidByText := true, laidKinds := [.data, .data], laidTests := true, laidLooks := .later }
def Sha512ChainUptoCardSaid : Prop := Claim7.holds Tryd.pinned (.plain (OpenSpec.upto sha512ChainSpec)) sha512ChainUptoCard
end Rows
end Go.Proofs.YtjcgjhncdaplcaaDoor
