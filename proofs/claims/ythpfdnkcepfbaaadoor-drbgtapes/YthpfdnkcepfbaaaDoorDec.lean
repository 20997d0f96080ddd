/- scalar.Decode, Compare. -/
import Derived.Test.YthpfdnkcepfbaaaDoorPiece
set_option linter.unusedVariables false
set_option linter.unusedSimpArgs false
set_option linter.unnecessarySimpa false
namespace Go.Proofs.YthpfdnkcepfbaaaDoor
open Go.RowKit N

theorem nb_bofI (a : Int) (ra : R256 a) : ((nb (bof a) 0 32 : Nat) : Int) = a := by
  obtain ⟨n, rfl⟩ := Int.eq_ofNat_of_zero_le ra.1
  rw [nb_bof n (by unfold R256 at ra; omega)]
/-- -1, 0, 1. -/
def cmpI (a b : Int) : Int := if a < b then -1 else if a = b then 0 else 1
end Go.Proofs.YthpfdnkcepfbaaaDoor
