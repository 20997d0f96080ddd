/- scalar.Decode of any bytes. -/
import Derived.Test.YthpfdnkcepfbaaaDoorMgB
import Derived.Test.YthpfdnkcepfbaaaDoorDec
set_option linter.unusedVariables false
set_option linter.unusedSimpArgs false
set_option linter.unnecessarySimpa false
namespace Go.Proofs.YthpfdnkcepfbaaaDoor
open Go.RowKit N

/-- What Decode answers of n bytes f: the number. -/
def dX (n : Nat) (f : Nat → Nat) : Int := if n = 32 then (if eqf ((nb f 0 32 : Nat) : Int) (((nb f 0 32 : Nat) : Int) % L) then ((nb f 0 32 : Nat) : Int) else 0) else 0
/-- What Decode answers of n bytes f: the error's number. -/
def dE (n : Nat) (f : Nat → Nat) : Int := if n = 32 then (if eqf ((nb f 0 32 : Nat) : Int) (((nb f 0 32 : Nat) : Int) % L) then 0 else 21) else 3
theorem dX_len {n : Nat} (f : Nat → Nat) (h : ¬ n = 32) : dX n f = 0 := if_neg h
theorem dE_len {n : Nat} (f : Nat → Nat) (h : ¬ n = 32) : dE n f = 3 := if_neg h
theorem nb_r256 (f : Nat → Nat) (h : ∀ i, i < 32 → f i < 256) : R256 ((nb f 0 32 : Nat) : Int) := by
  have := nb_lt f 32 0 (fun j _ hj => h j (by omega))
  unfold R256
  omega
end Go.Proofs.YthpfdnkcepfbaaaDoor
