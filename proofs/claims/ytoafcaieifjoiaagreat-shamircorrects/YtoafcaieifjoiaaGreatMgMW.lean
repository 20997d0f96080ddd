/- shamir.withoutEach, weightsAt, Interpolate. -/
import Derived.Test.YtoafcaieifjoiaaGreatMgH
import Derived.Test.YtoafcaieifjoiaaGreatMgC
import Derived.Test.YtoafcaieifjoiaaGreatMgD
import Derived.MapKept
set_option linter.unusedVariables false
set_option linter.unusedSimpArgs false
set_option linter.unnecessarySimpa false
namespace Go.Proofs.YtoafcaieifjoiaaGreat
open Go.RowKit N

theorem blk_range {w : World} {b : Nat} {X : Int} (h : Blk w b (feC X) 24) : w.rangeAt b 0 (feL X) := by
  have q := (sb_one h).range (i := 0) (by omega)
  rwa [Nat.zero_mul] at q
end Go.Proofs.YtoafcaieifjoiaaGreat
