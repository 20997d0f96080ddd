/- sha512.Constants; rimeref03.Pad of 2^61 and more, Compress of other than 128 bytes, May. -/
import Derived.Test.YthpfdnkcepfbaaaDoorH18
import Derived.Test.YthpfdnkcepfbaaaDoorMgL
set_option linter.unusedVariables false
set_option linter.unusedSimpArgs false
set_option linter.unnecessarySimpa false
namespace Go.Proofs.YthpfdnkcepfbaaaDoor
open Go.RowKit

set_option maxRecDepth 100000 in
theorem Pad_rbig (n : Nat) (w : World) (hn : 2305843009213693952 ≤ n) : Calls Tryd.prog 135 #[.int .u64 n] w fun e w' => e = .returned (.tuple #[.slice none 0 0, .int .i64 1]) ∧ w' = w := by
  have hI : (2305843009213693952 : Int) ≤ (n : Int) := by omega
  clear hn
  go_enter Tryd.func135, Tryd.ntmps135
  go_wp2_with fail
  go_ret2
  exact ⟨rfl, rfl⟩
/-- May a midstate of n taken bytes, l of them in its tail, be gone on with? -/
def mayN (l n : Nat) : Int := if n < 2305843009213693952 ∧ l = n % 128 then 0 else 1
end Go.Proofs.YthpfdnkcepfbaaaDoor
