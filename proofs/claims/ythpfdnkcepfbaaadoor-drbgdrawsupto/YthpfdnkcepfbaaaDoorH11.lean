/- sha512.Compress of 128 bytes. -/
import Derived.Test.YthpfdnkcepfbaaaDoorMgL
set_option linter.unusedVariables false
set_option linter.unusedSimpArgs false
set_option linter.unnecessarySimpa false
namespace Go.Proofs.YthpfdnkcepfbaaaDoor
open Go.RowKit

end Go.Proofs.YthpfdnkcepfbaaaDoor
