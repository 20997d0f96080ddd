/- rimeref02.Compare. -/
import Derived.Test.YtemjpibmefggnaaRFun
set_option linter.unusedVariables false
set_option linter.unusedSimpArgs false
set_option linter.unnecessarySimpa false
namespace Go.Proofs.Ytemjpibmefggnaa
open Go.RowKit N

end Go.Proofs.Ytemjpibmefggnaa
