/- rimeref02.Compare. -/
import Derived.Test.YtcagkcglmcafgaaRFun
set_option linter.unusedVariables false
set_option linter.unusedSimpArgs false
set_option linter.unnecessarySimpa false
namespace Go.Proofs.Ytcagkcglmcafgaa
open Go.RowKit N

end Go.Proofs.Ytcagkcglmcafgaa
