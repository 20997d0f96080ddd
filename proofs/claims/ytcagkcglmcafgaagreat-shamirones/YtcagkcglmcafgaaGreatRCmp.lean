/- rimeref02.Compare. -/
import Derived.Test.YtcagkcglmcafgaaGreatRFun
set_option linter.unusedVariables false
set_option linter.unusedSimpArgs false
set_option linter.unnecessarySimpa false
namespace Go.Proofs.YtcagkcglmcafgaaGreat
open Go.RowKit N

end Go.Proofs.YtcagkcglmcafgaaGreat
