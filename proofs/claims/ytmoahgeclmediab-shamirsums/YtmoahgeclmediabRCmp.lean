/- rimeref02.Compare. -/
import Derived.Test.YtmoahgeclmediabRFun
set_option linter.unusedVariables false
set_option linter.unusedSimpArgs false
set_option linter.unnecessarySimpa false
namespace Go.Proofs.Ytmoahgeclmediab
open Go.RowKit N

end Go.Proofs.Ytmoahgeclmediab
