/- rimeref02.Compare. -/
import Derived.Test.YtmoahgeclmediaaGreatRFun
set_option linter.unusedVariables false
set_option linter.unusedSimpArgs false
set_option linter.unnecessarySimpa false
namespace Go.Proofs.YtmoahgeclmediaaGreat
open Go.RowKit N

end Go.Proofs.YtmoahgeclmediaaGreat
