/- RationalArithmetic: a refused argument. -/
import Derived.Test.YtflmcgoijofpdaaGreatAt
import Derived.Test.YtflmcgoijofpdaaGreatAx
import Derived.Test.YtflmcgoijofpdaaGreatARcp
import Derived.Test.YtflmcgoijofpdaaGreatAo
import Derived.Deep.DeepCutAuto
namespace Go.Proofs.YtflmcgoijofpdaaGreat
open Go.RowKit
set_option maxHeartbeats 400000
set_option maxRecDepth 100000
set_option linter.unusedSimpArgs false
set_option linter.unusedVariables false

end Go.Proofs.YtflmcgoijofpdaaGreat
