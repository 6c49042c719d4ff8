/- The program's Pow of ratios. -/
import Derived.Test.YtflmcgoijofpdaaGreatCo
import Derived.Test.YtflmcgoijofpdaaGreatCRinv
import Derived.Test.YtflmcgoijofpdaaGreatCs
import Derived.Test.YtflmcgoijofpdaaGreatCy
namespace Go.Proofs.YtflmcgoijofpdaaGreat
open Go.RowKit
set_option maxHeartbeats 400000
set_option maxRecDepth 100000
set_option linter.unusedSimpArgs false
set_option linter.unusedVariables false

end Go.Proofs.YtflmcgoijofpdaaGreat
