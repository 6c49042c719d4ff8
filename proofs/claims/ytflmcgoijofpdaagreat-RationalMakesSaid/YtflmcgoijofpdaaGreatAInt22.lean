/- The reference's Int.Order. -/
import Derived.Test.YtflmcgoijofpdaaGreatAInt21
import Derived.Test.YtflmcgoijofpdaaGreatAInt20
import Derived.Deep.QuietTactic
import Derived.BigQuiet
namespace Go.Proofs.YtflmcgoijofpdaaGreat
open Go.RowKit
set_option maxHeartbeats 400000
set_option maxRecDepth 100000
set_option linter.unusedSimpArgs false
set_option linter.unusedVariables false

end Go.Proofs.YtflmcgoijofpdaaGreat
