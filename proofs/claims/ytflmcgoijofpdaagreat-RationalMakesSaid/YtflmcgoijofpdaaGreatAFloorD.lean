/- The reference's Floor. -/
import Derived.Test.YtflmcgoijofpdaaGreatARootD
import Derived.Test.YtflmcgoijofpdaaGreatAj
import Derived.Test.YtflmcgoijofpdaaGreatAInt22
import Derived.Deep.RegionHeld3
namespace Go.Proofs.YtflmcgoijofpdaaGreat
open Go.RowKit
set_option maxHeartbeats 400000
set_option maxRecDepth 100000
set_option linter.unusedSimpArgs false
set_option linter.unusedVariables false

end Go.Proofs.YtflmcgoijofpdaaGreat
