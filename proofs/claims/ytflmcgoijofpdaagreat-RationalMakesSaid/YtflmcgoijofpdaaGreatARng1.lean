/- IntegerRing: the law, where an argument is refused. -/
import Derived.Test.YtflmcgoijofpdaaGreatADvs1
import Derived.Test.YtflmcgoijofpdaaGreatAInt21
import Derived.Test.YtflmcgoijofpdaaGreatAg
import Derived.Test.YtflmcgoijofpdaaGreatAYld
namespace Go.Proofs.YtflmcgoijofpdaaGreat
open Go.RowKit
set_option maxHeartbeats 400000
set_option maxRecDepth 100000
set_option linter.unusedSimpArgs false
set_option linter.unusedVariables false

end Go.Proofs.YtflmcgoijofpdaaGreat
