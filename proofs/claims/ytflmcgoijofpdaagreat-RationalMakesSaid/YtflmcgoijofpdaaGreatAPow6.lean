/- The program's PowMod where it has a rest. -/
import Derived.Test.YtflmcgoijofpdaaGreatAPow5
import Derived.Test.YtflmcgoijofpdaaGreatAj
import Derived.Test.YtflmcgoijofpdaaGreatAAri2
import Derived.Deep.RegionHeld3
import Derived.Deep.DeepCutAuto
import Derived.Deep.Cut
import Derived.Deep.CutRange
namespace Go.Proofs.YtflmcgoijofpdaaGreat
open Go.RowKit
set_option maxHeartbeats 400000
set_option maxRecDepth 100000
set_option linter.unusedSimpArgs false
set_option linter.unusedVariables false

end Go.Proofs.YtflmcgoijofpdaaGreat
