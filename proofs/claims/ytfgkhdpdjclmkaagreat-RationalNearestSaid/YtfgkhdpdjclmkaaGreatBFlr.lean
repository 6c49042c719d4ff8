/- The program's Floor of ratios. -/
import Derived.Test.YtfgkhdpdjclmkaaGreatBu
import Derived.Test.YtfgkhdpdjclmkaaGreatBj
import Derived.Test.YtfgkhdpdjclmkaaGreatBc
namespace Go.Proofs.YtfgkhdpdjclmkaaGreat
open Go.RowKit
set_option maxHeartbeats 400000
set_option maxRecDepth 100000
set_option linter.unusedSimpArgs false
set_option linter.unusedVariables false

end Go.Proofs.YtfgkhdpdjclmkaaGreat
