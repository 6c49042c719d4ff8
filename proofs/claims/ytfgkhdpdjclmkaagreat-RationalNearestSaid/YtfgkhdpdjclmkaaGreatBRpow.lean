/- The program's Pow of ratios. -/
import Derived.Test.YtfgkhdpdjclmkaaGreatBo
import Derived.Test.YtfgkhdpdjclmkaaGreatBRinv
import Derived.Test.YtfgkhdpdjclmkaaGreatBs
import Derived.Test.YtfgkhdpdjclmkaaGreatBy
namespace Go.Proofs.YtfgkhdpdjclmkaaGreat
open Go.RowKit
set_option maxHeartbeats 400000
set_option maxRecDepth 100000
set_option linter.unusedSimpArgs false
set_option linter.unusedVariables false

end Go.Proofs.YtfgkhdpdjclmkaaGreat
