/- The program's inverse of a ratio. -/
import Derived.Test.YtfgkhdpdjclmkaaGreatBo
namespace Go.Proofs.YtfgkhdpdjclmkaaGreat
open Go.RowKit
set_option maxHeartbeats 400000
set_option maxRecDepth 100000
set_option linter.unusedSimpArgs false
set_option linter.unusedVariables false

end Go.Proofs.YtfgkhdpdjclmkaaGreat
