/- The reference's Int.Plus. -/
import Derived.Test.YtpjfoggohhlbdaaUi
import Derived.Test.YtpjfoggohhlbdaaUd
import Derived.Deep.RegionWith
namespace Go.Proofs.Ytpjfoggohhlbdaa
open Go.RowKit
set_option maxHeartbeats 400000
set_option maxRecDepth 100000
set_option linter.unusedSimpArgs false
set_option linter.unusedVariables false

end Go.Proofs.Ytpjfoggohhlbdaa
