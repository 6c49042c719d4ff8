/- Package integer: Cmp. -/
import Derived.Test.YtpjfoggohhlbdaaTl
import Derived.Deep.QuietTactic
namespace Go.Proofs.Ytpjfoggohhlbdaa
open Go.RowKit
set_option maxHeartbeats 400000
set_option maxRecDepth 100000
set_option linter.unusedSimpArgs false
set_option linter.unusedVariables false

end Go.Proofs.Ytpjfoggohhlbdaa
