/- The reference's Divide: numbers. -/
import Derived.Test.YtpidkionieaffaaMe
namespace Go.Proofs.Ytpidkionieaffaa
open Go.RowKit
set_option maxHeartbeats 400000
set_option maxRecDepth 100000
set_option linter.unusedSimpArgs false
set_option linter.unusedVariables false

end Go.Proofs.Ytpidkionieaffaa
