/- The reference's Floor. -/
import Derived.Test.YtpidkionieaffaaMRootD
import Derived.Test.YtpidkionieaffaaMj
import Derived.Test.YtpidkionieaffaaMInt22
import Derived.Deep.RegionHeld3
namespace Go.Proofs.Ytpidkionieaffaa
open Go.RowKit
set_option maxHeartbeats 400000
set_option maxRecDepth 100000
set_option linter.unusedSimpArgs false
set_option linter.unusedVariables false

end Go.Proofs.Ytpidkionieaffaa
