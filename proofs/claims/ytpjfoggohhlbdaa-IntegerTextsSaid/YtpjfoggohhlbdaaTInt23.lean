/- Package integer: wide, Small. -/
import Derived.Test.YtpjfoggohhlbdaaTInt22
import Derived.Test.YtpjfoggohhlbdaaTh
import Derived.Test.YtpjfoggohhlbdaaTa
namespace Go.Proofs.Ytpjfoggohhlbdaa
open Go.RowKit
set_option maxHeartbeats 400000
set_option maxRecDepth 100000
set_option linter.unusedSimpArgs false
set_option linter.unusedVariables false

end Go.Proofs.Ytpjfoggohhlbdaa
