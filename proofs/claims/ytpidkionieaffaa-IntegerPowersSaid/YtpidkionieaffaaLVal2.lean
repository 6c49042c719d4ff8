/- IntegerValues: the law, where the first integer is valid. -/
import Derived.Test.YtpidkionieaffaaLVal1
import Derived.Test.YtpidkionieaffaaLh
import Derived.Test.YtpidkionieaffaaLHand
import Derived.Test.YtpidkionieaffaaLe
import Derived.Test.YtpidkionieaffaaLc
import Derived.Test.YtpidkionieaffaaLAri2
namespace Go.Proofs.Ytpidkionieaffaa
open Go.RowKit
set_option maxHeartbeats 400000
set_option maxRecDepth 100000
set_option linter.unusedSimpArgs false
set_option linter.unusedVariables false

theorem yr_fit {z : Int} (h : z.natAbs < Top128) : YR z z 0 0 := .inl ⟨h, rfl, rfl, rfl⟩
end Go.Proofs.Ytpidkionieaffaa
