/- The reference's Raised. -/
import Derived.Test.YtpidkionieaffaaMPow6
import Derived.Test.YtpidkionieaffaaMc
import Derived.Test.YtpidkionieaffaaMFloorU
import Derived.Test.YtpidkionieaffaaMe
namespace Go.Proofs.Ytpidkionieaffaa
open Go.RowKit
set_option maxHeartbeats 400000
set_option maxRecDepth 100000
set_option linter.unusedSimpArgs false
set_option linter.unusedVariables false

theorem pow_over {z : Int} {k n : Nat} (h : Top128 ≤ (z ^ k).natAbs) (hk : k ≤ n) : Top128 ≤ (z ^ n).natAbs := by
  rw [Int.natAbs_pow] at h ⊢
  exact pw_over h hk
end Go.Proofs.Ytpidkionieaffaa
