/- IntegerDivides: contracts for the law, and where the first integer is refused. -/
import Derived.Test.YtpidkionieaffaaLFloorU
import Derived.Test.YtpidkionieaffaaLInt24
import Derived.Test.YtpidkionieaffaaLe
import Derived.Test.YtpidkionieaffaaLd
import Derived.Test.YtpidkionieaffaaLRootD
import Derived.Test.YtpidkionieaffaaLVal2
import Derived.Test.YtpidkionieaffaaLHand
namespace Go.Proofs.Ytpidkionieaffaa
open Go.RowKit
set_option maxHeartbeats 400000
set_option maxRecDepth 100000
set_option linter.unusedSimpArgs false
set_option linter.unusedVariables false

theorem irep_nil {n : Bool} {zs : List Nat} {k : Nat} (h : IRep n zs 0) (hl : zs.length = k) : k = 0 ∧ n = false := by
  refine ⟨?_, by rw [h.sgn]; rfl⟩
  have := h.rep
  exact nil_len (by simpa using this) hl
end Go.Proofs.Ytpidkionieaffaa
