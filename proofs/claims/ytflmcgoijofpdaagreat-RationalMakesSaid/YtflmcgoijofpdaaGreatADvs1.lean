/- IntegerDivisors: the law. -/
import Derived.Test.YtflmcgoijofpdaaGreatAl
import Derived.Test.YtflmcgoijofpdaaGreatAg
import Derived.Deep.RegionHeld3
namespace Go.Proofs.YtflmcgoijofpdaaGreat
open Go.RowKit
set_option maxHeartbeats 400000
set_option maxRecDepth 100000
set_option linter.unusedSimpArgs false
set_option linter.unusedVariables false

/-- 60 limbs. -/
@[irreducible] def Top60 : Nat := 4294967296 ^ 60
theorem top60 {m : Nat} (h : m = 60) : Top60 = 4294967296 ^ m := by subst h; unfold Top60; rfl
end Go.Proofs.YtflmcgoijofpdaaGreat
