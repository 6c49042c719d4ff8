/- Package integer: Cmp. -/
import Derived.Test.YtflmcgoijofpdaaGreatCl
import Derived.Deep.QuietTactic
namespace Go.Proofs.YtflmcgoijofpdaaGreat
open Go.RowKit
set_option maxHeartbeats 400000
set_option maxRecDepth 100000
set_option linter.unusedSimpArgs false
set_option linter.unusedVariables false

def ICmp (x y r : Int) : Prop := (r = -1 ∧ x < y) ∨ (r = 0 ∧ x = y) ∨ (r = 1 ∧ y < x)
end Go.Proofs.YtflmcgoijofpdaaGreat
