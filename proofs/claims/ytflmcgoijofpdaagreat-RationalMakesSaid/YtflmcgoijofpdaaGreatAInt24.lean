/- Package integer: Sqrt. -/
import Derived.Test.YtflmcgoijofpdaaGreatAl
import Derived.Test.YtflmcgoijofpdaaGreatAc
import Derived.Deep.QuietTactic
namespace Go.Proofs.YtflmcgoijofpdaaGreat
open Go.RowKit
set_option maxHeartbeats 400000
set_option maxRecDepth 100000
set_option linter.unusedSimpArgs false
set_option linter.unusedVariables false

theorem irep0 : IRep false [] 0 := ⟨⟨(by intro x hx; cases hx), rfl, (by intro m hm; cases hm)⟩, rfl⟩
end Go.Proofs.YtflmcgoijofpdaaGreat
