/- Walking a drawn region by hand. -/
import Derived.Test.YtflmcgoijofpdaaGreatCf
import Derived.Deep.RegionHeld3
namespace Go.Proofs.YtflmcgoijofpdaaGreat
open Go.RowKit
set_option maxHeartbeats 400000
set_option maxRecDepth 100000
set_option linter.unusedSimpArgs false
set_option linter.unusedVariables false

variable {P : Program} {ops : Array Oper} {Q : Exit → Act → World → Prop} {md : Region.Mode} {S : World → Prop}
end Go.Proofs.YtflmcgoijofpdaaGreat
