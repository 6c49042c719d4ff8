/- The program's Cmp of ratios. RationalArithmetic: a refused argument. gives of results that may be too large; cross products of the reference's results. -/
import Derived.Test.YtflmcgoijofpdaaGreatCn
import Derived.Test.YtflmcgoijofpdaaGreatCInt21
import Derived.Test.YtflmcgoijofpdaaGreatCt
import Derived.Test.YtflmcgoijofpdaaGreatCx
import Derived.Test.YtflmcgoijofpdaaGreatCo
import Derived.Deep.DeepCutAuto
namespace Go.Proofs.YtflmcgoijofpdaaGreat
open Go.RowKit
set_option maxHeartbeats 400000
set_option maxRecDepth 100000
set_option linter.unusedSimpArgs false
set_option linter.unusedVariables false

end Go.Proofs.YtflmcgoijofpdaaGreat

namespace Go.Proofs.YtflmcgoijofpdaaGreat
open Go.RowKit
set_option maxHeartbeats 400000
set_option maxRecDepth 100000
set_option linter.unusedSimpArgs false
set_option linter.unusedVariables false

end Go.Proofs.YtflmcgoijofpdaaGreat

namespace Go.Proofs.YtflmcgoijofpdaaGreat
open Go.RowKit
set_option maxHeartbeats 400000
set_option maxRecDepth 100000
set_option linter.unusedSimpArgs false
set_option linter.unusedVariables false

theorem QV.at.below {u u' : World} {q : QV} (H : q.at u u.heap.size) (b : Below u.heap.size u u') : q.at u' u'.heap.size := ⟨DRd.more (DRd.below H.1 b (Nat.le_refl _)) b.size, DRd.more (DRd.below H.2 b (Nat.le_refl _)) b.size⟩
end Go.Proofs.YtflmcgoijofpdaaGreat
