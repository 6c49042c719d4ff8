/- IntegerArithmetic: the law at valid arguments. -/
import Derived.Test.YtflmcgoijofpdaaGreatAAri1
import Derived.Deep.Cut
import Derived.Deep.CutRange
namespace Go.Proofs.YtflmcgoijofpdaaGreat
open Go.RowKit
set_option maxHeartbeats 400000
set_option maxRecDepth 100000
set_option linter.unusedSimpArgs false
set_option linter.unusedVariables false

theorem Bk2.next {w w' : World} {g : Nat} {u v : Value} (h : Bk2 w g u v) (hb : Below w.heap.size w w') : Bk2 w' g u v := h.below hb h.lt
end Go.Proofs.YtflmcgoijofpdaaGreat
