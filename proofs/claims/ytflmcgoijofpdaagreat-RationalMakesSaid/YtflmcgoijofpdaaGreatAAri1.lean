/- IntegerArithmetic: the law. -/
import Derived.Test.YtflmcgoijofpdaaGreatAYld
import Derived.Test.YtflmcgoijofpdaaGreatAg
import Derived.Test.YtflmcgoijofpdaaGreatADvs1
import Derived.Deep.RegionHeld3
import Derived.Deep.DeepCutAuto
namespace Go.Proofs.YtflmcgoijofpdaaGreat
open Go.RowKit
set_option maxHeartbeats 400000
set_option maxRecDepth 100000
set_option linter.unusedSimpArgs false
set_option linter.unusedVariables false

def R9 (W : World) (x y : Int) (s t : Value) (wx : World) : Prop :=
  ∃ g1 g2 m1 A1 k1 c1 x1 v1 m2 A2 k2 c2 x2 v2, s = .pointer (some ⟨g1, 0, none⟩) ∧ t = .pointer (some ⟨g2, 0, none⟩) ∧ Bk2 wx g1 (.bool m1) (.slice A1 k1 c1) ∧ Bk2 wx g2 (.bool m2) (.slice A2 k2 c2) ∧
    DRd wx wx.heap.size A1 k1 c1 x1 ∧ Hid (Rep 65536 x1 v1) ∧ Hid (sval m1 v1 = x) ∧ DRd wx wx.heap.size A2 k2 c2 x2 ∧ Hid (Rep 65536 x2 v2) ∧ Hid (sval m2 v2 = y) ∧ Below W.heap.size W wx
end Go.Proofs.YtflmcgoijofpdaaGreat
