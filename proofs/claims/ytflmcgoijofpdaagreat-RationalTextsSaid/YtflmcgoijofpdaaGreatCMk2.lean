/- RationalMakes: the law. -/
import Derived.Test.YtflmcgoijofpdaaGreatCMk1
import Derived.Deep.DeepCutAuto
import Derived.Deep.CutBlock
namespace Go.Proofs.YtflmcgoijofpdaaGreat
open Go.RowKit
set_option maxHeartbeats 400000
set_option maxRecDepth 100000
set_option linter.unusedSimpArgs false
set_option linter.unusedVariables false

theorem rf0 {x : RV} (h : x.ok = true) : rfault [x] 0 = (0, 0) := by
  show (if x.ok then _ else _) = _
  rw [if_pos h]; rfl
theorem sval_f (v : Nat) : sval false v = ((v : Nat) : Int) := by unfold sval; simp
theorem mk_len {zs : List Nat} {v k : Nat} (h : Rep 65536 zs v) (hv : v < Top128) (hl : zs.length = k) : k ≤ 100000 := by have := repD_len128 h hv hl; omega
end Go.Proofs.YtflmcgoijofpdaaGreat
