/- RationalMakes: the law. -/
import Derived.Test.YtfgkhdpdjclmkaaGreatBMk1
import Derived.Deep.DeepCutAuto
import Derived.Deep.CutBlock
namespace Go.Proofs.YtfgkhdpdjclmkaaGreat
open Go.RowKit
set_option maxHeartbeats 400000
set_option maxRecDepth 100000
set_option linter.unusedSimpArgs false
set_option linter.unusedVariables false

theorem noint_eq {b : IV} {w : World} {B : Nat} (ob : b.ok = true) (H : b.at w B) : (!b.neg && decide (b.n = 0)) = decide (b.val = 0) := by
  have I := IV.irep ob H.lim
  have h1 := IRep.len0 I
  have h2 : b.xs.length = b.n := H.len.out
  by_cases hz : b.val = 0
  · have h3 := I.sgn
    rw [hz] at h3
    rw [h3, decide_eq_true (show b.n = 0 by have := h1.2 hz; omega), decide_eq_true hz]; rfl
  · rw [decide_eq_false (show ¬ b.n = 0 by intro h; exact hz (h1.1 (by omega))), decide_eq_false hz, Bool.and_false]
theorem sval_f (v : Nat) : sval false v = ((v : Nat) : Int) := by unfold sval; simp
end Go.Proofs.YtfgkhdpdjclmkaaGreat
