/- IntegerRing: the law, where an argument is refused. -/
import Derived.Test.YtpidkionieaffaaMDvs1
import Derived.Test.YtpidkionieaffaaMInt21
import Derived.Test.YtpidkionieaffaaMg
import Derived.Test.YtpidkionieaffaaMYld
namespace Go.Proofs.Ytpidkionieaffaa
open Go.RowKit
set_option maxHeartbeats 400000
set_option maxRecDepth 100000
set_option linter.unusedSimpArgs false
set_option linter.unusedVariables false

abbrev three (a b c : IV) : Obj := .cells #[.bool a.neg, .slice a.A a.n a.c, .bool b.neg, .slice b.A b.n b.c, .bool c.neg, .slice c.A c.n c.c] 24
theorem irow3 (w : World) (B : Nat) (a b c : IV) (ha : a.at w B) (hb : b.at w B) (hc : c.at w B) (hB : B ≤ w.heap.size) : IRow (w.alloc (three a b c)) B w.heap.size [a, b, c] := by
  have ha' := LRd.alloc ha hB (three a b c)
  have hb' := LRd.alloc hb hB (three a b c)
  have hc' := LRd.alloc hc hB (three a b c)
  refine ⟨fun i hi => ?_, fun i hi => ?_, fun i hi => ?_, by simp⟩
  all_goals
    have hi' : i < 3 := hi
    rcases (show i = 0 ∨ i = 1 ∨ i = 2 by omega) with rfl | rfl | rfl
    all_goals first | exact ha' | exact hb' | exact hc' | simp [go_sem]
theorem three_ok {a b c : IV} (ha : a.ok = true) (hb : b.ok = true) (hc : c.ok = true) : ffault [a, b, c] 0 = (0, 0) := by
  show (if a.ok then (if b.ok then (if c.ok then (0, 0) else _) else _) else _) = _
  rw [if_pos ha, if_pos hb, if_pos hc]
end Go.Proofs.Ytpidkionieaffaa
