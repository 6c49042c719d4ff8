/- The reference's Divide. -/
import Derived.Test.YtflmcgoijofpdaaGreatCDivR
import Derived.Test.YtflmcgoijofpdaaGreatCInt20
import Derived.Test.YtflmcgoijofpdaaGreatCe
import Derived.Test.YtflmcgoijofpdaaGreatCd
import Derived.Test.YtflmcgoijofpdaaGreatCi
namespace Go.Proofs.YtflmcgoijofpdaaGreat
open Go.RowKit
set_option maxHeartbeats 400000
set_option maxRecDepth 100000
set_option linter.unusedSimpArgs false
set_option linter.unusedVariables false

def RBo (w : World) (g : Nat) (cs : List Nat) : Prop := Row w g 4 (bools cs)
theorem RBo.new (w : World) (n : Nat) : RBo (w.alloc (.cells (List.replicate n (Value.bool false)).toArray 4)) w.heap.size (List.replicate n 0) := by
  unfold RBo bools
  rw [List.map_replicate]
  exact Row.new w 4 _
theorem RBo.cell {w : World} {g j : Nat} {cs : List Nat} (h : RBo w g cs) (hj : j < cs.length) : w.cell? ⟨g, j, none⟩ = some (.bool (bt cs j)) := by
  rw [Row.cell h]
  unfold bools bt
  simp [hj]
theorem RBo.put {w : World} {g j : Nat} {cs : List Nat} (h : RBo w g cs) : RBo (w.setCell ⟨g, j, none⟩ (.bool true)) g (cs.set j 1) := by
  have := Row.set_ h j (.bool true)
  unfold RBo bools
  rw [List.map_set]
  exact this
theorem RBo.below {w w' : World} {g B : Nat} {cs : List Nat} (h : RBo w g cs) (hb : Below B w w') (hg : g < B) : RBo w' g cs := Row.below h hb hg
theorem dn {W v v' : World} (h : Below W.heap.size W v) (hb : Below v.heap.size v v') : Below W.heap.size W v' := h.trans (hb.mono h.size)
end Go.Proofs.YtflmcgoijofpdaaGreat
