/- NaturalDivides: the law holds of all arguments. -/
import Derived.Test.YtjkogajdpkbjeaaDivB
import Derived.Test.YtjkogajdpkbjeaaDivC
import Derived.Deep.RegionWith
import Derived.Deep.RegionHeld3
import Derived.Deep.DeepCutAuto
namespace Go.Proofs.Ytjkogajdpkbjeaa
open Go.RowKit
set_option maxHeartbeats 400000
set_option maxRecDepth 100000
set_option linter.unusedSimpArgs false
set_option linter.unusedVariables false

theorem divides_any (w : World) (A D : Option Addr) (n m c d : Nat) (xs ys : List Nat) (h : LRd w w.heap.size A n c xs) (k : LRd w w.heap.size D m d ys) :
    Calls Try.prog 4 #[.slice A n c, .slice D m d] w fun e w' => e = .returned (.bool true) ∧ Below w.heap.size w w' := by
  by_cases hx : vld xs = true
  · by_cases hy : vld ys = true
    · rcases Nat.eq_zero_or_pos m with hm | hm
      · exact div_zero w A D n m c d xs ys h k hx hy _ _ rfl rfl hm
      · exact div_okk w A D n m c d xs ys h k hx hy _ _ rfl rfl hm
    · exact div_bad2 w A D n m c d xs ys h k hx (by simpa using hy)
  · exact div_bad1 w A D n m c d xs ys h k (by simpa using hx)
end Go.Proofs.Ytjkogajdpkbjeaa
