/- NaturalMoves: the law holds of all arguments. -/
import Derived.Test.YtjkogajdpkbjeaaMovB
import Derived.Test.YtjkogajdpkbjeaaMovC
import Derived.Deep.RegionWith
import Derived.Deep.RegionHeld3
import Derived.Deep.DeepCutAuto
namespace Go.Proofs.Ytjkogajdpkbjeaa
open Go.RowKit
set_option maxHeartbeats 400000
set_option maxRecDepth 100000
set_option linter.unusedSimpArgs false
set_option linter.unusedVariables false

theorem moves_any (w : World) (A : Option Addr) (n c : Nat) (s : Int) (xs : List Nat) (h : LRd w w.heap.size A n c xs) (hi : -9223372036854775808 ≤ s ∧ s ≤ 9223372036854775807) :
    Calls Try.prog 5 #[.slice A n c, .int .i64 s] w fun e w' => e = .returned (.bool true) ∧ Below w.heap.size w w' := by
  by_cases hx : vld xs = true
  · by_cases hb : 0 < nbits xs ∧ 19200 - (nbits xs : Int) < s
    · exact mov_big w A n c s xs h hi hx hb _ rfl
    · exact mov_fit w A n c s xs h hi hx hb _ rfl
  · exact mov_bad w A n c s xs h hi (by simpa using hx)
end Go.Proofs.Ytjkogajdpkbjeaa
