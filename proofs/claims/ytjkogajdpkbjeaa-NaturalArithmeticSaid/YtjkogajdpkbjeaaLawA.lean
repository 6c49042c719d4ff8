/- NaturalArithmetic: the law holds of all arguments. -/
import Derived.Test.YtjkogajdpkbjeaaLawA2
import Derived.Test.YtjkogajdpkbjeaaLawA3
import Derived.Test.YtjkogajdpkbjeaaLawA4
import Derived.Test.YtjkogajdpkbjeaaLawA5
import Derived.Test.YtjkogajdpkbjeaaLawA6
namespace Go.Proofs.Ytjkogajdpkbjeaa
open Go.RowKit
set_option maxHeartbeats 400000
set_option maxRecDepth 100000
set_option linter.unusedSimpArgs false
set_option linter.unusedVariables false

theorem arith_any (w : World) (A D : Option Addr) (n m c d : Nat) (xs ys : List Nat) (h : LRd w w.heap.size A n c xs) (k : LRd w w.heap.size D m d ys) :
    Calls Try.prog 3 #[.slice A n c, .slice D m d] w fun e w' => e = .returned (.bool true) ∧ Below w.heap.size w w' := by
  by_cases hx : vld xs = true
  · by_cases hy : vld ys = true
    · rcases Nat.lt_or_ge (vb 4294967296 xs + vb 4294967296 ys) Big with hs | hs
      · rcases Nat.lt_or_ge (vb 4294967296 xs) (vb 4294967296 ys) with hl | hl
        · exact arith_fit_lt w A D n m c d xs ys h k hx hy _ _ rfl rfl hs hl
        · exact arith_fit_ge w A D n m c d xs ys h k hx hy _ _ rfl rfl hs hl
      · rcases Nat.lt_or_ge (vb 4294967296 xs) (vb 4294967296 ys) with hl | hl
        · exact arith_big_lt w A D n m c d xs ys h k hx hy _ _ rfl rfl hs hl
        · exact arith_big_ge w A D n m c d xs ys h k hx hy _ _ rfl rfl hs hl
    · exact arith_bad2 w A D n m c d xs ys h k hx (by simpa using hy)
  · exact arith_bad1 w A D n m c d xs ys h k (by simpa using hx)
end Go.Proofs.Ytjkogajdpkbjeaa
