/- IntegerDivisors: the law. -/
import Derived.Test.YtpjfoggohhlbdaaUl
import Derived.Test.YtpjfoggohhlbdaaUg
import Derived.Deep.RegionHeld3
namespace Go.Proofs.Ytpjfoggohhlbdaa
open Go.RowKit
set_option maxHeartbeats 400000
set_option maxRecDepth 100000
set_option linter.unusedSimpArgs false
set_option linter.unusedVariables false

theorem IV.abs (a : IV) : a.val.natAbs = vb 4294967296 a.xs := sval_abs _ _
/-- 60 limbs. -/
@[irreducible] def Top60 : Nat := 4294967296 ^ 60
theorem top60 {m : Nat} (h : m = 60) : Top60 = 4294967296 ^ m := by subst h; unfold Top60; rfl
theorem field_code (x y : Int) (w : World) : (Instr.field 26 (.agg #[.int .i64 x, .int .i64 y]) 0).run Try.prog w = .ok (.int .i64 x) w := by kernel_rfl
end Go.Proofs.Ytpjfoggohhlbdaa
