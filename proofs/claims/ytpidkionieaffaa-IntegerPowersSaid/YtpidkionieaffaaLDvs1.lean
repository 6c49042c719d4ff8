/- IntegerDivisors: the law. -/
import Derived.Test.YtpidkionieaffaaLl
import Derived.Test.YtpidkionieaffaaLg
import Derived.Deep.RegionHeld3
namespace Go.Proofs.Ytpidkionieaffaa
open Go.RowKit
set_option maxHeartbeats 400000
set_option maxRecDepth 100000
set_option linter.unusedSimpArgs false
set_option linter.unusedVariables false

theorem val_mk (n : Bool) (A : Option Addr) (k c : Nat) (x : List Nat) : (IV.mk n A k c x).val = sval n (vb 4294967296 x) := rfl
theorem IV.abs (a : IV) : a.val.natAbs = vb 4294967296 a.xs := sval_abs _ _
/-- 60 limbs. -/
@[irreducible] def Top60 : Nat := 4294967296 ^ 60
theorem top60 {m : Nat} (h : m = 60) : Top60 = 4294967296 ^ m := by subst h; unfold Top60; rfl
end Go.Proofs.Ytpidkionieaffaa
