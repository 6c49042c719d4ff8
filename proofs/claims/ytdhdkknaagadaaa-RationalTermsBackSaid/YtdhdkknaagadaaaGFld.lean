/- RationalField: the law. -/
import Derived.Test.YtdhdkknaagadaaaGt
import Derived.Deep.DeepCutAuto
namespace Go.Proofs.Ytdhdkknaagadaaa
open Go.RowKit
set_option maxHeartbeats 400000
set_option maxRecDepth 100000
set_option linter.unusedSimpArgs false
set_option linter.unusedVariables false

@[irreducible] def Top12 : Nat := 4294967296 ^ 12
theorem top12 {m : Nat} (h : m = 12) : Top12 = 4294967296 ^ m := by subst h; unfold Top12; rfl
theorem ref_len {m : Bool} {zs : List Nat} {v k : Nat} {z : Int} (h : Rep 65536 zs v) (hv : sval m v = z) (hl : zs.length = k) (hz : z.natAbs < Top128) : k ≤ 100000 := by
  have h1 : v < Top128 := by rw [← sval_abs m v, hv]; exact hz
  have := repD_len128 h h1 hl
  omega
end Go.Proofs.Ytdhdkknaagadaaa
