/- RationalField: the law. -/
import Derived.Test.YtdhdkknaagadaaaHt
import Derived.Deep.DeepCutAuto
namespace Go.Proofs.Ytdhdkknaagadaaa
open Go.RowKit
set_option maxHeartbeats 400000
set_option maxRecDepth 100000
set_option linter.unusedSimpArgs false
set_option linter.unusedVariables false

@[irreducible] def Top12 : Nat := 4294967296 ^ 12
theorem top12 {m : Nat} (h : m = 12) : Top12 = 4294967296 ^ m := by subst h; unfold Top12; rfl
end Go.Proofs.Ytdhdkknaagadaaa
