/- IntegerArithmetic: the law. -/
import Derived.Test.YtpjfoggohhlbdaaUYld
import Derived.Test.YtpjfoggohhlbdaaUg
import Derived.Test.YtpjfoggohhlbdaaUDvs1
import Derived.Deep.RegionHeld3
import Derived.Deep.DeepCutAuto
namespace Go.Proofs.Ytpjfoggohhlbdaa
open Go.RowKit
set_option maxHeartbeats 400000
set_option maxRecDepth 100000
set_option linter.unusedSimpArgs false
set_option linter.unusedVariables false

def YR (z z' f1 f2 : Int) : Prop := (z.natAbs < Top128 ∧ z' = z ∧ f1 = 0 ∧ f2 = 0) ∨ (Top128 ≤ z.natAbs ∧ z' = 0 ∧ f1 = 14 ∧ f2 = -1)
theorem vl_yr {w w' : World} {z : Int} {e : Ending} (h : GivesVL w z e w') : ∃ z' f1 f2, YR z z' f1 f2 ∧ GivesVF w z' f1 f2 e w' := by
  rcases h with ⟨h1, h2⟩ | ⟨h1, h2⟩
  · exact ⟨z, 0, 0, .inl ⟨h1, rfl, rfl, rfl⟩, h2⟩
  · exact ⟨0, 14, -1, .inr ⟨h1, rfl, rfl, rfl⟩, h2⟩
end Go.Proofs.Ytpjfoggohhlbdaa
