/- The reference's Floor, where it is rounded. -/
import Derived.Test.YtpidkionieaffaaMFloorD
import Derived.Test.YtpidkionieaffaaMDvs1
namespace Go.Proofs.Ytpidkionieaffaa
open Go.RowKit
set_option maxHeartbeats 400000
set_option maxRecDepth 100000
set_option linter.unusedSimpArgs false
set_option linter.unusedVariables false

theorem mx (a b c : Nat) (ha : a ≤ c) (hb : b ≤ c) : ∃ M, a ≤ M ∧ b ≤ M ∧ M ≤ c ∧ (M = a ∨ M = b) := by rcases Nat.le_total a b with h | h; exact ⟨b, h, Nat.le_refl _, hb, .inr rfl⟩; exact ⟨a, Nat.le_refl _, h, ha, .inl rfl⟩
end Go.Proofs.Ytpidkionieaffaa
