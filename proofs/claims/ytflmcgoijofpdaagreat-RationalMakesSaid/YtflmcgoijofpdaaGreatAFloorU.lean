/- The reference's Floor, where it is rounded. -/
import Derived.Test.YtflmcgoijofpdaaGreatAFloorD
import Derived.Test.YtflmcgoijofpdaaGreatADvs1
namespace Go.Proofs.YtflmcgoijofpdaaGreat
open Go.RowKit
set_option maxHeartbeats 400000
set_option maxRecDepth 100000
set_option linter.unusedSimpArgs false
set_option linter.unusedVariables false

theorem mx (a b c : Nat) (ha : a ≤ c) (hb : b ≤ c) : ∃ M, a ≤ M ∧ b ≤ M ∧ M ≤ c ∧ (M = a ∨ M = b) := by rcases Nat.le_total a b with h | h; exact ⟨b, h, Nat.le_refl _, hb, .inr rfl⟩; exact ⟨a, Nat.le_refl _, h, ha, .inl rfl⟩
theorem small_one (w : World) : Calls Tryz.prog 40 #[.int .i64 1] w (GivesN w 1) := by
  have := small_any w 1 (by decide)
  exact this
end Go.Proofs.YtflmcgoijofpdaaGreat
