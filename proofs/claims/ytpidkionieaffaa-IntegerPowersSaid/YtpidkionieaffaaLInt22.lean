/- The reference's Int.Order. -/
import Derived.Test.YtpidkionieaffaaLInt21
import Derived.Test.YtpidkionieaffaaLInt20
import Derived.Deep.QuietTactic
import Derived.BigQuiet
namespace Go.Proofs.Ytpidkionieaffaa
open Go.RowKit
set_option maxHeartbeats 400000
set_option maxRecDepth 100000
set_option linter.unusedSimpArgs false
set_option linter.unusedVariables false

theorem rep_zero_len {xs : List Nat} {p k : Nat} (h : Rep 65536 xs p) (hl : xs.length = k) : (k = 0 ∧ p = 0) ∨ (0 < k ∧ 0 < p) := by
  rcases Nat.eq_zero_or_pos k with e | e
  · exact .inl ⟨e, (rep_iff h hl).1 e⟩
  · refine .inr ⟨e, ?_⟩
    rcases Nat.eq_zero_or_pos p with e2 | e2
    · have := (rep_iff h hl).2 e2; omega
    · exact e2
end Go.Proofs.Ytpidkionieaffaa
