/- IntegerValues: the law, where an integer is refused. -/
import Derived.Test.YtpidkionieaffaaLAri1
import Derived.Test.YtpidkionieaffaaLInt23
import Derived.Test.YtpidkionieaffaaLInt22
import Derived.Test.YtpidkionieaffaaLInt21
import Derived.Test.YtpidkionieaffaaLh
import Derived.Deep.RegionHeld3
import Derived.Deep.DeepCutAuto
namespace Go.Proofs.Ytpidkionieaffaa
open Go.RowKit
set_option maxHeartbeats 400000
set_option maxRecDepth 100000
set_option linter.unusedSimpArgs false
set_option linter.unusedVariables false

theorem top_i64 : 9223372036854775809 < Top128 := by
  obtain ⟨m, hm⟩ : ∃ m, m = 126 := ⟨_, rfl⟩
  rw [top128 (m := m + 2) (by omega), Nat.pow_add]
  have := Nat.pow_pos (n := m) (show 0 < 4294967296 by decide)
  have := Nat.mul_le_mul_right (4294967296 ^ 2) this
  omega
end Go.Proofs.Ytpidkionieaffaa
