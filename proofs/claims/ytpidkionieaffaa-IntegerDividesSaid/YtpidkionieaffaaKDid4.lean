/- IntegerDivides: the law. -/
import Derived.Test.YtpidkionieaffaaKDid2
import Derived.Test.YtpidkionieaffaaKDid3
namespace Go.Proofs.Ytpidkionieaffaa
open Go.RowKit
set_option maxHeartbeats 400000
set_option maxRecDepth 100000
set_option linter.unusedSimpArgs false
set_option linter.unusedVariables false

theorem divides_any (w : World) (a b : IV) (HA : a.at w w.heap.size) (HB : b.at w w.heap.size) :
    Calls Try.prog 5 #[a.v, b.v] w (fun e w' => e = .returned (.bool true) ∧ Below w.heap.size w w') := by
  by_cases oa : a.ok = true
  · obtain ⟨⟨f1, f2⟩, hf⟩ : ∃ p, ffault [a, b] 0 = p := ⟨_, rfl⟩
    by_cases hs : a.neg = true
    · exact divd_neg w a b HA HB f1 f2 hf oa (Lib.hid hs)
    · exact divd_pos w a b HA HB f1 f2 hf oa (Lib.hid (by simpa using hs))
  · exact divd_bad w a b HA HB (by simpa using oa)
end Go.Proofs.Ytpidkionieaffaa
