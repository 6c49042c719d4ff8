/- IntegerValues: the law. -/
import Derived.Test.YtpjohcbopkmbmaaKVal3
import Derived.Test.YtpjohcbopkmbmaaKVal4
namespace Go.Proofs.Ytpjohcbopkmbmaa
open Go.RowKit
set_option maxHeartbeats 400000
set_option maxRecDepth 100000
set_option linter.unusedSimpArgs false
set_option linter.unusedVariables false

theorem values_any (w : World) (a b : IV) (i : Int) (hi : -9223372036854775808 ≤ i ∧ i ≤ 9223372036854775807) (HA : a.at w w.heap.size) (HB : b.at w w.heap.size) :
    Calls Try.prog 3 #[a.v, b.v, .int .i64 i] w (fun e w' => e = .returned (.bool true) ∧ Below w.heap.size w w') := by
  obtain ⟨i1, i2⟩ := hi
  by_cases oa : a.ok = true
  · obtain ⟨⟨f1, f2⟩, hf⟩ : ∃ p, ffault [a, b] 0 = p := ⟨_, rfl⟩
    by_cases hs : -9223372036854775808 ≤ a.val ∧ a.val ≤ 9223372036854775807
    · exact vals_in w a b i i1 i2 HA HB f1 f2 hf oa hs
    · rcases (show a.val < -9223372036854775808 ∨ 9223372036854775807 < a.val by omega) with h | h
      · exact vals_lo w a b i i1 i2 HA HB f1 f2 hf oa hs h
      · exact vals_hi w a b i i1 i2 HA HB f1 f2 hf oa hs h
  · obtain ⟨f2, hf⟩ := two_bad (a := a) (b := b) (fun h => oa h.1)
    exact vals_bad w a b i i1 i2 HA HB f2 hf (by simpa using oa)
end Go.Proofs.Ytpjohcbopkmbmaa
