/- IntegerPowers: the law. -/
import Derived.Test.YtpidkionieaffaaLPws2
import Derived.Test.YtpidkionieaffaaLPws3
import Derived.Test.YtpidkionieaffaaLPws4
import Derived.Test.YtpidkionieaffaaLPws6
namespace Go.Proofs.Ytpidkionieaffaa
open Go.RowKit
set_option maxHeartbeats 400000
set_option maxRecDepth 100000
set_option linter.unusedSimpArgs false
set_option linter.unusedVariables false

theorem powers_any (w : World) (a : IV) (i : Int) (b c : IV) (hi : -9223372036854775808 ≤ i ∧ i ≤ 9223372036854775807) (HA : a.at w w.heap.size) (HB : b.at w w.heap.size) (HC : c.at w w.heap.size) :
    Calls Try.prog 6 #[a.v, .int .i64 i, b.v, c.v] w (fun e w' => e = .returned (.bool true) ∧ Below w.heap.size w w') := by
  obtain ⟨i1, i2⟩ := hi
  by_cases h : a.ok = true ∧ b.ok = true ∧ c.ok = true
  · obtain ⟨oa, ob, oc⟩ := h
    by_cases hb : b.neg = true
    · exact pws_neg1 w a b c i i1 i2 HA HB HC oa ob oc (Lib.hid hb)
    · have hb' : Hid (b.neg = false) := Lib.hid (by simpa using hb)
      by_cases hc : c.neg = true
      · exact pws_neg2 w a b c i i1 i2 HA HB HC oa ob oc hb' (Lib.hid hc)
      · have hc' : Hid (c.neg = false) := Lib.hid (by simpa using hc)
        rcases Nat.eq_zero_or_pos c.n with h0 | h0
        · exact pws_zero w a b c i i1 i2 HA HB HC oa ob oc hb' hc' (Lib.hid h0)
        · rcases Nat.eq_zero_or_pos b.n with hz | hz
          · exact pws_one w a b c i i1 i2 HA HB HC oa ob oc hb' hc' h0 (Lib.hid hz)
          · exact pws_some w a b c i i1 i2 HA HB HC oa ob oc hb' hc' h0 hz
  · obtain ⟨f2, hf⟩ := three_bad h
    exact pws_bad w a b c i i1 i2 HA HB HC f2 hf
end Go.Proofs.Ytpidkionieaffaa
