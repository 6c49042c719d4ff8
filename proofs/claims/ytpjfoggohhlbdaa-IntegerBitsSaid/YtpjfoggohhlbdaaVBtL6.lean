/- IntegerBits: the law. -/
import Derived.Test.YtpjfoggohhlbdaaVBtL1
import Derived.Test.YtpjfoggohhlbdaaVBtL2
import Derived.Test.YtpjfoggohhlbdaaVBtL3
import Derived.Test.YtpjfoggohhlbdaaVBtL4
import Derived.Test.YtpjfoggohhlbdaaVBtL5
namespace Go.Proofs.Ytpjfoggohhlbdaa
open Go.RowKit
set_option maxHeartbeats 400000
set_option maxRecDepth 100000
set_option linter.unusedSimpArgs false
set_option linter.unusedVariables false

theorem bits_law (w : World) (a b : IV) (i : Int) (hi : -9223372036854775808 ≤ i ∧ i ≤ 9223372036854775807) (HA : a.at w w.heap.size) (HB : b.at w w.heap.size) :
    Calls Try.prog 7 #[a.v, b.v, .int .i64 i] w (fun e w' => e = .returned (.bool true) ∧ Below w.heap.size w w') := by
  obtain ⟨i1, i2⟩ := hi
  cases oa : a.ok
  · exact bts_bad w a b i i1 i2 HA HB oa
  · cases ob : b.ok
    · have hf : ffault [a, b] 0 = (6, -2) := by show (if a.ok = true then (if b.ok = true then _ else _) else _) = _; rw [oa, ob]; rfl
      by_cases h : vb 4294967296 a.xs = 0
      · exact bts_oz w a b i i1 i2 HA HB oa (-2) hf (Lib.hid h)
      · rcases Int.lt_or_le 4096 i with h2 | h2
        · exact bts_ob w a b i i1 i2 HA HB oa (-2) hf (Lib.hid h) h2
        · exact bts_op w a b i i1 i2 HA HB oa (-2) hf (Lib.hid h) h2
    · by_cases h : vb 4294967296 a.xs = 0
      · exact bts_bz w a b i i1 i2 HA HB oa ob (Lib.hid h)
      · rcases Int.lt_or_le 4096 i with h2 | h2
        · exact bts_bb w a b i i1 i2 HA HB oa ob (Lib.hid h) h2
        · exact bts_bp w a b i i1 i2 HA HB oa ob (Lib.hid h) h2
end Go.Proofs.Ytpjfoggohhlbdaa
