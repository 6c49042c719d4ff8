/- IntegerTexts: the law. -/
import Derived.Test.YtpjfoggohhlbdaaTTxL1
import Derived.Test.YtpjfoggohhlbdaaTTxL2
import Derived.Test.YtpjfoggohhlbdaaTTxL3
import Derived.Test.YtpjfoggohhlbdaaTTxL4
namespace Go.Proofs.Ytpjfoggohhlbdaa
open Go.RowKit
set_option maxHeartbeats 400000
set_option maxRecDepth 100000
set_option linter.unusedSimpArgs false
set_option linter.unusedVariables false

theorem texts_any (w : World) (a : IV) (y : Int) (s : ByteArray) (hs : s.size ≤ maxLen) (HA : a.at w w.heap.size) :
    Calls Try.prog 8 #[a.v, .int .i64 y, .string s] w (fun e w' => e = .returned (.bool true) ∧ Below w.heap.size w w') := by
  have hs9 : s.size ≤ 9223372036854775807 := by unfold maxLen at hs; omega
  rcases Int.lt_or_le y 2 with h1 | h1
  · cases oa : a.ok
    · exact txt_bb1 w a y s hs9 HA oa h1
    · exact txt_ob1 w a y s hs9 HA oa h1
  rcases Int.lt_or_le 36 y with h2 | h2
  · cases oa : a.ok
    · exact txt_bb2 w a y s hs9 HA oa h1 h2
    · exact txt_ob2 w a y s hs9 HA oa h1 h2
  obtain ⟨n, rfl⟩ := Int.eq_ofNat_of_zero_le (show 0 ≤ y by omega)
  have hy : 2 ≤ n ∧ n ≤ 36 := by omega
  rcases Nat.lt_or_ge 4097 s.size with h3 | h3
  · cases oa : a.ok
    · exact txt_bl w a n s hs9 HA oa hy (Lib.hid h3)
    · exact txt_gl w a n s hs9 HA oa hy (Lib.hid h3)
  · by_cases h4 : TxOk s n
    · cases oa : a.ok
      · exact txt_bv w a n s hs9 HA oa hy (Lib.hid h3) (Lib.hid h4)
      · exact txt_gv w a n s hs9 HA oa hy (Lib.hid h3) (Lib.hid h4)
    · cases oa : a.ok
      · exact txt_bs w a n s hs9 HA oa hy (Lib.hid h3) (Lib.hid h4)
      · exact txt_gs w a n s hs9 HA oa hy (Lib.hid h3) (Lib.hid h4)
end Go.Proofs.Ytpjfoggohhlbdaa
