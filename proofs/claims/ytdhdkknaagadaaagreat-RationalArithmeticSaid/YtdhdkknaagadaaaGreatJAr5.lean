/- RationalArithmetic: the law. -/
import Derived.Test.YtdhdkknaagadaaaGreatJAr3
import Derived.Test.YtdhdkknaagadaaaGreatJAr4
namespace Go.Proofs.YtdhdkknaagadaaaGreat
open Go.RowKit
set_option maxHeartbeats 400000
set_option maxRecDepth 100000
set_option linter.unusedSimpArgs false
set_option linter.unusedVariables false

theorem ar_any (w : World) (a b : RV) (HA : a.at w w.heap.size) (HB : b.at w w.heap.size) :
    Calls Tryz.prog 3 #[a.v, b.v] w (fun e w' => e = .returned (.bool true) ∧ Below w.heap.size w w') := by
  by_cases oa : a.ok = true
  · by_cases ob : b.ok = true
    · have V := RV.val ob HB
      by_cases hz : b.num.val = 0
      · refine ar_zero w a b HA HB (rtwo_ok oa ob) (Lib.hid oa) (Lib.hid ob) (Lib.hid hz) ?_
        have h1 := (IRep.len0 V.num).2 hz
        have h2 := HB.1.len.out
        rw [V.num.sgn, hz, decide_eq_true (show b.num.n = 0 by omega)]
        rfl
      · refine ar_some w a b HA HB (rtwo_ok oa ob) (Lib.hid oa) (Lib.hid ob) (Lib.hid hz) ?_
        have h1 : b.num.xs.length ≠ 0 := fun h => hz ((IRep.len0 V.num).1 h)
        have h2 := HB.1.len.out
        rw [decide_eq_false (show ¬ b.num.n = 0 by omega), Bool.and_false]
    · exact ar_bad w a b HA HB true _ (by show (if a.ok then (if b.ok then _ else _) else _) = _; rw [if_pos oa, if_neg ob]) (Lib.hid oa)
  · exact ar_bad w a b HA HB false _ (by show (if a.ok then _ else _) = _; rw [if_neg oa]) (Lib.hid (by simpa using oa))
end Go.Proofs.YtdhdkknaagadaaaGreat
