/- IntegerArithmetic: the law at valid arguments. -/
import Derived.Test.YtpidkionieaffaaLAri1
import Derived.Deep.Cut
import Derived.Deep.CutRange
namespace Go.Proofs.Ytpidkionieaffaa
open Go.RowKit
set_option maxHeartbeats 400000
set_option maxRecDepth 100000
set_option linter.unusedSimpArgs false
set_option linter.unusedVariables false

theorem Bk2.next {w w' : World} {g : Nat} {u v : Value} (h : Bk2 w g u v) (hb : Below w.heap.size w w') : Bk2 w' g u v := h.below hb h.lt
theorem yields_any' (w : World) (B : Nat) (n : Bool) (A : Option Addr) (l c : Nat) (xs : List Nat) (m : Bool) (D : Option Addr) (k d v : Nat) (zs : List Nat) (z z' f1 f2 : Int) (HA : LRd w B A l c xs) (HD : DRd w B D k d zs) (hB : B ≤ w.heap.size) (hy : YR z z' f1 f2) (hI : IRep n xs z') (hz : Rep 65536 zs v) (hv : sval m v = z) (hk : k ≤ 100000) :
    Calls Try.prog 30 #[intv n A l c, flt f1 f2, intv m D k d, flt 0 0] w (fun e w' => e = .returned (.bool true) ∧ Below w.heap.size w w') := yields_any w B (IV.mk n A l c xs) m D k d v zs z z' f1 f2 HA HD hB hy hI hz hv hk
end Go.Proofs.Ytpidkionieaffaa
