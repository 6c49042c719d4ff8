/- The reference's Int.Plus. -/
import Derived.Test.YtflmcgoijofpdaaGreatCi
import Derived.Test.YtflmcgoijofpdaaGreatCd
import Derived.Deep.RegionWith
namespace Go.Proofs.YtflmcgoijofpdaaGreat
open Go.RowKit
set_option maxHeartbeats 400000
set_option maxRecDepth 100000
set_option linter.unusedSimpArgs false
set_option linter.unusedVariables false

theorem DRd.setBD {w : World} {B n c g : Nat} {A : Option Addr} {xs : List Nat} {u v : Value} (h : DRd w B A n c xs) (k : Bk2 w g u v) (hu : ∀ x, u ≠ .int .i64 x) (hv : ∀ x, v ≠ .int .i64 x) (x y : Value) : DRd ((w.setCell ⟨g, 0, none⟩ x).setCell ⟨g, 1, none⟩ y) B A n c xs :=
  (h.setO (fun z => by rw [k.c0]; intro e; injection e with e; exact hu z e) x).setO (fun z => by rw [World.cell?_setCell_other _ _ _ _ (by simp), k.c1]; intro e; injection e with e; exact hv z e) y
end Go.Proofs.YtflmcgoijofpdaaGreat
