/- The reference's Int.Plus. -/
import Derived.Test.YtflmcgoijofpdaaGreatAi
import Derived.Test.YtflmcgoijofpdaaGreatAd
import Derived.Deep.RegionWith
namespace Go.Proofs.YtflmcgoijofpdaaGreat
open Go.RowKit
set_option maxHeartbeats 400000
set_option maxRecDepth 100000
set_option linter.unusedSimpArgs false
set_option linter.unusedVariables false

theorem DRd.setBD {w : World} {B n c g : Nat} {A : Option Addr} {xs : List Nat} {u v : Value} (h : DRd w B A n c xs) (k : Bk2 w g u v) (hu : ∀ x, u ≠ .int .i64 x) (hv : ∀ x, v ≠ .int .i64 x) (x y : Value) : DRd ((w.setCell ⟨g, 0, none⟩ x).setCell ⟨g, 1, none⟩ y) B A n c xs :=
  (h.setO (fun z => by rw [k.c0]; intro e; injection e with e; exact hu z e) x).setO (fun z => by rw [World.cell?_setCell_other _ _ _ _ (by simp), k.c1]; intro e; injection e with e; exact hv z e) y
theorem rep_len_le {xs ys : List Nat} {p q n m : Nat} (hx : Rep 65536 xs p) (hy : Rep 65536 ys q) (hn : xs.length = n) (hm : ys.length = m) (h : q ≤ p) : m ≤ n := by
  rcases Nat.lt_or_ge n m with e | e
  · exfalso
    have := vb_less_len (b := 65536) (by decide) hx.dig hy.top (by omega)
    rw [hx.val, hy.val] at this; omega
  · exact e
end Go.Proofs.YtflmcgoijofpdaaGreat
