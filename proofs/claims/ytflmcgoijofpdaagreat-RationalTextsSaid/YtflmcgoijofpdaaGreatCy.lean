/- Package integer: wide, Small. Package integer: Sqrt. The law's yields. IntegerDivisors: the law. IntegerArithmetic: the law. The closures that Pow and PowMod hand to power. The program's power, with the two closures. The program's power, with PowMod's closure. The program's Pow. IntegerRing: the law, where an argument is refused. The program's PowMod. IntegerArithmetic: the law at valid arguments. The program's PowMod where it has a rest. The reference's Root. The reference's Floor. The reference's Floor, where it is rounded. The reference's Raised. -/
import Derived.Test.YtflmcgoijofpdaaGreatCInt22
import Derived.Test.YtflmcgoijofpdaaGreatCh
import Derived.Test.YtflmcgoijofpdaaGreatCa
import Derived.Test.YtflmcgoijofpdaaGreatCl
import Derived.Test.YtflmcgoijofpdaaGreatCc
import Derived.Deep.QuietTactic
import Derived.Test.YtflmcgoijofpdaaGreatCInt20
import Derived.Laws.StructEq
import Derived.Test.YtflmcgoijofpdaaGreatCg
import Derived.Deep.RegionHeld3
import Derived.Deep.DeepCutAuto
import Derived.Test.YtflmcgoijofpdaaGreatCInt21
import Derived.Deep.Cut
import Derived.Deep.CutRange
import Derived.Test.YtflmcgoijofpdaaGreatCj
import Derived.Test.YtflmcgoijofpdaaGreatCDivD
import Derived.Test.YtflmcgoijofpdaaGreatCd
import Derived.Test.YtflmcgoijofpdaaGreatCe
namespace Go.Proofs.YtflmcgoijofpdaaGreat
open Go.RowKit
set_option maxHeartbeats 400000
set_option maxRecDepth 100000
set_option linter.unusedSimpArgs false
set_option linter.unusedVariables false

end Go.Proofs.YtflmcgoijofpdaaGreat

namespace Go.Proofs.YtflmcgoijofpdaaGreat
open Go.RowKit
set_option maxHeartbeats 400000
set_option maxRecDepth 100000
set_option linter.unusedSimpArgs false
set_option linter.unusedVariables false

theorem irep0 : IRep false [] 0 := ⟨⟨(by intro x hx; cases hx), rfl, (by intro m hm; cases hm)⟩, rfl⟩
end Go.Proofs.YtflmcgoijofpdaaGreat

namespace Go.Proofs.YtflmcgoijofpdaaGreat
open Go.RowKit
set_option maxHeartbeats 400000
set_option maxRecDepth 100000
set_option linter.unusedSimpArgs false
set_option linter.unusedVariables false

theorem DRd.setFar2 {w : World} {B n c g : Nat} {A : Option Addr} {xs : List Nat} (h : DRd w B A n c xs) (hg : B ≤ g) (x y : Value) : DRd ((w.setCell ⟨g, 0, none⟩ x).setCell ⟨g, 1, none⟩ y) B A n c xs :=
  h.keep fun p hp => by
    rw [World.cell?_setCell_other _ _ _ _ (fun e => by rw [← e] at hp; simp at hp; omega), World.cell?_setCell_other _ _ _ _ (fun e => by rw [← e] at hp; simp at hp; omega)]
theorem LRd.setFar2 {w : World} {B n c g : Nat} {A : Option Addr} {xs : List Nat} (h : LRd w B A n c xs) (hg : B ≤ g) (x y : Value) : LRd ((w.setCell ⟨g, 0, none⟩ x).setCell ⟨g, 1, none⟩ y) B A n c xs :=
  h.keep fun p hp => by
    rw [World.cell?_setCell_other _ _ _ _ (fun e => by rw [← e] at hp; simp at hp; omega), World.cell?_setCell_other _ _ _ _ (fun e => by rw [← e] at hp; simp at hp; omega)]
end Go.Proofs.YtflmcgoijofpdaaGreat

namespace Go.Proofs.YtflmcgoijofpdaaGreat
open Go.RowKit
set_option maxHeartbeats 400000
set_option maxRecDepth 100000
set_option linter.unusedSimpArgs false
set_option linter.unusedVariables false

/-- 60 limbs. -/
@[irreducible] def Top60 : Nat := 4294967296 ^ 60
theorem top60 {m : Nat} (h : m = 60) : Top60 = 4294967296 ^ m := by subst h; unfold Top60; rfl
end Go.Proofs.YtflmcgoijofpdaaGreat

namespace Go.Proofs.YtflmcgoijofpdaaGreat
open Go.RowKit
set_option maxHeartbeats 400000
set_option maxRecDepth 100000
set_option linter.unusedSimpArgs false
set_option linter.unusedVariables false

def R9 (W : World) (x y : Int) (s t : Value) (wx : World) : Prop :=
  ∃ g1 g2 m1 A1 k1 c1 x1 v1 m2 A2 k2 c2 x2 v2, s = .pointer (some ⟨g1, 0, none⟩) ∧ t = .pointer (some ⟨g2, 0, none⟩) ∧ Bk2 wx g1 (.bool m1) (.slice A1 k1 c1) ∧ Bk2 wx g2 (.bool m2) (.slice A2 k2 c2) ∧
    DRd wx wx.heap.size A1 k1 c1 x1 ∧ Hid (Rep 65536 x1 v1) ∧ Hid (sval m1 v1 = x) ∧ DRd wx wx.heap.size A2 k2 c2 x2 ∧ Hid (Rep 65536 x2 v2) ∧ Hid (sval m2 v2 = y) ∧ Below W.heap.size W wx
end Go.Proofs.YtflmcgoijofpdaaGreat

namespace Go.Proofs.YtflmcgoijofpdaaGreat
open Go.RowKit
set_option maxHeartbeats 400000
set_option maxRecDepth 100000
set_option linter.unusedSimpArgs false
set_option linter.unusedVariables false

end Go.Proofs.YtflmcgoijofpdaaGreat

namespace Go.Proofs.YtflmcgoijofpdaaGreat
open Go.RowKit
set_option maxHeartbeats 400000
set_option maxRecDepth 100000
set_option linter.unusedSimpArgs false
set_option linter.unusedVariables false

end Go.Proofs.YtflmcgoijofpdaaGreat

namespace Go.Proofs.YtflmcgoijofpdaaGreat
open Go.RowKit
set_option maxHeartbeats 400000
set_option maxRecDepth 100000
set_option linter.unusedSimpArgs false
set_option linter.unusedVariables false

end Go.Proofs.YtflmcgoijofpdaaGreat

namespace Go.Proofs.YtflmcgoijofpdaaGreat
open Go.RowKit
set_option maxHeartbeats 400000
set_option maxRecDepth 100000
set_option linter.unusedSimpArgs false
set_option linter.unusedVariables false

theorem Bk2.grown {w w' : World} {s g : Nat} {u v : Value} (h : Bk2 w s u v) (hg : w.grownBy w' (some g)) (hne : s ≠ g) : Bk2 w' s u v := by
  have hb := hg.block s h.lt (fun e => hne (by injection e))
  exact ⟨(World.cell?_of_block (w := w) hb).trans h.c0, (World.cell?_of_block (w := w) hb).trans h.c1, (World.frozen?_of_block (w := w) hb).trans h.z0, (World.frozen?_of_block (w := w) hb).trans h.z1, Nat.lt_of_lt_of_le h.lt hg.size⟩
theorem run_make (fn : Fn) (first cap : Array Value) (w : World) : (Instr.makeFunc fn first cap).run Tryz.prog w = .ok (.func fn first cap) w := rfl
end Go.Proofs.YtflmcgoijofpdaaGreat

namespace Go.Proofs.YtflmcgoijofpdaaGreat
open Go.RowKit
set_option maxHeartbeats 400000
set_option maxRecDepth 100000
set_option linter.unusedSimpArgs false
set_option linter.unusedVariables false

end Go.Proofs.YtflmcgoijofpdaaGreat

namespace Go.Proofs.YtflmcgoijofpdaaGreat
open Go.RowKit
set_option maxHeartbeats 400000
set_option maxRecDepth 100000
set_option linter.unusedSimpArgs false
set_option linter.unusedVariables false

end Go.Proofs.YtflmcgoijofpdaaGreat

namespace Go.Proofs.YtflmcgoijofpdaaGreat
open Go.RowKit
set_option maxHeartbeats 400000
set_option maxRecDepth 100000
set_option linter.unusedSimpArgs false
set_option linter.unusedVariables false

theorem Bk2.next {w w' : World} {g : Nat} {u v : Value} (h : Bk2 w g u v) (hb : Below w.heap.size w w') : Bk2 w' g u v := h.below hb h.lt
end Go.Proofs.YtflmcgoijofpdaaGreat

namespace Go.Proofs.YtflmcgoijofpdaaGreat
open Go.RowKit
set_option maxHeartbeats 400000
set_option maxRecDepth 100000
set_option linter.unusedSimpArgs false
set_option linter.unusedVariables false

end Go.Proofs.YtflmcgoijofpdaaGreat

namespace Go.Proofs.YtflmcgoijofpdaaGreat
open Go.RowKit
set_option maxHeartbeats 400000
set_option maxRecDepth 100000
set_option linter.unusedSimpArgs false
set_option linter.unusedVariables false

end Go.Proofs.YtflmcgoijofpdaaGreat

namespace Go.Proofs.YtflmcgoijofpdaaGreat
open Go.RowKit
set_option maxHeartbeats 400000
set_option maxRecDepth 100000
set_option linter.unusedSimpArgs false
set_option linter.unusedVariables false

end Go.Proofs.YtflmcgoijofpdaaGreat

namespace Go.Proofs.YtflmcgoijofpdaaGreat
open Go.RowKit
set_option maxHeartbeats 400000
set_option maxRecDepth 100000
set_option linter.unusedSimpArgs false
set_option linter.unusedVariables false

theorem mx (a b c : Nat) (ha : a ≤ c) (hb : b ≤ c) : ∃ M, a ≤ M ∧ b ≤ M ∧ M ≤ c ∧ (M = a ∨ M = b) := by rcases Nat.le_total a b with h | h; exact ⟨b, h, Nat.le_refl _, hb, .inr rfl⟩; exact ⟨a, Nat.le_refl _, h, ha, .inl rfl⟩
end Go.Proofs.YtflmcgoijofpdaaGreat

namespace Go.Proofs.YtflmcgoijofpdaaGreat
open Go.RowKit
set_option maxHeartbeats 400000
set_option maxRecDepth 100000
set_option linter.unusedSimpArgs false
set_option linter.unusedVariables false

end Go.Proofs.YtflmcgoijofpdaaGreat
