/- RationalRounds: the law. -/
import Derived.Test.YtfgkhdpdjclmkaaGreatBRnd
import Derived.Test.YtfgkhdpdjclmkaaGreatBMk2
import Derived.Test.YtfgkhdpdjclmkaaGreatBQ4
import Derived.Deep.DeepCutAuto
import Derived.Deep.CutBlock
import Derived.Deep.QuietTactic
import Derived.BigQuiet
namespace Go.Proofs.YtfgkhdpdjclmkaaGreat
open Go.RowKit
set_option maxHeartbeats 400000
set_option maxRecDepth 100000
set_option linter.unusedSimpArgs false
set_option linter.unusedVariables false

theorem nq3 {w w' : World} {u v x : Value} {t : TypeId} (h : Below (w.alloc (.cells #[u, v, x] t)).heap.size (w.alloc (.cells #[u, v, x] t)) w') : Bk3 w' w.heap.size u v x := (Bk3.newAt w w.heap.size rfl _ _ _ _).below h (by simp)
theorem nq3d {w w' : World} {u v x : Value} {t : TypeId} (h : Below (w.drew.alloc (.cells #[u, v, x] t)).heap.size (w.drew.alloc (.cells #[u, v, x] t)) w') : Bk3 w' w.heap.size u v x := (Bk3.newAt w.drew w.heap.size rfl _ _ _ _).below h (by simp)
/-- What is left of a ratio, in a block of its own. -/
def LfR (V : World) (r : Int) (d : Nat) (s : Value) (wx : World) : Prop :=
  ∃ (g : Nat) (q : QV), s = .pointer (some ⟨g, 0, none⟩) ∧ Bk3 wx g (.bool q.m) (.slice q.A q.n q.c) (.slice q.D q.k q.d) ∧ q.at wx wx.heap.size ∧ Hid (q.is r d) ∧ V.heap.size ≤ g ∧ Below V.heap.size V wx
section
variable {V u : World} {q : QV} {r : Int} {d g : Nat} (H : q.at u u.heap.size) (I : Hid (q.is r d)) (b : Below V.heap.size V u)
include H I b
theorem lf_a : LfR V r d (.pointer (some ⟨u.heap.size, 0, none⟩)) (u.alloc (.cells #[.bool q.m, .slice q.A q.n q.c, .slice q.D q.k q.d] 42)) :=
  ⟨_, q, rfl, Bk3.newAt _ _ rfl _ _ _ _, QV.at.alloc H _, I, b.size, b.alloc b.size _⟩
theorem lf_o (G : Bk3 u g (.bool false) (.slice none 0 0) (.slice none 0 0)) (hg : V.heap.size ≤ g) : LfR V r d (.pointer (some ⟨g, 0, none⟩)) (((u.setCell ⟨g, 0, none⟩ (.bool q.m)).setCell ⟨g, 1, none⟩ (.slice q.A q.n q.c)).setCell ⟨g, 2, none⟩ (.slice q.D q.k q.d)) :=
  ⟨_, q, rfl, G.put _ _ _, QV.at.set3 H G _ _ _, I, hg, ((b.setCell (p := ⟨g, 0, none⟩) hg _).setCell (p := ⟨g, 1, none⟩) hg _).setCell (p := ⟨g, 2, none⟩) hg _⟩
end
theorem fl_abs {n d q r : Int} (h : FloorOf n d q r) (hd : 0 < d) : q.natAbs ≤ n.natAbs := by
  obtain ⟨h1, h2⟩ := h
  by_cases hq : 0 ≤ q
  · have h5 : q * 1 ≤ q * d := Int.mul_le_mul_of_nonneg_left (by omega) hq
    omega
  · have h6 : (-q - 1) * 1 ≤ (-q - 1) * d := Int.mul_le_mul_of_nonneg_left (by omega) (by omega)
    have h7 : (-q - 1) * d = -(q * d) - d := by grind
    rw [h7] at h6
    omega
end Go.Proofs.YtfgkhdpdjclmkaaGreat
