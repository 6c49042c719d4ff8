/- Two ratios of the reference in two blocks. NoRatio of a ratio of zeros; gives of the laws. Results of operations on ratios, too large ones among them. -/
import Derived.Test.YtflmcgoijofpdaaGreatBw
import Derived.Deep.DeepCutAuto
import Derived.Test.YtflmcgoijofpdaaGreatBs
namespace Go.Proofs.YtflmcgoijofpdaaGreat
open Go.RowKit
set_option maxHeartbeats 400000
set_option maxRecDepth 100000
set_option linter.unusedSimpArgs false
set_option linter.unusedVariables false

theorem n3 {w w' : World} (h : Below (w.alloc (.cells #[.bool false, .slice none 0 0, .slice none 0 0] 42)).heap.size (w.alloc (.cells #[.bool false, .slice none 0 0, .slice none 0 0] 42)) w') : Bk3 w' w.heap.size (.bool false) (.slice none 0 0) (.slice none 0 0) := (Bk3.newAt w w.heap.size rfl _ _ _ _).below h (by simp)
theorem QV.at.alloc {u : World} {q : QV} (H : q.at u u.heap.size) (o : Obj) : q.at (u.alloc o) (u.alloc o).heap.size := ⟨DRd.more (DRd.alloc H.1 (Nat.le_refl _) _) (by simp), DRd.more (DRd.alloc H.2 (Nat.le_refl _) _) (by simp)⟩
theorem QV.at.set3 {u : World} {q : QV} {g n k c d : Nat} {b : Bool} {A D : Option Addr} (H : q.at u u.heap.size) (G : Bk3 u g (.bool b) (.slice A n c) (.slice D k d)) (x y z : Value) : q.at (((u.setCell ⟨g, 0, none⟩ x).setCell ⟨g, 1, none⟩ y).setCell ⟨g, 2, none⟩ z) (((u.setCell ⟨g, 0, none⟩ x).setCell ⟨g, 1, none⟩ y).setCell ⟨g, 2, none⟩ z).heap.size := ⟨DRd.set3k H.1 (Nat.le_refl _) G.c0 G.c1 G.c2, DRd.set3k H.2 (Nat.le_refl _) G.c0 G.c1 G.c2⟩
theorem Bk3.far33 {w : World} {g k : Nat} {u v x : Value} (h : Bk3 w g u v x) (hk : k ≠ g) (a b c : Value) : Bk3 (((w.setCell ⟨k, 0, none⟩ a).setCell ⟨k, 1, none⟩ b).setCell ⟨k, 2, none⟩ c) g u v x := by
  obtain ⟨h0, h1, h2, z0, z1, z2, lt⟩ := h
  have hk' : ¬ g = k := fun h => hk h.symm
  constructor <;> simp [go_sem, h0, h1, h2, z0, z1, z2, lt, hk, hk']
theorem Bk3.put {w : World} {g : Nat} {u v x : Value} (h : Bk3 w g u v x) (a b c : Value) : Bk3 (((w.setCell ⟨g, 0, none⟩ a).setCell ⟨g, 1, none⟩ b).setCell ⟨g, 2, none⟩ c) g a b c := by
  obtain ⟨h0, h1, h2, z0, z1, z2, lt⟩ := h
  constructor <;> simp [go_sem, h0, h1, h2, z0, z1, z2, lt]
section
variable {V u : World} {x1 y1 : Int} {x2 y2 g h : Nat} {p q : QV} (H1 : p.at u u.heap.size) (H2 : q.at u u.heap.size) (I1 : Hid (p.is x1 x2)) (I2 : Hid (q.is y1 y2)) (b : Below V.heap.size V u)
include H1 H2 I1 I2 b
end
end Go.Proofs.YtflmcgoijofpdaaGreat

namespace Go.Proofs.YtflmcgoijofpdaaGreat
open Go.RowKit
set_option maxHeartbeats 400000
set_option maxRecDepth 100000
set_option linter.unusedSimpArgs false
set_option linter.unusedVariables false

set_option maxHeartbeats 4000000 in
theorem noRatio_zero (w : World) (A D : Option Addr) (c d : Nat) :
    Calls Tryz.prog 36 #[ratv false A 0 c false D 0 d] w (fun e w' => e = .returned (.bool true) ∧ Below w.heap.size w w') := by
  have E : Below w.heap.size w w := Below.refl _ _
  go_enter Tryz.func36, Tryz.ntmps36
  go_upto_region 1 with fail
  obtain ⟨V0, hV0⟩ : ∃ V0 : World, V0 = (w.alloc (.cells #[.bool false, .slice A 0 c, .bool false, .slice D 0 d] 26)) := ⟨_, rfl⟩
  have bV0 : Below w.heap.size w V0 := by rw [hV0]; (repeat (first | with_reducible exact Below.refl _ _ | with_reducible refine Below.drew ?_ | with_reducible refine below_drewN ?_ _ | with_reducible refine Below.setCell ?_ (by first | (simp; done) | (simp; omega) | omega) _ | with_reducible refine Below.alloc ?_ (by first | (simp; done) | (simp; omega) | omega) _))
  have zV0 : w.heap.size + 1 ≤ V0.heap.size := by rw [hV0]; simp
  have PA : Bk4 V0 (w.heap.size) (.bool false) (.slice A 0 c) (.bool false) (.slice D 0 d) := by rw [hV0]; exact (Bk4.newAt _ _ (by first | omega | (simp; done) | (simp; omega)) _ _ _ _ _)
  rw [← hV0]
  clear hV0
  replace E := E.trans (bV0.mono E.size)
  clear bV0
  have t_PA0 := PA.c0
  have t_PA1 := PA.c1
  have t_PA2 := PA.c2
  have t_PA3 := PA.c3
  go_wp2_with fail
  clear t_PA0 t_PA1 t_PA2 t_PA3
  (with_reducible refine (noInt_any _ false A 0 c (by omega)).mono ?_)
  rintro e w1 ⟨rfl, hb1⟩
  have sw1 := hb1.size
  replace E := E.trans (hb1.mono E.size)
  replace PA := PA.below hb1 PA.lt
  clear hb1
  rw [show (!false && decide ((0 : Nat) = 0)) = true from rfl]
  have t_PA0 := PA.c0
  have t_PA1 := PA.c1
  have t_PA2 := PA.c2
  have t_PA3 := PA.c3
  go_wp2_with fail
  clear t_PA0 t_PA1 t_PA2 t_PA3
  (with_reducible refine (noInt_any _ false D 0 d (by omega)).mono ?_)
  rintro e w2 ⟨rfl, hb2⟩
  have sw2 := hb2.size
  replace E := E.trans (hb2.mono E.size)
  replace PA := PA.below hb2 PA.lt
  clear hb2
  rw [show (!false && decide ((0 : Nat) = 0)) = true from rfl]
  go_wp2_with fail
  go_ret
  exact ⟨rfl, E⟩
end Go.Proofs.YtflmcgoijofpdaaGreat

namespace Go.Proofs.YtflmcgoijofpdaaGreat
open Go.RowKit
set_option maxHeartbeats 400000
set_option maxRecDepth 100000
set_option linter.unusedSimpArgs false
set_option linter.unusedVariables false

section
variable (w : World) (B : Nat) (a b : RV) (H1 : a.at w B) (H2 : b.at w B) (hB : B ≤ w.heap.size) (oa : a.ok = true) (ob : b.ok = true)
include H1 H2 hB oa ob
end
end Go.Proofs.YtflmcgoijofpdaaGreat
