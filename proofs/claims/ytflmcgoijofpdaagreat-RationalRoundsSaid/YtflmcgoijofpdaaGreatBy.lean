/- Package integer: Sqrt. The law's yields. IntegerDivisors: the law. IntegerArithmetic: the law. The closures that Pow and PowMod hand to power. The program's power, with the two closures. The program's power, with PowMod's closure. Package integer: wide, Small. The program's Pow. IntegerRing: the law, where an argument is refused. The program's PowMod. IntegerArithmetic: the law at valid arguments. The program's PowMod where it has a rest. The reference's Root. The reference's Floor. The reference's Floor, where it is rounded. The reference's Raised. -/
import Derived.Test.YtflmcgoijofpdaaGreatBl
import Derived.Test.YtflmcgoijofpdaaGreatBc
import Derived.Deep.QuietTactic
import Derived.Test.YtflmcgoijofpdaaGreatBInt20
import Derived.Laws.StructEq
import Derived.Test.YtflmcgoijofpdaaGreatBg
import Derived.Deep.RegionHeld3
import Derived.Deep.DeepCutAuto
import Derived.Test.YtflmcgoijofpdaaGreatBInt22
import Derived.Test.YtflmcgoijofpdaaGreatBh
import Derived.Test.YtflmcgoijofpdaaGreatBa
import Derived.Test.YtflmcgoijofpdaaGreatBInt21
import Derived.Deep.Cut
import Derived.Deep.CutRange
import Derived.Test.YtflmcgoijofpdaaGreatBj
import Derived.Test.YtflmcgoijofpdaaGreatBDivD
import Derived.Test.YtflmcgoijofpdaaGreatBd
import Derived.Test.YtflmcgoijofpdaaGreatBe
namespace Go.Proofs.YtflmcgoijofpdaaGreat
open Go.RowKit
set_option maxHeartbeats 400000
set_option maxRecDepth 100000
set_option linter.unusedSimpArgs false
set_option linter.unusedVariables false

end Go.Proofs.YtflmcgoijofpdaaGreat

namespace Go.Proofs.YtflmcgoijofpdaaGreat
open Go.RowKit
set_option maxHeartbeats 400000
set_option maxRecDepth 100000
set_option linter.unusedSimpArgs false
set_option linter.unusedVariables false

theorem DRd.setFar2 {w : World} {B n c g : Nat} {A : Option Addr} {xs : List Nat} (h : DRd w B A n c xs) (hg : B ≤ g) (x y : Value) : DRd ((w.setCell ⟨g, 0, none⟩ x).setCell ⟨g, 1, none⟩ y) B A n c xs :=
  h.keep fun p hp => by
    rw [World.cell?_setCell_other _ _ _ _ (fun e => by rw [← e] at hp; simp at hp; omega), World.cell?_setCell_other _ _ _ _ (fun e => by rw [← e] at hp; simp at hp; omega)]
theorem LRd.setFar2 {w : World} {B n c g : Nat} {A : Option Addr} {xs : List Nat} (h : LRd w B A n c xs) (hg : B ≤ g) (x y : Value) : LRd ((w.setCell ⟨g, 0, none⟩ x).setCell ⟨g, 1, none⟩ y) B A n c xs :=
  h.keep fun p hp => by
    rw [World.cell?_setCell_other _ _ _ _ (fun e => by rw [← e] at hp; simp at hp; omega), World.cell?_setCell_other _ _ _ _ (fun e => by rw [← e] at hp; simp at hp; omega)]
end Go.Proofs.YtflmcgoijofpdaaGreat

namespace Go.Proofs.YtflmcgoijofpdaaGreat
open Go.RowKit
set_option maxHeartbeats 400000
set_option maxRecDepth 100000
set_option linter.unusedSimpArgs false
set_option linter.unusedVariables false

/-- 60 limbs. -/
@[irreducible] def Top60 : Nat := 4294967296 ^ 60
theorem top60 {m : Nat} (h : m = 60) : Top60 = 4294967296 ^ m := by subst h; unfold Top60; rfl
end Go.Proofs.YtflmcgoijofpdaaGreat

namespace Go.Proofs.YtflmcgoijofpdaaGreat
open Go.RowKit
set_option maxHeartbeats 400000
set_option maxRecDepth 100000
set_option linter.unusedSimpArgs false
set_option linter.unusedVariables false

def R9 (W : World) (x y : Int) (s t : Value) (wx : World) : Prop :=
  ∃ g1 g2 m1 A1 k1 c1 x1 v1 m2 A2 k2 c2 x2 v2, s = .pointer (some ⟨g1, 0, none⟩) ∧ t = .pointer (some ⟨g2, 0, none⟩) ∧ Bk2 wx g1 (.bool m1) (.slice A1 k1 c1) ∧ Bk2 wx g2 (.bool m2) (.slice A2 k2 c2) ∧
    DRd wx wx.heap.size A1 k1 c1 x1 ∧ Hid (Rep 65536 x1 v1) ∧ Hid (sval m1 v1 = x) ∧ DRd wx wx.heap.size A2 k2 c2 x2 ∧ Hid (Rep 65536 x2 v2) ∧ Hid (sval m2 v2 = y) ∧ Below W.heap.size W wx
end Go.Proofs.YtflmcgoijofpdaaGreat

namespace Go.Proofs.YtflmcgoijofpdaaGreat
open Go.RowKit
set_option maxHeartbeats 400000
set_option maxRecDepth 100000
set_option linter.unusedSimpArgs false
set_option linter.unusedVariables false

end Go.Proofs.YtflmcgoijofpdaaGreat

namespace Go.Proofs.YtflmcgoijofpdaaGreat
open Go.RowKit
set_option maxHeartbeats 400000
set_option maxRecDepth 100000
set_option linter.unusedSimpArgs false
set_option linter.unusedVariables false

end Go.Proofs.YtflmcgoijofpdaaGreat

namespace Go.Proofs.YtflmcgoijofpdaaGreat
open Go.RowKit
set_option maxHeartbeats 400000
set_option maxRecDepth 100000
set_option linter.unusedSimpArgs false
set_option linter.unusedVariables false

end Go.Proofs.YtflmcgoijofpdaaGreat

namespace Go.Proofs.YtflmcgoijofpdaaGreat
open Go.RowKit
set_option maxHeartbeats 400000
set_option maxRecDepth 100000
set_option linter.unusedSimpArgs false
set_option linter.unusedVariables false

end Go.Proofs.YtflmcgoijofpdaaGreat

namespace Go.Proofs.YtflmcgoijofpdaaGreat
open Go.RowKit
set_option maxHeartbeats 400000
set_option maxRecDepth 100000
set_option linter.unusedSimpArgs false
set_option linter.unusedVariables false

theorem Bk2.grown {w w' : World} {s g : Nat} {u v : Value} (h : Bk2 w s u v) (hg : w.grownBy w' (some g)) (hne : s ≠ g) : Bk2 w' s u v := by
  have hb := hg.block s h.lt (fun e => hne (by injection e))
  exact ⟨(World.cell?_of_block (w := w) hb).trans h.c0, (World.cell?_of_block (w := w) hb).trans h.c1, (World.frozen?_of_block (w := w) hb).trans h.z0, (World.frozen?_of_block (w := w) hb).trans h.z1, Nat.lt_of_lt_of_le h.lt hg.size⟩
theorem run_make (fn : Fn) (first cap : Array Value) (w : World) : (Instr.makeFunc fn first cap).run Tryz.prog w = .ok (.func fn first cap) w := rfl
end Go.Proofs.YtflmcgoijofpdaaGreat

namespace Go.Proofs.YtflmcgoijofpdaaGreat
open Go.RowKit
set_option maxHeartbeats 400000
set_option maxRecDepth 100000
set_option linter.unusedSimpArgs false
set_option linter.unusedVariables false

end Go.Proofs.YtflmcgoijofpdaaGreat

namespace Go.Proofs.YtflmcgoijofpdaaGreat
open Go.RowKit
set_option maxHeartbeats 400000
set_option maxRecDepth 100000
set_option linter.unusedSimpArgs false
set_option linter.unusedVariables false

end Go.Proofs.YtflmcgoijofpdaaGreat

namespace Go.Proofs.YtflmcgoijofpdaaGreat
open Go.RowKit
set_option maxHeartbeats 400000
set_option maxRecDepth 100000
set_option linter.unusedSimpArgs false
set_option linter.unusedVariables false

theorem Bk2.next {w w' : World} {g : Nat} {u v : Value} (h : Bk2 w g u v) (hb : Below w.heap.size w w') : Bk2 w' g u v := h.below hb h.lt
end Go.Proofs.YtflmcgoijofpdaaGreat

namespace Go.Proofs.YtflmcgoijofpdaaGreat
open Go.RowKit
set_option maxHeartbeats 400000
set_option maxRecDepth 100000
set_option linter.unusedSimpArgs false
set_option linter.unusedVariables false

end Go.Proofs.YtflmcgoijofpdaaGreat

namespace Go.Proofs.YtflmcgoijofpdaaGreat
open Go.RowKit
set_option maxHeartbeats 400000
set_option maxRecDepth 100000
set_option linter.unusedSimpArgs false
set_option linter.unusedVariables false

end Go.Proofs.YtflmcgoijofpdaaGreat

namespace Go.Proofs.YtflmcgoijofpdaaGreat
open Go.RowKit
set_option maxHeartbeats 400000
set_option maxRecDepth 100000
set_option linter.unusedSimpArgs false
set_option linter.unusedVariables false

def FlPost (x y : Int) (w : World) (e : Ending) (w' : World) : Prop :=
  ∃ m A k c zs v n D l d ys u q r, e = .returned (.tuple #[intv m A k c, intv n D l d]) ∧ DRd w' w'.heap.size A k c zs ∧ Rep 65536 zs v ∧ sval m v = q ∧ DRd w' w'.heap.size D l d ys ∧ Rep 65536 ys u ∧ sval n u = r ∧ FloorOf x y q r ∧ Below w.heap.size w w'
set_option maxHeartbeats 4000000 in
theorem floor_ff (w : World) (B : Nat) (A D : Option Addr) (k l c d p v : Nat) (xs ys : List Nat) (H : DRd w B A k c xs) (K : DRd w B D l d ys) (hB : B ≤ w.heap.size) (hx : Hid (Rep 65536 xs p)) (hy : Hid (Rep 65536 ys v)) (hv : 0 < v) (hk : k ≤ 100000) (hl : l ≤ 100000)  :
    Calls Tryz.prog 83 #[intv false A k c, intv false D l d] w (FlPost (sval false p) (sval false v) w) := by
  have E : Below w.heap.size w w := Below.refl _ _
  go_enter Tryz.func83, Tryz.ntmps83
  go_wp2_with fail
  obtain ⟨V0, hV0⟩ : ∃ V0 : World, V0 = ((((w.alloc (.cells #[.bool false, .slice A k c] 40)).alloc (.cells #[.bool false, .slice D l d] 40)).alloc (.cells #[.bool false, .slice none 0 0] 40)).alloc (.cells #[.bool false, .slice none 0 0] 40)) := ⟨_, rfl⟩
  have bV0 : Below w.heap.size w V0 := by rw [hV0]; (repeat (first | with_reducible exact Below.refl _ _ | with_reducible refine Below.drew ?_ | with_reducible refine below_drewN ?_ _ | with_reducible refine Below.setCell ?_ (by first | (simp; done) | (simp; omega) | omega) _ | with_reducible refine Below.alloc ?_ (by first | (simp; done) | (simp; omega) | omega) _))
  have zV0 : w.heap.size + 4 ≤ V0.heap.size := by rw [hV0]; simp
  have PA : Bk2 V0 (w.heap.size) (.bool false) (.slice A k c) := by rw [hV0]; exact ((((Bk2.newAt _ _ (by simp) _ _ _).alloc _).alloc _).alloc _)
  have PB : Bk2 V0 (w.heap.size + 1) (.bool false) (.slice D l d) := by rw [hV0]; exact (((Bk2.newAt _ _ (by simp) _ _ _).alloc _).alloc _)
  have P1 : Bk2 V0 (w.heap.size + 2) (.bool false) (.slice none 0 0) := by rw [hV0]; exact ((Bk2.newAt _ _ (by simp) _ _ _).alloc _)
  have P2 : Bk2 V0 (w.heap.size + 3) (.bool false) (.slice none 0 0) := by rw [hV0]; exact (Bk2.newAt _ _ (by simp) _ _ _)
  rw [← hV0]
  clear hV0
  replace E := E.trans (bV0.mono E.size)
  replace H := H.below bV0 (by omega)
  replace K := K.below bV0 (by omega)
  clear bV0
  (with_reducible refine (divideD_any _ B A D k l c d p v xs ys H K (by omega) hx.out hy.out hv hk hl).mono ?_)
  rintro e w1 ⟨A1, k1, c1, x1, A2, k2, c2, x2, rfl, hd1, hr1, hd2, hr2, hb1⟩
  have sw1 := hb1.size
  replace E := E.trans (hb1.mono E.size)
  replace H := H.below hb1 (by omega)
  replace K := K.below hb1 (by omega)
  replace PA := PA.below hb1 PA.lt
  replace PB := PB.below hb1 PB.lt
  replace P1 := P1.below hb1 P1.lt
  replace P2 := P2.below hb1 P2.lt
  clear hb1
  have R1 := Lib.hid hr1
  have R2 := Lib.hid hr2
  clear hr1 hr2
  have kc1 := hd1.cap
  have kc2 := hd2.cap
  have PA0 := PA.c0
  have PA1 := PA.c1
  have PAl := PA.lt
  have PB0 := PB.c0
  have PB1 := PB.c1
  have PBl := PB.lt
  have P10 := P1.c0
  have P11 := P1.c1
  have P1l := P1.lt
  have P1z0 := P1.z0
  have P1z1 := P1.z1
  have P20 := P2.c0
  have P21 := P2.c1
  have P2l := P2.lt
  have P2z0 := P2.z0
  have P2z1 := P2.z1
  go_upto_region 4 with fail
  go_region
  all_goals (go_wp2_with fail)
  clear PA0 PA1 PAl PB0 PB1 PBl P10 P11 P1l P1z0 P1z1 P20 P21 P2l P2z0 P2z1
  obtain ⟨U9P1, hU9P1⟩ : ∃ U9P1 : World, U9P1 = ((w1.setCell ⟨w.heap.size + 2, 0, none⟩ (.bool false)).setCell ⟨w.heap.size + 2, 1, none⟩ (.slice A1 k1 c1)) := ⟨_, rfl⟩
  have zU9P1 : U9P1.heap.size = w1.heap.size := by rw [hU9P1]; simp [World.setCell]
  replace E : Below w.heap.size w U9P1 := by rw [hU9P1]; exact (E.setCell (by first | (simp; done) | (simp; omega)) _).setCell (by first | (simp; done) | (simp; omega)) _
  replace H : DRd U9P1 (B) A k c xs := by rw [hU9P1]; first | exact H.setFar2 (by omega) _ _ | exact H.setBD P1 (by simp) (by simp) _ _
  replace K : DRd U9P1 (B) D l d ys := by rw [hU9P1]; first | exact K.setFar2 (by omega) _ _ | exact K.setBD P1 (by simp) (by simp) _ _
  replace PA : Bk2 U9P1 (w.heap.size) (.bool false) (.slice A k c) := by rw [hU9P1]; exact PA.far2 (by omega) _ _
  replace PB : Bk2 U9P1 (w.heap.size + 1) (.bool false) (.slice D l d) := by rw [hU9P1]; exact PB.far2 (by omega) _ _
  replace P2 : Bk2 U9P1 (w.heap.size + 3) (.bool false) (.slice none 0 0) := by rw [hU9P1]; exact P2.far2 (by omega) _ _
  replace hd1 : DRd U9P1 (w1.heap.size) A1 k1 c1 x1 := by rw [hU9P1]; first | exact hd1.setFar2 (by omega) _ _ | exact hd1.setBD P1 (by simp) (by simp) _ _
  replace hd2 : DRd U9P1 (w1.heap.size) A2 k2 c2 x2 := by rw [hU9P1]; first | exact hd2.setFar2 (by omega) _ _ | exact hd2.setBD P1 (by simp) (by simp) _ _
  replace P1 : Bk2 U9P1 (w.heap.size + 2) (.bool false) (.slice A1 k1 c1) := by rw [hU9P1]; exact P1.set _ _
  rw [← hU9P1]
  clear hU9P1
  have zU9P1' := Nat.le_of_eq zU9P1
  replace zU9P1 := Nat.le_of_eq zU9P1.symm
  obtain ⟨U9P2, hU9P2⟩ : ∃ U9P2 : World, U9P2 = ((U9P1.setCell ⟨w.heap.size + 3, 0, none⟩ (.bool false)).setCell ⟨w.heap.size + 3, 1, none⟩ (.slice A2 k2 c2)) := ⟨_, rfl⟩
  have zU9P2 : U9P2.heap.size = U9P1.heap.size := by rw [hU9P2]; simp [World.setCell]
  replace E : Below w.heap.size w U9P2 := by rw [hU9P2]; exact (E.setCell (by first | (simp; done) | (simp; omega)) _).setCell (by first | (simp; done) | (simp; omega)) _
  replace H : DRd U9P2 (B) A k c xs := by rw [hU9P2]; first | exact H.setFar2 (by omega) _ _ | exact H.setBD P2 (by simp) (by simp) _ _
  replace K : DRd U9P2 (B) D l d ys := by rw [hU9P2]; first | exact K.setFar2 (by omega) _ _ | exact K.setBD P2 (by simp) (by simp) _ _
  replace PA : Bk2 U9P2 (w.heap.size) (.bool false) (.slice A k c) := by rw [hU9P2]; exact PA.far2 (by omega) _ _
  replace PB : Bk2 U9P2 (w.heap.size + 1) (.bool false) (.slice D l d) := by rw [hU9P2]; exact PB.far2 (by omega) _ _
  replace P1 : Bk2 U9P2 (w.heap.size + 2) (.bool false) (.slice A1 k1 c1) := by rw [hU9P2]; exact P1.far2 (by omega) _ _
  replace hd1 : DRd U9P2 (w1.heap.size) A1 k1 c1 x1 := by rw [hU9P2]; first | exact hd1.setFar2 (by omega) _ _ | exact hd1.setBD P2 (by simp) (by simp) _ _
  replace hd2 : DRd U9P2 (w1.heap.size) A2 k2 c2 x2 := by rw [hU9P2]; first | exact hd2.setFar2 (by omega) _ _ | exact hd2.setBD P2 (by simp) (by simp) _ _
  replace P2 : Bk2 U9P2 (w.heap.size + 3) (.bool false) (.slice A2 k2 c2) := by rw [hU9P2]; exact P2.set _ _
  rw [← hU9P2]
  clear hU9P2
  have zU9P2' := Nat.le_of_eq zU9P2
  replace zU9P2 := Nat.le_of_eq zU9P2.symm
  have f0 := (P1.drew).c0
  have f1 := (P1.drew).c1
  have r0 := (P2.drew).c0
  have r1 := (P2.drew).c1
  refine bodyPost_ret (v := .tuple #[intv false A1 k1 c1, intv false A2 k2 c2]) (by simp [results, Tryz.results83, go_sem, f0, f1, r0, r1]) rfl ⟨_, _, _, _, _, _, _, _, _, _, _, _, _, _, rfl, ((hd1.keep (w' := World.drew U9P2) (fun _ _ => rfl)).more (by show w1.heap.size ≤ U9P2.heap.size; omega)), R1.out, rfl, ((hd2.keep (w' := World.drew U9P2) (fun _ _ => rfl)).more (by show w1.heap.size ≤ U9P2.heap.size; omega)), R2.out, rfl, floor_same hv, Below.drew E⟩
set_option maxHeartbeats 4000000 in
theorem floor_tt (w : World) (B : Nat) (A D : Option Addr) (k l c d p v : Nat) (xs ys : List Nat) (H : DRd w B A k c xs) (K : DRd w B D l d ys) (hB : B ≤ w.heap.size) (hx : Hid (Rep 65536 xs p)) (hy : Hid (Rep 65536 ys v)) (hv : 0 < v) (hk : k ≤ 100000) (hl : l ≤ 100000)  :
    Calls Tryz.prog 83 #[intv true A k c, intv true D l d] w (FlPost (sval true p) (sval true v) w) := by
  have E : Below w.heap.size w w := Below.refl _ _
  go_enter Tryz.func83, Tryz.ntmps83
  go_wp2_with fail
  obtain ⟨V0, hV0⟩ : ∃ V0 : World, V0 = ((((w.alloc (.cells #[.bool true, .slice A k c] 40)).alloc (.cells #[.bool true, .slice D l d] 40)).alloc (.cells #[.bool false, .slice none 0 0] 40)).alloc (.cells #[.bool false, .slice none 0 0] 40)) := ⟨_, rfl⟩
  have bV0 : Below w.heap.size w V0 := by rw [hV0]; (repeat (first | with_reducible exact Below.refl _ _ | with_reducible refine Below.drew ?_ | with_reducible refine below_drewN ?_ _ | with_reducible refine Below.setCell ?_ (by first | (simp; done) | (simp; omega) | omega) _ | with_reducible refine Below.alloc ?_ (by first | (simp; done) | (simp; omega) | omega) _))
  have zV0 : w.heap.size + 4 ≤ V0.heap.size := by rw [hV0]; simp
  have PA : Bk2 V0 (w.heap.size) (.bool true) (.slice A k c) := by rw [hV0]; exact ((((Bk2.newAt _ _ (by simp) _ _ _).alloc _).alloc _).alloc _)
  have PB : Bk2 V0 (w.heap.size + 1) (.bool true) (.slice D l d) := by rw [hV0]; exact (((Bk2.newAt _ _ (by simp) _ _ _).alloc _).alloc _)
  have P1 : Bk2 V0 (w.heap.size + 2) (.bool false) (.slice none 0 0) := by rw [hV0]; exact ((Bk2.newAt _ _ (by simp) _ _ _).alloc _)
  have P2 : Bk2 V0 (w.heap.size + 3) (.bool false) (.slice none 0 0) := by rw [hV0]; exact (Bk2.newAt _ _ (by simp) _ _ _)
  rw [← hV0]
  clear hV0
  replace E := E.trans (bV0.mono E.size)
  replace H := H.below bV0 (by omega)
  replace K := K.below bV0 (by omega)
  clear bV0
  (with_reducible refine (divideD_any _ B A D k l c d p v xs ys H K (by omega) hx.out hy.out hv hk hl).mono ?_)
  rintro e w1 ⟨A1, k1, c1, x1, A2, k2, c2, x2, rfl, hd1, hr1, hd2, hr2, hb1⟩
  have sw1 := hb1.size
  replace E := E.trans (hb1.mono E.size)
  replace H := H.below hb1 (by omega)
  replace K := K.below hb1 (by omega)
  replace PA := PA.below hb1 PA.lt
  replace PB := PB.below hb1 PB.lt
  replace P1 := P1.below hb1 P1.lt
  replace P2 := P2.below hb1 P2.lt
  clear hb1
  have R1 := Lib.hid hr1
  have R2 := Lib.hid hr2
  clear hr1 hr2
  have kc1 := hd1.cap
  have kc2 := hd2.cap
  have PA0 := PA.c0
  have PA1 := PA.c1
  have PAl := PA.lt
  have PB0 := PB.c0
  have PB1 := PB.c1
  have PBl := PB.lt
  have P10 := P1.c0
  have P11 := P1.c1
  have P1l := P1.lt
  have P1z0 := P1.z0
  have P1z1 := P1.z1
  have P20 := P2.c0
  have P21 := P2.c1
  have P2l := P2.lt
  have P2z0 := P2.z0
  have P2z1 := P2.z1
  go_upto_region 4 with fail
  go_region
  all_goals (go_wp2_with fail)
  clear PA0 PA1 PAl PB0 PB1 PBl P10 P11 P1l P1z0 P1z1 P20 P21 P2l P2z0 P2z1
  obtain ⟨U9P1, hU9P1⟩ : ∃ U9P1 : World, U9P1 = ((w1.setCell ⟨w.heap.size + 2, 0, none⟩ (.bool false)).setCell ⟨w.heap.size + 2, 1, none⟩ (.slice A1 k1 c1)) := ⟨_, rfl⟩
  have zU9P1 : U9P1.heap.size = w1.heap.size := by rw [hU9P1]; simp [World.setCell]
  replace E : Below w.heap.size w U9P1 := by rw [hU9P1]; exact (E.setCell (by first | (simp; done) | (simp; omega)) _).setCell (by first | (simp; done) | (simp; omega)) _
  replace H : DRd U9P1 (B) A k c xs := by rw [hU9P1]; first | exact H.setFar2 (by omega) _ _ | exact H.setBD P1 (by simp) (by simp) _ _
  replace K : DRd U9P1 (B) D l d ys := by rw [hU9P1]; first | exact K.setFar2 (by omega) _ _ | exact K.setBD P1 (by simp) (by simp) _ _
  replace PA : Bk2 U9P1 (w.heap.size) (.bool true) (.slice A k c) := by rw [hU9P1]; exact PA.far2 (by omega) _ _
  replace PB : Bk2 U9P1 (w.heap.size + 1) (.bool true) (.slice D l d) := by rw [hU9P1]; exact PB.far2 (by omega) _ _
  replace P2 : Bk2 U9P1 (w.heap.size + 3) (.bool false) (.slice none 0 0) := by rw [hU9P1]; exact P2.far2 (by omega) _ _
  replace hd1 : DRd U9P1 (w1.heap.size) A1 k1 c1 x1 := by rw [hU9P1]; first | exact hd1.setFar2 (by omega) _ _ | exact hd1.setBD P1 (by simp) (by simp) _ _
  replace hd2 : DRd U9P1 (w1.heap.size) A2 k2 c2 x2 := by rw [hU9P1]; first | exact hd2.setFar2 (by omega) _ _ | exact hd2.setBD P1 (by simp) (by simp) _ _
  replace P1 : Bk2 U9P1 (w.heap.size + 2) (.bool false) (.slice A1 k1 c1) := by rw [hU9P1]; exact P1.set _ _
  rw [← hU9P1]
  clear hU9P1
  have zU9P1' := Nat.le_of_eq zU9P1
  replace zU9P1 := Nat.le_of_eq zU9P1.symm
  obtain ⟨U9P2, hU9P2⟩ : ∃ U9P2 : World, U9P2 = ((U9P1.setCell ⟨w.heap.size + 3, 0, none⟩ (.bool true)).setCell ⟨w.heap.size + 3, 1, none⟩ (.slice A2 k2 c2)) := ⟨_, rfl⟩
  have zU9P2 : U9P2.heap.size = U9P1.heap.size := by rw [hU9P2]; simp [World.setCell]
  replace E : Below w.heap.size w U9P2 := by rw [hU9P2]; exact (E.setCell (by first | (simp; done) | (simp; omega)) _).setCell (by first | (simp; done) | (simp; omega)) _
  replace H : DRd U9P2 (B) A k c xs := by rw [hU9P2]; first | exact H.setFar2 (by omega) _ _ | exact H.setBD P2 (by simp) (by simp) _ _
  replace K : DRd U9P2 (B) D l d ys := by rw [hU9P2]; first | exact K.setFar2 (by omega) _ _ | exact K.setBD P2 (by simp) (by simp) _ _
  replace PA : Bk2 U9P2 (w.heap.size) (.bool true) (.slice A k c) := by rw [hU9P2]; exact PA.far2 (by omega) _ _
  replace PB : Bk2 U9P2 (w.heap.size + 1) (.bool true) (.slice D l d) := by rw [hU9P2]; exact PB.far2 (by omega) _ _
  replace P1 : Bk2 U9P2 (w.heap.size + 2) (.bool false) (.slice A1 k1 c1) := by rw [hU9P2]; exact P1.far2 (by omega) _ _
  replace hd1 : DRd U9P2 (w1.heap.size) A1 k1 c1 x1 := by rw [hU9P2]; first | exact hd1.setFar2 (by omega) _ _ | exact hd1.setBD P2 (by simp) (by simp) _ _
  replace hd2 : DRd U9P2 (w1.heap.size) A2 k2 c2 x2 := by rw [hU9P2]; first | exact hd2.setFar2 (by omega) _ _ | exact hd2.setBD P2 (by simp) (by simp) _ _
  replace P2 : Bk2 U9P2 (w.heap.size + 3) (.bool true) (.slice A2 k2 c2) := by rw [hU9P2]; exact P2.set _ _
  rw [← hU9P2]
  clear hU9P2
  have zU9P2' := Nat.le_of_eq zU9P2
  replace zU9P2 := Nat.le_of_eq zU9P2.symm
  have f0 := (P1.drew).c0
  have f1 := (P1.drew).c1
  have r0 := (P2.drew).c0
  have r1 := (P2.drew).c1
  refine bodyPost_ret (v := .tuple #[intv false A1 k1 c1, intv true A2 k2 c2]) (by simp [results, Tryz.results83, go_sem, f0, f1, r0, r1]) rfl ⟨_, _, _, _, _, _, _, _, _, _, _, _, _, _, rfl, ((hd1.keep (w' := World.drew U9P2) (fun _ _ => rfl)).more (by show w1.heap.size ≤ U9P2.heap.size; omega)), R1.out, rfl, ((hd2.keep (w' := World.drew U9P2) (fun _ _ => rfl)).more (by show w1.heap.size ≤ U9P2.heap.size; omega)), R2.out, rfl, floor_same hv, Below.drew E⟩
set_option maxHeartbeats 4000000 in
theorem floor_zf (w : World) (B : Nat) (A D : Option Addr) (k l c d p v : Nat) (xs ys : List Nat) (H : DRd w B A k c xs) (K : DRd w B D l d ys) (hB : B ≤ w.heap.size) (hx : Hid (Rep 65536 xs p)) (hy : Hid (Rep 65536 ys v)) (hv : 0 < v) (hk : k ≤ 100000) (hl : l ≤ 100000) (h0 : p % v = 0) :
    Calls Tryz.prog 83 #[intv false A k c, intv true D l d] w (FlPost (sval false p) (sval true v) w) := by
  have E : Below w.heap.size w w := Below.refl _ _
  go_enter Tryz.func83, Tryz.ntmps83
  go_wp2_with fail
  obtain ⟨V0, hV0⟩ : ∃ V0 : World, V0 = ((((w.alloc (.cells #[.bool false, .slice A k c] 40)).alloc (.cells #[.bool true, .slice D l d] 40)).alloc (.cells #[.bool false, .slice none 0 0] 40)).alloc (.cells #[.bool false, .slice none 0 0] 40)) := ⟨_, rfl⟩
  have bV0 : Below w.heap.size w V0 := by rw [hV0]; (repeat (first | with_reducible exact Below.refl _ _ | with_reducible refine Below.drew ?_ | with_reducible refine below_drewN ?_ _ | with_reducible refine Below.setCell ?_ (by first | (simp; done) | (simp; omega) | omega) _ | with_reducible refine Below.alloc ?_ (by first | (simp; done) | (simp; omega) | omega) _))
  have zV0 : w.heap.size + 4 ≤ V0.heap.size := by rw [hV0]; simp
  have PA : Bk2 V0 (w.heap.size) (.bool false) (.slice A k c) := by rw [hV0]; exact ((((Bk2.newAt _ _ (by simp) _ _ _).alloc _).alloc _).alloc _)
  have PB : Bk2 V0 (w.heap.size + 1) (.bool true) (.slice D l d) := by rw [hV0]; exact (((Bk2.newAt _ _ (by simp) _ _ _).alloc _).alloc _)
  have P1 : Bk2 V0 (w.heap.size + 2) (.bool false) (.slice none 0 0) := by rw [hV0]; exact ((Bk2.newAt _ _ (by simp) _ _ _).alloc _)
  have P2 : Bk2 V0 (w.heap.size + 3) (.bool false) (.slice none 0 0) := by rw [hV0]; exact (Bk2.newAt _ _ (by simp) _ _ _)
  rw [← hV0]
  clear hV0
  replace E := E.trans (bV0.mono E.size)
  replace H := H.below bV0 (by omega)
  replace K := K.below bV0 (by omega)
  clear bV0
  (with_reducible refine (divideD_any _ B A D k l c d p v xs ys H K (by omega) hx.out hy.out hv hk hl).mono ?_)
  rintro e w1 ⟨A1, k1, c1, x1, A2, k2, c2, x2, rfl, hd1, hr1, hd2, hr2, hb1⟩
  have sw1 := hb1.size
  replace E := E.trans (hb1.mono E.size)
  replace H := H.below hb1 (by omega)
  replace K := K.below hb1 (by omega)
  replace PA := PA.below hb1 PA.lt
  replace PB := PB.below hb1 PB.lt
  replace P1 := P1.below hb1 P1.lt
  replace P2 := P2.below hb1 P2.lt
  clear hb1
  have R1 := Lib.hid hr1
  have R2 := Lib.hid hr2
  clear hr1 hr2
  have kc1 := hd1.cap
  have kc2 := hd2.cap
  have hz : p % v = 0 := h0
  have hk2 : k2 = 0 := (rep_iff R2.out hd2.len.out).2 hz
  subst hk2
  have PA0 := PA.c0
  have PA1 := PA.c1
  have PAl := PA.lt
  have PB0 := PB.c0
  have PB1 := PB.c1
  have PBl := PB.lt
  have P10 := P1.c0
  have P11 := P1.c1
  have P1l := P1.lt
  have P1z0 := P1.z0
  have P1z1 := P1.z1
  have P20 := P2.c0
  have P21 := P2.c1
  have P2l := P2.lt
  have P2z0 := P2.z0
  have P2z1 := P2.z1
  go_upto_region 4 with fail
  go_region
  all_goals (go_wp2_with fail)
  clear PA0 PA1 PAl PB0 PB1 PBl P10 P11 P1l P1z0 P1z1 P20 P21 P2l P2z0 P2z1
  obtain ⟨U9P1, hU9P1⟩ : ∃ U9P1 : World, U9P1 = ((w1.setCell ⟨w.heap.size + 2, 0, none⟩ (.bool true)).setCell ⟨w.heap.size + 2, 1, none⟩ (.slice A1 k1 c1)) := ⟨_, rfl⟩
  have zU9P1 : U9P1.heap.size = w1.heap.size := by rw [hU9P1]; simp [World.setCell]
  replace E : Below w.heap.size w U9P1 := by rw [hU9P1]; exact (E.setCell (by first | (simp; done) | (simp; omega)) _).setCell (by first | (simp; done) | (simp; omega)) _
  replace H : DRd U9P1 (B) A k c xs := by rw [hU9P1]; first | exact H.setFar2 (by omega) _ _ | exact H.setBD P1 (by simp) (by simp) _ _
  replace K : DRd U9P1 (B) D l d ys := by rw [hU9P1]; first | exact K.setFar2 (by omega) _ _ | exact K.setBD P1 (by simp) (by simp) _ _
  replace PA : Bk2 U9P1 (w.heap.size) (.bool false) (.slice A k c) := by rw [hU9P1]; exact PA.far2 (by omega) _ _
  replace PB : Bk2 U9P1 (w.heap.size + 1) (.bool true) (.slice D l d) := by rw [hU9P1]; exact PB.far2 (by omega) _ _
  replace P2 : Bk2 U9P1 (w.heap.size + 3) (.bool false) (.slice none 0 0) := by rw [hU9P1]; exact P2.far2 (by omega) _ _
  replace hd1 : DRd U9P1 (w1.heap.size) A1 k1 c1 x1 := by rw [hU9P1]; first | exact hd1.setFar2 (by omega) _ _ | exact hd1.setBD P1 (by simp) (by simp) _ _
  replace hd2 : DRd U9P1 (w1.heap.size) A2 0 c2 x2 := by rw [hU9P1]; first | exact hd2.setFar2 (by omega) _ _ | exact hd2.setBD P1 (by simp) (by simp) _ _
  replace P1 : Bk2 U9P1 (w.heap.size + 2) (.bool true) (.slice A1 k1 c1) := by rw [hU9P1]; exact P1.set _ _
  rw [← hU9P1]
  clear hU9P1
  have zU9P1' := Nat.le_of_eq zU9P1
  replace zU9P1 := Nat.le_of_eq zU9P1.symm
  obtain ⟨U9P2, hU9P2⟩ : ∃ U9P2 : World, U9P2 = ((U9P1.setCell ⟨w.heap.size + 3, 0, none⟩ (.bool true)).setCell ⟨w.heap.size + 3, 1, none⟩ (.slice A2 0 c2)) := ⟨_, rfl⟩
  have zU9P2 : U9P2.heap.size = U9P1.heap.size := by rw [hU9P2]; simp [World.setCell]
  replace E : Below w.heap.size w U9P2 := by rw [hU9P2]; exact (E.setCell (by first | (simp; done) | (simp; omega)) _).setCell (by first | (simp; done) | (simp; omega)) _
  replace H : DRd U9P2 (B) A k c xs := by rw [hU9P2]; first | exact H.setFar2 (by omega) _ _ | exact H.setBD P2 (by simp) (by simp) _ _
  replace K : DRd U9P2 (B) D l d ys := by rw [hU9P2]; first | exact K.setFar2 (by omega) _ _ | exact K.setBD P2 (by simp) (by simp) _ _
  replace PA : Bk2 U9P2 (w.heap.size) (.bool false) (.slice A k c) := by rw [hU9P2]; exact PA.far2 (by omega) _ _
  replace PB : Bk2 U9P2 (w.heap.size + 1) (.bool true) (.slice D l d) := by rw [hU9P2]; exact PB.far2 (by omega) _ _
  replace P1 : Bk2 U9P2 (w.heap.size + 2) (.bool true) (.slice A1 k1 c1) := by rw [hU9P2]; exact P1.far2 (by omega) _ _
  replace hd1 : DRd U9P2 (w1.heap.size) A1 k1 c1 x1 := by rw [hU9P2]; first | exact hd1.setFar2 (by omega) _ _ | exact hd1.setBD P2 (by simp) (by simp) _ _
  replace hd2 : DRd U9P2 (w1.heap.size) A2 0 c2 x2 := by rw [hU9P2]; first | exact hd2.setFar2 (by omega) _ _ | exact hd2.setBD P2 (by simp) (by simp) _ _
  replace P2 : Bk2 U9P2 (w.heap.size + 3) (.bool true) (.slice A2 0 c2) := by rw [hU9P2]; exact P2.set _ _
  rw [← hU9P2]
  clear hU9P2
  have zU9P2' := Nat.le_of_eq zU9P2
  replace zU9P2 := Nat.le_of_eq zU9P2.symm
  have f0 := (P1.drew).c0
  have f1 := (P1.drew).c1
  have r0 := (P2.drew).c0
  have r1 := (P2.drew).c1
  refine bodyPost_ret (v := .tuple #[intv true A1 k1 c1, intv true A2 0 c2]) (by simp [results, Tryz.results83, go_sem, f0, f1, r0, r1]) rfl ⟨_, _, _, _, _, _, _, _, _, _, _, _, _, _, rfl, ((hd1.keep (w' := World.drew U9P2) (fun _ _ => rfl)).more (by show w1.heap.size ≤ U9P2.heap.size; omega)), R1.out, rfl, ((hd2.keep (w' := World.drew U9P2) (fun _ _ => rfl)).more (by show w1.heap.size ≤ U9P2.heap.size; omega)), R2.out, rfl, (by have := floor_zero (m := false) (n := true) hv hz (by decide); rw [hz]; exact this), Below.drew E⟩
set_option maxHeartbeats 4000000 in
theorem floor_zt (w : World) (B : Nat) (A D : Option Addr) (k l c d p v : Nat) (xs ys : List Nat) (H : DRd w B A k c xs) (K : DRd w B D l d ys) (hB : B ≤ w.heap.size) (hx : Hid (Rep 65536 xs p)) (hy : Hid (Rep 65536 ys v)) (hv : 0 < v) (hk : k ≤ 100000) (hl : l ≤ 100000) (h0 : p % v = 0) :
    Calls Tryz.prog 83 #[intv true A k c, intv false D l d] w (FlPost (sval true p) (sval false v) w) := by
  have E : Below w.heap.size w w := Below.refl _ _
  go_enter Tryz.func83, Tryz.ntmps83
  go_wp2_with fail
  obtain ⟨V0, hV0⟩ : ∃ V0 : World, V0 = ((((w.alloc (.cells #[.bool true, .slice A k c] 40)).alloc (.cells #[.bool false, .slice D l d] 40)).alloc (.cells #[.bool false, .slice none 0 0] 40)).alloc (.cells #[.bool false, .slice none 0 0] 40)) := ⟨_, rfl⟩
  have bV0 : Below w.heap.size w V0 := by rw [hV0]; (repeat (first | with_reducible exact Below.refl _ _ | with_reducible refine Below.drew ?_ | with_reducible refine below_drewN ?_ _ | with_reducible refine Below.setCell ?_ (by first | (simp; done) | (simp; omega) | omega) _ | with_reducible refine Below.alloc ?_ (by first | (simp; done) | (simp; omega) | omega) _))
  have zV0 : w.heap.size + 4 ≤ V0.heap.size := by rw [hV0]; simp
  have PA : Bk2 V0 (w.heap.size) (.bool true) (.slice A k c) := by rw [hV0]; exact ((((Bk2.newAt _ _ (by simp) _ _ _).alloc _).alloc _).alloc _)
  have PB : Bk2 V0 (w.heap.size + 1) (.bool false) (.slice D l d) := by rw [hV0]; exact (((Bk2.newAt _ _ (by simp) _ _ _).alloc _).alloc _)
  have P1 : Bk2 V0 (w.heap.size + 2) (.bool false) (.slice none 0 0) := by rw [hV0]; exact ((Bk2.newAt _ _ (by simp) _ _ _).alloc _)
  have P2 : Bk2 V0 (w.heap.size + 3) (.bool false) (.slice none 0 0) := by rw [hV0]; exact (Bk2.newAt _ _ (by simp) _ _ _)
  rw [← hV0]
  clear hV0
  replace E := E.trans (bV0.mono E.size)
  replace H := H.below bV0 (by omega)
  replace K := K.below bV0 (by omega)
  clear bV0
  (with_reducible refine (divideD_any _ B A D k l c d p v xs ys H K (by omega) hx.out hy.out hv hk hl).mono ?_)
  rintro e w1 ⟨A1, k1, c1, x1, A2, k2, c2, x2, rfl, hd1, hr1, hd2, hr2, hb1⟩
  have sw1 := hb1.size
  replace E := E.trans (hb1.mono E.size)
  replace H := H.below hb1 (by omega)
  replace K := K.below hb1 (by omega)
  replace PA := PA.below hb1 PA.lt
  replace PB := PB.below hb1 PB.lt
  replace P1 := P1.below hb1 P1.lt
  replace P2 := P2.below hb1 P2.lt
  clear hb1
  have R1 := Lib.hid hr1
  have R2 := Lib.hid hr2
  clear hr1 hr2
  have kc1 := hd1.cap
  have kc2 := hd2.cap
  have hz : p % v = 0 := h0
  have hk2 : k2 = 0 := (rep_iff R2.out hd2.len.out).2 hz
  subst hk2
  have PA0 := PA.c0
  have PA1 := PA.c1
  have PAl := PA.lt
  have PB0 := PB.c0
  have PB1 := PB.c1
  have PBl := PB.lt
  have P10 := P1.c0
  have P11 := P1.c1
  have P1l := P1.lt
  have P1z0 := P1.z0
  have P1z1 := P1.z1
  have P20 := P2.c0
  have P21 := P2.c1
  have P2l := P2.lt
  have P2z0 := P2.z0
  have P2z1 := P2.z1
  go_upto_region 4 with fail
  go_region
  all_goals (go_wp2_with fail)
  clear PA0 PA1 PAl PB0 PB1 PBl P10 P11 P1l P1z0 P1z1 P20 P21 P2l P2z0 P2z1
  obtain ⟨U9P1, hU9P1⟩ : ∃ U9P1 : World, U9P1 = ((w1.setCell ⟨w.heap.size + 2, 0, none⟩ (.bool true)).setCell ⟨w.heap.size + 2, 1, none⟩ (.slice A1 k1 c1)) := ⟨_, rfl⟩
  have zU9P1 : U9P1.heap.size = w1.heap.size := by rw [hU9P1]; simp [World.setCell]
  replace E : Below w.heap.size w U9P1 := by rw [hU9P1]; exact (E.setCell (by first | (simp; done) | (simp; omega)) _).setCell (by first | (simp; done) | (simp; omega)) _
  replace H : DRd U9P1 (B) A k c xs := by rw [hU9P1]; first | exact H.setFar2 (by omega) _ _ | exact H.setBD P1 (by simp) (by simp) _ _
  replace K : DRd U9P1 (B) D l d ys := by rw [hU9P1]; first | exact K.setFar2 (by omega) _ _ | exact K.setBD P1 (by simp) (by simp) _ _
  replace PA : Bk2 U9P1 (w.heap.size) (.bool true) (.slice A k c) := by rw [hU9P1]; exact PA.far2 (by omega) _ _
  replace PB : Bk2 U9P1 (w.heap.size + 1) (.bool false) (.slice D l d) := by rw [hU9P1]; exact PB.far2 (by omega) _ _
  replace P2 : Bk2 U9P1 (w.heap.size + 3) (.bool false) (.slice none 0 0) := by rw [hU9P1]; exact P2.far2 (by omega) _ _
  replace hd1 : DRd U9P1 (w1.heap.size) A1 k1 c1 x1 := by rw [hU9P1]; first | exact hd1.setFar2 (by omega) _ _ | exact hd1.setBD P1 (by simp) (by simp) _ _
  replace hd2 : DRd U9P1 (w1.heap.size) A2 0 c2 x2 := by rw [hU9P1]; first | exact hd2.setFar2 (by omega) _ _ | exact hd2.setBD P1 (by simp) (by simp) _ _
  replace P1 : Bk2 U9P1 (w.heap.size + 2) (.bool true) (.slice A1 k1 c1) := by rw [hU9P1]; exact P1.set _ _
  rw [← hU9P1]
  clear hU9P1
  have zU9P1' := Nat.le_of_eq zU9P1
  replace zU9P1 := Nat.le_of_eq zU9P1.symm
  obtain ⟨U9P2, hU9P2⟩ : ∃ U9P2 : World, U9P2 = ((U9P1.setCell ⟨w.heap.size + 3, 0, none⟩ (.bool false)).setCell ⟨w.heap.size + 3, 1, none⟩ (.slice A2 0 c2)) := ⟨_, rfl⟩
  have zU9P2 : U9P2.heap.size = U9P1.heap.size := by rw [hU9P2]; simp [World.setCell]
  replace E : Below w.heap.size w U9P2 := by rw [hU9P2]; exact (E.setCell (by first | (simp; done) | (simp; omega)) _).setCell (by first | (simp; done) | (simp; omega)) _
  replace H : DRd U9P2 (B) A k c xs := by rw [hU9P2]; first | exact H.setFar2 (by omega) _ _ | exact H.setBD P2 (by simp) (by simp) _ _
  replace K : DRd U9P2 (B) D l d ys := by rw [hU9P2]; first | exact K.setFar2 (by omega) _ _ | exact K.setBD P2 (by simp) (by simp) _ _
  replace PA : Bk2 U9P2 (w.heap.size) (.bool true) (.slice A k c) := by rw [hU9P2]; exact PA.far2 (by omega) _ _
  replace PB : Bk2 U9P2 (w.heap.size + 1) (.bool false) (.slice D l d) := by rw [hU9P2]; exact PB.far2 (by omega) _ _
  replace P1 : Bk2 U9P2 (w.heap.size + 2) (.bool true) (.slice A1 k1 c1) := by rw [hU9P2]; exact P1.far2 (by omega) _ _
  replace hd1 : DRd U9P2 (w1.heap.size) A1 k1 c1 x1 := by rw [hU9P2]; first | exact hd1.setFar2 (by omega) _ _ | exact hd1.setBD P2 (by simp) (by simp) _ _
  replace hd2 : DRd U9P2 (w1.heap.size) A2 0 c2 x2 := by rw [hU9P2]; first | exact hd2.setFar2 (by omega) _ _ | exact hd2.setBD P2 (by simp) (by simp) _ _
  replace P2 : Bk2 U9P2 (w.heap.size + 3) (.bool false) (.slice A2 0 c2) := by rw [hU9P2]; exact P2.set _ _
  rw [← hU9P2]
  clear hU9P2
  have zU9P2' := Nat.le_of_eq zU9P2
  replace zU9P2 := Nat.le_of_eq zU9P2.symm
  have f0 := (P1.drew).c0
  have f1 := (P1.drew).c1
  have r0 := (P2.drew).c0
  have r1 := (P2.drew).c1
  refine bodyPost_ret (v := .tuple #[intv true A1 k1 c1, intv false A2 0 c2]) (by simp [results, Tryz.results83, go_sem, f0, f1, r0, r1]) rfl ⟨_, _, _, _, _, _, _, _, _, _, _, _, _, _, rfl, ((hd1.keep (w' := World.drew U9P2) (fun _ _ => rfl)).more (by show w1.heap.size ≤ U9P2.heap.size; omega)), R1.out, rfl, ((hd2.keep (w' := World.drew U9P2) (fun _ _ => rfl)).more (by show w1.heap.size ≤ U9P2.heap.size; omega)), R2.out, rfl, (by have := floor_zero (m := true) (n := false) hv hz (by decide); rw [hz]; exact this), Below.drew E⟩
end Go.Proofs.YtflmcgoijofpdaaGreat

namespace Go.Proofs.YtflmcgoijofpdaaGreat
open Go.RowKit
set_option maxHeartbeats 400000
set_option maxRecDepth 100000
set_option linter.unusedSimpArgs false
set_option linter.unusedVariables false

theorem mx (a b c : Nat) (ha : a ≤ c) (hb : b ≤ c) : ∃ M, a ≤ M ∧ b ≤ M ∧ M ≤ c ∧ (M = a ∨ M = b) := by rcases Nat.le_total a b with h | h; exact ⟨b, h, Nat.le_refl _, hb, .inr rfl⟩; exact ⟨a, Nat.le_refl _, h, ha, .inl rfl⟩
theorem small_one (w : World) : Calls Tryz.prog 40 #[.int .i64 1] w (GivesN w 1) := by
  have := small_any w 1 (by decide)
  exact this
set_option maxHeartbeats 4000000 in
theorem floor_uf (w : World) (B : Nat) (A D : Option Addr) (k l c d p v : Nat) (xs ys : List Nat) (H : DRd w B A k c xs) (K : DRd w B D l d ys) (hB : B ≤ w.heap.size) (hx : Hid (Rep 65536 xs p)) (hy : Hid (Rep 65536 ys v)) (hv : 0 < v) (hk : k ≤ 100000) (hl : l ≤ 100000) (h0 : 0 < p % v) :
    Calls Tryz.prog 83 #[intv false A k c, intv true D l d] w (FlPost (sval false p) (sval true v) w) := by
  have E : Below w.heap.size w w := Below.refl _ _
  go_enter Tryz.func83, Tryz.ntmps83
  go_wp2_with fail
  obtain ⟨V0, hV0⟩ : ∃ V0 : World, V0 = ((((w.alloc (.cells #[.bool false, .slice A k c] 40)).alloc (.cells #[.bool true, .slice D l d] 40)).alloc (.cells #[.bool false, .slice none 0 0] 40)).alloc (.cells #[.bool false, .slice none 0 0] 40)) := ⟨_, rfl⟩
  have bV0 : Below w.heap.size w V0 := by rw [hV0]; (repeat (first | with_reducible exact Below.refl _ _ | with_reducible refine Below.drew ?_ | with_reducible refine below_drewN ?_ _ | with_reducible refine Below.setCell ?_ (by first | (simp; done) | (simp; omega) | omega) _ | with_reducible refine Below.alloc ?_ (by first | (simp; done) | (simp; omega) | omega) _))
  have zV0 : w.heap.size + 4 ≤ V0.heap.size := by rw [hV0]; simp
  have PA : Bk2 V0 (w.heap.size) (.bool false) (.slice A k c) := by rw [hV0]; exact ((((Bk2.newAt _ _ (by simp) _ _ _).alloc _).alloc _).alloc _)
  have PB : Bk2 V0 (w.heap.size + 1) (.bool true) (.slice D l d) := by rw [hV0]; exact (((Bk2.newAt _ _ (by simp) _ _ _).alloc _).alloc _)
  have P1 : Bk2 V0 (w.heap.size + 2) (.bool false) (.slice none 0 0) := by rw [hV0]; exact ((Bk2.newAt _ _ (by simp) _ _ _).alloc _)
  have P2 : Bk2 V0 (w.heap.size + 3) (.bool false) (.slice none 0 0) := by rw [hV0]; exact (Bk2.newAt _ _ (by simp) _ _ _)
  rw [← hV0]
  clear hV0
  replace E := E.trans (bV0.mono E.size)
  replace H := H.below bV0 (by omega)
  replace K := K.below bV0 (by omega)
  clear bV0
  (with_reducible refine (divideD_any _ B A D k l c d p v xs ys H K (by omega) hx.out hy.out hv hk hl).mono ?_)
  rintro e w1 ⟨A1, k1, c1, x1, A2, k2, c2, x2, rfl, hd1, hr1, hd2, hr2, hb1⟩
  have sw1 := hb1.size
  replace E := E.trans (hb1.mono E.size)
  replace H := H.below hb1 (by omega)
  replace K := K.below hb1 (by omega)
  replace PA := PA.below hb1 PA.lt
  replace PB := PB.below hb1 PB.lt
  replace P1 := P1.below hb1 P1.lt
  replace P2 := P2.below hb1 P2.lt
  clear hb1
  have R1 := Lib.hid hr1
  have R2 := Lib.hid hr2
  clear hr1 hr2
  have kc1 := hd1.cap
  have kc2 := hd2.cap
  have hz : 0 < p % v := h0
  have hk2 : 0 < k2 := by rcases rep_zero_len R2.out hd2.len.out with ⟨_, e⟩ | ⟨e, _⟩ <;> omega
  have hk1 : k1 ≤ 100000 := by have := rep_len_le hx.out R1.out H.len.out hd1.len.out (Nat.div_le_self _ _); omega
  have hk2l : k2 ≤ l := rep_len_le hy.out R2.out K.len.out hd2.len.out (Nat.le_of_lt (Nat.mod_lt _ hv))
  have hvr : vb 65536 x2 ≤ vb 65536 ys := by rw [R2.out.val, hy.out.val]; exact Nat.le_of_lt (Nat.mod_lt _ hv)
  have cA := PA.c0
  have cB := PB.c0
  have cC := PB.c1
  have hk2' : (0 : Int) < (k2 : Int) := by omega
  go_upto_region 3 with fail
  clear cA cB cC
  have G0 : Below w1.heap.size w1 w1.drew := Below.drew (Below.refl _ _)
  have HS := Lib.hid (fun (u : World) (hu : Below w1.heap.size w1 u) => (⟨hu, (PB.below hu PB.lt).c0, (PB.below hu PB.lt).c1⟩ : Below w1.heap.size w1 u ∧ u.cell? ⟨w.heap.size + 1, 0, none⟩ = some (.bool true) ∧ u.cell? ⟨w.heap.size + 1, 1, none⟩ = some (.slice D l d)))
  go_region_held3 (fun u => Below w1.heap.size w1 u ∧ u.cell? ⟨w.heap.size + 1, 0, none⟩ = some (.bool true) ∧ u.cell? ⟨w.heap.size + 1, 1, none⟩ = some (.slice D l d)) (first | with_reducible exact HS.out _ G0 | with_reducible exact HS.out _ B3 | with_reducible exact HS.out _ B2 | with_reducible exact HS.out _ B1 | fail)
    (first
      | (go_at_call 40; (with_reducible refine (small_one _).mono ?_); rintro e y1 ⟨As, ks, cs, xs1, rfl, hds, hrs, hb1⟩; have B1 : Below w1.heap.size w1 y1 := bnext G0 hb1; have hks := len16 hrs hds.len.out (by decide); have RS := Lib.hid hrs; clear hrs; obtain ⟨M, hM1, hM2, hM3, hM4⟩ := mx k1 ks 100000 hk1 hks)
      | (go_at_call 85; (with_reducible refine (plus_any _ _ A1 As k1 ks c1 cs M x1 xs1 ((hd1.below B1 (Nat.le_refl _)).more B1.size) hds (Nat.le_refl _) hM1 hM2 (by omega) hM4).mono ?_); rintro e y2 ⟨Aq, kq, cq, xq, rfl, hdq, hrq, hb2⟩; have B2 : Below w1.heap.size w1 y2 := bnext B1 hb2; rw [R1.out.val, RS.out.val] at hrq; have RQ := Lib.hid hrq; clear hrq)
      | (go_at_call 86; (with_reducible refine (minus_any _ _ D A2 l k2 d c2 ys x2 ((K.below B2 (by omega)).more (by have := B2.size; omega)) ((hd2.below B2 (Nat.le_refl _)).more B2.size) (Nat.le_refl _) hk2l (by omega) hvr).mono ?_); rintro e y3 ⟨Ar, kr, cr, xr, rfl, hdr, hrr, hb3⟩; have B3 : Below w1.heap.size w1 y3 := bnext B2 hb3; rw [hy.out.val, R2.out.val] at hrr; have RR := Lib.hid hrr; clear hrr)
      | fail)
  clear HS G0
  have s3 := B3.size
  replace hdq := hdq.below hb3 (Nat.le_refl _)
  replace E := E.trans (B3.mono E.size)
  replace H := H.below B3 (by omega)
  replace K := K.below B3 (by omega)
  replace PA := PA.below B3 PA.lt
  replace PB := PB.below B3 PB.lt
  replace P1 := P1.below B3 P1.lt
  replace P2 := P2.below B3 P2.lt
  have sy := hb3.size
  have sB2 := B2.size
  clear B1 B2 B3 hb2 hb3 hd1 hd2 hds
  have PA0 := PA.c0
  have PA1 := PA.c1
  have PAl := PA.lt
  have PB0 := PB.c0
  have PB1 := PB.c1
  have PBl := PB.lt
  have P10 := P1.c0
  have P11 := P1.c1
  have P1l := P1.lt
  have P1z0 := P1.z0
  have P1z1 := P1.z1
  have P20 := P2.c0
  have P21 := P2.c1
  have P2l := P2.lt
  have P2z0 := P2.z0
  have P2z1 := P2.z1
  go_upto_region 4 with fail
  go_region
  all_goals (go_wp2_with fail)
  clear PA0 PA1 PAl PB0 PB1 PBl P10 P11 P1l P1z0 P1z1 P20 P21 P2l P2z0 P2z1
  obtain ⟨U9P1, hU9P1⟩ : ∃ U9P1 : World, U9P1 = ((y3.setCell ⟨w.heap.size + 2, 0, none⟩ (.bool true)).setCell ⟨w.heap.size + 2, 1, none⟩ (.slice Aq kq cq)) := ⟨_, rfl⟩
  have zU9P1 : U9P1.heap.size = y3.heap.size := by rw [hU9P1]; simp [World.setCell]
  replace E : Below w.heap.size w U9P1 := by rw [hU9P1]; exact (E.setCell (by first | (simp; done) | (simp; omega)) _).setCell (by first | (simp; done) | (simp; omega)) _
  replace H : DRd U9P1 (B) A k c xs := by rw [hU9P1]; first | exact H.setFar2 (by omega) _ _ | exact H.setBD P1 (by simp) (by simp) _ _
  replace K : DRd U9P1 (B) D l d ys := by rw [hU9P1]; first | exact K.setFar2 (by omega) _ _ | exact K.setBD P1 (by simp) (by simp) _ _
  replace PA : Bk2 U9P1 (w.heap.size) (.bool false) (.slice A k c) := by rw [hU9P1]; exact PA.far2 (by omega) _ _
  replace PB : Bk2 U9P1 (w.heap.size + 1) (.bool true) (.slice D l d) := by rw [hU9P1]; exact PB.far2 (by omega) _ _
  replace P2 : Bk2 U9P1 (w.heap.size + 3) (.bool false) (.slice none 0 0) := by rw [hU9P1]; exact P2.far2 (by omega) _ _
  replace hdq : DRd U9P1 (y2.heap.size) Aq kq cq xq := by rw [hU9P1]; first | exact hdq.setFar2 (by omega) _ _ | exact hdq.setBD P1 (by simp) (by simp) _ _
  replace hdr : DRd U9P1 (y3.heap.size) Ar kr cr xr := by rw [hU9P1]; first | exact hdr.setFar2 (by omega) _ _ | exact hdr.setBD P1 (by simp) (by simp) _ _
  replace P1 : Bk2 U9P1 (w.heap.size + 2) (.bool true) (.slice Aq kq cq) := by rw [hU9P1]; exact P1.set _ _
  rw [← hU9P1]
  clear hU9P1
  have zU9P1' := Nat.le_of_eq zU9P1
  replace zU9P1 := Nat.le_of_eq zU9P1.symm
  obtain ⟨U9P2, hU9P2⟩ : ∃ U9P2 : World, U9P2 = ((U9P1.setCell ⟨w.heap.size + 3, 0, none⟩ (.bool true)).setCell ⟨w.heap.size + 3, 1, none⟩ (.slice Ar kr cr)) := ⟨_, rfl⟩
  have zU9P2 : U9P2.heap.size = U9P1.heap.size := by rw [hU9P2]; simp [World.setCell]
  replace E : Below w.heap.size w U9P2 := by rw [hU9P2]; exact (E.setCell (by first | (simp; done) | (simp; omega)) _).setCell (by first | (simp; done) | (simp; omega)) _
  replace H : DRd U9P2 (B) A k c xs := by rw [hU9P2]; first | exact H.setFar2 (by omega) _ _ | exact H.setBD P2 (by simp) (by simp) _ _
  replace K : DRd U9P2 (B) D l d ys := by rw [hU9P2]; first | exact K.setFar2 (by omega) _ _ | exact K.setBD P2 (by simp) (by simp) _ _
  replace PA : Bk2 U9P2 (w.heap.size) (.bool false) (.slice A k c) := by rw [hU9P2]; exact PA.far2 (by omega) _ _
  replace PB : Bk2 U9P2 (w.heap.size + 1) (.bool true) (.slice D l d) := by rw [hU9P2]; exact PB.far2 (by omega) _ _
  replace P1 : Bk2 U9P2 (w.heap.size + 2) (.bool true) (.slice Aq kq cq) := by rw [hU9P2]; exact P1.far2 (by omega) _ _
  replace hdq : DRd U9P2 (y2.heap.size) Aq kq cq xq := by rw [hU9P2]; first | exact hdq.setFar2 (by omega) _ _ | exact hdq.setBD P2 (by simp) (by simp) _ _
  replace hdr : DRd U9P2 (y3.heap.size) Ar kr cr xr := by rw [hU9P2]; first | exact hdr.setFar2 (by omega) _ _ | exact hdr.setBD P2 (by simp) (by simp) _ _
  replace P2 : Bk2 U9P2 (w.heap.size + 3) (.bool true) (.slice Ar kr cr) := by rw [hU9P2]; exact P2.set _ _
  rw [← hU9P2]
  clear hU9P2
  have zU9P2' := Nat.le_of_eq zU9P2
  replace zU9P2 := Nat.le_of_eq zU9P2.symm
  have f0 := (P1.drew).c0
  have f1 := (P1.drew).c1
  have r0 := (P2.drew).c0
  have r1 := (P2.drew).c1
  refine bodyPost_ret (v := .tuple #[intv true Aq kq cq, intv true Ar kr cr]) (by simp [results, Tryz.results83, go_sem, f0, f1, r0, r1]) rfl ⟨_, _, _, _, _, _, _, _, _, _, _, _, _, _, rfl, ((hdq.keep (w' := World.drew U9P2) (fun _ _ => rfl)).more (by show y2.heap.size ≤ U9P2.heap.size; omega)), RQ.out, rfl, ((hdr.keep (w' := World.drew U9P2) (fun _ _ => rfl)).more (by show y3.heap.size ≤ U9P2.heap.size; omega)), RR.out, rfl, floor_up hv hz (by decide), Below.drew E⟩
set_option maxHeartbeats 4000000 in
theorem floor_ut (w : World) (B : Nat) (A D : Option Addr) (k l c d p v : Nat) (xs ys : List Nat) (H : DRd w B A k c xs) (K : DRd w B D l d ys) (hB : B ≤ w.heap.size) (hx : Hid (Rep 65536 xs p)) (hy : Hid (Rep 65536 ys v)) (hv : 0 < v) (hk : k ≤ 100000) (hl : l ≤ 100000) (h0 : 0 < p % v) :
    Calls Tryz.prog 83 #[intv true A k c, intv false D l d] w (FlPost (sval true p) (sval false v) w) := by
  have E : Below w.heap.size w w := Below.refl _ _
  go_enter Tryz.func83, Tryz.ntmps83
  go_wp2_with fail
  obtain ⟨V0, hV0⟩ : ∃ V0 : World, V0 = ((((w.alloc (.cells #[.bool true, .slice A k c] 40)).alloc (.cells #[.bool false, .slice D l d] 40)).alloc (.cells #[.bool false, .slice none 0 0] 40)).alloc (.cells #[.bool false, .slice none 0 0] 40)) := ⟨_, rfl⟩
  have bV0 : Below w.heap.size w V0 := by rw [hV0]; (repeat (first | with_reducible exact Below.refl _ _ | with_reducible refine Below.drew ?_ | with_reducible refine below_drewN ?_ _ | with_reducible refine Below.setCell ?_ (by first | (simp; done) | (simp; omega) | omega) _ | with_reducible refine Below.alloc ?_ (by first | (simp; done) | (simp; omega) | omega) _))
  have zV0 : w.heap.size + 4 ≤ V0.heap.size := by rw [hV0]; simp
  have PA : Bk2 V0 (w.heap.size) (.bool true) (.slice A k c) := by rw [hV0]; exact ((((Bk2.newAt _ _ (by simp) _ _ _).alloc _).alloc _).alloc _)
  have PB : Bk2 V0 (w.heap.size + 1) (.bool false) (.slice D l d) := by rw [hV0]; exact (((Bk2.newAt _ _ (by simp) _ _ _).alloc _).alloc _)
  have P1 : Bk2 V0 (w.heap.size + 2) (.bool false) (.slice none 0 0) := by rw [hV0]; exact ((Bk2.newAt _ _ (by simp) _ _ _).alloc _)
  have P2 : Bk2 V0 (w.heap.size + 3) (.bool false) (.slice none 0 0) := by rw [hV0]; exact (Bk2.newAt _ _ (by simp) _ _ _)
  rw [← hV0]
  clear hV0
  replace E := E.trans (bV0.mono E.size)
  replace H := H.below bV0 (by omega)
  replace K := K.below bV0 (by omega)
  clear bV0
  (with_reducible refine (divideD_any _ B A D k l c d p v xs ys H K (by omega) hx.out hy.out hv hk hl).mono ?_)
  rintro e w1 ⟨A1, k1, c1, x1, A2, k2, c2, x2, rfl, hd1, hr1, hd2, hr2, hb1⟩
  have sw1 := hb1.size
  replace E := E.trans (hb1.mono E.size)
  replace H := H.below hb1 (by omega)
  replace K := K.below hb1 (by omega)
  replace PA := PA.below hb1 PA.lt
  replace PB := PB.below hb1 PB.lt
  replace P1 := P1.below hb1 P1.lt
  replace P2 := P2.below hb1 P2.lt
  clear hb1
  have R1 := Lib.hid hr1
  have R2 := Lib.hid hr2
  clear hr1 hr2
  have kc1 := hd1.cap
  have kc2 := hd2.cap
  have hz : 0 < p % v := h0
  have hk2 : 0 < k2 := by rcases rep_zero_len R2.out hd2.len.out with ⟨_, e⟩ | ⟨e, _⟩ <;> omega
  have hk1 : k1 ≤ 100000 := by have := rep_len_le hx.out R1.out H.len.out hd1.len.out (Nat.div_le_self _ _); omega
  have hk2l : k2 ≤ l := rep_len_le hy.out R2.out K.len.out hd2.len.out (Nat.le_of_lt (Nat.mod_lt _ hv))
  have hvr : vb 65536 x2 ≤ vb 65536 ys := by rw [R2.out.val, hy.out.val]; exact Nat.le_of_lt (Nat.mod_lt _ hv)
  have cA := PA.c0
  have cB := PB.c0
  have cC := PB.c1
  have hk2' : (0 : Int) < (k2 : Int) := by omega
  go_upto_region 3 with fail
  clear cA cB cC
  have G0 : Below w1.heap.size w1 w1.drew := Below.drew (Below.refl _ _)
  have HS := Lib.hid (fun (u : World) (hu : Below w1.heap.size w1 u) => (⟨hu, (PB.below hu PB.lt).c0, (PB.below hu PB.lt).c1⟩ : Below w1.heap.size w1 u ∧ u.cell? ⟨w.heap.size + 1, 0, none⟩ = some (.bool false) ∧ u.cell? ⟨w.heap.size + 1, 1, none⟩ = some (.slice D l d)))
  go_region_held3 (fun u => Below w1.heap.size w1 u ∧ u.cell? ⟨w.heap.size + 1, 0, none⟩ = some (.bool false) ∧ u.cell? ⟨w.heap.size + 1, 1, none⟩ = some (.slice D l d)) (first | with_reducible exact HS.out _ G0 | with_reducible exact HS.out _ B3 | with_reducible exact HS.out _ B2 | with_reducible exact HS.out _ B1 | fail)
    (first
      | (go_at_call 40; (with_reducible refine (small_one _).mono ?_); rintro e y1 ⟨As, ks, cs, xs1, rfl, hds, hrs, hb1⟩; have B1 : Below w1.heap.size w1 y1 := bnext G0 hb1; have hks := len16 hrs hds.len.out (by decide); have RS := Lib.hid hrs; clear hrs; obtain ⟨M, hM1, hM2, hM3, hM4⟩ := mx k1 ks 100000 hk1 hks)
      | (go_at_call 85; (with_reducible refine (plus_any _ _ A1 As k1 ks c1 cs M x1 xs1 ((hd1.below B1 (Nat.le_refl _)).more B1.size) hds (Nat.le_refl _) hM1 hM2 (by omega) hM4).mono ?_); rintro e y2 ⟨Aq, kq, cq, xq, rfl, hdq, hrq, hb2⟩; have B2 : Below w1.heap.size w1 y2 := bnext B1 hb2; rw [R1.out.val, RS.out.val] at hrq; have RQ := Lib.hid hrq; clear hrq)
      | (go_at_call 86; (with_reducible refine (minus_any _ _ D A2 l k2 d c2 ys x2 ((K.below B2 (by omega)).more (by have := B2.size; omega)) ((hd2.below B2 (Nat.le_refl _)).more B2.size) (Nat.le_refl _) hk2l (by omega) hvr).mono ?_); rintro e y3 ⟨Ar, kr, cr, xr, rfl, hdr, hrr, hb3⟩; have B3 : Below w1.heap.size w1 y3 := bnext B2 hb3; rw [hy.out.val, R2.out.val] at hrr; have RR := Lib.hid hrr; clear hrr)
      | fail)
  clear HS G0
  have s3 := B3.size
  replace hdq := hdq.below hb3 (Nat.le_refl _)
  replace E := E.trans (B3.mono E.size)
  replace H := H.below B3 (by omega)
  replace K := K.below B3 (by omega)
  replace PA := PA.below B3 PA.lt
  replace PB := PB.below B3 PB.lt
  replace P1 := P1.below B3 P1.lt
  replace P2 := P2.below B3 P2.lt
  have sy := hb3.size
  have sB2 := B2.size
  clear B1 B2 B3 hb2 hb3 hd1 hd2 hds
  have PA0 := PA.c0
  have PA1 := PA.c1
  have PAl := PA.lt
  have PB0 := PB.c0
  have PB1 := PB.c1
  have PBl := PB.lt
  have P10 := P1.c0
  have P11 := P1.c1
  have P1l := P1.lt
  have P1z0 := P1.z0
  have P1z1 := P1.z1
  have P20 := P2.c0
  have P21 := P2.c1
  have P2l := P2.lt
  have P2z0 := P2.z0
  have P2z1 := P2.z1
  go_upto_region 4 with fail
  go_region
  all_goals (go_wp2_with fail)
  clear PA0 PA1 PAl PB0 PB1 PBl P10 P11 P1l P1z0 P1z1 P20 P21 P2l P2z0 P2z1
  obtain ⟨U9P1, hU9P1⟩ : ∃ U9P1 : World, U9P1 = ((y3.setCell ⟨w.heap.size + 2, 0, none⟩ (.bool true)).setCell ⟨w.heap.size + 2, 1, none⟩ (.slice Aq kq cq)) := ⟨_, rfl⟩
  have zU9P1 : U9P1.heap.size = y3.heap.size := by rw [hU9P1]; simp [World.setCell]
  replace E : Below w.heap.size w U9P1 := by rw [hU9P1]; exact (E.setCell (by first | (simp; done) | (simp; omega)) _).setCell (by first | (simp; done) | (simp; omega)) _
  replace H : DRd U9P1 (B) A k c xs := by rw [hU9P1]; first | exact H.setFar2 (by omega) _ _ | exact H.setBD P1 (by simp) (by simp) _ _
  replace K : DRd U9P1 (B) D l d ys := by rw [hU9P1]; first | exact K.setFar2 (by omega) _ _ | exact K.setBD P1 (by simp) (by simp) _ _
  replace PA : Bk2 U9P1 (w.heap.size) (.bool true) (.slice A k c) := by rw [hU9P1]; exact PA.far2 (by omega) _ _
  replace PB : Bk2 U9P1 (w.heap.size + 1) (.bool false) (.slice D l d) := by rw [hU9P1]; exact PB.far2 (by omega) _ _
  replace P2 : Bk2 U9P1 (w.heap.size + 3) (.bool false) (.slice none 0 0) := by rw [hU9P1]; exact P2.far2 (by omega) _ _
  replace hdq : DRd U9P1 (y2.heap.size) Aq kq cq xq := by rw [hU9P1]; first | exact hdq.setFar2 (by omega) _ _ | exact hdq.setBD P1 (by simp) (by simp) _ _
  replace hdr : DRd U9P1 (y3.heap.size) Ar kr cr xr := by rw [hU9P1]; first | exact hdr.setFar2 (by omega) _ _ | exact hdr.setBD P1 (by simp) (by simp) _ _
  replace P1 : Bk2 U9P1 (w.heap.size + 2) (.bool true) (.slice Aq kq cq) := by rw [hU9P1]; exact P1.set _ _
  rw [← hU9P1]
  clear hU9P1
  have zU9P1' := Nat.le_of_eq zU9P1
  replace zU9P1 := Nat.le_of_eq zU9P1.symm
  obtain ⟨U9P2, hU9P2⟩ : ∃ U9P2 : World, U9P2 = ((U9P1.setCell ⟨w.heap.size + 3, 0, none⟩ (.bool false)).setCell ⟨w.heap.size + 3, 1, none⟩ (.slice Ar kr cr)) := ⟨_, rfl⟩
  have zU9P2 : U9P2.heap.size = U9P1.heap.size := by rw [hU9P2]; simp [World.setCell]
  replace E : Below w.heap.size w U9P2 := by rw [hU9P2]; exact (E.setCell (by first | (simp; done) | (simp; omega)) _).setCell (by first | (simp; done) | (simp; omega)) _
  replace H : DRd U9P2 (B) A k c xs := by rw [hU9P2]; first | exact H.setFar2 (by omega) _ _ | exact H.setBD P2 (by simp) (by simp) _ _
  replace K : DRd U9P2 (B) D l d ys := by rw [hU9P2]; first | exact K.setFar2 (by omega) _ _ | exact K.setBD P2 (by simp) (by simp) _ _
  replace PA : Bk2 U9P2 (w.heap.size) (.bool true) (.slice A k c) := by rw [hU9P2]; exact PA.far2 (by omega) _ _
  replace PB : Bk2 U9P2 (w.heap.size + 1) (.bool false) (.slice D l d) := by rw [hU9P2]; exact PB.far2 (by omega) _ _
  replace P1 : Bk2 U9P2 (w.heap.size + 2) (.bool true) (.slice Aq kq cq) := by rw [hU9P2]; exact P1.far2 (by omega) _ _
  replace hdq : DRd U9P2 (y2.heap.size) Aq kq cq xq := by rw [hU9P2]; first | exact hdq.setFar2 (by omega) _ _ | exact hdq.setBD P2 (by simp) (by simp) _ _
  replace hdr : DRd U9P2 (y3.heap.size) Ar kr cr xr := by rw [hU9P2]; first | exact hdr.setFar2 (by omega) _ _ | exact hdr.setBD P2 (by simp) (by simp) _ _
  replace P2 : Bk2 U9P2 (w.heap.size + 3) (.bool false) (.slice Ar kr cr) := by rw [hU9P2]; exact P2.set _ _
  rw [← hU9P2]
  clear hU9P2
  have zU9P2' := Nat.le_of_eq zU9P2
  replace zU9P2 := Nat.le_of_eq zU9P2.symm
  have f0 := (P1.drew).c0
  have f1 := (P1.drew).c1
  have r0 := (P2.drew).c0
  have r1 := (P2.drew).c1
  refine bodyPost_ret (v := .tuple #[intv true Aq kq cq, intv false Ar kr cr]) (by simp [results, Tryz.results83, go_sem, f0, f1, r0, r1]) rfl ⟨_, _, _, _, _, _, _, _, _, _, _, _, _, _, rfl, ((hdq.keep (w' := World.drew U9P2) (fun _ _ => rfl)).more (by show y2.heap.size ≤ U9P2.heap.size; omega)), RQ.out, rfl, ((hdr.keep (w' := World.drew U9P2) (fun _ _ => rfl)).more (by show y3.heap.size ≤ U9P2.heap.size; omega)), RR.out, rfl, floor_up hv hz (by decide), Below.drew E⟩
theorem floorD_any (w : World) (B : Nat) (m n : Bool) (A D : Option Addr) (k l c d p v : Nat) (xs ys : List Nat) (H : DRd w B A k c xs) (K : DRd w B D l d ys) (hB : B ≤ w.heap.size) (hx : Rep 65536 xs p) (hy : Rep 65536 ys v) (hv : 0 < v) (hk : k ≤ 100000) (hl : l ≤ 100000) :
    Calls Tryz.prog 83 #[intv m A k c, intv n D l d] w (FlPost (sval m p) (sval n v) w) := by
  cases m <;> cases n
  · exact floor_ff w B A D k l c d p v xs ys H K hB hx hy hv hk hl
  · rcases Nat.eq_zero_or_pos (p % v) with e | e
    · exact floor_zf w B A D k l c d p v xs ys H K hB hx hy hv hk hl e
    · exact floor_uf w B A D k l c d p v xs ys H K hB hx hy hv hk hl e
  · rcases Nat.eq_zero_or_pos (p % v) with e | e
    · exact floor_zt w B A D k l c d p v xs ys H K hB hx hy hv hk hl e
    · exact floor_ut w B A D k l c d p v xs ys H K hB hx hy hv hk hl e
  · exact floor_tt w B A D k l c d p v xs ys H K hB hx hy hv hk hl
end Go.Proofs.YtflmcgoijofpdaaGreat

namespace Go.Proofs.YtflmcgoijofpdaaGreat
open Go.RowKit
set_option maxHeartbeats 400000
set_option maxRecDepth 100000
set_option linter.unusedSimpArgs false
set_option linter.unusedVariables false

end Go.Proofs.YtflmcgoijofpdaaGreat
