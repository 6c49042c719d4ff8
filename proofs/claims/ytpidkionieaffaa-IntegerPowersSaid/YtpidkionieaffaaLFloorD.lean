/- The reference's Floor. -/
import Derived.Test.YtpidkionieaffaaLRootD
import Derived.Test.YtpidkionieaffaaLj
import Derived.Test.YtpidkionieaffaaLInt22
import Derived.Deep.RegionHeld3
namespace Go.Proofs.Ytpidkionieaffaa
open Go.RowKit
set_option maxHeartbeats 400000
set_option maxRecDepth 100000
set_option linter.unusedSimpArgs false
set_option linter.unusedVariables false

def FlPost (x y : Int) (w : World) (e : Ending) (w' : World) : Prop :=
  ∃ m A k c zs v n D l d ys u q r, e = .returned (.tuple #[intv m A k c, intv n D l d]) ∧ DRd w' w'.heap.size A k c zs ∧ Rep 65536 zs v ∧ sval m v = q ∧ DRd w' w'.heap.size D l d ys ∧ Rep 65536 ys u ∧ sval n u = r ∧ FloorOf x y q r ∧ Below w.heap.size w w'
set_option maxHeartbeats 4000000 in
theorem floor_ff (w : World) (B : Nat) (A D : Option Addr) (k l c d p v : Nat) (xs ys : List Nat) (H : DRd w B A k c xs) (K : DRd w B D l d ys) (hB : B ≤ w.heap.size) (hx : Hid (Rep 65536 xs p)) (hy : Hid (Rep 65536 ys v)) (hv : 0 < v) (hk : k ≤ 100000) (hl : l ≤ 100000)  :
    Calls Try.prog 43 #[intv false A k c, intv false D l d] w (FlPost (sval false p) (sval false v) w) := by
  have E : Below w.heap.size w w := Below.refl _ _
  go_enter Try.func43, Try.ntmps43
  go_wp2_with fail
  obtain ⟨V0, hV0⟩ : ∃ V0 : World, V0 = ((((w.alloc (.cells #[.bool false, .slice A k c] 37)).alloc (.cells #[.bool false, .slice D l d] 37)).alloc (.cells #[.bool false, .slice none 0 0] 37)).alloc (.cells #[.bool false, .slice none 0 0] 37)) := ⟨_, rfl⟩
  have bV0 : Below w.heap.size w V0 := by rw [hV0]; (repeat (first | with_reducible exact Below.refl _ _ | with_reducible refine Below.drew ?_ | with_reducible refine below_drewN ?_ _ | with_reducible refine Below.setCell ?_ (by first | (simp; done) | (simp; omega) | omega) _ | with_reducible refine Below.alloc ?_ (by first | (simp; done) | (simp; omega) | omega) _))
  have zV0 : w.heap.size + 4 ≤ V0.heap.size := by rw [hV0]; simp
  have PA : Bk2 V0 (w.heap.size) (.bool false) (.slice A k c) := by rw [hV0]; exact ((((Bk2.newAt _ _ (by simp) _ _ _).alloc _).alloc _).alloc _)
  have PB : Bk2 V0 (w.heap.size + 1) (.bool false) (.slice D l d) := by rw [hV0]; exact (((Bk2.newAt _ _ (by simp) _ _ _).alloc _).alloc _)
  have P1 : Bk2 V0 (w.heap.size + 2) (.bool false) (.slice none 0 0) := by rw [hV0]; exact ((Bk2.newAt _ _ (by simp) _ _ _).alloc _)
  have P2 : Bk2 V0 (w.heap.size + 3) (.bool false) (.slice none 0 0) := by rw [hV0]; exact (Bk2.newAt _ _ (by simp) _ _ _)
  rw [← hV0]
  clear hV0
  replace E : Below w.heap.size w V0 := E.trans (bV0.mono E.size)
  replace H : DRd V0 (B) A k c xs := H.below bV0 (by omega)
  replace K : DRd V0 (B) D l d ys := K.below bV0 (by omega)
  clear bV0
  (with_reducible refine (divideD_any _ B A D k l c d p v xs ys H K (by omega) hx.out hy.out hv hk hl).mono ?_)
  rintro e w1 ⟨A1, k1, c1, x1, A2, k2, c2, x2, rfl, hd1, hr1, hd2, hr2, hb1⟩
  have sw1 := hb1.size
  replace E : Below w.heap.size w w1 := E.trans (hb1.mono E.size)
  replace H : DRd w1 (B) A k c xs := H.below hb1 (by omega)
  replace K : DRd w1 (B) D l d ys := K.below hb1 (by omega)
  replace PA : Bk2 w1 (w.heap.size) (.bool false) (.slice A k c) := PA.below hb1 PA.lt
  replace PB : Bk2 w1 (w.heap.size + 1) (.bool false) (.slice D l d) := PB.below hb1 PB.lt
  replace P1 : Bk2 w1 (w.heap.size + 2) (.bool false) (.slice none 0 0) := P1.below hb1 P1.lt
  replace P2 : Bk2 w1 (w.heap.size + 3) (.bool false) (.slice none 0 0) := P2.below hb1 P2.lt
  clear hb1
  have R1 := Lib.hid hr1
  have R2 := Lib.hid hr2
  clear hr1 hr2
  have kc1 := hd1.cap
  have kc2 := hd2.cap
  have PA0 := PA.c0
  have PA1 := PA.c1
  have PAl := PA.lt
  have PB0 := PB.c0
  have PB1 := PB.c1
  have PBl := PB.lt
  have P10 := P1.c0
  have P11 := P1.c1
  have P1l := P1.lt
  have P1z0 := P1.z0
  have P1z1 := P1.z1
  have P20 := P2.c0
  have P21 := P2.c1
  have P2l := P2.lt
  have P2z0 := P2.z0
  have P2z1 := P2.z1
  go_upto_region 4 with fail
  go_region
  all_goals (go_wp2_with fail)
  clear PA0 PA1 PAl PB0 PB1 PBl P10 P11 P1l P1z0 P1z1 P20 P21 P2l P2z0 P2z1
  obtain ⟨U9P1, hU9P1⟩ : ∃ U9P1 : World, U9P1 = ((w1.setCell ⟨w.heap.size + 2, 0, none⟩ (.bool false)).setCell ⟨w.heap.size + 2, 1, none⟩ (.slice A1 k1 c1)) := ⟨_, rfl⟩
  have zU9P1 : U9P1.heap.size = w1.heap.size := by rw [hU9P1]; simp [World.setCell]
  replace E : Below w.heap.size w U9P1 := by rw [hU9P1]; exact (E.setCell (by first | (simp; done) | (simp; omega)) _).setCell (by first | (simp; done) | (simp; omega)) _
  replace H : DRd U9P1 (B) A k c xs := by rw [hU9P1]; first | exact H.setFar2 (by omega) _ _ | exact H.setBD P1 (by simp) (by simp) _ _
  replace K : DRd U9P1 (B) D l d ys := by rw [hU9P1]; first | exact K.setFar2 (by omega) _ _ | exact K.setBD P1 (by simp) (by simp) _ _
  replace PA : Bk2 U9P1 (w.heap.size) (.bool false) (.slice A k c) := by rw [hU9P1]; exact PA.far2 (by omega) _ _
  replace PB : Bk2 U9P1 (w.heap.size + 1) (.bool false) (.slice D l d) := by rw [hU9P1]; exact PB.far2 (by omega) _ _
  replace P2 : Bk2 U9P1 (w.heap.size + 3) (.bool false) (.slice none 0 0) := by rw [hU9P1]; exact P2.far2 (by omega) _ _
  replace hd1 : DRd U9P1 (w1.heap.size) A1 k1 c1 x1 := by rw [hU9P1]; first | exact hd1.setFar2 (by omega) _ _ | exact hd1.setBD P1 (by simp) (by simp) _ _
  replace hd2 : DRd U9P1 (w1.heap.size) A2 k2 c2 x2 := by rw [hU9P1]; first | exact hd2.setFar2 (by omega) _ _ | exact hd2.setBD P1 (by simp) (by simp) _ _
  replace P1 : Bk2 U9P1 (w.heap.size + 2) (.bool false) (.slice A1 k1 c1) := by rw [hU9P1]; exact P1.set _ _
  rw [← hU9P1]
  clear hU9P1
  have zU9P1' := Nat.le_of_eq zU9P1
  replace zU9P1 := Nat.le_of_eq zU9P1.symm
  obtain ⟨U9P2, hU9P2⟩ : ∃ U9P2 : World, U9P2 = ((U9P1.setCell ⟨w.heap.size + 3, 0, none⟩ (.bool false)).setCell ⟨w.heap.size + 3, 1, none⟩ (.slice A2 k2 c2)) := ⟨_, rfl⟩
  have zU9P2 : U9P2.heap.size = U9P1.heap.size := by rw [hU9P2]; simp [World.setCell]
  replace E : Below w.heap.size w U9P2 := by rw [hU9P2]; exact (E.setCell (by first | (simp; done) | (simp; omega)) _).setCell (by first | (simp; done) | (simp; omega)) _
  replace H : DRd U9P2 (B) A k c xs := by rw [hU9P2]; first | exact H.setFar2 (by omega) _ _ | exact H.setBD P2 (by simp) (by simp) _ _
  replace K : DRd U9P2 (B) D l d ys := by rw [hU9P2]; first | exact K.setFar2 (by omega) _ _ | exact K.setBD P2 (by simp) (by simp) _ _
  replace PA : Bk2 U9P2 (w.heap.size) (.bool false) (.slice A k c) := by rw [hU9P2]; exact PA.far2 (by omega) _ _
  replace PB : Bk2 U9P2 (w.heap.size + 1) (.bool false) (.slice D l d) := by rw [hU9P2]; exact PB.far2 (by omega) _ _
  replace P1 : Bk2 U9P2 (w.heap.size + 2) (.bool false) (.slice A1 k1 c1) := by rw [hU9P2]; exact P1.far2 (by omega) _ _
  replace hd1 : DRd U9P2 (w1.heap.size) A1 k1 c1 x1 := by rw [hU9P2]; first | exact hd1.setFar2 (by omega) _ _ | exact hd1.setBD P2 (by simp) (by simp) _ _
  replace hd2 : DRd U9P2 (w1.heap.size) A2 k2 c2 x2 := by rw [hU9P2]; first | exact hd2.setFar2 (by omega) _ _ | exact hd2.setBD P2 (by simp) (by simp) _ _
  replace P2 : Bk2 U9P2 (w.heap.size + 3) (.bool false) (.slice A2 k2 c2) := by rw [hU9P2]; exact P2.set _ _
  rw [← hU9P2]
  clear hU9P2
  have zU9P2' := Nat.le_of_eq zU9P2
  replace zU9P2 := Nat.le_of_eq zU9P2.symm
  have f0 := (P1.drew).c0
  have f1 := (P1.drew).c1
  have r0 := (P2.drew).c0
  have r1 := (P2.drew).c1
  refine bodyPost_ret (v := .tuple #[intv false A1 k1 c1, intv false A2 k2 c2]) (by simp [results, Try.results43, go_sem, f0, f1, r0, r1]) rfl ⟨_, _, _, _, _, _, _, _, _, _, _, _, _, _, rfl, ((hd1.keep (w' := World.drew U9P2) (fun _ _ => rfl)).more (by show w1.heap.size ≤ U9P2.heap.size; omega)), R1.out, rfl, ((hd2.keep (w' := World.drew U9P2) (fun _ _ => rfl)).more (by show w1.heap.size ≤ U9P2.heap.size; omega)), R2.out, rfl, floor_same hv, Below.drew E⟩
set_option maxHeartbeats 4000000 in
theorem floor_tt (w : World) (B : Nat) (A D : Option Addr) (k l c d p v : Nat) (xs ys : List Nat) (H : DRd w B A k c xs) (K : DRd w B D l d ys) (hB : B ≤ w.heap.size) (hx : Hid (Rep 65536 xs p)) (hy : Hid (Rep 65536 ys v)) (hv : 0 < v) (hk : k ≤ 100000) (hl : l ≤ 100000)  :
    Calls Try.prog 43 #[intv true A k c, intv true D l d] w (FlPost (sval true p) (sval true v) w) := by
  have E : Below w.heap.size w w := Below.refl _ _
  go_enter Try.func43, Try.ntmps43
  go_wp2_with fail
  obtain ⟨V0, hV0⟩ : ∃ V0 : World, V0 = ((((w.alloc (.cells #[.bool true, .slice A k c] 37)).alloc (.cells #[.bool true, .slice D l d] 37)).alloc (.cells #[.bool false, .slice none 0 0] 37)).alloc (.cells #[.bool false, .slice none 0 0] 37)) := ⟨_, rfl⟩
  have bV0 : Below w.heap.size w V0 := by rw [hV0]; (repeat (first | with_reducible exact Below.refl _ _ | with_reducible refine Below.drew ?_ | with_reducible refine below_drewN ?_ _ | with_reducible refine Below.setCell ?_ (by first | (simp; done) | (simp; omega) | omega) _ | with_reducible refine Below.alloc ?_ (by first | (simp; done) | (simp; omega) | omega) _))
  have zV0 : w.heap.size + 4 ≤ V0.heap.size := by rw [hV0]; simp
  have PA : Bk2 V0 (w.heap.size) (.bool true) (.slice A k c) := by rw [hV0]; exact ((((Bk2.newAt _ _ (by simp) _ _ _).alloc _).alloc _).alloc _)
  have PB : Bk2 V0 (w.heap.size + 1) (.bool true) (.slice D l d) := by rw [hV0]; exact (((Bk2.newAt _ _ (by simp) _ _ _).alloc _).alloc _)
  have P1 : Bk2 V0 (w.heap.size + 2) (.bool false) (.slice none 0 0) := by rw [hV0]; exact ((Bk2.newAt _ _ (by simp) _ _ _).alloc _)
  have P2 : Bk2 V0 (w.heap.size + 3) (.bool false) (.slice none 0 0) := by rw [hV0]; exact (Bk2.newAt _ _ (by simp) _ _ _)
  rw [← hV0]
  clear hV0
  replace E : Below w.heap.size w V0 := E.trans (bV0.mono E.size)
  replace H : DRd V0 (B) A k c xs := H.below bV0 (by omega)
  replace K : DRd V0 (B) D l d ys := K.below bV0 (by omega)
  clear bV0
  (with_reducible refine (divideD_any _ B A D k l c d p v xs ys H K (by omega) hx.out hy.out hv hk hl).mono ?_)
  rintro e w1 ⟨A1, k1, c1, x1, A2, k2, c2, x2, rfl, hd1, hr1, hd2, hr2, hb1⟩
  have sw1 := hb1.size
  replace E : Below w.heap.size w w1 := E.trans (hb1.mono E.size)
  replace H : DRd w1 (B) A k c xs := H.below hb1 (by omega)
  replace K : DRd w1 (B) D l d ys := K.below hb1 (by omega)
  replace PA : Bk2 w1 (w.heap.size) (.bool true) (.slice A k c) := PA.below hb1 PA.lt
  replace PB : Bk2 w1 (w.heap.size + 1) (.bool true) (.slice D l d) := PB.below hb1 PB.lt
  replace P1 : Bk2 w1 (w.heap.size + 2) (.bool false) (.slice none 0 0) := P1.below hb1 P1.lt
  replace P2 : Bk2 w1 (w.heap.size + 3) (.bool false) (.slice none 0 0) := P2.below hb1 P2.lt
  clear hb1
  have R1 := Lib.hid hr1
  have R2 := Lib.hid hr2
  clear hr1 hr2
  have kc1 := hd1.cap
  have kc2 := hd2.cap
  have PA0 := PA.c0
  have PA1 := PA.c1
  have PAl := PA.lt
  have PB0 := PB.c0
  have PB1 := PB.c1
  have PBl := PB.lt
  have P10 := P1.c0
  have P11 := P1.c1
  have P1l := P1.lt
  have P1z0 := P1.z0
  have P1z1 := P1.z1
  have P20 := P2.c0
  have P21 := P2.c1
  have P2l := P2.lt
  have P2z0 := P2.z0
  have P2z1 := P2.z1
  go_upto_region 4 with fail
  go_region
  all_goals (go_wp2_with fail)
  clear PA0 PA1 PAl PB0 PB1 PBl P10 P11 P1l P1z0 P1z1 P20 P21 P2l P2z0 P2z1
  obtain ⟨U9P1, hU9P1⟩ : ∃ U9P1 : World, U9P1 = ((w1.setCell ⟨w.heap.size + 2, 0, none⟩ (.bool false)).setCell ⟨w.heap.size + 2, 1, none⟩ (.slice A1 k1 c1)) := ⟨_, rfl⟩
  have zU9P1 : U9P1.heap.size = w1.heap.size := by rw [hU9P1]; simp [World.setCell]
  replace E : Below w.heap.size w U9P1 := by rw [hU9P1]; exact (E.setCell (by first | (simp; done) | (simp; omega)) _).setCell (by first | (simp; done) | (simp; omega)) _
  replace H : DRd U9P1 (B) A k c xs := by rw [hU9P1]; first | exact H.setFar2 (by omega) _ _ | exact H.setBD P1 (by simp) (by simp) _ _
  replace K : DRd U9P1 (B) D l d ys := by rw [hU9P1]; first | exact K.setFar2 (by omega) _ _ | exact K.setBD P1 (by simp) (by simp) _ _
  replace PA : Bk2 U9P1 (w.heap.size) (.bool true) (.slice A k c) := by rw [hU9P1]; exact PA.far2 (by omega) _ _
  replace PB : Bk2 U9P1 (w.heap.size + 1) (.bool true) (.slice D l d) := by rw [hU9P1]; exact PB.far2 (by omega) _ _
  replace P2 : Bk2 U9P1 (w.heap.size + 3) (.bool false) (.slice none 0 0) := by rw [hU9P1]; exact P2.far2 (by omega) _ _
  replace hd1 : DRd U9P1 (w1.heap.size) A1 k1 c1 x1 := by rw [hU9P1]; first | exact hd1.setFar2 (by omega) _ _ | exact hd1.setBD P1 (by simp) (by simp) _ _
  replace hd2 : DRd U9P1 (w1.heap.size) A2 k2 c2 x2 := by rw [hU9P1]; first | exact hd2.setFar2 (by omega) _ _ | exact hd2.setBD P1 (by simp) (by simp) _ _
  replace P1 : Bk2 U9P1 (w.heap.size + 2) (.bool false) (.slice A1 k1 c1) := by rw [hU9P1]; exact P1.set _ _
  rw [← hU9P1]
  clear hU9P1
  have zU9P1' := Nat.le_of_eq zU9P1
  replace zU9P1 := Nat.le_of_eq zU9P1.symm
  obtain ⟨U9P2, hU9P2⟩ : ∃ U9P2 : World, U9P2 = ((U9P1.setCell ⟨w.heap.size + 3, 0, none⟩ (.bool true)).setCell ⟨w.heap.size + 3, 1, none⟩ (.slice A2 k2 c2)) := ⟨_, rfl⟩
  have zU9P2 : U9P2.heap.size = U9P1.heap.size := by rw [hU9P2]; simp [World.setCell]
  replace E : Below w.heap.size w U9P2 := by rw [hU9P2]; exact (E.setCell (by first | (simp; done) | (simp; omega)) _).setCell (by first | (simp; done) | (simp; omega)) _
  replace H : DRd U9P2 (B) A k c xs := by rw [hU9P2]; first | exact H.setFar2 (by omega) _ _ | exact H.setBD P2 (by simp) (by simp) _ _
  replace K : DRd U9P2 (B) D l d ys := by rw [hU9P2]; first | exact K.setFar2 (by omega) _ _ | exact K.setBD P2 (by simp) (by simp) _ _
  replace PA : Bk2 U9P2 (w.heap.size) (.bool true) (.slice A k c) := by rw [hU9P2]; exact PA.far2 (by omega) _ _
  replace PB : Bk2 U9P2 (w.heap.size + 1) (.bool true) (.slice D l d) := by rw [hU9P2]; exact PB.far2 (by omega) _ _
  replace P1 : Bk2 U9P2 (w.heap.size + 2) (.bool false) (.slice A1 k1 c1) := by rw [hU9P2]; exact P1.far2 (by omega) _ _
  replace hd1 : DRd U9P2 (w1.heap.size) A1 k1 c1 x1 := by rw [hU9P2]; first | exact hd1.setFar2 (by omega) _ _ | exact hd1.setBD P2 (by simp) (by simp) _ _
  replace hd2 : DRd U9P2 (w1.heap.size) A2 k2 c2 x2 := by rw [hU9P2]; first | exact hd2.setFar2 (by omega) _ _ | exact hd2.setBD P2 (by simp) (by simp) _ _
  replace P2 : Bk2 U9P2 (w.heap.size + 3) (.bool true) (.slice A2 k2 c2) := by rw [hU9P2]; exact P2.set _ _
  rw [← hU9P2]
  clear hU9P2
  have zU9P2' := Nat.le_of_eq zU9P2
  replace zU9P2 := Nat.le_of_eq zU9P2.symm
  have f0 := (P1.drew).c0
  have f1 := (P1.drew).c1
  have r0 := (P2.drew).c0
  have r1 := (P2.drew).c1
  refine bodyPost_ret (v := .tuple #[intv false A1 k1 c1, intv true A2 k2 c2]) (by simp [results, Try.results43, go_sem, f0, f1, r0, r1]) rfl ⟨_, _, _, _, _, _, _, _, _, _, _, _, _, _, rfl, ((hd1.keep (w' := World.drew U9P2) (fun _ _ => rfl)).more (by show w1.heap.size ≤ U9P2.heap.size; omega)), R1.out, rfl, ((hd2.keep (w' := World.drew U9P2) (fun _ _ => rfl)).more (by show w1.heap.size ≤ U9P2.heap.size; omega)), R2.out, rfl, floor_same hv, Below.drew E⟩
set_option maxHeartbeats 4000000 in
theorem floor_zf (w : World) (B : Nat) (A D : Option Addr) (k l c d p v : Nat) (xs ys : List Nat) (H : DRd w B A k c xs) (K : DRd w B D l d ys) (hB : B ≤ w.heap.size) (hx : Hid (Rep 65536 xs p)) (hy : Hid (Rep 65536 ys v)) (hv : 0 < v) (hk : k ≤ 100000) (hl : l ≤ 100000) (h0 : p % v = 0) :
    Calls Try.prog 43 #[intv false A k c, intv true D l d] w (FlPost (sval false p) (sval true v) w) := by
  have E : Below w.heap.size w w := Below.refl _ _
  go_enter Try.func43, Try.ntmps43
  go_wp2_with fail
  obtain ⟨V0, hV0⟩ : ∃ V0 : World, V0 = ((((w.alloc (.cells #[.bool false, .slice A k c] 37)).alloc (.cells #[.bool true, .slice D l d] 37)).alloc (.cells #[.bool false, .slice none 0 0] 37)).alloc (.cells #[.bool false, .slice none 0 0] 37)) := ⟨_, rfl⟩
  have bV0 : Below w.heap.size w V0 := by rw [hV0]; (repeat (first | with_reducible exact Below.refl _ _ | with_reducible refine Below.drew ?_ | with_reducible refine below_drewN ?_ _ | with_reducible refine Below.setCell ?_ (by first | (simp; done) | (simp; omega) | omega) _ | with_reducible refine Below.alloc ?_ (by first | (simp; done) | (simp; omega) | omega) _))
  have zV0 : w.heap.size + 4 ≤ V0.heap.size := by rw [hV0]; simp
  have PA : Bk2 V0 (w.heap.size) (.bool false) (.slice A k c) := by rw [hV0]; exact ((((Bk2.newAt _ _ (by simp) _ _ _).alloc _).alloc _).alloc _)
  have PB : Bk2 V0 (w.heap.size + 1) (.bool true) (.slice D l d) := by rw [hV0]; exact (((Bk2.newAt _ _ (by simp) _ _ _).alloc _).alloc _)
  have P1 : Bk2 V0 (w.heap.size + 2) (.bool false) (.slice none 0 0) := by rw [hV0]; exact ((Bk2.newAt _ _ (by simp) _ _ _).alloc _)
  have P2 : Bk2 V0 (w.heap.size + 3) (.bool false) (.slice none 0 0) := by rw [hV0]; exact (Bk2.newAt _ _ (by simp) _ _ _)
  rw [← hV0]
  clear hV0
  replace E : Below w.heap.size w V0 := E.trans (bV0.mono E.size)
  replace H : DRd V0 (B) A k c xs := H.below bV0 (by omega)
  replace K : DRd V0 (B) D l d ys := K.below bV0 (by omega)
  clear bV0
  (with_reducible refine (divideD_any _ B A D k l c d p v xs ys H K (by omega) hx.out hy.out hv hk hl).mono ?_)
  rintro e w1 ⟨A1, k1, c1, x1, A2, k2, c2, x2, rfl, hd1, hr1, hd2, hr2, hb1⟩
  have sw1 := hb1.size
  replace E : Below w.heap.size w w1 := E.trans (hb1.mono E.size)
  replace H : DRd w1 (B) A k c xs := H.below hb1 (by omega)
  replace K : DRd w1 (B) D l d ys := K.below hb1 (by omega)
  replace PA : Bk2 w1 (w.heap.size) (.bool false) (.slice A k c) := PA.below hb1 PA.lt
  replace PB : Bk2 w1 (w.heap.size + 1) (.bool true) (.slice D l d) := PB.below hb1 PB.lt
  replace P1 : Bk2 w1 (w.heap.size + 2) (.bool false) (.slice none 0 0) := P1.below hb1 P1.lt
  replace P2 : Bk2 w1 (w.heap.size + 3) (.bool false) (.slice none 0 0) := P2.below hb1 P2.lt
  clear hb1
  have R1 := Lib.hid hr1
  have R2 := Lib.hid hr2
  clear hr1 hr2
  have kc1 := hd1.cap
  have kc2 := hd2.cap
  have hz : p % v = 0 := h0
  have hk2 : k2 = 0 := (rep_iff R2.out hd2.len.out).2 hz
  subst hk2
  have PA0 := PA.c0
  have PA1 := PA.c1
  have PAl := PA.lt
  have PB0 := PB.c0
  have PB1 := PB.c1
  have PBl := PB.lt
  have P10 := P1.c0
  have P11 := P1.c1
  have P1l := P1.lt
  have P1z0 := P1.z0
  have P1z1 := P1.z1
  have P20 := P2.c0
  have P21 := P2.c1
  have P2l := P2.lt
  have P2z0 := P2.z0
  have P2z1 := P2.z1
  go_upto_region 4 with fail
  go_region
  all_goals (go_wp2_with fail)
  clear PA0 PA1 PAl PB0 PB1 PBl P10 P11 P1l P1z0 P1z1 P20 P21 P2l P2z0 P2z1
  obtain ⟨U9P1, hU9P1⟩ : ∃ U9P1 : World, U9P1 = ((w1.setCell ⟨w.heap.size + 2, 0, none⟩ (.bool true)).setCell ⟨w.heap.size + 2, 1, none⟩ (.slice A1 k1 c1)) := ⟨_, rfl⟩
  have zU9P1 : U9P1.heap.size = w1.heap.size := by rw [hU9P1]; simp [World.setCell]
  replace E : Below w.heap.size w U9P1 := by rw [hU9P1]; exact (E.setCell (by first | (simp; done) | (simp; omega)) _).setCell (by first | (simp; done) | (simp; omega)) _
  replace H : DRd U9P1 (B) A k c xs := by rw [hU9P1]; first | exact H.setFar2 (by omega) _ _ | exact H.setBD P1 (by simp) (by simp) _ _
  replace K : DRd U9P1 (B) D l d ys := by rw [hU9P1]; first | exact K.setFar2 (by omega) _ _ | exact K.setBD P1 (by simp) (by simp) _ _
  replace PA : Bk2 U9P1 (w.heap.size) (.bool false) (.slice A k c) := by rw [hU9P1]; exact PA.far2 (by omega) _ _
  replace PB : Bk2 U9P1 (w.heap.size + 1) (.bool true) (.slice D l d) := by rw [hU9P1]; exact PB.far2 (by omega) _ _
  replace P2 : Bk2 U9P1 (w.heap.size + 3) (.bool false) (.slice none 0 0) := by rw [hU9P1]; exact P2.far2 (by omega) _ _
  replace hd1 : DRd U9P1 (w1.heap.size) A1 k1 c1 x1 := by rw [hU9P1]; first | exact hd1.setFar2 (by omega) _ _ | exact hd1.setBD P1 (by simp) (by simp) _ _
  replace hd2 : DRd U9P1 (w1.heap.size) A2 0 c2 x2 := by rw [hU9P1]; first | exact hd2.setFar2 (by omega) _ _ | exact hd2.setBD P1 (by simp) (by simp) _ _
  replace P1 : Bk2 U9P1 (w.heap.size + 2) (.bool true) (.slice A1 k1 c1) := by rw [hU9P1]; exact P1.set _ _
  rw [← hU9P1]
  clear hU9P1
  have zU9P1' := Nat.le_of_eq zU9P1
  replace zU9P1 := Nat.le_of_eq zU9P1.symm
  obtain ⟨U9P2, hU9P2⟩ : ∃ U9P2 : World, U9P2 = ((U9P1.setCell ⟨w.heap.size + 3, 0, none⟩ (.bool true)).setCell ⟨w.heap.size + 3, 1, none⟩ (.slice A2 0 c2)) := ⟨_, rfl⟩
  have zU9P2 : U9P2.heap.size = U9P1.heap.size := by rw [hU9P2]; simp [World.setCell]
  replace E : Below w.heap.size w U9P2 := by rw [hU9P2]; exact (E.setCell (by first | (simp; done) | (simp; omega)) _).setCell (by first | (simp; done) | (simp; omega)) _
  replace H : DRd U9P2 (B) A k c xs := by rw [hU9P2]; first | exact H.setFar2 (by omega) _ _ | exact H.setBD P2 (by simp) (by simp) _ _
  replace K : DRd U9P2 (B) D l d ys := by rw [hU9P2]; first | exact K.setFar2 (by omega) _ _ | exact K.setBD P2 (by simp) (by simp) _ _
  replace PA : Bk2 U9P2 (w.heap.size) (.bool false) (.slice A k c) := by rw [hU9P2]; exact PA.far2 (by omega) _ _
  replace PB : Bk2 U9P2 (w.heap.size + 1) (.bool true) (.slice D l d) := by rw [hU9P2]; exact PB.far2 (by omega) _ _
  replace P1 : Bk2 U9P2 (w.heap.size + 2) (.bool true) (.slice A1 k1 c1) := by rw [hU9P2]; exact P1.far2 (by omega) _ _
  replace hd1 : DRd U9P2 (w1.heap.size) A1 k1 c1 x1 := by rw [hU9P2]; first | exact hd1.setFar2 (by omega) _ _ | exact hd1.setBD P2 (by simp) (by simp) _ _
  replace hd2 : DRd U9P2 (w1.heap.size) A2 0 c2 x2 := by rw [hU9P2]; first | exact hd2.setFar2 (by omega) _ _ | exact hd2.setBD P2 (by simp) (by simp) _ _
  replace P2 : Bk2 U9P2 (w.heap.size + 3) (.bool true) (.slice A2 0 c2) := by rw [hU9P2]; exact P2.set _ _
  rw [← hU9P2]
  clear hU9P2
  have zU9P2' := Nat.le_of_eq zU9P2
  replace zU9P2 := Nat.le_of_eq zU9P2.symm
  have f0 := (P1.drew).c0
  have f1 := (P1.drew).c1
  have r0 := (P2.drew).c0
  have r1 := (P2.drew).c1
  refine bodyPost_ret (v := .tuple #[intv true A1 k1 c1, intv true A2 0 c2]) (by simp [results, Try.results43, go_sem, f0, f1, r0, r1]) rfl ⟨_, _, _, _, _, _, _, _, _, _, _, _, _, _, rfl, ((hd1.keep (w' := World.drew U9P2) (fun _ _ => rfl)).more (by show w1.heap.size ≤ U9P2.heap.size; omega)), R1.out, rfl, ((hd2.keep (w' := World.drew U9P2) (fun _ _ => rfl)).more (by show w1.heap.size ≤ U9P2.heap.size; omega)), R2.out, rfl, (by have := floor_zero (m := false) (n := true) hv hz (by decide); rw [hz]; exact this), Below.drew E⟩
set_option maxHeartbeats 4000000 in
theorem floor_zt (w : World) (B : Nat) (A D : Option Addr) (k l c d p v : Nat) (xs ys : List Nat) (H : DRd w B A k c xs) (K : DRd w B D l d ys) (hB : B ≤ w.heap.size) (hx : Hid (Rep 65536 xs p)) (hy : Hid (Rep 65536 ys v)) (hv : 0 < v) (hk : k ≤ 100000) (hl : l ≤ 100000) (h0 : p % v = 0) :
    Calls Try.prog 43 #[intv true A k c, intv false D l d] w (FlPost (sval true p) (sval false v) w) := by
  have E : Below w.heap.size w w := Below.refl _ _
  go_enter Try.func43, Try.ntmps43
  go_wp2_with fail
  obtain ⟨V0, hV0⟩ : ∃ V0 : World, V0 = ((((w.alloc (.cells #[.bool true, .slice A k c] 37)).alloc (.cells #[.bool false, .slice D l d] 37)).alloc (.cells #[.bool false, .slice none 0 0] 37)).alloc (.cells #[.bool false, .slice none 0 0] 37)) := ⟨_, rfl⟩
  have bV0 : Below w.heap.size w V0 := by rw [hV0]; (repeat (first | with_reducible exact Below.refl _ _ | with_reducible refine Below.drew ?_ | with_reducible refine below_drewN ?_ _ | with_reducible refine Below.setCell ?_ (by first | (simp; done) | (simp; omega) | omega) _ | with_reducible refine Below.alloc ?_ (by first | (simp; done) | (simp; omega) | omega) _))
  have zV0 : w.heap.size + 4 ≤ V0.heap.size := by rw [hV0]; simp
  have PA : Bk2 V0 (w.heap.size) (.bool true) (.slice A k c) := by rw [hV0]; exact ((((Bk2.newAt _ _ (by simp) _ _ _).alloc _).alloc _).alloc _)
  have PB : Bk2 V0 (w.heap.size + 1) (.bool false) (.slice D l d) := by rw [hV0]; exact (((Bk2.newAt _ _ (by simp) _ _ _).alloc _).alloc _)
  have P1 : Bk2 V0 (w.heap.size + 2) (.bool false) (.slice none 0 0) := by rw [hV0]; exact ((Bk2.newAt _ _ (by simp) _ _ _).alloc _)
  have P2 : Bk2 V0 (w.heap.size + 3) (.bool false) (.slice none 0 0) := by rw [hV0]; exact (Bk2.newAt _ _ (by simp) _ _ _)
  rw [← hV0]
  clear hV0
  replace E : Below w.heap.size w V0 := E.trans (bV0.mono E.size)
  replace H : DRd V0 (B) A k c xs := H.below bV0 (by omega)
  replace K : DRd V0 (B) D l d ys := K.below bV0 (by omega)
  clear bV0
  (with_reducible refine (divideD_any _ B A D k l c d p v xs ys H K (by omega) hx.out hy.out hv hk hl).mono ?_)
  rintro e w1 ⟨A1, k1, c1, x1, A2, k2, c2, x2, rfl, hd1, hr1, hd2, hr2, hb1⟩
  have sw1 := hb1.size
  replace E : Below w.heap.size w w1 := E.trans (hb1.mono E.size)
  replace H : DRd w1 (B) A k c xs := H.below hb1 (by omega)
  replace K : DRd w1 (B) D l d ys := K.below hb1 (by omega)
  replace PA : Bk2 w1 (w.heap.size) (.bool true) (.slice A k c) := PA.below hb1 PA.lt
  replace PB : Bk2 w1 (w.heap.size + 1) (.bool false) (.slice D l d) := PB.below hb1 PB.lt
  replace P1 : Bk2 w1 (w.heap.size + 2) (.bool false) (.slice none 0 0) := P1.below hb1 P1.lt
  replace P2 : Bk2 w1 (w.heap.size + 3) (.bool false) (.slice none 0 0) := P2.below hb1 P2.lt
  clear hb1
  have R1 := Lib.hid hr1
  have R2 := Lib.hid hr2
  clear hr1 hr2
  have kc1 := hd1.cap
  have kc2 := hd2.cap
  have hz : p % v = 0 := h0
  have hk2 : k2 = 0 := (rep_iff R2.out hd2.len.out).2 hz
  subst hk2
  have PA0 := PA.c0
  have PA1 := PA.c1
  have PAl := PA.lt
  have PB0 := PB.c0
  have PB1 := PB.c1
  have PBl := PB.lt
  have P10 := P1.c0
  have P11 := P1.c1
  have P1l := P1.lt
  have P1z0 := P1.z0
  have P1z1 := P1.z1
  have P20 := P2.c0
  have P21 := P2.c1
  have P2l := P2.lt
  have P2z0 := P2.z0
  have P2z1 := P2.z1
  go_upto_region 4 with fail
  go_region
  all_goals (go_wp2_with fail)
  clear PA0 PA1 PAl PB0 PB1 PBl P10 P11 P1l P1z0 P1z1 P20 P21 P2l P2z0 P2z1
  obtain ⟨U9P1, hU9P1⟩ : ∃ U9P1 : World, U9P1 = ((w1.setCell ⟨w.heap.size + 2, 0, none⟩ (.bool true)).setCell ⟨w.heap.size + 2, 1, none⟩ (.slice A1 k1 c1)) := ⟨_, rfl⟩
  have zU9P1 : U9P1.heap.size = w1.heap.size := by rw [hU9P1]; simp [World.setCell]
  replace E : Below w.heap.size w U9P1 := by rw [hU9P1]; exact (E.setCell (by first | (simp; done) | (simp; omega)) _).setCell (by first | (simp; done) | (simp; omega)) _
  replace H : DRd U9P1 (B) A k c xs := by rw [hU9P1]; first | exact H.setFar2 (by omega) _ _ | exact H.setBD P1 (by simp) (by simp) _ _
  replace K : DRd U9P1 (B) D l d ys := by rw [hU9P1]; first | exact K.setFar2 (by omega) _ _ | exact K.setBD P1 (by simp) (by simp) _ _
  replace PA : Bk2 U9P1 (w.heap.size) (.bool true) (.slice A k c) := by rw [hU9P1]; exact PA.far2 (by omega) _ _
  replace PB : Bk2 U9P1 (w.heap.size + 1) (.bool false) (.slice D l d) := by rw [hU9P1]; exact PB.far2 (by omega) _ _
  replace P2 : Bk2 U9P1 (w.heap.size + 3) (.bool false) (.slice none 0 0) := by rw [hU9P1]; exact P2.far2 (by omega) _ _
  replace hd1 : DRd U9P1 (w1.heap.size) A1 k1 c1 x1 := by rw [hU9P1]; first | exact hd1.setFar2 (by omega) _ _ | exact hd1.setBD P1 (by simp) (by simp) _ _
  replace hd2 : DRd U9P1 (w1.heap.size) A2 0 c2 x2 := by rw [hU9P1]; first | exact hd2.setFar2 (by omega) _ _ | exact hd2.setBD P1 (by simp) (by simp) _ _
  replace P1 : Bk2 U9P1 (w.heap.size + 2) (.bool true) (.slice A1 k1 c1) := by rw [hU9P1]; exact P1.set _ _
  rw [← hU9P1]
  clear hU9P1
  have zU9P1' := Nat.le_of_eq zU9P1
  replace zU9P1 := Nat.le_of_eq zU9P1.symm
  obtain ⟨U9P2, hU9P2⟩ : ∃ U9P2 : World, U9P2 = ((U9P1.setCell ⟨w.heap.size + 3, 0, none⟩ (.bool false)).setCell ⟨w.heap.size + 3, 1, none⟩ (.slice A2 0 c2)) := ⟨_, rfl⟩
  have zU9P2 : U9P2.heap.size = U9P1.heap.size := by rw [hU9P2]; simp [World.setCell]
  replace E : Below w.heap.size w U9P2 := by rw [hU9P2]; exact (E.setCell (by first | (simp; done) | (simp; omega)) _).setCell (by first | (simp; done) | (simp; omega)) _
  replace H : DRd U9P2 (B) A k c xs := by rw [hU9P2]; first | exact H.setFar2 (by omega) _ _ | exact H.setBD P2 (by simp) (by simp) _ _
  replace K : DRd U9P2 (B) D l d ys := by rw [hU9P2]; first | exact K.setFar2 (by omega) _ _ | exact K.setBD P2 (by simp) (by simp) _ _
  replace PA : Bk2 U9P2 (w.heap.size) (.bool true) (.slice A k c) := by rw [hU9P2]; exact PA.far2 (by omega) _ _
  replace PB : Bk2 U9P2 (w.heap.size + 1) (.bool false) (.slice D l d) := by rw [hU9P2]; exact PB.far2 (by omega) _ _
  replace P1 : Bk2 U9P2 (w.heap.size + 2) (.bool true) (.slice A1 k1 c1) := by rw [hU9P2]; exact P1.far2 (by omega) _ _
  replace hd1 : DRd U9P2 (w1.heap.size) A1 k1 c1 x1 := by rw [hU9P2]; first | exact hd1.setFar2 (by omega) _ _ | exact hd1.setBD P2 (by simp) (by simp) _ _
  replace hd2 : DRd U9P2 (w1.heap.size) A2 0 c2 x2 := by rw [hU9P2]; first | exact hd2.setFar2 (by omega) _ _ | exact hd2.setBD P2 (by simp) (by simp) _ _
  replace P2 : Bk2 U9P2 (w.heap.size + 3) (.bool false) (.slice A2 0 c2) := by rw [hU9P2]; exact P2.set _ _
  rw [← hU9P2]
  clear hU9P2
  have zU9P2' := Nat.le_of_eq zU9P2
  replace zU9P2 := Nat.le_of_eq zU9P2.symm
  have f0 := (P1.drew).c0
  have f1 := (P1.drew).c1
  have r0 := (P2.drew).c0
  have r1 := (P2.drew).c1
  refine bodyPost_ret (v := .tuple #[intv true A1 k1 c1, intv false A2 0 c2]) (by simp [results, Try.results43, go_sem, f0, f1, r0, r1]) rfl ⟨_, _, _, _, _, _, _, _, _, _, _, _, _, _, rfl, ((hd1.keep (w' := World.drew U9P2) (fun _ _ => rfl)).more (by show w1.heap.size ≤ U9P2.heap.size; omega)), R1.out, rfl, ((hd2.keep (w' := World.drew U9P2) (fun _ _ => rfl)).more (by show w1.heap.size ≤ U9P2.heap.size; omega)), R2.out, rfl, (by have := floor_zero (m := true) (n := false) hv hz (by decide); rw [hz]; exact this), Below.drew E⟩
end Go.Proofs.Ytpidkionieaffaa
