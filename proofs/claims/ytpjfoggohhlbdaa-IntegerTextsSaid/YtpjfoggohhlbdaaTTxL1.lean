/- IntegerTexts: the law, where the integer is refused. -/
import Derived.Test.YtpjfoggohhlbdaaTTxt8
import Derived.Test.YtpjfoggohhlbdaaTAri1
import Derived.Deep.RegionHeld3
import Derived.Deep.DeepCutAuto
namespace Go.Proofs.Ytpjfoggohhlbdaa
open Go.RowKit
set_option maxHeartbeats 400000
set_option maxRecDepth 100000
set_option linter.unusedSimpArgs false
set_option linter.unusedVariables false

set_option maxHeartbeats 8000000 in
theorem txt_bb1 (w : World) (a : IV) (y : Int) (s : ByteArray) (hs9 : s.size ≤ 9223372036854775807) (HA : a.at w w.heap.size) (na : a.ok = false) (hy1 : y < 2) :
    Calls Try.prog 8 #[a.v, .int .i64 y, .string s] w (fun e w' => e = .returned (.bool true) ∧ Below w.heap.size w w') := by
  have hs8 : (s.size : Int) ≤ 9223372036854775807 := by omega
  replace HA : LRd w w.heap.size a.A a.n a.c a.xs := HA
  have VA : ivld a.neg a.xs = false := na
  have hx : ffault [a] 0 = (6, -1) := by show (if a.ok = true then _ else _) = _; rw [na]; rfl
  have HY := Lib.hid (show y < 2 ∨ 36 < y by omega)
  have E : Below w.heap.size w w := Below.refl _ _
  go_enter Try.func8, Try.ntmps8
  go_wp2_with fail
  obtain ⟨V0, hV0⟩ : ∃ V0 : World, V0 = (w.alloc (.cells #[.bool a.neg, .slice a.A a.n a.c] 24)) := ⟨_, rfl⟩
  have bV0 : Below w.heap.size w V0 := by rw [hV0]; (repeat (first | with_reducible exact Below.refl _ _ | with_reducible refine Below.drew ?_ | with_reducible refine below_drewN ?_ _ | with_reducible refine Below.setCell ?_ (by first | (simp; done) | (simp; omega) | omega) _ | with_reducible refine Below.alloc ?_ (by first | (simp; done) | (simp; omega) | omega) _))
  have zV0 : w.heap.size + 1 ≤ V0.heap.size := by rw [hV0]; simp
  have PA : Bk2 V0 (w.heap.size) (.bool a.neg) (.slice a.A a.n a.c) := by rw [hV0]; exact (Bk2.newAt _ _ (by simp) _ _ _)
  rw [← hV0]
  clear hV0
  replace E : Below w.heap.size w V0 := E.trans (bV0.mono E.size)
  replace HA : LRd V0 (w.heap.size) a.A a.n a.c a.xs := HA.below bV0 (by omega)
  clear bV0
  refine (itext_bad1 _ w.heap.size a y HA (by omega) (-1) hx).mono ?_
  rintro e w1 ⟨rfl, hb1⟩
  have sw1 := hb1.size
  replace E : Below w.heap.size w w1 := E.trans (hb1.mono E.size)
  replace HA : LRd w1 (w.heap.size) a.A a.n a.c a.xs := HA.below hb1 (by omega)
  replace PA : Bk2 w1 (w.heap.size) (.bool a.neg) (.slice a.A a.n a.c) := PA.below hb1 PA.lt
  clear hb1
  go_wp2_with fail
  obtain ⟨V1, hV1⟩ : ∃ V1 : World, V1 = (w1.alloc (.cells #[.int .i64 6, .int .i64 (-1)] 26)) := ⟨_, rfl⟩
  have bV1 : Below w1.heap.size w1 V1 := by rw [hV1]; (repeat (first | with_reducible exact Below.refl _ _ | with_reducible refine Below.drew ?_ | with_reducible refine below_drewN ?_ _ | with_reducible refine Below.setCell ?_ (by first | (simp; done) | (simp; omega) | omega) _ | with_reducible refine Below.alloc ?_ (by first | (simp; done) | (simp; omega) | omega) _))
  have zV1 : w1.heap.size + 1 ≤ V1.heap.size := by rw [hV1]; simp
  have FT : Bk2 V1 (w1.heap.size) (.int .i64 6) (.int .i64 (-1)) := by rw [hV1]; exact (Bk2.newAt _ _ (by simp) _ _ _)
  rw [← hV1]
  clear hV1
  replace E : Below w.heap.size w V1 := E.trans (bV1.mono E.size)
  replace HA : LRd V1 (w.heap.size) a.A a.n a.c a.xs := HA.below bV1 (by omega)
  replace PA : Bk2 V1 (w.heap.size) (.bool a.neg) (.slice a.A a.n a.c) := PA.below bV1 PA.lt
  clear bV1
  refine (iparse_base _ s y HY.out).mono ?_
  rintro e w2 ⟨m4, A4, k4, c4, x4, rfl, hl4, hr4, hb4⟩
  obtain ⟨rfl, rfl⟩ := irep_nilT hr4 hl4.len.out
  have sw2 := hb4.size
  clear hl4 hr4
  replace E : Below w.heap.size w w2 := E.trans (hb4.mono E.size)
  replace HA : LRd w2 (w.heap.size) a.A a.n a.c a.xs := HA.below hb4 (by omega)
  replace PA : Bk2 w2 (w.heap.size) (.bool a.neg) (.slice a.A a.n a.c) := PA.below hb4 PA.lt
  replace FT : Bk2 w2 (w1.heap.size) (.int .i64 6) (.int .i64 (-1)) := FT.below hb4 FT.lt
  clear hb4
  go_wp2_with fail
  obtain ⟨V2, hV2⟩ : ∃ V2 : World, V2 = ((w2.alloc (.cells #[.bool false, .slice A4 0 c4] 24)).alloc (.cells #[.int .i64 4, .int .i64 (-2)] 26)) := ⟨_, rfl⟩
  have bV2 : Below w2.heap.size w2 V2 := by rw [hV2]; (repeat (first | with_reducible exact Below.refl _ _ | with_reducible refine Below.drew ?_ | with_reducible refine below_drewN ?_ _ | with_reducible refine Below.setCell ?_ (by first | (simp; done) | (simp; omega) | omega) _ | with_reducible refine Below.alloc ?_ (by first | (simp; done) | (simp; omega) | omega) _))
  have zV2 : w2.heap.size + 2 ≤ V2.heap.size := by rw [hV2]; simp
  have PX : Bk2 V2 (w2.heap.size) (.bool false) (.slice A4 0 c4) := by rw [hV2]; exact ((Bk2.newAt _ _ (by simp) _ _ _).alloc _)
  have FX : Bk2 V2 (w2.heap.size + 1) (.int .i64 4) (.int .i64 (-2)) := by rw [hV2]; exact (Bk2.newAt _ _ (by simp) _ _ _)
  rw [← hV2]
  clear hV2
  replace E : Below w.heap.size w V2 := E.trans (bV2.mono E.size)
  replace HA : LRd V2 (w.heap.size) a.A a.n a.c a.xs := HA.below bV2 (by omega)
  replace PA : Bk2 V2 (w.heap.size) (.bool a.neg) (.slice a.A a.n a.c) := PA.below bV2 PA.lt
  replace FT : Bk2 V2 (w1.heap.size) (.int .i64 6) (.int .i64 (-1)) := FT.below bV2 FT.lt
  clear bV2
  (with_reducible refine (counts_any _).mono ?_)
  rintro e w3 ⟨rfl, hb3⟩
  have sw3 := hb3.size
  replace E : Below w.heap.size w w3 := E.trans (hb3.mono E.size)
  replace HA : LRd w3 (w.heap.size) a.A a.n a.c a.xs := HA.below hb3 (by omega)
  replace PA : Bk2 w3 (w.heap.size) (.bool a.neg) (.slice a.A a.n a.c) := PA.below hb3 PA.lt
  replace FT : Bk2 w3 (w1.heap.size) (.int .i64 6) (.int .i64 (-1)) := FT.below hb3 FT.lt
  replace PX : Bk2 w3 (w2.heap.size) (.bool false) (.slice A4 0 c4) := PX.below hb3 PX.lt
  replace FX : Bk2 w3 (w2.heap.size + 1) (.int .i64 4) (.int .i64 (-2)) := FX.below hb3 FX.lt
  clear hb3
  have t_PA0 : (w3.alloc (.cells #[.int .i64 0, .int .i64 0] 26)).cell? ⟨w.heap.size, 0, none⟩ = some ((.bool a.neg)) := (PA.alloc _).c0
  have t_PA1 : (w3.alloc (.cells #[.int .i64 0, .int .i64 0] 26)).cell? ⟨w.heap.size, 1, none⟩ = some ((.slice a.A a.n a.c)) := (PA.alloc _).c1
  go_wp2_with fail
  clear t_PA0 t_PA1
  obtain ⟨V3, hV3⟩ : ∃ V3 : World, V3 = (w3.alloc (.cells #[.int .i64 0, .int .i64 0] 26)) := ⟨_, rfl⟩
  have bV3 : Below w3.heap.size w3 V3 := by rw [hV3]; (repeat (first | with_reducible exact Below.refl _ _ | with_reducible refine Below.drew ?_ | with_reducible refine below_drewN ?_ _ | with_reducible refine Below.setCell ?_ (by first | (simp; done) | (simp; omega) | omega) _ | with_reducible refine Below.alloc ?_ (by first | (simp; done) | (simp; omega) | omega) _))
  have zV3 : w3.heap.size + 1 ≤ V3.heap.size := by rw [hV3]; simp
  have FW : Bk2 V3 (w3.heap.size) (.int .i64 0) (.int .i64 0) := by rw [hV3]; exact (Bk2.newAt _ _ (by simp) _ _ _)
  rw [← hV3]
  clear hV3
  replace E : Below w.heap.size w V3 := E.trans (bV3.mono E.size)
  replace HA : LRd V3 (w.heap.size) a.A a.n a.c a.xs := HA.below bV3 (by omega)
  replace PA : Bk2 V3 (w.heap.size) (.bool a.neg) (.slice a.A a.n a.c) := PA.below bV3 PA.lt
  replace FT : Bk2 V3 (w1.heap.size) (.int .i64 6) (.int .i64 (-1)) := FT.below bV3 FT.lt
  replace PX : Bk2 V3 (w2.heap.size) (.bool false) (.slice A4 0 c4) := PX.below bV3 PX.lt
  replace FX : Bk2 V3 (w2.heap.size + 1) (.int .i64 4) (.int .i64 (-2)) := FX.below bV3 FX.lt
  clear bV3
  (with_reducible refine (intOk_any _ w.heap.size a.neg a.A a.n a.c a.xs HA (by omega)).mono ?_)
  rintro e w5 ⟨rfl, hb5⟩
  have sw5 := hb5.size
  replace E : Below w.heap.size w w5 := E.trans (hb5.mono E.size)
  replace HA : LRd w5 (w.heap.size) a.A a.n a.c a.xs := HA.below hb5 (by omega)
  replace PA : Bk2 w5 (w.heap.size) (.bool a.neg) (.slice a.A a.n a.c) := PA.below hb5 PA.lt
  replace FT : Bk2 w5 (w1.heap.size) (.int .i64 6) (.int .i64 (-1)) := FT.below hb5 FT.lt
  replace PX : Bk2 w5 (w2.heap.size) (.bool false) (.slice A4 0 c4) := PX.below hb5 PX.lt
  replace FX : Bk2 w5 (w2.heap.size + 1) (.int .i64 4) (.int .i64 (-2)) := FX.below hb5 FX.lt
  replace FW : Bk2 w5 (w3.heap.size) (.int .i64 0) (.int .i64 0) := FW.below hb5 FW.lt
  clear hb5
  rw [VA]
  clear HA
  go_wp2_with fail
  (with_reducible refine (at_any _ _ _).mono ?_)
  rintro e w6 ⟨rfl, hb6⟩
  have sw6 := hb6.size
  replace E : Below w.heap.size w w6 := E.trans (hb6.mono E.size)
  replace PA : Bk2 w6 (w.heap.size) (.bool a.neg) (.slice a.A a.n a.c) := PA.below hb6 PA.lt
  replace FT : Bk2 w6 (w1.heap.size) (.int .i64 6) (.int .i64 (-1)) := FT.below hb6 FT.lt
  replace PX : Bk2 w6 (w2.heap.size) (.bool false) (.slice A4 0 c4) := PX.below hb6 PX.lt
  replace FX : Bk2 w6 (w2.heap.size + 1) (.int .i64 4) (.int .i64 (-2)) := FX.below hb6 FX.lt
  replace FW : Bk2 w6 (w3.heap.size) (.int .i64 0) (.int .i64 0) := FW.below hb6 FW.lt
  clear hb6
  have y_FW0 : w6.cell? ⟨w3.heap.size, 0, none⟩ = some ((.int .i64 0)) := FW.c0
  have z_FW0 : w6.frozen? ⟨w3.heap.size, 0, none⟩ = false := FW.z0
  have y_FW1 : w6.cell? ⟨w3.heap.size, 1, none⟩ = some ((.int .i64 0)) := FW.c1
  have z_FW1 : w6.frozen? ⟨w3.heap.size, 1, none⟩ = false := FW.z1
  have lt_FW := FW.lt
  have t_FT0 : w6.cell? ⟨w1.heap.size, 0, none⟩ = some ((.int .i64 6)) := FT.c0
  have t_FT1 : w6.cell? ⟨w1.heap.size, 1, none⟩ = some ((.int .i64 (-1))) := FT.c1
  have lt_FT := FT.lt
  go_wp2_with fail
  clear y_FW0 z_FW0 y_FW1 z_FW1 lt_FW t_FT0 t_FT1 lt_FT
  obtain ⟨U5FW, hU5FW⟩ : ∃ U5FW : World, U5FW = ((w6.setCell ⟨w3.heap.size, 0, none⟩ (.int .i64 6)).setCell ⟨w3.heap.size, 1, none⟩ (.int .i64 (-1))) := ⟨_, rfl⟩
  have zU5FW : U5FW.heap.size = w6.heap.size := by rw [hU5FW]; simp [World.setCell]
  replace E : Below w.heap.size w U5FW := by rw [hU5FW]; exact (E.setCell (by first | (simp; done) | (simp; omega)) _).setCell (by first | (simp; done) | (simp; omega)) _
  replace PA : Bk2 U5FW (w.heap.size) (.bool a.neg) (.slice a.A a.n a.c) := by rw [hU5FW]; exact PA.far2 (by omega) _ _
  replace FT : Bk2 U5FW (w1.heap.size) (.int .i64 6) (.int .i64 (-1)) := by rw [hU5FW]; exact FT.far2 (by omega) _ _
  replace PX : Bk2 U5FW (w2.heap.size) (.bool false) (.slice A4 0 c4) := by rw [hU5FW]; exact PX.far2 (by omega) _ _
  replace FX : Bk2 U5FW (w2.heap.size + 1) (.int .i64 4) (.int .i64 (-2)) := by rw [hU5FW]; exact FX.far2 (by omega) _ _
  replace FW : Bk2 U5FW (w3.heap.size) (.int .i64 6) (.int .i64 (-1)) := by rw [hU5FW]; exact FW.set _ _
  rw [← hU5FW]
  clear hU5FW
  have zU5FW' := Nat.le_of_eq zU5FW
  replace zU5FW := Nat.le_of_eq zU5FW.symm
  clear PA
  clear FT
  clear FW
  have sz9 := PX.lt
  have G0 : Below U5FW.heap.size U5FW U5FW.drew := Below.drew (Below.refl _ _)
  have HS := Lib.hid (fun (u : World) (hu : Below U5FW.heap.size U5FW u) => (⟨hu, (PX.below hu PX.lt).c0, (PX.below hu PX.lt).c1, (FX.below hu FX.lt).c0, (FX.below hu FX.lt).c1⟩ : Below U5FW.heap.size U5FW u ∧ u.cell? ⟨w2.heap.size, 0, none⟩ = some (.bool false) ∧ u.cell? ⟨w2.heap.size, 1, none⟩ = some (.slice A4 0 c4) ∧ u.cell? ⟨w2.heap.size + 1, 0, none⟩ = some (.int .i64 4) ∧ u.cell? ⟨w2.heap.size + 1, 1, none⟩ = some (.int .i64 (-2))))
  go_region_held3 (fun u => Below U5FW.heap.size U5FW u ∧ u.cell? ⟨w2.heap.size, 0, none⟩ = some (.bool false) ∧ u.cell? ⟨w2.heap.size, 1, none⟩ = some (.slice A4 0 c4) ∧ u.cell? ⟨w2.heap.size + 1, 0, none⟩ = some (.int .i64 4) ∧ u.cell? ⟨w2.heap.size + 1, 1, none⟩ = some (.int .i64 (-2))) (first | with_reducible exact HS.out _ G0 | with_reducible exact HS.out _ B2 | with_reducible exact HS.out _ B1 | fail)
    (first
      | (go_at_call 25; (with_reducible refine (at_any _ _ _).mono ?_); rintro e y1 ⟨rfl, hb1⟩; have B1 : Below U5FW.heap.size U5FW y1 := bnext G0 hb1)
      | (go_at_call 26; (with_reducible refine (noInt_any _ false A4 0 c4 (by omega)).mono ?_); rintro e y2 ⟨rfl, hb2⟩; have B2 : Below U5FW.heap.size U5FW y2 := bnext B1 hb2; rw [show (!false && decide (0 = 0)) = true from rfl])
      | fail)
  all_goals (go_wp2_with fail)
  all_goals go_ret
  all_goals exact ⟨by first | rfl | (simp; done), E.trans (B2.mono E.size)⟩
set_option maxHeartbeats 8000000 in
theorem txt_bb2 (w : World) (a : IV) (y : Int) (s : ByteArray) (hs9 : s.size ≤ 9223372036854775807) (HA : a.at w w.heap.size) (na : a.ok = false) (hy1 : 2 ≤ y) (hy2 : 36 < y) :
    Calls Try.prog 8 #[a.v, .int .i64 y, .string s] w (fun e w' => e = .returned (.bool true) ∧ Below w.heap.size w w') := by
  have hs8 : (s.size : Int) ≤ 9223372036854775807 := by omega
  replace HA : LRd w w.heap.size a.A a.n a.c a.xs := HA
  have VA : ivld a.neg a.xs = false := na
  have hx : ffault [a] 0 = (6, -1) := by show (if a.ok = true then _ else _) = _; rw [na]; rfl
  have hd36 : decide (y ≤ 36) = false := decide_eq_false (by omega)
  have HY := Lib.hid (show y < 2 ∨ 36 < y by omega)
  have E : Below w.heap.size w w := Below.refl _ _
  go_enter Try.func8, Try.ntmps8
  go_wp2_with fail
  obtain ⟨V0, hV0⟩ : ∃ V0 : World, V0 = (w.alloc (.cells #[.bool a.neg, .slice a.A a.n a.c] 24)) := ⟨_, rfl⟩
  have bV0 : Below w.heap.size w V0 := by rw [hV0]; (repeat (first | with_reducible exact Below.refl _ _ | with_reducible refine Below.drew ?_ | with_reducible refine below_drewN ?_ _ | with_reducible refine Below.setCell ?_ (by first | (simp; done) | (simp; omega) | omega) _ | with_reducible refine Below.alloc ?_ (by first | (simp; done) | (simp; omega) | omega) _))
  have zV0 : w.heap.size + 1 ≤ V0.heap.size := by rw [hV0]; simp
  have PA : Bk2 V0 (w.heap.size) (.bool a.neg) (.slice a.A a.n a.c) := by rw [hV0]; exact (Bk2.newAt _ _ (by simp) _ _ _)
  rw [← hV0]
  clear hV0
  replace E : Below w.heap.size w V0 := E.trans (bV0.mono E.size)
  replace HA : LRd V0 (w.heap.size) a.A a.n a.c a.xs := HA.below bV0 (by omega)
  clear bV0
  refine (itext_bad1 _ w.heap.size a y HA (by omega) (-1) hx).mono ?_
  rintro e w1 ⟨rfl, hb1⟩
  have sw1 := hb1.size
  replace E : Below w.heap.size w w1 := E.trans (hb1.mono E.size)
  replace HA : LRd w1 (w.heap.size) a.A a.n a.c a.xs := HA.below hb1 (by omega)
  replace PA : Bk2 w1 (w.heap.size) (.bool a.neg) (.slice a.A a.n a.c) := PA.below hb1 PA.lt
  clear hb1
  go_wp2_with fail
  obtain ⟨V1, hV1⟩ : ∃ V1 : World, V1 = (w1.alloc (.cells #[.int .i64 6, .int .i64 (-1)] 26)) := ⟨_, rfl⟩
  have bV1 : Below w1.heap.size w1 V1 := by rw [hV1]; (repeat (first | with_reducible exact Below.refl _ _ | with_reducible refine Below.drew ?_ | with_reducible refine below_drewN ?_ _ | with_reducible refine Below.setCell ?_ (by first | (simp; done) | (simp; omega) | omega) _ | with_reducible refine Below.alloc ?_ (by first | (simp; done) | (simp; omega) | omega) _))
  have zV1 : w1.heap.size + 1 ≤ V1.heap.size := by rw [hV1]; simp
  have FT : Bk2 V1 (w1.heap.size) (.int .i64 6) (.int .i64 (-1)) := by rw [hV1]; exact (Bk2.newAt _ _ (by simp) _ _ _)
  rw [← hV1]
  clear hV1
  replace E : Below w.heap.size w V1 := E.trans (bV1.mono E.size)
  replace HA : LRd V1 (w.heap.size) a.A a.n a.c a.xs := HA.below bV1 (by omega)
  replace PA : Bk2 V1 (w.heap.size) (.bool a.neg) (.slice a.A a.n a.c) := PA.below bV1 PA.lt
  clear bV1
  refine (iparse_base _ s y HY.out).mono ?_
  rintro e w2 ⟨m4, A4, k4, c4, x4, rfl, hl4, hr4, hb4⟩
  obtain ⟨rfl, rfl⟩ := irep_nilT hr4 hl4.len.out
  have sw2 := hb4.size
  clear hl4 hr4
  replace E : Below w.heap.size w w2 := E.trans (hb4.mono E.size)
  replace HA : LRd w2 (w.heap.size) a.A a.n a.c a.xs := HA.below hb4 (by omega)
  replace PA : Bk2 w2 (w.heap.size) (.bool a.neg) (.slice a.A a.n a.c) := PA.below hb4 PA.lt
  replace FT : Bk2 w2 (w1.heap.size) (.int .i64 6) (.int .i64 (-1)) := FT.below hb4 FT.lt
  clear hb4
  go_wp2_with fail
  obtain ⟨V2, hV2⟩ : ∃ V2 : World, V2 = ((w2.alloc (.cells #[.bool false, .slice A4 0 c4] 24)).alloc (.cells #[.int .i64 4, .int .i64 (-2)] 26)) := ⟨_, rfl⟩
  have bV2 : Below w2.heap.size w2 V2 := by rw [hV2]; (repeat (first | with_reducible exact Below.refl _ _ | with_reducible refine Below.drew ?_ | with_reducible refine below_drewN ?_ _ | with_reducible refine Below.setCell ?_ (by first | (simp; done) | (simp; omega) | omega) _ | with_reducible refine Below.alloc ?_ (by first | (simp; done) | (simp; omega) | omega) _))
  have zV2 : w2.heap.size + 2 ≤ V2.heap.size := by rw [hV2]; simp
  have PX : Bk2 V2 (w2.heap.size) (.bool false) (.slice A4 0 c4) := by rw [hV2]; exact ((Bk2.newAt _ _ (by simp) _ _ _).alloc _)
  have FX : Bk2 V2 (w2.heap.size + 1) (.int .i64 4) (.int .i64 (-2)) := by rw [hV2]; exact (Bk2.newAt _ _ (by simp) _ _ _)
  rw [← hV2]
  clear hV2
  replace E : Below w.heap.size w V2 := E.trans (bV2.mono E.size)
  replace HA : LRd V2 (w.heap.size) a.A a.n a.c a.xs := HA.below bV2 (by omega)
  replace PA : Bk2 V2 (w.heap.size) (.bool a.neg) (.slice a.A a.n a.c) := PA.below bV2 PA.lt
  replace FT : Bk2 V2 (w1.heap.size) (.int .i64 6) (.int .i64 (-1)) := FT.below bV2 FT.lt
  clear bV2
  (with_reducible refine (counts_any _).mono ?_)
  rintro e w3 ⟨rfl, hb3⟩
  have sw3 := hb3.size
  replace E : Below w.heap.size w w3 := E.trans (hb3.mono E.size)
  replace HA : LRd w3 (w.heap.size) a.A a.n a.c a.xs := HA.below hb3 (by omega)
  replace PA : Bk2 w3 (w.heap.size) (.bool a.neg) (.slice a.A a.n a.c) := PA.below hb3 PA.lt
  replace FT : Bk2 w3 (w1.heap.size) (.int .i64 6) (.int .i64 (-1)) := FT.below hb3 FT.lt
  replace PX : Bk2 w3 (w2.heap.size) (.bool false) (.slice A4 0 c4) := PX.below hb3 PX.lt
  replace FX : Bk2 w3 (w2.heap.size + 1) (.int .i64 4) (.int .i64 (-2)) := FX.below hb3 FX.lt
  clear hb3
  have t_PA0 : (w3.alloc (.cells #[.int .i64 0, .int .i64 0] 26)).cell? ⟨w.heap.size, 0, none⟩ = some ((.bool a.neg)) := (PA.alloc _).c0
  have t_PA1 : (w3.alloc (.cells #[.int .i64 0, .int .i64 0] 26)).cell? ⟨w.heap.size, 1, none⟩ = some ((.slice a.A a.n a.c)) := (PA.alloc _).c1
  go_wp2_with fail
  clear t_PA0 t_PA1
  obtain ⟨V3, hV3⟩ : ∃ V3 : World, V3 = (w3.alloc (.cells #[.int .i64 0, .int .i64 0] 26)) := ⟨_, rfl⟩
  have bV3 : Below w3.heap.size w3 V3 := by rw [hV3]; (repeat (first | with_reducible exact Below.refl _ _ | with_reducible refine Below.drew ?_ | with_reducible refine below_drewN ?_ _ | with_reducible refine Below.setCell ?_ (by first | (simp; done) | (simp; omega) | omega) _ | with_reducible refine Below.alloc ?_ (by first | (simp; done) | (simp; omega) | omega) _))
  have zV3 : w3.heap.size + 1 ≤ V3.heap.size := by rw [hV3]; simp
  have FW : Bk2 V3 (w3.heap.size) (.int .i64 0) (.int .i64 0) := by rw [hV3]; exact (Bk2.newAt _ _ (by simp) _ _ _)
  rw [← hV3]
  clear hV3
  replace E : Below w.heap.size w V3 := E.trans (bV3.mono E.size)
  replace HA : LRd V3 (w.heap.size) a.A a.n a.c a.xs := HA.below bV3 (by omega)
  replace PA : Bk2 V3 (w.heap.size) (.bool a.neg) (.slice a.A a.n a.c) := PA.below bV3 PA.lt
  replace FT : Bk2 V3 (w1.heap.size) (.int .i64 6) (.int .i64 (-1)) := FT.below bV3 FT.lt
  replace PX : Bk2 V3 (w2.heap.size) (.bool false) (.slice A4 0 c4) := PX.below bV3 PX.lt
  replace FX : Bk2 V3 (w2.heap.size + 1) (.int .i64 4) (.int .i64 (-2)) := FX.below bV3 FX.lt
  clear bV3
  (with_reducible refine (intOk_any _ w.heap.size a.neg a.A a.n a.c a.xs HA (by omega)).mono ?_)
  rintro e w5 ⟨rfl, hb5⟩
  have sw5 := hb5.size
  replace E : Below w.heap.size w w5 := E.trans (hb5.mono E.size)
  replace HA : LRd w5 (w.heap.size) a.A a.n a.c a.xs := HA.below hb5 (by omega)
  replace PA : Bk2 w5 (w.heap.size) (.bool a.neg) (.slice a.A a.n a.c) := PA.below hb5 PA.lt
  replace FT : Bk2 w5 (w1.heap.size) (.int .i64 6) (.int .i64 (-1)) := FT.below hb5 FT.lt
  replace PX : Bk2 w5 (w2.heap.size) (.bool false) (.slice A4 0 c4) := PX.below hb5 PX.lt
  replace FX : Bk2 w5 (w2.heap.size + 1) (.int .i64 4) (.int .i64 (-2)) := FX.below hb5 FX.lt
  replace FW : Bk2 w5 (w3.heap.size) (.int .i64 0) (.int .i64 0) := FW.below hb5 FW.lt
  clear hb5
  rw [VA]
  clear HA
  go_wp2_with fail
  (with_reducible refine (at_any _ _ _).mono ?_)
  rintro e w6 ⟨rfl, hb6⟩
  have sw6 := hb6.size
  replace E : Below w.heap.size w w6 := E.trans (hb6.mono E.size)
  replace PA : Bk2 w6 (w.heap.size) (.bool a.neg) (.slice a.A a.n a.c) := PA.below hb6 PA.lt
  replace FT : Bk2 w6 (w1.heap.size) (.int .i64 6) (.int .i64 (-1)) := FT.below hb6 FT.lt
  replace PX : Bk2 w6 (w2.heap.size) (.bool false) (.slice A4 0 c4) := PX.below hb6 PX.lt
  replace FX : Bk2 w6 (w2.heap.size + 1) (.int .i64 4) (.int .i64 (-2)) := FX.below hb6 FX.lt
  replace FW : Bk2 w6 (w3.heap.size) (.int .i64 0) (.int .i64 0) := FW.below hb6 FW.lt
  clear hb6
  have y_FW0 : w6.cell? ⟨w3.heap.size, 0, none⟩ = some ((.int .i64 0)) := FW.c0
  have z_FW0 : w6.frozen? ⟨w3.heap.size, 0, none⟩ = false := FW.z0
  have y_FW1 : w6.cell? ⟨w3.heap.size, 1, none⟩ = some ((.int .i64 0)) := FW.c1
  have z_FW1 : w6.frozen? ⟨w3.heap.size, 1, none⟩ = false := FW.z1
  have lt_FW := FW.lt
  have t_FT0 : w6.cell? ⟨w1.heap.size, 0, none⟩ = some ((.int .i64 6)) := FT.c0
  have t_FT1 : w6.cell? ⟨w1.heap.size, 1, none⟩ = some ((.int .i64 (-1))) := FT.c1
  have lt_FT := FT.lt
  go_wp2_with fail
  clear y_FW0 z_FW0 y_FW1 z_FW1 lt_FW t_FT0 t_FT1 lt_FT
  obtain ⟨U5FW, hU5FW⟩ : ∃ U5FW : World, U5FW = ((w6.setCell ⟨w3.heap.size, 0, none⟩ (.int .i64 6)).setCell ⟨w3.heap.size, 1, none⟩ (.int .i64 (-1))) := ⟨_, rfl⟩
  have zU5FW : U5FW.heap.size = w6.heap.size := by rw [hU5FW]; simp [World.setCell]
  replace E : Below w.heap.size w U5FW := by rw [hU5FW]; exact (E.setCell (by first | (simp; done) | (simp; omega)) _).setCell (by first | (simp; done) | (simp; omega)) _
  replace PA : Bk2 U5FW (w.heap.size) (.bool a.neg) (.slice a.A a.n a.c) := by rw [hU5FW]; exact PA.far2 (by omega) _ _
  replace FT : Bk2 U5FW (w1.heap.size) (.int .i64 6) (.int .i64 (-1)) := by rw [hU5FW]; exact FT.far2 (by omega) _ _
  replace PX : Bk2 U5FW (w2.heap.size) (.bool false) (.slice A4 0 c4) := by rw [hU5FW]; exact PX.far2 (by omega) _ _
  replace FX : Bk2 U5FW (w2.heap.size + 1) (.int .i64 4) (.int .i64 (-2)) := by rw [hU5FW]; exact FX.far2 (by omega) _ _
  replace FW : Bk2 U5FW (w3.heap.size) (.int .i64 6) (.int .i64 (-1)) := by rw [hU5FW]; exact FW.set _ _
  rw [← hU5FW]
  clear hU5FW
  have zU5FW' := Nat.le_of_eq zU5FW
  replace zU5FW := Nat.le_of_eq zU5FW.symm
  clear PA
  clear FT
  clear FW
  have sz9 := PX.lt
  have G0 : Below U5FW.heap.size U5FW U5FW.drew := Below.drew (Below.refl _ _)
  have HS := Lib.hid (fun (u : World) (hu : Below U5FW.heap.size U5FW u) => (⟨hu, (PX.below hu PX.lt).c0, (PX.below hu PX.lt).c1, (FX.below hu FX.lt).c0, (FX.below hu FX.lt).c1⟩ : Below U5FW.heap.size U5FW u ∧ u.cell? ⟨w2.heap.size, 0, none⟩ = some (.bool false) ∧ u.cell? ⟨w2.heap.size, 1, none⟩ = some (.slice A4 0 c4) ∧ u.cell? ⟨w2.heap.size + 1, 0, none⟩ = some (.int .i64 4) ∧ u.cell? ⟨w2.heap.size + 1, 1, none⟩ = some (.int .i64 (-2))))
  go_region_held3 (fun u => Below U5FW.heap.size U5FW u ∧ u.cell? ⟨w2.heap.size, 0, none⟩ = some (.bool false) ∧ u.cell? ⟨w2.heap.size, 1, none⟩ = some (.slice A4 0 c4) ∧ u.cell? ⟨w2.heap.size + 1, 0, none⟩ = some (.int .i64 4) ∧ u.cell? ⟨w2.heap.size + 1, 1, none⟩ = some (.int .i64 (-2))) (first | with_reducible exact HS.out _ G0 | with_reducible exact HS.out _ B2 | with_reducible exact HS.out _ B1 | fail)
    (first
      | (go_at_call 25; (with_reducible refine (at_any _ _ _).mono ?_); rintro e y1 ⟨rfl, hb1⟩; have B1 : Below U5FW.heap.size U5FW y1 := bnext G0 hb1)
      | (go_at_call 26; (with_reducible refine (noInt_any _ false A4 0 c4 (by omega)).mono ?_); rintro e y2 ⟨rfl, hb2⟩; have B2 : Below U5FW.heap.size U5FW y2 := bnext B1 hb2; rw [show (!false && decide (0 = 0)) = true from rfl])
      | fail)
  all_goals (go_wp2_with fail)
  all_goals go_ret
  all_goals exact ⟨by first | rfl | (simp; done), E.trans (B2.mono E.size)⟩
set_option maxHeartbeats 8000000 in
theorem txt_bl (w : World) (a : IV) (y : Nat) (s : ByteArray) (hs9 : s.size ≤ 9223372036854775807) (HA : a.at w w.heap.size) (na : a.ok = false) (hy : 2 ≤ y ∧ y ≤ 36) (HL : Hid (4097 < s.size)) :
    Calls Try.prog 8 #[a.v, .int .i64 (y : Int), .string s] w (fun e w' => e = .returned (.bool true) ∧ Below w.heap.size w w') := by
  have hs8 : (s.size : Int) ≤ 9223372036854775807 := by omega
  replace HA : LRd w w.heap.size a.A a.n a.c a.xs := HA
  have VA : ivld a.neg a.xs = false := na
  have hx : ffault [a] 0 = (6, -1) := by show (if a.ok = true then _ else _) = _; rw [na]; rfl
  have E : Below w.heap.size w w := Below.refl _ _
  have hy1 : 2 ≤ (y : Int) := by omega
  have hy2 : (y : Int) ≤ 36 := by omega
  go_enter Try.func8, Try.ntmps8
  go_wp2_with fail
  obtain ⟨V0, hV0⟩ : ∃ V0 : World, V0 = (w.alloc (.cells #[.bool a.neg, .slice a.A a.n a.c] 24)) := ⟨_, rfl⟩
  have bV0 : Below w.heap.size w V0 := by rw [hV0]; (repeat (first | with_reducible exact Below.refl _ _ | with_reducible refine Below.drew ?_ | with_reducible refine below_drewN ?_ _ | with_reducible refine Below.setCell ?_ (by first | (simp; done) | (simp; omega) | omega) _ | with_reducible refine Below.alloc ?_ (by first | (simp; done) | (simp; omega) | omega) _))
  have zV0 : w.heap.size + 1 ≤ V0.heap.size := by rw [hV0]; simp
  have PA : Bk2 V0 (w.heap.size) (.bool a.neg) (.slice a.A a.n a.c) := by rw [hV0]; exact (Bk2.newAt _ _ (by simp) _ _ _)
  rw [← hV0]
  clear hV0
  replace E : Below w.heap.size w V0 := E.trans (bV0.mono E.size)
  replace HA : LRd V0 (w.heap.size) a.A a.n a.c a.xs := HA.below bV0 (by omega)
  clear bV0
  refine (itext_bad1 _ w.heap.size a (y : Int) HA (by omega) (-1) hx).mono ?_
  rintro e w1 ⟨rfl, hb1⟩
  have sw1 := hb1.size
  replace E : Below w.heap.size w w1 := E.trans (hb1.mono E.size)
  replace HA : LRd w1 (w.heap.size) a.A a.n a.c a.xs := HA.below hb1 (by omega)
  replace PA : Bk2 w1 (w.heap.size) (.bool a.neg) (.slice a.A a.n a.c) := PA.below hb1 PA.lt
  clear hb1
  go_wp2_with fail
  obtain ⟨V1, hV1⟩ : ∃ V1 : World, V1 = (w1.alloc (.cells #[.int .i64 6, .int .i64 (-1)] 26)) := ⟨_, rfl⟩
  have bV1 : Below w1.heap.size w1 V1 := by rw [hV1]; (repeat (first | with_reducible exact Below.refl _ _ | with_reducible refine Below.drew ?_ | with_reducible refine below_drewN ?_ _ | with_reducible refine Below.setCell ?_ (by first | (simp; done) | (simp; omega) | omega) _ | with_reducible refine Below.alloc ?_ (by first | (simp; done) | (simp; omega) | omega) _))
  have zV1 : w1.heap.size + 1 ≤ V1.heap.size := by rw [hV1]; simp
  have FT : Bk2 V1 (w1.heap.size) (.int .i64 6) (.int .i64 (-1)) := by rw [hV1]; exact (Bk2.newAt _ _ (by simp) _ _ _)
  rw [← hV1]
  clear hV1
  replace E : Below w.heap.size w V1 := E.trans (bV1.mono E.size)
  replace HA : LRd V1 (w.heap.size) a.A a.n a.c a.xs := HA.below bV1 (by omega)
  replace PA : Bk2 V1 (w.heap.size) (.bool a.neg) (.slice a.A a.n a.c) := PA.below bV1 PA.lt
  clear bV1
  refine (iparse_long _ s y hy HL.out (by omega)).mono ?_
  rintro e w2 ⟨m4, A4, k4, c4, x4, rfl, hl4, hr4, hb4⟩
  obtain ⟨rfl, rfl⟩ := irep_nilT hr4 hl4.len.out
  have sw2 := hb4.size
  clear hl4 hr4
  replace E : Below w.heap.size w w2 := E.trans (hb4.mono E.size)
  replace HA : LRd w2 (w.heap.size) a.A a.n a.c a.xs := HA.below hb4 (by omega)
  replace PA : Bk2 w2 (w.heap.size) (.bool a.neg) (.slice a.A a.n a.c) := PA.below hb4 PA.lt
  replace FT : Bk2 w2 (w1.heap.size) (.int .i64 6) (.int .i64 (-1)) := FT.below hb4 FT.lt
  clear hb4
  go_wp2_with fail
  obtain ⟨V2, hV2⟩ : ∃ V2 : World, V2 = ((w2.alloc (.cells #[.bool false, .slice A4 0 c4] 24)).alloc (.cells #[.int .i64 3, .int .i64 (-1)] 26)) := ⟨_, rfl⟩
  have bV2 : Below w2.heap.size w2 V2 := by rw [hV2]; (repeat (first | with_reducible exact Below.refl _ _ | with_reducible refine Below.drew ?_ | with_reducible refine below_drewN ?_ _ | with_reducible refine Below.setCell ?_ (by first | (simp; done) | (simp; omega) | omega) _ | with_reducible refine Below.alloc ?_ (by first | (simp; done) | (simp; omega) | omega) _))
  have zV2 : w2.heap.size + 2 ≤ V2.heap.size := by rw [hV2]; simp
  have PX : Bk2 V2 (w2.heap.size) (.bool false) (.slice A4 0 c4) := by rw [hV2]; exact ((Bk2.newAt _ _ (by simp) _ _ _).alloc _)
  have FX : Bk2 V2 (w2.heap.size + 1) (.int .i64 3) (.int .i64 (-1)) := by rw [hV2]; exact (Bk2.newAt _ _ (by simp) _ _ _)
  rw [← hV2]
  clear hV2
  replace E : Below w.heap.size w V2 := E.trans (bV2.mono E.size)
  replace HA : LRd V2 (w.heap.size) a.A a.n a.c a.xs := HA.below bV2 (by omega)
  replace PA : Bk2 V2 (w.heap.size) (.bool a.neg) (.slice a.A a.n a.c) := PA.below bV2 PA.lt
  replace FT : Bk2 V2 (w1.heap.size) (.int .i64 6) (.int .i64 (-1)) := FT.below bV2 FT.lt
  clear bV2
  (with_reducible refine (counts_any _).mono ?_)
  rintro e w3 ⟨rfl, hb3⟩
  have sw3 := hb3.size
  replace E : Below w.heap.size w w3 := E.trans (hb3.mono E.size)
  replace HA : LRd w3 (w.heap.size) a.A a.n a.c a.xs := HA.below hb3 (by omega)
  replace PA : Bk2 w3 (w.heap.size) (.bool a.neg) (.slice a.A a.n a.c) := PA.below hb3 PA.lt
  replace FT : Bk2 w3 (w1.heap.size) (.int .i64 6) (.int .i64 (-1)) := FT.below hb3 FT.lt
  replace PX : Bk2 w3 (w2.heap.size) (.bool false) (.slice A4 0 c4) := PX.below hb3 PX.lt
  replace FX : Bk2 w3 (w2.heap.size + 1) (.int .i64 3) (.int .i64 (-1)) := FX.below hb3 FX.lt
  clear hb3
  have t_PA0 : (w3.alloc (.cells #[.int .i64 0, .int .i64 0] 26)).cell? ⟨w.heap.size, 0, none⟩ = some ((.bool a.neg)) := (PA.alloc _).c0
  have t_PA1 : (w3.alloc (.cells #[.int .i64 0, .int .i64 0] 26)).cell? ⟨w.heap.size, 1, none⟩ = some ((.slice a.A a.n a.c)) := (PA.alloc _).c1
  go_wp2_with fail
  clear t_PA0 t_PA1
  obtain ⟨V3, hV3⟩ : ∃ V3 : World, V3 = (w3.alloc (.cells #[.int .i64 0, .int .i64 0] 26)) := ⟨_, rfl⟩
  have bV3 : Below w3.heap.size w3 V3 := by rw [hV3]; (repeat (first | with_reducible exact Below.refl _ _ | with_reducible refine Below.drew ?_ | with_reducible refine below_drewN ?_ _ | with_reducible refine Below.setCell ?_ (by first | (simp; done) | (simp; omega) | omega) _ | with_reducible refine Below.alloc ?_ (by first | (simp; done) | (simp; omega) | omega) _))
  have zV3 : w3.heap.size + 1 ≤ V3.heap.size := by rw [hV3]; simp
  have FW : Bk2 V3 (w3.heap.size) (.int .i64 0) (.int .i64 0) := by rw [hV3]; exact (Bk2.newAt _ _ (by simp) _ _ _)
  rw [← hV3]
  clear hV3
  replace E : Below w.heap.size w V3 := E.trans (bV3.mono E.size)
  replace HA : LRd V3 (w.heap.size) a.A a.n a.c a.xs := HA.below bV3 (by omega)
  replace PA : Bk2 V3 (w.heap.size) (.bool a.neg) (.slice a.A a.n a.c) := PA.below bV3 PA.lt
  replace FT : Bk2 V3 (w1.heap.size) (.int .i64 6) (.int .i64 (-1)) := FT.below bV3 FT.lt
  replace PX : Bk2 V3 (w2.heap.size) (.bool false) (.slice A4 0 c4) := PX.below bV3 PX.lt
  replace FX : Bk2 V3 (w2.heap.size + 1) (.int .i64 3) (.int .i64 (-1)) := FX.below bV3 FX.lt
  clear bV3
  (with_reducible refine (intOk_any _ w.heap.size a.neg a.A a.n a.c a.xs HA (by omega)).mono ?_)
  rintro e w5 ⟨rfl, hb5⟩
  have sw5 := hb5.size
  replace E : Below w.heap.size w w5 := E.trans (hb5.mono E.size)
  replace HA : LRd w5 (w.heap.size) a.A a.n a.c a.xs := HA.below hb5 (by omega)
  replace PA : Bk2 w5 (w.heap.size) (.bool a.neg) (.slice a.A a.n a.c) := PA.below hb5 PA.lt
  replace FT : Bk2 w5 (w1.heap.size) (.int .i64 6) (.int .i64 (-1)) := FT.below hb5 FT.lt
  replace PX : Bk2 w5 (w2.heap.size) (.bool false) (.slice A4 0 c4) := PX.below hb5 PX.lt
  replace FX : Bk2 w5 (w2.heap.size + 1) (.int .i64 3) (.int .i64 (-1)) := FX.below hb5 FX.lt
  replace FW : Bk2 w5 (w3.heap.size) (.int .i64 0) (.int .i64 0) := FW.below hb5 FW.lt
  clear hb5
  rw [VA]
  clear HA
  go_wp2_with fail
  (with_reducible refine (at_any _ _ _).mono ?_)
  rintro e w6 ⟨rfl, hb6⟩
  have sw6 := hb6.size
  replace E : Below w.heap.size w w6 := E.trans (hb6.mono E.size)
  replace PA : Bk2 w6 (w.heap.size) (.bool a.neg) (.slice a.A a.n a.c) := PA.below hb6 PA.lt
  replace FT : Bk2 w6 (w1.heap.size) (.int .i64 6) (.int .i64 (-1)) := FT.below hb6 FT.lt
  replace PX : Bk2 w6 (w2.heap.size) (.bool false) (.slice A4 0 c4) := PX.below hb6 PX.lt
  replace FX : Bk2 w6 (w2.heap.size + 1) (.int .i64 3) (.int .i64 (-1)) := FX.below hb6 FX.lt
  replace FW : Bk2 w6 (w3.heap.size) (.int .i64 0) (.int .i64 0) := FW.below hb6 FW.lt
  clear hb6
  have hl7 : 4097 < (s.size : Int) := by have := HL.out; omega
  have y_FW0 : w6.cell? ⟨w3.heap.size, 0, none⟩ = some ((.int .i64 0)) := FW.c0
  have z_FW0 : w6.frozen? ⟨w3.heap.size, 0, none⟩ = false := FW.z0
  have y_FW1 : w6.cell? ⟨w3.heap.size, 1, none⟩ = some ((.int .i64 0)) := FW.c1
  have z_FW1 : w6.frozen? ⟨w3.heap.size, 1, none⟩ = false := FW.z1
  have lt_FW := FW.lt
  have t_FT0 : w6.cell? ⟨w1.heap.size, 0, none⟩ = some ((.int .i64 6)) := FT.c0
  have t_FT1 : w6.cell? ⟨w1.heap.size, 1, none⟩ = some ((.int .i64 (-1))) := FT.c1
  have lt_FT := FT.lt
  go_wp2_with fail
  clear y_FW0 z_FW0 y_FW1 z_FW1 lt_FW t_FT0 t_FT1 lt_FT
  obtain ⟨U5FW, hU5FW⟩ : ∃ U5FW : World, U5FW = ((w6.setCell ⟨w3.heap.size, 0, none⟩ (.int .i64 6)).setCell ⟨w3.heap.size, 1, none⟩ (.int .i64 (-1))) := ⟨_, rfl⟩
  have zU5FW : U5FW.heap.size = w6.heap.size := by rw [hU5FW]; simp [World.setCell]
  replace E : Below w.heap.size w U5FW := by rw [hU5FW]; exact (E.setCell (by first | (simp; done) | (simp; omega)) _).setCell (by first | (simp; done) | (simp; omega)) _
  replace PA : Bk2 U5FW (w.heap.size) (.bool a.neg) (.slice a.A a.n a.c) := by rw [hU5FW]; exact PA.far2 (by omega) _ _
  replace FT : Bk2 U5FW (w1.heap.size) (.int .i64 6) (.int .i64 (-1)) := by rw [hU5FW]; exact FT.far2 (by omega) _ _
  replace PX : Bk2 U5FW (w2.heap.size) (.bool false) (.slice A4 0 c4) := by rw [hU5FW]; exact PX.far2 (by omega) _ _
  replace FX : Bk2 U5FW (w2.heap.size + 1) (.int .i64 3) (.int .i64 (-1)) := by rw [hU5FW]; exact FX.far2 (by omega) _ _
  replace FW : Bk2 U5FW (w3.heap.size) (.int .i64 6) (.int .i64 (-1)) := by rw [hU5FW]; exact FW.set _ _
  rw [← hU5FW]
  clear hU5FW
  have zU5FW' := Nat.le_of_eq zU5FW
  replace zU5FW := Nat.le_of_eq zU5FW.symm
  clear PA
  clear FT
  clear FW
  have sz9 := PX.lt
  have G0 : Below U5FW.heap.size U5FW U5FW.drew := Below.drew (Below.refl _ _)
  have HS := Lib.hid (fun (u : World) (hu : Below U5FW.heap.size U5FW u) => (⟨hu, (PX.below hu PX.lt).c0, (PX.below hu PX.lt).c1, (FX.below hu FX.lt).c0, (FX.below hu FX.lt).c1⟩ : Below U5FW.heap.size U5FW u ∧ u.cell? ⟨w2.heap.size, 0, none⟩ = some (.bool false) ∧ u.cell? ⟨w2.heap.size, 1, none⟩ = some (.slice A4 0 c4) ∧ u.cell? ⟨w2.heap.size + 1, 0, none⟩ = some (.int .i64 3) ∧ u.cell? ⟨w2.heap.size + 1, 1, none⟩ = some (.int .i64 (-1))))
  go_region_held3 (fun u => Below U5FW.heap.size U5FW u ∧ u.cell? ⟨w2.heap.size, 0, none⟩ = some (.bool false) ∧ u.cell? ⟨w2.heap.size, 1, none⟩ = some (.slice A4 0 c4) ∧ u.cell? ⟨w2.heap.size + 1, 0, none⟩ = some (.int .i64 3) ∧ u.cell? ⟨w2.heap.size + 1, 1, none⟩ = some (.int .i64 (-1))) (first | with_reducible exact HS.out _ G0 | with_reducible exact HS.out _ B2 | with_reducible exact HS.out _ B1 | fail)
    (first
      | (go_at_call 25; (with_reducible refine (at_any _ _ _).mono ?_); rintro e y1 ⟨rfl, hb1⟩; have B1 : Below U5FW.heap.size U5FW y1 := bnext G0 hb1)
      | (go_at_call 26; (with_reducible refine (noInt_any _ false A4 0 c4 (by omega)).mono ?_); rintro e y2 ⟨rfl, hb2⟩; have B2 : Below U5FW.heap.size U5FW y2 := bnext B1 hb2; rw [show (!false && decide (0 = 0)) = true from rfl])
      | fail)
  all_goals (go_wp2_with fail)
  all_goals go_ret
  all_goals exact ⟨by first | rfl | (simp; done), E.trans (B2.mono E.size)⟩
end Go.Proofs.Ytpjfoggohhlbdaa
