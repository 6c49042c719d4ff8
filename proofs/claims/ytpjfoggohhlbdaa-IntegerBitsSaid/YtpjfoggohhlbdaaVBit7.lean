/- The program's And, Or and Xor. -/
import Derived.Test.YtpjfoggohhlbdaaVBit4
import Derived.Test.YtpjfoggohhlbdaaVBit5
import Derived.Test.YtpjfoggohhlbdaaVBit6
import Derived.Test.YtpjfoggohhlbdaaVInt24
namespace Go.Proofs.Ytpjfoggohhlbdaa
open Go.RowKit
set_option maxHeartbeats 400000
set_option maxRecDepth 100000
set_option linter.unusedSimpArgs false
set_option linter.unusedVariables false

set_option maxHeartbeats 2000000 in
theorem comb_bad (w : World) (a b : IV) (fv : Value) (HA : a.at w w.heap.size) (HB : b.at w w.heap.size) (f2 : Int) (hf : ffault [a, b] 0 = (6, f2)) :
    Calls Try.prog 93 #[a.v, b.v, fv] w (GivesVF w 0 6 f2) := by
  replace HA : LRd w w.heap.size a.A a.n a.c a.xs := HA
  replace HB : LRd w w.heap.size b.A b.n b.c b.xs := HB
  have E : Below w.heap.size w w := Below.refl _ _
  have IR := Lib.hid (irow2 ((((w.alloc a.cells).alloc b.cells).alloc (.cells #[.bool false, .slice none 0 0] 24)).alloc (.cells #[.int .i64 0, .int .i64 0] 26)) w.heap.size a b ((((HA.alloc (Nat.le_refl _) _).alloc (by simp) _).alloc (by simp; omega) _).alloc (by simp; omega) _) ((((HB.alloc (Nat.le_refl _) _).alloc (by simp) _).alloc (by simp; omega) _).alloc (by simp; omega) _) (by simp; omega))
  go_enter Try.func93, Try.ntmps93
  go_wp2_with fail
  obtain ⟨V0, hV0⟩ : ∃ V0 : World, V0 = (((((w.alloc (.cells #[.bool a.neg, .slice a.A a.n a.c] 24)).alloc (.cells #[.bool b.neg, .slice b.A b.n b.c] 24)).alloc (.cells #[.bool false, .slice none 0 0] 24)).alloc (.cells #[.int .i64 0, .int .i64 0] 26)).alloc (.cells #[.bool a.neg, .slice a.A a.n a.c, .bool b.neg, .slice b.A b.n b.c] 24)) := ⟨_, rfl⟩
  have bV0 : Below w.heap.size w V0 := by rw [hV0]; (repeat (first | with_reducible exact Below.refl _ _ | with_reducible refine Below.drew ?_ | with_reducible refine below_drewN ?_ _ | with_reducible refine Below.setCell ?_ (by first | (simp; done) | (simp; omega) | omega) _ | with_reducible refine Below.alloc ?_ (by first | (simp; done) | (simp; omega) | omega) _))
  have zV0 : w.heap.size + 5 ≤ V0.heap.size := by rw [hV0]; simp
  have PA : Bk2 V0 (w.heap.size) (.bool a.neg) (.slice a.A a.n a.c) := by rw [hV0]; exact (((((Bk2.newAt _ _ (by simp) _ _ _).alloc _).alloc _).alloc _).alloc _)
  have PB : Bk2 V0 (w.heap.size + 1) (.bool b.neg) (.slice b.A b.n b.c) := by rw [hV0]; exact ((((Bk2.newAt _ _ (by simp) _ _ _).alloc _).alloc _).alloc _)
  have PR : Bk2 V0 (w.heap.size + 2) (.bool false) (.slice none 0 0) := by rw [hV0]; exact (((Bk2.newAt _ _ (by simp) _ _ _).alloc _).alloc _)
  have PF : Bk2 V0 (w.heap.size + 3) (.int .i64 0) (.int .i64 0) := by rw [hV0]; exact ((Bk2.newAt _ _ (by simp) _ _ _).alloc _)
  replace IR : Hid (IRow V0 w.heap.size (w.heap.size + 4) [a, b]) := by have h9 := IR.out; rw [hV0]; rw [show ((((w.alloc a.cells).alloc b.cells).alloc (.cells #[.bool false, .slice none 0 0] 24)).alloc (.cells #[.int .i64 0, .int .i64 0] 26)).heap.size = w.heap.size + 4 by simp] at h9; exact h9
  rw [← hV0]
  clear hV0
  replace E : Below w.heap.size w V0 := E.trans (bV0.mono E.size)
  replace HA : LRd V0 (w.heap.size) a.A a.n a.c a.xs := HA.below bV0 (by omega)
  replace HB : LRd V0 (w.heap.size) b.A b.n b.c b.xs := HB.below bV0 (by omega)
  clear bV0
  (with_reducible refine (check_any _ w.heap.size (w.heap.size + 4) 2 [a, b] IR.out rfl (by omega) (by omega)).mono ?_)
  rintro e w1 ⟨rfl, hb1⟩
  have sw1 := hb1.size
  replace E : Below w.heap.size w w1 := E.trans (hb1.mono E.size)
  replace HA : LRd w1 (w.heap.size) a.A a.n a.c a.xs := HA.below hb1 (by omega)
  replace HB : LRd w1 (w.heap.size) b.A b.n b.c b.xs := HB.below hb1 (by omega)
  replace PA : Bk2 w1 (w.heap.size) (.bool a.neg) (.slice a.A a.n a.c) := PA.below hb1 PA.lt
  replace PB : Bk2 w1 (w.heap.size + 1) (.bool b.neg) (.slice b.A b.n b.c) := PB.below hb1 PB.lt
  replace PR : Bk2 w1 (w.heap.size + 2) (.bool false) (.slice none 0 0) := PR.below hb1 PR.lt
  replace PF : Bk2 w1 (w.heap.size + 3) (.int .i64 0) (.int .i64 0) := PF.below hb1 PF.lt
  clear hb1
  rw [hf]
  clear IR
  go_upto_region 3 with fail
  obtain ⟨V1, hV1⟩ : ∃ V1 : World, V1 = (w1.alloc (.cells #[.int .i64 6, .int .i64 f2] 26)) := ⟨_, rfl⟩
  have bV1 : Below w1.heap.size w1 V1 := by rw [hV1]; (repeat (first | with_reducible exact Below.refl _ _ | with_reducible refine Below.drew ?_ | with_reducible refine below_drewN ?_ _ | with_reducible refine Below.setCell ?_ (by first | (simp; done) | (simp; omega) | omega) _ | with_reducible refine Below.alloc ?_ (by first | (simp; done) | (simp; omega) | omega) _))
  have zV1 : w1.heap.size + 1 ≤ V1.heap.size := by rw [hV1]; simp
  have F8 : Bk2 V1 (w1.heap.size) (.int .i64 6) (.int .i64 f2) := by rw [hV1]; exact (Bk2.newAt _ _ (by simp) _ _ _)
  rw [← hV1]
  clear hV1
  replace E : Below w.heap.size w V1 := E.trans (bV1.mono E.size)
  replace HA : LRd V1 (w.heap.size) a.A a.n a.c a.xs := HA.below bV1 (by omega)
  replace HB : LRd V1 (w.heap.size) b.A b.n b.c b.xs := HB.below bV1 (by omega)
  replace PA : Bk2 V1 (w.heap.size) (.bool a.neg) (.slice a.A a.n a.c) := PA.below bV1 PA.lt
  replace PB : Bk2 V1 (w.heap.size + 1) (.bool b.neg) (.slice b.A b.n b.c) := PB.below bV1 PB.lt
  replace PR : Bk2 V1 (w.heap.size + 2) (.bool false) (.slice none 0 0) := PR.below bV1 PR.lt
  replace PF : Bk2 V1 (w.heap.size + 3) (.int .i64 0) (.int .i64 0) := PF.below bV1 PF.lt
  clear bV1
  clear HA HB PA PB
  obtain ⟨f0, f1, z0, z1, _⟩ := PF
  obtain ⟨r0, r1, y0, y1, _⟩ := PR
  obtain ⟨x0, x1, _, _, _⟩ := F8
  go_region
  all_goals (go_wp2_with fail)
  all_goals
    refine bodyPost_ret (v := .tuple #[intv false none 0 0, flt 6 f2]) (by simp [results, Try.results93, go_sem, f0, f1, r0, r1]) rfl ⟨false, none, 0, 0, [], rfl, nil_lrd _, irep0, ?_⟩
    (repeat (first | with_reducible exact Below.refl _ _ | with_reducible exact E | with_reducible refine Below.drew ?_ | with_reducible refine below_drewN ?_ _ | with_reducible refine Below.setCell ?_ (by first | (simp; done) | (simp; omega) | omega) _ | with_reducible refine Below.alloc ?_ (by first | (simp; done) | (simp; omega) | omega) _))
theorem comb_and (w : World) (a b : IV) (HA : a.at w w.heap.size) (HB : b.at w w.heap.size) (oa : a.ok = true) (ob : b.ok = true) :
    Calls Try.prog 93 #[a.v, b.v, (.func (Fn.func 94) #[] #[])] w (CombPost (fun p q => p && q) a.val b.val w) := by
  cases h : (fun p q => p && q) a.neg b.neg
  · exact comb_and_false w a b HA HB oa ob h
  · exact comb_and_true w a b HA HB oa ob h
set_option maxHeartbeats 2000000 in
theorem iand_ok (w : World) (B : Nat) (a b : IV) (HA : a.at w B) (HB : b.at w B) (hB : B ≤ w.heap.size) (oa : a.ok = true) (ob : b.ok = true) :
    Calls Try.prog 49 #[a.v, b.v] w (CombPost (fun p q => p && q) a.val b.val w) := by
  replace HA : LRd w B a.A a.n a.c a.xs := HA
  replace HB : LRd w B b.A b.n b.c b.xs := HB
  have E : Below w.heap.size w w := Below.refl _ _
  go_enter Try.func49, Try.ntmps49
  go_wp2_with fail
  obtain ⟨V0, hV0⟩ : ∃ V0 : World, V0 = ((((w.alloc (.cells #[.bool a.neg, .slice a.A a.n a.c] 24)).alloc (.cells #[.bool b.neg, .slice b.A b.n b.c] 24)).alloc (.cells #[.bool false, .slice none 0 0] 24)).alloc (.cells #[.int .i64 0, .int .i64 0] 26)) := ⟨_, rfl⟩
  have bV0 : Below w.heap.size w V0 := by rw [hV0]; (repeat (first | with_reducible exact Below.refl _ _ | with_reducible refine Below.drew ?_ | with_reducible refine below_drewN ?_ _ | with_reducible refine Below.setCell ?_ (by first | (simp; done) | (simp; omega) | omega) _ | with_reducible refine Below.alloc ?_ (by first | (simp; done) | (simp; omega) | omega) _))
  have zV0 : w.heap.size + 4 ≤ V0.heap.size := by rw [hV0]; simp
  have PA : Bk2 V0 (w.heap.size) (.bool a.neg) (.slice a.A a.n a.c) := by rw [hV0]; exact ((((Bk2.newAt _ _ (by simp) _ _ _).alloc _).alloc _).alloc _)
  have PB : Bk2 V0 (w.heap.size + 1) (.bool b.neg) (.slice b.A b.n b.c) := by rw [hV0]; exact (((Bk2.newAt _ _ (by simp) _ _ _).alloc _).alloc _)
  have PR : Bk2 V0 (w.heap.size + 2) (.bool false) (.slice none 0 0) := by rw [hV0]; exact ((Bk2.newAt _ _ (by simp) _ _ _).alloc _)
  have PF : Bk2 V0 (w.heap.size + 3) (.int .i64 0) (.int .i64 0) := by rw [hV0]; exact (Bk2.newAt _ _ (by simp) _ _ _)
  rw [← hV0]
  clear hV0
  replace E : Below w.heap.size w V0 := E.trans (bV0.mono E.size)
  replace HA : LRd V0 (B) a.A a.n a.c a.xs := HA.below bV0 (by omega)
  replace HB : LRd V0 (B) b.A b.n b.c b.xs := HB.below bV0 (by omega)
  clear bV0
  refine (comb_and _ a b (LRd.more HA (by omega)) (LRd.more HB (by omega)) oa ob).mono ?_
  rintro e w9 ⟨z, hz, hv⟩
  have HZ := Lib.hid hz
  clear hz
  obtain ⟨z4, f4, g4, hy4, m4, A4, k4, c4, x4, rfl, hl4, hr4, hb4⟩ := vl_yr hv
  clear hv
  have R4 := Lib.hid hr4
  have Y4 := Lib.hid hy4
  have sw9 := hb4.size
  clear hr4 hy4
  replace E : Below w.heap.size w w9 := E.trans (hb4.mono E.size)
  replace HA : LRd w9 (B) a.A a.n a.c a.xs := HA.below hb4 (by omega)
  replace HB : LRd w9 (B) b.A b.n b.c b.xs := HB.below hb4 (by omega)
  replace PA : Bk2 w9 (w.heap.size) (.bool a.neg) (.slice a.A a.n a.c) := PA.below hb4 PA.lt
  replace PB : Bk2 w9 (w.heap.size + 1) (.bool b.neg) (.slice b.A b.n b.c) := PB.below hb4 PB.lt
  replace PR : Bk2 w9 (w.heap.size + 2) (.bool false) (.slice none 0 0) := PR.below hb4 PR.lt
  replace PF : Bk2 w9 (w.heap.size + 3) (.int .i64 0) (.int .i64 0) := PF.below hb4 PF.lt
  clear hb4
  have y_PR0 : w9.cell? ⟨w.heap.size + 2, 0, none⟩ = some ((.bool false)) := PR.c0
  have z_PR0 : w9.frozen? ⟨w.heap.size + 2, 0, none⟩ = false := PR.z0
  have y_PR1 : w9.cell? ⟨w.heap.size + 2, 1, none⟩ = some ((.slice none 0 0)) := PR.c1
  have z_PR1 : w9.frozen? ⟨w.heap.size + 2, 1, none⟩ = false := PR.z1
  have lt_PR := PR.lt
  have y_PF0 : w9.cell? ⟨w.heap.size + 3, 0, none⟩ = some ((.int .i64 0)) := PF.c0
  have z_PF0 : w9.frozen? ⟨w.heap.size + 3, 0, none⟩ = false := PF.z0
  have y_PF1 : w9.cell? ⟨w.heap.size + 3, 1, none⟩ = some ((.int .i64 0)) := PF.c1
  have z_PF1 : w9.frozen? ⟨w.heap.size + 3, 1, none⟩ = false := PF.z1
  have lt_PF := PF.lt
  go_wp2_with fail
  clear y_PR0 z_PR0 y_PR1 z_PR1 lt_PR y_PF0 z_PF0 y_PF1 z_PF1 lt_PF
  obtain ⟨U1PR, hU1PR⟩ : ∃ U1PR : World, U1PR = ((w9.setCell ⟨w.heap.size + 2, 0, none⟩ (.bool m4)).setCell ⟨w.heap.size + 2, 1, none⟩ (.slice A4 k4 c4)) := ⟨_, rfl⟩
  have zU1PR : U1PR.heap.size = w9.heap.size := by rw [hU1PR]; simp [World.setCell]
  replace E : Below w.heap.size w U1PR := by rw [hU1PR]; exact (E.setCell (by first | (simp; done) | (simp; omega)) _).setCell (by first | (simp; done) | (simp; omega)) _
  replace HA : LRd U1PR (B) a.A a.n a.c a.xs := by rw [hU1PR]; first | exact HA.setB PR (by simp) (by simp) _ _ | exact HA.setFar2 (by omega) _ _
  replace HB : LRd U1PR (B) b.A b.n b.c b.xs := by rw [hU1PR]; first | exact HB.setB PR (by simp) (by simp) _ _ | exact HB.setFar2 (by omega) _ _
  replace PA : Bk2 U1PR (w.heap.size) (.bool a.neg) (.slice a.A a.n a.c) := by rw [hU1PR]; exact PA.far2 (by omega) _ _
  replace PB : Bk2 U1PR (w.heap.size + 1) (.bool b.neg) (.slice b.A b.n b.c) := by rw [hU1PR]; exact PB.far2 (by omega) _ _
  replace PF : Bk2 U1PR (w.heap.size + 3) (.int .i64 0) (.int .i64 0) := by rw [hU1PR]; exact PF.far2 (by omega) _ _
  replace hl4 : LRd U1PR (w9.heap.size) A4 k4 c4 x4 := by rw [hU1PR]; first | exact hl4.setB PR (by simp) (by simp) _ _ | exact hl4.setFar2 (by omega) _ _
  replace PR : Bk2 U1PR (w.heap.size + 2) (.bool m4) (.slice A4 k4 c4) := by rw [hU1PR]; exact PR.set _ _
  rw [← hU1PR]
  clear hU1PR
  have zU1PR' := Nat.le_of_eq zU1PR
  replace zU1PR := Nat.le_of_eq zU1PR.symm
  obtain ⟨U1PF, hU1PF⟩ : ∃ U1PF : World, U1PF = ((U1PR.setCell ⟨w.heap.size + 3, 0, none⟩ (.int .i64 f4)).setCell ⟨w.heap.size + 3, 1, none⟩ (.int .i64 g4)) := ⟨_, rfl⟩
  have zU1PF : U1PF.heap.size = U1PR.heap.size := by rw [hU1PF]; simp [World.setCell]
  replace E : Below w.heap.size w U1PF := by rw [hU1PF]; exact (E.setCell (by first | (simp; done) | (simp; omega)) _).setCell (by first | (simp; done) | (simp; omega)) _
  replace HA : LRd U1PF (B) a.A a.n a.c a.xs := by rw [hU1PF]; first | exact HA.setB PF (by simp) (by simp) _ _ | exact HA.setFar2 (by omega) _ _
  replace HB : LRd U1PF (B) b.A b.n b.c b.xs := by rw [hU1PF]; first | exact HB.setB PF (by simp) (by simp) _ _ | exact HB.setFar2 (by omega) _ _
  replace PA : Bk2 U1PF (w.heap.size) (.bool a.neg) (.slice a.A a.n a.c) := by rw [hU1PF]; exact PA.far2 (by omega) _ _
  replace PB : Bk2 U1PF (w.heap.size + 1) (.bool b.neg) (.slice b.A b.n b.c) := by rw [hU1PF]; exact PB.far2 (by omega) _ _
  replace PR : Bk2 U1PF (w.heap.size + 2) (.bool m4) (.slice A4 k4 c4) := by rw [hU1PF]; exact PR.far2 (by omega) _ _
  replace hl4 : LRd U1PF (w9.heap.size) A4 k4 c4 x4 := by rw [hU1PF]; first | exact hl4.setB PF (by simp) (by simp) _ _ | exact hl4.setFar2 (by omega) _ _
  replace PF : Bk2 U1PF (w.heap.size + 3) (.int .i64 f4) (.int .i64 g4) := by rw [hU1PF]; exact PF.set _ _
  rw [← hU1PF]
  clear hU1PF
  have zU1PF' := Nat.le_of_eq zU1PF
  replace zU1PF := Nat.le_of_eq zU1PF.symm
  obtain ⟨f0, f1, _, _, _⟩ := PF
  obtain ⟨r0, r1, _, _, _⟩ := PR
  refine bodyPost_ret (v := .tuple #[intv m4 A4 k4 c4, flt f4 g4]) (by simp [results, Try.results49, go_sem, f0, f1, r0, r1]) rfl (⟨z, HZ.out, yr_vl Y4.out ⟨m4, A4, k4, c4, x4, rfl, hl4.more (by omega), R4.out, E⟩⟩)
set_option maxHeartbeats 2000000 in
theorem iand_bad (w : World) (B : Nat) (a b : IV) (HA : a.at w B) (HB : b.at w B) (hB : B ≤ w.heap.size) (f2 : Int) (hf : ffault [a, b] 0 = (6, f2)) :
    Calls Try.prog 49 #[a.v, b.v] w (GivesVF w 0 6 f2) := by
  replace HA : LRd w B a.A a.n a.c a.xs := HA
  replace HB : LRd w B b.A b.n b.c b.xs := HB
  have E : Below w.heap.size w w := Below.refl _ _
  go_enter Try.func49, Try.ntmps49
  go_wp2_with fail
  obtain ⟨V0, hV0⟩ : ∃ V0 : World, V0 = ((((w.alloc (.cells #[.bool a.neg, .slice a.A a.n a.c] 24)).alloc (.cells #[.bool b.neg, .slice b.A b.n b.c] 24)).alloc (.cells #[.bool false, .slice none 0 0] 24)).alloc (.cells #[.int .i64 0, .int .i64 0] 26)) := ⟨_, rfl⟩
  have bV0 : Below w.heap.size w V0 := by rw [hV0]; (repeat (first | with_reducible exact Below.refl _ _ | with_reducible refine Below.drew ?_ | with_reducible refine below_drewN ?_ _ | with_reducible refine Below.setCell ?_ (by first | (simp; done) | (simp; omega) | omega) _ | with_reducible refine Below.alloc ?_ (by first | (simp; done) | (simp; omega) | omega) _))
  have zV0 : w.heap.size + 4 ≤ V0.heap.size := by rw [hV0]; simp
  have PA : Bk2 V0 (w.heap.size) (.bool a.neg) (.slice a.A a.n a.c) := by rw [hV0]; exact ((((Bk2.newAt _ _ (by simp) _ _ _).alloc _).alloc _).alloc _)
  have PB : Bk2 V0 (w.heap.size + 1) (.bool b.neg) (.slice b.A b.n b.c) := by rw [hV0]; exact (((Bk2.newAt _ _ (by simp) _ _ _).alloc _).alloc _)
  have PR : Bk2 V0 (w.heap.size + 2) (.bool false) (.slice none 0 0) := by rw [hV0]; exact ((Bk2.newAt _ _ (by simp) _ _ _).alloc _)
  have PF : Bk2 V0 (w.heap.size + 3) (.int .i64 0) (.int .i64 0) := by rw [hV0]; exact (Bk2.newAt _ _ (by simp) _ _ _)
  rw [← hV0]
  clear hV0
  replace E : Below w.heap.size w V0 := E.trans (bV0.mono E.size)
  replace HA : LRd V0 (B) a.A a.n a.c a.xs := HA.below bV0 (by omega)
  replace HB : LRd V0 (B) b.A b.n b.c b.xs := HB.below bV0 (by omega)
  clear bV0
  refine (comb_bad _ a b _ (LRd.more HA (by omega)) (LRd.more HB (by omega)) f2 hf).mono ?_
  rintro e w9 ⟨m4, A4, k4, c4, x4, rfl, hl4, hr4, hb4⟩
  have R4 := Lib.hid hr4
  have sw9 := hb4.size
  clear hr4
  replace E : Below w.heap.size w w9 := E.trans (hb4.mono E.size)
  replace HA : LRd w9 (B) a.A a.n a.c a.xs := HA.below hb4 (by omega)
  replace HB : LRd w9 (B) b.A b.n b.c b.xs := HB.below hb4 (by omega)
  replace PA : Bk2 w9 (w.heap.size) (.bool a.neg) (.slice a.A a.n a.c) := PA.below hb4 PA.lt
  replace PB : Bk2 w9 (w.heap.size + 1) (.bool b.neg) (.slice b.A b.n b.c) := PB.below hb4 PB.lt
  replace PR : Bk2 w9 (w.heap.size + 2) (.bool false) (.slice none 0 0) := PR.below hb4 PR.lt
  replace PF : Bk2 w9 (w.heap.size + 3) (.int .i64 0) (.int .i64 0) := PF.below hb4 PF.lt
  clear hb4
  have y_PR0 : w9.cell? ⟨w.heap.size + 2, 0, none⟩ = some ((.bool false)) := PR.c0
  have z_PR0 : w9.frozen? ⟨w.heap.size + 2, 0, none⟩ = false := PR.z0
  have y_PR1 : w9.cell? ⟨w.heap.size + 2, 1, none⟩ = some ((.slice none 0 0)) := PR.c1
  have z_PR1 : w9.frozen? ⟨w.heap.size + 2, 1, none⟩ = false := PR.z1
  have lt_PR := PR.lt
  have y_PF0 : w9.cell? ⟨w.heap.size + 3, 0, none⟩ = some ((.int .i64 0)) := PF.c0
  have z_PF0 : w9.frozen? ⟨w.heap.size + 3, 0, none⟩ = false := PF.z0
  have y_PF1 : w9.cell? ⟨w.heap.size + 3, 1, none⟩ = some ((.int .i64 0)) := PF.c1
  have z_PF1 : w9.frozen? ⟨w.heap.size + 3, 1, none⟩ = false := PF.z1
  have lt_PF := PF.lt
  go_wp2_with fail
  clear y_PR0 z_PR0 y_PR1 z_PR1 lt_PR y_PF0 z_PF0 y_PF1 z_PF1 lt_PF
  obtain ⟨U1PR, hU1PR⟩ : ∃ U1PR : World, U1PR = ((w9.setCell ⟨w.heap.size + 2, 0, none⟩ (.bool m4)).setCell ⟨w.heap.size + 2, 1, none⟩ (.slice A4 k4 c4)) := ⟨_, rfl⟩
  have zU1PR : U1PR.heap.size = w9.heap.size := by rw [hU1PR]; simp [World.setCell]
  replace E : Below w.heap.size w U1PR := by rw [hU1PR]; exact (E.setCell (by first | (simp; done) | (simp; omega)) _).setCell (by first | (simp; done) | (simp; omega)) _
  replace HA : LRd U1PR (B) a.A a.n a.c a.xs := by rw [hU1PR]; first | exact HA.setB PR (by simp) (by simp) _ _ | exact HA.setFar2 (by omega) _ _
  replace HB : LRd U1PR (B) b.A b.n b.c b.xs := by rw [hU1PR]; first | exact HB.setB PR (by simp) (by simp) _ _ | exact HB.setFar2 (by omega) _ _
  replace PA : Bk2 U1PR (w.heap.size) (.bool a.neg) (.slice a.A a.n a.c) := by rw [hU1PR]; exact PA.far2 (by omega) _ _
  replace PB : Bk2 U1PR (w.heap.size + 1) (.bool b.neg) (.slice b.A b.n b.c) := by rw [hU1PR]; exact PB.far2 (by omega) _ _
  replace PF : Bk2 U1PR (w.heap.size + 3) (.int .i64 0) (.int .i64 0) := by rw [hU1PR]; exact PF.far2 (by omega) _ _
  replace hl4 : LRd U1PR (w9.heap.size) A4 k4 c4 x4 := by rw [hU1PR]; first | exact hl4.setB PR (by simp) (by simp) _ _ | exact hl4.setFar2 (by omega) _ _
  replace PR : Bk2 U1PR (w.heap.size + 2) (.bool m4) (.slice A4 k4 c4) := by rw [hU1PR]; exact PR.set _ _
  rw [← hU1PR]
  clear hU1PR
  have zU1PR' := Nat.le_of_eq zU1PR
  replace zU1PR := Nat.le_of_eq zU1PR.symm
  obtain ⟨U1PF, hU1PF⟩ : ∃ U1PF : World, U1PF = ((U1PR.setCell ⟨w.heap.size + 3, 0, none⟩ (.int .i64 6)).setCell ⟨w.heap.size + 3, 1, none⟩ (.int .i64 f2)) := ⟨_, rfl⟩
  have zU1PF : U1PF.heap.size = U1PR.heap.size := by rw [hU1PF]; simp [World.setCell]
  replace E : Below w.heap.size w U1PF := by rw [hU1PF]; exact (E.setCell (by first | (simp; done) | (simp; omega)) _).setCell (by first | (simp; done) | (simp; omega)) _
  replace HA : LRd U1PF (B) a.A a.n a.c a.xs := by rw [hU1PF]; first | exact HA.setB PF (by simp) (by simp) _ _ | exact HA.setFar2 (by omega) _ _
  replace HB : LRd U1PF (B) b.A b.n b.c b.xs := by rw [hU1PF]; first | exact HB.setB PF (by simp) (by simp) _ _ | exact HB.setFar2 (by omega) _ _
  replace PA : Bk2 U1PF (w.heap.size) (.bool a.neg) (.slice a.A a.n a.c) := by rw [hU1PF]; exact PA.far2 (by omega) _ _
  replace PB : Bk2 U1PF (w.heap.size + 1) (.bool b.neg) (.slice b.A b.n b.c) := by rw [hU1PF]; exact PB.far2 (by omega) _ _
  replace PR : Bk2 U1PF (w.heap.size + 2) (.bool m4) (.slice A4 k4 c4) := by rw [hU1PF]; exact PR.far2 (by omega) _ _
  replace hl4 : LRd U1PF (w9.heap.size) A4 k4 c4 x4 := by rw [hU1PF]; first | exact hl4.setB PF (by simp) (by simp) _ _ | exact hl4.setFar2 (by omega) _ _
  replace PF : Bk2 U1PF (w.heap.size + 3) (.int .i64 6) (.int .i64 f2) := by rw [hU1PF]; exact PF.set _ _
  rw [← hU1PF]
  clear hU1PF
  have zU1PF' := Nat.le_of_eq zU1PF
  replace zU1PF := Nat.le_of_eq zU1PF.symm
  obtain ⟨f0, f1, _, _, _⟩ := PF
  obtain ⟨r0, r1, _, _, _⟩ := PR
  refine bodyPost_ret (v := .tuple #[intv m4 A4 k4 c4, flt 6 f2]) (by simp [results, Try.results49, go_sem, f0, f1, r0, r1]) rfl ⟨m4, A4, k4, c4, x4, rfl, hl4.more (by omega), R4.out, E⟩
theorem comb_or (w : World) (a b : IV) (HA : a.at w w.heap.size) (HB : b.at w w.heap.size) (oa : a.ok = true) (ob : b.ok = true) :
    Calls Try.prog 93 #[a.v, b.v, (.func (Fn.func 95) #[] #[])] w (CombPost (fun p q => p || q) a.val b.val w) := by
  cases h : (fun p q => p || q) a.neg b.neg
  · exact comb_or_false w a b HA HB oa ob h
  · exact comb_or_true w a b HA HB oa ob h
set_option maxHeartbeats 2000000 in
theorem ior_ok (w : World) (B : Nat) (a b : IV) (HA : a.at w B) (HB : b.at w B) (hB : B ≤ w.heap.size) (oa : a.ok = true) (ob : b.ok = true) :
    Calls Try.prog 50 #[a.v, b.v] w (CombPost (fun p q => p || q) a.val b.val w) := by
  replace HA : LRd w B a.A a.n a.c a.xs := HA
  replace HB : LRd w B b.A b.n b.c b.xs := HB
  have E : Below w.heap.size w w := Below.refl _ _
  go_enter Try.func50, Try.ntmps50
  go_wp2_with fail
  obtain ⟨V0, hV0⟩ : ∃ V0 : World, V0 = ((((w.alloc (.cells #[.bool a.neg, .slice a.A a.n a.c] 24)).alloc (.cells #[.bool b.neg, .slice b.A b.n b.c] 24)).alloc (.cells #[.bool false, .slice none 0 0] 24)).alloc (.cells #[.int .i64 0, .int .i64 0] 26)) := ⟨_, rfl⟩
  have bV0 : Below w.heap.size w V0 := by rw [hV0]; (repeat (first | with_reducible exact Below.refl _ _ | with_reducible refine Below.drew ?_ | with_reducible refine below_drewN ?_ _ | with_reducible refine Below.setCell ?_ (by first | (simp; done) | (simp; omega) | omega) _ | with_reducible refine Below.alloc ?_ (by first | (simp; done) | (simp; omega) | omega) _))
  have zV0 : w.heap.size + 4 ≤ V0.heap.size := by rw [hV0]; simp
  have PA : Bk2 V0 (w.heap.size) (.bool a.neg) (.slice a.A a.n a.c) := by rw [hV0]; exact ((((Bk2.newAt _ _ (by simp) _ _ _).alloc _).alloc _).alloc _)
  have PB : Bk2 V0 (w.heap.size + 1) (.bool b.neg) (.slice b.A b.n b.c) := by rw [hV0]; exact (((Bk2.newAt _ _ (by simp) _ _ _).alloc _).alloc _)
  have PR : Bk2 V0 (w.heap.size + 2) (.bool false) (.slice none 0 0) := by rw [hV0]; exact ((Bk2.newAt _ _ (by simp) _ _ _).alloc _)
  have PF : Bk2 V0 (w.heap.size + 3) (.int .i64 0) (.int .i64 0) := by rw [hV0]; exact (Bk2.newAt _ _ (by simp) _ _ _)
  rw [← hV0]
  clear hV0
  replace E : Below w.heap.size w V0 := E.trans (bV0.mono E.size)
  replace HA : LRd V0 (B) a.A a.n a.c a.xs := HA.below bV0 (by omega)
  replace HB : LRd V0 (B) b.A b.n b.c b.xs := HB.below bV0 (by omega)
  clear bV0
  refine (comb_or _ a b (LRd.more HA (by omega)) (LRd.more HB (by omega)) oa ob).mono ?_
  rintro e w9 ⟨z, hz, hv⟩
  have HZ := Lib.hid hz
  clear hz
  obtain ⟨z4, f4, g4, hy4, m4, A4, k4, c4, x4, rfl, hl4, hr4, hb4⟩ := vl_yr hv
  clear hv
  have R4 := Lib.hid hr4
  have Y4 := Lib.hid hy4
  have sw9 := hb4.size
  clear hr4 hy4
  replace E : Below w.heap.size w w9 := E.trans (hb4.mono E.size)
  replace HA : LRd w9 (B) a.A a.n a.c a.xs := HA.below hb4 (by omega)
  replace HB : LRd w9 (B) b.A b.n b.c b.xs := HB.below hb4 (by omega)
  replace PA : Bk2 w9 (w.heap.size) (.bool a.neg) (.slice a.A a.n a.c) := PA.below hb4 PA.lt
  replace PB : Bk2 w9 (w.heap.size + 1) (.bool b.neg) (.slice b.A b.n b.c) := PB.below hb4 PB.lt
  replace PR : Bk2 w9 (w.heap.size + 2) (.bool false) (.slice none 0 0) := PR.below hb4 PR.lt
  replace PF : Bk2 w9 (w.heap.size + 3) (.int .i64 0) (.int .i64 0) := PF.below hb4 PF.lt
  clear hb4
  have y_PR0 : w9.cell? ⟨w.heap.size + 2, 0, none⟩ = some ((.bool false)) := PR.c0
  have z_PR0 : w9.frozen? ⟨w.heap.size + 2, 0, none⟩ = false := PR.z0
  have y_PR1 : w9.cell? ⟨w.heap.size + 2, 1, none⟩ = some ((.slice none 0 0)) := PR.c1
  have z_PR1 : w9.frozen? ⟨w.heap.size + 2, 1, none⟩ = false := PR.z1
  have lt_PR := PR.lt
  have y_PF0 : w9.cell? ⟨w.heap.size + 3, 0, none⟩ = some ((.int .i64 0)) := PF.c0
  have z_PF0 : w9.frozen? ⟨w.heap.size + 3, 0, none⟩ = false := PF.z0
  have y_PF1 : w9.cell? ⟨w.heap.size + 3, 1, none⟩ = some ((.int .i64 0)) := PF.c1
  have z_PF1 : w9.frozen? ⟨w.heap.size + 3, 1, none⟩ = false := PF.z1
  have lt_PF := PF.lt
  go_wp2_with fail
  clear y_PR0 z_PR0 y_PR1 z_PR1 lt_PR y_PF0 z_PF0 y_PF1 z_PF1 lt_PF
  obtain ⟨U1PR, hU1PR⟩ : ∃ U1PR : World, U1PR = ((w9.setCell ⟨w.heap.size + 2, 0, none⟩ (.bool m4)).setCell ⟨w.heap.size + 2, 1, none⟩ (.slice A4 k4 c4)) := ⟨_, rfl⟩
  have zU1PR : U1PR.heap.size = w9.heap.size := by rw [hU1PR]; simp [World.setCell]
  replace E : Below w.heap.size w U1PR := by rw [hU1PR]; exact (E.setCell (by first | (simp; done) | (simp; omega)) _).setCell (by first | (simp; done) | (simp; omega)) _
  replace HA : LRd U1PR (B) a.A a.n a.c a.xs := by rw [hU1PR]; first | exact HA.setB PR (by simp) (by simp) _ _ | exact HA.setFar2 (by omega) _ _
  replace HB : LRd U1PR (B) b.A b.n b.c b.xs := by rw [hU1PR]; first | exact HB.setB PR (by simp) (by simp) _ _ | exact HB.setFar2 (by omega) _ _
  replace PA : Bk2 U1PR (w.heap.size) (.bool a.neg) (.slice a.A a.n a.c) := by rw [hU1PR]; exact PA.far2 (by omega) _ _
  replace PB : Bk2 U1PR (w.heap.size + 1) (.bool b.neg) (.slice b.A b.n b.c) := by rw [hU1PR]; exact PB.far2 (by omega) _ _
  replace PF : Bk2 U1PR (w.heap.size + 3) (.int .i64 0) (.int .i64 0) := by rw [hU1PR]; exact PF.far2 (by omega) _ _
  replace hl4 : LRd U1PR (w9.heap.size) A4 k4 c4 x4 := by rw [hU1PR]; first | exact hl4.setB PR (by simp) (by simp) _ _ | exact hl4.setFar2 (by omega) _ _
  replace PR : Bk2 U1PR (w.heap.size + 2) (.bool m4) (.slice A4 k4 c4) := by rw [hU1PR]; exact PR.set _ _
  rw [← hU1PR]
  clear hU1PR
  have zU1PR' := Nat.le_of_eq zU1PR
  replace zU1PR := Nat.le_of_eq zU1PR.symm
  obtain ⟨U1PF, hU1PF⟩ : ∃ U1PF : World, U1PF = ((U1PR.setCell ⟨w.heap.size + 3, 0, none⟩ (.int .i64 f4)).setCell ⟨w.heap.size + 3, 1, none⟩ (.int .i64 g4)) := ⟨_, rfl⟩
  have zU1PF : U1PF.heap.size = U1PR.heap.size := by rw [hU1PF]; simp [World.setCell]
  replace E : Below w.heap.size w U1PF := by rw [hU1PF]; exact (E.setCell (by first | (simp; done) | (simp; omega)) _).setCell (by first | (simp; done) | (simp; omega)) _
  replace HA : LRd U1PF (B) a.A a.n a.c a.xs := by rw [hU1PF]; first | exact HA.setB PF (by simp) (by simp) _ _ | exact HA.setFar2 (by omega) _ _
  replace HB : LRd U1PF (B) b.A b.n b.c b.xs := by rw [hU1PF]; first | exact HB.setB PF (by simp) (by simp) _ _ | exact HB.setFar2 (by omega) _ _
  replace PA : Bk2 U1PF (w.heap.size) (.bool a.neg) (.slice a.A a.n a.c) := by rw [hU1PF]; exact PA.far2 (by omega) _ _
  replace PB : Bk2 U1PF (w.heap.size + 1) (.bool b.neg) (.slice b.A b.n b.c) := by rw [hU1PF]; exact PB.far2 (by omega) _ _
  replace PR : Bk2 U1PF (w.heap.size + 2) (.bool m4) (.slice A4 k4 c4) := by rw [hU1PF]; exact PR.far2 (by omega) _ _
  replace hl4 : LRd U1PF (w9.heap.size) A4 k4 c4 x4 := by rw [hU1PF]; first | exact hl4.setB PF (by simp) (by simp) _ _ | exact hl4.setFar2 (by omega) _ _
  replace PF : Bk2 U1PF (w.heap.size + 3) (.int .i64 f4) (.int .i64 g4) := by rw [hU1PF]; exact PF.set _ _
  rw [← hU1PF]
  clear hU1PF
  have zU1PF' := Nat.le_of_eq zU1PF
  replace zU1PF := Nat.le_of_eq zU1PF.symm
  obtain ⟨f0, f1, _, _, _⟩ := PF
  obtain ⟨r0, r1, _, _, _⟩ := PR
  refine bodyPost_ret (v := .tuple #[intv m4 A4 k4 c4, flt f4 g4]) (by simp [results, Try.results50, go_sem, f0, f1, r0, r1]) rfl (⟨z, HZ.out, yr_vl Y4.out ⟨m4, A4, k4, c4, x4, rfl, hl4.more (by omega), R4.out, E⟩⟩)
set_option maxHeartbeats 2000000 in
theorem ior_bad (w : World) (B : Nat) (a b : IV) (HA : a.at w B) (HB : b.at w B) (hB : B ≤ w.heap.size) (f2 : Int) (hf : ffault [a, b] 0 = (6, f2)) :
    Calls Try.prog 50 #[a.v, b.v] w (GivesVF w 0 6 f2) := by
  replace HA : LRd w B a.A a.n a.c a.xs := HA
  replace HB : LRd w B b.A b.n b.c b.xs := HB
  have E : Below w.heap.size w w := Below.refl _ _
  go_enter Try.func50, Try.ntmps50
  go_wp2_with fail
  obtain ⟨V0, hV0⟩ : ∃ V0 : World, V0 = ((((w.alloc (.cells #[.bool a.neg, .slice a.A a.n a.c] 24)).alloc (.cells #[.bool b.neg, .slice b.A b.n b.c] 24)).alloc (.cells #[.bool false, .slice none 0 0] 24)).alloc (.cells #[.int .i64 0, .int .i64 0] 26)) := ⟨_, rfl⟩
  have bV0 : Below w.heap.size w V0 := by rw [hV0]; (repeat (first | with_reducible exact Below.refl _ _ | with_reducible refine Below.drew ?_ | with_reducible refine below_drewN ?_ _ | with_reducible refine Below.setCell ?_ (by first | (simp; done) | (simp; omega) | omega) _ | with_reducible refine Below.alloc ?_ (by first | (simp; done) | (simp; omega) | omega) _))
  have zV0 : w.heap.size + 4 ≤ V0.heap.size := by rw [hV0]; simp
  have PA : Bk2 V0 (w.heap.size) (.bool a.neg) (.slice a.A a.n a.c) := by rw [hV0]; exact ((((Bk2.newAt _ _ (by simp) _ _ _).alloc _).alloc _).alloc _)
  have PB : Bk2 V0 (w.heap.size + 1) (.bool b.neg) (.slice b.A b.n b.c) := by rw [hV0]; exact (((Bk2.newAt _ _ (by simp) _ _ _).alloc _).alloc _)
  have PR : Bk2 V0 (w.heap.size + 2) (.bool false) (.slice none 0 0) := by rw [hV0]; exact ((Bk2.newAt _ _ (by simp) _ _ _).alloc _)
  have PF : Bk2 V0 (w.heap.size + 3) (.int .i64 0) (.int .i64 0) := by rw [hV0]; exact (Bk2.newAt _ _ (by simp) _ _ _)
  rw [← hV0]
  clear hV0
  replace E : Below w.heap.size w V0 := E.trans (bV0.mono E.size)
  replace HA : LRd V0 (B) a.A a.n a.c a.xs := HA.below bV0 (by omega)
  replace HB : LRd V0 (B) b.A b.n b.c b.xs := HB.below bV0 (by omega)
  clear bV0
  refine (comb_bad _ a b _ (LRd.more HA (by omega)) (LRd.more HB (by omega)) f2 hf).mono ?_
  rintro e w9 ⟨m4, A4, k4, c4, x4, rfl, hl4, hr4, hb4⟩
  have R4 := Lib.hid hr4
  have sw9 := hb4.size
  clear hr4
  replace E : Below w.heap.size w w9 := E.trans (hb4.mono E.size)
  replace HA : LRd w9 (B) a.A a.n a.c a.xs := HA.below hb4 (by omega)
  replace HB : LRd w9 (B) b.A b.n b.c b.xs := HB.below hb4 (by omega)
  replace PA : Bk2 w9 (w.heap.size) (.bool a.neg) (.slice a.A a.n a.c) := PA.below hb4 PA.lt
  replace PB : Bk2 w9 (w.heap.size + 1) (.bool b.neg) (.slice b.A b.n b.c) := PB.below hb4 PB.lt
  replace PR : Bk2 w9 (w.heap.size + 2) (.bool false) (.slice none 0 0) := PR.below hb4 PR.lt
  replace PF : Bk2 w9 (w.heap.size + 3) (.int .i64 0) (.int .i64 0) := PF.below hb4 PF.lt
  clear hb4
  have y_PR0 : w9.cell? ⟨w.heap.size + 2, 0, none⟩ = some ((.bool false)) := PR.c0
  have z_PR0 : w9.frozen? ⟨w.heap.size + 2, 0, none⟩ = false := PR.z0
  have y_PR1 : w9.cell? ⟨w.heap.size + 2, 1, none⟩ = some ((.slice none 0 0)) := PR.c1
  have z_PR1 : w9.frozen? ⟨w.heap.size + 2, 1, none⟩ = false := PR.z1
  have lt_PR := PR.lt
  have y_PF0 : w9.cell? ⟨w.heap.size + 3, 0, none⟩ = some ((.int .i64 0)) := PF.c0
  have z_PF0 : w9.frozen? ⟨w.heap.size + 3, 0, none⟩ = false := PF.z0
  have y_PF1 : w9.cell? ⟨w.heap.size + 3, 1, none⟩ = some ((.int .i64 0)) := PF.c1
  have z_PF1 : w9.frozen? ⟨w.heap.size + 3, 1, none⟩ = false := PF.z1
  have lt_PF := PF.lt
  go_wp2_with fail
  clear y_PR0 z_PR0 y_PR1 z_PR1 lt_PR y_PF0 z_PF0 y_PF1 z_PF1 lt_PF
  obtain ⟨U1PR, hU1PR⟩ : ∃ U1PR : World, U1PR = ((w9.setCell ⟨w.heap.size + 2, 0, none⟩ (.bool m4)).setCell ⟨w.heap.size + 2, 1, none⟩ (.slice A4 k4 c4)) := ⟨_, rfl⟩
  have zU1PR : U1PR.heap.size = w9.heap.size := by rw [hU1PR]; simp [World.setCell]
  replace E : Below w.heap.size w U1PR := by rw [hU1PR]; exact (E.setCell (by first | (simp; done) | (simp; omega)) _).setCell (by first | (simp; done) | (simp; omega)) _
  replace HA : LRd U1PR (B) a.A a.n a.c a.xs := by rw [hU1PR]; first | exact HA.setB PR (by simp) (by simp) _ _ | exact HA.setFar2 (by omega) _ _
  replace HB : LRd U1PR (B) b.A b.n b.c b.xs := by rw [hU1PR]; first | exact HB.setB PR (by simp) (by simp) _ _ | exact HB.setFar2 (by omega) _ _
  replace PA : Bk2 U1PR (w.heap.size) (.bool a.neg) (.slice a.A a.n a.c) := by rw [hU1PR]; exact PA.far2 (by omega) _ _
  replace PB : Bk2 U1PR (w.heap.size + 1) (.bool b.neg) (.slice b.A b.n b.c) := by rw [hU1PR]; exact PB.far2 (by omega) _ _
  replace PF : Bk2 U1PR (w.heap.size + 3) (.int .i64 0) (.int .i64 0) := by rw [hU1PR]; exact PF.far2 (by omega) _ _
  replace hl4 : LRd U1PR (w9.heap.size) A4 k4 c4 x4 := by rw [hU1PR]; first | exact hl4.setB PR (by simp) (by simp) _ _ | exact hl4.setFar2 (by omega) _ _
  replace PR : Bk2 U1PR (w.heap.size + 2) (.bool m4) (.slice A4 k4 c4) := by rw [hU1PR]; exact PR.set _ _
  rw [← hU1PR]
  clear hU1PR
  have zU1PR' := Nat.le_of_eq zU1PR
  replace zU1PR := Nat.le_of_eq zU1PR.symm
  obtain ⟨U1PF, hU1PF⟩ : ∃ U1PF : World, U1PF = ((U1PR.setCell ⟨w.heap.size + 3, 0, none⟩ (.int .i64 6)).setCell ⟨w.heap.size + 3, 1, none⟩ (.int .i64 f2)) := ⟨_, rfl⟩
  have zU1PF : U1PF.heap.size = U1PR.heap.size := by rw [hU1PF]; simp [World.setCell]
  replace E : Below w.heap.size w U1PF := by rw [hU1PF]; exact (E.setCell (by first | (simp; done) | (simp; omega)) _).setCell (by first | (simp; done) | (simp; omega)) _
  replace HA : LRd U1PF (B) a.A a.n a.c a.xs := by rw [hU1PF]; first | exact HA.setB PF (by simp) (by simp) _ _ | exact HA.setFar2 (by omega) _ _
  replace HB : LRd U1PF (B) b.A b.n b.c b.xs := by rw [hU1PF]; first | exact HB.setB PF (by simp) (by simp) _ _ | exact HB.setFar2 (by omega) _ _
  replace PA : Bk2 U1PF (w.heap.size) (.bool a.neg) (.slice a.A a.n a.c) := by rw [hU1PF]; exact PA.far2 (by omega) _ _
  replace PB : Bk2 U1PF (w.heap.size + 1) (.bool b.neg) (.slice b.A b.n b.c) := by rw [hU1PF]; exact PB.far2 (by omega) _ _
  replace PR : Bk2 U1PF (w.heap.size + 2) (.bool m4) (.slice A4 k4 c4) := by rw [hU1PF]; exact PR.far2 (by omega) _ _
  replace hl4 : LRd U1PF (w9.heap.size) A4 k4 c4 x4 := by rw [hU1PF]; first | exact hl4.setB PF (by simp) (by simp) _ _ | exact hl4.setFar2 (by omega) _ _
  replace PF : Bk2 U1PF (w.heap.size + 3) (.int .i64 6) (.int .i64 f2) := by rw [hU1PF]; exact PF.set _ _
  rw [← hU1PF]
  clear hU1PF
  have zU1PF' := Nat.le_of_eq zU1PF
  replace zU1PF := Nat.le_of_eq zU1PF.symm
  obtain ⟨f0, f1, _, _, _⟩ := PF
  obtain ⟨r0, r1, _, _, _⟩ := PR
  refine bodyPost_ret (v := .tuple #[intv m4 A4 k4 c4, flt 6 f2]) (by simp [results, Try.results50, go_sem, f0, f1, r0, r1]) rfl ⟨m4, A4, k4, c4, x4, rfl, hl4.more (by omega), R4.out, E⟩
theorem comb_xor (w : World) (a b : IV) (HA : a.at w w.heap.size) (HB : b.at w w.heap.size) (oa : a.ok = true) (ob : b.ok = true) :
    Calls Try.prog 93 #[a.v, b.v, (.func (Fn.func 96) #[] #[])] w (CombPost (fun p q => p != q) a.val b.val w) := by
  cases h : (fun p q => p != q) a.neg b.neg
  · exact comb_xor_false w a b HA HB oa ob h
  · exact comb_xor_true w a b HA HB oa ob h
set_option maxHeartbeats 2000000 in
theorem ixor_ok (w : World) (B : Nat) (a b : IV) (HA : a.at w B) (HB : b.at w B) (hB : B ≤ w.heap.size) (oa : a.ok = true) (ob : b.ok = true) :
    Calls Try.prog 51 #[a.v, b.v] w (CombPost (fun p q => p != q) a.val b.val w) := by
  replace HA : LRd w B a.A a.n a.c a.xs := HA
  replace HB : LRd w B b.A b.n b.c b.xs := HB
  have E : Below w.heap.size w w := Below.refl _ _
  go_enter Try.func51, Try.ntmps51
  go_wp2_with fail
  obtain ⟨V0, hV0⟩ : ∃ V0 : World, V0 = ((((w.alloc (.cells #[.bool a.neg, .slice a.A a.n a.c] 24)).alloc (.cells #[.bool b.neg, .slice b.A b.n b.c] 24)).alloc (.cells #[.bool false, .slice none 0 0] 24)).alloc (.cells #[.int .i64 0, .int .i64 0] 26)) := ⟨_, rfl⟩
  have bV0 : Below w.heap.size w V0 := by rw [hV0]; (repeat (first | with_reducible exact Below.refl _ _ | with_reducible refine Below.drew ?_ | with_reducible refine below_drewN ?_ _ | with_reducible refine Below.setCell ?_ (by first | (simp; done) | (simp; omega) | omega) _ | with_reducible refine Below.alloc ?_ (by first | (simp; done) | (simp; omega) | omega) _))
  have zV0 : w.heap.size + 4 ≤ V0.heap.size := by rw [hV0]; simp
  have PA : Bk2 V0 (w.heap.size) (.bool a.neg) (.slice a.A a.n a.c) := by rw [hV0]; exact ((((Bk2.newAt _ _ (by simp) _ _ _).alloc _).alloc _).alloc _)
  have PB : Bk2 V0 (w.heap.size + 1) (.bool b.neg) (.slice b.A b.n b.c) := by rw [hV0]; exact (((Bk2.newAt _ _ (by simp) _ _ _).alloc _).alloc _)
  have PR : Bk2 V0 (w.heap.size + 2) (.bool false) (.slice none 0 0) := by rw [hV0]; exact ((Bk2.newAt _ _ (by simp) _ _ _).alloc _)
  have PF : Bk2 V0 (w.heap.size + 3) (.int .i64 0) (.int .i64 0) := by rw [hV0]; exact (Bk2.newAt _ _ (by simp) _ _ _)
  rw [← hV0]
  clear hV0
  replace E : Below w.heap.size w V0 := E.trans (bV0.mono E.size)
  replace HA : LRd V0 (B) a.A a.n a.c a.xs := HA.below bV0 (by omega)
  replace HB : LRd V0 (B) b.A b.n b.c b.xs := HB.below bV0 (by omega)
  clear bV0
  refine (comb_xor _ a b (LRd.more HA (by omega)) (LRd.more HB (by omega)) oa ob).mono ?_
  rintro e w9 ⟨z, hz, hv⟩
  have HZ := Lib.hid hz
  clear hz
  obtain ⟨z4, f4, g4, hy4, m4, A4, k4, c4, x4, rfl, hl4, hr4, hb4⟩ := vl_yr hv
  clear hv
  have R4 := Lib.hid hr4
  have Y4 := Lib.hid hy4
  have sw9 := hb4.size
  clear hr4 hy4
  replace E : Below w.heap.size w w9 := E.trans (hb4.mono E.size)
  replace HA : LRd w9 (B) a.A a.n a.c a.xs := HA.below hb4 (by omega)
  replace HB : LRd w9 (B) b.A b.n b.c b.xs := HB.below hb4 (by omega)
  replace PA : Bk2 w9 (w.heap.size) (.bool a.neg) (.slice a.A a.n a.c) := PA.below hb4 PA.lt
  replace PB : Bk2 w9 (w.heap.size + 1) (.bool b.neg) (.slice b.A b.n b.c) := PB.below hb4 PB.lt
  replace PR : Bk2 w9 (w.heap.size + 2) (.bool false) (.slice none 0 0) := PR.below hb4 PR.lt
  replace PF : Bk2 w9 (w.heap.size + 3) (.int .i64 0) (.int .i64 0) := PF.below hb4 PF.lt
  clear hb4
  have y_PR0 : w9.cell? ⟨w.heap.size + 2, 0, none⟩ = some ((.bool false)) := PR.c0
  have z_PR0 : w9.frozen? ⟨w.heap.size + 2, 0, none⟩ = false := PR.z0
  have y_PR1 : w9.cell? ⟨w.heap.size + 2, 1, none⟩ = some ((.slice none 0 0)) := PR.c1
  have z_PR1 : w9.frozen? ⟨w.heap.size + 2, 1, none⟩ = false := PR.z1
  have lt_PR := PR.lt
  have y_PF0 : w9.cell? ⟨w.heap.size + 3, 0, none⟩ = some ((.int .i64 0)) := PF.c0
  have z_PF0 : w9.frozen? ⟨w.heap.size + 3, 0, none⟩ = false := PF.z0
  have y_PF1 : w9.cell? ⟨w.heap.size + 3, 1, none⟩ = some ((.int .i64 0)) := PF.c1
  have z_PF1 : w9.frozen? ⟨w.heap.size + 3, 1, none⟩ = false := PF.z1
  have lt_PF := PF.lt
  go_wp2_with fail
  clear y_PR0 z_PR0 y_PR1 z_PR1 lt_PR y_PF0 z_PF0 y_PF1 z_PF1 lt_PF
  obtain ⟨U1PR, hU1PR⟩ : ∃ U1PR : World, U1PR = ((w9.setCell ⟨w.heap.size + 2, 0, none⟩ (.bool m4)).setCell ⟨w.heap.size + 2, 1, none⟩ (.slice A4 k4 c4)) := ⟨_, rfl⟩
  have zU1PR : U1PR.heap.size = w9.heap.size := by rw [hU1PR]; simp [World.setCell]
  replace E : Below w.heap.size w U1PR := by rw [hU1PR]; exact (E.setCell (by first | (simp; done) | (simp; omega)) _).setCell (by first | (simp; done) | (simp; omega)) _
  replace HA : LRd U1PR (B) a.A a.n a.c a.xs := by rw [hU1PR]; first | exact HA.setB PR (by simp) (by simp) _ _ | exact HA.setFar2 (by omega) _ _
  replace HB : LRd U1PR (B) b.A b.n b.c b.xs := by rw [hU1PR]; first | exact HB.setB PR (by simp) (by simp) _ _ | exact HB.setFar2 (by omega) _ _
  replace PA : Bk2 U1PR (w.heap.size) (.bool a.neg) (.slice a.A a.n a.c) := by rw [hU1PR]; exact PA.far2 (by omega) _ _
  replace PB : Bk2 U1PR (w.heap.size + 1) (.bool b.neg) (.slice b.A b.n b.c) := by rw [hU1PR]; exact PB.far2 (by omega) _ _
  replace PF : Bk2 U1PR (w.heap.size + 3) (.int .i64 0) (.int .i64 0) := by rw [hU1PR]; exact PF.far2 (by omega) _ _
  replace hl4 : LRd U1PR (w9.heap.size) A4 k4 c4 x4 := by rw [hU1PR]; first | exact hl4.setB PR (by simp) (by simp) _ _ | exact hl4.setFar2 (by omega) _ _
  replace PR : Bk2 U1PR (w.heap.size + 2) (.bool m4) (.slice A4 k4 c4) := by rw [hU1PR]; exact PR.set _ _
  rw [← hU1PR]
  clear hU1PR
  have zU1PR' := Nat.le_of_eq zU1PR
  replace zU1PR := Nat.le_of_eq zU1PR.symm
  obtain ⟨U1PF, hU1PF⟩ : ∃ U1PF : World, U1PF = ((U1PR.setCell ⟨w.heap.size + 3, 0, none⟩ (.int .i64 f4)).setCell ⟨w.heap.size + 3, 1, none⟩ (.int .i64 g4)) := ⟨_, rfl⟩
  have zU1PF : U1PF.heap.size = U1PR.heap.size := by rw [hU1PF]; simp [World.setCell]
  replace E : Below w.heap.size w U1PF := by rw [hU1PF]; exact (E.setCell (by first | (simp; done) | (simp; omega)) _).setCell (by first | (simp; done) | (simp; omega)) _
  replace HA : LRd U1PF (B) a.A a.n a.c a.xs := by rw [hU1PF]; first | exact HA.setB PF (by simp) (by simp) _ _ | exact HA.setFar2 (by omega) _ _
  replace HB : LRd U1PF (B) b.A b.n b.c b.xs := by rw [hU1PF]; first | exact HB.setB PF (by simp) (by simp) _ _ | exact HB.setFar2 (by omega) _ _
  replace PA : Bk2 U1PF (w.heap.size) (.bool a.neg) (.slice a.A a.n a.c) := by rw [hU1PF]; exact PA.far2 (by omega) _ _
  replace PB : Bk2 U1PF (w.heap.size + 1) (.bool b.neg) (.slice b.A b.n b.c) := by rw [hU1PF]; exact PB.far2 (by omega) _ _
  replace PR : Bk2 U1PF (w.heap.size + 2) (.bool m4) (.slice A4 k4 c4) := by rw [hU1PF]; exact PR.far2 (by omega) _ _
  replace hl4 : LRd U1PF (w9.heap.size) A4 k4 c4 x4 := by rw [hU1PF]; first | exact hl4.setB PF (by simp) (by simp) _ _ | exact hl4.setFar2 (by omega) _ _
  replace PF : Bk2 U1PF (w.heap.size + 3) (.int .i64 f4) (.int .i64 g4) := by rw [hU1PF]; exact PF.set _ _
  rw [← hU1PF]
  clear hU1PF
  have zU1PF' := Nat.le_of_eq zU1PF
  replace zU1PF := Nat.le_of_eq zU1PF.symm
  obtain ⟨f0, f1, _, _, _⟩ := PF
  obtain ⟨r0, r1, _, _, _⟩ := PR
  refine bodyPost_ret (v := .tuple #[intv m4 A4 k4 c4, flt f4 g4]) (by simp [results, Try.results51, go_sem, f0, f1, r0, r1]) rfl (⟨z, HZ.out, yr_vl Y4.out ⟨m4, A4, k4, c4, x4, rfl, hl4.more (by omega), R4.out, E⟩⟩)
set_option maxHeartbeats 2000000 in
theorem ixor_bad (w : World) (B : Nat) (a b : IV) (HA : a.at w B) (HB : b.at w B) (hB : B ≤ w.heap.size) (f2 : Int) (hf : ffault [a, b] 0 = (6, f2)) :
    Calls Try.prog 51 #[a.v, b.v] w (GivesVF w 0 6 f2) := by
  replace HA : LRd w B a.A a.n a.c a.xs := HA
  replace HB : LRd w B b.A b.n b.c b.xs := HB
  have E : Below w.heap.size w w := Below.refl _ _
  go_enter Try.func51, Try.ntmps51
  go_wp2_with fail
  obtain ⟨V0, hV0⟩ : ∃ V0 : World, V0 = ((((w.alloc (.cells #[.bool a.neg, .slice a.A a.n a.c] 24)).alloc (.cells #[.bool b.neg, .slice b.A b.n b.c] 24)).alloc (.cells #[.bool false, .slice none 0 0] 24)).alloc (.cells #[.int .i64 0, .int .i64 0] 26)) := ⟨_, rfl⟩
  have bV0 : Below w.heap.size w V0 := by rw [hV0]; (repeat (first | with_reducible exact Below.refl _ _ | with_reducible refine Below.drew ?_ | with_reducible refine below_drewN ?_ _ | with_reducible refine Below.setCell ?_ (by first | (simp; done) | (simp; omega) | omega) _ | with_reducible refine Below.alloc ?_ (by first | (simp; done) | (simp; omega) | omega) _))
  have zV0 : w.heap.size + 4 ≤ V0.heap.size := by rw [hV0]; simp
  have PA : Bk2 V0 (w.heap.size) (.bool a.neg) (.slice a.A a.n a.c) := by rw [hV0]; exact ((((Bk2.newAt _ _ (by simp) _ _ _).alloc _).alloc _).alloc _)
  have PB : Bk2 V0 (w.heap.size + 1) (.bool b.neg) (.slice b.A b.n b.c) := by rw [hV0]; exact (((Bk2.newAt _ _ (by simp) _ _ _).alloc _).alloc _)
  have PR : Bk2 V0 (w.heap.size + 2) (.bool false) (.slice none 0 0) := by rw [hV0]; exact ((Bk2.newAt _ _ (by simp) _ _ _).alloc _)
  have PF : Bk2 V0 (w.heap.size + 3) (.int .i64 0) (.int .i64 0) := by rw [hV0]; exact (Bk2.newAt _ _ (by simp) _ _ _)
  rw [← hV0]
  clear hV0
  replace E : Below w.heap.size w V0 := E.trans (bV0.mono E.size)
  replace HA : LRd V0 (B) a.A a.n a.c a.xs := HA.below bV0 (by omega)
  replace HB : LRd V0 (B) b.A b.n b.c b.xs := HB.below bV0 (by omega)
  clear bV0
  refine (comb_bad _ a b _ (LRd.more HA (by omega)) (LRd.more HB (by omega)) f2 hf).mono ?_
  rintro e w9 ⟨m4, A4, k4, c4, x4, rfl, hl4, hr4, hb4⟩
  have R4 := Lib.hid hr4
  have sw9 := hb4.size
  clear hr4
  replace E : Below w.heap.size w w9 := E.trans (hb4.mono E.size)
  replace HA : LRd w9 (B) a.A a.n a.c a.xs := HA.below hb4 (by omega)
  replace HB : LRd w9 (B) b.A b.n b.c b.xs := HB.below hb4 (by omega)
  replace PA : Bk2 w9 (w.heap.size) (.bool a.neg) (.slice a.A a.n a.c) := PA.below hb4 PA.lt
  replace PB : Bk2 w9 (w.heap.size + 1) (.bool b.neg) (.slice b.A b.n b.c) := PB.below hb4 PB.lt
  replace PR : Bk2 w9 (w.heap.size + 2) (.bool false) (.slice none 0 0) := PR.below hb4 PR.lt
  replace PF : Bk2 w9 (w.heap.size + 3) (.int .i64 0) (.int .i64 0) := PF.below hb4 PF.lt
  clear hb4
  have y_PR0 : w9.cell? ⟨w.heap.size + 2, 0, none⟩ = some ((.bool false)) := PR.c0
  have z_PR0 : w9.frozen? ⟨w.heap.size + 2, 0, none⟩ = false := PR.z0
  have y_PR1 : w9.cell? ⟨w.heap.size + 2, 1, none⟩ = some ((.slice none 0 0)) := PR.c1
  have z_PR1 : w9.frozen? ⟨w.heap.size + 2, 1, none⟩ = false := PR.z1
  have lt_PR := PR.lt
  have y_PF0 : w9.cell? ⟨w.heap.size + 3, 0, none⟩ = some ((.int .i64 0)) := PF.c0
  have z_PF0 : w9.frozen? ⟨w.heap.size + 3, 0, none⟩ = false := PF.z0
  have y_PF1 : w9.cell? ⟨w.heap.size + 3, 1, none⟩ = some ((.int .i64 0)) := PF.c1
  have z_PF1 : w9.frozen? ⟨w.heap.size + 3, 1, none⟩ = false := PF.z1
  have lt_PF := PF.lt
  go_wp2_with fail
  clear y_PR0 z_PR0 y_PR1 z_PR1 lt_PR y_PF0 z_PF0 y_PF1 z_PF1 lt_PF
  obtain ⟨U1PR, hU1PR⟩ : ∃ U1PR : World, U1PR = ((w9.setCell ⟨w.heap.size + 2, 0, none⟩ (.bool m4)).setCell ⟨w.heap.size + 2, 1, none⟩ (.slice A4 k4 c4)) := ⟨_, rfl⟩
  have zU1PR : U1PR.heap.size = w9.heap.size := by rw [hU1PR]; simp [World.setCell]
  replace E : Below w.heap.size w U1PR := by rw [hU1PR]; exact (E.setCell (by first | (simp; done) | (simp; omega)) _).setCell (by first | (simp; done) | (simp; omega)) _
  replace HA : LRd U1PR (B) a.A a.n a.c a.xs := by rw [hU1PR]; first | exact HA.setB PR (by simp) (by simp) _ _ | exact HA.setFar2 (by omega) _ _
  replace HB : LRd U1PR (B) b.A b.n b.c b.xs := by rw [hU1PR]; first | exact HB.setB PR (by simp) (by simp) _ _ | exact HB.setFar2 (by omega) _ _
  replace PA : Bk2 U1PR (w.heap.size) (.bool a.neg) (.slice a.A a.n a.c) := by rw [hU1PR]; exact PA.far2 (by omega) _ _
  replace PB : Bk2 U1PR (w.heap.size + 1) (.bool b.neg) (.slice b.A b.n b.c) := by rw [hU1PR]; exact PB.far2 (by omega) _ _
  replace PF : Bk2 U1PR (w.heap.size + 3) (.int .i64 0) (.int .i64 0) := by rw [hU1PR]; exact PF.far2 (by omega) _ _
  replace hl4 : LRd U1PR (w9.heap.size) A4 k4 c4 x4 := by rw [hU1PR]; first | exact hl4.setB PR (by simp) (by simp) _ _ | exact hl4.setFar2 (by omega) _ _
  replace PR : Bk2 U1PR (w.heap.size + 2) (.bool m4) (.slice A4 k4 c4) := by rw [hU1PR]; exact PR.set _ _
  rw [← hU1PR]
  clear hU1PR
  have zU1PR' := Nat.le_of_eq zU1PR
  replace zU1PR := Nat.le_of_eq zU1PR.symm
  obtain ⟨U1PF, hU1PF⟩ : ∃ U1PF : World, U1PF = ((U1PR.setCell ⟨w.heap.size + 3, 0, none⟩ (.int .i64 6)).setCell ⟨w.heap.size + 3, 1, none⟩ (.int .i64 f2)) := ⟨_, rfl⟩
  have zU1PF : U1PF.heap.size = U1PR.heap.size := by rw [hU1PF]; simp [World.setCell]
  replace E : Below w.heap.size w U1PF := by rw [hU1PF]; exact (E.setCell (by first | (simp; done) | (simp; omega)) _).setCell (by first | (simp; done) | (simp; omega)) _
  replace HA : LRd U1PF (B) a.A a.n a.c a.xs := by rw [hU1PF]; first | exact HA.setB PF (by simp) (by simp) _ _ | exact HA.setFar2 (by omega) _ _
  replace HB : LRd U1PF (B) b.A b.n b.c b.xs := by rw [hU1PF]; first | exact HB.setB PF (by simp) (by simp) _ _ | exact HB.setFar2 (by omega) _ _
  replace PA : Bk2 U1PF (w.heap.size) (.bool a.neg) (.slice a.A a.n a.c) := by rw [hU1PF]; exact PA.far2 (by omega) _ _
  replace PB : Bk2 U1PF (w.heap.size + 1) (.bool b.neg) (.slice b.A b.n b.c) := by rw [hU1PF]; exact PB.far2 (by omega) _ _
  replace PR : Bk2 U1PF (w.heap.size + 2) (.bool m4) (.slice A4 k4 c4) := by rw [hU1PF]; exact PR.far2 (by omega) _ _
  replace hl4 : LRd U1PF (w9.heap.size) A4 k4 c4 x4 := by rw [hU1PF]; first | exact hl4.setB PF (by simp) (by simp) _ _ | exact hl4.setFar2 (by omega) _ _
  replace PF : Bk2 U1PF (w.heap.size + 3) (.int .i64 6) (.int .i64 f2) := by rw [hU1PF]; exact PF.set _ _
  rw [← hU1PF]
  clear hU1PF
  have zU1PF' := Nat.le_of_eq zU1PF
  replace zU1PF := Nat.le_of_eq zU1PF.symm
  obtain ⟨f0, f1, _, _, _⟩ := PF
  obtain ⟨r0, r1, _, _, _⟩ := PR
  refine bodyPost_ret (v := .tuple #[intv m4 A4 k4 c4, flt 6 f2]) (by simp [results, Try.results51, go_sem, f0, f1, r0, r1]) rfl ⟨m4, A4, k4, c4, x4, rfl, hl4.more (by omega), R4.out, E⟩
end Go.Proofs.Ytpjfoggohhlbdaa
