/- The program's And, Or and Xor. -/
import Derived.Test.YtpjfoggohhlbdaaUBit4
import Derived.Test.YtpjfoggohhlbdaaUBit5
import Derived.Test.YtpjfoggohhlbdaaUBit6
import Derived.Test.YtpjfoggohhlbdaaUInt24
namespace Go.Proofs.Ytpjfoggohhlbdaa
open Go.RowKit
set_option maxHeartbeats 400000
set_option maxRecDepth 100000
set_option linter.unusedSimpArgs false
set_option linter.unusedVariables false

theorem comb_and (w : World) (a b : IV) (HA : a.at w w.heap.size) (HB : b.at w w.heap.size) (oa : a.ok = true) (ob : b.ok = true) :
    Calls Try.prog 93 #[a.v, b.v, (.func (Fn.func 94) #[] #[])] w (CombPost (fun p q => p && q) a.val b.val w) := by
  cases h : (fun p q => p && q) a.neg b.neg
  · exact comb_and_false w a b HA HB oa ob h
  · exact comb_and_true w a b HA HB oa ob h
set_option maxHeartbeats 2000000 in
theorem iand_ok (w : World) (B : Nat) (a b : IV) (HA : a.at w B) (HB : b.at w B) (hB : B ≤ w.heap.size) (oa : a.ok = true) (ob : b.ok = true) :
    Calls Try.prog 49 #[a.v, b.v] w (CombPost (fun p q => p && q) a.val b.val w) := by
  replace HA : LRd w B a.A a.n a.c a.xs := HA
  replace HB : LRd w B b.A b.n b.c b.xs := HB
  have E : Below w.heap.size w w := Below.refl _ _
  go_enter Try.func49, Try.ntmps49
  go_wp2_with fail
  obtain ⟨V0, hV0⟩ : ∃ V0 : World, V0 = ((((w.alloc (.cells #[.bool a.neg, .slice a.A a.n a.c] 24)).alloc (.cells #[.bool b.neg, .slice b.A b.n b.c] 24)).alloc (.cells #[.bool false, .slice none 0 0] 24)).alloc (.cells #[.int .i64 0, .int .i64 0] 26)) := ⟨_, rfl⟩
  have bV0 : Below w.heap.size w V0 := by rw [hV0]; (repeat (first | with_reducible exact Below.refl _ _ | with_reducible refine Below.drew ?_ | with_reducible refine below_drewN ?_ _ | with_reducible refine Below.setCell ?_ (by first | (simp; done) | (simp; omega) | omega) _ | with_reducible refine Below.alloc ?_ (by first | (simp; done) | (simp; omega) | omega) _))
  have zV0 : w.heap.size + 4 ≤ V0.heap.size := by rw [hV0]; simp
  have PA : Bk2 V0 (w.heap.size) (.bool a.neg) (.slice a.A a.n a.c) := by rw [hV0]; exact ((((Bk2.newAt _ _ (by simp) _ _ _).alloc _).alloc _).alloc _)
  have PB : Bk2 V0 (w.heap.size + 1) (.bool b.neg) (.slice b.A b.n b.c) := by rw [hV0]; exact (((Bk2.newAt _ _ (by simp) _ _ _).alloc _).alloc _)
  have PR : Bk2 V0 (w.heap.size + 2) (.bool false) (.slice none 0 0) := by rw [hV0]; exact ((Bk2.newAt _ _ (by simp) _ _ _).alloc _)
  have PF : Bk2 V0 (w.heap.size + 3) (.int .i64 0) (.int .i64 0) := by rw [hV0]; exact (Bk2.newAt _ _ (by simp) _ _ _)
  rw [← hV0]
  clear hV0
  replace E : Below w.heap.size w V0 := E.trans (bV0.mono E.size)
  replace HA : LRd V0 (B) a.A a.n a.c a.xs := HA.below bV0 (by omega)
  replace HB : LRd V0 (B) b.A b.n b.c b.xs := HB.below bV0 (by omega)
  clear bV0
  refine (comb_and _ a b (LRd.more HA (by omega)) (LRd.more HB (by omega)) oa ob).mono ?_
  rintro e w9 ⟨z, hz, hv⟩
  have HZ := Lib.hid hz
  clear hz
  obtain ⟨z4, f4, g4, hy4, m4, A4, k4, c4, x4, rfl, hl4, hr4, hb4⟩ := vl_yr hv
  clear hv
  have R4 := Lib.hid hr4
  have Y4 := Lib.hid hy4
  have sw9 := hb4.size
  clear hr4 hy4
  replace E : Below w.heap.size w w9 := E.trans (hb4.mono E.size)
  replace HA : LRd w9 (B) a.A a.n a.c a.xs := HA.below hb4 (by omega)
  replace HB : LRd w9 (B) b.A b.n b.c b.xs := HB.below hb4 (by omega)
  replace PA : Bk2 w9 (w.heap.size) (.bool a.neg) (.slice a.A a.n a.c) := PA.below hb4 PA.lt
  replace PB : Bk2 w9 (w.heap.size + 1) (.bool b.neg) (.slice b.A b.n b.c) := PB.below hb4 PB.lt
  replace PR : Bk2 w9 (w.heap.size + 2) (.bool false) (.slice none 0 0) := PR.below hb4 PR.lt
  replace PF : Bk2 w9 (w.heap.size + 3) (.int .i64 0) (.int .i64 0) := PF.below hb4 PF.lt
  clear hb4
  have y_PR0 : w9.cell? ⟨w.heap.size + 2, 0, none⟩ = some ((.bool false)) := PR.c0
  have z_PR0 : w9.frozen? ⟨w.heap.size + 2, 0, none⟩ = false := PR.z0
  have y_PR1 : w9.cell? ⟨w.heap.size + 2, 1, none⟩ = some ((.slice none 0 0)) := PR.c1
  have z_PR1 : w9.frozen? ⟨w.heap.size + 2, 1, none⟩ = false := PR.z1
  have lt_PR := PR.lt
  have y_PF0 : w9.cell? ⟨w.heap.size + 3, 0, none⟩ = some ((.int .i64 0)) := PF.c0
  have z_PF0 : w9.frozen? ⟨w.heap.size + 3, 0, none⟩ = false := PF.z0
  have y_PF1 : w9.cell? ⟨w.heap.size + 3, 1, none⟩ = some ((.int .i64 0)) := PF.c1
  have z_PF1 : w9.frozen? ⟨w.heap.size + 3, 1, none⟩ = false := PF.z1
  have lt_PF := PF.lt
  go_wp2_with fail
  clear y_PR0 z_PR0 y_PR1 z_PR1 lt_PR y_PF0 z_PF0 y_PF1 z_PF1 lt_PF
  obtain ⟨U1PR, hU1PR⟩ : ∃ U1PR : World, U1PR = ((w9.setCell ⟨w.heap.size + 2, 0, none⟩ (.bool m4)).setCell ⟨w.heap.size + 2, 1, none⟩ (.slice A4 k4 c4)) := ⟨_, rfl⟩
  have zU1PR : U1PR.heap.size = w9.heap.size := by rw [hU1PR]; simp [World.setCell]
  replace E : Below w.heap.size w U1PR := by rw [hU1PR]; exact (E.setCell (by first | (simp; done) | (simp; omega)) _).setCell (by first | (simp; done) | (simp; omega)) _
  replace HA : LRd U1PR (B) a.A a.n a.c a.xs := by rw [hU1PR]; first | exact HA.setB PR (by simp) (by simp) _ _ | exact HA.setFar2 (by omega) _ _
  replace HB : LRd U1PR (B) b.A b.n b.c b.xs := by rw [hU1PR]; first | exact HB.setB PR (by simp) (by simp) _ _ | exact HB.setFar2 (by omega) _ _
  replace PA : Bk2 U1PR (w.heap.size) (.bool a.neg) (.slice a.A a.n a.c) := by rw [hU1PR]; exact PA.far2 (by omega) _ _
  replace PB : Bk2 U1PR (w.heap.size + 1) (.bool b.neg) (.slice b.A b.n b.c) := by rw [hU1PR]; exact PB.far2 (by omega) _ _
  replace PF : Bk2 U1PR (w.heap.size + 3) (.int .i64 0) (.int .i64 0) := by rw [hU1PR]; exact PF.far2 (by omega) _ _
  replace hl4 : LRd U1PR (w9.heap.size) A4 k4 c4 x4 := by rw [hU1PR]; first | exact hl4.setB PR (by simp) (by simp) _ _ | exact hl4.setFar2 (by omega) _ _
  replace PR : Bk2 U1PR (w.heap.size + 2) (.bool m4) (.slice A4 k4 c4) := by rw [hU1PR]; exact PR.set _ _
  rw [← hU1PR]
  clear hU1PR
  have zU1PR' := Nat.le_of_eq zU1PR
  replace zU1PR := Nat.le_of_eq zU1PR.symm
  obtain ⟨U1PF, hU1PF⟩ : ∃ U1PF : World, U1PF = ((U1PR.setCell ⟨w.heap.size + 3, 0, none⟩ (.int .i64 f4)).setCell ⟨w.heap.size + 3, 1, none⟩ (.int .i64 g4)) := ⟨_, rfl⟩
  have zU1PF : U1PF.heap.size = U1PR.heap.size := by rw [hU1PF]; simp [World.setCell]
  replace E : Below w.heap.size w U1PF := by rw [hU1PF]; exact (E.setCell (by first | (simp; done) | (simp; omega)) _).setCell (by first | (simp; done) | (simp; omega)) _
  replace HA : LRd U1PF (B) a.A a.n a.c a.xs := by rw [hU1PF]; first | exact HA.setB PF (by simp) (by simp) _ _ | exact HA.setFar2 (by omega) _ _
  replace HB : LRd U1PF (B) b.A b.n b.c b.xs := by rw [hU1PF]; first | exact HB.setB PF (by simp) (by simp) _ _ | exact HB.setFar2 (by omega) _ _
  replace PA : Bk2 U1PF (w.heap.size) (.bool a.neg) (.slice a.A a.n a.c) := by rw [hU1PF]; exact PA.far2 (by omega) _ _
  replace PB : Bk2 U1PF (w.heap.size + 1) (.bool b.neg) (.slice b.A b.n b.c) := by rw [hU1PF]; exact PB.far2 (by omega) _ _
  replace PR : Bk2 U1PF (w.heap.size + 2) (.bool m4) (.slice A4 k4 c4) := by rw [hU1PF]; exact PR.far2 (by omega) _ _
  replace hl4 : LRd U1PF (w9.heap.size) A4 k4 c4 x4 := by rw [hU1PF]; first | exact hl4.setB PF (by simp) (by simp) _ _ | exact hl4.setFar2 (by omega) _ _
  replace PF : Bk2 U1PF (w.heap.size + 3) (.int .i64 f4) (.int .i64 g4) := by rw [hU1PF]; exact PF.set _ _
  rw [← hU1PF]
  clear hU1PF
  have zU1PF' := Nat.le_of_eq zU1PF
  replace zU1PF := Nat.le_of_eq zU1PF.symm
  obtain ⟨f0, f1, _, _, _⟩ := PF
  obtain ⟨r0, r1, _, _, _⟩ := PR
  refine bodyPost_ret (v := .tuple #[intv m4 A4 k4 c4, flt f4 g4]) (by simp [results, Try.results49, go_sem, f0, f1, r0, r1]) rfl (⟨z, HZ.out, yr_vl Y4.out ⟨m4, A4, k4, c4, x4, rfl, hl4.more (by omega), R4.out, E⟩⟩)
theorem comb_or (w : World) (a b : IV) (HA : a.at w w.heap.size) (HB : b.at w w.heap.size) (oa : a.ok = true) (ob : b.ok = true) :
    Calls Try.prog 93 #[a.v, b.v, (.func (Fn.func 95) #[] #[])] w (CombPost (fun p q => p || q) a.val b.val w) := by
  cases h : (fun p q => p || q) a.neg b.neg
  · exact comb_or_false w a b HA HB oa ob h
  · exact comb_or_true w a b HA HB oa ob h
set_option maxHeartbeats 2000000 in
theorem ior_ok (w : World) (B : Nat) (a b : IV) (HA : a.at w B) (HB : b.at w B) (hB : B ≤ w.heap.size) (oa : a.ok = true) (ob : b.ok = true) :
    Calls Try.prog 50 #[a.v, b.v] w (CombPost (fun p q => p || q) a.val b.val w) := by
  replace HA : LRd w B a.A a.n a.c a.xs := HA
  replace HB : LRd w B b.A b.n b.c b.xs := HB
  have E : Below w.heap.size w w := Below.refl _ _
  go_enter Try.func50, Try.ntmps50
  go_wp2_with fail
  obtain ⟨V0, hV0⟩ : ∃ V0 : World, V0 = ((((w.alloc (.cells #[.bool a.neg, .slice a.A a.n a.c] 24)).alloc (.cells #[.bool b.neg, .slice b.A b.n b.c] 24)).alloc (.cells #[.bool false, .slice none 0 0] 24)).alloc (.cells #[.int .i64 0, .int .i64 0] 26)) := ⟨_, rfl⟩
  have bV0 : Below w.heap.size w V0 := by rw [hV0]; (repeat (first | with_reducible exact Below.refl _ _ | with_reducible refine Below.drew ?_ | with_reducible refine below_drewN ?_ _ | with_reducible refine Below.setCell ?_ (by first | (simp; done) | (simp; omega) | omega) _ | with_reducible refine Below.alloc ?_ (by first | (simp; done) | (simp; omega) | omega) _))
  have zV0 : w.heap.size + 4 ≤ V0.heap.size := by rw [hV0]; simp
  have PA : Bk2 V0 (w.heap.size) (.bool a.neg) (.slice a.A a.n a.c) := by rw [hV0]; exact ((((Bk2.newAt _ _ (by simp) _ _ _).alloc _).alloc _).alloc _)
  have PB : Bk2 V0 (w.heap.size + 1) (.bool b.neg) (.slice b.A b.n b.c) := by rw [hV0]; exact (((Bk2.newAt _ _ (by simp) _ _ _).alloc _).alloc _)
  have PR : Bk2 V0 (w.heap.size + 2) (.bool false) (.slice none 0 0) := by rw [hV0]; exact ((Bk2.newAt _ _ (by simp) _ _ _).alloc _)
  have PF : Bk2 V0 (w.heap.size + 3) (.int .i64 0) (.int .i64 0) := by rw [hV0]; exact (Bk2.newAt _ _ (by simp) _ _ _)
  rw [← hV0]
  clear hV0
  replace E : Below w.heap.size w V0 := E.trans (bV0.mono E.size)
  replace HA : LRd V0 (B) a.A a.n a.c a.xs := HA.below bV0 (by omega)
  replace HB : LRd V0 (B) b.A b.n b.c b.xs := HB.below bV0 (by omega)
  clear bV0
  refine (comb_or _ a b (LRd.more HA (by omega)) (LRd.more HB (by omega)) oa ob).mono ?_
  rintro e w9 ⟨z, hz, hv⟩
  have HZ := Lib.hid hz
  clear hz
  obtain ⟨z4, f4, g4, hy4, m4, A4, k4, c4, x4, rfl, hl4, hr4, hb4⟩ := vl_yr hv
  clear hv
  have R4 := Lib.hid hr4
  have Y4 := Lib.hid hy4
  have sw9 := hb4.size
  clear hr4 hy4
  replace E : Below w.heap.size w w9 := E.trans (hb4.mono E.size)
  replace HA : LRd w9 (B) a.A a.n a.c a.xs := HA.below hb4 (by omega)
  replace HB : LRd w9 (B) b.A b.n b.c b.xs := HB.below hb4 (by omega)
  replace PA : Bk2 w9 (w.heap.size) (.bool a.neg) (.slice a.A a.n a.c) := PA.below hb4 PA.lt
  replace PB : Bk2 w9 (w.heap.size + 1) (.bool b.neg) (.slice b.A b.n b.c) := PB.below hb4 PB.lt
  replace PR : Bk2 w9 (w.heap.size + 2) (.bool false) (.slice none 0 0) := PR.below hb4 PR.lt
  replace PF : Bk2 w9 (w.heap.size + 3) (.int .i64 0) (.int .i64 0) := PF.below hb4 PF.lt
  clear hb4
  have y_PR0 : w9.cell? ⟨w.heap.size + 2, 0, none⟩ = some ((.bool false)) := PR.c0
  have z_PR0 : w9.frozen? ⟨w.heap.size + 2, 0, none⟩ = false := PR.z0
  have y_PR1 : w9.cell? ⟨w.heap.size + 2, 1, none⟩ = some ((.slice none 0 0)) := PR.c1
  have z_PR1 : w9.frozen? ⟨w.heap.size + 2, 1, none⟩ = false := PR.z1
  have lt_PR := PR.lt
  have y_PF0 : w9.cell? ⟨w.heap.size + 3, 0, none⟩ = some ((.int .i64 0)) := PF.c0
  have z_PF0 : w9.frozen? ⟨w.heap.size + 3, 0, none⟩ = false := PF.z0
  have y_PF1 : w9.cell? ⟨w.heap.size + 3, 1, none⟩ = some ((.int .i64 0)) := PF.c1
  have z_PF1 : w9.frozen? ⟨w.heap.size + 3, 1, none⟩ = false := PF.z1
  have lt_PF := PF.lt
  go_wp2_with fail
  clear y_PR0 z_PR0 y_PR1 z_PR1 lt_PR y_PF0 z_PF0 y_PF1 z_PF1 lt_PF
  obtain ⟨U1PR, hU1PR⟩ : ∃ U1PR : World, U1PR = ((w9.setCell ⟨w.heap.size + 2, 0, none⟩ (.bool m4)).setCell ⟨w.heap.size + 2, 1, none⟩ (.slice A4 k4 c4)) := ⟨_, rfl⟩
  have zU1PR : U1PR.heap.size = w9.heap.size := by rw [hU1PR]; simp [World.setCell]
  replace E : Below w.heap.size w U1PR := by rw [hU1PR]; exact (E.setCell (by first | (simp; done) | (simp; omega)) _).setCell (by first | (simp; done) | (simp; omega)) _
  replace HA : LRd U1PR (B) a.A a.n a.c a.xs := by rw [hU1PR]; first | exact HA.setB PR (by simp) (by simp) _ _ | exact HA.setFar2 (by omega) _ _
  replace HB : LRd U1PR (B) b.A b.n b.c b.xs := by rw [hU1PR]; first | exact HB.setB PR (by simp) (by simp) _ _ | exact HB.setFar2 (by omega) _ _
  replace PA : Bk2 U1PR (w.heap.size) (.bool a.neg) (.slice a.A a.n a.c) := by rw [hU1PR]; exact PA.far2 (by omega) _ _
  replace PB : Bk2 U1PR (w.heap.size + 1) (.bool b.neg) (.slice b.A b.n b.c) := by rw [hU1PR]; exact PB.far2 (by omega) _ _
  replace PF : Bk2 U1PR (w.heap.size + 3) (.int .i64 0) (.int .i64 0) := by rw [hU1PR]; exact PF.far2 (by omega) _ _
  replace hl4 : LRd U1PR (w9.heap.size) A4 k4 c4 x4 := by rw [hU1PR]; first | exact hl4.setB PR (by simp) (by simp) _ _ | exact hl4.setFar2 (by omega) _ _
  replace PR : Bk2 U1PR (w.heap.size + 2) (.bool m4) (.slice A4 k4 c4) := by rw [hU1PR]; exact PR.set _ _
  rw [← hU1PR]
  clear hU1PR
  have zU1PR' := Nat.le_of_eq zU1PR
  replace zU1PR := Nat.le_of_eq zU1PR.symm
  obtain ⟨U1PF, hU1PF⟩ : ∃ U1PF : World, U1PF = ((U1PR.setCell ⟨w.heap.size + 3, 0, none⟩ (.int .i64 f4)).setCell ⟨w.heap.size + 3, 1, none⟩ (.int .i64 g4)) := ⟨_, rfl⟩
  have zU1PF : U1PF.heap.size = U1PR.heap.size := by rw [hU1PF]; simp [World.setCell]
  replace E : Below w.heap.size w U1PF := by rw [hU1PF]; exact (E.setCell (by first | (simp; done) | (simp; omega)) _).setCell (by first | (simp; done) | (simp; omega)) _
  replace HA : LRd U1PF (B) a.A a.n a.c a.xs := by rw [hU1PF]; first | exact HA.setB PF (by simp) (by simp) _ _ | exact HA.setFar2 (by omega) _ _
  replace HB : LRd U1PF (B) b.A b.n b.c b.xs := by rw [hU1PF]; first | exact HB.setB PF (by simp) (by simp) _ _ | exact HB.setFar2 (by omega) _ _
  replace PA : Bk2 U1PF (w.heap.size) (.bool a.neg) (.slice a.A a.n a.c) := by rw [hU1PF]; exact PA.far2 (by omega) _ _
  replace PB : Bk2 U1PF (w.heap.size + 1) (.bool b.neg) (.slice b.A b.n b.c) := by rw [hU1PF]; exact PB.far2 (by omega) _ _
  replace PR : Bk2 U1PF (w.heap.size + 2) (.bool m4) (.slice A4 k4 c4) := by rw [hU1PF]; exact PR.far2 (by omega) _ _
  replace hl4 : LRd U1PF (w9.heap.size) A4 k4 c4 x4 := by rw [hU1PF]; first | exact hl4.setB PF (by simp) (by simp) _ _ | exact hl4.setFar2 (by omega) _ _
  replace PF : Bk2 U1PF (w.heap.size + 3) (.int .i64 f4) (.int .i64 g4) := by rw [hU1PF]; exact PF.set _ _
  rw [← hU1PF]
  clear hU1PF
  have zU1PF' := Nat.le_of_eq zU1PF
  replace zU1PF := Nat.le_of_eq zU1PF.symm
  obtain ⟨f0, f1, _, _, _⟩ := PF
  obtain ⟨r0, r1, _, _, _⟩ := PR
  refine bodyPost_ret (v := .tuple #[intv m4 A4 k4 c4, flt f4 g4]) (by simp [results, Try.results50, go_sem, f0, f1, r0, r1]) rfl (⟨z, HZ.out, yr_vl Y4.out ⟨m4, A4, k4, c4, x4, rfl, hl4.more (by omega), R4.out, E⟩⟩)
theorem comb_xor (w : World) (a b : IV) (HA : a.at w w.heap.size) (HB : b.at w w.heap.size) (oa : a.ok = true) (ob : b.ok = true) :
    Calls Try.prog 93 #[a.v, b.v, (.func (Fn.func 96) #[] #[])] w (CombPost (fun p q => p != q) a.val b.val w) := by
  cases h : (fun p q => p != q) a.neg b.neg
  · exact comb_xor_false w a b HA HB oa ob h
  · exact comb_xor_true w a b HA HB oa ob h
set_option maxHeartbeats 2000000 in
theorem ixor_ok (w : World) (B : Nat) (a b : IV) (HA : a.at w B) (HB : b.at w B) (hB : B ≤ w.heap.size) (oa : a.ok = true) (ob : b.ok = true) :
    Calls Try.prog 51 #[a.v, b.v] w (CombPost (fun p q => p != q) a.val b.val w) := by
  replace HA : LRd w B a.A a.n a.c a.xs := HA
  replace HB : LRd w B b.A b.n b.c b.xs := HB
  have E : Below w.heap.size w w := Below.refl _ _
  go_enter Try.func51, Try.ntmps51
  go_wp2_with fail
  obtain ⟨V0, hV0⟩ : ∃ V0 : World, V0 = ((((w.alloc (.cells #[.bool a.neg, .slice a.A a.n a.c] 24)).alloc (.cells #[.bool b.neg, .slice b.A b.n b.c] 24)).alloc (.cells #[.bool false, .slice none 0 0] 24)).alloc (.cells #[.int .i64 0, .int .i64 0] 26)) := ⟨_, rfl⟩
  have bV0 : Below w.heap.size w V0 := by rw [hV0]; (repeat (first | with_reducible exact Below.refl _ _ | with_reducible refine Below.drew ?_ | with_reducible refine below_drewN ?_ _ | with_reducible refine Below.setCell ?_ (by first | (simp; done) | (simp; omega) | omega) _ | with_reducible refine Below.alloc ?_ (by first | (simp; done) | (simp; omega) | omega) _))
  have zV0 : w.heap.size + 4 ≤ V0.heap.size := by rw [hV0]; simp
  have PA : Bk2 V0 (w.heap.size) (.bool a.neg) (.slice a.A a.n a.c) := by rw [hV0]; exact ((((Bk2.newAt _ _ (by simp) _ _ _).alloc _).alloc _).alloc _)
  have PB : Bk2 V0 (w.heap.size + 1) (.bool b.neg) (.slice b.A b.n b.c) := by rw [hV0]; exact (((Bk2.newAt _ _ (by simp) _ _ _).alloc _).alloc _)
  have PR : Bk2 V0 (w.heap.size + 2) (.bool false) (.slice none 0 0) := by rw [hV0]; exact ((Bk2.newAt _ _ (by simp) _ _ _).alloc _)
  have PF : Bk2 V0 (w.heap.size + 3) (.int .i64 0) (.int .i64 0) := by rw [hV0]; exact (Bk2.newAt _ _ (by simp) _ _ _)
  rw [← hV0]
  clear hV0
  replace E : Below w.heap.size w V0 := E.trans (bV0.mono E.size)
  replace HA : LRd V0 (B) a.A a.n a.c a.xs := HA.below bV0 (by omega)
  replace HB : LRd V0 (B) b.A b.n b.c b.xs := HB.below bV0 (by omega)
  clear bV0
  refine (comb_xor _ a b (LRd.more HA (by omega)) (LRd.more HB (by omega)) oa ob).mono ?_
  rintro e w9 ⟨z, hz, hv⟩
  have HZ := Lib.hid hz
  clear hz
  obtain ⟨z4, f4, g4, hy4, m4, A4, k4, c4, x4, rfl, hl4, hr4, hb4⟩ := vl_yr hv
  clear hv
  have R4 := Lib.hid hr4
  have Y4 := Lib.hid hy4
  have sw9 := hb4.size
  clear hr4 hy4
  replace E : Below w.heap.size w w9 := E.trans (hb4.mono E.size)
  replace HA : LRd w9 (B) a.A a.n a.c a.xs := HA.below hb4 (by omega)
  replace HB : LRd w9 (B) b.A b.n b.c b.xs := HB.below hb4 (by omega)
  replace PA : Bk2 w9 (w.heap.size) (.bool a.neg) (.slice a.A a.n a.c) := PA.below hb4 PA.lt
  replace PB : Bk2 w9 (w.heap.size + 1) (.bool b.neg) (.slice b.A b.n b.c) := PB.below hb4 PB.lt
  replace PR : Bk2 w9 (w.heap.size + 2) (.bool false) (.slice none 0 0) := PR.below hb4 PR.lt
  replace PF : Bk2 w9 (w.heap.size + 3) (.int .i64 0) (.int .i64 0) := PF.below hb4 PF.lt
  clear hb4
  have y_PR0 : w9.cell? ⟨w.heap.size + 2, 0, none⟩ = some ((.bool false)) := PR.c0
  have z_PR0 : w9.frozen? ⟨w.heap.size + 2, 0, none⟩ = false := PR.z0
  have y_PR1 : w9.cell? ⟨w.heap.size + 2, 1, none⟩ = some ((.slice none 0 0)) := PR.c1
  have z_PR1 : w9.frozen? ⟨w.heap.size + 2, 1, none⟩ = false := PR.z1
  have lt_PR := PR.lt
  have y_PF0 : w9.cell? ⟨w.heap.size + 3, 0, none⟩ = some ((.int .i64 0)) := PF.c0
  have z_PF0 : w9.frozen? ⟨w.heap.size + 3, 0, none⟩ = false := PF.z0
  have y_PF1 : w9.cell? ⟨w.heap.size + 3, 1, none⟩ = some ((.int .i64 0)) := PF.c1
  have z_PF1 : w9.frozen? ⟨w.heap.size + 3, 1, none⟩ = false := PF.z1
  have lt_PF := PF.lt
  go_wp2_with fail
  clear y_PR0 z_PR0 y_PR1 z_PR1 lt_PR y_PF0 z_PF0 y_PF1 z_PF1 lt_PF
  obtain ⟨U1PR, hU1PR⟩ : ∃ U1PR : World, U1PR = ((w9.setCell ⟨w.heap.size + 2, 0, none⟩ (.bool m4)).setCell ⟨w.heap.size + 2, 1, none⟩ (.slice A4 k4 c4)) := ⟨_, rfl⟩
  have zU1PR : U1PR.heap.size = w9.heap.size := by rw [hU1PR]; simp [World.setCell]
  replace E : Below w.heap.size w U1PR := by rw [hU1PR]; exact (E.setCell (by first | (simp; done) | (simp; omega)) _).setCell (by first | (simp; done) | (simp; omega)) _
  replace HA : LRd U1PR (B) a.A a.n a.c a.xs := by rw [hU1PR]; first | exact HA.setB PR (by simp) (by simp) _ _ | exact HA.setFar2 (by omega) _ _
  replace HB : LRd U1PR (B) b.A b.n b.c b.xs := by rw [hU1PR]; first | exact HB.setB PR (by simp) (by simp) _ _ | exact HB.setFar2 (by omega) _ _
  replace PA : Bk2 U1PR (w.heap.size) (.bool a.neg) (.slice a.A a.n a.c) := by rw [hU1PR]; exact PA.far2 (by omega) _ _
  replace PB : Bk2 U1PR (w.heap.size + 1) (.bool b.neg) (.slice b.A b.n b.c) := by rw [hU1PR]; exact PB.far2 (by omega) _ _
  replace PF : Bk2 U1PR (w.heap.size + 3) (.int .i64 0) (.int .i64 0) := by rw [hU1PR]; exact PF.far2 (by omega) _ _
  replace hl4 : LRd U1PR (w9.heap.size) A4 k4 c4 x4 := by rw [hU1PR]; first | exact hl4.setB PR (by simp) (by simp) _ _ | exact hl4.setFar2 (by omega) _ _
  replace PR : Bk2 U1PR (w.heap.size + 2) (.bool m4) (.slice A4 k4 c4) := by rw [hU1PR]; exact PR.set _ _
  rw [← hU1PR]
  clear hU1PR
  have zU1PR' := Nat.le_of_eq zU1PR
  replace zU1PR := Nat.le_of_eq zU1PR.symm
  obtain ⟨U1PF, hU1PF⟩ : ∃ U1PF : World, U1PF = ((U1PR.setCell ⟨w.heap.size + 3, 0, none⟩ (.int .i64 f4)).setCell ⟨w.heap.size + 3, 1, none⟩ (.int .i64 g4)) := ⟨_, rfl⟩
  have zU1PF : U1PF.heap.size = U1PR.heap.size := by rw [hU1PF]; simp [World.setCell]
  replace E : Below w.heap.size w U1PF := by rw [hU1PF]; exact (E.setCell (by first | (simp; done) | (simp; omega)) _).setCell (by first | (simp; done) | (simp; omega)) _
  replace HA : LRd U1PF (B) a.A a.n a.c a.xs := by rw [hU1PF]; first | exact HA.setB PF (by simp) (by simp) _ _ | exact HA.setFar2 (by omega) _ _
  replace HB : LRd U1PF (B) b.A b.n b.c b.xs := by rw [hU1PF]; first | exact HB.setB PF (by simp) (by simp) _ _ | exact HB.setFar2 (by omega) _ _
  replace PA : Bk2 U1PF (w.heap.size) (.bool a.neg) (.slice a.A a.n a.c) := by rw [hU1PF]; exact PA.far2 (by omega) _ _
  replace PB : Bk2 U1PF (w.heap.size + 1) (.bool b.neg) (.slice b.A b.n b.c) := by rw [hU1PF]; exact PB.far2 (by omega) _ _
  replace PR : Bk2 U1PF (w.heap.size + 2) (.bool m4) (.slice A4 k4 c4) := by rw [hU1PF]; exact PR.far2 (by omega) _ _
  replace hl4 : LRd U1PF (w9.heap.size) A4 k4 c4 x4 := by rw [hU1PF]; first | exact hl4.setB PF (by simp) (by simp) _ _ | exact hl4.setFar2 (by omega) _ _
  replace PF : Bk2 U1PF (w.heap.size + 3) (.int .i64 f4) (.int .i64 g4) := by rw [hU1PF]; exact PF.set _ _
  rw [← hU1PF]
  clear hU1PF
  have zU1PF' := Nat.le_of_eq zU1PF
  replace zU1PF := Nat.le_of_eq zU1PF.symm
  obtain ⟨f0, f1, _, _, _⟩ := PF
  obtain ⟨r0, r1, _, _, _⟩ := PR
  refine bodyPost_ret (v := .tuple #[intv m4 A4 k4 c4, flt f4 g4]) (by simp [results, Try.results51, go_sem, f0, f1, r0, r1]) rfl (⟨z, HZ.out, yr_vl Y4.out ⟨m4, A4, k4, c4, x4, rfl, hl4.more (by omega), R4.out, E⟩⟩)
end Go.Proofs.Ytpjfoggohhlbdaa
