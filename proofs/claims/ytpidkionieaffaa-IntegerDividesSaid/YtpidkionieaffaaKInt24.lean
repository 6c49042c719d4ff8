/- Package integer: Sqrt. -/
import Derived.Test.YtpidkionieaffaaKl
import Derived.Test.YtpidkionieaffaaKc
import Derived.Deep.QuietTactic
namespace Go.Proofs.Ytpidkionieaffaa
open Go.RowKit
set_option maxHeartbeats 400000
set_option maxRecDepth 100000
set_option linter.unusedSimpArgs false
set_option linter.unusedVariables false

theorem irep0 : IRep false [] 0 := ⟨⟨(by intro x hx; cases hx), rfl, (by intro m hm; cases hm)⟩, rfl⟩
set_option maxHeartbeats 2000000 in
theorem isqrt_bad (w : World) (B : Nat) (a : IV) (HA : a.at w B) (hB : B ≤ w.heap.size) (f2 : Int) (hf : ffault [a] 0 = (6, f2)) :
    Calls Try.prog 39 #[a.v] w (GivesVF w 0 6 f2) := by
  replace HA : LRd w B a.A a.n a.c a.xs := HA
  have E : Below w.heap.size w w := Below.refl _ _
  have IR := Lib.hid (irow1 (((w.alloc a.cells).alloc (.cells #[.bool false, .slice none 0 0] 24)).alloc (.cells #[.int .i64 0, .int .i64 0] 26)) B a (((HA.alloc (by omega) _).alloc (by simp; omega) _).alloc (by simp; omega) _) (by simp; omega))
  go_enter Try.func39, Try.ntmps39
  go_wp2_with fail
  obtain ⟨V0, hV0⟩ : ∃ V0 : World, V0 = ((((w.alloc (.cells #[.bool a.neg, .slice a.A a.n a.c] 24)).alloc (.cells #[.bool false, .slice none 0 0] 24)).alloc (.cells #[.int .i64 0, .int .i64 0] 26)).alloc (.cells #[.bool a.neg, .slice a.A a.n a.c] 24)) := ⟨_, rfl⟩
  have bV0 : Below w.heap.size w V0 := by rw [hV0]; (repeat (first | with_reducible exact Below.refl _ _ | with_reducible refine Below.drew ?_ | with_reducible refine below_drewN ?_ _ | with_reducible refine Below.setCell ?_ (by first | (simp; done) | (simp; omega) | omega) _ | with_reducible refine Below.alloc ?_ (by first | (simp; done) | (simp; omega) | omega) _))
  have zV0 : w.heap.size + 4 ≤ V0.heap.size := by rw [hV0]; simp
  have PA : Bk2 V0 (w.heap.size) (.bool a.neg) (.slice a.A a.n a.c) := by rw [hV0]; exact ((((Bk2.newAt _ _ (by simp) _ _ _).alloc _).alloc _).alloc _)
  have PR : Bk2 V0 (w.heap.size + 1) (.bool false) (.slice none 0 0) := by rw [hV0]; exact (((Bk2.newAt _ _ (by simp) _ _ _).alloc _).alloc _)
  have PF : Bk2 V0 (w.heap.size + 2) (.int .i64 0) (.int .i64 0) := by rw [hV0]; exact ((Bk2.newAt _ _ (by simp) _ _ _).alloc _)
  replace IR : Hid (IRow V0 B (w.heap.size + 3) [a]) := by have h9 := IR.out; rw [hV0]; rw [show (((w.alloc a.cells).alloc (.cells #[.bool false, .slice none 0 0] 24)).alloc (.cells #[.int .i64 0, .int .i64 0] 26)).heap.size = w.heap.size + 3 by simp] at h9; exact h9
  rw [← hV0]
  clear hV0
  replace E : Below w.heap.size w V0 := E.trans (bV0.mono E.size)
  replace HA : LRd V0 (B) a.A a.n a.c a.xs := HA.below bV0 (by omega)
  clear bV0
  (with_reducible refine (check_any _ B (w.heap.size + 3) 1 [a] IR.out rfl (by omega) (by omega)).mono ?_)
  rintro e w1 ⟨rfl, hb1⟩
  have sw1 := hb1.size
  replace E : Below w.heap.size w w1 := E.trans (hb1.mono E.size)
  replace HA : LRd w1 (B) a.A a.n a.c a.xs := HA.below hb1 (by omega)
  replace PA : Bk2 w1 (w.heap.size) (.bool a.neg) (.slice a.A a.n a.c) := PA.below hb1 PA.lt
  replace PR : Bk2 w1 (w.heap.size + 1) (.bool false) (.slice none 0 0) := PR.below hb1 PR.lt
  replace PF : Bk2 w1 (w.heap.size + 2) (.int .i64 0) (.int .i64 0) := PF.below hb1 PF.lt
  clear hb1
  rw [hf]
  clear IR
  go_wp2_with fail
  obtain ⟨V1, hV1⟩ : ∃ V1 : World, V1 = (w1.alloc (.cells #[.int .i64 6, .int .i64 f2] 26)) := ⟨_, rfl⟩
  have bV1 : Below w1.heap.size w1 V1 := by rw [hV1]; (repeat (first | with_reducible exact Below.refl _ _ | with_reducible refine Below.drew ?_ | with_reducible refine below_drewN ?_ _ | with_reducible refine Below.setCell ?_ (by first | (simp; done) | (simp; omega) | omega) _ | with_reducible refine Below.alloc ?_ (by first | (simp; done) | (simp; omega) | omega) _))
  have zV1 : w1.heap.size + 1 ≤ V1.heap.size := by rw [hV1]; simp
  have PQ : Bk2 V1 (w1.heap.size) (.int .i64 6) (.int .i64 f2) := by rw [hV1]; exact (Bk2.newAt _ _ (by simp) _ _ _)
  rw [← hV1]
  clear hV1
  replace E : Below w.heap.size w V1 := E.trans (bV1.mono E.size)
  replace HA : LRd V1 (B) a.A a.n a.c a.xs := HA.below bV1 (by omega)
  replace PA : Bk2 V1 (w.heap.size) (.bool a.neg) (.slice a.A a.n a.c) := PA.below bV1 PA.lt
  replace PR : Bk2 V1 (w.heap.size + 1) (.bool false) (.slice none 0 0) := PR.below bV1 PR.lt
  replace PF : Bk2 V1 (w.heap.size + 2) (.int .i64 0) (.int .i64 0) := PF.below bV1 PF.lt
  clear bV1
  obtain ⟨f0, f1, z0, z1, _⟩ := PF
  obtain ⟨r0, r1, y0, y1, _⟩ := PR
  obtain ⟨x0, x1, _, _, _⟩ := PQ
  clear PA HA hf
  go_region
  all_goals (go_wp2_with fail)
  all_goals
    refine bodyPost_ret (v := .tuple #[intv false none 0 0, flt 6 f2]) (by simp [results, Try.results39, go_sem, f0, f1, r0, r1]) rfl ⟨false, none, 0, 0, [], rfl, nil_lrd _, irep0, ?_⟩
    (repeat (first | with_reducible exact Below.refl _ _ | with_reducible exact E | with_reducible refine Below.drew ?_ | with_reducible refine below_drewN ?_ _ | with_reducible refine Below.setCell ?_ (by first | (simp; done) | (simp; omega) | omega) _ | with_reducible refine Below.alloc ?_ (by first | (simp; done) | (simp; omega) | omega) _))
set_option maxHeartbeats 2000000 in
theorem isqrt_neg (w : World) (B : Nat) (a : IV) (HA : a.at w B) (hB : B ≤ w.heap.size) (oa : a.ok = true) (hs : Hid (a.neg = true)) :
    Calls Try.prog 39 #[a.v] w (GivesVF w 0 4 (-1)) := by
  replace HA : LRd w B a.A a.n a.c a.xs := HA
  have E : Below w.heap.size w w := Below.refl _ _
  have IR := Lib.hid (irow1 (((w.alloc a.cells).alloc (.cells #[.bool false, .slice none 0 0] 24)).alloc (.cells #[.int .i64 0, .int .i64 0] 26)) B a (((HA.alloc (by omega) _).alloc (by simp; omega) _).alloc (by simp; omega) _) (by simp; omega))
  go_enter Try.func39, Try.ntmps39
  go_wp2_with fail
  obtain ⟨V0, hV0⟩ : ∃ V0 : World, V0 = ((((w.alloc (.cells #[.bool a.neg, .slice a.A a.n a.c] 24)).alloc (.cells #[.bool false, .slice none 0 0] 24)).alloc (.cells #[.int .i64 0, .int .i64 0] 26)).alloc (.cells #[.bool a.neg, .slice a.A a.n a.c] 24)) := ⟨_, rfl⟩
  have bV0 : Below w.heap.size w V0 := by rw [hV0]; (repeat (first | with_reducible exact Below.refl _ _ | with_reducible refine Below.drew ?_ | with_reducible refine below_drewN ?_ _ | with_reducible refine Below.setCell ?_ (by first | (simp; done) | (simp; omega) | omega) _ | with_reducible refine Below.alloc ?_ (by first | (simp; done) | (simp; omega) | omega) _))
  have zV0 : w.heap.size + 4 ≤ V0.heap.size := by rw [hV0]; simp
  have PA : Bk2 V0 (w.heap.size) (.bool a.neg) (.slice a.A a.n a.c) := by rw [hV0]; exact ((((Bk2.newAt _ _ (by simp) _ _ _).alloc _).alloc _).alloc _)
  have PR : Bk2 V0 (w.heap.size + 1) (.bool false) (.slice none 0 0) := by rw [hV0]; exact (((Bk2.newAt _ _ (by simp) _ _ _).alloc _).alloc _)
  have PF : Bk2 V0 (w.heap.size + 2) (.int .i64 0) (.int .i64 0) := by rw [hV0]; exact ((Bk2.newAt _ _ (by simp) _ _ _).alloc _)
  replace IR : Hid (IRow V0 B (w.heap.size + 3) [a]) := by have h9 := IR.out; rw [hV0]; rw [show (((w.alloc a.cells).alloc (.cells #[.bool false, .slice none 0 0] 24)).alloc (.cells #[.int .i64 0, .int .i64 0] 26)).heap.size = w.heap.size + 3 by simp] at h9; exact h9
  rw [← hV0]
  clear hV0
  replace E : Below w.heap.size w V0 := E.trans (bV0.mono E.size)
  replace HA : LRd V0 (B) a.A a.n a.c a.xs := HA.below bV0 (by omega)
  clear bV0
  (with_reducible refine (check_any _ B (w.heap.size + 3) 1 [a] IR.out rfl (by omega) (by omega)).mono ?_)
  rintro e w1 ⟨rfl, hb1⟩
  have sw1 := hb1.size
  replace E : Below w.heap.size w w1 := E.trans (hb1.mono E.size)
  replace HA : LRd w1 (B) a.A a.n a.c a.xs := HA.below hb1 (by omega)
  replace PA : Bk2 w1 (w.heap.size) (.bool a.neg) (.slice a.A a.n a.c) := PA.below hb1 PA.lt
  replace PR : Bk2 w1 (w.heap.size + 1) (.bool false) (.slice none 0 0) := PR.below hb1 PR.lt
  replace PF : Bk2 w1 (w.heap.size + 2) (.int .i64 0) (.int .i64 0) := PF.below hb1 PF.lt
  clear hb1
  rw [one_ok oa]
  clear IR
  have a0 : (w1.alloc (.cells #[.int .i64 0, .int .i64 0] 26)).cell? ⟨w.heap.size, 0, none⟩ = some (.bool true) := by rw [← hs.out]; exact (PA.alloc _).c0
  have a1 : (w1.alloc (.cells #[.int .i64 0, .int .i64 0] 26)).cell? ⟨w.heap.size, 1, none⟩ = some (.slice a.A a.n a.c) := (PA.alloc _).c1
  have y_PR0 : (w1.alloc (.cells #[.int .i64 0, .int .i64 0] 26)).cell? ⟨w.heap.size + 1, 0, none⟩ = some ((.bool false)) := (PR.alloc _).c0
  have z_PR0 : (w1.alloc (.cells #[.int .i64 0, .int .i64 0] 26)).frozen? ⟨w.heap.size + 1, 0, none⟩ = false := (PR.alloc _).z0
  have y_PR1 : (w1.alloc (.cells #[.int .i64 0, .int .i64 0] 26)).cell? ⟨w.heap.size + 1, 1, none⟩ = some ((.slice none 0 0)) := (PR.alloc _).c1
  have z_PR1 : (w1.alloc (.cells #[.int .i64 0, .int .i64 0] 26)).frozen? ⟨w.heap.size + 1, 1, none⟩ = false := (PR.alloc _).z1
  have y_PF0 : (w1.alloc (.cells #[.int .i64 0, .int .i64 0] 26)).cell? ⟨w.heap.size + 2, 0, none⟩ = some ((.int .i64 0)) := (PF.alloc _).c0
  have z_PF0 : (w1.alloc (.cells #[.int .i64 0, .int .i64 0] 26)).frozen? ⟨w.heap.size + 2, 0, none⟩ = false := (PF.alloc _).z0
  have y_PF1 : (w1.alloc (.cells #[.int .i64 0, .int .i64 0] 26)).cell? ⟨w.heap.size + 2, 1, none⟩ = some ((.int .i64 0)) := (PF.alloc _).c1
  have z_PF1 : (w1.alloc (.cells #[.int .i64 0, .int .i64 0] 26)).frozen? ⟨w.heap.size + 2, 1, none⟩ = false := (PF.alloc _).z1
  go_wp2_with fail
  clear y_PR0 z_PR0 y_PR1 z_PR1 y_PF0 z_PF0 y_PF1 z_PF1
  obtain ⟨V1, hV1⟩ : ∃ V1 : World, V1 = (w1.alloc (.cells #[.int .i64 0, .int .i64 0] 26)) := ⟨_, rfl⟩
  have bV1 : Below w1.heap.size w1 V1 := by rw [hV1]; (repeat (first | with_reducible exact Below.refl _ _ | with_reducible refine Below.drew ?_ | with_reducible refine below_drewN ?_ _ | with_reducible refine Below.setCell ?_ (by first | (simp; done) | (simp; omega) | omega) _ | with_reducible refine Below.alloc ?_ (by first | (simp; done) | (simp; omega) | omega) _))
  have zV1 : w1.heap.size + 1 ≤ V1.heap.size := by rw [hV1]; simp
  have PQ : Bk2 V1 (w1.heap.size) (.int .i64 0) (.int .i64 0) := by rw [hV1]; exact (Bk2.newAt _ _ (by simp) _ _ _)
  clear a0 a1
  rw [← hV1]
  clear hV1
  replace E : Below w.heap.size w V1 := E.trans (bV1.mono E.size)
  replace HA : LRd V1 (B) a.A a.n a.c a.xs := HA.below bV1 (by omega)
  replace PA : Bk2 V1 (w.heap.size) (.bool a.neg) (.slice a.A a.n a.c) := PA.below bV1 PA.lt
  replace PR : Bk2 V1 (w.heap.size + 1) (.bool false) (.slice none 0 0) := PR.below bV1 PR.lt
  replace PF : Bk2 V1 (w.heap.size + 2) (.int .i64 0) (.int .i64 0) := PF.below bV1 PF.lt
  clear bV1
  obtain ⟨U1PR, hU1PR⟩ : ∃ U1PR : World, U1PR = ((V1.setCell ⟨w.heap.size + 1, 0, none⟩ (.bool false)).setCell ⟨w.heap.size + 1, 1, none⟩ (.slice none 0 0)) := ⟨_, rfl⟩
  have zU1PR : U1PR.heap.size = V1.heap.size := by rw [hU1PR]; simp [World.setCell]
  replace E : Below w.heap.size w U1PR := by rw [hU1PR]; exact (E.setCell (by first | (simp; done) | (simp; omega)) _).setCell (by first | (simp; done) | (simp; omega)) _
  replace HA : LRd U1PR (B) a.A a.n a.c a.xs := by rw [hU1PR]; first | exact HA.setB PR (by simp) (by simp) _ _ | exact HA.setFar2 (by omega) _ _
  replace PA : Bk2 U1PR (w.heap.size) (.bool a.neg) (.slice a.A a.n a.c) := by rw [hU1PR]; exact PA.far2 (by omega) _ _
  replace PF : Bk2 U1PR (w.heap.size + 2) (.int .i64 0) (.int .i64 0) := by rw [hU1PR]; exact PF.far2 (by omega) _ _
  replace PQ : Bk2 U1PR (w1.heap.size) (.int .i64 0) (.int .i64 0) := by rw [hU1PR]; exact PQ.far2 (by omega) _ _
  replace PR : Bk2 U1PR (w.heap.size + 1) (.bool false) (.slice none 0 0) := by rw [hU1PR]; exact PR.set _ _
  rw [← hU1PR]
  clear hU1PR
  have zU1PR := Nat.le_of_eq zU1PR.symm
  obtain ⟨U1PF, hU1PF⟩ : ∃ U1PF : World, U1PF = ((U1PR.setCell ⟨w.heap.size + 2, 0, none⟩ (.int .i64 4)).setCell ⟨w.heap.size + 2, 1, none⟩ (.int .i64 (-1))) := ⟨_, rfl⟩
  have zU1PF : U1PF.heap.size = U1PR.heap.size := by rw [hU1PF]; simp [World.setCell]
  replace E : Below w.heap.size w U1PF := by rw [hU1PF]; exact (E.setCell (by first | (simp; done) | (simp; omega)) _).setCell (by first | (simp; done) | (simp; omega)) _
  replace HA : LRd U1PF (B) a.A a.n a.c a.xs := by rw [hU1PF]; first | exact HA.setB PF (by simp) (by simp) _ _ | exact HA.setFar2 (by omega) _ _
  replace PA : Bk2 U1PF (w.heap.size) (.bool a.neg) (.slice a.A a.n a.c) := by rw [hU1PF]; exact PA.far2 (by omega) _ _
  replace PR : Bk2 U1PF (w.heap.size + 1) (.bool false) (.slice none 0 0) := by rw [hU1PF]; exact PR.far2 (by omega) _ _
  replace PQ : Bk2 U1PF (w1.heap.size) (.int .i64 0) (.int .i64 0) := by rw [hU1PF]; exact PQ.far2 (by omega) _ _
  replace PF : Bk2 U1PF (w.heap.size + 2) (.int .i64 4) (.int .i64 (-1)) := by rw [hU1PF]; exact PF.set _ _
  rw [← hU1PF]
  clear hU1PF
  have zU1PF := Nat.le_of_eq zU1PF.symm
  obtain ⟨f0, f1, _, _, _⟩ := PF
  obtain ⟨r0, r1, _, _, _⟩ := PR
  refine bodyPost_ret (v := .tuple #[intv false none 0 0, flt 4 (-1)]) (by simp [results, Try.results39, go_sem, f0, f1, r0, r1]) rfl ⟨false, none, 0, 0, [], rfl, nil_lrd _, irep0, E⟩
def SqPostV (a : Nat) (w : World) (e : Ending) (w' : World) : Prop := ∃ s : Nat, s * s ≤ a ∧ a < (s + 1) * (s + 1) ∧ GivesVF w (sval false s) 0 0 e w'
set_option maxHeartbeats 2000000 in
theorem isqrt_ok (w : World) (B : Nat) (a : IV) (HA : a.at w B) (hB : B ≤ w.heap.size) (oa : a.ok = true) (hs : Hid (a.neg = false)) :
    Calls Try.prog 39 #[a.v] w (SqPostV (vb 4294967296 a.xs) w) := by
  replace HA : LRd w B a.A a.n a.c a.xs := HA
  have E : Below w.heap.size w w := Below.refl _ _
  have IR := Lib.hid (irow1 (((w.alloc a.cells).alloc (.cells #[.bool false, .slice none 0 0] 24)).alloc (.cells #[.int .i64 0, .int .i64 0] 26)) B a (((HA.alloc (by omega) _).alloc (by simp; omega) _).alloc (by simp; omega) _) (by simp; omega))
  go_enter Try.func39, Try.ntmps39
  go_wp2_with fail
  obtain ⟨V0, hV0⟩ : ∃ V0 : World, V0 = ((((w.alloc (.cells #[.bool a.neg, .slice a.A a.n a.c] 24)).alloc (.cells #[.bool false, .slice none 0 0] 24)).alloc (.cells #[.int .i64 0, .int .i64 0] 26)).alloc (.cells #[.bool a.neg, .slice a.A a.n a.c] 24)) := ⟨_, rfl⟩
  have bV0 : Below w.heap.size w V0 := by rw [hV0]; (repeat (first | with_reducible exact Below.refl _ _ | with_reducible refine Below.drew ?_ | with_reducible refine below_drewN ?_ _ | with_reducible refine Below.setCell ?_ (by first | (simp; done) | (simp; omega) | omega) _ | with_reducible refine Below.alloc ?_ (by first | (simp; done) | (simp; omega) | omega) _))
  have zV0 : w.heap.size + 4 ≤ V0.heap.size := by rw [hV0]; simp
  have PA : Bk2 V0 (w.heap.size) (.bool a.neg) (.slice a.A a.n a.c) := by rw [hV0]; exact ((((Bk2.newAt _ _ (by simp) _ _ _).alloc _).alloc _).alloc _)
  have PR : Bk2 V0 (w.heap.size + 1) (.bool false) (.slice none 0 0) := by rw [hV0]; exact (((Bk2.newAt _ _ (by simp) _ _ _).alloc _).alloc _)
  have PF : Bk2 V0 (w.heap.size + 2) (.int .i64 0) (.int .i64 0) := by rw [hV0]; exact ((Bk2.newAt _ _ (by simp) _ _ _).alloc _)
  replace IR : Hid (IRow V0 B (w.heap.size + 3) [a]) := by have h9 := IR.out; rw [hV0]; rw [show (((w.alloc a.cells).alloc (.cells #[.bool false, .slice none 0 0] 24)).alloc (.cells #[.int .i64 0, .int .i64 0] 26)).heap.size = w.heap.size + 3 by simp] at h9; exact h9
  rw [← hV0]
  clear hV0
  replace E : Below w.heap.size w V0 := E.trans (bV0.mono E.size)
  replace HA : LRd V0 (B) a.A a.n a.c a.xs := HA.below bV0 (by omega)
  clear bV0
  (with_reducible refine (check_any _ B (w.heap.size + 3) 1 [a] IR.out rfl (by omega) (by omega)).mono ?_)
  rintro e w1 ⟨rfl, hb1⟩
  have sw1 := hb1.size
  replace E : Below w.heap.size w w1 := E.trans (hb1.mono E.size)
  replace HA : LRd w1 (B) a.A a.n a.c a.xs := HA.below hb1 (by omega)
  replace PA : Bk2 w1 (w.heap.size) (.bool a.neg) (.slice a.A a.n a.c) := PA.below hb1 PA.lt
  replace PR : Bk2 w1 (w.heap.size + 1) (.bool false) (.slice none 0 0) := PR.below hb1 PR.lt
  replace PF : Bk2 w1 (w.heap.size + 2) (.int .i64 0) (.int .i64 0) := PF.below hb1 PF.lt
  clear hb1
  rw [one_ok oa]
  clear IR
  have a0 : (w1.alloc (.cells #[.int .i64 0, .int .i64 0] 26)).cell? ⟨w.heap.size, 0, none⟩ = some (.bool false) := by rw [← hs.out]; exact (PA.alloc _).c0
  have a1 : (w1.alloc (.cells #[.int .i64 0, .int .i64 0] 26)).cell? ⟨w.heap.size, 1, none⟩ = some (.slice a.A a.n a.c) := (PA.alloc _).c1
  go_wp2_with fail
  obtain ⟨V1, hV1⟩ : ∃ V1 : World, V1 = (w1.alloc (.cells #[.int .i64 0, .int .i64 0] 26)) := ⟨_, rfl⟩
  have bV1 : Below w1.heap.size w1 V1 := by rw [hV1]; (repeat (first | with_reducible exact Below.refl _ _ | with_reducible refine Below.drew ?_ | with_reducible refine below_drewN ?_ _ | with_reducible refine Below.setCell ?_ (by first | (simp; done) | (simp; omega) | omega) _ | with_reducible refine Below.alloc ?_ (by first | (simp; done) | (simp; omega) | omega) _))
  have zV1 : w1.heap.size + 1 ≤ V1.heap.size := by rw [hV1]; simp
  have PQ : Bk2 V1 (w1.heap.size) (.int .i64 0) (.int .i64 0) := by rw [hV1]; exact (Bk2.newAt _ _ (by simp) _ _ _)
  clear a0 a1
  rw [← hV1]
  clear hV1
  replace E : Below w.heap.size w V1 := E.trans (bV1.mono E.size)
  replace HA : LRd V1 (B) a.A a.n a.c a.xs := HA.below bV1 (by omega)
  replace PA : Bk2 V1 (w.heap.size) (.bool a.neg) (.slice a.A a.n a.c) := PA.below bV1 PA.lt
  replace PR : Bk2 V1 (w.heap.size + 1) (.bool false) (.slice none 0 0) := PR.below bV1 PR.lt
  replace PF : Bk2 V1 (w.heap.size + 2) (.int .i64 0) (.int .i64 0) := PF.below bV1 PF.lt
  clear bV1
  refine (sqrt_ok _ B a.A a.n a.c a.xs HA (by omega) (IV.vld oa).1).mono ?_
  rintro e w2 ⟨r, hr1, hr2, A2, k2, c2, x2, rfl, hl2, hp2, hb2⟩
  have R1 := Lib.hid (⟨hr1, hr2⟩ : r * r ≤ vb 4294967296 a.xs ∧ vb 4294967296 a.xs < (r + 1) * (r + 1))
  have RR := Lib.hid hp2
  have sw2 := hb2.size
  clear hr1 hr2 hp2
  clear PQ PA HA
  replace E : Below w.heap.size w w2 := E.trans (hb2.mono E.size)
  replace PR : Bk2 w2 (w.heap.size + 1) (.bool false) (.slice none 0 0) := PR.below hb2 PR.lt
  replace PF : Bk2 w2 (w.heap.size + 2) (.int .i64 0) (.int .i64 0) := PF.below hb2 PF.lt
  clear hb2
  go_wp2_with fail
  obtain ⟨V2, hV2⟩ : ∃ V2 : World, V2 = (w2.alloc (.cells #[.int .i64 0, .int .i64 0] 26)) := ⟨_, rfl⟩
  have bV2 : Below w2.heap.size w2 V2 := by rw [hV2]; (repeat (first | with_reducible exact Below.refl _ _ | with_reducible refine Below.drew ?_ | with_reducible refine below_drewN ?_ _ | with_reducible refine Below.setCell ?_ (by first | (simp; done) | (simp; omega) | omega) _ | with_reducible refine Below.alloc ?_ (by first | (simp; done) | (simp; omega) | omega) _))
  have zV2 : w2.heap.size + 1 ≤ V2.heap.size := by rw [hV2]; simp
  have PS : Bk2 V2 (w2.heap.size) (.int .i64 0) (.int .i64 0) := by rw [hV2]; exact (Bk2.newAt _ _ (by simp) _ _ _)
  rw [← hV2]
  clear hV2
  replace E : Below w.heap.size w V2 := E.trans (bV2.mono E.size)
  replace PR : Bk2 V2 (w.heap.size + 1) (.bool false) (.slice none 0 0) := PR.below bV2 PR.lt
  replace PF : Bk2 V2 (w.heap.size + 2) (.int .i64 0) (.int .i64 0) := PF.below bV2 PF.lt
  replace hl2 : LRd V2 (w2.heap.size) A2 k2 c2 x2 := hl2.below bV2 (by omega)
  clear bV2
  (with_reducible refine (signed_any _ false A2 k2 c2 r x2 (hl2.more (by omega)) RR.out).mono ?_)
  rintro e w3 ⟨m3, A3, k3, c3, x3, rfl, hl3, hr3, hb3⟩
  have sw3 := hb3.size
  replace E : Below w.heap.size w w3 := E.trans (hb3.mono E.size)
  replace PR : Bk2 w3 (w.heap.size + 1) (.bool false) (.slice none 0 0) := PR.below hb3 PR.lt
  replace PF : Bk2 w3 (w.heap.size + 2) (.int .i64 0) (.int .i64 0) := PF.below hb3 PF.lt
  replace hl2 : LRd w3 (w2.heap.size) A2 k2 c2 x2 := hl2.below hb3 (by omega)
  replace PS : Bk2 w3 (w2.heap.size) (.int .i64 0) (.int .i64 0) := PS.below hb3 PS.lt
  clear hb3
  have R3 := Lib.hid hr3
  clear hr3
  clear hl2 PS
  have y_PR0 : w3.cell? ⟨w.heap.size + 1, 0, none⟩ = some ((.bool false)) := PR.c0
  have z_PR0 : w3.frozen? ⟨w.heap.size + 1, 0, none⟩ = false := PR.z0
  have y_PR1 : w3.cell? ⟨w.heap.size + 1, 1, none⟩ = some ((.slice none 0 0)) := PR.c1
  have z_PR1 : w3.frozen? ⟨w.heap.size + 1, 1, none⟩ = false := PR.z1
  have lt_PR := PR.lt
  have y_PF0 : w3.cell? ⟨w.heap.size + 2, 0, none⟩ = some ((.int .i64 0)) := PF.c0
  have z_PF0 : w3.frozen? ⟨w.heap.size + 2, 0, none⟩ = false := PF.z0
  have y_PF1 : w3.cell? ⟨w.heap.size + 2, 1, none⟩ = some ((.int .i64 0)) := PF.c1
  have z_PF1 : w3.frozen? ⟨w.heap.size + 2, 1, none⟩ = false := PF.z1
  have lt_PF := PF.lt
  go_wp2_with fail
  clear y_PR0 z_PR0 y_PR1 z_PR1 lt_PR y_PF0 z_PF0 y_PF1 z_PF1 lt_PF
  obtain ⟨U3PR, hU3PR⟩ : ∃ U3PR : World, U3PR = ((w3.setCell ⟨w.heap.size + 1, 0, none⟩ (.bool m3)).setCell ⟨w.heap.size + 1, 1, none⟩ (.slice A3 k3 c3)) := ⟨_, rfl⟩
  have zU3PR : U3PR.heap.size = w3.heap.size := by rw [hU3PR]; simp [World.setCell]
  replace E : Below w.heap.size w U3PR := by rw [hU3PR]; exact (E.setCell (by first | (simp; done) | (simp; omega)) _).setCell (by first | (simp; done) | (simp; omega)) _
  replace PF : Bk2 U3PR (w.heap.size + 2) (.int .i64 0) (.int .i64 0) := by rw [hU3PR]; exact PF.far2 (by omega) _ _
  replace hl3 : LRd U3PR (w3.heap.size) A3 k3 c3 x3 := by rw [hU3PR]; first | exact hl3.setB PR (by simp) (by simp) _ _ | exact hl3.setFar2 (by omega) _ _
  replace PR : Bk2 U3PR (w.heap.size + 1) (.bool m3) (.slice A3 k3 c3) := by rw [hU3PR]; exact PR.set _ _
  rw [← hU3PR]
  clear hU3PR
  have zU3PR' := Nat.le_of_eq zU3PR
  replace zU3PR := Nat.le_of_eq zU3PR.symm
  obtain ⟨U3PF, hU3PF⟩ : ∃ U3PF : World, U3PF = ((U3PR.setCell ⟨w.heap.size + 2, 0, none⟩ (.int .i64 0)).setCell ⟨w.heap.size + 2, 1, none⟩ (.int .i64 0)) := ⟨_, rfl⟩
  have zU3PF : U3PF.heap.size = U3PR.heap.size := by rw [hU3PF]; simp [World.setCell]
  replace E : Below w.heap.size w U3PF := by rw [hU3PF]; exact (E.setCell (by first | (simp; done) | (simp; omega)) _).setCell (by first | (simp; done) | (simp; omega)) _
  replace PR : Bk2 U3PF (w.heap.size + 1) (.bool m3) (.slice A3 k3 c3) := by rw [hU3PF]; exact PR.far2 (by omega) _ _
  replace hl3 : LRd U3PF (w3.heap.size) A3 k3 c3 x3 := by rw [hU3PF]; first | exact hl3.setB PF (by simp) (by simp) _ _ | exact hl3.setFar2 (by omega) _ _
  replace PF : Bk2 U3PF (w.heap.size + 2) (.int .i64 0) (.int .i64 0) := by rw [hU3PF]; exact PF.set _ _
  rw [← hU3PF]
  clear hU3PF
  have zU3PF' := Nat.le_of_eq zU3PF
  replace zU3PF := Nat.le_of_eq zU3PF.symm
  obtain ⟨f0, f1, _, _, _⟩ := PF
  obtain ⟨r0, r1, _, _, _⟩ := PR
  refine bodyPost_ret (v := .tuple #[intv m3 A3 k3 c3, flt 0 0]) (by simp [results, Try.results39, go_sem, f0, f1, r0, r1]) rfl ⟨r, R1.out.1, R1.out.2, m3, A3, k3, c3, x3, rfl, hl3.more (by omega), R3.out, E⟩
end Go.Proofs.Ytpidkionieaffaa
