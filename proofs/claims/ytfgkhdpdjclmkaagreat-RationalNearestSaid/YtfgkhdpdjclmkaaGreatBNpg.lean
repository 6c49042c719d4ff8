/- The program's Nearest with every outcome. -/
import Derived.Test.YtfgkhdpdjclmkaaGreatBr
import Derived.Test.YtfgkhdpdjclmkaaGreatBMk1
import Derived.Test.YtfgkhdpdjclmkaaGreatBo
import Derived.Test.YtfgkhdpdjclmkaaGreatBc
import Derived.Deep.DeepCutAuto
namespace Go.Proofs.YtfgkhdpdjclmkaaGreat
open Go.RowKit
set_option maxHeartbeats 400000
set_option maxRecDepth 100000
set_option linter.unusedSimpArgs false
set_option linter.unusedVariables false

set_option maxHeartbeats 8000000 in
theorem near_bad (w : World) (B : Nat) (a : RV) (mneg : Bool) (mA : Option Addr) (mn mc : Nat) (mxs : List Nat) (H1 : a.at w B) (HM : LRd w B mA mn mc mxs) (hB : B ≤ w.heap.size) (f2 : Int) (hf : rfault [a] 0 = (6, f2)) :
    Calls Tryz.prog 44 #[a.v, intv mneg mA mn mc] w (GivesRat w 0 0 6 f2) := by
  have HA : LRd w B a.num.A a.num.n a.num.c a.num.xs := H1.1
  have HC : LRd w B a.den.A a.den.n a.den.c a.den.xs := H1.2
  have E : Below w.heap.size w w := Below.refl _ _
  have bbase : Below w.heap.size w ((((w.alloc (.cells #[.bool a.num.neg, .slice a.num.A a.num.n a.num.c, .bool a.den.neg, .slice a.den.A a.den.n a.den.c] 26)).alloc (.cells #[.bool mneg, .slice mA mn mc] 24)).alloc (.cells #[.bool false, .slice none 0 0, .bool false, .slice none 0 0] 26)).alloc (.cells #[.int .i64 0, .int .i64 0] 28)) := ((((bl1 w _).alloc (by simp) _).alloc (by simp; omega) _).alloc (by simp; omega) _)
  have RR := Lib.hid (rrow1 ((((w.alloc (.cells #[.bool a.num.neg, .slice a.num.A a.num.n a.num.c, .bool a.den.neg, .slice a.den.A a.den.n a.den.c] 26)).alloc (.cells #[.bool mneg, .slice mA mn mc] 24)).alloc (.cells #[.bool false, .slice none 0 0, .bool false, .slice none 0 0] 26)).alloc (.cells #[.int .i64 0, .int .i64 0] 28)) B a (RV.at.below H1 bbase (by omega)) (by simp; omega))
  clear bbase
  go_enter Tryz.func44, Tryz.ntmps44
  go_wp2_with fail
  obtain ⟨V0, hV0⟩ : ∃ V0 : World, V0 = (((((w.alloc (.cells #[.bool a.num.neg, .slice a.num.A a.num.n a.num.c, .bool a.den.neg, .slice a.den.A a.den.n a.den.c] 26)).alloc (.cells #[.bool mneg, .slice mA mn mc] 24)).alloc (.cells #[.bool false, .slice none 0 0, .bool false, .slice none 0 0] 26)).alloc (.cells #[.int .i64 0, .int .i64 0] 28)).alloc (.cells #[.bool a.num.neg, .slice a.num.A a.num.n a.num.c, .bool a.den.neg, .slice a.den.A a.den.n a.den.c] 26)) := ⟨_, rfl⟩
  have bV0 : Below w.heap.size w V0 := by rw [hV0]; (repeat (first | with_reducible exact Below.refl _ _ | with_reducible refine Below.alloc ?_ (by first | (simp <;> omega) | omega) _))
  have zV0 : w.heap.size + 5 ≤ V0.heap.size := by rw [hV0]; simp
  have PA : Bk4 V0 (w.heap.size) (.bool a.num.neg) (.slice a.num.A a.num.n a.num.c) (.bool a.den.neg) (.slice a.den.A a.den.n a.den.c) := by rw [hV0]; exact (((((Bk4.newAt _ _ (by first | omega | (simp; done) | (simp; omega)) _ _ _ _ _).alloc _).alloc _).alloc _).alloc _)
  have PM : Bk2 V0 (w.heap.size + 1) (.bool mneg) (.slice mA mn mc) := by rw [hV0]; exact ((((Bk2.newAt _ _ (by first | omega | (simp; done) | (simp; omega)) _ _ _).alloc _).alloc _).alloc _)
  have PR : Bk4 V0 (w.heap.size + 2) (.bool false) (.slice none 0 0) (.bool false) (.slice none 0 0) := by rw [hV0]; exact (((Bk4.newAt _ _ (by first | omega | (simp; done) | (simp; omega)) _ _ _ _ _).alloc _).alloc _)
  have PF : Bk2 V0 (w.heap.size + 3) (.int .i64 0) (.int .i64 0) := by rw [hV0]; exact ((Bk2.newAt _ _ (by first | omega | (simp; done) | (simp; omega)) _ _ _).alloc _)
  replace RR : Hid (RRow V0 B (w.heap.size + 4) [a]) := by have h9 := RR.out; rw [hV0]; rw [show (((((w.alloc (.cells #[.bool a.num.neg, .slice a.num.A a.num.n a.num.c, .bool a.den.neg, .slice a.den.A a.den.n a.den.c] 26)).alloc (.cells #[.bool mneg, .slice mA mn mc] 24)).alloc (.cells #[.bool false, .slice none 0 0, .bool false, .slice none 0 0] 26)).alloc (.cells #[.int .i64 0, .int .i64 0] 28))).heap.size = w.heap.size + 4 by simp] at h9; exact h9
  rw [← hV0]
  clear hV0
  replace E := E.trans (bV0.mono E.size)
  replace HA := HA.below bV0 (by omega)
  replace HC := HC.below bV0 (by omega)
  replace HM := HM.below bV0 (by omega)
  clear bV0
  (with_reducible refine (rcheck_any _ B (w.heap.size + 4) 1 [a] RR.out rfl (by omega) (by omega)).mono ?_)
  rintro e w1 ⟨rfl, hb1⟩
  have sw1 := hb1.size
  replace E := E.trans (hb1.mono E.size)
  replace HA := HA.below hb1 (by omega)
  replace HC := HC.below hb1 (by omega)
  replace HM := HM.below hb1 (by omega)
  replace PA := PA.below hb1 PA.lt
  replace PM := PM.below hb1 PM.lt
  replace PR := PR.below hb1 PR.lt
  replace PF := PF.below hb1 PF.lt
  clear hb1
  rw [hf]
  clear RR
  go_upto_region 3 with fail
  obtain ⟨V1, hV1⟩ : ∃ V1 : World, V1 = (w1.alloc (.cells #[.int .i64 6, .int .i64 f2] 28)) := ⟨_, rfl⟩
  have bV1 : Below w1.heap.size w1 V1 := by rw [hV1]; (repeat (first | with_reducible exact Below.refl _ _ | with_reducible refine Below.alloc ?_ (by first | (simp <;> omega) | omega) _))
  have zV1 : w1.heap.size + 1 ≤ V1.heap.size := by rw [hV1]; simp
  have F6 : Bk2 V1 (w1.heap.size) (.int .i64 6) (.int .i64 f2) := by rw [hV1]; exact (Bk2.newAt _ _ (by first | omega | (simp; done) | (simp; omega)) _ _ _)
  rw [← hV1]
  clear hV1
  replace E := E.trans (bV1.mono E.size)
  replace HA := HA.below bV1 (by omega)
  replace HC := HC.below bV1 (by omega)
  replace HM := HM.below bV1 (by omega)
  replace PA := PA.below bV1 PA.lt
  replace PM := PM.below bV1 PM.lt
  replace PR := PR.below bV1 PR.lt
  replace PF := PF.below bV1 PF.lt
  clear bV1
  have lt6 := F6.lt
  have ltR := PR.lt
  have ltF := PF.lt
  obtain ⟨_, _, _, _, _⟩ := F6
  obtain ⟨f0, f1, z0, z1, _⟩ := PF
  obtain ⟨r0, r1, r2, r3, y0, y1, y2, y3, _⟩ := PR
  go_region
  go_wp2_with fail
  refine bodyPost_ret (v := .tuple #[ratv false none 0 0 false none 0 0, flt 6 f2]) (by simp [results, Tryz.results44, go_sem, r0, r1, r2, r3, f0, f1]) rfl ⟨false, none, 0, 0, [], false, none, 0, 0, [], rfl, nil_lrd _, nil_lrd _, IRep.zero, IRep.zero, ?_⟩
  (repeat (first | with_reducible exact E | with_reducible refine Below.drew ?_ | with_reducible refine below_drewN ?_ _ | with_reducible refine Below.setCell ?_ (by first | (simp <;> omega) | omega) _))
set_option maxHeartbeats 8000000 in
theorem near_form (w : World) (B : Nat) (a : RV) (mneg : Bool) (mA : Option Addr) (mn mc : Nat) (mxs : List Nat) (H1 : a.at w B) (HM : LRd w B mA mn mc mxs) (hB : B ≤ w.heap.size) (hf : rfault [a] 0 = (0, 0)) (om : Hid (ivld mneg mxs = false)) :
    Calls Tryz.prog 44 #[a.v, intv mneg mA mn mc] w (GivesRat w 0 0 6 (-2)) := by
  have HA : LRd w B a.num.A a.num.n a.num.c a.num.xs := H1.1
  have HC : LRd w B a.den.A a.den.n a.den.c a.den.xs := H1.2
  have E : Below w.heap.size w w := Below.refl _ _
  have bbase : Below w.heap.size w ((((w.alloc (.cells #[.bool a.num.neg, .slice a.num.A a.num.n a.num.c, .bool a.den.neg, .slice a.den.A a.den.n a.den.c] 26)).alloc (.cells #[.bool mneg, .slice mA mn mc] 24)).alloc (.cells #[.bool false, .slice none 0 0, .bool false, .slice none 0 0] 26)).alloc (.cells #[.int .i64 0, .int .i64 0] 28)) := ((((bl1 w _).alloc (by simp) _).alloc (by simp; omega) _).alloc (by simp; omega) _)
  have RR := Lib.hid (rrow1 ((((w.alloc (.cells #[.bool a.num.neg, .slice a.num.A a.num.n a.num.c, .bool a.den.neg, .slice a.den.A a.den.n a.den.c] 26)).alloc (.cells #[.bool mneg, .slice mA mn mc] 24)).alloc (.cells #[.bool false, .slice none 0 0, .bool false, .slice none 0 0] 26)).alloc (.cells #[.int .i64 0, .int .i64 0] 28)) B a (RV.at.below H1 bbase (by omega)) (by simp; omega))
  clear bbase
  go_enter Tryz.func44, Tryz.ntmps44
  go_wp2_with fail
  obtain ⟨V0, hV0⟩ : ∃ V0 : World, V0 = (((((w.alloc (.cells #[.bool a.num.neg, .slice a.num.A a.num.n a.num.c, .bool a.den.neg, .slice a.den.A a.den.n a.den.c] 26)).alloc (.cells #[.bool mneg, .slice mA mn mc] 24)).alloc (.cells #[.bool false, .slice none 0 0, .bool false, .slice none 0 0] 26)).alloc (.cells #[.int .i64 0, .int .i64 0] 28)).alloc (.cells #[.bool a.num.neg, .slice a.num.A a.num.n a.num.c, .bool a.den.neg, .slice a.den.A a.den.n a.den.c] 26)) := ⟨_, rfl⟩
  have bV0 : Below w.heap.size w V0 := by rw [hV0]; (repeat (first | with_reducible exact Below.refl _ _ | with_reducible refine Below.alloc ?_ (by first | (simp <;> omega) | omega) _))
  have zV0 : w.heap.size + 5 ≤ V0.heap.size := by rw [hV0]; simp
  have PA : Bk4 V0 (w.heap.size) (.bool a.num.neg) (.slice a.num.A a.num.n a.num.c) (.bool a.den.neg) (.slice a.den.A a.den.n a.den.c) := by rw [hV0]; exact (((((Bk4.newAt _ _ (by first | omega | (simp; done) | (simp; omega)) _ _ _ _ _).alloc _).alloc _).alloc _).alloc _)
  have PM : Bk2 V0 (w.heap.size + 1) (.bool mneg) (.slice mA mn mc) := by rw [hV0]; exact ((((Bk2.newAt _ _ (by first | omega | (simp; done) | (simp; omega)) _ _ _).alloc _).alloc _).alloc _)
  have PR : Bk4 V0 (w.heap.size + 2) (.bool false) (.slice none 0 0) (.bool false) (.slice none 0 0) := by rw [hV0]; exact (((Bk4.newAt _ _ (by first | omega | (simp; done) | (simp; omega)) _ _ _ _ _).alloc _).alloc _)
  have PF : Bk2 V0 (w.heap.size + 3) (.int .i64 0) (.int .i64 0) := by rw [hV0]; exact ((Bk2.newAt _ _ (by first | omega | (simp; done) | (simp; omega)) _ _ _).alloc _)
  replace RR : Hid (RRow V0 B (w.heap.size + 4) [a]) := by have h9 := RR.out; rw [hV0]; rw [show (((((w.alloc (.cells #[.bool a.num.neg, .slice a.num.A a.num.n a.num.c, .bool a.den.neg, .slice a.den.A a.den.n a.den.c] 26)).alloc (.cells #[.bool mneg, .slice mA mn mc] 24)).alloc (.cells #[.bool false, .slice none 0 0, .bool false, .slice none 0 0] 26)).alloc (.cells #[.int .i64 0, .int .i64 0] 28))).heap.size = w.heap.size + 4 by simp] at h9; exact h9
  rw [← hV0]
  clear hV0
  replace E := E.trans (bV0.mono E.size)
  replace HA := HA.below bV0 (by omega)
  replace HC := HC.below bV0 (by omega)
  replace HM := HM.below bV0 (by omega)
  clear bV0
  (with_reducible refine (rcheck_any _ B (w.heap.size + 4) 1 [a] RR.out rfl (by omega) (by omega)).mono ?_)
  rintro e w1 ⟨rfl, hb1⟩
  have sw1 := hb1.size
  replace E := E.trans (hb1.mono E.size)
  replace HA := HA.below hb1 (by omega)
  replace HC := HC.below hb1 (by omega)
  replace HM := HM.below hb1 (by omega)
  replace PA := PA.below hb1 PA.lt
  replace PM := PM.below hb1 PM.lt
  replace PR := PR.below hb1 PR.lt
  replace PF := PF.below hb1 PF.lt
  clear hb1
  rw [hf]
  clear RR
  have t_PM0 : (w1.alloc (.cells #[.int .i64 0, .int .i64 0] 28)).cell? ⟨w.heap.size + 1, 0, none⟩ = some ((.bool mneg)) := (PM.alloc _).c0
  have t_PM1 : (w1.alloc (.cells #[.int .i64 0, .int .i64 0] 28)).cell? ⟨w.heap.size + 1, 1, none⟩ = some ((.slice mA mn mc)) := (PM.alloc _).c1
  go_wp2_with fail
  clear t_PM0 t_PM1
  obtain ⟨V1, hV1⟩ : ∃ V1 : World, V1 = (w1.alloc (.cells #[.int .i64 0, .int .i64 0] 28)) := ⟨_, rfl⟩
  have bV1 : Below w1.heap.size w1 V1 := by rw [hV1]; (repeat (first | with_reducible exact Below.refl _ _ | with_reducible refine Below.alloc ?_ (by first | (simp <;> omega) | omega) _))
  have zV1 : w1.heap.size + 1 ≤ V1.heap.size := by rw [hV1]; simp
  have F6 : Bk2 V1 (w1.heap.size) (.int .i64 0) (.int .i64 0) := by rw [hV1]; exact (Bk2.newAt _ _ (by first | omega | (simp; done) | (simp; omega)) _ _ _)
  rw [← hV1]
  clear hV1
  replace E := E.trans (bV1.mono E.size)
  replace HA := HA.below bV1 (by omega)
  replace HC := HC.below bV1 (by omega)
  replace HM := HM.below bV1 (by omega)
  replace PA := PA.below bV1 PA.lt
  replace PM := PM.below bV1 PM.lt
  replace PR := PR.below bV1 PR.lt
  replace PF := PF.below bV1 PF.lt
  clear bV1
  clear F6
  (with_reducible refine (ivalid_any _ B mneg mA mn mc mxs HM (by omega)).mono ?_)
  rintro e w2 ⟨rfl, hb2⟩
  have sw2 := hb2.size
  replace E := E.trans (hb2.mono E.size)
  replace HA := HA.below hb2 (by omega)
  replace HC := HC.below hb2 (by omega)
  replace HM := HM.below hb2 (by omega)
  replace PA := PA.below hb2 PA.lt
  replace PM := PM.below hb2 PM.lt
  replace PR := PR.below hb2 PR.lt
  replace PF := PF.below hb2 PF.lt
  clear hb2
  rw [om.out]
  have y_PR0 := PR.c0
  have z_PR0 := PR.z0
  have y_PR1 := PR.c1
  have z_PR1 := PR.z1
  have y_PR2 := PR.c2
  have z_PR2 := PR.z2
  have y_PR3 := PR.c3
  have z_PR3 := PR.z3
  have lt_PR := PR.lt
  have y_PF0 := PF.c0
  have z_PF0 := PF.z0
  have y_PF1 := PF.c1
  have z_PF1 := PF.z1
  have lt_PF := PF.lt
  go_wp2_with fail
  clear y_PR0 z_PR0 y_PR1 z_PR1 y_PR2 z_PR2 y_PR3 z_PR3 lt_PR y_PF0 z_PF0 y_PF1 z_PF1 lt_PF
  obtain ⟨U2PR, hU2PR⟩ : ∃ U2PR : World, U2PR = ((((w2.setCell ⟨w.heap.size + 2, 0, none⟩ (.bool false)).setCell ⟨w.heap.size + 2, 1, none⟩ (.slice none 0 0)).setCell ⟨w.heap.size + 2, 2, none⟩ (.bool false)).setCell ⟨w.heap.size + 2, 3, none⟩ (.slice none 0 0)) := ⟨_, rfl⟩
  have zU2PR : U2PR.heap.size = w2.heap.size := by rw [hU2PR]; simp [World.setCell]
  replace E : Below w.heap.size w U2PR := by rw [hU2PR]; exact ((((E.setCell (by first | (simp; done) | (simp; omega)) _).setCell (by first | (simp; done) | (simp; omega)) _).setCell (by first | (simp; done) | (simp; omega)) _).setCell (by first | (simp; done) | (simp; omega)) _)
  replace HA : LRd U2PR (B) a.num.A a.num.n a.num.c a.num.xs := by rw [hU2PR]; first | exact HA.set4 PR (by simp) (by simp) (by simp) (by simp) _ _ _ _ | exact HA.set4O (by omega) _ _ _ _
  replace HC : LRd U2PR (B) a.den.A a.den.n a.den.c a.den.xs := by rw [hU2PR]; first | exact HC.set4 PR (by simp) (by simp) (by simp) (by simp) _ _ _ _ | exact HC.set4O (by omega) _ _ _ _
  replace HM : LRd U2PR (B) mA mn mc mxs := by rw [hU2PR]; first | exact HM.set4 PR (by simp) (by simp) (by simp) (by simp) _ _ _ _ | exact HM.set4O (by omega) _ _ _ _
  replace PA : Bk4 U2PR (w.heap.size) (.bool a.num.neg) (.slice a.num.A a.num.n a.num.c) (.bool a.den.neg) (.slice a.den.A a.den.n a.den.c) := by rw [hU2PR]; exact PA.far4 (by omega) _ _ _ _
  replace PM : Bk2 U2PR (w.heap.size + 1) (.bool mneg) (.slice mA mn mc) := by rw [hU2PR]; exact PM.far4 (by omega) _ _ _ _
  replace PF : Bk2 U2PR (w.heap.size + 3) (.int .i64 0) (.int .i64 0) := by rw [hU2PR]; exact PF.far4 (by omega) _ _ _ _
  replace PR : Bk4 U2PR (w.heap.size + 2) (.bool false) (.slice none 0 0) (.bool false) (.slice none 0 0) := by rw [hU2PR]; exact PR.set _ _ _ _
  rw [← hU2PR]
  clear hU2PR
  have zU2PR' := Nat.le_of_eq zU2PR
  replace zU2PR := Nat.le_of_eq zU2PR.symm
  obtain ⟨U2PF, hU2PF⟩ : ∃ U2PF : World, U2PF = ((U2PR.setCell ⟨w.heap.size + 3, 0, none⟩ (.int .i64 6)).setCell ⟨w.heap.size + 3, 1, none⟩ (.int .i64 (-2))) := ⟨_, rfl⟩
  have zU2PF : U2PF.heap.size = U2PR.heap.size := by rw [hU2PF]; simp [World.setCell]
  replace E : Below w.heap.size w U2PF := by rw [hU2PF]; exact ((E.setCell (by first | (simp; done) | (simp; omega)) _).setCell (by first | (simp; done) | (simp; omega)) _)
  replace HA : LRd U2PF (B) a.num.A a.num.n a.num.c a.num.xs := by rw [hU2PF]; first | exact HA.setB PF (by simp) (by simp) _ _ | exact HA.setFarL (by omega) _ _
  replace HC : LRd U2PF (B) a.den.A a.den.n a.den.c a.den.xs := by rw [hU2PF]; first | exact HC.setB PF (by simp) (by simp) _ _ | exact HC.setFarL (by omega) _ _
  replace HM : LRd U2PF (B) mA mn mc mxs := by rw [hU2PF]; first | exact HM.setB PF (by simp) (by simp) _ _ | exact HM.setFarL (by omega) _ _
  replace PA : Bk4 U2PF (w.heap.size) (.bool a.num.neg) (.slice a.num.A a.num.n a.num.c) (.bool a.den.neg) (.slice a.den.A a.den.n a.den.c) := by rw [hU2PF]; exact PA.far2 (by omega) _ _
  replace PM : Bk2 U2PF (w.heap.size + 1) (.bool mneg) (.slice mA mn mc) := by rw [hU2PF]; exact PM.far2 (by omega) _ _
  replace PR : Bk4 U2PF (w.heap.size + 2) (.bool false) (.slice none 0 0) (.bool false) (.slice none 0 0) := by rw [hU2PF]; exact PR.far2 (by omega) _ _
  replace PF : Bk2 U2PF (w.heap.size + 3) (.int .i64 6) (.int .i64 (-2)) := by rw [hU2PF]; exact PF.set _ _
  rw [← hU2PF]
  clear hU2PF
  have zU2PF' := Nat.le_of_eq zU2PF
  replace zU2PF := Nat.le_of_eq zU2PF.symm
  obtain ⟨f0, f1, _, _, _⟩ := PF
  obtain ⟨r0, r1, r2, r3, _, _, _, _, _⟩ := PR
  refine bodyPost_ret (v := .tuple #[ratv false none 0 0 false none 0 0, flt 6 (-2)]) (by simp [results, Tryz.results44, go_sem, r0, r1, r2, r3, f0, f1]) rfl ⟨false, none, 0, 0, [], false, none, 0, 0, [], rfl, nil_lrd _, nil_lrd _, IRep.zero, IRep.zero, E⟩
set_option maxHeartbeats 8000000 in
theorem near_neg (w : World) (B : Nat) (a : RV) (mneg : Bool) (mA : Option Addr) (mn mc : Nat) (mxs : List Nat) (H1 : a.at w B) (HM : LRd w B mA mn mc mxs) (hB : B ≤ w.heap.size) (hf : rfault [a] 0 = (0, 0)) (om : Hid (ivld true mxs = true)) :
    Calls Tryz.prog 44 #[a.v, intv true mA mn mc] w (GivesRat w 0 0 4 (-2)) := by
  have HA : LRd w B a.num.A a.num.n a.num.c a.num.xs := H1.1
  have HC : LRd w B a.den.A a.den.n a.den.c a.den.xs := H1.2
  have E : Below w.heap.size w w := Below.refl _ _
  have bbase : Below w.heap.size w ((((w.alloc (.cells #[.bool a.num.neg, .slice a.num.A a.num.n a.num.c, .bool a.den.neg, .slice a.den.A a.den.n a.den.c] 26)).alloc (.cells #[.bool true, .slice mA mn mc] 24)).alloc (.cells #[.bool false, .slice none 0 0, .bool false, .slice none 0 0] 26)).alloc (.cells #[.int .i64 0, .int .i64 0] 28)) := ((((bl1 w _).alloc (by simp) _).alloc (by simp; omega) _).alloc (by simp; omega) _)
  have RR := Lib.hid (rrow1 ((((w.alloc (.cells #[.bool a.num.neg, .slice a.num.A a.num.n a.num.c, .bool a.den.neg, .slice a.den.A a.den.n a.den.c] 26)).alloc (.cells #[.bool true, .slice mA mn mc] 24)).alloc (.cells #[.bool false, .slice none 0 0, .bool false, .slice none 0 0] 26)).alloc (.cells #[.int .i64 0, .int .i64 0] 28)) B a (RV.at.below H1 bbase (by omega)) (by simp; omega))
  clear bbase
  go_enter Tryz.func44, Tryz.ntmps44
  go_wp2_with fail
  obtain ⟨V0, hV0⟩ : ∃ V0 : World, V0 = (((((w.alloc (.cells #[.bool a.num.neg, .slice a.num.A a.num.n a.num.c, .bool a.den.neg, .slice a.den.A a.den.n a.den.c] 26)).alloc (.cells #[.bool true, .slice mA mn mc] 24)).alloc (.cells #[.bool false, .slice none 0 0, .bool false, .slice none 0 0] 26)).alloc (.cells #[.int .i64 0, .int .i64 0] 28)).alloc (.cells #[.bool a.num.neg, .slice a.num.A a.num.n a.num.c, .bool a.den.neg, .slice a.den.A a.den.n a.den.c] 26)) := ⟨_, rfl⟩
  have bV0 : Below w.heap.size w V0 := by rw [hV0]; (repeat (first | with_reducible exact Below.refl _ _ | with_reducible refine Below.alloc ?_ (by first | (simp <;> omega) | omega) _))
  have zV0 : w.heap.size + 5 ≤ V0.heap.size := by rw [hV0]; simp
  have PA : Bk4 V0 (w.heap.size) (.bool a.num.neg) (.slice a.num.A a.num.n a.num.c) (.bool a.den.neg) (.slice a.den.A a.den.n a.den.c) := by rw [hV0]; exact (((((Bk4.newAt _ _ (by first | omega | (simp; done) | (simp; omega)) _ _ _ _ _).alloc _).alloc _).alloc _).alloc _)
  have PM : Bk2 V0 (w.heap.size + 1) (.bool true) (.slice mA mn mc) := by rw [hV0]; exact ((((Bk2.newAt _ _ (by first | omega | (simp; done) | (simp; omega)) _ _ _).alloc _).alloc _).alloc _)
  have PR : Bk4 V0 (w.heap.size + 2) (.bool false) (.slice none 0 0) (.bool false) (.slice none 0 0) := by rw [hV0]; exact (((Bk4.newAt _ _ (by first | omega | (simp; done) | (simp; omega)) _ _ _ _ _).alloc _).alloc _)
  have PF : Bk2 V0 (w.heap.size + 3) (.int .i64 0) (.int .i64 0) := by rw [hV0]; exact ((Bk2.newAt _ _ (by first | omega | (simp; done) | (simp; omega)) _ _ _).alloc _)
  replace RR : Hid (RRow V0 B (w.heap.size + 4) [a]) := by have h9 := RR.out; rw [hV0]; rw [show (((((w.alloc (.cells #[.bool a.num.neg, .slice a.num.A a.num.n a.num.c, .bool a.den.neg, .slice a.den.A a.den.n a.den.c] 26)).alloc (.cells #[.bool true, .slice mA mn mc] 24)).alloc (.cells #[.bool false, .slice none 0 0, .bool false, .slice none 0 0] 26)).alloc (.cells #[.int .i64 0, .int .i64 0] 28))).heap.size = w.heap.size + 4 by simp] at h9; exact h9
  rw [← hV0]
  clear hV0
  replace E := E.trans (bV0.mono E.size)
  replace HA := HA.below bV0 (by omega)
  replace HC := HC.below bV0 (by omega)
  replace HM := HM.below bV0 (by omega)
  clear bV0
  (with_reducible refine (rcheck_any _ B (w.heap.size + 4) 1 [a] RR.out rfl (by omega) (by omega)).mono ?_)
  rintro e w1 ⟨rfl, hb1⟩
  have sw1 := hb1.size
  replace E := E.trans (hb1.mono E.size)
  replace HA := HA.below hb1 (by omega)
  replace HC := HC.below hb1 (by omega)
  replace HM := HM.below hb1 (by omega)
  replace PA := PA.below hb1 PA.lt
  replace PM := PM.below hb1 PM.lt
  replace PR := PR.below hb1 PR.lt
  replace PF := PF.below hb1 PF.lt
  clear hb1
  rw [hf]
  clear RR
  have t_PM0 : (w1.alloc (.cells #[.int .i64 0, .int .i64 0] 28)).cell? ⟨w.heap.size + 1, 0, none⟩ = some ((.bool true)) := (PM.alloc _).c0
  have t_PM1 : (w1.alloc (.cells #[.int .i64 0, .int .i64 0] 28)).cell? ⟨w.heap.size + 1, 1, none⟩ = some ((.slice mA mn mc)) := (PM.alloc _).c1
  go_wp2_with fail
  clear t_PM0 t_PM1
  obtain ⟨V1, hV1⟩ : ∃ V1 : World, V1 = (w1.alloc (.cells #[.int .i64 0, .int .i64 0] 28)) := ⟨_, rfl⟩
  have bV1 : Below w1.heap.size w1 V1 := by rw [hV1]; (repeat (first | with_reducible exact Below.refl _ _ | with_reducible refine Below.alloc ?_ (by first | (simp <;> omega) | omega) _))
  have zV1 : w1.heap.size + 1 ≤ V1.heap.size := by rw [hV1]; simp
  have F6 : Bk2 V1 (w1.heap.size) (.int .i64 0) (.int .i64 0) := by rw [hV1]; exact (Bk2.newAt _ _ (by first | omega | (simp; done) | (simp; omega)) _ _ _)
  rw [← hV1]
  clear hV1
  replace E := E.trans (bV1.mono E.size)
  replace HA := HA.below bV1 (by omega)
  replace HC := HC.below bV1 (by omega)
  replace HM := HM.below bV1 (by omega)
  replace PA := PA.below bV1 PA.lt
  replace PM := PM.below bV1 PM.lt
  replace PR := PR.below bV1 PR.lt
  replace PF := PF.below bV1 PF.lt
  clear bV1
  clear F6
  (with_reducible refine (ivalid_any _ B true mA mn mc mxs HM (by omega)).mono ?_)
  rintro e w2 ⟨rfl, hb2⟩
  have sw2 := hb2.size
  replace E := E.trans (hb2.mono E.size)
  replace HA := HA.below hb2 (by omega)
  replace HC := HC.below hb2 (by omega)
  replace HM := HM.below hb2 (by omega)
  replace PA := PA.below hb2 PA.lt
  replace PM := PM.below hb2 PM.lt
  replace PR := PR.below hb2 PR.lt
  replace PF := PF.below hb2 PF.lt
  clear hb2
  rw [om.out]
  have y_PR0 := PR.c0
  have z_PR0 := PR.z0
  have y_PR1 := PR.c1
  have z_PR1 := PR.z1
  have y_PR2 := PR.c2
  have z_PR2 := PR.z2
  have y_PR3 := PR.c3
  have z_PR3 := PR.z3
  have lt_PR := PR.lt
  have y_PF0 := PF.c0
  have z_PF0 := PF.z0
  have y_PF1 := PF.c1
  have z_PF1 := PF.z1
  have lt_PF := PF.lt
  have t_PM0 := PM.c0
  have t_PM1 := PM.c1
  have lt_PM := PM.lt
  go_wp2_with fail
  clear y_PR0 z_PR0 y_PR1 z_PR1 y_PR2 z_PR2 y_PR3 z_PR3 lt_PR y_PF0 z_PF0 y_PF1 z_PF1 lt_PF t_PM0 t_PM1 lt_PM
  obtain ⟨U2PR, hU2PR⟩ : ∃ U2PR : World, U2PR = ((((w2.setCell ⟨w.heap.size + 2, 0, none⟩ (.bool false)).setCell ⟨w.heap.size + 2, 1, none⟩ (.slice none 0 0)).setCell ⟨w.heap.size + 2, 2, none⟩ (.bool false)).setCell ⟨w.heap.size + 2, 3, none⟩ (.slice none 0 0)) := ⟨_, rfl⟩
  have zU2PR : U2PR.heap.size = w2.heap.size := by rw [hU2PR]; simp [World.setCell]
  replace E : Below w.heap.size w U2PR := by rw [hU2PR]; exact ((((E.setCell (by first | (simp; done) | (simp; omega)) _).setCell (by first | (simp; done) | (simp; omega)) _).setCell (by first | (simp; done) | (simp; omega)) _).setCell (by first | (simp; done) | (simp; omega)) _)
  replace HA : LRd U2PR (B) a.num.A a.num.n a.num.c a.num.xs := by rw [hU2PR]; first | exact HA.set4 PR (by simp) (by simp) (by simp) (by simp) _ _ _ _ | exact HA.set4O (by omega) _ _ _ _
  replace HC : LRd U2PR (B) a.den.A a.den.n a.den.c a.den.xs := by rw [hU2PR]; first | exact HC.set4 PR (by simp) (by simp) (by simp) (by simp) _ _ _ _ | exact HC.set4O (by omega) _ _ _ _
  replace HM : LRd U2PR (B) mA mn mc mxs := by rw [hU2PR]; first | exact HM.set4 PR (by simp) (by simp) (by simp) (by simp) _ _ _ _ | exact HM.set4O (by omega) _ _ _ _
  replace PA : Bk4 U2PR (w.heap.size) (.bool a.num.neg) (.slice a.num.A a.num.n a.num.c) (.bool a.den.neg) (.slice a.den.A a.den.n a.den.c) := by rw [hU2PR]; exact PA.far4 (by omega) _ _ _ _
  replace PM : Bk2 U2PR (w.heap.size + 1) (.bool true) (.slice mA mn mc) := by rw [hU2PR]; exact PM.far4 (by omega) _ _ _ _
  replace PF : Bk2 U2PR (w.heap.size + 3) (.int .i64 0) (.int .i64 0) := by rw [hU2PR]; exact PF.far4 (by omega) _ _ _ _
  replace PR : Bk4 U2PR (w.heap.size + 2) (.bool false) (.slice none 0 0) (.bool false) (.slice none 0 0) := by rw [hU2PR]; exact PR.set _ _ _ _
  rw [← hU2PR]
  clear hU2PR
  have zU2PR' := Nat.le_of_eq zU2PR
  replace zU2PR := Nat.le_of_eq zU2PR.symm
  obtain ⟨U2PF, hU2PF⟩ : ∃ U2PF : World, U2PF = ((U2PR.setCell ⟨w.heap.size + 3, 0, none⟩ (.int .i64 4)).setCell ⟨w.heap.size + 3, 1, none⟩ (.int .i64 (-2))) := ⟨_, rfl⟩
  have zU2PF : U2PF.heap.size = U2PR.heap.size := by rw [hU2PF]; simp [World.setCell]
  replace E : Below w.heap.size w U2PF := by rw [hU2PF]; exact ((E.setCell (by first | (simp; done) | (simp; omega)) _).setCell (by first | (simp; done) | (simp; omega)) _)
  replace HA : LRd U2PF (B) a.num.A a.num.n a.num.c a.num.xs := by rw [hU2PF]; first | exact HA.setB PF (by simp) (by simp) _ _ | exact HA.setFarL (by omega) _ _
  replace HC : LRd U2PF (B) a.den.A a.den.n a.den.c a.den.xs := by rw [hU2PF]; first | exact HC.setB PF (by simp) (by simp) _ _ | exact HC.setFarL (by omega) _ _
  replace HM : LRd U2PF (B) mA mn mc mxs := by rw [hU2PF]; first | exact HM.setB PF (by simp) (by simp) _ _ | exact HM.setFarL (by omega) _ _
  replace PA : Bk4 U2PF (w.heap.size) (.bool a.num.neg) (.slice a.num.A a.num.n a.num.c) (.bool a.den.neg) (.slice a.den.A a.den.n a.den.c) := by rw [hU2PF]; exact PA.far2 (by omega) _ _
  replace PM : Bk2 U2PF (w.heap.size + 1) (.bool true) (.slice mA mn mc) := by rw [hU2PF]; exact PM.far2 (by omega) _ _
  replace PR : Bk4 U2PF (w.heap.size + 2) (.bool false) (.slice none 0 0) (.bool false) (.slice none 0 0) := by rw [hU2PF]; exact PR.far2 (by omega) _ _
  replace PF : Bk2 U2PF (w.heap.size + 3) (.int .i64 4) (.int .i64 (-2)) := by rw [hU2PF]; exact PF.set _ _
  rw [← hU2PF]
  clear hU2PF
  have zU2PF' := Nat.le_of_eq zU2PF
  replace zU2PF := Nat.le_of_eq zU2PF.symm
  obtain ⟨f0, f1, _, _, _⟩ := PF
  obtain ⟨r0, r1, r2, r3, _, _, _, _, _⟩ := PR
  refine bodyPost_ret (v := .tuple #[ratv false none 0 0 false none 0 0, flt 4 (-2)]) (by simp [results, Tryz.results44, go_sem, r0, r1, r2, r3, f0, f1]) rfl ⟨false, none, 0, 0, [], false, none, 0, 0, [], rfl, nil_lrd _, nil_lrd _, IRep.zero, IRep.zero, E⟩
set_option maxHeartbeats 8000000 in
theorem near_zero (w : World) (B : Nat) (a : RV) (mneg : Bool) (mA : Option Addr) (mn mc : Nat) (mxs : List Nat) (H1 : a.at w B) (HM : LRd w B mA mn mc mxs) (hB : B ≤ w.heap.size) (hf : rfault [a] 0 = (0, 0)) (om : Hid (ivld false mxs = true)) (hz9 : decide (mn = 0) = true) :
    Calls Tryz.prog 44 #[a.v, intv false mA mn mc] w (GivesRat w 0 0 4 (-2)) := by
  have HA : LRd w B a.num.A a.num.n a.num.c a.num.xs := H1.1
  have HC : LRd w B a.den.A a.den.n a.den.c a.den.xs := H1.2
  have E : Below w.heap.size w w := Below.refl _ _
  have bbase : Below w.heap.size w ((((w.alloc (.cells #[.bool a.num.neg, .slice a.num.A a.num.n a.num.c, .bool a.den.neg, .slice a.den.A a.den.n a.den.c] 26)).alloc (.cells #[.bool false, .slice mA mn mc] 24)).alloc (.cells #[.bool false, .slice none 0 0, .bool false, .slice none 0 0] 26)).alloc (.cells #[.int .i64 0, .int .i64 0] 28)) := ((((bl1 w _).alloc (by simp) _).alloc (by simp; omega) _).alloc (by simp; omega) _)
  have RR := Lib.hid (rrow1 ((((w.alloc (.cells #[.bool a.num.neg, .slice a.num.A a.num.n a.num.c, .bool a.den.neg, .slice a.den.A a.den.n a.den.c] 26)).alloc (.cells #[.bool false, .slice mA mn mc] 24)).alloc (.cells #[.bool false, .slice none 0 0, .bool false, .slice none 0 0] 26)).alloc (.cells #[.int .i64 0, .int .i64 0] 28)) B a (RV.at.below H1 bbase (by omega)) (by simp; omega))
  clear bbase
  go_enter Tryz.func44, Tryz.ntmps44
  go_wp2_with fail
  obtain ⟨V0, hV0⟩ : ∃ V0 : World, V0 = (((((w.alloc (.cells #[.bool a.num.neg, .slice a.num.A a.num.n a.num.c, .bool a.den.neg, .slice a.den.A a.den.n a.den.c] 26)).alloc (.cells #[.bool false, .slice mA mn mc] 24)).alloc (.cells #[.bool false, .slice none 0 0, .bool false, .slice none 0 0] 26)).alloc (.cells #[.int .i64 0, .int .i64 0] 28)).alloc (.cells #[.bool a.num.neg, .slice a.num.A a.num.n a.num.c, .bool a.den.neg, .slice a.den.A a.den.n a.den.c] 26)) := ⟨_, rfl⟩
  have bV0 : Below w.heap.size w V0 := by rw [hV0]; (repeat (first | with_reducible exact Below.refl _ _ | with_reducible refine Below.alloc ?_ (by first | (simp <;> omega) | omega) _))
  have zV0 : w.heap.size + 5 ≤ V0.heap.size := by rw [hV0]; simp
  have PA : Bk4 V0 (w.heap.size) (.bool a.num.neg) (.slice a.num.A a.num.n a.num.c) (.bool a.den.neg) (.slice a.den.A a.den.n a.den.c) := by rw [hV0]; exact (((((Bk4.newAt _ _ (by first | omega | (simp; done) | (simp; omega)) _ _ _ _ _).alloc _).alloc _).alloc _).alloc _)
  have PM : Bk2 V0 (w.heap.size + 1) (.bool false) (.slice mA mn mc) := by rw [hV0]; exact ((((Bk2.newAt _ _ (by first | omega | (simp; done) | (simp; omega)) _ _ _).alloc _).alloc _).alloc _)
  have PR : Bk4 V0 (w.heap.size + 2) (.bool false) (.slice none 0 0) (.bool false) (.slice none 0 0) := by rw [hV0]; exact (((Bk4.newAt _ _ (by first | omega | (simp; done) | (simp; omega)) _ _ _ _ _).alloc _).alloc _)
  have PF : Bk2 V0 (w.heap.size + 3) (.int .i64 0) (.int .i64 0) := by rw [hV0]; exact ((Bk2.newAt _ _ (by first | omega | (simp; done) | (simp; omega)) _ _ _).alloc _)
  replace RR : Hid (RRow V0 B (w.heap.size + 4) [a]) := by have h9 := RR.out; rw [hV0]; rw [show (((((w.alloc (.cells #[.bool a.num.neg, .slice a.num.A a.num.n a.num.c, .bool a.den.neg, .slice a.den.A a.den.n a.den.c] 26)).alloc (.cells #[.bool false, .slice mA mn mc] 24)).alloc (.cells #[.bool false, .slice none 0 0, .bool false, .slice none 0 0] 26)).alloc (.cells #[.int .i64 0, .int .i64 0] 28))).heap.size = w.heap.size + 4 by simp] at h9; exact h9
  rw [← hV0]
  clear hV0
  replace E := E.trans (bV0.mono E.size)
  replace HA := HA.below bV0 (by omega)
  replace HC := HC.below bV0 (by omega)
  replace HM := HM.below bV0 (by omega)
  clear bV0
  (with_reducible refine (rcheck_any _ B (w.heap.size + 4) 1 [a] RR.out rfl (by omega) (by omega)).mono ?_)
  rintro e w1 ⟨rfl, hb1⟩
  have sw1 := hb1.size
  replace E := E.trans (hb1.mono E.size)
  replace HA := HA.below hb1 (by omega)
  replace HC := HC.below hb1 (by omega)
  replace HM := HM.below hb1 (by omega)
  replace PA := PA.below hb1 PA.lt
  replace PM := PM.below hb1 PM.lt
  replace PR := PR.below hb1 PR.lt
  replace PF := PF.below hb1 PF.lt
  clear hb1
  rw [hf]
  clear RR
  have t_PM0 : (w1.alloc (.cells #[.int .i64 0, .int .i64 0] 28)).cell? ⟨w.heap.size + 1, 0, none⟩ = some ((.bool false)) := (PM.alloc _).c0
  have t_PM1 : (w1.alloc (.cells #[.int .i64 0, .int .i64 0] 28)).cell? ⟨w.heap.size + 1, 1, none⟩ = some ((.slice mA mn mc)) := (PM.alloc _).c1
  go_wp2_with fail
  clear t_PM0 t_PM1
  obtain ⟨V1, hV1⟩ : ∃ V1 : World, V1 = (w1.alloc (.cells #[.int .i64 0, .int .i64 0] 28)) := ⟨_, rfl⟩
  have bV1 : Below w1.heap.size w1 V1 := by rw [hV1]; (repeat (first | with_reducible exact Below.refl _ _ | with_reducible refine Below.alloc ?_ (by first | (simp <;> omega) | omega) _))
  have zV1 : w1.heap.size + 1 ≤ V1.heap.size := by rw [hV1]; simp
  have F6 : Bk2 V1 (w1.heap.size) (.int .i64 0) (.int .i64 0) := by rw [hV1]; exact (Bk2.newAt _ _ (by first | omega | (simp; done) | (simp; omega)) _ _ _)
  rw [← hV1]
  clear hV1
  replace E := E.trans (bV1.mono E.size)
  replace HA := HA.below bV1 (by omega)
  replace HC := HC.below bV1 (by omega)
  replace HM := HM.below bV1 (by omega)
  replace PA := PA.below bV1 PA.lt
  replace PM := PM.below bV1 PM.lt
  replace PR := PR.below bV1 PR.lt
  replace PF := PF.below bV1 PF.lt
  clear bV1
  clear F6
  (with_reducible refine (ivalid_any _ B false mA mn mc mxs HM (by omega)).mono ?_)
  rintro e w2 ⟨rfl, hb2⟩
  have sw2 := hb2.size
  replace E := E.trans (hb2.mono E.size)
  replace HA := HA.below hb2 (by omega)
  replace HC := HC.below hb2 (by omega)
  replace HM := HM.below hb2 (by omega)
  replace PA := PA.below hb2 PA.lt
  replace PM := PM.below hb2 PM.lt
  replace PR := PR.below hb2 PR.lt
  replace PF := PF.below hb2 PF.lt
  clear hb2
  rw [om.out]
  have t_PM0 := PM.c0
  have t_PM1 := PM.c1
  go_wp2_with fail
  clear t_PM0 t_PM1
  (with_reducible refine (isZero_any _ false mA mn mc (by have := HM.cap; omega)).mono ?_)
  rintro e w3 ⟨rfl, hb3⟩
  have sw3 := hb3.size
  replace E := E.trans (hb3.mono E.size)
  replace HA := HA.below hb3 (by omega)
  replace HC := HC.below hb3 (by omega)
  replace HM := HM.below hb3 (by omega)
  replace PA := PA.below hb3 PA.lt
  replace PM := PM.below hb3 PM.lt
  replace PR := PR.below hb3 PR.lt
  replace PF := PF.below hb3 PF.lt
  clear hb3
  rw [hz9]
  have y_PR0 := PR.c0
  have z_PR0 := PR.z0
  have y_PR1 := PR.c1
  have z_PR1 := PR.z1
  have y_PR2 := PR.c2
  have z_PR2 := PR.z2
  have y_PR3 := PR.c3
  have z_PR3 := PR.z3
  have lt_PR := PR.lt
  have y_PF0 := PF.c0
  have z_PF0 := PF.z0
  have y_PF1 := PF.c1
  have z_PF1 := PF.z1
  have lt_PF := PF.lt
  go_wp2_with fail
  clear y_PR0 z_PR0 y_PR1 z_PR1 y_PR2 z_PR2 y_PR3 z_PR3 lt_PR y_PF0 z_PF0 y_PF1 z_PF1 lt_PF
  obtain ⟨U3PR, hU3PR⟩ : ∃ U3PR : World, U3PR = ((((w3.setCell ⟨w.heap.size + 2, 0, none⟩ (.bool false)).setCell ⟨w.heap.size + 2, 1, none⟩ (.slice none 0 0)).setCell ⟨w.heap.size + 2, 2, none⟩ (.bool false)).setCell ⟨w.heap.size + 2, 3, none⟩ (.slice none 0 0)) := ⟨_, rfl⟩
  have zU3PR : U3PR.heap.size = w3.heap.size := by rw [hU3PR]; simp [World.setCell]
  replace E : Below w.heap.size w U3PR := by rw [hU3PR]; exact ((((E.setCell (by first | (simp; done) | (simp; omega)) _).setCell (by first | (simp; done) | (simp; omega)) _).setCell (by first | (simp; done) | (simp; omega)) _).setCell (by first | (simp; done) | (simp; omega)) _)
  replace HA : LRd U3PR (B) a.num.A a.num.n a.num.c a.num.xs := by rw [hU3PR]; first | exact HA.set4 PR (by simp) (by simp) (by simp) (by simp) _ _ _ _ | exact HA.set4O (by omega) _ _ _ _
  replace HC : LRd U3PR (B) a.den.A a.den.n a.den.c a.den.xs := by rw [hU3PR]; first | exact HC.set4 PR (by simp) (by simp) (by simp) (by simp) _ _ _ _ | exact HC.set4O (by omega) _ _ _ _
  replace HM : LRd U3PR (B) mA mn mc mxs := by rw [hU3PR]; first | exact HM.set4 PR (by simp) (by simp) (by simp) (by simp) _ _ _ _ | exact HM.set4O (by omega) _ _ _ _
  replace PA : Bk4 U3PR (w.heap.size) (.bool a.num.neg) (.slice a.num.A a.num.n a.num.c) (.bool a.den.neg) (.slice a.den.A a.den.n a.den.c) := by rw [hU3PR]; exact PA.far4 (by omega) _ _ _ _
  replace PM : Bk2 U3PR (w.heap.size + 1) (.bool false) (.slice mA mn mc) := by rw [hU3PR]; exact PM.far4 (by omega) _ _ _ _
  replace PF : Bk2 U3PR (w.heap.size + 3) (.int .i64 0) (.int .i64 0) := by rw [hU3PR]; exact PF.far4 (by omega) _ _ _ _
  replace PR : Bk4 U3PR (w.heap.size + 2) (.bool false) (.slice none 0 0) (.bool false) (.slice none 0 0) := by rw [hU3PR]; exact PR.set _ _ _ _
  rw [← hU3PR]
  clear hU3PR
  have zU3PR' := Nat.le_of_eq zU3PR
  replace zU3PR := Nat.le_of_eq zU3PR.symm
  obtain ⟨U3PF, hU3PF⟩ : ∃ U3PF : World, U3PF = ((U3PR.setCell ⟨w.heap.size + 3, 0, none⟩ (.int .i64 4)).setCell ⟨w.heap.size + 3, 1, none⟩ (.int .i64 (-2))) := ⟨_, rfl⟩
  have zU3PF : U3PF.heap.size = U3PR.heap.size := by rw [hU3PF]; simp [World.setCell]
  replace E : Below w.heap.size w U3PF := by rw [hU3PF]; exact ((E.setCell (by first | (simp; done) | (simp; omega)) _).setCell (by first | (simp; done) | (simp; omega)) _)
  replace HA : LRd U3PF (B) a.num.A a.num.n a.num.c a.num.xs := by rw [hU3PF]; first | exact HA.setB PF (by simp) (by simp) _ _ | exact HA.setFarL (by omega) _ _
  replace HC : LRd U3PF (B) a.den.A a.den.n a.den.c a.den.xs := by rw [hU3PF]; first | exact HC.setB PF (by simp) (by simp) _ _ | exact HC.setFarL (by omega) _ _
  replace HM : LRd U3PF (B) mA mn mc mxs := by rw [hU3PF]; first | exact HM.setB PF (by simp) (by simp) _ _ | exact HM.setFarL (by omega) _ _
  replace PA : Bk4 U3PF (w.heap.size) (.bool a.num.neg) (.slice a.num.A a.num.n a.num.c) (.bool a.den.neg) (.slice a.den.A a.den.n a.den.c) := by rw [hU3PF]; exact PA.far2 (by omega) _ _
  replace PM : Bk2 U3PF (w.heap.size + 1) (.bool false) (.slice mA mn mc) := by rw [hU3PF]; exact PM.far2 (by omega) _ _
  replace PR : Bk4 U3PF (w.heap.size + 2) (.bool false) (.slice none 0 0) (.bool false) (.slice none 0 0) := by rw [hU3PF]; exact PR.far2 (by omega) _ _
  replace PF : Bk2 U3PF (w.heap.size + 3) (.int .i64 4) (.int .i64 (-2)) := by rw [hU3PF]; exact PF.set _ _
  rw [← hU3PF]
  clear hU3PF
  have zU3PF' := Nat.le_of_eq zU3PF
  replace zU3PF := Nat.le_of_eq zU3PF.symm
  obtain ⟨f0, f1, _, _, _⟩ := PF
  obtain ⟨r0, r1, r2, r3, _, _, _, _, _⟩ := PR
  refine bodyPost_ret (v := .tuple #[ratv false none 0 0 false none 0 0, flt 4 (-2)]) (by simp [results, Tryz.results44, go_sem, r0, r1, r2, r3, f0, f1]) rfl ⟨false, none, 0, 0, [], false, none, 0, 0, [], rfl, nil_lrd _, nil_lrd _, IRep.zero, IRep.zero, E⟩
theorem rf0' {x : RV} (h : x.ok = true) : rfault [x] 0 = (0, 0) := by
  show (if x.ok then _ else _) = _
  rw [if_pos h]; rfl
/-- What Nearest answers. -/
def NrRes (a : RV) (mo : IV) (r : RV) (f1 f2 : Int) : Prop :=
  (a.ok = false ∧ f1 = 6 ∧ f2 = -1 ∧ Zr r) ∨ (a.ok = true ∧ mo.ok = false ∧ f1 = 6 ∧ f2 = -2 ∧ Zr r) ∨ (a.ok = true ∧ mo.ok = true ∧ mo.val ≤ 0 ∧ f1 = 4 ∧ f2 = -2 ∧ Zr r) ∨
  (a.ok = true ∧ mo.ok = true ∧ 1 ≤ mo.val ∧ f1 = 0 ∧ f2 = 0 ∧ IRep r.num.neg r.num.xs (nearZ a.num.val a.den.val mo.val).1 ∧ IRep r.den.neg r.den.xs (nearZ a.num.val a.den.val mo.val).2)
theorem near_u (w : World) (B : Nat) (a : RV) (mo : IV) (H1 : a.at w B) (HM : mo.at w B) (hB : B ≤ w.heap.size) :
    Calls Tryz.prog 44 #[a.v, mo.v] w (GivesFR w (NrRes a mo)) := by
  cases oa : a.ok
  · exact (near_bad w B a mo.neg mo.A mo.n mo.c mo.xs H1 HM hB (-1) (rf1 oa)).mono fun _ _ g => gfr_rat g fun r I J => Or.inl ⟨oa, rfl, rfl, I, J⟩
  cases om : mo.ok
  · exact (near_form w B a mo.neg mo.A mo.n mo.c mo.xs H1 HM hB (rf0' oa) (Lib.hid om)).mono fun _ _ g => gfr_rat g fun r I J => Or.inr (Or.inl ⟨oa, om, rfl, rfl, I, J⟩)
  have IM := IV.irep om HM.lim
  obtain ⟨neg, A, n, c, xs⟩ := mo
  cases neg
  · by_cases h0 : n = 0
    · refine (near_zero w B a false A n c xs H1 HM hB (rf0' oa) (Lib.hid om) (decide_eq_true h0)).mono fun _ _ g => gfr_rat g fun r I J => Or.inr (Or.inr (Or.inl ⟨oa, om, ?_, rfl, rfl, I, J⟩))
      have h1 := (IRep.len0 IM).1 (by have h2 : xs.length = n := HM.len.out; show xs.length = 0; omega)
      omega
    · have h1 : ¬ (IV.mk false A n c xs).val = 0 := fun h => h0 (by have h2 := (IRep.len0 IM).2 h; have h3 : xs.length = n := HM.len.out; have h4 : xs.length = 0 := h2; omega)
      have h2 := IV.pos_ge (a := IV.mk false A n c xs) rfl
      have V := RV.val oa H1
      refine (nearest_any w B a A n c xs a.num.val a.den.val (IV.mk false A n c xs).val H1 HM hB (rf0' oa) (Lib.hid om) (decide_eq_false h0) (Lib.hid V.num) (Lib.hid V.den) (Lib.hid IM) (by have := V.pos; omega) (by omega) (Lib.hid ⟨V.bn, V.bd, ?_⟩)).mono fun _ _ g => gfr_rat g fun r I J => Or.inr (Or.inr (Or.inr ⟨oa, om, by omega, rfl, rfl, I, J⟩))
      have h3 := (IV.vld om).2
      show (IV.mk false A n c xs).val.natAbs < Top128
      rw [IV.abs]
      exact lt128 (⟨HM.lim, rfl, (vld_top (IV.vld om).1).1⟩ : Rep 4294967296 xs (vb 4294967296 xs)) rfl h3
  · refine (near_neg w B a true A n c xs H1 HM hB (rf0' oa) (Lib.hid om)).mono fun _ _ g => gfr_rat g fun r I J => Or.inr (Or.inr (Or.inl ⟨oa, om, ?_, rfl, rfl, I, J⟩))
    have := IV.neg_lt (a := IV.mk true A n c xs) om HM.lim rfl
    omega
end Go.Proofs.YtfgkhdpdjclmkaaGreat
