/- The program's Pow of ratios. -/
import Derived.Test.YtflmcgoijofpdaaGreatAo
import Derived.Test.YtflmcgoijofpdaaGreatARinv
import Derived.Test.YtflmcgoijofpdaaGreatAs
import Derived.Test.YtflmcgoijofpdaaGreatAPow4
namespace Go.Proofs.YtflmcgoijofpdaaGreat
open Go.RowKit
set_option maxHeartbeats 400000
set_option maxRecDepth 100000
set_option linter.unusedSimpArgs false
set_option linter.unusedVariables false

theorem ipow_any (w : World) (B : Nat) (a : IV) (z : Int) (HA : a.at w B) (hB : B ≤ w.heap.size) (oa : a.ok = true) (h0 : 0 ≤ z) (h1 : z ≤ 10000) :
    Calls Tryz.prog 71 #[a.v, .int .i64 z] w (GivesVL w (a.val ^ z.toNat)) := by
  obtain ⟨n, rfl⟩ := Int.eq_ofNat_of_zero_le h0
  rw [Int.toNat_natCast]
  cases hs : a.neg
  · exact ipow_false w B a n HA hB oa (Lib.hid hs) (by omega)
  · exact ipow_true w B a n HA hB oa (Lib.hid hs) (by omega)
theorem ipow_fit (w : World) (B : Nat) (a : IV) (z y : Int) (HA : a.at w B) (hB : B ≤ w.heap.size) (oa : a.ok = true) (h0 : 0 ≤ z) (h1 : z ≤ 10000) (hy : a.val = y) (ht : (y ^ z.toNat).natAbs < Top128) :
    Calls Tryz.prog 71 #[a.v, .int .i64 z] w (GivesVF w (y ^ z.toNat) 0 0) := by
  subst hy
  exact (ipow_any w B a z HA hB oa h0 h1).mono fun _ _ h => by rcases h with ⟨_, h⟩ | ⟨h, _⟩; exact h; omega
theorem ipow_big (w : World) (B : Nat) (a : IV) (z y : Int) (HA : a.at w B) (hB : B ≤ w.heap.size) (oa : a.ok = true) (h0 : 0 ≤ z) (h1 : z ≤ 10000) (hy : a.val = y) (ht : Top128 ≤ (y ^ z.toNat).natAbs) :
    Calls Tryz.prog 71 #[a.v, .int .i64 z] w (GivesVF w 0 14 (-1)) := by
  subst hy
  exact (ipow_any w B a z HA hB oa h0 h1).mono fun _ _ h => by rcases h with ⟨h, _⟩ | ⟨_, h⟩; omega; exact h
set_option maxHeartbeats 8000000 in
theorem rpow_bad (w : World) (B : Nat) (a : RV) (H1 : a.at w B) (hB : B ≤ w.heap.size) (z f2 : Int) (hf : rfault [a] 0 = (6, f2)) :
    Calls Tryz.prog 27 #[a.v, .int .i64 z] w (GivesRat w 0 0 6 f2) := by
  have bbase : Below w.heap.size w (((w.alloc (.cells #[.bool a.num.neg, .slice a.num.A a.num.n a.num.c, .bool a.den.neg, .slice a.den.A a.den.n a.den.c] 26)).alloc (.cells #[.bool false, .slice none 0 0, .bool false, .slice none 0 0] 26)).alloc (.cells #[.int .i64 0, .int .i64 0] 28)) := (((bl1 w _).alloc (by simp) _).alloc (by simp; omega) _)
  have HA : LRd w B a.num.A a.num.n a.num.c a.num.xs := H1.1
  have HC : LRd w B a.den.A a.den.n a.den.c a.den.xs := H1.2
  have E : Below w.heap.size w w := Below.refl _ _
  have RR := Lib.hid (rrow1 (((w.alloc (.cells #[.bool a.num.neg, .slice a.num.A a.num.n a.num.c, .bool a.den.neg, .slice a.den.A a.den.n a.den.c] 26)).alloc (.cells #[.bool false, .slice none 0 0, .bool false, .slice none 0 0] 26)).alloc (.cells #[.int .i64 0, .int .i64 0] 28)) B a (RV.at.below H1 bbase (by omega)) (by simp; omega))
  clear bbase
  go_enter Tryz.func27, Tryz.ntmps27
  go_wp2_with fail
  obtain ⟨V0, hV0⟩ : ∃ V0 : World, V0 = ((((w.alloc (.cells #[.bool a.num.neg, .slice a.num.A a.num.n a.num.c, .bool a.den.neg, .slice a.den.A a.den.n a.den.c] 26)).alloc (.cells #[.bool false, .slice none 0 0, .bool false, .slice none 0 0] 26)).alloc (.cells #[.int .i64 0, .int .i64 0] 28)).alloc (.cells #[.bool a.num.neg, .slice a.num.A a.num.n a.num.c, .bool a.den.neg, .slice a.den.A a.den.n a.den.c] 26)) := ⟨_, rfl⟩
  have bV0 : Below w.heap.size w V0 := by rw [hV0]; (repeat (first | with_reducible exact Below.refl _ _ | with_reducible refine Below.drew ?_ | with_reducible refine below_drewN ?_ _ | with_reducible refine Below.setCell ?_ (by first | (simp; done) | (simp; omega) | omega) _ | with_reducible refine Below.alloc ?_ (by first | (simp; done) | (simp; omega) | omega) _))
  have zV0 : w.heap.size + 4 ≤ V0.heap.size := by rw [hV0]; simp
  have PA : Bk4 V0 (w.heap.size) (.bool a.num.neg) (.slice a.num.A a.num.n a.num.c) (.bool a.den.neg) (.slice a.den.A a.den.n a.den.c) := by rw [hV0]; exact ((((Bk4.newAt _ _ (by first | omega | (simp; done) | (simp; omega)) _ _ _ _ _).alloc _).alloc _).alloc _)
  have PR : Bk4 V0 (w.heap.size + 1) (.bool false) (.slice none 0 0) (.bool false) (.slice none 0 0) := by rw [hV0]; exact (((Bk4.newAt _ _ (by first | omega | (simp; done) | (simp; omega)) _ _ _ _ _).alloc _).alloc _)
  have PF : Bk2 V0 (w.heap.size + 2) (.int .i64 0) (.int .i64 0) := by rw [hV0]; exact ((Bk2.newAt _ _ (by first | omega | (simp; done) | (simp; omega)) _ _ _).alloc _)
  replace RR : Hid (RRow V0 B (w.heap.size + 3) [a]) := by have h9 := RR.out; rw [hV0]; rw [show ((((w.alloc (.cells #[.bool a.num.neg, .slice a.num.A a.num.n a.num.c, .bool a.den.neg, .slice a.den.A a.den.n a.den.c] 26)).alloc (.cells #[.bool false, .slice none 0 0, .bool false, .slice none 0 0] 26)).alloc (.cells #[.int .i64 0, .int .i64 0] 28))).heap.size = w.heap.size + 3 by simp] at h9; exact h9
  rw [← hV0]
  clear hV0
  replace E := E.trans (bV0.mono E.size)
  replace HA := HA.below bV0 (by omega)
  replace HC := HC.below bV0 (by omega)
  clear bV0
  (with_reducible refine (rcheck_any _ B (w.heap.size + 3) 1 [a] RR.out rfl (by omega) (by omega)).mono ?_)
  rintro e w1 ⟨rfl, hb1⟩
  have sw1 := hb1.size
  replace E := E.trans (hb1.mono E.size)
  replace HA := HA.below hb1 (by omega)
  replace HC := HC.below hb1 (by omega)
  replace PA := PA.below hb1 PA.lt
  replace PR := PR.below hb1 PR.lt
  replace PF := PF.below hb1 PF.lt
  clear hb1
  rw [hf]
  clear RR
  go_upto_region 3 with fail
  obtain ⟨V1, hV1⟩ : ∃ V1 : World, V1 = (w1.alloc (.cells #[.int .i64 6, .int .i64 f2] 28)) := ⟨_, rfl⟩
  have bV1 : Below w1.heap.size w1 V1 := by rw [hV1]; (repeat (first | with_reducible exact Below.refl _ _ | with_reducible refine Below.drew ?_ | with_reducible refine below_drewN ?_ _ | with_reducible refine Below.setCell ?_ (by first | (simp; done) | (simp; omega) | omega) _ | with_reducible refine Below.alloc ?_ (by first | (simp; done) | (simp; omega) | omega) _))
  have zV1 : w1.heap.size + 1 ≤ V1.heap.size := by rw [hV1]; simp
  have F6 : Bk2 V1 (w1.heap.size) (.int .i64 6) (.int .i64 f2) := by rw [hV1]; exact (Bk2.newAt _ _ (by first | omega | (simp; done) | (simp; omega)) _ _ _)
  rw [← hV1]
  clear hV1
  replace E := E.trans (bV1.mono E.size)
  replace HA := HA.below bV1 (by omega)
  replace HC := HC.below bV1 (by omega)
  replace PA := PA.below bV1 PA.lt
  replace PR := PR.below bV1 PR.lt
  replace PF := PF.below bV1 PF.lt
  clear bV1
  have lt6 := F6.lt
  have ltR := PR.lt
  have ltF := PF.lt
  obtain ⟨_, _, _, _, _⟩ := F6
  obtain ⟨f0, f1, z0, z1, _⟩ := PF
  obtain ⟨r0, r1, r2, r3, y0, y1, y2, y3, _⟩ := PR
  go_region
  go_wp2_with fail
  refine bodyPost_ret (v := .tuple #[ratv false none 0 0 false none 0 0, flt 6 f2]) (by simp [results, Tryz.results27, go_sem, r0, r1, r2, r3, f0, f1]) rfl ⟨false, none, 0, 0, [], false, none, 0, 0, [], rfl, nil_lrd _, nil_lrd _, IRep.zero, IRep.zero, ?_⟩
  (repeat (first | with_reducible exact E | with_reducible refine Below.drew ?_ | with_reducible refine below_drewN ?_ _ | with_reducible refine Below.setCell ?_ (by first | (simp; done) | (simp; omega) | omega) _))
set_option maxHeartbeats 8000000 in
theorem rpow_lo (w : World) (B : Nat) (a : RV) (H1 : a.at w B) (hB : B ≤ w.heap.size) (z : Int) (oa : a.ok = true) (hz : z < -10000) :
    Calls Tryz.prog 27 #[a.v, .int .i64 z] w (GivesRat w 0 0 4 (-2)) := by
  have hf := rone_ok oa
  have VA := RV.val oa H1
  clear VA oa
  have k1 : decide (z < -10000) = true := decide_eq_true (by omega)
  have bbase : Below w.heap.size w (((w.alloc (.cells #[.bool a.num.neg, .slice a.num.A a.num.n a.num.c, .bool a.den.neg, .slice a.den.A a.den.n a.den.c] 26)).alloc (.cells #[.bool false, .slice none 0 0, .bool false, .slice none 0 0] 26)).alloc (.cells #[.int .i64 0, .int .i64 0] 28)) := (((bl1 w _).alloc (by simp) _).alloc (by simp; omega) _)
  have HA : LRd w B a.num.A a.num.n a.num.c a.num.xs := H1.1
  have HC : LRd w B a.den.A a.den.n a.den.c a.den.xs := H1.2
  have E : Below w.heap.size w w := Below.refl _ _
  have RR := Lib.hid (rrow1 (((w.alloc (.cells #[.bool a.num.neg, .slice a.num.A a.num.n a.num.c, .bool a.den.neg, .slice a.den.A a.den.n a.den.c] 26)).alloc (.cells #[.bool false, .slice none 0 0, .bool false, .slice none 0 0] 26)).alloc (.cells #[.int .i64 0, .int .i64 0] 28)) B a (RV.at.below H1 bbase (by omega)) (by simp; omega))
  clear bbase
  go_enter Tryz.func27, Tryz.ntmps27
  go_wp2_with fail
  obtain ⟨V0, hV0⟩ : ∃ V0 : World, V0 = ((((w.alloc (.cells #[.bool a.num.neg, .slice a.num.A a.num.n a.num.c, .bool a.den.neg, .slice a.den.A a.den.n a.den.c] 26)).alloc (.cells #[.bool false, .slice none 0 0, .bool false, .slice none 0 0] 26)).alloc (.cells #[.int .i64 0, .int .i64 0] 28)).alloc (.cells #[.bool a.num.neg, .slice a.num.A a.num.n a.num.c, .bool a.den.neg, .slice a.den.A a.den.n a.den.c] 26)) := ⟨_, rfl⟩
  have bV0 : Below w.heap.size w V0 := by rw [hV0]; (repeat (first | with_reducible exact Below.refl _ _ | with_reducible refine Below.drew ?_ | with_reducible refine below_drewN ?_ _ | with_reducible refine Below.setCell ?_ (by first | (simp; done) | (simp; omega) | omega) _ | with_reducible refine Below.alloc ?_ (by first | (simp; done) | (simp; omega) | omega) _))
  have zV0 : w.heap.size + 4 ≤ V0.heap.size := by rw [hV0]; simp
  have PA : Bk4 V0 (w.heap.size) (.bool a.num.neg) (.slice a.num.A a.num.n a.num.c) (.bool a.den.neg) (.slice a.den.A a.den.n a.den.c) := by rw [hV0]; exact ((((Bk4.newAt _ _ (by first | omega | (simp; done) | (simp; omega)) _ _ _ _ _).alloc _).alloc _).alloc _)
  have PR : Bk4 V0 (w.heap.size + 1) (.bool false) (.slice none 0 0) (.bool false) (.slice none 0 0) := by rw [hV0]; exact (((Bk4.newAt _ _ (by first | omega | (simp; done) | (simp; omega)) _ _ _ _ _).alloc _).alloc _)
  have PF : Bk2 V0 (w.heap.size + 2) (.int .i64 0) (.int .i64 0) := by rw [hV0]; exact ((Bk2.newAt _ _ (by first | omega | (simp; done) | (simp; omega)) _ _ _).alloc _)
  replace RR : Hid (RRow V0 B (w.heap.size + 3) [a]) := by have h9 := RR.out; rw [hV0]; rw [show ((((w.alloc (.cells #[.bool a.num.neg, .slice a.num.A a.num.n a.num.c, .bool a.den.neg, .slice a.den.A a.den.n a.den.c] 26)).alloc (.cells #[.bool false, .slice none 0 0, .bool false, .slice none 0 0] 26)).alloc (.cells #[.int .i64 0, .int .i64 0] 28))).heap.size = w.heap.size + 3 by simp] at h9; exact h9
  rw [← hV0]
  clear hV0
  replace E := E.trans (bV0.mono E.size)
  replace HA := HA.below bV0 (by omega)
  replace HC := HC.below bV0 (by omega)
  clear bV0
  (with_reducible refine (rcheck_any _ B (w.heap.size + 3) 1 [a] RR.out rfl (by omega) (by omega)).mono ?_)
  rintro e w1 ⟨rfl, hb1⟩
  have sw1 := hb1.size
  replace E := E.trans (hb1.mono E.size)
  replace HA := HA.below hb1 (by omega)
  replace HC := HC.below hb1 (by omega)
  replace PA := PA.below hb1 PA.lt
  replace PR := PR.below hb1 PR.lt
  replace PF := PF.below hb1 PF.lt
  clear hb1
  rw [hf]
  clear RR
  have t_PA0 : (w1.alloc (.cells #[.int .i64 0, .int .i64 0] 28)).cell? ⟨w.heap.size, 0, none⟩ = some ((.bool a.num.neg)) := (PA.alloc _).c0
  have t_PA1 : (w1.alloc (.cells #[.int .i64 0, .int .i64 0] 28)).cell? ⟨w.heap.size, 1, none⟩ = some ((.slice a.num.A a.num.n a.num.c)) := (PA.alloc _).c1
  have t_PA2 : (w1.alloc (.cells #[.int .i64 0, .int .i64 0] 28)).cell? ⟨w.heap.size, 2, none⟩ = some ((.bool a.den.neg)) := (PA.alloc _).c2
  have t_PA3 : (w1.alloc (.cells #[.int .i64 0, .int .i64 0] 28)).cell? ⟨w.heap.size, 3, none⟩ = some ((.slice a.den.A a.den.n a.den.c)) := (PA.alloc _).c3
  go_upto_region 4 with fail
  clear t_PA0 t_PA1 t_PA2 t_PA3
  obtain ⟨V1, hV1⟩ : ∃ V1 : World, V1 = (w1.alloc (.cells #[.int .i64 0, .int .i64 0] 28)) := ⟨_, rfl⟩
  have bV1 : Below w1.heap.size w1 V1 := by rw [hV1]; (repeat (first | with_reducible exact Below.refl _ _ | with_reducible refine Below.drew ?_ | with_reducible refine below_drewN ?_ _ | with_reducible refine Below.setCell ?_ (by first | (simp; done) | (simp; omega) | omega) _ | with_reducible refine Below.alloc ?_ (by first | (simp; done) | (simp; omega) | omega) _))
  have zV1 : w1.heap.size + 1 ≤ V1.heap.size := by rw [hV1]; simp
  have F6 : Bk2 V1 (w1.heap.size) (.int .i64 0) (.int .i64 0) := by rw [hV1]; exact (Bk2.newAt _ _ (by first | omega | (simp; done) | (simp; omega)) _ _ _)
  rw [← hV1]
  clear hV1
  replace E := E.trans (bV1.mono E.size)
  replace HA := HA.below bV1 (by omega)
  replace HC := HC.below bV1 (by omega)
  replace PA := PA.below bV1 PA.lt
  replace PR := PR.below bV1 PR.lt
  replace PF := PF.below bV1 PF.lt
  clear bV1
  clear F6
  have y_PR0 := PR.c0
  have z_PR0 := PR.z0
  have y_PR1 := PR.c1
  have z_PR1 := PR.z1
  have y_PR2 := PR.c2
  have z_PR2 := PR.z2
  have y_PR3 := PR.c3
  have z_PR3 := PR.z3
  have lt_PR := PR.lt
  have y_PF0 := PF.c0
  have z_PF0 := PF.z0
  have y_PF1 := PF.c1
  have z_PF1 := PF.z1
  have lt_PF := PF.lt
  go_wp2_with fail
  clear y_PR0 z_PR0 y_PR1 z_PR1 y_PR2 z_PR2 y_PR3 z_PR3 lt_PR y_PF0 z_PF0 y_PF1 z_PF1 lt_PF
  obtain ⟨U2PR, hU2PR⟩ : ∃ U2PR : World, U2PR = ((((V1.setCell ⟨w.heap.size + 1, 0, none⟩ (.bool false)).setCell ⟨w.heap.size + 1, 1, none⟩ (.slice none 0 0)).setCell ⟨w.heap.size + 1, 2, none⟩ (.bool false)).setCell ⟨w.heap.size + 1, 3, none⟩ (.slice none 0 0)) := ⟨_, rfl⟩
  have zU2PR : U2PR.heap.size = V1.heap.size := by rw [hU2PR]; simp [World.setCell]
  replace E : Below w.heap.size w U2PR := by rw [hU2PR]; exact ((((E.setCell (by first | (simp; done) | (simp; omega)) _).setCell (by first | (simp; done) | (simp; omega)) _).setCell (by first | (simp; done) | (simp; omega)) _).setCell (by first | (simp; done) | (simp; omega)) _)
  replace HA : LRd U2PR (B) a.num.A a.num.n a.num.c a.num.xs := by rw [hU2PR]; first | exact HA.set4 PR (by simp) (by simp) (by simp) (by simp) _ _ _ _ | exact HA.set4O (by omega) _ _ _ _
  replace HC : LRd U2PR (B) a.den.A a.den.n a.den.c a.den.xs := by rw [hU2PR]; first | exact HC.set4 PR (by simp) (by simp) (by simp) (by simp) _ _ _ _ | exact HC.set4O (by omega) _ _ _ _
  replace PA : Bk4 U2PR (w.heap.size) (.bool a.num.neg) (.slice a.num.A a.num.n a.num.c) (.bool a.den.neg) (.slice a.den.A a.den.n a.den.c) := by rw [hU2PR]; exact PA.far4 (by omega) _ _ _ _
  replace PF : Bk2 U2PR (w.heap.size + 2) (.int .i64 0) (.int .i64 0) := by rw [hU2PR]; exact PF.far4 (by omega) _ _ _ _
  replace PR : Bk4 U2PR (w.heap.size + 1) (.bool false) (.slice none 0 0) (.bool false) (.slice none 0 0) := by rw [hU2PR]; exact PR.set _ _ _ _
  rw [← hU2PR]
  clear hU2PR
  have zU2PR' := Nat.le_of_eq zU2PR
  replace zU2PR := Nat.le_of_eq zU2PR.symm
  obtain ⟨U2PF, hU2PF⟩ : ∃ U2PF : World, U2PF = ((U2PR.setCell ⟨w.heap.size + 2, 0, none⟩ (.int .i64 4)).setCell ⟨w.heap.size + 2, 1, none⟩ (.int .i64 (-2))) := ⟨_, rfl⟩
  have zU2PF : U2PF.heap.size = U2PR.heap.size := by rw [hU2PF]; simp [World.setCell]
  replace E : Below w.heap.size w U2PF := by rw [hU2PF]; exact ((E.setCell (by first | (simp; done) | (simp; omega)) _).setCell (by first | (simp; done) | (simp; omega)) _)
  replace HA : LRd U2PF (B) a.num.A a.num.n a.num.c a.num.xs := by rw [hU2PF]; first | exact HA.setB PF (by simp) (by simp) _ _ | exact HA.setFarL (by omega) _ _
  replace HC : LRd U2PF (B) a.den.A a.den.n a.den.c a.den.xs := by rw [hU2PF]; first | exact HC.setB PF (by simp) (by simp) _ _ | exact HC.setFarL (by omega) _ _
  replace PA : Bk4 U2PF (w.heap.size) (.bool a.num.neg) (.slice a.num.A a.num.n a.num.c) (.bool a.den.neg) (.slice a.den.A a.den.n a.den.c) := by rw [hU2PF]; exact PA.far2 (by omega) _ _
  replace PR : Bk4 U2PF (w.heap.size + 1) (.bool false) (.slice none 0 0) (.bool false) (.slice none 0 0) := by rw [hU2PF]; exact PR.far2 (by omega) _ _
  replace PF : Bk2 U2PF (w.heap.size + 2) (.int .i64 4) (.int .i64 (-2)) := by rw [hU2PF]; exact PF.set _ _
  rw [← hU2PF]
  clear hU2PF
  have zU2PF' := Nat.le_of_eq zU2PF
  replace zU2PF := Nat.le_of_eq zU2PF.symm
  obtain ⟨f0, f1, _, _, _⟩ := PF
  obtain ⟨r0, r1, r2, r3, _, _, _, _, _⟩ := PR
  refine bodyPost_ret (v := .tuple #[ratv false none 0 0 false none 0 0, flt 4 (-2)]) (by simp [results, Tryz.results27, go_sem, r0, r1, r2, r3, f0, f1]) rfl ⟨false, none, 0, 0, [], false, none, 0, 0, [], rfl, nil_lrd _, nil_lrd _, IRep.zero, IRep.zero, E⟩
set_option maxHeartbeats 8000000 in
theorem rpow_hi (w : World) (B : Nat) (a : RV) (H1 : a.at w B) (hB : B ≤ w.heap.size) (z : Int) (oa : a.ok = true) (hz : 10000 < z) :
    Calls Tryz.prog 27 #[a.v, .int .i64 z] w (GivesRat w 0 0 4 (-2)) := by
  have hf := rone_ok oa
  have VA := RV.val oa H1
  clear VA oa
  have k1 : decide (z < -10000) = false := decide_eq_false (by omega)
  have k2 : decide (10000 < z) = true := decide_eq_true (by omega)
  have bbase : Below w.heap.size w (((w.alloc (.cells #[.bool a.num.neg, .slice a.num.A a.num.n a.num.c, .bool a.den.neg, .slice a.den.A a.den.n a.den.c] 26)).alloc (.cells #[.bool false, .slice none 0 0, .bool false, .slice none 0 0] 26)).alloc (.cells #[.int .i64 0, .int .i64 0] 28)) := (((bl1 w _).alloc (by simp) _).alloc (by simp; omega) _)
  have HA : LRd w B a.num.A a.num.n a.num.c a.num.xs := H1.1
  have HC : LRd w B a.den.A a.den.n a.den.c a.den.xs := H1.2
  have E : Below w.heap.size w w := Below.refl _ _
  have RR := Lib.hid (rrow1 (((w.alloc (.cells #[.bool a.num.neg, .slice a.num.A a.num.n a.num.c, .bool a.den.neg, .slice a.den.A a.den.n a.den.c] 26)).alloc (.cells #[.bool false, .slice none 0 0, .bool false, .slice none 0 0] 26)).alloc (.cells #[.int .i64 0, .int .i64 0] 28)) B a (RV.at.below H1 bbase (by omega)) (by simp; omega))
  clear bbase
  go_enter Tryz.func27, Tryz.ntmps27
  go_wp2_with fail
  obtain ⟨V0, hV0⟩ : ∃ V0 : World, V0 = ((((w.alloc (.cells #[.bool a.num.neg, .slice a.num.A a.num.n a.num.c, .bool a.den.neg, .slice a.den.A a.den.n a.den.c] 26)).alloc (.cells #[.bool false, .slice none 0 0, .bool false, .slice none 0 0] 26)).alloc (.cells #[.int .i64 0, .int .i64 0] 28)).alloc (.cells #[.bool a.num.neg, .slice a.num.A a.num.n a.num.c, .bool a.den.neg, .slice a.den.A a.den.n a.den.c] 26)) := ⟨_, rfl⟩
  have bV0 : Below w.heap.size w V0 := by rw [hV0]; (repeat (first | with_reducible exact Below.refl _ _ | with_reducible refine Below.drew ?_ | with_reducible refine below_drewN ?_ _ | with_reducible refine Below.setCell ?_ (by first | (simp; done) | (simp; omega) | omega) _ | with_reducible refine Below.alloc ?_ (by first | (simp; done) | (simp; omega) | omega) _))
  have zV0 : w.heap.size + 4 ≤ V0.heap.size := by rw [hV0]; simp
  have PA : Bk4 V0 (w.heap.size) (.bool a.num.neg) (.slice a.num.A a.num.n a.num.c) (.bool a.den.neg) (.slice a.den.A a.den.n a.den.c) := by rw [hV0]; exact ((((Bk4.newAt _ _ (by first | omega | (simp; done) | (simp; omega)) _ _ _ _ _).alloc _).alloc _).alloc _)
  have PR : Bk4 V0 (w.heap.size + 1) (.bool false) (.slice none 0 0) (.bool false) (.slice none 0 0) := by rw [hV0]; exact (((Bk4.newAt _ _ (by first | omega | (simp; done) | (simp; omega)) _ _ _ _ _).alloc _).alloc _)
  have PF : Bk2 V0 (w.heap.size + 2) (.int .i64 0) (.int .i64 0) := by rw [hV0]; exact ((Bk2.newAt _ _ (by first | omega | (simp; done) | (simp; omega)) _ _ _).alloc _)
  replace RR : Hid (RRow V0 B (w.heap.size + 3) [a]) := by have h9 := RR.out; rw [hV0]; rw [show ((((w.alloc (.cells #[.bool a.num.neg, .slice a.num.A a.num.n a.num.c, .bool a.den.neg, .slice a.den.A a.den.n a.den.c] 26)).alloc (.cells #[.bool false, .slice none 0 0, .bool false, .slice none 0 0] 26)).alloc (.cells #[.int .i64 0, .int .i64 0] 28))).heap.size = w.heap.size + 3 by simp] at h9; exact h9
  rw [← hV0]
  clear hV0
  replace E := E.trans (bV0.mono E.size)
  replace HA := HA.below bV0 (by omega)
  replace HC := HC.below bV0 (by omega)
  clear bV0
  (with_reducible refine (rcheck_any _ B (w.heap.size + 3) 1 [a] RR.out rfl (by omega) (by omega)).mono ?_)
  rintro e w1 ⟨rfl, hb1⟩
  have sw1 := hb1.size
  replace E := E.trans (hb1.mono E.size)
  replace HA := HA.below hb1 (by omega)
  replace HC := HC.below hb1 (by omega)
  replace PA := PA.below hb1 PA.lt
  replace PR := PR.below hb1 PR.lt
  replace PF := PF.below hb1 PF.lt
  clear hb1
  rw [hf]
  clear RR
  have t_PA0 : (w1.alloc (.cells #[.int .i64 0, .int .i64 0] 28)).cell? ⟨w.heap.size, 0, none⟩ = some ((.bool a.num.neg)) := (PA.alloc _).c0
  have t_PA1 : (w1.alloc (.cells #[.int .i64 0, .int .i64 0] 28)).cell? ⟨w.heap.size, 1, none⟩ = some ((.slice a.num.A a.num.n a.num.c)) := (PA.alloc _).c1
  have t_PA2 : (w1.alloc (.cells #[.int .i64 0, .int .i64 0] 28)).cell? ⟨w.heap.size, 2, none⟩ = some ((.bool a.den.neg)) := (PA.alloc _).c2
  have t_PA3 : (w1.alloc (.cells #[.int .i64 0, .int .i64 0] 28)).cell? ⟨w.heap.size, 3, none⟩ = some ((.slice a.den.A a.den.n a.den.c)) := (PA.alloc _).c3
  go_upto_region 4 with fail
  clear t_PA0 t_PA1 t_PA2 t_PA3
  obtain ⟨V1, hV1⟩ : ∃ V1 : World, V1 = (w1.alloc (.cells #[.int .i64 0, .int .i64 0] 28)) := ⟨_, rfl⟩
  have bV1 : Below w1.heap.size w1 V1 := by rw [hV1]; (repeat (first | with_reducible exact Below.refl _ _ | with_reducible refine Below.drew ?_ | with_reducible refine below_drewN ?_ _ | with_reducible refine Below.setCell ?_ (by first | (simp; done) | (simp; omega) | omega) _ | with_reducible refine Below.alloc ?_ (by first | (simp; done) | (simp; omega) | omega) _))
  have zV1 : w1.heap.size + 1 ≤ V1.heap.size := by rw [hV1]; simp
  have F6 : Bk2 V1 (w1.heap.size) (.int .i64 0) (.int .i64 0) := by rw [hV1]; exact (Bk2.newAt _ _ (by first | omega | (simp; done) | (simp; omega)) _ _ _)
  rw [← hV1]
  clear hV1
  replace E := E.trans (bV1.mono E.size)
  replace HA := HA.below bV1 (by omega)
  replace HC := HC.below bV1 (by omega)
  replace PA := PA.below bV1 PA.lt
  replace PR := PR.below bV1 PR.lt
  replace PF := PF.below bV1 PF.lt
  clear bV1
  clear F6
  have y_PR0 := PR.c0
  have z_PR0 := PR.z0
  have y_PR1 := PR.c1
  have z_PR1 := PR.z1
  have y_PR2 := PR.c2
  have z_PR2 := PR.z2
  have y_PR3 := PR.c3
  have z_PR3 := PR.z3
  have lt_PR := PR.lt
  have y_PF0 := PF.c0
  have z_PF0 := PF.z0
  have y_PF1 := PF.c1
  have z_PF1 := PF.z1
  have lt_PF := PF.lt
  go_wp2_with fail
  clear y_PR0 z_PR0 y_PR1 z_PR1 y_PR2 z_PR2 y_PR3 z_PR3 lt_PR y_PF0 z_PF0 y_PF1 z_PF1 lt_PF
  obtain ⟨U2PR, hU2PR⟩ : ∃ U2PR : World, U2PR = ((((V1.setCell ⟨w.heap.size + 1, 0, none⟩ (.bool false)).setCell ⟨w.heap.size + 1, 1, none⟩ (.slice none 0 0)).setCell ⟨w.heap.size + 1, 2, none⟩ (.bool false)).setCell ⟨w.heap.size + 1, 3, none⟩ (.slice none 0 0)) := ⟨_, rfl⟩
  have zU2PR : U2PR.heap.size = V1.heap.size := by rw [hU2PR]; simp [World.setCell]
  replace E : Below w.heap.size w U2PR := by rw [hU2PR]; exact ((((E.setCell (by first | (simp; done) | (simp; omega)) _).setCell (by first | (simp; done) | (simp; omega)) _).setCell (by first | (simp; done) | (simp; omega)) _).setCell (by first | (simp; done) | (simp; omega)) _)
  replace HA : LRd U2PR (B) a.num.A a.num.n a.num.c a.num.xs := by rw [hU2PR]; first | exact HA.set4 PR (by simp) (by simp) (by simp) (by simp) _ _ _ _ | exact HA.set4O (by omega) _ _ _ _
  replace HC : LRd U2PR (B) a.den.A a.den.n a.den.c a.den.xs := by rw [hU2PR]; first | exact HC.set4 PR (by simp) (by simp) (by simp) (by simp) _ _ _ _ | exact HC.set4O (by omega) _ _ _ _
  replace PA : Bk4 U2PR (w.heap.size) (.bool a.num.neg) (.slice a.num.A a.num.n a.num.c) (.bool a.den.neg) (.slice a.den.A a.den.n a.den.c) := by rw [hU2PR]; exact PA.far4 (by omega) _ _ _ _
  replace PF : Bk2 U2PR (w.heap.size + 2) (.int .i64 0) (.int .i64 0) := by rw [hU2PR]; exact PF.far4 (by omega) _ _ _ _
  replace PR : Bk4 U2PR (w.heap.size + 1) (.bool false) (.slice none 0 0) (.bool false) (.slice none 0 0) := by rw [hU2PR]; exact PR.set _ _ _ _
  rw [← hU2PR]
  clear hU2PR
  have zU2PR' := Nat.le_of_eq zU2PR
  replace zU2PR := Nat.le_of_eq zU2PR.symm
  obtain ⟨U2PF, hU2PF⟩ : ∃ U2PF : World, U2PF = ((U2PR.setCell ⟨w.heap.size + 2, 0, none⟩ (.int .i64 4)).setCell ⟨w.heap.size + 2, 1, none⟩ (.int .i64 (-2))) := ⟨_, rfl⟩
  have zU2PF : U2PF.heap.size = U2PR.heap.size := by rw [hU2PF]; simp [World.setCell]
  replace E : Below w.heap.size w U2PF := by rw [hU2PF]; exact ((E.setCell (by first | (simp; done) | (simp; omega)) _).setCell (by first | (simp; done) | (simp; omega)) _)
  replace HA : LRd U2PF (B) a.num.A a.num.n a.num.c a.num.xs := by rw [hU2PF]; first | exact HA.setB PF (by simp) (by simp) _ _ | exact HA.setFarL (by omega) _ _
  replace HC : LRd U2PF (B) a.den.A a.den.n a.den.c a.den.xs := by rw [hU2PF]; first | exact HC.setB PF (by simp) (by simp) _ _ | exact HC.setFarL (by omega) _ _
  replace PA : Bk4 U2PF (w.heap.size) (.bool a.num.neg) (.slice a.num.A a.num.n a.num.c) (.bool a.den.neg) (.slice a.den.A a.den.n a.den.c) := by rw [hU2PF]; exact PA.far2 (by omega) _ _
  replace PR : Bk4 U2PF (w.heap.size + 1) (.bool false) (.slice none 0 0) (.bool false) (.slice none 0 0) := by rw [hU2PF]; exact PR.far2 (by omega) _ _
  replace PF : Bk2 U2PF (w.heap.size + 2) (.int .i64 4) (.int .i64 (-2)) := by rw [hU2PF]; exact PF.set _ _
  rw [← hU2PF]
  clear hU2PF
  have zU2PF' := Nat.le_of_eq zU2PF
  replace zU2PF := Nat.le_of_eq zU2PF.symm
  obtain ⟨f0, f1, _, _, _⟩ := PF
  obtain ⟨r0, r1, r2, r3, _, _, _, _, _⟩ := PR
  refine bodyPost_ret (v := .tuple #[ratv false none 0 0 false none 0 0, flt 4 (-2)]) (by simp [results, Tryz.results27, go_sem, r0, r1, r2, r3, f0, f1]) rfl ⟨false, none, 0, 0, [], false, none, 0, 0, [], rfl, nil_lrd _, nil_lrd _, IRep.zero, IRep.zero, E⟩
set_option maxHeartbeats 8000000 in
theorem rpow_nz (w : World) (B : Nat) (a : RV) (H1 : a.at w B) (hB : B ≤ w.heap.size) (z : Int) (oa : a.ok = true) (h0 : -10000 ≤ z) (h1 : z < 0) (hn : a.num.val = 0) :
    Calls Tryz.prog 27 #[a.v, .int .i64 z] w (GivesRat w 0 0 22 (-1)) := by
  have hf := rone_ok oa
  have VA := RV.val oa H1
  have hz9 : decide (a.num.n = 0) = true := by
    have h3 : a.num.xs.length = 0 := (IRep.len0 VA.num).2 hn
    have h4 := H1.1.len.out
    rw [decide_eq_true_eq]; omega
  clear VA oa hn
  have k1 : decide (z < -10000) = false := decide_eq_false (by omega)
  have k2 : decide (10000 < z) = false := decide_eq_false (by omega)
  have k3 : decide (z < 0) = true := decide_eq_true (by omega)
  have bbase : Below w.heap.size w (((w.alloc (.cells #[.bool a.num.neg, .slice a.num.A a.num.n a.num.c, .bool a.den.neg, .slice a.den.A a.den.n a.den.c] 26)).alloc (.cells #[.bool false, .slice none 0 0, .bool false, .slice none 0 0] 26)).alloc (.cells #[.int .i64 0, .int .i64 0] 28)) := (((bl1 w _).alloc (by simp) _).alloc (by simp; omega) _)
  have HA : LRd w B a.num.A a.num.n a.num.c a.num.xs := H1.1
  have HC : LRd w B a.den.A a.den.n a.den.c a.den.xs := H1.2
  have E : Below w.heap.size w w := Below.refl _ _
  have RR := Lib.hid (rrow1 (((w.alloc (.cells #[.bool a.num.neg, .slice a.num.A a.num.n a.num.c, .bool a.den.neg, .slice a.den.A a.den.n a.den.c] 26)).alloc (.cells #[.bool false, .slice none 0 0, .bool false, .slice none 0 0] 26)).alloc (.cells #[.int .i64 0, .int .i64 0] 28)) B a (RV.at.below H1 bbase (by omega)) (by simp; omega))
  clear bbase
  go_enter Tryz.func27, Tryz.ntmps27
  go_wp2_with fail
  obtain ⟨V0, hV0⟩ : ∃ V0 : World, V0 = ((((w.alloc (.cells #[.bool a.num.neg, .slice a.num.A a.num.n a.num.c, .bool a.den.neg, .slice a.den.A a.den.n a.den.c] 26)).alloc (.cells #[.bool false, .slice none 0 0, .bool false, .slice none 0 0] 26)).alloc (.cells #[.int .i64 0, .int .i64 0] 28)).alloc (.cells #[.bool a.num.neg, .slice a.num.A a.num.n a.num.c, .bool a.den.neg, .slice a.den.A a.den.n a.den.c] 26)) := ⟨_, rfl⟩
  have bV0 : Below w.heap.size w V0 := by rw [hV0]; (repeat (first | with_reducible exact Below.refl _ _ | with_reducible refine Below.drew ?_ | with_reducible refine below_drewN ?_ _ | with_reducible refine Below.setCell ?_ (by first | (simp; done) | (simp; omega) | omega) _ | with_reducible refine Below.alloc ?_ (by first | (simp; done) | (simp; omega) | omega) _))
  have zV0 : w.heap.size + 4 ≤ V0.heap.size := by rw [hV0]; simp
  have PA : Bk4 V0 (w.heap.size) (.bool a.num.neg) (.slice a.num.A a.num.n a.num.c) (.bool a.den.neg) (.slice a.den.A a.den.n a.den.c) := by rw [hV0]; exact ((((Bk4.newAt _ _ (by first | omega | (simp; done) | (simp; omega)) _ _ _ _ _).alloc _).alloc _).alloc _)
  have PR : Bk4 V0 (w.heap.size + 1) (.bool false) (.slice none 0 0) (.bool false) (.slice none 0 0) := by rw [hV0]; exact (((Bk4.newAt _ _ (by first | omega | (simp; done) | (simp; omega)) _ _ _ _ _).alloc _).alloc _)
  have PF : Bk2 V0 (w.heap.size + 2) (.int .i64 0) (.int .i64 0) := by rw [hV0]; exact ((Bk2.newAt _ _ (by first | omega | (simp; done) | (simp; omega)) _ _ _).alloc _)
  replace RR : Hid (RRow V0 B (w.heap.size + 3) [a]) := by have h9 := RR.out; rw [hV0]; rw [show ((((w.alloc (.cells #[.bool a.num.neg, .slice a.num.A a.num.n a.num.c, .bool a.den.neg, .slice a.den.A a.den.n a.den.c] 26)).alloc (.cells #[.bool false, .slice none 0 0, .bool false, .slice none 0 0] 26)).alloc (.cells #[.int .i64 0, .int .i64 0] 28))).heap.size = w.heap.size + 3 by simp] at h9; exact h9
  rw [← hV0]
  clear hV0
  replace E := E.trans (bV0.mono E.size)
  replace HA := HA.below bV0 (by omega)
  replace HC := HC.below bV0 (by omega)
  clear bV0
  (with_reducible refine (rcheck_any _ B (w.heap.size + 3) 1 [a] RR.out rfl (by omega) (by omega)).mono ?_)
  rintro e w1 ⟨rfl, hb1⟩
  have sw1 := hb1.size
  replace E := E.trans (hb1.mono E.size)
  replace HA := HA.below hb1 (by omega)
  replace HC := HC.below hb1 (by omega)
  replace PA := PA.below hb1 PA.lt
  replace PR := PR.below hb1 PR.lt
  replace PF := PF.below hb1 PF.lt
  clear hb1
  rw [hf]
  clear RR
  have t_PA0 : (w1.alloc (.cells #[.int .i64 0, .int .i64 0] 28)).cell? ⟨w.heap.size, 0, none⟩ = some ((.bool a.num.neg)) := (PA.alloc _).c0
  have t_PA1 : (w1.alloc (.cells #[.int .i64 0, .int .i64 0] 28)).cell? ⟨w.heap.size, 1, none⟩ = some ((.slice a.num.A a.num.n a.num.c)) := (PA.alloc _).c1
  have t_PA2 : (w1.alloc (.cells #[.int .i64 0, .int .i64 0] 28)).cell? ⟨w.heap.size, 2, none⟩ = some ((.bool a.den.neg)) := (PA.alloc _).c2
  have t_PA3 : (w1.alloc (.cells #[.int .i64 0, .int .i64 0] 28)).cell? ⟨w.heap.size, 3, none⟩ = some ((.slice a.den.A a.den.n a.den.c)) := (PA.alloc _).c3
  go_upto_region 4 with fail
  clear t_PA0 t_PA1 t_PA2 t_PA3
  obtain ⟨V1, hV1⟩ : ∃ V1 : World, V1 = (w1.alloc (.cells #[.int .i64 0, .int .i64 0] 28)) := ⟨_, rfl⟩
  have bV1 : Below w1.heap.size w1 V1 := by rw [hV1]; (repeat (first | with_reducible exact Below.refl _ _ | with_reducible refine Below.drew ?_ | with_reducible refine below_drewN ?_ _ | with_reducible refine Below.setCell ?_ (by first | (simp; done) | (simp; omega) | omega) _ | with_reducible refine Below.alloc ?_ (by first | (simp; done) | (simp; omega) | omega) _))
  have zV1 : w1.heap.size + 1 ≤ V1.heap.size := by rw [hV1]; simp
  have F6 : Bk2 V1 (w1.heap.size) (.int .i64 0) (.int .i64 0) := by rw [hV1]; exact (Bk2.newAt _ _ (by first | omega | (simp; done) | (simp; omega)) _ _ _)
  rw [← hV1]
  clear hV1
  replace E := E.trans (bV1.mono E.size)
  replace HA := HA.below bV1 (by omega)
  replace HC := HC.below bV1 (by omega)
  replace PA := PA.below bV1 PA.lt
  replace PR := PR.below bV1 PR.lt
  replace PF := PF.below bV1 PF.lt
  clear bV1
  clear F6
  have t_PA0 := PA.c0
  have t_PA1 := PA.c1
  have t_PA2 := PA.c2
  have t_PA3 := PA.c3
  go_wp2_with fail
  clear t_PA0 t_PA1 t_PA2 t_PA3
  (with_reducible refine (isZero_any _ a.num.neg a.num.A a.num.n a.num.c (by have := HA.cap; omega)).mono ?_)
  rintro e w2 ⟨rfl, hb2⟩
  have sw2 := hb2.size
  replace E := E.trans (hb2.mono E.size)
  replace HA := HA.below hb2 (by omega)
  replace HC := HC.below hb2 (by omega)
  replace PA := PA.below hb2 PA.lt
  replace PR := PR.below hb2 PR.lt
  replace PF := PF.below hb2 PF.lt
  clear hb2
  rw [hz9]
  clear hz9
  have y_PR0 := PR.c0
  have z_PR0 := PR.z0
  have y_PR1 := PR.c1
  have z_PR1 := PR.z1
  have y_PR2 := PR.c2
  have z_PR2 := PR.z2
  have y_PR3 := PR.c3
  have z_PR3 := PR.z3
  have lt_PR := PR.lt
  have y_PF0 := PF.c0
  have z_PF0 := PF.z0
  have y_PF1 := PF.c1
  have z_PF1 := PF.z1
  have lt_PF := PF.lt
  go_wp2_with fail
  clear y_PR0 z_PR0 y_PR1 z_PR1 y_PR2 z_PR2 y_PR3 z_PR3 lt_PR y_PF0 z_PF0 y_PF1 z_PF1 lt_PF
  obtain ⟨U3PR, hU3PR⟩ : ∃ U3PR : World, U3PR = ((((w2.setCell ⟨w.heap.size + 1, 0, none⟩ (.bool false)).setCell ⟨w.heap.size + 1, 1, none⟩ (.slice none 0 0)).setCell ⟨w.heap.size + 1, 2, none⟩ (.bool false)).setCell ⟨w.heap.size + 1, 3, none⟩ (.slice none 0 0)) := ⟨_, rfl⟩
  have zU3PR : U3PR.heap.size = w2.heap.size := by rw [hU3PR]; simp [World.setCell]
  replace E : Below w.heap.size w U3PR := by rw [hU3PR]; exact ((((E.setCell (by first | (simp; done) | (simp; omega)) _).setCell (by first | (simp; done) | (simp; omega)) _).setCell (by first | (simp; done) | (simp; omega)) _).setCell (by first | (simp; done) | (simp; omega)) _)
  replace HA : LRd U3PR (B) a.num.A a.num.n a.num.c a.num.xs := by rw [hU3PR]; first | exact HA.set4 PR (by simp) (by simp) (by simp) (by simp) _ _ _ _ | exact HA.set4O (by omega) _ _ _ _
  replace HC : LRd U3PR (B) a.den.A a.den.n a.den.c a.den.xs := by rw [hU3PR]; first | exact HC.set4 PR (by simp) (by simp) (by simp) (by simp) _ _ _ _ | exact HC.set4O (by omega) _ _ _ _
  replace PA : Bk4 U3PR (w.heap.size) (.bool a.num.neg) (.slice a.num.A a.num.n a.num.c) (.bool a.den.neg) (.slice a.den.A a.den.n a.den.c) := by rw [hU3PR]; exact PA.far4 (by omega) _ _ _ _
  replace PF : Bk2 U3PR (w.heap.size + 2) (.int .i64 0) (.int .i64 0) := by rw [hU3PR]; exact PF.far4 (by omega) _ _ _ _
  replace PR : Bk4 U3PR (w.heap.size + 1) (.bool false) (.slice none 0 0) (.bool false) (.slice none 0 0) := by rw [hU3PR]; exact PR.set _ _ _ _
  rw [← hU3PR]
  clear hU3PR
  have zU3PR' := Nat.le_of_eq zU3PR
  replace zU3PR := Nat.le_of_eq zU3PR.symm
  obtain ⟨U3PF, hU3PF⟩ : ∃ U3PF : World, U3PF = ((U3PR.setCell ⟨w.heap.size + 2, 0, none⟩ (.int .i64 22)).setCell ⟨w.heap.size + 2, 1, none⟩ (.int .i64 (-1))) := ⟨_, rfl⟩
  have zU3PF : U3PF.heap.size = U3PR.heap.size := by rw [hU3PF]; simp [World.setCell]
  replace E : Below w.heap.size w U3PF := by rw [hU3PF]; exact ((E.setCell (by first | (simp; done) | (simp; omega)) _).setCell (by first | (simp; done) | (simp; omega)) _)
  replace HA : LRd U3PF (B) a.num.A a.num.n a.num.c a.num.xs := by rw [hU3PF]; first | exact HA.setB PF (by simp) (by simp) _ _ | exact HA.setFarL (by omega) _ _
  replace HC : LRd U3PF (B) a.den.A a.den.n a.den.c a.den.xs := by rw [hU3PF]; first | exact HC.setB PF (by simp) (by simp) _ _ | exact HC.setFarL (by omega) _ _
  replace PA : Bk4 U3PF (w.heap.size) (.bool a.num.neg) (.slice a.num.A a.num.n a.num.c) (.bool a.den.neg) (.slice a.den.A a.den.n a.den.c) := by rw [hU3PF]; exact PA.far2 (by omega) _ _
  replace PR : Bk4 U3PF (w.heap.size + 1) (.bool false) (.slice none 0 0) (.bool false) (.slice none 0 0) := by rw [hU3PF]; exact PR.far2 (by omega) _ _
  replace PF : Bk2 U3PF (w.heap.size + 2) (.int .i64 22) (.int .i64 (-1)) := by rw [hU3PF]; exact PF.set _ _
  rw [← hU3PF]
  clear hU3PF
  have zU3PF' := Nat.le_of_eq zU3PF
  replace zU3PF := Nat.le_of_eq zU3PF.symm
  obtain ⟨f0, f1, _, _, _⟩ := PF
  obtain ⟨r0, r1, r2, r3, _, _, _, _, _⟩ := PR
  refine bodyPost_ret (v := .tuple #[ratv false none 0 0 false none 0 0, flt 22 (-1)]) (by simp [results, Tryz.results27, go_sem, r0, r1, r2, r3, f0, f1]) rfl ⟨false, none, 0, 0, [], false, none, 0, 0, [], rfl, nil_lrd _, nil_lrd _, IRep.zero, IRep.zero, E⟩
set_option maxHeartbeats 8000000 in
theorem rpow_nok (w : World) (B : Nat) (a : RV) (H1 : a.at w B) (hB : B ≤ w.heap.size) (z : Int) (oa : a.ok = true) (h0 : -10000 ≤ z) (h1 : z < 0) (hn : a.num.val ≠ 0) (t1 : ((sval a.num.neg a.den.val.natAbs) ^ (-z).toNat).natAbs < Top128) (t2 : ((sval false a.num.val.natAbs) ^ (-z).toNat).natAbs < Top128) :
    Calls Tryz.prog 27 #[a.v, .int .i64 z] w (GivesRat w ((sval a.num.neg a.den.val.natAbs) ^ (-z).toNat) ((sval false a.num.val.natAbs) ^ (-z).toNat) 0 0) := by
  have hf := rone_ok oa
  have VA := RV.val oa H1
  have hz9 : decide (a.num.n = 0) = false := by
    have h3 : a.num.xs.length ≠ 0 := fun h => hn ((IRep.len0 VA.num).1 h)
    have h4 := H1.1.len.out
    rw [decide_eq_false_iff_not]; omega
  have o1 := Lib.hid (show (sval a.num.neg a.den.val.natAbs).natAbs < Top128 by rw [sval_abs]; exact VA.bd)
  have o2 := Lib.hid (show (sval false a.num.val.natAbs).natAbs < Top128 by rw [sval_abs]; exact VA.bn)
  have n0 := Lib.hid hn
  have t1 := Lib.hid t1
  have t2 := Lib.hid t2
  have IN := Lib.hid VA.num
  have ID := Lib.hid VA.den
  have d0 := Lib.hid VA.pos
  have on := Lib.hid (RV.okn oa)
  have od := Lib.hid (RV.okd oa)
  clear hn
  clear VA oa
  have k1 : decide (z < -10000) = false := decide_eq_false (by omega)
  have k2 : decide (10000 < z) = false := decide_eq_false (by omega)
  have k3 : decide (z < 0) = true := decide_eq_true (by omega)
  have bbase : Below w.heap.size w (((w.alloc (.cells #[.bool a.num.neg, .slice a.num.A a.num.n a.num.c, .bool a.den.neg, .slice a.den.A a.den.n a.den.c] 26)).alloc (.cells #[.bool false, .slice none 0 0, .bool false, .slice none 0 0] 26)).alloc (.cells #[.int .i64 0, .int .i64 0] 28)) := (((bl1 w _).alloc (by simp) _).alloc (by simp; omega) _)
  have HA : LRd w B a.num.A a.num.n a.num.c a.num.xs := H1.1
  have HC : LRd w B a.den.A a.den.n a.den.c a.den.xs := H1.2
  have E : Below w.heap.size w w := Below.refl _ _
  have RR := Lib.hid (rrow1 (((w.alloc (.cells #[.bool a.num.neg, .slice a.num.A a.num.n a.num.c, .bool a.den.neg, .slice a.den.A a.den.n a.den.c] 26)).alloc (.cells #[.bool false, .slice none 0 0, .bool false, .slice none 0 0] 26)).alloc (.cells #[.int .i64 0, .int .i64 0] 28)) B a (RV.at.below H1 bbase (by omega)) (by simp; omega))
  clear bbase
  go_enter Tryz.func27, Tryz.ntmps27
  go_wp2_with fail
  obtain ⟨V0, hV0⟩ : ∃ V0 : World, V0 = ((((w.alloc (.cells #[.bool a.num.neg, .slice a.num.A a.num.n a.num.c, .bool a.den.neg, .slice a.den.A a.den.n a.den.c] 26)).alloc (.cells #[.bool false, .slice none 0 0, .bool false, .slice none 0 0] 26)).alloc (.cells #[.int .i64 0, .int .i64 0] 28)).alloc (.cells #[.bool a.num.neg, .slice a.num.A a.num.n a.num.c, .bool a.den.neg, .slice a.den.A a.den.n a.den.c] 26)) := ⟨_, rfl⟩
  have bV0 : Below w.heap.size w V0 := by rw [hV0]; (repeat (first | with_reducible exact Below.refl _ _ | with_reducible refine Below.drew ?_ | with_reducible refine below_drewN ?_ _ | with_reducible refine Below.setCell ?_ (by first | (simp; done) | (simp; omega) | omega) _ | with_reducible refine Below.alloc ?_ (by first | (simp; done) | (simp; omega) | omega) _))
  have zV0 : w.heap.size + 4 ≤ V0.heap.size := by rw [hV0]; simp
  have PA : Bk4 V0 (w.heap.size) (.bool a.num.neg) (.slice a.num.A a.num.n a.num.c) (.bool a.den.neg) (.slice a.den.A a.den.n a.den.c) := by rw [hV0]; exact ((((Bk4.newAt _ _ (by first | omega | (simp; done) | (simp; omega)) _ _ _ _ _).alloc _).alloc _).alloc _)
  have PR : Bk4 V0 (w.heap.size + 1) (.bool false) (.slice none 0 0) (.bool false) (.slice none 0 0) := by rw [hV0]; exact (((Bk4.newAt _ _ (by first | omega | (simp; done) | (simp; omega)) _ _ _ _ _).alloc _).alloc _)
  have PF : Bk2 V0 (w.heap.size + 2) (.int .i64 0) (.int .i64 0) := by rw [hV0]; exact ((Bk2.newAt _ _ (by first | omega | (simp; done) | (simp; omega)) _ _ _).alloc _)
  replace RR : Hid (RRow V0 B (w.heap.size + 3) [a]) := by have h9 := RR.out; rw [hV0]; rw [show ((((w.alloc (.cells #[.bool a.num.neg, .slice a.num.A a.num.n a.num.c, .bool a.den.neg, .slice a.den.A a.den.n a.den.c] 26)).alloc (.cells #[.bool false, .slice none 0 0, .bool false, .slice none 0 0] 26)).alloc (.cells #[.int .i64 0, .int .i64 0] 28))).heap.size = w.heap.size + 3 by simp] at h9; exact h9
  rw [← hV0]
  clear hV0
  replace E := E.trans (bV0.mono E.size)
  replace HA := HA.below bV0 (by omega)
  replace HC := HC.below bV0 (by omega)
  clear bV0
  (with_reducible refine (rcheck_any _ B (w.heap.size + 3) 1 [a] RR.out rfl (by omega) (by omega)).mono ?_)
  rintro e w1 ⟨rfl, hb1⟩
  have sw1 := hb1.size
  replace E := E.trans (hb1.mono E.size)
  replace HA := HA.below hb1 (by omega)
  replace HC := HC.below hb1 (by omega)
  replace PA := PA.below hb1 PA.lt
  replace PR := PR.below hb1 PR.lt
  replace PF := PF.below hb1 PF.lt
  clear hb1
  rw [hf]
  clear RR
  have t_PA0 : (w1.alloc (.cells #[.int .i64 0, .int .i64 0] 28)).cell? ⟨w.heap.size, 0, none⟩ = some ((.bool a.num.neg)) := (PA.alloc _).c0
  have t_PA1 : (w1.alloc (.cells #[.int .i64 0, .int .i64 0] 28)).cell? ⟨w.heap.size, 1, none⟩ = some ((.slice a.num.A a.num.n a.num.c)) := (PA.alloc _).c1
  have t_PA2 : (w1.alloc (.cells #[.int .i64 0, .int .i64 0] 28)).cell? ⟨w.heap.size, 2, none⟩ = some ((.bool a.den.neg)) := (PA.alloc _).c2
  have t_PA3 : (w1.alloc (.cells #[.int .i64 0, .int .i64 0] 28)).cell? ⟨w.heap.size, 3, none⟩ = some ((.slice a.den.A a.den.n a.den.c)) := (PA.alloc _).c3
  go_upto_region 4 with fail
  clear t_PA0 t_PA1 t_PA2 t_PA3
  obtain ⟨V1, hV1⟩ : ∃ V1 : World, V1 = (w1.alloc (.cells #[.int .i64 0, .int .i64 0] 28)) := ⟨_, rfl⟩
  have bV1 : Below w1.heap.size w1 V1 := by rw [hV1]; (repeat (first | with_reducible exact Below.refl _ _ | with_reducible refine Below.drew ?_ | with_reducible refine below_drewN ?_ _ | with_reducible refine Below.setCell ?_ (by first | (simp; done) | (simp; omega) | omega) _ | with_reducible refine Below.alloc ?_ (by first | (simp; done) | (simp; omega) | omega) _))
  have zV1 : w1.heap.size + 1 ≤ V1.heap.size := by rw [hV1]; simp
  have F6 : Bk2 V1 (w1.heap.size) (.int .i64 0) (.int .i64 0) := by rw [hV1]; exact (Bk2.newAt _ _ (by first | omega | (simp; done) | (simp; omega)) _ _ _)
  rw [← hV1]
  clear hV1
  replace E := E.trans (bV1.mono E.size)
  replace HA := HA.below bV1 (by omega)
  replace HC := HC.below bV1 (by omega)
  replace PA := PA.below bV1 PA.lt
  replace PR := PR.below bV1 PR.lt
  replace PF := PF.below bV1 PF.lt
  clear bV1
  clear F6
  have t_PA0 := PA.c0
  have t_PA1 := PA.c1
  have t_PA2 := PA.c2
  have t_PA3 := PA.c3
  go_wp2_with fail
  clear t_PA0 t_PA1 t_PA2 t_PA3
  (with_reducible refine (isZero_any _ a.num.neg a.num.A a.num.n a.num.c (by have := HA.cap; omega)).mono ?_)
  rintro e w2 ⟨rfl, hb2⟩
  have sw2 := hb2.size
  replace E := E.trans (hb2.mono E.size)
  replace HA := HA.below hb2 (by omega)
  replace HC := HC.below hb2 (by omega)
  replace PA := PA.below hb2 PA.lt
  replace PR := PR.below hb2 PR.lt
  replace PF := PF.below hb2 PF.lt
  clear hb2
  rw [hz9]
  clear hz9
  have t_PA0 := PA.c0
  have t_PA1 := PA.c1
  have t_PA2 := PA.c2
  have t_PA3 := PA.c3
  go_wp2_with fail
  clear t_PA0 t_PA1 t_PA2 t_PA3
  (with_reducible refine (rinv_any _ B a a.num.val a.den.val (rv_at HA HC) (by omega) IN.out ID.out n0.out d0.out).mono ?_)
  rintro e w3 ⟨m, A, k, c, xs, m', D, l, d, ys, rfl, hq1, hq2, hr1, hr2, hb3⟩
  have sw3 := hb3.size
  replace E := E.trans (hb3.mono E.size)
  replace HA := HA.below hb3 (by omega)
  replace HC := HC.below hb3 (by omega)
  replace PA := PA.below hb3 PA.lt
  replace PR := PR.below hb3 PR.lt
  replace PF := PF.below hb3 PF.lt
  clear hb3
  have J1 := Lib.hid hr1
  have J2 := Lib.hid hr2
  clear hr1 hr2
  have y_PA0 := PA.c0
  have z_PA0 := PA.z0
  have y_PA1 := PA.c1
  have z_PA1 := PA.z1
  have y_PA2 := PA.c2
  have z_PA2 := PA.z2
  have y_PA3 := PA.c3
  have z_PA3 := PA.z3
  have lt_PA := PA.lt
  go_wp2_with fail
  clear y_PA0 z_PA0 y_PA1 z_PA1 y_PA2 z_PA2 y_PA3 z_PA3 lt_PA
  obtain ⟨U4PA, hU4PA⟩ : ∃ U4PA : World, U4PA = ((((w3.setCell ⟨w.heap.size, 0, none⟩ (.bool m)).setCell ⟨w.heap.size, 1, none⟩ (.slice A k c)).setCell ⟨w.heap.size, 2, none⟩ (.bool m')).setCell ⟨w.heap.size, 3, none⟩ (.slice D l d)) := ⟨_, rfl⟩
  have zU4PA : U4PA.heap.size = w3.heap.size := by rw [hU4PA]; simp [World.setCell]
  replace E : Below w.heap.size w U4PA := by rw [hU4PA]; exact ((((E.setCell (by first | (simp; done) | (simp; omega)) _).setCell (by first | (simp; done) | (simp; omega)) _).setCell (by first | (simp; done) | (simp; omega)) _).setCell (by first | (simp; done) | (simp; omega)) _)
  replace HA : LRd U4PA (B) a.num.A a.num.n a.num.c a.num.xs := by rw [hU4PA]; first | exact HA.set4 PA (by simp) (by simp) (by simp) (by simp) _ _ _ _ | exact HA.set4O (by omega) _ _ _ _
  replace HC : LRd U4PA (B) a.den.A a.den.n a.den.c a.den.xs := by rw [hU4PA]; first | exact HC.set4 PA (by simp) (by simp) (by simp) (by simp) _ _ _ _ | exact HC.set4O (by omega) _ _ _ _
  replace PR : Bk4 U4PA (w.heap.size + 1) (.bool false) (.slice none 0 0) (.bool false) (.slice none 0 0) := by rw [hU4PA]; exact PR.far4 (by omega) _ _ _ _
  replace PF : Bk2 U4PA (w.heap.size + 2) (.int .i64 0) (.int .i64 0) := by rw [hU4PA]; exact PF.far4 (by omega) _ _ _ _
  replace hq1 : LRd U4PA (w3.heap.size) A k c xs := by rw [hU4PA]; first | exact hq1.set4 PA (by simp) (by simp) (by simp) (by simp) _ _ _ _ | exact hq1.set4O (by omega) _ _ _ _
  replace hq2 : LRd U4PA (w3.heap.size) D l d ys := by rw [hU4PA]; first | exact hq2.set4 PA (by simp) (by simp) (by simp) (by simp) _ _ _ _ | exact hq2.set4O (by omega) _ _ _ _
  replace PA : Bk4 U4PA (w.heap.size) (.bool m) (.slice A k c) (.bool m') (.slice D l d) := by rw [hU4PA]; exact PA.set _ _ _ _
  rw [← hU4PA]
  clear hU4PA
  have zU4PA' := Nat.le_of_eq zU4PA
  replace zU4PA := Nat.le_of_eq zU4PA.symm
  have EZ := Lib.hid (show True from trivial)
  have t_PA0 := PA.c0
  have t_PA1 := PA.c1
  have t_PA2 := PA.c2
  have t_PA3 := PA.c3
  go_wp2_with fail
  clear t_PA0 t_PA1 t_PA2 t_PA3
  (with_reducible refine (ipow_fit _ (w3.heap.size) (IV.mk m A k c xs) (-z) (sval a.num.neg a.den.val.natAbs) (iv_at hq1) (by omega) (irep_ok J1.out o1.out) (by omega) (by omega) (IRep.ival J1.out) t1.out).mono ?_)
  rintro e w5 ⟨m5, A5, k5, c5, x5, rfl, hl5, hr5, hb5⟩
  have sw5 := hb5.size
  replace E := E.trans (hb5.mono E.size)
  replace HA := HA.below hb5 (by omega)
  replace HC := HC.below hb5 (by omega)
  replace PA := PA.below hb5 PA.lt
  replace PR := PR.below hb5 PR.lt
  replace PF := PF.below hb5 PF.lt
  replace hq1 := hq1.below hb5 (by omega)
  replace hq2 := hq2.below hb5 (by omega)
  clear hb5
  have R5 := Lib.hid hr5
  clear hr5
  have t_PA0 : ((w5.alloc (.cells #[.bool m5, .slice A5 k5 c5] 24)).alloc (.cells #[.int .i64 0, .int .i64 0] 28)).cell? ⟨w.heap.size, 0, none⟩ = some ((.bool m)) := ((PA.alloc _).alloc _).c0
  have t_PA1 : ((w5.alloc (.cells #[.bool m5, .slice A5 k5 c5] 24)).alloc (.cells #[.int .i64 0, .int .i64 0] 28)).cell? ⟨w.heap.size, 1, none⟩ = some ((.slice A k c)) := ((PA.alloc _).alloc _).c1
  have t_PA2 : ((w5.alloc (.cells #[.bool m5, .slice A5 k5 c5] 24)).alloc (.cells #[.int .i64 0, .int .i64 0] 28)).cell? ⟨w.heap.size, 2, none⟩ = some ((.bool m')) := ((PA.alloc _).alloc _).c2
  have t_PA3 : ((w5.alloc (.cells #[.bool m5, .slice A5 k5 c5] 24)).alloc (.cells #[.int .i64 0, .int .i64 0] 28)).cell? ⟨w.heap.size, 3, none⟩ = some ((.slice D l d)) := ((PA.alloc _).alloc _).c3
  go_wp2_with fail
  clear t_PA0 t_PA1 t_PA2 t_PA3
  obtain ⟨V6, hV6⟩ : ∃ V6 : World, V6 = ((w5.alloc (.cells #[.bool m5, .slice A5 k5 c5] 24)).alloc (.cells #[.int .i64 0, .int .i64 0] 28)) := ⟨_, rfl⟩
  have bV6 : Below w5.heap.size w5 V6 := by rw [hV6]; (repeat (first | with_reducible exact Below.refl _ _ | with_reducible refine Below.drew ?_ | with_reducible refine below_drewN ?_ _ | with_reducible refine Below.setCell ?_ (by first | (simp; done) | (simp; omega) | omega) _ | with_reducible refine Below.alloc ?_ (by first | (simp; done) | (simp; omega) | omega) _))
  have zV6 : w5.heap.size + 2 ≤ V6.heap.size := by rw [hV6]; simp
  have G6 : Bk2 V6 (w5.heap.size) (.bool m5) (.slice A5 k5 c5) := by rw [hV6]; exact ((Bk2.newAt _ _ (by first | omega | (simp; done) | (simp; omega)) _ _ _).alloc _)
  have G7 : Bk2 V6 (w5.heap.size + 1) (.int .i64 0) (.int .i64 0) := by rw [hV6]; exact (Bk2.newAt _ _ (by first | omega | (simp; done) | (simp; omega)) _ _ _)
  rw [← hV6]
  clear hV6
  replace E := E.trans (bV6.mono E.size)
  replace HA := HA.below bV6 (by omega)
  replace HC := HC.below bV6 (by omega)
  replace PA := PA.below bV6 PA.lt
  replace PR := PR.below bV6 PR.lt
  replace PF := PF.below bV6 PF.lt
  replace hq1 := hq1.below bV6 (by omega)
  replace hq2 := hq2.below bV6 (by omega)
  replace hl5 := hl5.below bV6 (by omega)
  clear bV6
  (with_reducible refine (ipow_fit _ (w3.heap.size) (IV.mk m' D l d ys) (-z) (sval false a.num.val.natAbs) (iv_at hq2) (by omega) (irep_ok J2.out o2.out) (by omega) (by omega) (IRep.ival J2.out) t2.out).mono ?_)
  rintro e w6 ⟨m6, A6, k6, c6, x6, rfl, hl6, hr6, hb6⟩
  have sw6 := hb6.size
  replace E := E.trans (hb6.mono E.size)
  replace HA := HA.below hb6 (by omega)
  replace HC := HC.below hb6 (by omega)
  replace PA := PA.below hb6 PA.lt
  replace PR := PR.below hb6 PR.lt
  replace PF := PF.below hb6 PF.lt
  replace hq1 := hq1.below hb6 (by omega)
  replace hq2 := hq2.below hb6 (by omega)
  replace hl5 := hl5.below hb6 (by omega)
  replace G6 := G6.below hb6 G6.lt
  replace G7 := G7.below hb6 G7.lt
  clear hb6
  have R6 := Lib.hid hr6
  clear hr6
  have y_G70 := G7.c0
  have z_G70 := G7.z0
  have y_G71 := G7.c1
  have z_G71 := G7.z1
  have lt_G7 := G7.lt
  have y_PR0 := PR.c0
  have z_PR0 := PR.z0
  have y_PR1 := PR.c1
  have z_PR1 := PR.z1
  have y_PR2 := PR.c2
  have z_PR2 := PR.z2
  have y_PR3 := PR.c3
  have z_PR3 := PR.z3
  have lt_PR := PR.lt
  have y_PF0 := PF.c0
  have z_PF0 := PF.z0
  have y_PF1 := PF.c1
  have z_PF1 := PF.z1
  have lt_PF := PF.lt
  have t_G60 := G6.c0
  have t_G61 := G6.c1
  have lt_G6 := G6.lt
  go_wp2_with fail
  clear y_G70 z_G70 y_G71 z_G71 lt_G7 y_PR0 z_PR0 y_PR1 z_PR1 y_PR2 z_PR2 y_PR3 z_PR3 lt_PR y_PF0 z_PF0 y_PF1 z_PF1 lt_PF t_G60 t_G61 lt_G6
  obtain ⟨U7G7, hU7G7⟩ : ∃ U7G7 : World, U7G7 = ((w6.setCell ⟨w5.heap.size + 1, 0, none⟩ (.int .i64 0)).setCell ⟨w5.heap.size + 1, 1, none⟩ (.int .i64 0)) := ⟨_, rfl⟩
  have zU7G7 : U7G7.heap.size = w6.heap.size := by rw [hU7G7]; simp [World.setCell]
  replace E : Below w.heap.size w U7G7 := by rw [hU7G7]; exact ((E.setCell (by first | (simp; done) | (simp; omega)) _).setCell (by first | (simp; done) | (simp; omega)) _)
  replace HA : LRd U7G7 (B) a.num.A a.num.n a.num.c a.num.xs := by rw [hU7G7]; first | exact HA.setB G7 (by simp) (by simp) _ _ | exact HA.setFarL (by omega) _ _
  replace HC : LRd U7G7 (B) a.den.A a.den.n a.den.c a.den.xs := by rw [hU7G7]; first | exact HC.setB G7 (by simp) (by simp) _ _ | exact HC.setFarL (by omega) _ _
  replace PA : Bk4 U7G7 (w.heap.size) (.bool m) (.slice A k c) (.bool m') (.slice D l d) := by rw [hU7G7]; exact PA.far2 (by omega) _ _
  replace PR : Bk4 U7G7 (w.heap.size + 1) (.bool false) (.slice none 0 0) (.bool false) (.slice none 0 0) := by rw [hU7G7]; exact PR.far2 (by omega) _ _
  replace PF : Bk2 U7G7 (w.heap.size + 2) (.int .i64 0) (.int .i64 0) := by rw [hU7G7]; exact PF.far2 (by omega) _ _
  replace hq1 : LRd U7G7 (w3.heap.size) A k c xs := by rw [hU7G7]; first | exact hq1.setB G7 (by simp) (by simp) _ _ | exact hq1.setFarL (by omega) _ _
  replace hq2 : LRd U7G7 (w3.heap.size) D l d ys := by rw [hU7G7]; first | exact hq2.setB G7 (by simp) (by simp) _ _ | exact hq2.setFarL (by omega) _ _
  replace hl5 : LRd U7G7 (w5.heap.size) A5 k5 c5 x5 := by rw [hU7G7]; first | exact hl5.setB G7 (by simp) (by simp) _ _ | exact hl5.setFarL (by omega) _ _
  replace G6 : Bk2 U7G7 (w5.heap.size) (.bool m5) (.slice A5 k5 c5) := by rw [hU7G7]; exact G6.far2 (by omega) _ _
  replace hl6 : LRd U7G7 (w6.heap.size) A6 k6 c6 x6 := by rw [hU7G7]; first | exact hl6.setB G7 (by simp) (by simp) _ _ | exact hl6.setFarL (by omega) _ _
  replace G7 : Bk2 U7G7 (w5.heap.size + 1) (.int .i64 0) (.int .i64 0) := by rw [hU7G7]; exact G7.set _ _
  rw [← hU7G7]
  clear hU7G7
  have zU7G7' := Nat.le_of_eq zU7G7
  replace zU7G7 := Nat.le_of_eq zU7G7.symm
  obtain ⟨U7PR, hU7PR⟩ : ∃ U7PR : World, U7PR = ((((U7G7.setCell ⟨w.heap.size + 1, 0, none⟩ (.bool m5)).setCell ⟨w.heap.size + 1, 1, none⟩ (.slice A5 k5 c5)).setCell ⟨w.heap.size + 1, 2, none⟩ (.bool m6)).setCell ⟨w.heap.size + 1, 3, none⟩ (.slice A6 k6 c6)) := ⟨_, rfl⟩
  have zU7PR : U7PR.heap.size = U7G7.heap.size := by rw [hU7PR]; simp [World.setCell]
  replace E : Below w.heap.size w U7PR := by rw [hU7PR]; exact ((((E.setCell (by first | (simp; done) | (simp; omega)) _).setCell (by first | (simp; done) | (simp; omega)) _).setCell (by first | (simp; done) | (simp; omega)) _).setCell (by first | (simp; done) | (simp; omega)) _)
  replace HA : LRd U7PR (B) a.num.A a.num.n a.num.c a.num.xs := by rw [hU7PR]; first | exact HA.set4 PR (by simp) (by simp) (by simp) (by simp) _ _ _ _ | exact HA.set4O (by omega) _ _ _ _
  replace HC : LRd U7PR (B) a.den.A a.den.n a.den.c a.den.xs := by rw [hU7PR]; first | exact HC.set4 PR (by simp) (by simp) (by simp) (by simp) _ _ _ _ | exact HC.set4O (by omega) _ _ _ _
  replace PA : Bk4 U7PR (w.heap.size) (.bool m) (.slice A k c) (.bool m') (.slice D l d) := by rw [hU7PR]; exact PA.far4 (by omega) _ _ _ _
  replace PF : Bk2 U7PR (w.heap.size + 2) (.int .i64 0) (.int .i64 0) := by rw [hU7PR]; exact PF.far4 (by omega) _ _ _ _
  replace hq1 : LRd U7PR (w3.heap.size) A k c xs := by rw [hU7PR]; first | exact hq1.set4 PR (by simp) (by simp) (by simp) (by simp) _ _ _ _ | exact hq1.set4O (by omega) _ _ _ _
  replace hq2 : LRd U7PR (w3.heap.size) D l d ys := by rw [hU7PR]; first | exact hq2.set4 PR (by simp) (by simp) (by simp) (by simp) _ _ _ _ | exact hq2.set4O (by omega) _ _ _ _
  replace hl5 : LRd U7PR (w5.heap.size) A5 k5 c5 x5 := by rw [hU7PR]; first | exact hl5.set4 PR (by simp) (by simp) (by simp) (by simp) _ _ _ _ | exact hl5.set4O (by omega) _ _ _ _
  replace G6 : Bk2 U7PR (w5.heap.size) (.bool m5) (.slice A5 k5 c5) := by rw [hU7PR]; exact G6.far4 (by omega) _ _ _ _
  replace G7 : Bk2 U7PR (w5.heap.size + 1) (.int .i64 0) (.int .i64 0) := by rw [hU7PR]; exact G7.far4 (by omega) _ _ _ _
  replace hl6 : LRd U7PR (w6.heap.size) A6 k6 c6 x6 := by rw [hU7PR]; first | exact hl6.set4 PR (by simp) (by simp) (by simp) (by simp) _ _ _ _ | exact hl6.set4O (by omega) _ _ _ _
  replace PR : Bk4 U7PR (w.heap.size + 1) (.bool m5) (.slice A5 k5 c5) (.bool m6) (.slice A6 k6 c6) := by rw [hU7PR]; exact PR.set _ _ _ _
  rw [← hU7PR]
  clear hU7PR
  have zU7PR' := Nat.le_of_eq zU7PR
  replace zU7PR := Nat.le_of_eq zU7PR.symm
  obtain ⟨U7PF, hU7PF⟩ : ∃ U7PF : World, U7PF = ((U7PR.setCell ⟨w.heap.size + 2, 0, none⟩ (.int .i64 0)).setCell ⟨w.heap.size + 2, 1, none⟩ (.int .i64 0)) := ⟨_, rfl⟩
  have zU7PF : U7PF.heap.size = U7PR.heap.size := by rw [hU7PF]; simp [World.setCell]
  replace E : Below w.heap.size w U7PF := by rw [hU7PF]; exact ((E.setCell (by first | (simp; done) | (simp; omega)) _).setCell (by first | (simp; done) | (simp; omega)) _)
  replace HA : LRd U7PF (B) a.num.A a.num.n a.num.c a.num.xs := by rw [hU7PF]; first | exact HA.setB PF (by simp) (by simp) _ _ | exact HA.setFarL (by omega) _ _
  replace HC : LRd U7PF (B) a.den.A a.den.n a.den.c a.den.xs := by rw [hU7PF]; first | exact HC.setB PF (by simp) (by simp) _ _ | exact HC.setFarL (by omega) _ _
  replace PA : Bk4 U7PF (w.heap.size) (.bool m) (.slice A k c) (.bool m') (.slice D l d) := by rw [hU7PF]; exact PA.far2 (by omega) _ _
  replace PR : Bk4 U7PF (w.heap.size + 1) (.bool m5) (.slice A5 k5 c5) (.bool m6) (.slice A6 k6 c6) := by rw [hU7PF]; exact PR.far2 (by omega) _ _
  replace hq1 : LRd U7PF (w3.heap.size) A k c xs := by rw [hU7PF]; first | exact hq1.setB PF (by simp) (by simp) _ _ | exact hq1.setFarL (by omega) _ _
  replace hq2 : LRd U7PF (w3.heap.size) D l d ys := by rw [hU7PF]; first | exact hq2.setB PF (by simp) (by simp) _ _ | exact hq2.setFarL (by omega) _ _
  replace hl5 : LRd U7PF (w5.heap.size) A5 k5 c5 x5 := by rw [hU7PF]; first | exact hl5.setB PF (by simp) (by simp) _ _ | exact hl5.setFarL (by omega) _ _
  replace G6 : Bk2 U7PF (w5.heap.size) (.bool m5) (.slice A5 k5 c5) := by rw [hU7PF]; exact G6.far2 (by omega) _ _
  replace G7 : Bk2 U7PF (w5.heap.size + 1) (.int .i64 0) (.int .i64 0) := by rw [hU7PF]; exact G7.far2 (by omega) _ _
  replace hl6 : LRd U7PF (w6.heap.size) A6 k6 c6 x6 := by rw [hU7PF]; first | exact hl6.setB PF (by simp) (by simp) _ _ | exact hl6.setFarL (by omega) _ _
  replace PF : Bk2 U7PF (w.heap.size + 2) (.int .i64 0) (.int .i64 0) := by rw [hU7PF]; exact PF.set _ _
  rw [← hU7PF]
  clear hU7PF
  have zU7PF' := Nat.le_of_eq zU7PF
  replace zU7PF := Nat.le_of_eq zU7PF.symm
  obtain ⟨V7, hV7⟩ : ∃ V7 : World, V7 = (U7PF.alloc (.cells #[.bool m6, .slice A6 k6 c6] 24)) := ⟨_, rfl⟩
  have bV7 : Below U7PF.heap.size U7PF V7 := by rw [hV7]; (repeat (first | with_reducible exact Below.refl _ _ | with_reducible refine Below.drew ?_ | with_reducible refine below_drewN ?_ _ | with_reducible refine Below.setCell ?_ (by first | (simp; done) | (simp; omega) | omega) _ | with_reducible refine Below.alloc ?_ (by first | (simp; done) | (simp; omega) | omega) _))
  have zV7 : U7PF.heap.size + 1 ≤ V7.heap.size := by rw [hV7]; simp
  have G8 : Bk2 V7 (w6.heap.size) (.bool m6) (.slice A6 k6 c6) := by rw [hV7]; exact (Bk2.newAt _ _ (by first | omega | (simp; done) | (simp; omega)) _ _ _)
  rw [← hV7]
  clear hV7
  replace E := E.trans (bV7.mono E.size)
  replace HA := HA.below bV7 (by omega)
  replace HC := HC.below bV7 (by omega)
  replace PA := PA.below bV7 PA.lt
  replace PR := PR.below bV7 PR.lt
  replace PF := PF.below bV7 PF.lt
  replace hq1 := hq1.below bV7 (by omega)
  replace hq2 := hq2.below bV7 (by omega)
  replace hl5 := hl5.below bV7 (by omega)
  replace G6 := G6.below bV7 G6.lt
  replace G7 := G7.below bV7 G7.lt
  replace hl6 := hl6.below bV7 (by omega)
  clear bV7
  obtain ⟨f0, f1, _, _, _⟩ := PF
  obtain ⟨r0, r1, r2, r3, _, _, _, _, _⟩ := PR
  refine bodyPost_ret (v := .tuple #[ratv m5 A5 k5 c5 m6 A6 k6 c6, flt 0 0]) (by simp [results, Tryz.results27, go_sem, r0, r1, r2, r3, f0, f1]) rfl ⟨m5, A5, k5, c5, x5, m6, A6, k6, c6, x6, rfl, hl5.more (by omega), hl6.more (by omega), R5.out, R6.out, E⟩
set_option maxHeartbeats 8000000 in
theorem rpow_nb1 (w : World) (B : Nat) (a : RV) (H1 : a.at w B) (hB : B ≤ w.heap.size) (z : Int) (oa : a.ok = true) (h0 : -10000 ≤ z) (h1 : z < 0) (hn : a.num.val ≠ 0) (t1 : Top128 ≤ ((sval a.num.neg a.den.val.natAbs) ^ (-z).toNat).natAbs) :
    Calls Tryz.prog 27 #[a.v, .int .i64 z] w (GivesRat w 0 0 14 (-1)) := by
  have hf := rone_ok oa
  have VA := RV.val oa H1
  have hz9 : decide (a.num.n = 0) = false := by
    have h3 : a.num.xs.length ≠ 0 := fun h => hn ((IRep.len0 VA.num).1 h)
    have h4 := H1.1.len.out
    rw [decide_eq_false_iff_not]; omega
  have o1 := Lib.hid (show (sval a.num.neg a.den.val.natAbs).natAbs < Top128 by rw [sval_abs]; exact VA.bd)
  have o2 := Lib.hid (show (sval false a.num.val.natAbs).natAbs < Top128 by rw [sval_abs]; exact VA.bn)
  have n0 := Lib.hid hn
  have t1 := Lib.hid t1
  have IN := Lib.hid VA.num
  have ID := Lib.hid VA.den
  have d0 := Lib.hid VA.pos
  have on := Lib.hid (RV.okn oa)
  have od := Lib.hid (RV.okd oa)
  clear hn
  clear VA oa
  have k1 : decide (z < -10000) = false := decide_eq_false (by omega)
  have k2 : decide (10000 < z) = false := decide_eq_false (by omega)
  have k3 : decide (z < 0) = true := decide_eq_true (by omega)
  have bbase : Below w.heap.size w (((w.alloc (.cells #[.bool a.num.neg, .slice a.num.A a.num.n a.num.c, .bool a.den.neg, .slice a.den.A a.den.n a.den.c] 26)).alloc (.cells #[.bool false, .slice none 0 0, .bool false, .slice none 0 0] 26)).alloc (.cells #[.int .i64 0, .int .i64 0] 28)) := (((bl1 w _).alloc (by simp) _).alloc (by simp; omega) _)
  have HA : LRd w B a.num.A a.num.n a.num.c a.num.xs := H1.1
  have HC : LRd w B a.den.A a.den.n a.den.c a.den.xs := H1.2
  have E : Below w.heap.size w w := Below.refl _ _
  have RR := Lib.hid (rrow1 (((w.alloc (.cells #[.bool a.num.neg, .slice a.num.A a.num.n a.num.c, .bool a.den.neg, .slice a.den.A a.den.n a.den.c] 26)).alloc (.cells #[.bool false, .slice none 0 0, .bool false, .slice none 0 0] 26)).alloc (.cells #[.int .i64 0, .int .i64 0] 28)) B a (RV.at.below H1 bbase (by omega)) (by simp; omega))
  clear bbase
  go_enter Tryz.func27, Tryz.ntmps27
  go_wp2_with fail
  obtain ⟨V0, hV0⟩ : ∃ V0 : World, V0 = ((((w.alloc (.cells #[.bool a.num.neg, .slice a.num.A a.num.n a.num.c, .bool a.den.neg, .slice a.den.A a.den.n a.den.c] 26)).alloc (.cells #[.bool false, .slice none 0 0, .bool false, .slice none 0 0] 26)).alloc (.cells #[.int .i64 0, .int .i64 0] 28)).alloc (.cells #[.bool a.num.neg, .slice a.num.A a.num.n a.num.c, .bool a.den.neg, .slice a.den.A a.den.n a.den.c] 26)) := ⟨_, rfl⟩
  have bV0 : Below w.heap.size w V0 := by rw [hV0]; (repeat (first | with_reducible exact Below.refl _ _ | with_reducible refine Below.drew ?_ | with_reducible refine below_drewN ?_ _ | with_reducible refine Below.setCell ?_ (by first | (simp; done) | (simp; omega) | omega) _ | with_reducible refine Below.alloc ?_ (by first | (simp; done) | (simp; omega) | omega) _))
  have zV0 : w.heap.size + 4 ≤ V0.heap.size := by rw [hV0]; simp
  have PA : Bk4 V0 (w.heap.size) (.bool a.num.neg) (.slice a.num.A a.num.n a.num.c) (.bool a.den.neg) (.slice a.den.A a.den.n a.den.c) := by rw [hV0]; exact ((((Bk4.newAt _ _ (by first | omega | (simp; done) | (simp; omega)) _ _ _ _ _).alloc _).alloc _).alloc _)
  have PR : Bk4 V0 (w.heap.size + 1) (.bool false) (.slice none 0 0) (.bool false) (.slice none 0 0) := by rw [hV0]; exact (((Bk4.newAt _ _ (by first | omega | (simp; done) | (simp; omega)) _ _ _ _ _).alloc _).alloc _)
  have PF : Bk2 V0 (w.heap.size + 2) (.int .i64 0) (.int .i64 0) := by rw [hV0]; exact ((Bk2.newAt _ _ (by first | omega | (simp; done) | (simp; omega)) _ _ _).alloc _)
  replace RR : Hid (RRow V0 B (w.heap.size + 3) [a]) := by have h9 := RR.out; rw [hV0]; rw [show ((((w.alloc (.cells #[.bool a.num.neg, .slice a.num.A a.num.n a.num.c, .bool a.den.neg, .slice a.den.A a.den.n a.den.c] 26)).alloc (.cells #[.bool false, .slice none 0 0, .bool false, .slice none 0 0] 26)).alloc (.cells #[.int .i64 0, .int .i64 0] 28))).heap.size = w.heap.size + 3 by simp] at h9; exact h9
  rw [← hV0]
  clear hV0
  replace E := E.trans (bV0.mono E.size)
  replace HA := HA.below bV0 (by omega)
  replace HC := HC.below bV0 (by omega)
  clear bV0
  (with_reducible refine (rcheck_any _ B (w.heap.size + 3) 1 [a] RR.out rfl (by omega) (by omega)).mono ?_)
  rintro e w1 ⟨rfl, hb1⟩
  have sw1 := hb1.size
  replace E := E.trans (hb1.mono E.size)
  replace HA := HA.below hb1 (by omega)
  replace HC := HC.below hb1 (by omega)
  replace PA := PA.below hb1 PA.lt
  replace PR := PR.below hb1 PR.lt
  replace PF := PF.below hb1 PF.lt
  clear hb1
  rw [hf]
  clear RR
  have t_PA0 : (w1.alloc (.cells #[.int .i64 0, .int .i64 0] 28)).cell? ⟨w.heap.size, 0, none⟩ = some ((.bool a.num.neg)) := (PA.alloc _).c0
  have t_PA1 : (w1.alloc (.cells #[.int .i64 0, .int .i64 0] 28)).cell? ⟨w.heap.size, 1, none⟩ = some ((.slice a.num.A a.num.n a.num.c)) := (PA.alloc _).c1
  have t_PA2 : (w1.alloc (.cells #[.int .i64 0, .int .i64 0] 28)).cell? ⟨w.heap.size, 2, none⟩ = some ((.bool a.den.neg)) := (PA.alloc _).c2
  have t_PA3 : (w1.alloc (.cells #[.int .i64 0, .int .i64 0] 28)).cell? ⟨w.heap.size, 3, none⟩ = some ((.slice a.den.A a.den.n a.den.c)) := (PA.alloc _).c3
  go_upto_region 4 with fail
  clear t_PA0 t_PA1 t_PA2 t_PA3
  obtain ⟨V1, hV1⟩ : ∃ V1 : World, V1 = (w1.alloc (.cells #[.int .i64 0, .int .i64 0] 28)) := ⟨_, rfl⟩
  have bV1 : Below w1.heap.size w1 V1 := by rw [hV1]; (repeat (first | with_reducible exact Below.refl _ _ | with_reducible refine Below.drew ?_ | with_reducible refine below_drewN ?_ _ | with_reducible refine Below.setCell ?_ (by first | (simp; done) | (simp; omega) | omega) _ | with_reducible refine Below.alloc ?_ (by first | (simp; done) | (simp; omega) | omega) _))
  have zV1 : w1.heap.size + 1 ≤ V1.heap.size := by rw [hV1]; simp
  have F6 : Bk2 V1 (w1.heap.size) (.int .i64 0) (.int .i64 0) := by rw [hV1]; exact (Bk2.newAt _ _ (by first | omega | (simp; done) | (simp; omega)) _ _ _)
  rw [← hV1]
  clear hV1
  replace E := E.trans (bV1.mono E.size)
  replace HA := HA.below bV1 (by omega)
  replace HC := HC.below bV1 (by omega)
  replace PA := PA.below bV1 PA.lt
  replace PR := PR.below bV1 PR.lt
  replace PF := PF.below bV1 PF.lt
  clear bV1
  clear F6
  have t_PA0 := PA.c0
  have t_PA1 := PA.c1
  have t_PA2 := PA.c2
  have t_PA3 := PA.c3
  go_wp2_with fail
  clear t_PA0 t_PA1 t_PA2 t_PA3
  (with_reducible refine (isZero_any _ a.num.neg a.num.A a.num.n a.num.c (by have := HA.cap; omega)).mono ?_)
  rintro e w2 ⟨rfl, hb2⟩
  have sw2 := hb2.size
  replace E := E.trans (hb2.mono E.size)
  replace HA := HA.below hb2 (by omega)
  replace HC := HC.below hb2 (by omega)
  replace PA := PA.below hb2 PA.lt
  replace PR := PR.below hb2 PR.lt
  replace PF := PF.below hb2 PF.lt
  clear hb2
  rw [hz9]
  clear hz9
  have t_PA0 := PA.c0
  have t_PA1 := PA.c1
  have t_PA2 := PA.c2
  have t_PA3 := PA.c3
  go_wp2_with fail
  clear t_PA0 t_PA1 t_PA2 t_PA3
  (with_reducible refine (rinv_any _ B a a.num.val a.den.val (rv_at HA HC) (by omega) IN.out ID.out n0.out d0.out).mono ?_)
  rintro e w3 ⟨m, A, k, c, xs, m', D, l, d, ys, rfl, hq1, hq2, hr1, hr2, hb3⟩
  have sw3 := hb3.size
  replace E := E.trans (hb3.mono E.size)
  replace HA := HA.below hb3 (by omega)
  replace HC := HC.below hb3 (by omega)
  replace PA := PA.below hb3 PA.lt
  replace PR := PR.below hb3 PR.lt
  replace PF := PF.below hb3 PF.lt
  clear hb3
  have J1 := Lib.hid hr1
  have J2 := Lib.hid hr2
  clear hr1 hr2
  have y_PA0 := PA.c0
  have z_PA0 := PA.z0
  have y_PA1 := PA.c1
  have z_PA1 := PA.z1
  have y_PA2 := PA.c2
  have z_PA2 := PA.z2
  have y_PA3 := PA.c3
  have z_PA3 := PA.z3
  have lt_PA := PA.lt
  go_wp2_with fail
  clear y_PA0 z_PA0 y_PA1 z_PA1 y_PA2 z_PA2 y_PA3 z_PA3 lt_PA
  obtain ⟨U4PA, hU4PA⟩ : ∃ U4PA : World, U4PA = ((((w3.setCell ⟨w.heap.size, 0, none⟩ (.bool m)).setCell ⟨w.heap.size, 1, none⟩ (.slice A k c)).setCell ⟨w.heap.size, 2, none⟩ (.bool m')).setCell ⟨w.heap.size, 3, none⟩ (.slice D l d)) := ⟨_, rfl⟩
  have zU4PA : U4PA.heap.size = w3.heap.size := by rw [hU4PA]; simp [World.setCell]
  replace E : Below w.heap.size w U4PA := by rw [hU4PA]; exact ((((E.setCell (by first | (simp; done) | (simp; omega)) _).setCell (by first | (simp; done) | (simp; omega)) _).setCell (by first | (simp; done) | (simp; omega)) _).setCell (by first | (simp; done) | (simp; omega)) _)
  replace HA : LRd U4PA (B) a.num.A a.num.n a.num.c a.num.xs := by rw [hU4PA]; first | exact HA.set4 PA (by simp) (by simp) (by simp) (by simp) _ _ _ _ | exact HA.set4O (by omega) _ _ _ _
  replace HC : LRd U4PA (B) a.den.A a.den.n a.den.c a.den.xs := by rw [hU4PA]; first | exact HC.set4 PA (by simp) (by simp) (by simp) (by simp) _ _ _ _ | exact HC.set4O (by omega) _ _ _ _
  replace PR : Bk4 U4PA (w.heap.size + 1) (.bool false) (.slice none 0 0) (.bool false) (.slice none 0 0) := by rw [hU4PA]; exact PR.far4 (by omega) _ _ _ _
  replace PF : Bk2 U4PA (w.heap.size + 2) (.int .i64 0) (.int .i64 0) := by rw [hU4PA]; exact PF.far4 (by omega) _ _ _ _
  replace hq1 : LRd U4PA (w3.heap.size) A k c xs := by rw [hU4PA]; first | exact hq1.set4 PA (by simp) (by simp) (by simp) (by simp) _ _ _ _ | exact hq1.set4O (by omega) _ _ _ _
  replace hq2 : LRd U4PA (w3.heap.size) D l d ys := by rw [hU4PA]; first | exact hq2.set4 PA (by simp) (by simp) (by simp) (by simp) _ _ _ _ | exact hq2.set4O (by omega) _ _ _ _
  replace PA : Bk4 U4PA (w.heap.size) (.bool m) (.slice A k c) (.bool m') (.slice D l d) := by rw [hU4PA]; exact PA.set _ _ _ _
  rw [← hU4PA]
  clear hU4PA
  have zU4PA' := Nat.le_of_eq zU4PA
  replace zU4PA := Nat.le_of_eq zU4PA.symm
  have EZ := Lib.hid (show True from trivial)
  have t_PA0 := PA.c0
  have t_PA1 := PA.c1
  have t_PA2 := PA.c2
  have t_PA3 := PA.c3
  go_wp2_with fail
  clear t_PA0 t_PA1 t_PA2 t_PA3
  (with_reducible refine (ipow_big _ (w3.heap.size) (IV.mk m A k c xs) (-z) (sval a.num.neg a.den.val.natAbs) (iv_at hq1) (by omega) (irep_ok J1.out o1.out) (by omega) (by omega) (IRep.ival J1.out) t1.out).mono ?_)
  rintro e w5 ⟨m5, A5, k5, c5, x5, rfl, hl5, hr5, hb5⟩
  have sw5 := hb5.size
  replace E := E.trans (hb5.mono E.size)
  replace HA := HA.below hb5 (by omega)
  replace HC := HC.below hb5 (by omega)
  replace PA := PA.below hb5 PA.lt
  replace PR := PR.below hb5 PR.lt
  replace PF := PF.below hb5 PF.lt
  replace hq1 := hq1.below hb5 (by omega)
  replace hq2 := hq2.below hb5 (by omega)
  clear hb5
  clear hl5 hr5
  go_upto_region 12 with fail
  obtain ⟨V6, hV6⟩ : ∃ V6 : World, V6 = ((w5.alloc (.cells #[.bool m5, .slice A5 k5 c5] 24)).alloc (.cells #[.int .i64 14, .int .i64 (-1)] 28)) := ⟨_, rfl⟩
  have bV6 : Below w5.heap.size w5 V6 := by rw [hV6]; (repeat (first | with_reducible exact Below.refl _ _ | with_reducible refine Below.drew ?_ | with_reducible refine below_drewN ?_ _ | with_reducible refine Below.setCell ?_ (by first | (simp; done) | (simp; omega) | omega) _ | with_reducible refine Below.alloc ?_ (by first | (simp; done) | (simp; omega) | omega) _))
  have zV6 : w5.heap.size + 2 ≤ V6.heap.size := by rw [hV6]; simp
  have G6 : Bk2 V6 (w5.heap.size) (.bool m5) (.slice A5 k5 c5) := by rw [hV6]; exact ((Bk2.newAt _ _ (by first | omega | (simp; done) | (simp; omega)) _ _ _).alloc _)
  have G7 : Bk2 V6 (w5.heap.size + 1) (.int .i64 14) (.int .i64 (-1)) := by rw [hV6]; exact (Bk2.newAt _ _ (by first | omega | (simp; done) | (simp; omega)) _ _ _)
  rw [← hV6]
  clear hV6
  replace E := E.trans (bV6.mono E.size)
  replace HA := HA.below bV6 (by omega)
  replace HC := HC.below bV6 (by omega)
  replace PA := PA.below bV6 PA.lt
  replace PR := PR.below bV6 PR.lt
  replace PF := PF.below bV6 PF.lt
  replace hq1 := hq1.below bV6 (by omega)
  replace hq2 := hq2.below bV6 (by omega)
  clear bV6
  have lt6 := G7.lt
  have ltR := PR.lt
  have ltF := PF.lt
  obtain ⟨_, _, _, _, _⟩ := G7
  obtain ⟨f0, f1, z0, z1, _⟩ := PF
  obtain ⟨r0, r1, r2, r3, y0, y1, y2, y3, _⟩ := PR
  go_region
  go_wp2_with fail
  refine bodyPost_ret (v := .tuple #[ratv false none 0 0 false none 0 0, flt 14 (-1)]) (by simp [results, Tryz.results27, go_sem, r0, r1, r2, r3, f0, f1]) rfl ⟨false, none, 0, 0, [], false, none, 0, 0, [], rfl, nil_lrd _, nil_lrd _, IRep.zero, IRep.zero, ?_⟩
  (repeat (first | with_reducible exact E | with_reducible refine Below.drew ?_ | with_reducible refine below_drewN ?_ _ | with_reducible refine Below.setCell ?_ (by first | (simp; done) | (simp; omega) | omega) _))
set_option maxHeartbeats 8000000 in
theorem rpow_nb2 (w : World) (B : Nat) (a : RV) (H1 : a.at w B) (hB : B ≤ w.heap.size) (z : Int) (oa : a.ok = true) (h0 : -10000 ≤ z) (h1 : z < 0) (hn : a.num.val ≠ 0) (t1 : ((sval a.num.neg a.den.val.natAbs) ^ (-z).toNat).natAbs < Top128) (t2 : Top128 ≤ ((sval false a.num.val.natAbs) ^ (-z).toNat).natAbs) :
    Calls Tryz.prog 27 #[a.v, .int .i64 z] w (GivesRat w 0 0 14 (-1)) := by
  have hf := rone_ok oa
  have VA := RV.val oa H1
  have hz9 : decide (a.num.n = 0) = false := by
    have h3 : a.num.xs.length ≠ 0 := fun h => hn ((IRep.len0 VA.num).1 h)
    have h4 := H1.1.len.out
    rw [decide_eq_false_iff_not]; omega
  have o1 := Lib.hid (show (sval a.num.neg a.den.val.natAbs).natAbs < Top128 by rw [sval_abs]; exact VA.bd)
  have o2 := Lib.hid (show (sval false a.num.val.natAbs).natAbs < Top128 by rw [sval_abs]; exact VA.bn)
  have n0 := Lib.hid hn
  have t1 := Lib.hid t1
  have t2 := Lib.hid t2
  have IN := Lib.hid VA.num
  have ID := Lib.hid VA.den
  have d0 := Lib.hid VA.pos
  have on := Lib.hid (RV.okn oa)
  have od := Lib.hid (RV.okd oa)
  clear hn
  clear VA oa
  have k1 : decide (z < -10000) = false := decide_eq_false (by omega)
  have k2 : decide (10000 < z) = false := decide_eq_false (by omega)
  have k3 : decide (z < 0) = true := decide_eq_true (by omega)
  have bbase : Below w.heap.size w (((w.alloc (.cells #[.bool a.num.neg, .slice a.num.A a.num.n a.num.c, .bool a.den.neg, .slice a.den.A a.den.n a.den.c] 26)).alloc (.cells #[.bool false, .slice none 0 0, .bool false, .slice none 0 0] 26)).alloc (.cells #[.int .i64 0, .int .i64 0] 28)) := (((bl1 w _).alloc (by simp) _).alloc (by simp; omega) _)
  have HA : LRd w B a.num.A a.num.n a.num.c a.num.xs := H1.1
  have HC : LRd w B a.den.A a.den.n a.den.c a.den.xs := H1.2
  have E : Below w.heap.size w w := Below.refl _ _
  have RR := Lib.hid (rrow1 (((w.alloc (.cells #[.bool a.num.neg, .slice a.num.A a.num.n a.num.c, .bool a.den.neg, .slice a.den.A a.den.n a.den.c] 26)).alloc (.cells #[.bool false, .slice none 0 0, .bool false, .slice none 0 0] 26)).alloc (.cells #[.int .i64 0, .int .i64 0] 28)) B a (RV.at.below H1 bbase (by omega)) (by simp; omega))
  clear bbase
  go_enter Tryz.func27, Tryz.ntmps27
  go_wp2_with fail
  obtain ⟨V0, hV0⟩ : ∃ V0 : World, V0 = ((((w.alloc (.cells #[.bool a.num.neg, .slice a.num.A a.num.n a.num.c, .bool a.den.neg, .slice a.den.A a.den.n a.den.c] 26)).alloc (.cells #[.bool false, .slice none 0 0, .bool false, .slice none 0 0] 26)).alloc (.cells #[.int .i64 0, .int .i64 0] 28)).alloc (.cells #[.bool a.num.neg, .slice a.num.A a.num.n a.num.c, .bool a.den.neg, .slice a.den.A a.den.n a.den.c] 26)) := ⟨_, rfl⟩
  have bV0 : Below w.heap.size w V0 := by rw [hV0]; (repeat (first | with_reducible exact Below.refl _ _ | with_reducible refine Below.drew ?_ | with_reducible refine below_drewN ?_ _ | with_reducible refine Below.setCell ?_ (by first | (simp; done) | (simp; omega) | omega) _ | with_reducible refine Below.alloc ?_ (by first | (simp; done) | (simp; omega) | omega) _))
  have zV0 : w.heap.size + 4 ≤ V0.heap.size := by rw [hV0]; simp
  have PA : Bk4 V0 (w.heap.size) (.bool a.num.neg) (.slice a.num.A a.num.n a.num.c) (.bool a.den.neg) (.slice a.den.A a.den.n a.den.c) := by rw [hV0]; exact ((((Bk4.newAt _ _ (by first | omega | (simp; done) | (simp; omega)) _ _ _ _ _).alloc _).alloc _).alloc _)
  have PR : Bk4 V0 (w.heap.size + 1) (.bool false) (.slice none 0 0) (.bool false) (.slice none 0 0) := by rw [hV0]; exact (((Bk4.newAt _ _ (by first | omega | (simp; done) | (simp; omega)) _ _ _ _ _).alloc _).alloc _)
  have PF : Bk2 V0 (w.heap.size + 2) (.int .i64 0) (.int .i64 0) := by rw [hV0]; exact ((Bk2.newAt _ _ (by first | omega | (simp; done) | (simp; omega)) _ _ _).alloc _)
  replace RR : Hid (RRow V0 B (w.heap.size + 3) [a]) := by have h9 := RR.out; rw [hV0]; rw [show ((((w.alloc (.cells #[.bool a.num.neg, .slice a.num.A a.num.n a.num.c, .bool a.den.neg, .slice a.den.A a.den.n a.den.c] 26)).alloc (.cells #[.bool false, .slice none 0 0, .bool false, .slice none 0 0] 26)).alloc (.cells #[.int .i64 0, .int .i64 0] 28))).heap.size = w.heap.size + 3 by simp] at h9; exact h9
  rw [← hV0]
  clear hV0
  replace E := E.trans (bV0.mono E.size)
  replace HA := HA.below bV0 (by omega)
  replace HC := HC.below bV0 (by omega)
  clear bV0
  (with_reducible refine (rcheck_any _ B (w.heap.size + 3) 1 [a] RR.out rfl (by omega) (by omega)).mono ?_)
  rintro e w1 ⟨rfl, hb1⟩
  have sw1 := hb1.size
  replace E := E.trans (hb1.mono E.size)
  replace HA := HA.below hb1 (by omega)
  replace HC := HC.below hb1 (by omega)
  replace PA := PA.below hb1 PA.lt
  replace PR := PR.below hb1 PR.lt
  replace PF := PF.below hb1 PF.lt
  clear hb1
  rw [hf]
  clear RR
  have t_PA0 : (w1.alloc (.cells #[.int .i64 0, .int .i64 0] 28)).cell? ⟨w.heap.size, 0, none⟩ = some ((.bool a.num.neg)) := (PA.alloc _).c0
  have t_PA1 : (w1.alloc (.cells #[.int .i64 0, .int .i64 0] 28)).cell? ⟨w.heap.size, 1, none⟩ = some ((.slice a.num.A a.num.n a.num.c)) := (PA.alloc _).c1
  have t_PA2 : (w1.alloc (.cells #[.int .i64 0, .int .i64 0] 28)).cell? ⟨w.heap.size, 2, none⟩ = some ((.bool a.den.neg)) := (PA.alloc _).c2
  have t_PA3 : (w1.alloc (.cells #[.int .i64 0, .int .i64 0] 28)).cell? ⟨w.heap.size, 3, none⟩ = some ((.slice a.den.A a.den.n a.den.c)) := (PA.alloc _).c3
  go_upto_region 4 with fail
  clear t_PA0 t_PA1 t_PA2 t_PA3
  obtain ⟨V1, hV1⟩ : ∃ V1 : World, V1 = (w1.alloc (.cells #[.int .i64 0, .int .i64 0] 28)) := ⟨_, rfl⟩
  have bV1 : Below w1.heap.size w1 V1 := by rw [hV1]; (repeat (first | with_reducible exact Below.refl _ _ | with_reducible refine Below.drew ?_ | with_reducible refine below_drewN ?_ _ | with_reducible refine Below.setCell ?_ (by first | (simp; done) | (simp; omega) | omega) _ | with_reducible refine Below.alloc ?_ (by first | (simp; done) | (simp; omega) | omega) _))
  have zV1 : w1.heap.size + 1 ≤ V1.heap.size := by rw [hV1]; simp
  have F6 : Bk2 V1 (w1.heap.size) (.int .i64 0) (.int .i64 0) := by rw [hV1]; exact (Bk2.newAt _ _ (by first | omega | (simp; done) | (simp; omega)) _ _ _)
  rw [← hV1]
  clear hV1
  replace E := E.trans (bV1.mono E.size)
  replace HA := HA.below bV1 (by omega)
  replace HC := HC.below bV1 (by omega)
  replace PA := PA.below bV1 PA.lt
  replace PR := PR.below bV1 PR.lt
  replace PF := PF.below bV1 PF.lt
  clear bV1
  clear F6
  have t_PA0 := PA.c0
  have t_PA1 := PA.c1
  have t_PA2 := PA.c2
  have t_PA3 := PA.c3
  go_wp2_with fail
  clear t_PA0 t_PA1 t_PA2 t_PA3
  (with_reducible refine (isZero_any _ a.num.neg a.num.A a.num.n a.num.c (by have := HA.cap; omega)).mono ?_)
  rintro e w2 ⟨rfl, hb2⟩
  have sw2 := hb2.size
  replace E := E.trans (hb2.mono E.size)
  replace HA := HA.below hb2 (by omega)
  replace HC := HC.below hb2 (by omega)
  replace PA := PA.below hb2 PA.lt
  replace PR := PR.below hb2 PR.lt
  replace PF := PF.below hb2 PF.lt
  clear hb2
  rw [hz9]
  clear hz9
  have t_PA0 := PA.c0
  have t_PA1 := PA.c1
  have t_PA2 := PA.c2
  have t_PA3 := PA.c3
  go_wp2_with fail
  clear t_PA0 t_PA1 t_PA2 t_PA3
  (with_reducible refine (rinv_any _ B a a.num.val a.den.val (rv_at HA HC) (by omega) IN.out ID.out n0.out d0.out).mono ?_)
  rintro e w3 ⟨m, A, k, c, xs, m', D, l, d, ys, rfl, hq1, hq2, hr1, hr2, hb3⟩
  have sw3 := hb3.size
  replace E := E.trans (hb3.mono E.size)
  replace HA := HA.below hb3 (by omega)
  replace HC := HC.below hb3 (by omega)
  replace PA := PA.below hb3 PA.lt
  replace PR := PR.below hb3 PR.lt
  replace PF := PF.below hb3 PF.lt
  clear hb3
  have J1 := Lib.hid hr1
  have J2 := Lib.hid hr2
  clear hr1 hr2
  have y_PA0 := PA.c0
  have z_PA0 := PA.z0
  have y_PA1 := PA.c1
  have z_PA1 := PA.z1
  have y_PA2 := PA.c2
  have z_PA2 := PA.z2
  have y_PA3 := PA.c3
  have z_PA3 := PA.z3
  have lt_PA := PA.lt
  go_wp2_with fail
  clear y_PA0 z_PA0 y_PA1 z_PA1 y_PA2 z_PA2 y_PA3 z_PA3 lt_PA
  obtain ⟨U4PA, hU4PA⟩ : ∃ U4PA : World, U4PA = ((((w3.setCell ⟨w.heap.size, 0, none⟩ (.bool m)).setCell ⟨w.heap.size, 1, none⟩ (.slice A k c)).setCell ⟨w.heap.size, 2, none⟩ (.bool m')).setCell ⟨w.heap.size, 3, none⟩ (.slice D l d)) := ⟨_, rfl⟩
  have zU4PA : U4PA.heap.size = w3.heap.size := by rw [hU4PA]; simp [World.setCell]
  replace E : Below w.heap.size w U4PA := by rw [hU4PA]; exact ((((E.setCell (by first | (simp; done) | (simp; omega)) _).setCell (by first | (simp; done) | (simp; omega)) _).setCell (by first | (simp; done) | (simp; omega)) _).setCell (by first | (simp; done) | (simp; omega)) _)
  replace HA : LRd U4PA (B) a.num.A a.num.n a.num.c a.num.xs := by rw [hU4PA]; first | exact HA.set4 PA (by simp) (by simp) (by simp) (by simp) _ _ _ _ | exact HA.set4O (by omega) _ _ _ _
  replace HC : LRd U4PA (B) a.den.A a.den.n a.den.c a.den.xs := by rw [hU4PA]; first | exact HC.set4 PA (by simp) (by simp) (by simp) (by simp) _ _ _ _ | exact HC.set4O (by omega) _ _ _ _
  replace PR : Bk4 U4PA (w.heap.size + 1) (.bool false) (.slice none 0 0) (.bool false) (.slice none 0 0) := by rw [hU4PA]; exact PR.far4 (by omega) _ _ _ _
  replace PF : Bk2 U4PA (w.heap.size + 2) (.int .i64 0) (.int .i64 0) := by rw [hU4PA]; exact PF.far4 (by omega) _ _ _ _
  replace hq1 : LRd U4PA (w3.heap.size) A k c xs := by rw [hU4PA]; first | exact hq1.set4 PA (by simp) (by simp) (by simp) (by simp) _ _ _ _ | exact hq1.set4O (by omega) _ _ _ _
  replace hq2 : LRd U4PA (w3.heap.size) D l d ys := by rw [hU4PA]; first | exact hq2.set4 PA (by simp) (by simp) (by simp) (by simp) _ _ _ _ | exact hq2.set4O (by omega) _ _ _ _
  replace PA : Bk4 U4PA (w.heap.size) (.bool m) (.slice A k c) (.bool m') (.slice D l d) := by rw [hU4PA]; exact PA.set _ _ _ _
  rw [← hU4PA]
  clear hU4PA
  have zU4PA' := Nat.le_of_eq zU4PA
  replace zU4PA := Nat.le_of_eq zU4PA.symm
  have EZ := Lib.hid (show True from trivial)
  have t_PA0 := PA.c0
  have t_PA1 := PA.c1
  have t_PA2 := PA.c2
  have t_PA3 := PA.c3
  go_wp2_with fail
  clear t_PA0 t_PA1 t_PA2 t_PA3
  (with_reducible refine (ipow_fit _ (w3.heap.size) (IV.mk m A k c xs) (-z) (sval a.num.neg a.den.val.natAbs) (iv_at hq1) (by omega) (irep_ok J1.out o1.out) (by omega) (by omega) (IRep.ival J1.out) t1.out).mono ?_)
  rintro e w5 ⟨m5, A5, k5, c5, x5, rfl, hl5, hr5, hb5⟩
  have sw5 := hb5.size
  replace E := E.trans (hb5.mono E.size)
  replace HA := HA.below hb5 (by omega)
  replace HC := HC.below hb5 (by omega)
  replace PA := PA.below hb5 PA.lt
  replace PR := PR.below hb5 PR.lt
  replace PF := PF.below hb5 PF.lt
  replace hq1 := hq1.below hb5 (by omega)
  replace hq2 := hq2.below hb5 (by omega)
  clear hb5
  have R5 := Lib.hid hr5
  clear hr5
  have t_PA0 : ((w5.alloc (.cells #[.bool m5, .slice A5 k5 c5] 24)).alloc (.cells #[.int .i64 0, .int .i64 0] 28)).cell? ⟨w.heap.size, 0, none⟩ = some ((.bool m)) := ((PA.alloc _).alloc _).c0
  have t_PA1 : ((w5.alloc (.cells #[.bool m5, .slice A5 k5 c5] 24)).alloc (.cells #[.int .i64 0, .int .i64 0] 28)).cell? ⟨w.heap.size, 1, none⟩ = some ((.slice A k c)) := ((PA.alloc _).alloc _).c1
  have t_PA2 : ((w5.alloc (.cells #[.bool m5, .slice A5 k5 c5] 24)).alloc (.cells #[.int .i64 0, .int .i64 0] 28)).cell? ⟨w.heap.size, 2, none⟩ = some ((.bool m')) := ((PA.alloc _).alloc _).c2
  have t_PA3 : ((w5.alloc (.cells #[.bool m5, .slice A5 k5 c5] 24)).alloc (.cells #[.int .i64 0, .int .i64 0] 28)).cell? ⟨w.heap.size, 3, none⟩ = some ((.slice D l d)) := ((PA.alloc _).alloc _).c3
  go_wp2_with fail
  clear t_PA0 t_PA1 t_PA2 t_PA3
  obtain ⟨V6, hV6⟩ : ∃ V6 : World, V6 = ((w5.alloc (.cells #[.bool m5, .slice A5 k5 c5] 24)).alloc (.cells #[.int .i64 0, .int .i64 0] 28)) := ⟨_, rfl⟩
  have bV6 : Below w5.heap.size w5 V6 := by rw [hV6]; (repeat (first | with_reducible exact Below.refl _ _ | with_reducible refine Below.drew ?_ | with_reducible refine below_drewN ?_ _ | with_reducible refine Below.setCell ?_ (by first | (simp; done) | (simp; omega) | omega) _ | with_reducible refine Below.alloc ?_ (by first | (simp; done) | (simp; omega) | omega) _))
  have zV6 : w5.heap.size + 2 ≤ V6.heap.size := by rw [hV6]; simp
  have G6 : Bk2 V6 (w5.heap.size) (.bool m5) (.slice A5 k5 c5) := by rw [hV6]; exact ((Bk2.newAt _ _ (by first | omega | (simp; done) | (simp; omega)) _ _ _).alloc _)
  have G7 : Bk2 V6 (w5.heap.size + 1) (.int .i64 0) (.int .i64 0) := by rw [hV6]; exact (Bk2.newAt _ _ (by first | omega | (simp; done) | (simp; omega)) _ _ _)
  rw [← hV6]
  clear hV6
  replace E := E.trans (bV6.mono E.size)
  replace HA := HA.below bV6 (by omega)
  replace HC := HC.below bV6 (by omega)
  replace PA := PA.below bV6 PA.lt
  replace PR := PR.below bV6 PR.lt
  replace PF := PF.below bV6 PF.lt
  replace hq1 := hq1.below bV6 (by omega)
  replace hq2 := hq2.below bV6 (by omega)
  replace hl5 := hl5.below bV6 (by omega)
  clear bV6
  (with_reducible refine (ipow_big _ (w3.heap.size) (IV.mk m' D l d ys) (-z) (sval false a.num.val.natAbs) (iv_at hq2) (by omega) (irep_ok J2.out o2.out) (by omega) (by omega) (IRep.ival J2.out) t2.out).mono ?_)
  rintro e w6 ⟨m6, A6, k6, c6, x6, rfl, hl6, hr6, hb6⟩
  have sw6 := hb6.size
  replace E := E.trans (hb6.mono E.size)
  replace HA := HA.below hb6 (by omega)
  replace HC := HC.below hb6 (by omega)
  replace PA := PA.below hb6 PA.lt
  replace PR := PR.below hb6 PR.lt
  replace PF := PF.below hb6 PF.lt
  replace hq1 := hq1.below hb6 (by omega)
  replace hq2 := hq2.below hb6 (by omega)
  replace hl5 := hl5.below hb6 (by omega)
  replace G6 := G6.below hb6 G6.lt
  replace G7 := G7.below hb6 G7.lt
  clear hb6
  clear hl6 hr6
  have y_G70 := G7.c0
  have z_G70 := G7.z0
  have y_G71 := G7.c1
  have z_G71 := G7.z1
  have lt_G7 := G7.lt
  go_upto_region 15 with fail
  clear y_G70 z_G70 y_G71 z_G71 lt_G7
  obtain ⟨U7G7, hU7G7⟩ : ∃ U7G7 : World, U7G7 = ((w6.setCell ⟨w5.heap.size + 1, 0, none⟩ (.int .i64 14)).setCell ⟨w5.heap.size + 1, 1, none⟩ (.int .i64 (-1))) := ⟨_, rfl⟩
  have zU7G7 : U7G7.heap.size = w6.heap.size := by rw [hU7G7]; simp [World.setCell]
  replace E : Below w.heap.size w U7G7 := by rw [hU7G7]; exact ((E.setCell (by first | (simp; done) | (simp; omega)) _).setCell (by first | (simp; done) | (simp; omega)) _)
  replace HA : LRd U7G7 (B) a.num.A a.num.n a.num.c a.num.xs := by rw [hU7G7]; first | exact HA.setB G7 (by simp) (by simp) _ _ | exact HA.setFarL (by omega) _ _
  replace HC : LRd U7G7 (B) a.den.A a.den.n a.den.c a.den.xs := by rw [hU7G7]; first | exact HC.setB G7 (by simp) (by simp) _ _ | exact HC.setFarL (by omega) _ _
  replace PA : Bk4 U7G7 (w.heap.size) (.bool m) (.slice A k c) (.bool m') (.slice D l d) := by rw [hU7G7]; exact PA.far2 (by omega) _ _
  replace PR : Bk4 U7G7 (w.heap.size + 1) (.bool false) (.slice none 0 0) (.bool false) (.slice none 0 0) := by rw [hU7G7]; exact PR.far2 (by omega) _ _
  replace PF : Bk2 U7G7 (w.heap.size + 2) (.int .i64 0) (.int .i64 0) := by rw [hU7G7]; exact PF.far2 (by omega) _ _
  replace hq1 : LRd U7G7 (w3.heap.size) A k c xs := by rw [hU7G7]; first | exact hq1.setB G7 (by simp) (by simp) _ _ | exact hq1.setFarL (by omega) _ _
  replace hq2 : LRd U7G7 (w3.heap.size) D l d ys := by rw [hU7G7]; first | exact hq2.setB G7 (by simp) (by simp) _ _ | exact hq2.setFarL (by omega) _ _
  replace hl5 : LRd U7G7 (w5.heap.size) A5 k5 c5 x5 := by rw [hU7G7]; first | exact hl5.setB G7 (by simp) (by simp) _ _ | exact hl5.setFarL (by omega) _ _
  replace G6 : Bk2 U7G7 (w5.heap.size) (.bool m5) (.slice A5 k5 c5) := by rw [hU7G7]; exact G6.far2 (by omega) _ _
  replace G7 : Bk2 U7G7 (w5.heap.size + 1) (.int .i64 14) (.int .i64 (-1)) := by rw [hU7G7]; exact G7.set _ _
  rw [← hU7G7]
  clear hU7G7
  have zU7G7' := Nat.le_of_eq zU7G7
  replace zU7G7 := Nat.le_of_eq zU7G7.symm
  obtain ⟨V7, hV7⟩ : ∃ V7 : World, V7 = (U7G7.alloc (.cells #[.bool m6, .slice A6 k6 c6] 24)) := ⟨_, rfl⟩
  have bV7 : Below U7G7.heap.size U7G7 V7 := by rw [hV7]; (repeat (first | with_reducible exact Below.refl _ _ | with_reducible refine Below.drew ?_ | with_reducible refine below_drewN ?_ _ | with_reducible refine Below.setCell ?_ (by first | (simp; done) | (simp; omega) | omega) _ | with_reducible refine Below.alloc ?_ (by first | (simp; done) | (simp; omega) | omega) _))
  have zV7 : U7G7.heap.size + 1 ≤ V7.heap.size := by rw [hV7]; simp
  have G8 : Bk2 V7 (w6.heap.size) (.bool m6) (.slice A6 k6 c6) := by rw [hV7]; exact (Bk2.newAt _ _ (by first | omega | (simp; done) | (simp; omega)) _ _ _)
  rw [← hV7]
  clear hV7
  replace E := E.trans (bV7.mono E.size)
  replace HA := HA.below bV7 (by omega)
  replace HC := HC.below bV7 (by omega)
  replace PA := PA.below bV7 PA.lt
  replace PR := PR.below bV7 PR.lt
  replace PF := PF.below bV7 PF.lt
  replace hq1 := hq1.below bV7 (by omega)
  replace hq2 := hq2.below bV7 (by omega)
  replace hl5 := hl5.below bV7 (by omega)
  replace G6 := G6.below bV7 G6.lt
  replace G7 := G7.below bV7 G7.lt
  clear bV7
  have lt6 := G7.lt
  have ltR := PR.lt
  have ltF := PF.lt
  obtain ⟨_, _, _, _, _⟩ := G7
  obtain ⟨f0, f1, z0, z1, _⟩ := PF
  obtain ⟨r0, r1, r2, r3, y0, y1, y2, y3, _⟩ := PR
  go_region
  go_wp2_with fail
  refine bodyPost_ret (v := .tuple #[ratv false none 0 0 false none 0 0, flt 14 (-1)]) (by simp [results, Tryz.results27, go_sem, r0, r1, r2, r3, f0, f1]) rfl ⟨false, none, 0, 0, [], false, none, 0, 0, [], rfl, nil_lrd _, nil_lrd _, IRep.zero, IRep.zero, ?_⟩
  (repeat (first | with_reducible exact E | with_reducible refine Below.drew ?_ | with_reducible refine below_drewN ?_ _ | with_reducible refine Below.setCell ?_ (by first | (simp; done) | (simp; omega) | omega) _))
set_option maxHeartbeats 8000000 in
theorem rpow_pok (w : World) (B : Nat) (a : RV) (H1 : a.at w B) (hB : B ≤ w.heap.size) (z : Int) (oa : a.ok = true) (h0 : 0 ≤ z) (h1 : z ≤ 10000) (t1 : (a.num.val ^ z.toNat).natAbs < Top128) (t2 : (a.den.val ^ z.toNat).natAbs < Top128) :
    Calls Tryz.prog 27 #[a.v, .int .i64 z] w (GivesRat w (a.num.val ^ z.toNat) (a.den.val ^ z.toNat) 0 0) := by
  have hf := rone_ok oa
  have VA := RV.val oa H1
  have t1 := Lib.hid t1
  have t2 := Lib.hid t2
  have IN := Lib.hid VA.num
  have ID := Lib.hid VA.den
  have d0 := Lib.hid VA.pos
  have on := Lib.hid (RV.okn oa)
  have od := Lib.hid (RV.okd oa)
  clear VA oa
  have k1 : decide (z < -10000) = false := decide_eq_false (by omega)
  have k2 : decide (10000 < z) = false := decide_eq_false (by omega)
  have k3 : decide (z < 0) = false := decide_eq_false (by omega)
  have bbase : Below w.heap.size w (((w.alloc (.cells #[.bool a.num.neg, .slice a.num.A a.num.n a.num.c, .bool a.den.neg, .slice a.den.A a.den.n a.den.c] 26)).alloc (.cells #[.bool false, .slice none 0 0, .bool false, .slice none 0 0] 26)).alloc (.cells #[.int .i64 0, .int .i64 0] 28)) := (((bl1 w _).alloc (by simp) _).alloc (by simp; omega) _)
  have HA : LRd w B a.num.A a.num.n a.num.c a.num.xs := H1.1
  have HC : LRd w B a.den.A a.den.n a.den.c a.den.xs := H1.2
  have E : Below w.heap.size w w := Below.refl _ _
  have RR := Lib.hid (rrow1 (((w.alloc (.cells #[.bool a.num.neg, .slice a.num.A a.num.n a.num.c, .bool a.den.neg, .slice a.den.A a.den.n a.den.c] 26)).alloc (.cells #[.bool false, .slice none 0 0, .bool false, .slice none 0 0] 26)).alloc (.cells #[.int .i64 0, .int .i64 0] 28)) B a (RV.at.below H1 bbase (by omega)) (by simp; omega))
  clear bbase
  go_enter Tryz.func27, Tryz.ntmps27
  go_wp2_with fail
  obtain ⟨V0, hV0⟩ : ∃ V0 : World, V0 = ((((w.alloc (.cells #[.bool a.num.neg, .slice a.num.A a.num.n a.num.c, .bool a.den.neg, .slice a.den.A a.den.n a.den.c] 26)).alloc (.cells #[.bool false, .slice none 0 0, .bool false, .slice none 0 0] 26)).alloc (.cells #[.int .i64 0, .int .i64 0] 28)).alloc (.cells #[.bool a.num.neg, .slice a.num.A a.num.n a.num.c, .bool a.den.neg, .slice a.den.A a.den.n a.den.c] 26)) := ⟨_, rfl⟩
  have bV0 : Below w.heap.size w V0 := by rw [hV0]; (repeat (first | with_reducible exact Below.refl _ _ | with_reducible refine Below.drew ?_ | with_reducible refine below_drewN ?_ _ | with_reducible refine Below.setCell ?_ (by first | (simp; done) | (simp; omega) | omega) _ | with_reducible refine Below.alloc ?_ (by first | (simp; done) | (simp; omega) | omega) _))
  have zV0 : w.heap.size + 4 ≤ V0.heap.size := by rw [hV0]; simp
  have PA : Bk4 V0 (w.heap.size) (.bool a.num.neg) (.slice a.num.A a.num.n a.num.c) (.bool a.den.neg) (.slice a.den.A a.den.n a.den.c) := by rw [hV0]; exact ((((Bk4.newAt _ _ (by first | omega | (simp; done) | (simp; omega)) _ _ _ _ _).alloc _).alloc _).alloc _)
  have PR : Bk4 V0 (w.heap.size + 1) (.bool false) (.slice none 0 0) (.bool false) (.slice none 0 0) := by rw [hV0]; exact (((Bk4.newAt _ _ (by first | omega | (simp; done) | (simp; omega)) _ _ _ _ _).alloc _).alloc _)
  have PF : Bk2 V0 (w.heap.size + 2) (.int .i64 0) (.int .i64 0) := by rw [hV0]; exact ((Bk2.newAt _ _ (by first | omega | (simp; done) | (simp; omega)) _ _ _).alloc _)
  replace RR : Hid (RRow V0 B (w.heap.size + 3) [a]) := by have h9 := RR.out; rw [hV0]; rw [show ((((w.alloc (.cells #[.bool a.num.neg, .slice a.num.A a.num.n a.num.c, .bool a.den.neg, .slice a.den.A a.den.n a.den.c] 26)).alloc (.cells #[.bool false, .slice none 0 0, .bool false, .slice none 0 0] 26)).alloc (.cells #[.int .i64 0, .int .i64 0] 28))).heap.size = w.heap.size + 3 by simp] at h9; exact h9
  rw [← hV0]
  clear hV0
  replace E := E.trans (bV0.mono E.size)
  replace HA := HA.below bV0 (by omega)
  replace HC := HC.below bV0 (by omega)
  clear bV0
  (with_reducible refine (rcheck_any _ B (w.heap.size + 3) 1 [a] RR.out rfl (by omega) (by omega)).mono ?_)
  rintro e w1 ⟨rfl, hb1⟩
  have sw1 := hb1.size
  replace E := E.trans (hb1.mono E.size)
  replace HA := HA.below hb1 (by omega)
  replace HC := HC.below hb1 (by omega)
  replace PA := PA.below hb1 PA.lt
  replace PR := PR.below hb1 PR.lt
  replace PF := PF.below hb1 PF.lt
  clear hb1
  rw [hf]
  clear RR
  have t_PA0 : (w1.alloc (.cells #[.int .i64 0, .int .i64 0] 28)).cell? ⟨w.heap.size, 0, none⟩ = some ((.bool a.num.neg)) := (PA.alloc _).c0
  have t_PA1 : (w1.alloc (.cells #[.int .i64 0, .int .i64 0] 28)).cell? ⟨w.heap.size, 1, none⟩ = some ((.slice a.num.A a.num.n a.num.c)) := (PA.alloc _).c1
  have t_PA2 : (w1.alloc (.cells #[.int .i64 0, .int .i64 0] 28)).cell? ⟨w.heap.size, 2, none⟩ = some ((.bool a.den.neg)) := (PA.alloc _).c2
  have t_PA3 : (w1.alloc (.cells #[.int .i64 0, .int .i64 0] 28)).cell? ⟨w.heap.size, 3, none⟩ = some ((.slice a.den.A a.den.n a.den.c)) := (PA.alloc _).c3
  go_upto_region 4 with fail
  clear t_PA0 t_PA1 t_PA2 t_PA3
  obtain ⟨V1, hV1⟩ : ∃ V1 : World, V1 = (w1.alloc (.cells #[.int .i64 0, .int .i64 0] 28)) := ⟨_, rfl⟩
  have bV1 : Below w1.heap.size w1 V1 := by rw [hV1]; (repeat (first | with_reducible exact Below.refl _ _ | with_reducible refine Below.drew ?_ | with_reducible refine below_drewN ?_ _ | with_reducible refine Below.setCell ?_ (by first | (simp; done) | (simp; omega) | omega) _ | with_reducible refine Below.alloc ?_ (by first | (simp; done) | (simp; omega) | omega) _))
  have zV1 : w1.heap.size + 1 ≤ V1.heap.size := by rw [hV1]; simp
  have F6 : Bk2 V1 (w1.heap.size) (.int .i64 0) (.int .i64 0) := by rw [hV1]; exact (Bk2.newAt _ _ (by first | omega | (simp; done) | (simp; omega)) _ _ _)
  rw [← hV1]
  clear hV1
  replace E := E.trans (bV1.mono E.size)
  replace HA := HA.below bV1 (by omega)
  replace HC := HC.below bV1 (by omega)
  replace PA := PA.below bV1 PA.lt
  replace PR := PR.below bV1 PR.lt
  replace PF := PF.below bV1 PF.lt
  clear bV1
  clear F6
  have t_PA0 := PA.c0
  have t_PA1 := PA.c1
  have t_PA2 := PA.c2
  have t_PA3 := PA.c3
  go_wp2_with fail
  clear t_PA0 t_PA1 t_PA2 t_PA3
  have EZ := Lib.hid (show True from trivial)
  (with_reducible refine (ipow_fit _ B a.num z a.num.val (iv_at HA) (by omega) on.out (by omega) (by omega) (IRep.ival IN.out) t1.out).mono ?_)
  rintro e w5 ⟨m5, A5, k5, c5, x5, rfl, hl5, hr5, hb5⟩
  have sw5 := hb5.size
  replace E := E.trans (hb5.mono E.size)
  replace HA := HA.below hb5 (by omega)
  replace HC := HC.below hb5 (by omega)
  replace PA := PA.below hb5 PA.lt
  replace PR := PR.below hb5 PR.lt
  replace PF := PF.below hb5 PF.lt
  clear hb5
  have R5 := Lib.hid hr5
  clear hr5
  have t_PA0 : ((w5.alloc (.cells #[.bool m5, .slice A5 k5 c5] 24)).alloc (.cells #[.int .i64 0, .int .i64 0] 28)).cell? ⟨w.heap.size, 0, none⟩ = some ((.bool a.num.neg)) := ((PA.alloc _).alloc _).c0
  have t_PA1 : ((w5.alloc (.cells #[.bool m5, .slice A5 k5 c5] 24)).alloc (.cells #[.int .i64 0, .int .i64 0] 28)).cell? ⟨w.heap.size, 1, none⟩ = some ((.slice a.num.A a.num.n a.num.c)) := ((PA.alloc _).alloc _).c1
  have t_PA2 : ((w5.alloc (.cells #[.bool m5, .slice A5 k5 c5] 24)).alloc (.cells #[.int .i64 0, .int .i64 0] 28)).cell? ⟨w.heap.size, 2, none⟩ = some ((.bool a.den.neg)) := ((PA.alloc _).alloc _).c2
  have t_PA3 : ((w5.alloc (.cells #[.bool m5, .slice A5 k5 c5] 24)).alloc (.cells #[.int .i64 0, .int .i64 0] 28)).cell? ⟨w.heap.size, 3, none⟩ = some ((.slice a.den.A a.den.n a.den.c)) := ((PA.alloc _).alloc _).c3
  go_wp2_with fail
  clear t_PA0 t_PA1 t_PA2 t_PA3
  obtain ⟨V3, hV3⟩ : ∃ V3 : World, V3 = ((w5.alloc (.cells #[.bool m5, .slice A5 k5 c5] 24)).alloc (.cells #[.int .i64 0, .int .i64 0] 28)) := ⟨_, rfl⟩
  have bV3 : Below w5.heap.size w5 V3 := by rw [hV3]; (repeat (first | with_reducible exact Below.refl _ _ | with_reducible refine Below.drew ?_ | with_reducible refine below_drewN ?_ _ | with_reducible refine Below.setCell ?_ (by first | (simp; done) | (simp; omega) | omega) _ | with_reducible refine Below.alloc ?_ (by first | (simp; done) | (simp; omega) | omega) _))
  have zV3 : w5.heap.size + 2 ≤ V3.heap.size := by rw [hV3]; simp
  have G6 : Bk2 V3 (w5.heap.size) (.bool m5) (.slice A5 k5 c5) := by rw [hV3]; exact ((Bk2.newAt _ _ (by first | omega | (simp; done) | (simp; omega)) _ _ _).alloc _)
  have G7 : Bk2 V3 (w5.heap.size + 1) (.int .i64 0) (.int .i64 0) := by rw [hV3]; exact (Bk2.newAt _ _ (by first | omega | (simp; done) | (simp; omega)) _ _ _)
  rw [← hV3]
  clear hV3
  replace E := E.trans (bV3.mono E.size)
  replace HA := HA.below bV3 (by omega)
  replace HC := HC.below bV3 (by omega)
  replace PA := PA.below bV3 PA.lt
  replace PR := PR.below bV3 PR.lt
  replace PF := PF.below bV3 PF.lt
  replace hl5 := hl5.below bV3 (by omega)
  clear bV3
  (with_reducible refine (ipow_fit _ B a.den z a.den.val (iv_at HC) (by omega) od.out (by omega) (by omega) (IRep.ival ID.out) t2.out).mono ?_)
  rintro e w6 ⟨m6, A6, k6, c6, x6, rfl, hl6, hr6, hb6⟩
  have sw6 := hb6.size
  replace E := E.trans (hb6.mono E.size)
  replace HA := HA.below hb6 (by omega)
  replace HC := HC.below hb6 (by omega)
  replace PA := PA.below hb6 PA.lt
  replace PR := PR.below hb6 PR.lt
  replace PF := PF.below hb6 PF.lt
  replace hl5 := hl5.below hb6 (by omega)
  replace G6 := G6.below hb6 G6.lt
  replace G7 := G7.below hb6 G7.lt
  clear hb6
  have R6 := Lib.hid hr6
  clear hr6
  have y_G70 := G7.c0
  have z_G70 := G7.z0
  have y_G71 := G7.c1
  have z_G71 := G7.z1
  have lt_G7 := G7.lt
  have y_PR0 := PR.c0
  have z_PR0 := PR.z0
  have y_PR1 := PR.c1
  have z_PR1 := PR.z1
  have y_PR2 := PR.c2
  have z_PR2 := PR.z2
  have y_PR3 := PR.c3
  have z_PR3 := PR.z3
  have lt_PR := PR.lt
  have y_PF0 := PF.c0
  have z_PF0 := PF.z0
  have y_PF1 := PF.c1
  have z_PF1 := PF.z1
  have lt_PF := PF.lt
  have t_G60 := G6.c0
  have t_G61 := G6.c1
  have lt_G6 := G6.lt
  go_wp2_with fail
  clear y_G70 z_G70 y_G71 z_G71 lt_G7 y_PR0 z_PR0 y_PR1 z_PR1 y_PR2 z_PR2 y_PR3 z_PR3 lt_PR y_PF0 z_PF0 y_PF1 z_PF1 lt_PF t_G60 t_G61 lt_G6
  obtain ⟨U4G7, hU4G7⟩ : ∃ U4G7 : World, U4G7 = ((w6.setCell ⟨w5.heap.size + 1, 0, none⟩ (.int .i64 0)).setCell ⟨w5.heap.size + 1, 1, none⟩ (.int .i64 0)) := ⟨_, rfl⟩
  have zU4G7 : U4G7.heap.size = w6.heap.size := by rw [hU4G7]; simp [World.setCell]
  replace E : Below w.heap.size w U4G7 := by rw [hU4G7]; exact ((E.setCell (by first | (simp; done) | (simp; omega)) _).setCell (by first | (simp; done) | (simp; omega)) _)
  replace HA : LRd U4G7 (B) a.num.A a.num.n a.num.c a.num.xs := by rw [hU4G7]; first | exact HA.setB G7 (by simp) (by simp) _ _ | exact HA.setFarL (by omega) _ _
  replace HC : LRd U4G7 (B) a.den.A a.den.n a.den.c a.den.xs := by rw [hU4G7]; first | exact HC.setB G7 (by simp) (by simp) _ _ | exact HC.setFarL (by omega) _ _
  replace PA : Bk4 U4G7 (w.heap.size) (.bool a.num.neg) (.slice a.num.A a.num.n a.num.c) (.bool a.den.neg) (.slice a.den.A a.den.n a.den.c) := by rw [hU4G7]; exact PA.far2 (by omega) _ _
  replace PR : Bk4 U4G7 (w.heap.size + 1) (.bool false) (.slice none 0 0) (.bool false) (.slice none 0 0) := by rw [hU4G7]; exact PR.far2 (by omega) _ _
  replace PF : Bk2 U4G7 (w.heap.size + 2) (.int .i64 0) (.int .i64 0) := by rw [hU4G7]; exact PF.far2 (by omega) _ _
  replace hl5 : LRd U4G7 (w5.heap.size) A5 k5 c5 x5 := by rw [hU4G7]; first | exact hl5.setB G7 (by simp) (by simp) _ _ | exact hl5.setFarL (by omega) _ _
  replace G6 : Bk2 U4G7 (w5.heap.size) (.bool m5) (.slice A5 k5 c5) := by rw [hU4G7]; exact G6.far2 (by omega) _ _
  replace hl6 : LRd U4G7 (w6.heap.size) A6 k6 c6 x6 := by rw [hU4G7]; first | exact hl6.setB G7 (by simp) (by simp) _ _ | exact hl6.setFarL (by omega) _ _
  replace G7 : Bk2 U4G7 (w5.heap.size + 1) (.int .i64 0) (.int .i64 0) := by rw [hU4G7]; exact G7.set _ _
  rw [← hU4G7]
  clear hU4G7
  have zU4G7' := Nat.le_of_eq zU4G7
  replace zU4G7 := Nat.le_of_eq zU4G7.symm
  obtain ⟨U4PR, hU4PR⟩ : ∃ U4PR : World, U4PR = ((((U4G7.setCell ⟨w.heap.size + 1, 0, none⟩ (.bool m5)).setCell ⟨w.heap.size + 1, 1, none⟩ (.slice A5 k5 c5)).setCell ⟨w.heap.size + 1, 2, none⟩ (.bool m6)).setCell ⟨w.heap.size + 1, 3, none⟩ (.slice A6 k6 c6)) := ⟨_, rfl⟩
  have zU4PR : U4PR.heap.size = U4G7.heap.size := by rw [hU4PR]; simp [World.setCell]
  replace E : Below w.heap.size w U4PR := by rw [hU4PR]; exact ((((E.setCell (by first | (simp; done) | (simp; omega)) _).setCell (by first | (simp; done) | (simp; omega)) _).setCell (by first | (simp; done) | (simp; omega)) _).setCell (by first | (simp; done) | (simp; omega)) _)
  replace HA : LRd U4PR (B) a.num.A a.num.n a.num.c a.num.xs := by rw [hU4PR]; first | exact HA.set4 PR (by simp) (by simp) (by simp) (by simp) _ _ _ _ | exact HA.set4O (by omega) _ _ _ _
  replace HC : LRd U4PR (B) a.den.A a.den.n a.den.c a.den.xs := by rw [hU4PR]; first | exact HC.set4 PR (by simp) (by simp) (by simp) (by simp) _ _ _ _ | exact HC.set4O (by omega) _ _ _ _
  replace PA : Bk4 U4PR (w.heap.size) (.bool a.num.neg) (.slice a.num.A a.num.n a.num.c) (.bool a.den.neg) (.slice a.den.A a.den.n a.den.c) := by rw [hU4PR]; exact PA.far4 (by omega) _ _ _ _
  replace PF : Bk2 U4PR (w.heap.size + 2) (.int .i64 0) (.int .i64 0) := by rw [hU4PR]; exact PF.far4 (by omega) _ _ _ _
  replace hl5 : LRd U4PR (w5.heap.size) A5 k5 c5 x5 := by rw [hU4PR]; first | exact hl5.set4 PR (by simp) (by simp) (by simp) (by simp) _ _ _ _ | exact hl5.set4O (by omega) _ _ _ _
  replace G6 : Bk2 U4PR (w5.heap.size) (.bool m5) (.slice A5 k5 c5) := by rw [hU4PR]; exact G6.far4 (by omega) _ _ _ _
  replace G7 : Bk2 U4PR (w5.heap.size + 1) (.int .i64 0) (.int .i64 0) := by rw [hU4PR]; exact G7.far4 (by omega) _ _ _ _
  replace hl6 : LRd U4PR (w6.heap.size) A6 k6 c6 x6 := by rw [hU4PR]; first | exact hl6.set4 PR (by simp) (by simp) (by simp) (by simp) _ _ _ _ | exact hl6.set4O (by omega) _ _ _ _
  replace PR : Bk4 U4PR (w.heap.size + 1) (.bool m5) (.slice A5 k5 c5) (.bool m6) (.slice A6 k6 c6) := by rw [hU4PR]; exact PR.set _ _ _ _
  rw [← hU4PR]
  clear hU4PR
  have zU4PR' := Nat.le_of_eq zU4PR
  replace zU4PR := Nat.le_of_eq zU4PR.symm
  obtain ⟨U4PF, hU4PF⟩ : ∃ U4PF : World, U4PF = ((U4PR.setCell ⟨w.heap.size + 2, 0, none⟩ (.int .i64 0)).setCell ⟨w.heap.size + 2, 1, none⟩ (.int .i64 0)) := ⟨_, rfl⟩
  have zU4PF : U4PF.heap.size = U4PR.heap.size := by rw [hU4PF]; simp [World.setCell]
  replace E : Below w.heap.size w U4PF := by rw [hU4PF]; exact ((E.setCell (by first | (simp; done) | (simp; omega)) _).setCell (by first | (simp; done) | (simp; omega)) _)
  replace HA : LRd U4PF (B) a.num.A a.num.n a.num.c a.num.xs := by rw [hU4PF]; first | exact HA.setB PF (by simp) (by simp) _ _ | exact HA.setFarL (by omega) _ _
  replace HC : LRd U4PF (B) a.den.A a.den.n a.den.c a.den.xs := by rw [hU4PF]; first | exact HC.setB PF (by simp) (by simp) _ _ | exact HC.setFarL (by omega) _ _
  replace PA : Bk4 U4PF (w.heap.size) (.bool a.num.neg) (.slice a.num.A a.num.n a.num.c) (.bool a.den.neg) (.slice a.den.A a.den.n a.den.c) := by rw [hU4PF]; exact PA.far2 (by omega) _ _
  replace PR : Bk4 U4PF (w.heap.size + 1) (.bool m5) (.slice A5 k5 c5) (.bool m6) (.slice A6 k6 c6) := by rw [hU4PF]; exact PR.far2 (by omega) _ _
  replace hl5 : LRd U4PF (w5.heap.size) A5 k5 c5 x5 := by rw [hU4PF]; first | exact hl5.setB PF (by simp) (by simp) _ _ | exact hl5.setFarL (by omega) _ _
  replace G6 : Bk2 U4PF (w5.heap.size) (.bool m5) (.slice A5 k5 c5) := by rw [hU4PF]; exact G6.far2 (by omega) _ _
  replace G7 : Bk2 U4PF (w5.heap.size + 1) (.int .i64 0) (.int .i64 0) := by rw [hU4PF]; exact G7.far2 (by omega) _ _
  replace hl6 : LRd U4PF (w6.heap.size) A6 k6 c6 x6 := by rw [hU4PF]; first | exact hl6.setB PF (by simp) (by simp) _ _ | exact hl6.setFarL (by omega) _ _
  replace PF : Bk2 U4PF (w.heap.size + 2) (.int .i64 0) (.int .i64 0) := by rw [hU4PF]; exact PF.set _ _
  rw [← hU4PF]
  clear hU4PF
  have zU4PF' := Nat.le_of_eq zU4PF
  replace zU4PF := Nat.le_of_eq zU4PF.symm
  obtain ⟨V4, hV4⟩ : ∃ V4 : World, V4 = (U4PF.alloc (.cells #[.bool m6, .slice A6 k6 c6] 24)) := ⟨_, rfl⟩
  have bV4 : Below U4PF.heap.size U4PF V4 := by rw [hV4]; (repeat (first | with_reducible exact Below.refl _ _ | with_reducible refine Below.drew ?_ | with_reducible refine below_drewN ?_ _ | with_reducible refine Below.setCell ?_ (by first | (simp; done) | (simp; omega) | omega) _ | with_reducible refine Below.alloc ?_ (by first | (simp; done) | (simp; omega) | omega) _))
  have zV4 : U4PF.heap.size + 1 ≤ V4.heap.size := by rw [hV4]; simp
  have G8 : Bk2 V4 (w6.heap.size) (.bool m6) (.slice A6 k6 c6) := by rw [hV4]; exact (Bk2.newAt _ _ (by first | omega | (simp; done) | (simp; omega)) _ _ _)
  rw [← hV4]
  clear hV4
  replace E := E.trans (bV4.mono E.size)
  replace HA := HA.below bV4 (by omega)
  replace HC := HC.below bV4 (by omega)
  replace PA := PA.below bV4 PA.lt
  replace PR := PR.below bV4 PR.lt
  replace PF := PF.below bV4 PF.lt
  replace hl5 := hl5.below bV4 (by omega)
  replace G6 := G6.below bV4 G6.lt
  replace G7 := G7.below bV4 G7.lt
  replace hl6 := hl6.below bV4 (by omega)
  clear bV4
  obtain ⟨f0, f1, _, _, _⟩ := PF
  obtain ⟨r0, r1, r2, r3, _, _, _, _, _⟩ := PR
  refine bodyPost_ret (v := .tuple #[ratv m5 A5 k5 c5 m6 A6 k6 c6, flt 0 0]) (by simp [results, Tryz.results27, go_sem, r0, r1, r2, r3, f0, f1]) rfl ⟨m5, A5, k5, c5, x5, m6, A6, k6, c6, x6, rfl, hl5.more (by omega), hl6.more (by omega), R5.out, R6.out, E⟩
set_option maxHeartbeats 8000000 in
theorem rpow_pb1 (w : World) (B : Nat) (a : RV) (H1 : a.at w B) (hB : B ≤ w.heap.size) (z : Int) (oa : a.ok = true) (h0 : 0 ≤ z) (h1 : z ≤ 10000) (t1 : Top128 ≤ (a.num.val ^ z.toNat).natAbs) :
    Calls Tryz.prog 27 #[a.v, .int .i64 z] w (GivesRat w 0 0 14 (-1)) := by
  have hf := rone_ok oa
  have VA := RV.val oa H1
  have t1 := Lib.hid t1
  have IN := Lib.hid VA.num
  have ID := Lib.hid VA.den
  have d0 := Lib.hid VA.pos
  have on := Lib.hid (RV.okn oa)
  have od := Lib.hid (RV.okd oa)
  clear VA oa
  have k1 : decide (z < -10000) = false := decide_eq_false (by omega)
  have k2 : decide (10000 < z) = false := decide_eq_false (by omega)
  have k3 : decide (z < 0) = false := decide_eq_false (by omega)
  have bbase : Below w.heap.size w (((w.alloc (.cells #[.bool a.num.neg, .slice a.num.A a.num.n a.num.c, .bool a.den.neg, .slice a.den.A a.den.n a.den.c] 26)).alloc (.cells #[.bool false, .slice none 0 0, .bool false, .slice none 0 0] 26)).alloc (.cells #[.int .i64 0, .int .i64 0] 28)) := (((bl1 w _).alloc (by simp) _).alloc (by simp; omega) _)
  have HA : LRd w B a.num.A a.num.n a.num.c a.num.xs := H1.1
  have HC : LRd w B a.den.A a.den.n a.den.c a.den.xs := H1.2
  have E : Below w.heap.size w w := Below.refl _ _
  have RR := Lib.hid (rrow1 (((w.alloc (.cells #[.bool a.num.neg, .slice a.num.A a.num.n a.num.c, .bool a.den.neg, .slice a.den.A a.den.n a.den.c] 26)).alloc (.cells #[.bool false, .slice none 0 0, .bool false, .slice none 0 0] 26)).alloc (.cells #[.int .i64 0, .int .i64 0] 28)) B a (RV.at.below H1 bbase (by omega)) (by simp; omega))
  clear bbase
  go_enter Tryz.func27, Tryz.ntmps27
  go_wp2_with fail
  obtain ⟨V0, hV0⟩ : ∃ V0 : World, V0 = ((((w.alloc (.cells #[.bool a.num.neg, .slice a.num.A a.num.n a.num.c, .bool a.den.neg, .slice a.den.A a.den.n a.den.c] 26)).alloc (.cells #[.bool false, .slice none 0 0, .bool false, .slice none 0 0] 26)).alloc (.cells #[.int .i64 0, .int .i64 0] 28)).alloc (.cells #[.bool a.num.neg, .slice a.num.A a.num.n a.num.c, .bool a.den.neg, .slice a.den.A a.den.n a.den.c] 26)) := ⟨_, rfl⟩
  have bV0 : Below w.heap.size w V0 := by rw [hV0]; (repeat (first | with_reducible exact Below.refl _ _ | with_reducible refine Below.drew ?_ | with_reducible refine below_drewN ?_ _ | with_reducible refine Below.setCell ?_ (by first | (simp; done) | (simp; omega) | omega) _ | with_reducible refine Below.alloc ?_ (by first | (simp; done) | (simp; omega) | omega) _))
  have zV0 : w.heap.size + 4 ≤ V0.heap.size := by rw [hV0]; simp
  have PA : Bk4 V0 (w.heap.size) (.bool a.num.neg) (.slice a.num.A a.num.n a.num.c) (.bool a.den.neg) (.slice a.den.A a.den.n a.den.c) := by rw [hV0]; exact ((((Bk4.newAt _ _ (by first | omega | (simp; done) | (simp; omega)) _ _ _ _ _).alloc _).alloc _).alloc _)
  have PR : Bk4 V0 (w.heap.size + 1) (.bool false) (.slice none 0 0) (.bool false) (.slice none 0 0) := by rw [hV0]; exact (((Bk4.newAt _ _ (by first | omega | (simp; done) | (simp; omega)) _ _ _ _ _).alloc _).alloc _)
  have PF : Bk2 V0 (w.heap.size + 2) (.int .i64 0) (.int .i64 0) := by rw [hV0]; exact ((Bk2.newAt _ _ (by first | omega | (simp; done) | (simp; omega)) _ _ _).alloc _)
  replace RR : Hid (RRow V0 B (w.heap.size + 3) [a]) := by have h9 := RR.out; rw [hV0]; rw [show ((((w.alloc (.cells #[.bool a.num.neg, .slice a.num.A a.num.n a.num.c, .bool a.den.neg, .slice a.den.A a.den.n a.den.c] 26)).alloc (.cells #[.bool false, .slice none 0 0, .bool false, .slice none 0 0] 26)).alloc (.cells #[.int .i64 0, .int .i64 0] 28))).heap.size = w.heap.size + 3 by simp] at h9; exact h9
  rw [← hV0]
  clear hV0
  replace E := E.trans (bV0.mono E.size)
  replace HA := HA.below bV0 (by omega)
  replace HC := HC.below bV0 (by omega)
  clear bV0
  (with_reducible refine (rcheck_any _ B (w.heap.size + 3) 1 [a] RR.out rfl (by omega) (by omega)).mono ?_)
  rintro e w1 ⟨rfl, hb1⟩
  have sw1 := hb1.size
  replace E := E.trans (hb1.mono E.size)
  replace HA := HA.below hb1 (by omega)
  replace HC := HC.below hb1 (by omega)
  replace PA := PA.below hb1 PA.lt
  replace PR := PR.below hb1 PR.lt
  replace PF := PF.below hb1 PF.lt
  clear hb1
  rw [hf]
  clear RR
  have t_PA0 : (w1.alloc (.cells #[.int .i64 0, .int .i64 0] 28)).cell? ⟨w.heap.size, 0, none⟩ = some ((.bool a.num.neg)) := (PA.alloc _).c0
  have t_PA1 : (w1.alloc (.cells #[.int .i64 0, .int .i64 0] 28)).cell? ⟨w.heap.size, 1, none⟩ = some ((.slice a.num.A a.num.n a.num.c)) := (PA.alloc _).c1
  have t_PA2 : (w1.alloc (.cells #[.int .i64 0, .int .i64 0] 28)).cell? ⟨w.heap.size, 2, none⟩ = some ((.bool a.den.neg)) := (PA.alloc _).c2
  have t_PA3 : (w1.alloc (.cells #[.int .i64 0, .int .i64 0] 28)).cell? ⟨w.heap.size, 3, none⟩ = some ((.slice a.den.A a.den.n a.den.c)) := (PA.alloc _).c3
  go_upto_region 4 with fail
  clear t_PA0 t_PA1 t_PA2 t_PA3
  obtain ⟨V1, hV1⟩ : ∃ V1 : World, V1 = (w1.alloc (.cells #[.int .i64 0, .int .i64 0] 28)) := ⟨_, rfl⟩
  have bV1 : Below w1.heap.size w1 V1 := by rw [hV1]; (repeat (first | with_reducible exact Below.refl _ _ | with_reducible refine Below.drew ?_ | with_reducible refine below_drewN ?_ _ | with_reducible refine Below.setCell ?_ (by first | (simp; done) | (simp; omega) | omega) _ | with_reducible refine Below.alloc ?_ (by first | (simp; done) | (simp; omega) | omega) _))
  have zV1 : w1.heap.size + 1 ≤ V1.heap.size := by rw [hV1]; simp
  have F6 : Bk2 V1 (w1.heap.size) (.int .i64 0) (.int .i64 0) := by rw [hV1]; exact (Bk2.newAt _ _ (by first | omega | (simp; done) | (simp; omega)) _ _ _)
  rw [← hV1]
  clear hV1
  replace E := E.trans (bV1.mono E.size)
  replace HA := HA.below bV1 (by omega)
  replace HC := HC.below bV1 (by omega)
  replace PA := PA.below bV1 PA.lt
  replace PR := PR.below bV1 PR.lt
  replace PF := PF.below bV1 PF.lt
  clear bV1
  clear F6
  have t_PA0 := PA.c0
  have t_PA1 := PA.c1
  have t_PA2 := PA.c2
  have t_PA3 := PA.c3
  go_wp2_with fail
  clear t_PA0 t_PA1 t_PA2 t_PA3
  have EZ := Lib.hid (show True from trivial)
  (with_reducible refine (ipow_big _ B a.num z a.num.val (iv_at HA) (by omega) on.out (by omega) (by omega) (IRep.ival IN.out) t1.out).mono ?_)
  rintro e w5 ⟨m5, A5, k5, c5, x5, rfl, hl5, hr5, hb5⟩
  have sw5 := hb5.size
  replace E := E.trans (hb5.mono E.size)
  replace HA := HA.below hb5 (by omega)
  replace HC := HC.below hb5 (by omega)
  replace PA := PA.below hb5 PA.lt
  replace PR := PR.below hb5 PR.lt
  replace PF := PF.below hb5 PF.lt
  clear hb5
  clear hl5 hr5
  go_upto_region 12 with fail
  obtain ⟨V3, hV3⟩ : ∃ V3 : World, V3 = ((w5.alloc (.cells #[.bool m5, .slice A5 k5 c5] 24)).alloc (.cells #[.int .i64 14, .int .i64 (-1)] 28)) := ⟨_, rfl⟩
  have bV3 : Below w5.heap.size w5 V3 := by rw [hV3]; (repeat (first | with_reducible exact Below.refl _ _ | with_reducible refine Below.drew ?_ | with_reducible refine below_drewN ?_ _ | with_reducible refine Below.setCell ?_ (by first | (simp; done) | (simp; omega) | omega) _ | with_reducible refine Below.alloc ?_ (by first | (simp; done) | (simp; omega) | omega) _))
  have zV3 : w5.heap.size + 2 ≤ V3.heap.size := by rw [hV3]; simp
  have G6 : Bk2 V3 (w5.heap.size) (.bool m5) (.slice A5 k5 c5) := by rw [hV3]; exact ((Bk2.newAt _ _ (by first | omega | (simp; done) | (simp; omega)) _ _ _).alloc _)
  have G7 : Bk2 V3 (w5.heap.size + 1) (.int .i64 14) (.int .i64 (-1)) := by rw [hV3]; exact (Bk2.newAt _ _ (by first | omega | (simp; done) | (simp; omega)) _ _ _)
  rw [← hV3]
  clear hV3
  replace E := E.trans (bV3.mono E.size)
  replace HA := HA.below bV3 (by omega)
  replace HC := HC.below bV3 (by omega)
  replace PA := PA.below bV3 PA.lt
  replace PR := PR.below bV3 PR.lt
  replace PF := PF.below bV3 PF.lt
  clear bV3
  have lt6 := G7.lt
  have ltR := PR.lt
  have ltF := PF.lt
  obtain ⟨_, _, _, _, _⟩ := G7
  obtain ⟨f0, f1, z0, z1, _⟩ := PF
  obtain ⟨r0, r1, r2, r3, y0, y1, y2, y3, _⟩ := PR
  go_region
  go_wp2_with fail
  refine bodyPost_ret (v := .tuple #[ratv false none 0 0 false none 0 0, flt 14 (-1)]) (by simp [results, Tryz.results27, go_sem, r0, r1, r2, r3, f0, f1]) rfl ⟨false, none, 0, 0, [], false, none, 0, 0, [], rfl, nil_lrd _, nil_lrd _, IRep.zero, IRep.zero, ?_⟩
  (repeat (first | with_reducible exact E | with_reducible refine Below.drew ?_ | with_reducible refine below_drewN ?_ _ | with_reducible refine Below.setCell ?_ (by first | (simp; done) | (simp; omega) | omega) _))
set_option maxHeartbeats 8000000 in
theorem rpow_pb2 (w : World) (B : Nat) (a : RV) (H1 : a.at w B) (hB : B ≤ w.heap.size) (z : Int) (oa : a.ok = true) (h0 : 0 ≤ z) (h1 : z ≤ 10000) (t1 : (a.num.val ^ z.toNat).natAbs < Top128) (t2 : Top128 ≤ (a.den.val ^ z.toNat).natAbs) :
    Calls Tryz.prog 27 #[a.v, .int .i64 z] w (GivesRat w 0 0 14 (-1)) := by
  have hf := rone_ok oa
  have VA := RV.val oa H1
  have t1 := Lib.hid t1
  have t2 := Lib.hid t2
  have IN := Lib.hid VA.num
  have ID := Lib.hid VA.den
  have d0 := Lib.hid VA.pos
  have on := Lib.hid (RV.okn oa)
  have od := Lib.hid (RV.okd oa)
  clear VA oa
  have k1 : decide (z < -10000) = false := decide_eq_false (by omega)
  have k2 : decide (10000 < z) = false := decide_eq_false (by omega)
  have k3 : decide (z < 0) = false := decide_eq_false (by omega)
  have bbase : Below w.heap.size w (((w.alloc (.cells #[.bool a.num.neg, .slice a.num.A a.num.n a.num.c, .bool a.den.neg, .slice a.den.A a.den.n a.den.c] 26)).alloc (.cells #[.bool false, .slice none 0 0, .bool false, .slice none 0 0] 26)).alloc (.cells #[.int .i64 0, .int .i64 0] 28)) := (((bl1 w _).alloc (by simp) _).alloc (by simp; omega) _)
  have HA : LRd w B a.num.A a.num.n a.num.c a.num.xs := H1.1
  have HC : LRd w B a.den.A a.den.n a.den.c a.den.xs := H1.2
  have E : Below w.heap.size w w := Below.refl _ _
  have RR := Lib.hid (rrow1 (((w.alloc (.cells #[.bool a.num.neg, .slice a.num.A a.num.n a.num.c, .bool a.den.neg, .slice a.den.A a.den.n a.den.c] 26)).alloc (.cells #[.bool false, .slice none 0 0, .bool false, .slice none 0 0] 26)).alloc (.cells #[.int .i64 0, .int .i64 0] 28)) B a (RV.at.below H1 bbase (by omega)) (by simp; omega))
  clear bbase
  go_enter Tryz.func27, Tryz.ntmps27
  go_wp2_with fail
  obtain ⟨V0, hV0⟩ : ∃ V0 : World, V0 = ((((w.alloc (.cells #[.bool a.num.neg, .slice a.num.A a.num.n a.num.c, .bool a.den.neg, .slice a.den.A a.den.n a.den.c] 26)).alloc (.cells #[.bool false, .slice none 0 0, .bool false, .slice none 0 0] 26)).alloc (.cells #[.int .i64 0, .int .i64 0] 28)).alloc (.cells #[.bool a.num.neg, .slice a.num.A a.num.n a.num.c, .bool a.den.neg, .slice a.den.A a.den.n a.den.c] 26)) := ⟨_, rfl⟩
  have bV0 : Below w.heap.size w V0 := by rw [hV0]; (repeat (first | with_reducible exact Below.refl _ _ | with_reducible refine Below.drew ?_ | with_reducible refine below_drewN ?_ _ | with_reducible refine Below.setCell ?_ (by first | (simp; done) | (simp; omega) | omega) _ | with_reducible refine Below.alloc ?_ (by first | (simp; done) | (simp; omega) | omega) _))
  have zV0 : w.heap.size + 4 ≤ V0.heap.size := by rw [hV0]; simp
  have PA : Bk4 V0 (w.heap.size) (.bool a.num.neg) (.slice a.num.A a.num.n a.num.c) (.bool a.den.neg) (.slice a.den.A a.den.n a.den.c) := by rw [hV0]; exact ((((Bk4.newAt _ _ (by first | omega | (simp; done) | (simp; omega)) _ _ _ _ _).alloc _).alloc _).alloc _)
  have PR : Bk4 V0 (w.heap.size + 1) (.bool false) (.slice none 0 0) (.bool false) (.slice none 0 0) := by rw [hV0]; exact (((Bk4.newAt _ _ (by first | omega | (simp; done) | (simp; omega)) _ _ _ _ _).alloc _).alloc _)
  have PF : Bk2 V0 (w.heap.size + 2) (.int .i64 0) (.int .i64 0) := by rw [hV0]; exact ((Bk2.newAt _ _ (by first | omega | (simp; done) | (simp; omega)) _ _ _).alloc _)
  replace RR : Hid (RRow V0 B (w.heap.size + 3) [a]) := by have h9 := RR.out; rw [hV0]; rw [show ((((w.alloc (.cells #[.bool a.num.neg, .slice a.num.A a.num.n a.num.c, .bool a.den.neg, .slice a.den.A a.den.n a.den.c] 26)).alloc (.cells #[.bool false, .slice none 0 0, .bool false, .slice none 0 0] 26)).alloc (.cells #[.int .i64 0, .int .i64 0] 28))).heap.size = w.heap.size + 3 by simp] at h9; exact h9
  rw [← hV0]
  clear hV0
  replace E := E.trans (bV0.mono E.size)
  replace HA := HA.below bV0 (by omega)
  replace HC := HC.below bV0 (by omega)
  clear bV0
  (with_reducible refine (rcheck_any _ B (w.heap.size + 3) 1 [a] RR.out rfl (by omega) (by omega)).mono ?_)
  rintro e w1 ⟨rfl, hb1⟩
  have sw1 := hb1.size
  replace E := E.trans (hb1.mono E.size)
  replace HA := HA.below hb1 (by omega)
  replace HC := HC.below hb1 (by omega)
  replace PA := PA.below hb1 PA.lt
  replace PR := PR.below hb1 PR.lt
  replace PF := PF.below hb1 PF.lt
  clear hb1
  rw [hf]
  clear RR
  have t_PA0 : (w1.alloc (.cells #[.int .i64 0, .int .i64 0] 28)).cell? ⟨w.heap.size, 0, none⟩ = some ((.bool a.num.neg)) := (PA.alloc _).c0
  have t_PA1 : (w1.alloc (.cells #[.int .i64 0, .int .i64 0] 28)).cell? ⟨w.heap.size, 1, none⟩ = some ((.slice a.num.A a.num.n a.num.c)) := (PA.alloc _).c1
  have t_PA2 : (w1.alloc (.cells #[.int .i64 0, .int .i64 0] 28)).cell? ⟨w.heap.size, 2, none⟩ = some ((.bool a.den.neg)) := (PA.alloc _).c2
  have t_PA3 : (w1.alloc (.cells #[.int .i64 0, .int .i64 0] 28)).cell? ⟨w.heap.size, 3, none⟩ = some ((.slice a.den.A a.den.n a.den.c)) := (PA.alloc _).c3
  go_upto_region 4 with fail
  clear t_PA0 t_PA1 t_PA2 t_PA3
  obtain ⟨V1, hV1⟩ : ∃ V1 : World, V1 = (w1.alloc (.cells #[.int .i64 0, .int .i64 0] 28)) := ⟨_, rfl⟩
  have bV1 : Below w1.heap.size w1 V1 := by rw [hV1]; (repeat (first | with_reducible exact Below.refl _ _ | with_reducible refine Below.drew ?_ | with_reducible refine below_drewN ?_ _ | with_reducible refine Below.setCell ?_ (by first | (simp; done) | (simp; omega) | omega) _ | with_reducible refine Below.alloc ?_ (by first | (simp; done) | (simp; omega) | omega) _))
  have zV1 : w1.heap.size + 1 ≤ V1.heap.size := by rw [hV1]; simp
  have F6 : Bk2 V1 (w1.heap.size) (.int .i64 0) (.int .i64 0) := by rw [hV1]; exact (Bk2.newAt _ _ (by first | omega | (simp; done) | (simp; omega)) _ _ _)
  rw [← hV1]
  clear hV1
  replace E := E.trans (bV1.mono E.size)
  replace HA := HA.below bV1 (by omega)
  replace HC := HC.below bV1 (by omega)
  replace PA := PA.below bV1 PA.lt
  replace PR := PR.below bV1 PR.lt
  replace PF := PF.below bV1 PF.lt
  clear bV1
  clear F6
  have t_PA0 := PA.c0
  have t_PA1 := PA.c1
  have t_PA2 := PA.c2
  have t_PA3 := PA.c3
  go_wp2_with fail
  clear t_PA0 t_PA1 t_PA2 t_PA3
  have EZ := Lib.hid (show True from trivial)
  (with_reducible refine (ipow_fit _ B a.num z a.num.val (iv_at HA) (by omega) on.out (by omega) (by omega) (IRep.ival IN.out) t1.out).mono ?_)
  rintro e w5 ⟨m5, A5, k5, c5, x5, rfl, hl5, hr5, hb5⟩
  have sw5 := hb5.size
  replace E := E.trans (hb5.mono E.size)
  replace HA := HA.below hb5 (by omega)
  replace HC := HC.below hb5 (by omega)
  replace PA := PA.below hb5 PA.lt
  replace PR := PR.below hb5 PR.lt
  replace PF := PF.below hb5 PF.lt
  clear hb5
  have R5 := Lib.hid hr5
  clear hr5
  have t_PA0 : ((w5.alloc (.cells #[.bool m5, .slice A5 k5 c5] 24)).alloc (.cells #[.int .i64 0, .int .i64 0] 28)).cell? ⟨w.heap.size, 0, none⟩ = some ((.bool a.num.neg)) := ((PA.alloc _).alloc _).c0
  have t_PA1 : ((w5.alloc (.cells #[.bool m5, .slice A5 k5 c5] 24)).alloc (.cells #[.int .i64 0, .int .i64 0] 28)).cell? ⟨w.heap.size, 1, none⟩ = some ((.slice a.num.A a.num.n a.num.c)) := ((PA.alloc _).alloc _).c1
  have t_PA2 : ((w5.alloc (.cells #[.bool m5, .slice A5 k5 c5] 24)).alloc (.cells #[.int .i64 0, .int .i64 0] 28)).cell? ⟨w.heap.size, 2, none⟩ = some ((.bool a.den.neg)) := ((PA.alloc _).alloc _).c2
  have t_PA3 : ((w5.alloc (.cells #[.bool m5, .slice A5 k5 c5] 24)).alloc (.cells #[.int .i64 0, .int .i64 0] 28)).cell? ⟨w.heap.size, 3, none⟩ = some ((.slice a.den.A a.den.n a.den.c)) := ((PA.alloc _).alloc _).c3
  go_wp2_with fail
  clear t_PA0 t_PA1 t_PA2 t_PA3
  obtain ⟨V3, hV3⟩ : ∃ V3 : World, V3 = ((w5.alloc (.cells #[.bool m5, .slice A5 k5 c5] 24)).alloc (.cells #[.int .i64 0, .int .i64 0] 28)) := ⟨_, rfl⟩
  have bV3 : Below w5.heap.size w5 V3 := by rw [hV3]; (repeat (first | with_reducible exact Below.refl _ _ | with_reducible refine Below.drew ?_ | with_reducible refine below_drewN ?_ _ | with_reducible refine Below.setCell ?_ (by first | (simp; done) | (simp; omega) | omega) _ | with_reducible refine Below.alloc ?_ (by first | (simp; done) | (simp; omega) | omega) _))
  have zV3 : w5.heap.size + 2 ≤ V3.heap.size := by rw [hV3]; simp
  have G6 : Bk2 V3 (w5.heap.size) (.bool m5) (.slice A5 k5 c5) := by rw [hV3]; exact ((Bk2.newAt _ _ (by first | omega | (simp; done) | (simp; omega)) _ _ _).alloc _)
  have G7 : Bk2 V3 (w5.heap.size + 1) (.int .i64 0) (.int .i64 0) := by rw [hV3]; exact (Bk2.newAt _ _ (by first | omega | (simp; done) | (simp; omega)) _ _ _)
  rw [← hV3]
  clear hV3
  replace E := E.trans (bV3.mono E.size)
  replace HA := HA.below bV3 (by omega)
  replace HC := HC.below bV3 (by omega)
  replace PA := PA.below bV3 PA.lt
  replace PR := PR.below bV3 PR.lt
  replace PF := PF.below bV3 PF.lt
  replace hl5 := hl5.below bV3 (by omega)
  clear bV3
  (with_reducible refine (ipow_big _ B a.den z a.den.val (iv_at HC) (by omega) od.out (by omega) (by omega) (IRep.ival ID.out) t2.out).mono ?_)
  rintro e w6 ⟨m6, A6, k6, c6, x6, rfl, hl6, hr6, hb6⟩
  have sw6 := hb6.size
  replace E := E.trans (hb6.mono E.size)
  replace HA := HA.below hb6 (by omega)
  replace HC := HC.below hb6 (by omega)
  replace PA := PA.below hb6 PA.lt
  replace PR := PR.below hb6 PR.lt
  replace PF := PF.below hb6 PF.lt
  replace hl5 := hl5.below hb6 (by omega)
  replace G6 := G6.below hb6 G6.lt
  replace G7 := G7.below hb6 G7.lt
  clear hb6
  clear hl6 hr6
  have y_G70 := G7.c0
  have z_G70 := G7.z0
  have y_G71 := G7.c1
  have z_G71 := G7.z1
  have lt_G7 := G7.lt
  go_upto_region 15 with fail
  clear y_G70 z_G70 y_G71 z_G71 lt_G7
  obtain ⟨U4G7, hU4G7⟩ : ∃ U4G7 : World, U4G7 = ((w6.setCell ⟨w5.heap.size + 1, 0, none⟩ (.int .i64 14)).setCell ⟨w5.heap.size + 1, 1, none⟩ (.int .i64 (-1))) := ⟨_, rfl⟩
  have zU4G7 : U4G7.heap.size = w6.heap.size := by rw [hU4G7]; simp [World.setCell]
  replace E : Below w.heap.size w U4G7 := by rw [hU4G7]; exact ((E.setCell (by first | (simp; done) | (simp; omega)) _).setCell (by first | (simp; done) | (simp; omega)) _)
  replace HA : LRd U4G7 (B) a.num.A a.num.n a.num.c a.num.xs := by rw [hU4G7]; first | exact HA.setB G7 (by simp) (by simp) _ _ | exact HA.setFarL (by omega) _ _
  replace HC : LRd U4G7 (B) a.den.A a.den.n a.den.c a.den.xs := by rw [hU4G7]; first | exact HC.setB G7 (by simp) (by simp) _ _ | exact HC.setFarL (by omega) _ _
  replace PA : Bk4 U4G7 (w.heap.size) (.bool a.num.neg) (.slice a.num.A a.num.n a.num.c) (.bool a.den.neg) (.slice a.den.A a.den.n a.den.c) := by rw [hU4G7]; exact PA.far2 (by omega) _ _
  replace PR : Bk4 U4G7 (w.heap.size + 1) (.bool false) (.slice none 0 0) (.bool false) (.slice none 0 0) := by rw [hU4G7]; exact PR.far2 (by omega) _ _
  replace PF : Bk2 U4G7 (w.heap.size + 2) (.int .i64 0) (.int .i64 0) := by rw [hU4G7]; exact PF.far2 (by omega) _ _
  replace hl5 : LRd U4G7 (w5.heap.size) A5 k5 c5 x5 := by rw [hU4G7]; first | exact hl5.setB G7 (by simp) (by simp) _ _ | exact hl5.setFarL (by omega) _ _
  replace G6 : Bk2 U4G7 (w5.heap.size) (.bool m5) (.slice A5 k5 c5) := by rw [hU4G7]; exact G6.far2 (by omega) _ _
  replace G7 : Bk2 U4G7 (w5.heap.size + 1) (.int .i64 14) (.int .i64 (-1)) := by rw [hU4G7]; exact G7.set _ _
  rw [← hU4G7]
  clear hU4G7
  have zU4G7' := Nat.le_of_eq zU4G7
  replace zU4G7 := Nat.le_of_eq zU4G7.symm
  obtain ⟨V4, hV4⟩ : ∃ V4 : World, V4 = (U4G7.alloc (.cells #[.bool m6, .slice A6 k6 c6] 24)) := ⟨_, rfl⟩
  have bV4 : Below U4G7.heap.size U4G7 V4 := by rw [hV4]; (repeat (first | with_reducible exact Below.refl _ _ | with_reducible refine Below.drew ?_ | with_reducible refine below_drewN ?_ _ | with_reducible refine Below.setCell ?_ (by first | (simp; done) | (simp; omega) | omega) _ | with_reducible refine Below.alloc ?_ (by first | (simp; done) | (simp; omega) | omega) _))
  have zV4 : U4G7.heap.size + 1 ≤ V4.heap.size := by rw [hV4]; simp
  have G8 : Bk2 V4 (w6.heap.size) (.bool m6) (.slice A6 k6 c6) := by rw [hV4]; exact (Bk2.newAt _ _ (by first | omega | (simp; done) | (simp; omega)) _ _ _)
  rw [← hV4]
  clear hV4
  replace E := E.trans (bV4.mono E.size)
  replace HA := HA.below bV4 (by omega)
  replace HC := HC.below bV4 (by omega)
  replace PA := PA.below bV4 PA.lt
  replace PR := PR.below bV4 PR.lt
  replace PF := PF.below bV4 PF.lt
  replace hl5 := hl5.below bV4 (by omega)
  replace G6 := G6.below bV4 G6.lt
  replace G7 := G7.below bV4 G7.lt
  clear bV4
  have lt6 := G7.lt
  have ltR := PR.lt
  have ltF := PF.lt
  obtain ⟨_, _, _, _, _⟩ := G7
  obtain ⟨f0, f1, z0, z1, _⟩ := PF
  obtain ⟨r0, r1, r2, r3, y0, y1, y2, y3, _⟩ := PR
  go_region
  go_wp2_with fail
  refine bodyPost_ret (v := .tuple #[ratv false none 0 0 false none 0 0, flt 14 (-1)]) (by simp [results, Tryz.results27, go_sem, r0, r1, r2, r3, f0, f1]) rfl ⟨false, none, 0, 0, [], false, none, 0, 0, [], rfl, nil_lrd _, nil_lrd _, IRep.zero, IRep.zero, ?_⟩
  (repeat (first | with_reducible exact E | with_reducible refine Below.drew ?_ | with_reducible refine below_drewN ?_ _ | with_reducible refine Below.setCell ?_ (by first | (simp; done) | (simp; omega) | omega) _))
end Go.Proofs.YtflmcgoijofpdaaGreat
