/- RationalArithmetic: valid arguments, a divisor other than 0. -/
import Derived.Test.YtdhdkknaagadaaaGreatJAr2
import Derived.Deep.DeepCutAuto
namespace Go.Proofs.YtdhdkknaagadaaaGreat
open Go.RowKit
set_option maxHeartbeats 400000
set_option maxRecDepth 100000
set_option linter.unusedSimpArgs false
set_option linter.unusedVariables false

set_option maxHeartbeats 40000000 in
theorem ar_some (w : World) (a b : RV) (HA : a.at w w.heap.size) (HB : b.at w w.heap.size) (hf : rfault [a, b] 0 = (0, 0)) (oa : Hid (a.ok = true)) (ob : Hid (b.ok = true)) (hnb : Hid (b.num.val ≠ 0)) (hz0 : (!b.num.neg && decide (b.num.n = 0)) = false) :
    Calls Tryz.prog 3 #[a.v, b.v] w (fun e w' => e = .returned (.bool true) ∧ Below w.heap.size w w') := by
  have Ha1 : LRd w w.heap.size a.num.A a.num.n a.num.c a.num.xs := HA.1
  have Ha2 : LRd w w.heap.size a.den.A a.den.n a.den.c a.den.xs := HA.2
  have Hb1 : LRd w w.heap.size b.num.A b.num.n b.num.c b.num.xs := HB.1
  have Hb2 : LRd w w.heap.size b.den.A b.den.n b.den.c b.den.xs := HB.2
  have E : Below w.heap.size w w := Below.refl _ _
  go_enter Tryz.func3, Tryz.ntmps3
  go_upto_region 1 with fail
  obtain ⟨V0, hV0⟩ : ∃ V0 : World, V0 = ((w.alloc (.cells #[.bool a.num.neg, .slice a.num.A a.num.n a.num.c, .bool a.den.neg, .slice a.den.A a.den.n a.den.c] 26)).alloc (.cells #[.bool b.num.neg, .slice b.num.A b.num.n b.num.c, .bool b.den.neg, .slice b.den.A b.den.n b.den.c] 26)) := ⟨_, rfl⟩
  have bV0 : Below w.heap.size w V0 := by rw [hV0]; (repeat (first | with_reducible exact Below.refl _ _ | with_reducible refine Below.drew ?_ | with_reducible refine below_drewN ?_ _ | with_reducible refine Below.setCell ?_ (by first | (simp; done) | (simp; omega) | omega) _ | with_reducible refine Below.alloc ?_ (by first | (simp; done) | (simp; omega) | omega) _))
  have zV0 : w.heap.size + 2 ≤ V0.heap.size := by rw [hV0]; simp
  have PA : Bk4 V0 (w.heap.size) (.bool a.num.neg) (.slice a.num.A a.num.n a.num.c) (.bool a.den.neg) (.slice a.den.A a.den.n a.den.c) := by rw [hV0]; exact ((Bk4.newAt _ _ (by first | omega | (simp; done) | (simp; omega)) _ _ _ _ _).alloc _)
  have PB : Bk4 V0 (w.heap.size + 1) (.bool b.num.neg) (.slice b.num.A b.num.n b.num.c) (.bool b.den.neg) (.slice b.den.A b.den.n b.den.c) := by rw [hV0]; exact (Bk4.newAt _ _ (by first | omega | (simp; done) | (simp; omega)) _ _ _ _ _)
  rw [← hV0]
  clear hV0
  replace E := E.trans (bV0.mono E.size)
  replace Ha1 := Ha1.below bV0 (by omega)
  replace Ha2 := Ha2.below bV0 (by omega)
  replace Hb1 := Hb1.below bV0 (by omega)
  replace Hb2 := Hb2.below bV0 (by omega)
  clear bV0
  have RR := Lib.hid (rrow2 V0 w.heap.size a b (rv_at Ha1 Ha2) (rv_at Hb1 Hb2) (by omega))
  have p_PA0 := PA.c0
  have p_PA1 := PA.c1
  have p_PA2 := PA.c2
  have p_PA3 := PA.c3
  have p_PB0 := PB.c0
  have p_PB1 := PB.c1
  have p_PB2 := PB.c2
  have p_PB3 := PB.c3
  go_wp2_with fail
  clear p_PA0 p_PA1 p_PA2 p_PA3 p_PB0 p_PB1 p_PB2 p_PB3
  obtain ⟨V1, hV1⟩ : ∃ V1 : World, V1 = (V0.alloc (.cells #[.bool a.num.neg, .slice a.num.A a.num.n a.num.c, .bool a.den.neg, .slice a.den.A a.den.n a.den.c, .bool b.num.neg, .slice b.num.A b.num.n b.num.c, .bool b.den.neg, .slice b.den.A b.den.n b.den.c] 26)) := ⟨_, rfl⟩
  have bV1 : Below V0.heap.size V0 V1 := by rw [hV1]; (repeat (first | with_reducible exact Below.refl _ _ | with_reducible refine Below.drew ?_ | with_reducible refine below_drewN ?_ _ | with_reducible refine Below.setCell ?_ (by first | (simp; done) | (simp; omega) | omega) _ | with_reducible refine Below.alloc ?_ (by first | (simp; done) | (simp; omega) | omega) _))
  have zV1 : V0.heap.size + 1 ≤ V1.heap.size := by rw [hV1]; simp
  replace RR : Hid (RRow V1 w.heap.size V0.heap.size [a, b]) := by rw [hV1]; exact RR
  rw [← hV1]
  clear hV1
  replace E := E.trans (bV1.mono E.size)
  replace Ha1 := Ha1.below bV1 (by omega)
  replace Ha2 := Ha2.below bV1 (by omega)
  replace Hb1 := Hb1.below bV1 (by omega)
  replace Hb2 := Hb2.below bV1 (by omega)
  replace PA := PA.below bV1 PA.lt
  replace PB := PB.below bV1 PB.lt
  clear bV1
  (with_reducible refine (ratioFaults_any _ w.heap.size V0.heap.size 2 [a, b] RR.out rfl (by omega) (by omega)).mono ?_)
  rintro e w1 ⟨rfl, hb1⟩
  have sw1 := hb1.size
  replace E := E.trans (hb1.mono E.size)
  replace Ha1 := Ha1.below hb1 (by omega)
  replace Ha2 := Ha2.below hb1 (by omega)
  replace Hb1 := Hb1.below hb1 (by omega)
  replace Hb2 := Hb2.below hb1 (by omega)
  replace PA := PA.below hb1 PA.lt
  replace PB := PB.below hb1 PB.lt
  clear hb1
  rw [hf]
  clear RR
  have t_PA0 : (w1.alloc (.cells #[.int .i64 0, .int .i64 0] 28)).cell? ⟨w.heap.size, 0, none⟩ = some ((.bool a.num.neg)) := (PA.alloc _).c0
  have t_PA1 : (w1.alloc (.cells #[.int .i64 0, .int .i64 0] 28)).cell? ⟨w.heap.size, 1, none⟩ = some ((.slice a.num.A a.num.n a.num.c)) := (PA.alloc _).c1
  have t_PA2 : (w1.alloc (.cells #[.int .i64 0, .int .i64 0] 28)).cell? ⟨w.heap.size, 2, none⟩ = some ((.bool a.den.neg)) := (PA.alloc _).c2
  have t_PA3 : (w1.alloc (.cells #[.int .i64 0, .int .i64 0] 28)).cell? ⟨w.heap.size, 3, none⟩ = some ((.slice a.den.A a.den.n a.den.c)) := (PA.alloc _).c3
  have t_PB0 : (w1.alloc (.cells #[.int .i64 0, .int .i64 0] 28)).cell? ⟨w.heap.size + 1, 0, none⟩ = some ((.bool b.num.neg)) := (PB.alloc _).c0
  have t_PB1 : (w1.alloc (.cells #[.int .i64 0, .int .i64 0] 28)).cell? ⟨w.heap.size + 1, 1, none⟩ = some ((.slice b.num.A b.num.n b.num.c)) := (PB.alloc _).c1
  have t_PB2 : (w1.alloc (.cells #[.int .i64 0, .int .i64 0] 28)).cell? ⟨w.heap.size + 1, 2, none⟩ = some ((.bool b.den.neg)) := (PB.alloc _).c2
  have t_PB3 : (w1.alloc (.cells #[.int .i64 0, .int .i64 0] 28)).cell? ⟨w.heap.size + 1, 3, none⟩ = some ((.slice b.den.A b.den.n b.den.c)) := (PB.alloc _).c3
  go_wp2_with fail
  clear t_PA0 t_PA1 t_PA2 t_PA3 t_PB0 t_PB1 t_PB2 t_PB3
  obtain ⟨V2, hV2⟩ : ∃ V2 : World, V2 = (w1.alloc (.cells #[.int .i64 0, .int .i64 0] 28)) := ⟨_, rfl⟩
  have bV2 : Below w1.heap.size w1 V2 := by rw [hV2]; (repeat (first | with_reducible exact Below.refl _ _ | with_reducible refine Below.drew ?_ | with_reducible refine below_drewN ?_ _ | with_reducible refine Below.setCell ?_ (by first | (simp; done) | (simp; omega) | omega) _ | with_reducible refine Below.alloc ?_ (by first | (simp; done) | (simp; omega) | omega) _))
  have zV2 : w1.heap.size + 1 ≤ V2.heap.size := by rw [hV2]; simp
  have P5 : Bk2 V2 (w1.heap.size) (.int .i64 0) (.int .i64 0) := by rw [hV2]; exact (Bk2.newAt _ _ (by first | omega | (simp; done) | (simp; omega)) _ _ _)
  rw [← hV2]
  clear hV2
  replace E := E.trans (bV2.mono E.size)
  replace Ha1 := Ha1.below bV2 (by omega)
  replace Ha2 := Ha2.below bV2 (by omega)
  replace Hb1 := Hb1.below bV2 (by omega)
  replace Hb2 := Hb2.below bV2 (by omega)
  replace PA := PA.below bV2 PA.lt
  replace PB := PB.below bV2 PB.lt
  clear bV2
  (with_reducible refine (radd_z _ w.heap.size a b (rv_at (Ha1.more (by omega)) (Ha2.more (by omega))) (rv_at (Hb1.more (by omega)) (Hb2.more (by omega))) (by omega) oa.out ob.out).mono ?_)
  rintro e w2 ⟨r1, f1, e1, rfl, hr1, hz1, hb2⟩
  have sw2 := hb2.size
  replace E := E.trans (hb2.mono E.size)
  replace Ha1 := Ha1.below hb2 (by omega)
  replace Ha2 := Ha2.below hb2 (by omega)
  replace Hb1 := Hb1.below hb2 (by omega)
  replace Hb2 := Hb2.below hb2 (by omega)
  replace PA := PA.below hb2 PA.lt
  replace PB := PB.below hb2 PB.lt
  replace P5 := P5.below hb2 P5.lt
  clear hb2
  have Z1 := Lib.hid hz1
  have Hr11 : LRd w2 w2.heap.size r1.num.A r1.num.n r1.num.c r1.num.xs := hr1.1
  have Hr12 : LRd w2 w2.heap.size r1.den.A r1.den.n r1.den.c r1.den.xs := hr1.2
  clear hz1 hr1
  have t_PA0 : ((w2.alloc (.cells #[.bool r1.num.neg, .slice r1.num.A r1.num.n r1.num.c, .bool r1.den.neg, .slice r1.den.A r1.den.n r1.den.c] 26)).alloc (.cells #[.int .i64 f1, .int .i64 e1] 28)).cell? ⟨w.heap.size, 0, none⟩ = some ((.bool a.num.neg)) := ((PA.alloc _).alloc _).c0
  have t_PA1 : ((w2.alloc (.cells #[.bool r1.num.neg, .slice r1.num.A r1.num.n r1.num.c, .bool r1.den.neg, .slice r1.den.A r1.den.n r1.den.c] 26)).alloc (.cells #[.int .i64 f1, .int .i64 e1] 28)).cell? ⟨w.heap.size, 1, none⟩ = some ((.slice a.num.A a.num.n a.num.c)) := ((PA.alloc _).alloc _).c1
  have t_PA2 : ((w2.alloc (.cells #[.bool r1.num.neg, .slice r1.num.A r1.num.n r1.num.c, .bool r1.den.neg, .slice r1.den.A r1.den.n r1.den.c] 26)).alloc (.cells #[.int .i64 f1, .int .i64 e1] 28)).cell? ⟨w.heap.size, 2, none⟩ = some ((.bool a.den.neg)) := ((PA.alloc _).alloc _).c2
  have t_PA3 : ((w2.alloc (.cells #[.bool r1.num.neg, .slice r1.num.A r1.num.n r1.num.c, .bool r1.den.neg, .slice r1.den.A r1.den.n r1.den.c] 26)).alloc (.cells #[.int .i64 f1, .int .i64 e1] 28)).cell? ⟨w.heap.size, 3, none⟩ = some ((.slice a.den.A a.den.n a.den.c)) := ((PA.alloc _).alloc _).c3
  have t_PB0 : ((w2.alloc (.cells #[.bool r1.num.neg, .slice r1.num.A r1.num.n r1.num.c, .bool r1.den.neg, .slice r1.den.A r1.den.n r1.den.c] 26)).alloc (.cells #[.int .i64 f1, .int .i64 e1] 28)).cell? ⟨w.heap.size + 1, 0, none⟩ = some ((.bool b.num.neg)) := ((PB.alloc _).alloc _).c0
  have t_PB1 : ((w2.alloc (.cells #[.bool r1.num.neg, .slice r1.num.A r1.num.n r1.num.c, .bool r1.den.neg, .slice r1.den.A r1.den.n r1.den.c] 26)).alloc (.cells #[.int .i64 f1, .int .i64 e1] 28)).cell? ⟨w.heap.size + 1, 1, none⟩ = some ((.slice b.num.A b.num.n b.num.c)) := ((PB.alloc _).alloc _).c1
  have t_PB2 : ((w2.alloc (.cells #[.bool r1.num.neg, .slice r1.num.A r1.num.n r1.num.c, .bool r1.den.neg, .slice r1.den.A r1.den.n r1.den.c] 26)).alloc (.cells #[.int .i64 f1, .int .i64 e1] 28)).cell? ⟨w.heap.size + 1, 2, none⟩ = some ((.bool b.den.neg)) := ((PB.alloc _).alloc _).c2
  have t_PB3 : ((w2.alloc (.cells #[.bool r1.num.neg, .slice r1.num.A r1.num.n r1.num.c, .bool r1.den.neg, .slice r1.den.A r1.den.n r1.den.c] 26)).alloc (.cells #[.int .i64 f1, .int .i64 e1] 28)).cell? ⟨w.heap.size + 1, 3, none⟩ = some ((.slice b.den.A b.den.n b.den.c)) := ((PB.alloc _).alloc _).c3
  go_wp2_with fail
  clear t_PA0 t_PA1 t_PA2 t_PA3 t_PB0 t_PB1 t_PB2 t_PB3
  obtain ⟨V3, hV3⟩ : ∃ V3 : World, V3 = ((w2.alloc (.cells #[.bool r1.num.neg, .slice r1.num.A r1.num.n r1.num.c, .bool r1.den.neg, .slice r1.den.A r1.den.n r1.den.c] 26)).alloc (.cells #[.int .i64 f1, .int .i64 e1] 28)) := ⟨_, rfl⟩
  have bV3 : Below w2.heap.size w2 V3 := by rw [hV3]; (repeat (first | with_reducible exact Below.refl _ _ | with_reducible refine Below.drew ?_ | with_reducible refine below_drewN ?_ _ | with_reducible refine Below.setCell ?_ (by first | (simp; done) | (simp; omega) | omega) _ | with_reducible refine Below.alloc ?_ (by first | (simp; done) | (simp; omega) | omega) _))
  have zV3 : w2.heap.size + 2 ≤ V3.heap.size := by rw [hV3]; simp
  have R1 : Bk4 V3 (w2.heap.size) (.bool r1.num.neg) (.slice r1.num.A r1.num.n r1.num.c) (.bool r1.den.neg) (.slice r1.den.A r1.den.n r1.den.c) := by rw [hV3]; exact ((Bk4.newAt _ _ (by first | omega | (simp; done) | (simp; omega)) _ _ _ _ _).alloc _)
  have F1 : Bk2 V3 (w2.heap.size + 1) (.int .i64 f1) (.int .i64 e1) := by rw [hV3]; exact (Bk2.newAt _ _ (by first | omega | (simp; done) | (simp; omega)) _ _ _)
  rw [← hV3]
  clear hV3
  replace E := E.trans (bV3.mono E.size)
  replace Ha1 := Ha1.below bV3 (by omega)
  replace Ha2 := Ha2.below bV3 (by omega)
  replace Hb1 := Hb1.below bV3 (by omega)
  replace Hb2 := Hb2.below bV3 (by omega)
  replace PA := PA.below bV3 PA.lt
  replace PB := PB.below bV3 PB.lt
  replace P5 := P5.below bV3 P5.lt
  replace Hr11 := Hr11.below bV3 (by omega)
  replace Hr12 := Hr12.below bV3 (by omega)
  clear bV3
  (with_reducible refine (rsub_z _ w.heap.size a b (rv_at (Ha1.more (by omega)) (Ha2.more (by omega))) (rv_at (Hb1.more (by omega)) (Hb2.more (by omega))) (by omega) oa.out ob.out).mono ?_)
  rintro e w3 ⟨r2, f2, e2, rfl, hr2, hz2, hb3⟩
  have sw3 := hb3.size
  replace E := E.trans (hb3.mono E.size)
  replace Ha1 := Ha1.below hb3 (by omega)
  replace Ha2 := Ha2.below hb3 (by omega)
  replace Hb1 := Hb1.below hb3 (by omega)
  replace Hb2 := Hb2.below hb3 (by omega)
  replace PA := PA.below hb3 PA.lt
  replace PB := PB.below hb3 PB.lt
  replace P5 := P5.below hb3 P5.lt
  replace Hr11 := Hr11.below hb3 (by omega)
  replace Hr12 := Hr12.below hb3 (by omega)
  replace R1 := R1.below hb3 R1.lt
  replace F1 := F1.below hb3 F1.lt
  clear hb3
  have Z2 := Lib.hid hz2
  have Hr21 : LRd w3 w3.heap.size r2.num.A r2.num.n r2.num.c r2.num.xs := hr2.1
  have Hr22 : LRd w3 w3.heap.size r2.den.A r2.den.n r2.den.c r2.den.xs := hr2.2
  clear hz2 hr2
  have t_PA0 : ((w3.alloc (.cells #[.bool r2.num.neg, .slice r2.num.A r2.num.n r2.num.c, .bool r2.den.neg, .slice r2.den.A r2.den.n r2.den.c] 26)).alloc (.cells #[.int .i64 f2, .int .i64 e2] 28)).cell? ⟨w.heap.size, 0, none⟩ = some ((.bool a.num.neg)) := ((PA.alloc _).alloc _).c0
  have t_PA1 : ((w3.alloc (.cells #[.bool r2.num.neg, .slice r2.num.A r2.num.n r2.num.c, .bool r2.den.neg, .slice r2.den.A r2.den.n r2.den.c] 26)).alloc (.cells #[.int .i64 f2, .int .i64 e2] 28)).cell? ⟨w.heap.size, 1, none⟩ = some ((.slice a.num.A a.num.n a.num.c)) := ((PA.alloc _).alloc _).c1
  have t_PA2 : ((w3.alloc (.cells #[.bool r2.num.neg, .slice r2.num.A r2.num.n r2.num.c, .bool r2.den.neg, .slice r2.den.A r2.den.n r2.den.c] 26)).alloc (.cells #[.int .i64 f2, .int .i64 e2] 28)).cell? ⟨w.heap.size, 2, none⟩ = some ((.bool a.den.neg)) := ((PA.alloc _).alloc _).c2
  have t_PA3 : ((w3.alloc (.cells #[.bool r2.num.neg, .slice r2.num.A r2.num.n r2.num.c, .bool r2.den.neg, .slice r2.den.A r2.den.n r2.den.c] 26)).alloc (.cells #[.int .i64 f2, .int .i64 e2] 28)).cell? ⟨w.heap.size, 3, none⟩ = some ((.slice a.den.A a.den.n a.den.c)) := ((PA.alloc _).alloc _).c3
  have t_PB0 : ((w3.alloc (.cells #[.bool r2.num.neg, .slice r2.num.A r2.num.n r2.num.c, .bool r2.den.neg, .slice r2.den.A r2.den.n r2.den.c] 26)).alloc (.cells #[.int .i64 f2, .int .i64 e2] 28)).cell? ⟨w.heap.size + 1, 0, none⟩ = some ((.bool b.num.neg)) := ((PB.alloc _).alloc _).c0
  have t_PB1 : ((w3.alloc (.cells #[.bool r2.num.neg, .slice r2.num.A r2.num.n r2.num.c, .bool r2.den.neg, .slice r2.den.A r2.den.n r2.den.c] 26)).alloc (.cells #[.int .i64 f2, .int .i64 e2] 28)).cell? ⟨w.heap.size + 1, 1, none⟩ = some ((.slice b.num.A b.num.n b.num.c)) := ((PB.alloc _).alloc _).c1
  have t_PB2 : ((w3.alloc (.cells #[.bool r2.num.neg, .slice r2.num.A r2.num.n r2.num.c, .bool r2.den.neg, .slice r2.den.A r2.den.n r2.den.c] 26)).alloc (.cells #[.int .i64 f2, .int .i64 e2] 28)).cell? ⟨w.heap.size + 1, 2, none⟩ = some ((.bool b.den.neg)) := ((PB.alloc _).alloc _).c2
  have t_PB3 : ((w3.alloc (.cells #[.bool r2.num.neg, .slice r2.num.A r2.num.n r2.num.c, .bool r2.den.neg, .slice r2.den.A r2.den.n r2.den.c] 26)).alloc (.cells #[.int .i64 f2, .int .i64 e2] 28)).cell? ⟨w.heap.size + 1, 3, none⟩ = some ((.slice b.den.A b.den.n b.den.c)) := ((PB.alloc _).alloc _).c3
  go_wp2_with fail
  clear t_PA0 t_PA1 t_PA2 t_PA3 t_PB0 t_PB1 t_PB2 t_PB3
  obtain ⟨V4, hV4⟩ : ∃ V4 : World, V4 = ((w3.alloc (.cells #[.bool r2.num.neg, .slice r2.num.A r2.num.n r2.num.c, .bool r2.den.neg, .slice r2.den.A r2.den.n r2.den.c] 26)).alloc (.cells #[.int .i64 f2, .int .i64 e2] 28)) := ⟨_, rfl⟩
  have bV4 : Below w3.heap.size w3 V4 := by rw [hV4]; (repeat (first | with_reducible exact Below.refl _ _ | with_reducible refine Below.drew ?_ | with_reducible refine below_drewN ?_ _ | with_reducible refine Below.setCell ?_ (by first | (simp; done) | (simp; omega) | omega) _ | with_reducible refine Below.alloc ?_ (by first | (simp; done) | (simp; omega) | omega) _))
  have zV4 : w3.heap.size + 2 ≤ V4.heap.size := by rw [hV4]; simp
  have R2 : Bk4 V4 (w3.heap.size) (.bool r2.num.neg) (.slice r2.num.A r2.num.n r2.num.c) (.bool r2.den.neg) (.slice r2.den.A r2.den.n r2.den.c) := by rw [hV4]; exact ((Bk4.newAt _ _ (by first | omega | (simp; done) | (simp; omega)) _ _ _ _ _).alloc _)
  have F2 : Bk2 V4 (w3.heap.size + 1) (.int .i64 f2) (.int .i64 e2) := by rw [hV4]; exact (Bk2.newAt _ _ (by first | omega | (simp; done) | (simp; omega)) _ _ _)
  rw [← hV4]
  clear hV4
  replace E := E.trans (bV4.mono E.size)
  replace Ha1 := Ha1.below bV4 (by omega)
  replace Ha2 := Ha2.below bV4 (by omega)
  replace Hb1 := Hb1.below bV4 (by omega)
  replace Hb2 := Hb2.below bV4 (by omega)
  replace PA := PA.below bV4 PA.lt
  replace PB := PB.below bV4 PB.lt
  replace P5 := P5.below bV4 P5.lt
  replace Hr11 := Hr11.below bV4 (by omega)
  replace Hr12 := Hr12.below bV4 (by omega)
  replace R1 := R1.below bV4 R1.lt
  replace F1 := F1.below bV4 F1.lt
  replace Hr21 := Hr21.below bV4 (by omega)
  replace Hr22 := Hr22.below bV4 (by omega)
  clear bV4
  (with_reducible refine (rmul_z _ w.heap.size a b (rv_at (Ha1.more (by omega)) (Ha2.more (by omega))) (rv_at (Hb1.more (by omega)) (Hb2.more (by omega))) (by omega) oa.out ob.out).mono ?_)
  rintro e w4 ⟨r3, f3, e3, rfl, hr3, hz3, hb4⟩
  have sw4 := hb4.size
  replace E := E.trans (hb4.mono E.size)
  replace Ha1 := Ha1.below hb4 (by omega)
  replace Ha2 := Ha2.below hb4 (by omega)
  replace Hb1 := Hb1.below hb4 (by omega)
  replace Hb2 := Hb2.below hb4 (by omega)
  replace PA := PA.below hb4 PA.lt
  replace PB := PB.below hb4 PB.lt
  replace P5 := P5.below hb4 P5.lt
  replace Hr11 := Hr11.below hb4 (by omega)
  replace Hr12 := Hr12.below hb4 (by omega)
  replace R1 := R1.below hb4 R1.lt
  replace F1 := F1.below hb4 F1.lt
  replace Hr21 := Hr21.below hb4 (by omega)
  replace Hr22 := Hr22.below hb4 (by omega)
  replace R2 := R2.below hb4 R2.lt
  replace F2 := F2.below hb4 F2.lt
  clear hb4
  have Z3 := Lib.hid hz3
  have Hr31 : LRd w4 w4.heap.size r3.num.A r3.num.n r3.num.c r3.num.xs := hr3.1
  have Hr32 : LRd w4 w4.heap.size r3.den.A r3.den.n r3.den.c r3.den.xs := hr3.2
  clear hz3 hr3
  have t_PA0 : ((w4.alloc (.cells #[.bool r3.num.neg, .slice r3.num.A r3.num.n r3.num.c, .bool r3.den.neg, .slice r3.den.A r3.den.n r3.den.c] 26)).alloc (.cells #[.int .i64 f3, .int .i64 e3] 28)).cell? ⟨w.heap.size, 0, none⟩ = some ((.bool a.num.neg)) := ((PA.alloc _).alloc _).c0
  have t_PA1 : ((w4.alloc (.cells #[.bool r3.num.neg, .slice r3.num.A r3.num.n r3.num.c, .bool r3.den.neg, .slice r3.den.A r3.den.n r3.den.c] 26)).alloc (.cells #[.int .i64 f3, .int .i64 e3] 28)).cell? ⟨w.heap.size, 1, none⟩ = some ((.slice a.num.A a.num.n a.num.c)) := ((PA.alloc _).alloc _).c1
  have t_PA2 : ((w4.alloc (.cells #[.bool r3.num.neg, .slice r3.num.A r3.num.n r3.num.c, .bool r3.den.neg, .slice r3.den.A r3.den.n r3.den.c] 26)).alloc (.cells #[.int .i64 f3, .int .i64 e3] 28)).cell? ⟨w.heap.size, 2, none⟩ = some ((.bool a.den.neg)) := ((PA.alloc _).alloc _).c2
  have t_PA3 : ((w4.alloc (.cells #[.bool r3.num.neg, .slice r3.num.A r3.num.n r3.num.c, .bool r3.den.neg, .slice r3.den.A r3.den.n r3.den.c] 26)).alloc (.cells #[.int .i64 f3, .int .i64 e3] 28)).cell? ⟨w.heap.size, 3, none⟩ = some ((.slice a.den.A a.den.n a.den.c)) := ((PA.alloc _).alloc _).c3
  have t_PB0 : ((w4.alloc (.cells #[.bool r3.num.neg, .slice r3.num.A r3.num.n r3.num.c, .bool r3.den.neg, .slice r3.den.A r3.den.n r3.den.c] 26)).alloc (.cells #[.int .i64 f3, .int .i64 e3] 28)).cell? ⟨w.heap.size + 1, 0, none⟩ = some ((.bool b.num.neg)) := ((PB.alloc _).alloc _).c0
  have t_PB1 : ((w4.alloc (.cells #[.bool r3.num.neg, .slice r3.num.A r3.num.n r3.num.c, .bool r3.den.neg, .slice r3.den.A r3.den.n r3.den.c] 26)).alloc (.cells #[.int .i64 f3, .int .i64 e3] 28)).cell? ⟨w.heap.size + 1, 1, none⟩ = some ((.slice b.num.A b.num.n b.num.c)) := ((PB.alloc _).alloc _).c1
  have t_PB2 : ((w4.alloc (.cells #[.bool r3.num.neg, .slice r3.num.A r3.num.n r3.num.c, .bool r3.den.neg, .slice r3.den.A r3.den.n r3.den.c] 26)).alloc (.cells #[.int .i64 f3, .int .i64 e3] 28)).cell? ⟨w.heap.size + 1, 2, none⟩ = some ((.bool b.den.neg)) := ((PB.alloc _).alloc _).c2
  have t_PB3 : ((w4.alloc (.cells #[.bool r3.num.neg, .slice r3.num.A r3.num.n r3.num.c, .bool r3.den.neg, .slice r3.den.A r3.den.n r3.den.c] 26)).alloc (.cells #[.int .i64 f3, .int .i64 e3] 28)).cell? ⟨w.heap.size + 1, 3, none⟩ = some ((.slice b.den.A b.den.n b.den.c)) := ((PB.alloc _).alloc _).c3
  go_wp2_with fail
  clear t_PA0 t_PA1 t_PA2 t_PA3 t_PB0 t_PB1 t_PB2 t_PB3
  obtain ⟨V5, hV5⟩ : ∃ V5 : World, V5 = ((w4.alloc (.cells #[.bool r3.num.neg, .slice r3.num.A r3.num.n r3.num.c, .bool r3.den.neg, .slice r3.den.A r3.den.n r3.den.c] 26)).alloc (.cells #[.int .i64 f3, .int .i64 e3] 28)) := ⟨_, rfl⟩
  have bV5 : Below w4.heap.size w4 V5 := by rw [hV5]; (repeat (first | with_reducible exact Below.refl _ _ | with_reducible refine Below.drew ?_ | with_reducible refine below_drewN ?_ _ | with_reducible refine Below.setCell ?_ (by first | (simp; done) | (simp; omega) | omega) _ | with_reducible refine Below.alloc ?_ (by first | (simp; done) | (simp; omega) | omega) _))
  have zV5 : w4.heap.size + 2 ≤ V5.heap.size := by rw [hV5]; simp
  have R3 : Bk4 V5 (w4.heap.size) (.bool r3.num.neg) (.slice r3.num.A r3.num.n r3.num.c) (.bool r3.den.neg) (.slice r3.den.A r3.den.n r3.den.c) := by rw [hV5]; exact ((Bk4.newAt _ _ (by first | omega | (simp; done) | (simp; omega)) _ _ _ _ _).alloc _)
  have F3 : Bk2 V5 (w4.heap.size + 1) (.int .i64 f3) (.int .i64 e3) := by rw [hV5]; exact (Bk2.newAt _ _ (by first | omega | (simp; done) | (simp; omega)) _ _ _)
  rw [← hV5]
  clear hV5
  replace E := E.trans (bV5.mono E.size)
  replace Ha1 := Ha1.below bV5 (by omega)
  replace Ha2 := Ha2.below bV5 (by omega)
  replace Hb1 := Hb1.below bV5 (by omega)
  replace Hb2 := Hb2.below bV5 (by omega)
  replace PA := PA.below bV5 PA.lt
  replace PB := PB.below bV5 PB.lt
  replace P5 := P5.below bV5 P5.lt
  replace Hr11 := Hr11.below bV5 (by omega)
  replace Hr12 := Hr12.below bV5 (by omega)
  replace R1 := R1.below bV5 R1.lt
  replace F1 := F1.below bV5 F1.lt
  replace Hr21 := Hr21.below bV5 (by omega)
  replace Hr22 := Hr22.below bV5 (by omega)
  replace R2 := R2.below bV5 R2.lt
  replace F2 := F2.below bV5 F2.lt
  replace Hr31 := Hr31.below bV5 (by omega)
  replace Hr32 := Hr32.below bV5 (by omega)
  clear bV5
  (with_reducible refine (rdiv_z _ w.heap.size a b (rv_at (Ha1.more (by omega)) (Ha2.more (by omega))) (rv_at (Hb1.more (by omega)) (Hb2.more (by omega))) (by omega) oa.out ob.out hnb.out).mono ?_)
  rintro e w5 ⟨r4, f4, e4, rfl, hr4, hz4, hb5⟩
  have sw5 := hb5.size
  replace E := E.trans (hb5.mono E.size)
  replace Ha1 := Ha1.below hb5 (by omega)
  replace Ha2 := Ha2.below hb5 (by omega)
  replace Hb1 := Hb1.below hb5 (by omega)
  replace Hb2 := Hb2.below hb5 (by omega)
  replace PA := PA.below hb5 PA.lt
  replace PB := PB.below hb5 PB.lt
  replace P5 := P5.below hb5 P5.lt
  replace Hr11 := Hr11.below hb5 (by omega)
  replace Hr12 := Hr12.below hb5 (by omega)
  replace R1 := R1.below hb5 R1.lt
  replace F1 := F1.below hb5 F1.lt
  replace Hr21 := Hr21.below hb5 (by omega)
  replace Hr22 := Hr22.below hb5 (by omega)
  replace R2 := R2.below hb5 R2.lt
  replace F2 := F2.below hb5 F2.lt
  replace Hr31 := Hr31.below hb5 (by omega)
  replace Hr32 := Hr32.below hb5 (by omega)
  replace R3 := R3.below hb5 R3.lt
  replace F3 := F3.below hb5 F3.lt
  clear hb5
  have Z4 := Lib.hid hz4
  have Hr41 : LRd w5 w5.heap.size r4.num.A r4.num.n r4.num.c r4.num.xs := hr4.1
  have Hr42 : LRd w5 w5.heap.size r4.den.A r4.den.n r4.den.c r4.den.xs := hr4.2
  clear hz4 hr4
  have t_PA0 : ((w5.alloc (.cells #[.bool r4.num.neg, .slice r4.num.A r4.num.n r4.num.c, .bool r4.den.neg, .slice r4.den.A r4.den.n r4.den.c] 26)).alloc (.cells #[.int .i64 f4, .int .i64 e4] 28)).cell? ⟨w.heap.size, 0, none⟩ = some ((.bool a.num.neg)) := ((PA.alloc _).alloc _).c0
  have t_PA1 : ((w5.alloc (.cells #[.bool r4.num.neg, .slice r4.num.A r4.num.n r4.num.c, .bool r4.den.neg, .slice r4.den.A r4.den.n r4.den.c] 26)).alloc (.cells #[.int .i64 f4, .int .i64 e4] 28)).cell? ⟨w.heap.size, 1, none⟩ = some ((.slice a.num.A a.num.n a.num.c)) := ((PA.alloc _).alloc _).c1
  have t_PA2 : ((w5.alloc (.cells #[.bool r4.num.neg, .slice r4.num.A r4.num.n r4.num.c, .bool r4.den.neg, .slice r4.den.A r4.den.n r4.den.c] 26)).alloc (.cells #[.int .i64 f4, .int .i64 e4] 28)).cell? ⟨w.heap.size, 2, none⟩ = some ((.bool a.den.neg)) := ((PA.alloc _).alloc _).c2
  have t_PA3 : ((w5.alloc (.cells #[.bool r4.num.neg, .slice r4.num.A r4.num.n r4.num.c, .bool r4.den.neg, .slice r4.den.A r4.den.n r4.den.c] 26)).alloc (.cells #[.int .i64 f4, .int .i64 e4] 28)).cell? ⟨w.heap.size, 3, none⟩ = some ((.slice a.den.A a.den.n a.den.c)) := ((PA.alloc _).alloc _).c3
  have t_PB0 : ((w5.alloc (.cells #[.bool r4.num.neg, .slice r4.num.A r4.num.n r4.num.c, .bool r4.den.neg, .slice r4.den.A r4.den.n r4.den.c] 26)).alloc (.cells #[.int .i64 f4, .int .i64 e4] 28)).cell? ⟨w.heap.size + 1, 0, none⟩ = some ((.bool b.num.neg)) := ((PB.alloc _).alloc _).c0
  have t_PB1 : ((w5.alloc (.cells #[.bool r4.num.neg, .slice r4.num.A r4.num.n r4.num.c, .bool r4.den.neg, .slice r4.den.A r4.den.n r4.den.c] 26)).alloc (.cells #[.int .i64 f4, .int .i64 e4] 28)).cell? ⟨w.heap.size + 1, 1, none⟩ = some ((.slice b.num.A b.num.n b.num.c)) := ((PB.alloc _).alloc _).c1
  have t_PB2 : ((w5.alloc (.cells #[.bool r4.num.neg, .slice r4.num.A r4.num.n r4.num.c, .bool r4.den.neg, .slice r4.den.A r4.den.n r4.den.c] 26)).alloc (.cells #[.int .i64 f4, .int .i64 e4] 28)).cell? ⟨w.heap.size + 1, 2, none⟩ = some ((.bool b.den.neg)) := ((PB.alloc _).alloc _).c2
  have t_PB3 : ((w5.alloc (.cells #[.bool r4.num.neg, .slice r4.num.A r4.num.n r4.num.c, .bool r4.den.neg, .slice r4.den.A r4.den.n r4.den.c] 26)).alloc (.cells #[.int .i64 f4, .int .i64 e4] 28)).cell? ⟨w.heap.size + 1, 3, none⟩ = some ((.slice b.den.A b.den.n b.den.c)) := ((PB.alloc _).alloc _).c3
  go_wp2_with fail
  clear t_PA0 t_PA1 t_PA2 t_PA3 t_PB0 t_PB1 t_PB2 t_PB3
  obtain ⟨V6, hV6⟩ : ∃ V6 : World, V6 = ((w5.alloc (.cells #[.bool r4.num.neg, .slice r4.num.A r4.num.n r4.num.c, .bool r4.den.neg, .slice r4.den.A r4.den.n r4.den.c] 26)).alloc (.cells #[.int .i64 f4, .int .i64 e4] 28)) := ⟨_, rfl⟩
  have bV6 : Below w5.heap.size w5 V6 := by rw [hV6]; (repeat (first | with_reducible exact Below.refl _ _ | with_reducible refine Below.drew ?_ | with_reducible refine below_drewN ?_ _ | with_reducible refine Below.setCell ?_ (by first | (simp; done) | (simp; omega) | omega) _ | with_reducible refine Below.alloc ?_ (by first | (simp; done) | (simp; omega) | omega) _))
  have zV6 : w5.heap.size + 2 ≤ V6.heap.size := by rw [hV6]; simp
  have R4 : Bk4 V6 (w5.heap.size) (.bool r4.num.neg) (.slice r4.num.A r4.num.n r4.num.c) (.bool r4.den.neg) (.slice r4.den.A r4.den.n r4.den.c) := by rw [hV6]; exact ((Bk4.newAt _ _ (by first | omega | (simp; done) | (simp; omega)) _ _ _ _ _).alloc _)
  have F4 : Bk2 V6 (w5.heap.size + 1) (.int .i64 f4) (.int .i64 e4) := by rw [hV6]; exact (Bk2.newAt _ _ (by first | omega | (simp; done) | (simp; omega)) _ _ _)
  rw [← hV6]
  clear hV6
  replace E := E.trans (bV6.mono E.size)
  replace Ha1 := Ha1.below bV6 (by omega)
  replace Ha2 := Ha2.below bV6 (by omega)
  replace Hb1 := Hb1.below bV6 (by omega)
  replace Hb2 := Hb2.below bV6 (by omega)
  replace PA := PA.below bV6 PA.lt
  replace PB := PB.below bV6 PB.lt
  replace P5 := P5.below bV6 P5.lt
  replace Hr11 := Hr11.below bV6 (by omega)
  replace Hr12 := Hr12.below bV6 (by omega)
  replace R1 := R1.below bV6 R1.lt
  replace F1 := F1.below bV6 F1.lt
  replace Hr21 := Hr21.below bV6 (by omega)
  replace Hr22 := Hr22.below bV6 (by omega)
  replace R2 := R2.below bV6 R2.lt
  replace F2 := F2.below bV6 F2.lt
  replace Hr31 := Hr31.below bV6 (by omega)
  replace Hr32 := Hr32.below bV6 (by omega)
  replace R3 := R3.below bV6 R3.lt
  replace F3 := F3.below bV6 F3.lt
  replace Hr41 := Hr41.below bV6 (by omega)
  replace Hr42 := Hr42.below bV6 (by omega)
  clear bV6
  (with_reducible refine (rcmp_ok _ w.heap.size a b (rv_at (Ha1.more (by omega)) (Ha2.more (by omega))) (rv_at (Hb1.more (by omega)) (Hb2.more (by omega))) (by omega) oa.out ob.out).mono ?_)
  rintro e w6 ⟨rn, hic, rfl, hb6⟩
  have sw6 := hb6.size
  replace E := E.trans (hb6.mono E.size)
  replace Ha1 := Ha1.below hb6 (by omega)
  replace Ha2 := Ha2.below hb6 (by omega)
  replace Hb1 := Hb1.below hb6 (by omega)
  replace Hb2 := Hb2.below hb6 (by omega)
  replace PA := PA.below hb6 PA.lt
  replace PB := PB.below hb6 PB.lt
  replace P5 := P5.below hb6 P5.lt
  replace Hr11 := Hr11.below hb6 (by omega)
  replace Hr12 := Hr12.below hb6 (by omega)
  replace R1 := R1.below hb6 R1.lt
  replace F1 := F1.below hb6 F1.lt
  replace Hr21 := Hr21.below hb6 (by omega)
  replace Hr22 := Hr22.below hb6 (by omega)
  replace R2 := R2.below hb6 R2.lt
  replace F2 := F2.below hb6 F2.lt
  replace Hr31 := Hr31.below hb6 (by omega)
  replace Hr32 := Hr32.below hb6 (by omega)
  replace R3 := R3.below hb6 R3.lt
  replace F3 := F3.below hb6 F3.lt
  replace Hr41 := Hr41.below hb6 (by omega)
  replace Hr42 := Hr42.below hb6 (by omega)
  replace R4 := R4.below hb6 R4.lt
  replace F4 := F4.below hb6 F4.lt
  clear hb6
  have IC := Lib.hid hic
  clear hic
  have hne : (rn != rn) = false := by simp
  go_upto_region 7 with fail
  obtain ⟨V7, hV7⟩ : ∃ V7 : World, V7 = (w6.alloc (.cells #[.int .i64 0, .int .i64 0] 28)) := ⟨_, rfl⟩
  have bV7 : Below w6.heap.size w6 V7 := by rw [hV7]; (repeat (first | with_reducible exact Below.refl _ _ | with_reducible refine Below.drew ?_ | with_reducible refine below_drewN ?_ _ | with_reducible refine Below.setCell ?_ (by first | (simp; done) | (simp; omega) | omega) _ | with_reducible refine Below.alloc ?_ (by first | (simp; done) | (simp; omega) | omega) _))
  have zV7 : w6.heap.size + 1 ≤ V7.heap.size := by rw [hV7]; simp
  have F15 : Bk2 V7 (w6.heap.size) (.int .i64 0) (.int .i64 0) := by rw [hV7]; exact (Bk2.newAt _ _ (by first | omega | (simp; done) | (simp; omega)) _ _ _)
  rw [← hV7]
  clear hV7
  replace E := E.trans (bV7.mono E.size)
  replace Ha1 := Ha1.below bV7 (by omega)
  replace Ha2 := Ha2.below bV7 (by omega)
  replace Hb1 := Hb1.below bV7 (by omega)
  replace Hb2 := Hb2.below bV7 (by omega)
  replace PA := PA.below bV7 PA.lt
  replace PB := PB.below bV7 PB.lt
  replace P5 := P5.below bV7 P5.lt
  replace Hr11 := Hr11.below bV7 (by omega)
  replace Hr12 := Hr12.below bV7 (by omega)
  replace R1 := R1.below bV7 R1.lt
  replace F1 := F1.below bV7 F1.lt
  replace Hr21 := Hr21.below bV7 (by omega)
  replace Hr22 := Hr22.below bV7 (by omega)
  replace R2 := R2.below bV7 R2.lt
  replace F2 := F2.below bV7 F2.lt
  replace Hr31 := Hr31.below bV7 (by omega)
  replace Hr32 := Hr32.below bV7 (by omega)
  replace R3 := R3.below bV7 R3.lt
  replace F3 := F3.below bV7 F3.lt
  replace Hr41 := Hr41.below bV7 (by omega)
  replace Hr42 := Hr42.below bV7 (by omega)
  replace R4 := R4.below bV7 R4.lt
  replace F4 := F4.below bV7 F4.lt
  clear bV7
  have lt_PA := PA.lt
  have lt_P5 := P5.lt
  have lt_F15 := F15.lt
  have HS := Lib.hid (fun (u : World) (hu : Below (V7.heap.size) V7 u) => (⟨(hu.cell (p := ⟨w.heap.size, 0, none⟩) (by show w.heap.size < _; omega)).trans PA.c0, (hu.cell (p := ⟨w.heap.size, 1, none⟩) (by show w.heap.size < _; omega)).trans PA.c1, (hu.cell (p := ⟨w.heap.size, 2, none⟩) (by show w.heap.size < _; omega)).trans PA.c2, (hu.cell (p := ⟨w.heap.size, 3, none⟩) (by show w.heap.size < _; omega)).trans PA.c3, (hu.cell (p := ⟨w1.heap.size, 0, none⟩) (by show w1.heap.size < _; omega)).trans P5.c0, (hu.cell (p := ⟨w1.heap.size, 1, none⟩) (by show w1.heap.size < _; omega)).trans P5.c1, (hu.cell (p := ⟨w6.heap.size, 0, none⟩) (by show w6.heap.size < _; omega)).trans F15.c0, (hu.cell (p := ⟨w6.heap.size, 1, none⟩) (by show w6.heap.size < _; omega)).trans F15.c1⟩ : u.cell? ⟨w.heap.size, 0, none⟩ = some (.bool a.num.neg) ∧ u.cell? ⟨w.heap.size, 1, none⟩ = some (.slice a.num.A a.num.n a.num.c) ∧ u.cell? ⟨w.heap.size, 2, none⟩ = some (.bool a.den.neg) ∧ u.cell? ⟨w.heap.size, 3, none⟩ = some (.slice a.den.A a.den.n a.den.c) ∧ u.cell? ⟨w1.heap.size, 0, none⟩ = some (.int .i64 0) ∧ u.cell? ⟨w1.heap.size, 1, none⟩ = some (.int .i64 0) ∧ u.cell? ⟨w6.heap.size, 0, none⟩ = some (.int .i64 0) ∧ u.cell? ⟨w6.heap.size, 1, none⟩ = some (.int .i64 0)))
  have G0 : Below V7.heap.size V7 V7.drew := Below.drew (Below.refl _ _)
  have g0s := G0.size
  have G0m : Below (V7.heap.size) V7 V7.drew := G0.mono (by omega)
  go_region_held3 (fun u => u.cell? ⟨w.heap.size, 0, none⟩ = some (.bool a.num.neg) ∧ u.cell? ⟨w.heap.size, 1, none⟩ = some (.slice a.num.A a.num.n a.num.c) ∧ u.cell? ⟨w.heap.size, 2, none⟩ = some (.bool a.den.neg) ∧ u.cell? ⟨w.heap.size, 3, none⟩ = some (.slice a.den.A a.den.n a.den.c) ∧ u.cell? ⟨w1.heap.size, 0, none⟩ = some (.int .i64 0) ∧ u.cell? ⟨w1.heap.size, 1, none⟩ = some (.int .i64 0) ∧ u.cell? ⟨w6.heap.size, 0, none⟩ = some (.int .i64 0) ∧ u.cell? ⟨w6.heap.size, 1, none⟩ = some (.int .i64 0)) (first | (refine HS.out _ ?_; (repeat (first | with_reducible exact G0m | with_reducible exact BN.mono (by omega) | with_reducible exact B2.mono (by omega) | with_reducible exact B1.mono (by omega) | with_reducible exact Below.refl _ _ | with_reducible refine Below.drew ?_ | with_reducible refine below_drewN ?_ _ | with_reducible refine Below.setCell ?_ (by first | (simp; done) | (simp; omega) | omega) _)); done) | fail)
    (first
      | (go_at_call 14; (with_reducible refine (parts_any _).mono ?_); rintro e u1 ⟨rfl, hb1⟩; have B1 : Below V7.heap.size V7 u1 := bnext G0 hb1; have b1s := B1.size)
      | (go_at_call 15; (with_reducible refine (rvalid_any _ u1.heap.size a (rv_at ((Ha1.below B1 (by omega)).more (by omega)) ((Ha2.below B1 (by omega)).more (by omega))) (Nat.le_refl _)).mono ?_); rintro e u2 ⟨rfl, hb2⟩; have B2 : Below V7.heap.size V7 u2 := bnext B1 hb2; have b2s := B2.size; rw [oa.out])
      | (go_at_call 16; (with_reducible refine (rok_any _ u2.heap.size a (rv_at ((Ha1.below B2 (by omega)).more (by omega)) ((Ha2.below B2 (by omega)).more (by omega))) (Nat.le_refl _)).mono ?_); rintro e u3 ⟨rfl, hb3⟩; have BN : Below V7.heap.size V7 u3 := bnext B2 hb3; have b3s := BN.size; rw [oa.out])
      | fail)
  clear HS G0 g0s G0m
  replace E := E.trans (BN.mono E.size)
  replace Ha1 := Ha1.below BN (by omega)
  replace Ha2 := Ha2.below BN (by omega)
  replace Hb1 := Hb1.below BN (by omega)
  replace Hb2 := Hb2.below BN (by omega)
  replace PA := PA.below BN PA.lt
  replace PB := PB.below BN PB.lt
  replace P5 := P5.below BN P5.lt
  replace Hr11 := Hr11.below BN (by omega)
  replace Hr12 := Hr12.below BN (by omega)
  replace R1 := R1.below BN R1.lt
  replace F1 := F1.below BN F1.lt
  replace Hr21 := Hr21.below BN (by omega)
  replace Hr22 := Hr22.below BN (by omega)
  replace R2 := R2.below BN R2.lt
  replace F2 := F2.below BN F2.lt
  replace Hr31 := Hr31.below BN (by omega)
  replace Hr32 := Hr32.below BN (by omega)
  replace R3 := R3.below BN R3.lt
  replace F3 := F3.below BN F3.lt
  replace Hr41 := Hr41.below BN (by omega)
  replace Hr42 := Hr42.below BN (by omega)
  replace R4 := R4.below BN R4.lt
  replace F4 := F4.below BN F4.lt
  replace F15 := F15.below BN F15.lt
  clear BN B2 B1 hb1 hb2 hb3 b1s b2s
  obtain ⟨V9, hV9⟩ : ∃ y : World, y = u3 := ⟨_, rfl⟩
  subst hV9
  have t_P50 := P5.c0
  have t_P51 := P5.c1
  go_upto_region 11 with fail
  clear t_P50 t_P51
  go_cut [16, 17] (fun s5 s6 wx => R2R V9 a.num.val a.den.val.natAbs b.num.val b.den.val.natAbs s5 s6 wx)
  case first =>
    as_aux_lemma =>
      have lt_PA := PA.lt
      have lt_PB := PB.lt
      have HS := Lib.hid (fun (u : World) (hu : Below V9.heap.size V9 u) => (⟨(hu.cell (p := ⟨w.heap.size, 0, none⟩) (by show w.heap.size < _; omega)).trans PA.c0, (hu.cell (p := ⟨w.heap.size, 1, none⟩) (by show w.heap.size < _; omega)).trans PA.c1, (hu.cell (p := ⟨w.heap.size, 2, none⟩) (by show w.heap.size < _; omega)).trans PA.c2, (hu.cell (p := ⟨w.heap.size, 3, none⟩) (by show w.heap.size < _; omega)).trans PA.c3, (hu.cell (p := ⟨w.heap.size + 1, 0, none⟩) (by show w.heap.size + 1 < _; omega)).trans PB.c0, (hu.cell (p := ⟨w.heap.size + 1, 1, none⟩) (by show w.heap.size + 1 < _; omega)).trans PB.c1, (hu.cell (p := ⟨w.heap.size + 1, 2, none⟩) (by show w.heap.size + 1 < _; omega)).trans PB.c2, (hu.cell (p := ⟨w.heap.size + 1, 3, none⟩) (by show w.heap.size + 1 < _; omega)).trans PB.c3⟩ : u.cell? ⟨w.heap.size, 0, none⟩ = some (.bool a.num.neg) ∧ u.cell? ⟨w.heap.size, 1, none⟩ = some (.slice a.num.A a.num.n a.num.c) ∧ u.cell? ⟨w.heap.size, 2, none⟩ = some (.bool a.den.neg) ∧ u.cell? ⟨w.heap.size, 3, none⟩ = some (.slice a.den.A a.den.n a.den.c) ∧ u.cell? ⟨w.heap.size + 1, 0, none⟩ = some (.bool b.num.neg) ∧ u.cell? ⟨w.heap.size + 1, 1, none⟩ = some (.slice b.num.A b.num.n b.num.c) ∧ u.cell? ⟨w.heap.size + 1, 2, none⟩ = some (.bool b.den.neg) ∧ u.cell? ⟨w.heap.size + 1, 3, none⟩ = some (.slice b.den.A b.den.n b.den.c)))
      have G0 : Below V9.heap.size V9 V9.drew := Below.drew (Below.refl _ _)
      go_region_held3 (fun u => u.cell? ⟨w.heap.size, 0, none⟩ = some (.bool a.num.neg) ∧ u.cell? ⟨w.heap.size, 1, none⟩ = some (.slice a.num.A a.num.n a.num.c) ∧ u.cell? ⟨w.heap.size, 2, none⟩ = some (.bool a.den.neg) ∧ u.cell? ⟨w.heap.size, 3, none⟩ = some (.slice a.den.A a.den.n a.den.c) ∧ u.cell? ⟨w.heap.size + 1, 0, none⟩ = some (.bool b.num.neg) ∧ u.cell? ⟨w.heap.size + 1, 1, none⟩ = some (.slice b.num.A b.num.n b.num.c) ∧ u.cell? ⟨w.heap.size + 1, 2, none⟩ = some (.bool b.den.neg) ∧ u.cell? ⟨w.heap.size + 1, 3, none⟩ = some (.slice b.den.A b.den.n b.den.c))
        (first | exact HS.out _ (by (repeat (first | with_reducible exact G0 | with_reducible exact B2 | with_reducible exact B1 | with_reducible exact Below.refl _ _ | with_reducible refine Below.drew ?_ | with_reducible refine Below.alloc ?_ (by first | (simp; done) | (simp; omega) | omega) _ | with_reducible refine Below.setCell ?_ (by first | (simp; done) | (simp; omega) | omega) _))) | fail)
        (first
          | (go_at_call 18; (with_reducible refine (ratioOf_any _ V9.heap.size a (rv_at (LRd.more (B := V9.heap.size) (LRd.below (Ha1.more (by omega)) (B' := V9.heap.size) (by (repeat (first | with_reducible exact G0 | with_reducible exact B2 | with_reducible exact B1 | with_reducible exact Below.refl _ _ | with_reducible refine Below.drew ?_ | with_reducible refine Below.alloc ?_ (by first | (simp; done) | (simp; omega) | omega) _ | with_reducible refine Below.setCell ?_ (by first | (simp; done) | (simp; omega) | omega) _))) (Nat.le_refl _)) (by first | (simp; done) | (simp; omega) | omega)) (LRd.more (B := V9.heap.size) (LRd.below (Ha2.more (by omega)) (B' := V9.heap.size) (by (repeat (first | with_reducible exact G0 | with_reducible exact B2 | with_reducible exact B1 | with_reducible exact Below.refl _ _ | with_reducible refine Below.drew ?_ | with_reducible refine Below.alloc ?_ (by first | (simp; done) | (simp; omega) | omega) _ | with_reducible refine Below.setCell ?_ (by first | (simp; done) | (simp; omega) | omega) _))) (Nat.le_refl _)) (by first | (simp; done) | (simp; omega) | omega))) (by first | (simp; done) | (simp; omega) | omega) oa.out).mono ?_); rintro e u1 hq; obtain ⟨q1, rfl, hq1, hi1, hb1⟩ := GivesRR.q hq; clear hq; have B1 : Below V9.heap.size V9 u1 := (by refine bnext ?_ hb1; (repeat (first | with_reducible exact G0 | with_reducible exact B2 | with_reducible exact B1 | with_reducible exact Below.refl _ _ | with_reducible refine Below.drew ?_ | with_reducible refine Below.alloc ?_ (by first | (simp; done) | (simp; omega) | omega) _ | with_reducible refine Below.setCell ?_ (by first | (simp; done) | (simp; omega) | omega) _))); have b1s := B1.size; have I1 := Lib.hid hi1; clear hi1; (first | (have t1 := n33d hb1; have F1a := t1.1; have F1b := t1.2; obtain ⟨_, _, _, _, _, _, _⟩ := id F1a; obtain ⟨_, _, _, _, _, _, _⟩ := id F1b) | (have F1a := n3d hb1; obtain ⟨_, _, _, _, _, _, _⟩ := id F1a) | (have t1 := n33 hb1; have F1a := t1.1; have F1b := t1.2; obtain ⟨_, _, _, _, _, _, _⟩ := id F1a; obtain ⟨_, _, _, _, _, _, _⟩ := id F1b) | (have F1a := n3 hb1; obtain ⟨_, _, _, _, _, _, _⟩ := id F1a) | skip))
          | (go_at_call 18; (with_reducible refine (ratioOf_any _ V9.heap.size b (rv_at (LRd.more (B := V9.heap.size) (LRd.below (Hb1.more (by omega)) (B' := V9.heap.size) (by (repeat (first | with_reducible exact G0 | with_reducible exact B2 | with_reducible exact B1 | with_reducible exact Below.refl _ _ | with_reducible refine Below.drew ?_ | with_reducible refine Below.alloc ?_ (by first | (simp; done) | (simp; omega) | omega) _ | with_reducible refine Below.setCell ?_ (by first | (simp; done) | (simp; omega) | omega) _))) (Nat.le_refl _)) (by first | (simp; done) | (simp; omega) | omega)) (LRd.more (B := V9.heap.size) (LRd.below (Hb2.more (by omega)) (B' := V9.heap.size) (by (repeat (first | with_reducible exact G0 | with_reducible exact B2 | with_reducible exact B1 | with_reducible exact Below.refl _ _ | with_reducible refine Below.drew ?_ | with_reducible refine Below.alloc ?_ (by first | (simp; done) | (simp; omega) | omega) _ | with_reducible refine Below.setCell ?_ (by first | (simp; done) | (simp; omega) | omega) _))) (Nat.le_refl _)) (by first | (simp; done) | (simp; omega) | omega))) (by first | (simp; done) | (simp; omega) | omega) ob.out).mono ?_); rintro e u2 hq; obtain ⟨q2, rfl, hq2, hi2, hb2⟩ := GivesRR.q hq; clear hq; have B2 : Below V9.heap.size V9 u2 := (by refine bnext ?_ hb2; (repeat (first | with_reducible exact G0 | with_reducible exact B2 | with_reducible exact B1 | with_reducible exact Below.refl _ _ | with_reducible refine Below.drew ?_ | with_reducible refine Below.alloc ?_ (by first | (simp; done) | (simp; omega) | omega) _ | with_reducible refine Below.setCell ?_ (by first | (simp; done) | (simp; omega) | omega) _))); have b2s := B2.size; have I2 := Lib.hid hi2; clear hi2; (first | (have t2 := n33d hb2; have F2a := t2.1; have F2b := t2.2; obtain ⟨_, _, _, _, _, _, _⟩ := id F2a; obtain ⟨_, _, _, _, _, _, _⟩ := id F2b) | (have F2a := n3d hb2; obtain ⟨_, _, _, _, _, _, _⟩ := id F2a) | (have t2 := n33 hb2; have F2a := t2.1; have F2b := t2.2; obtain ⟨_, _, _, _, _, _, _⟩ := id F2a; obtain ⟨_, _, _, _, _, _, _⟩ := id F2b) | (have F2a := n3 hb2; obtain ⟨_, _, _, _, _, _, _⟩ := id F2a) | skip); have K12 : Below u1.heap.size u1 u2 := (by refine bnext ?_ hb2; (repeat (first | with_reducible exact Below.refl _ _ | with_reducible refine Below.alloc ?_ (by first | (simp; done) | (simp; omega) | omega) _))); have hq1q := QV.at.below hq1 K12; (first | (have F1a2 := F1a.below K12 F1a.lt; obtain ⟨_, _, _, _, _, _, _⟩ := id F1a2) | skip); (first | (have F1b2 := F1b.below K12 F1b.lt; obtain ⟨_, _, _, _, _, _, _⟩ := id F1b2) | skip))
          | fail)
      all_goals (go_wp2_with fail)
      all_goals go_meet
      all_goals first
        | with_reducible exact r2_aa hq1q hq2 I1 I2 B2
        | with_reducible exact r2_bb hq1q hq2 I1 I2 B2
        | with_reducible exact r2_oa hq1q hq2 I1 I2 B2 (by with_reducible assumption) (by omega)
        | with_reducible exact r2_ao hq1q hq2 I1 I2 B2 (by with_reducible assumption) (by omega)
        | with_reducible exact r2_oo hq1q hq2 I1 I2 B2 (by with_reducible assumption) (by with_reducible assumption) (by omega) (by omega) (by omega)
        | fail
  case rest =>
  obtain ⟨g, h, p, q, rfl, rfl, PG, PH, hp, hq, Ip, Iq, hg, hh, hbX⟩ := hcut
  replace E := E.trans (hbX.mono E.size)
  replace Ha1 := Ha1.below hbX (by omega)
  replace Ha2 := Ha2.below hbX (by omega)
  replace Hb1 := Hb1.below hbX (by omega)
  replace Hb2 := Hb2.below hbX (by omega)
  replace PA := PA.below hbX PA.lt
  replace PB := PB.below hbX PB.lt
  replace P5 := P5.below hbX P5.lt
  replace Hr11 := Hr11.below hbX (by omega)
  replace Hr12 := Hr12.below hbX (by omega)
  replace R1 := R1.below hbX R1.lt
  replace F1 := F1.below hbX F1.lt
  replace Hr21 := Hr21.below hbX (by omega)
  replace Hr22 := Hr22.below hbX (by omega)
  replace R2 := R2.below hbX R2.lt
  replace F2 := F2.below hbX F2.lt
  replace Hr31 := Hr31.below hbX (by omega)
  replace Hr32 := Hr32.below hbX (by omega)
  replace R3 := R3.below hbX R3.lt
  replace F3 := F3.below hbX F3.lt
  replace Hr41 := Hr41.below hbX (by omega)
  replace Hr42 := Hr42.below hbX (by omega)
  replace R4 := R4.below hbX R4.lt
  replace F4 := F4.below hbX F4.lt
  replace F15 := F15.below hbX F15.lt
  have sX := hbX.size
  clear hbX
  obtain ⟨Vc, hVc⟩ : ∃ y : World, y = wc := ⟨_, rfl⟩
  subst hVc
  have Hp1 : DRd Vc Vc.heap.size p.A p.n p.c p.xs := hp.1
  have Hp2 : DRd Vc Vc.heap.size p.D p.k p.d p.ys := hp.2
  clear hp
  obtain ⟨vp, e1, e2, e3⟩ := Ip.out
  have Rp := Lib.hid e1
  have Sp := Lib.hid e2
  have Tp := Lib.hid e3
  clear e1 e2 e3
  have Hq1 : DRd Vc Vc.heap.size q.A q.n q.c q.xs := hq.1
  have Hq2 : DRd Vc Vc.heap.size q.D q.k q.d q.ys := hq.2
  clear hq
  obtain ⟨vq, e1, e2, e3⟩ := Iq.out
  have Rq := Lib.hid e1
  have Sq := Lib.hid e2
  have Tq := Lib.hid e3
  clear e1 e2 e3
  have VA := Lib.hid (RV.val oa.out (rv_at Ha1 Ha2))
  have VB := Lib.hid (RV.val ob.out (rv_at Hb1 Hb2))
  have lp := Lib.hid (show vp < TT from lt_tt9 (by rw [← sval_abs p.m vp, Sp.out]; exact VA.out.bn))
  have lq := Lib.hid (show vq < TT from lt_tt9 (by rw [← sval_abs q.m vq, Sq.out]; exact VB.out.bn))
  have la := Lib.hid (show a.den.val.natAbs < TT from lt_tt9 VA.out.bd)
  have lb := Lib.hid (show b.den.val.natAbs < TT from lt_tt9 VB.out.bd)
  have pab := Lib.hid (show 0 < a.den.val.natAbs * b.den.val.natAbs from Nat.mul_pos (by have := VA.out.pos; omega) (by have := VB.out.pos; omega))
  have nab := Lib.hid (show a.den.val * b.den.val ≠ 0 from Int.ne_of_gt (Int.mul_pos VA.out.pos VB.out.pos))
  have ca := Lib.hid (show ((a.den.val.natAbs : Nat) : Int) = a.den.val by have := VA.out.pos; omega)
  have cb := Lib.hid (show ((b.den.val.natAbs : Nat) : Int) = b.den.val by have := VB.out.pos; omega)
  go_upto_region 12 with fail
  have lt_P5 := P5.lt
  have lt_R1 := R1.lt
  have lt_F1 := F1.lt
  have lt_R2 := R2.lt
  have lt_F2 := F2.lt
  have lt_R3 := R3.lt
  have lt_F3 := F3.lt
  have lt_PG := PG.lt
  have lt_PH := PH.lt
  have HS := Lib.hid (fun (u : World) (hu : Below (Vc.heap.size) Vc u) => (⟨(hu.cell (p := ⟨w1.heap.size, 0, none⟩) (by show w1.heap.size < _; omega)).trans P5.c0, (hu.cell (p := ⟨w1.heap.size, 1, none⟩) (by show w1.heap.size < _; omega)).trans P5.c1, (hu.cell (p := ⟨w2.heap.size, 0, none⟩) (by show w2.heap.size < _; omega)).trans R1.c0, (hu.cell (p := ⟨w2.heap.size, 1, none⟩) (by show w2.heap.size < _; omega)).trans R1.c1, (hu.cell (p := ⟨w2.heap.size, 2, none⟩) (by show w2.heap.size < _; omega)).trans R1.c2, (hu.cell (p := ⟨w2.heap.size, 3, none⟩) (by show w2.heap.size < _; omega)).trans R1.c3, (hu.cell (p := ⟨w2.heap.size + 1, 0, none⟩) (by show w2.heap.size + 1 < _; omega)).trans F1.c0, (hu.cell (p := ⟨w2.heap.size + 1, 1, none⟩) (by show w2.heap.size + 1 < _; omega)).trans F1.c1, (hu.cell (p := ⟨w3.heap.size, 0, none⟩) (by show w3.heap.size < _; omega)).trans R2.c0, (hu.cell (p := ⟨w3.heap.size, 1, none⟩) (by show w3.heap.size < _; omega)).trans R2.c1, (hu.cell (p := ⟨w3.heap.size, 2, none⟩) (by show w3.heap.size < _; omega)).trans R2.c2, (hu.cell (p := ⟨w3.heap.size, 3, none⟩) (by show w3.heap.size < _; omega)).trans R2.c3, (hu.cell (p := ⟨w3.heap.size + 1, 0, none⟩) (by show w3.heap.size + 1 < _; omega)).trans F2.c0, (hu.cell (p := ⟨w3.heap.size + 1, 1, none⟩) (by show w3.heap.size + 1 < _; omega)).trans F2.c1, (hu.cell (p := ⟨w4.heap.size, 0, none⟩) (by show w4.heap.size < _; omega)).trans R3.c0, (hu.cell (p := ⟨w4.heap.size, 1, none⟩) (by show w4.heap.size < _; omega)).trans R3.c1, (hu.cell (p := ⟨w4.heap.size, 2, none⟩) (by show w4.heap.size < _; omega)).trans R3.c2, (hu.cell (p := ⟨w4.heap.size, 3, none⟩) (by show w4.heap.size < _; omega)).trans R3.c3, (hu.cell (p := ⟨w4.heap.size + 1, 0, none⟩) (by show w4.heap.size + 1 < _; omega)).trans F3.c0, (hu.cell (p := ⟨w4.heap.size + 1, 1, none⟩) (by show w4.heap.size + 1 < _; omega)).trans F3.c1, (hu.cell (p := ⟨g, 0, none⟩) (by show g < _; omega)).trans PG.c0, (hu.cell (p := ⟨g, 1, none⟩) (by show g < _; omega)).trans PG.c1, (hu.cell (p := ⟨g, 2, none⟩) (by show g < _; omega)).trans PG.c2, (hu.cell (p := ⟨h, 0, none⟩) (by show h < _; omega)).trans PH.c0, (hu.cell (p := ⟨h, 1, none⟩) (by show h < _; omega)).trans PH.c1, (hu.cell (p := ⟨h, 2, none⟩) (by show h < _; omega)).trans PH.c2⟩ : u.cell? ⟨w1.heap.size, 0, none⟩ = some (.int .i64 0) ∧ u.cell? ⟨w1.heap.size, 1, none⟩ = some (.int .i64 0) ∧ u.cell? ⟨w2.heap.size, 0, none⟩ = some (.bool r1.num.neg) ∧ u.cell? ⟨w2.heap.size, 1, none⟩ = some (.slice r1.num.A r1.num.n r1.num.c) ∧ u.cell? ⟨w2.heap.size, 2, none⟩ = some (.bool r1.den.neg) ∧ u.cell? ⟨w2.heap.size, 3, none⟩ = some (.slice r1.den.A r1.den.n r1.den.c) ∧ u.cell? ⟨w2.heap.size + 1, 0, none⟩ = some (.int .i64 f1) ∧ u.cell? ⟨w2.heap.size + 1, 1, none⟩ = some (.int .i64 e1) ∧ u.cell? ⟨w3.heap.size, 0, none⟩ = some (.bool r2.num.neg) ∧ u.cell? ⟨w3.heap.size, 1, none⟩ = some (.slice r2.num.A r2.num.n r2.num.c) ∧ u.cell? ⟨w3.heap.size, 2, none⟩ = some (.bool r2.den.neg) ∧ u.cell? ⟨w3.heap.size, 3, none⟩ = some (.slice r2.den.A r2.den.n r2.den.c) ∧ u.cell? ⟨w3.heap.size + 1, 0, none⟩ = some (.int .i64 f2) ∧ u.cell? ⟨w3.heap.size + 1, 1, none⟩ = some (.int .i64 e2) ∧ u.cell? ⟨w4.heap.size, 0, none⟩ = some (.bool r3.num.neg) ∧ u.cell? ⟨w4.heap.size, 1, none⟩ = some (.slice r3.num.A r3.num.n r3.num.c) ∧ u.cell? ⟨w4.heap.size, 2, none⟩ = some (.bool r3.den.neg) ∧ u.cell? ⟨w4.heap.size, 3, none⟩ = some (.slice r3.den.A r3.den.n r3.den.c) ∧ u.cell? ⟨w4.heap.size + 1, 0, none⟩ = some (.int .i64 f3) ∧ u.cell? ⟨w4.heap.size + 1, 1, none⟩ = some (.int .i64 e3) ∧ u.cell? ⟨g, 0, none⟩ = some (.bool p.m) ∧ u.cell? ⟨g, 1, none⟩ = some (.slice p.A p.n p.c) ∧ u.cell? ⟨g, 2, none⟩ = some (.slice p.D p.k p.d) ∧ u.cell? ⟨h, 0, none⟩ = some (.bool q.m) ∧ u.cell? ⟨h, 1, none⟩ = some (.slice q.A q.n q.c) ∧ u.cell? ⟨h, 2, none⟩ = some (.slice q.D q.k q.d)))
  have G0 : Below Vc.heap.size Vc Vc.drew := Below.drew (Below.refl _ _)
  have g0s := G0.size
  have G0m : Below (Vc.heap.size) Vc Vc.drew := G0.mono (by omega)
  go_region_held3 (fun u => u.cell? ⟨w1.heap.size, 0, none⟩ = some (.int .i64 0) ∧ u.cell? ⟨w1.heap.size, 1, none⟩ = some (.int .i64 0) ∧ u.cell? ⟨w2.heap.size, 0, none⟩ = some (.bool r1.num.neg) ∧ u.cell? ⟨w2.heap.size, 1, none⟩ = some (.slice r1.num.A r1.num.n r1.num.c) ∧ u.cell? ⟨w2.heap.size, 2, none⟩ = some (.bool r1.den.neg) ∧ u.cell? ⟨w2.heap.size, 3, none⟩ = some (.slice r1.den.A r1.den.n r1.den.c) ∧ u.cell? ⟨w2.heap.size + 1, 0, none⟩ = some (.int .i64 f1) ∧ u.cell? ⟨w2.heap.size + 1, 1, none⟩ = some (.int .i64 e1) ∧ u.cell? ⟨w3.heap.size, 0, none⟩ = some (.bool r2.num.neg) ∧ u.cell? ⟨w3.heap.size, 1, none⟩ = some (.slice r2.num.A r2.num.n r2.num.c) ∧ u.cell? ⟨w3.heap.size, 2, none⟩ = some (.bool r2.den.neg) ∧ u.cell? ⟨w3.heap.size, 3, none⟩ = some (.slice r2.den.A r2.den.n r2.den.c) ∧ u.cell? ⟨w3.heap.size + 1, 0, none⟩ = some (.int .i64 f2) ∧ u.cell? ⟨w3.heap.size + 1, 1, none⟩ = some (.int .i64 e2) ∧ u.cell? ⟨w4.heap.size, 0, none⟩ = some (.bool r3.num.neg) ∧ u.cell? ⟨w4.heap.size, 1, none⟩ = some (.slice r3.num.A r3.num.n r3.num.c) ∧ u.cell? ⟨w4.heap.size, 2, none⟩ = some (.bool r3.den.neg) ∧ u.cell? ⟨w4.heap.size, 3, none⟩ = some (.slice r3.den.A r3.den.n r3.den.c) ∧ u.cell? ⟨w4.heap.size + 1, 0, none⟩ = some (.int .i64 f3) ∧ u.cell? ⟨w4.heap.size + 1, 1, none⟩ = some (.int .i64 e3) ∧ u.cell? ⟨g, 0, none⟩ = some (.bool p.m) ∧ u.cell? ⟨g, 1, none⟩ = some (.slice p.A p.n p.c) ∧ u.cell? ⟨g, 2, none⟩ = some (.slice p.D p.k p.d) ∧ u.cell? ⟨h, 0, none⟩ = some (.bool q.m) ∧ u.cell? ⟨h, 1, none⟩ = some (.slice q.A q.n q.c) ∧ u.cell? ⟨h, 2, none⟩ = some (.slice q.D q.k q.d)) (first | (refine HS.out _ ?_; (repeat (first | with_reducible exact G0m | with_reducible exact BN.mono (by omega) | with_reducible exact B6.mono (by omega) | with_reducible exact B5.mono (by omega) | with_reducible exact B4.mono (by omega) | with_reducible exact B3.mono (by omega) | with_reducible exact B2.mono (by omega) | with_reducible exact B1.mono (by omega) | with_reducible exact Below.refl _ _ | with_reducible refine Below.drew ?_ | with_reducible refine below_drewN ?_ _ | with_reducible refine Below.setCell ?_ (by first | (simp; done) | (simp; omega) | omega) _)); done) | fail)
    (first
      | (go_at_call 19; (with_reducible refine (qorder_v _ Vc.heap.size p q vp vq a.den.val.natAbs b.den.val.natAbs (qv_at (DRd.below Hp1 G0 (Nat.le_refl _) |>.more (by omega)) (DRd.below Hp2 G0 (Nat.le_refl _) |>.more (by omega))) (qv_at (DRd.below Hq1 G0 (Nat.le_refl _) |>.more (by omega)) (DRd.below Hq2 G0 (Nat.le_refl _) |>.more (by omega))) (by omega) Rp Tp Rq Tq lp.out la.out lq.out lb.out).mono ?_); rintro e u1 ⟨r9, hic, rfl, hb1⟩; have B1 : Below Vc.heap.size Vc u1 := bnext G0 hb1; have b1s := B1.size; have hrr : r9 = rn := ord_same hic IC.out (by rw [Sp.out, cb.out]) (by rw [Sq.out, ca.out]); clear hic; rw [hrr])
      | (go_at_call 20; (with_reducible refine (qplus_v _ u1.heap.size p q vp vq a.den.val.natAbs b.den.val.natAbs (qv_at (DRd.below Hp1 B1 (Nat.le_refl _) |>.more (by omega)) (DRd.below Hp2 B1 (Nat.le_refl _) |>.more (by omega))) (qv_at (DRd.below Hq1 B1 (Nat.le_refl _) |>.more (by omega)) (DRd.below Hq2 B1 (Nat.le_refl _) |>.more (by omega))) (Nat.le_refl _) Rp Tp Rq Tq lp.out la.out lq.out lb.out pab).mono ?_); rintro e u2 ⟨y2, z2, hlo, q2, rfl, hq2, hi2, hb2⟩; have B2 : Below Vc.heap.size Vc u2 := bnext B1 hb2; have b2s := B2.size; have L2 := Lib.hid (low_add hlo Sp.out Sq.out ca.out cb.out); have I2 := Lib.hid hi2; clear hlo hi2)
      | (go_at_call 17; (with_reducible refine (gives_z _ u2.heap.size r1 f1 e1 (a.num.val * b.den.val + b.num.val * a.den.val) (a.den.val * b.den.val) q2 y2 z2 (rv_at ((Hr11.below B2 (by omega)).more (by omega)) ((Hr12.below B2 (by omega)).more (by omega))) hq2 (Nat.le_refl _) Z1 I2 L2 nab.out).mono ?_); rintro e u3 ⟨rfl, hb3⟩; have B3 : Below Vc.heap.size Vc u3 := bnext B2 hb3; have b3s := B3.size)
      | (go_at_call 21; (with_reducible refine (qless_v _ u3.heap.size p q vp vq a.den.val.natAbs b.den.val.natAbs (qv_at (DRd.below Hp1 B3 (Nat.le_refl _) |>.more (by omega)) (DRd.below Hp2 B3 (Nat.le_refl _) |>.more (by omega))) (qv_at (DRd.below Hq1 B3 (Nat.le_refl _) |>.more (by omega)) (DRd.below Hq2 B3 (Nat.le_refl _) |>.more (by omega))) (Nat.le_refl _) Rp Tp Rq Tq lp.out la.out lq.out lb.out pab).mono ?_); rintro e u4 ⟨y4, z4, hlo, q4, rfl, hq4, hi4, hb4⟩; have B4 : Below Vc.heap.size Vc u4 := bnext B3 hb4; have b4s := B4.size; have L4 := Lib.hid (low_subt hlo Sp.out Sq.out ca.out cb.out); have I4 := Lib.hid hi4; clear hlo hi4)
      | (go_at_call 17; (with_reducible refine (gives_z _ u4.heap.size r2 f2 e2 (a.num.val * b.den.val - b.num.val * a.den.val) (a.den.val * b.den.val) q4 y4 z4 (rv_at ((Hr21.below B4 (by omega)).more (by omega)) ((Hr22.below B4 (by omega)).more (by omega))) hq4 (Nat.le_refl _) Z2 I4 L4 nab.out).mono ?_); rintro e u5 ⟨rfl, hb5⟩; have B5 : Below Vc.heap.size Vc u5 := bnext B4 hb5; have b5s := B5.size)
      | (go_at_call 22; (with_reducible refine (qtimes_v _ u5.heap.size p q vp vq a.den.val.natAbs b.den.val.natAbs (qv_at (DRd.below Hp1 B5 (Nat.le_refl _) |>.more (by omega)) (DRd.below Hp2 B5 (Nat.le_refl _) |>.more (by omega))) (qv_at (DRd.below Hq1 B5 (Nat.le_refl _) |>.more (by omega)) (DRd.below Hq2 B5 (Nat.le_refl _) |>.more (by omega))) (Nat.le_refl _) Rp Tp Rq Tq lp.out la.out lq.out lb.out pab).mono ?_); rintro e u6 ⟨y6, z6, hlo, q6, rfl, hq6, hi6, hb6⟩; have B6 : Below Vc.heap.size Vc u6 := bnext B5 hb6; have b6s := B6.size; have L6 := Lib.hid (low_mult hlo Sp.out Sq.out ca.out cb.out); have I6 := Lib.hid hi6; clear hlo hi6)
      | (go_at_call 17; (with_reducible refine (gives_z _ u6.heap.size r3 f3 e3 (a.num.val * b.num.val) (a.den.val * b.den.val) q6 y6 z6 (rv_at ((Hr31.below B6 (by omega)).more (by omega)) ((Hr32.below B6 (by omega)).more (by omega))) hq6 (Nat.le_refl _) Z3 I6 L6 nab.out).mono ?_); rintro e u7 ⟨rfl, hb7⟩; have BN : Below Vc.heap.size Vc u7 := bnext B6 hb7; have b7s := BN.size)
      | fail)
  clear HS G0 g0s G0m
  replace PG := PG.below BN PG.lt
  replace PH := PH.below BN PH.lt
  replace E := E.trans (BN.mono E.size)
  replace Ha1 := Ha1.below BN (by omega)
  replace Ha2 := Ha2.below BN (by omega)
  replace Hb1 := Hb1.below BN (by omega)
  replace Hb2 := Hb2.below BN (by omega)
  replace PA := PA.below BN PA.lt
  replace PB := PB.below BN PB.lt
  replace P5 := P5.below BN P5.lt
  replace Hr11 := Hr11.below BN (by omega)
  replace Hr12 := Hr12.below BN (by omega)
  replace R1 := R1.below BN R1.lt
  replace F1 := F1.below BN F1.lt
  replace Hr21 := Hr21.below BN (by omega)
  replace Hr22 := Hr22.below BN (by omega)
  replace R2 := R2.below BN R2.lt
  replace F2 := F2.below BN F2.lt
  replace Hr31 := Hr31.below BN (by omega)
  replace Hr32 := Hr32.below BN (by omega)
  replace R3 := R3.below BN R3.lt
  replace F3 := F3.below BN F3.lt
  replace Hr41 := Hr41.below BN (by omega)
  replace Hr42 := Hr42.below BN (by omega)
  replace R4 := R4.below BN R4.lt
  replace F4 := F4.below BN F4.lt
  replace F15 := F15.below BN F15.lt
  replace Hp1 := Hp1.below BN (by omega)
  replace Hp2 := Hp2.below BN (by omega)
  replace Hq1 := Hq1.below BN (by omega)
  replace Hq2 := Hq2.below BN (by omega)
  obtain ⟨Vd, hVd⟩ : ∃ y : World, y = u7 := ⟨_, rfl⟩
  subst hVd
  have t_PB0 := PB.c0
  have t_PB1 := PB.c1
  have t_PB2 := PB.c2
  have t_PB3 := PB.c3
  go_wp2_with fail
  clear t_PB0 t_PB1 t_PB2 t_PB3
  (with_reducible refine (noInt_any _ b.num.neg b.num.A b.num.n b.num.c (by have := Hb1.cap; omega)).mono ?_)
  rintro e w20 ⟨rfl, hb20⟩
  have sw20 := hb20.size
  replace PG := PG.below hb20 PG.lt
  replace PH := PH.below hb20 PH.lt
  replace E := E.trans (hb20.mono E.size)
  replace Ha1 := Ha1.below hb20 (by omega)
  replace Ha2 := Ha2.below hb20 (by omega)
  replace Hb1 := Hb1.below hb20 (by omega)
  replace Hb2 := Hb2.below hb20 (by omega)
  replace PA := PA.below hb20 PA.lt
  replace PB := PB.below hb20 PB.lt
  replace P5 := P5.below hb20 P5.lt
  replace Hr11 := Hr11.below hb20 (by omega)
  replace Hr12 := Hr12.below hb20 (by omega)
  replace R1 := R1.below hb20 R1.lt
  replace F1 := F1.below hb20 F1.lt
  replace Hr21 := Hr21.below hb20 (by omega)
  replace Hr22 := Hr22.below hb20 (by omega)
  replace R2 := R2.below hb20 R2.lt
  replace F2 := F2.below hb20 F2.lt
  replace Hr31 := Hr31.below hb20 (by omega)
  replace Hr32 := Hr32.below hb20 (by omega)
  replace R3 := R3.below hb20 R3.lt
  replace F3 := F3.below hb20 F3.lt
  replace Hr41 := Hr41.below hb20 (by omega)
  replace Hr42 := Hr42.below hb20 (by omega)
  replace R4 := R4.below hb20 R4.lt
  replace F4 := F4.below hb20 F4.lt
  replace F15 := F15.below hb20 F15.lt
  replace Hp1 := Hp1.below hb20 (by omega)
  replace Hp2 := Hp2.below hb20 (by omega)
  replace Hq1 := Hq1.below hb20 (by omega)
  replace Hq2 := Hq2.below hb20 (by omega)
  clear hb20
  rw [hz0]
  go_upto_region 16 with fail
  have pvq := Lib.hid (show 0 < a.den.val.natAbs * vq from Nat.mul_pos (by have := VA.out.pos; omega) (by have h8 := sval_abs q.m vq; rw [Sq.out] at h8; have := hnb.out; omega))
  have nab2 := Lib.hid (show a.den.val * b.num.val ≠ 0 from Int.mul_ne_zero (Int.ne_of_gt VA.out.pos) hnb.out)
  have lt_P5 := P5.lt
  have lt_R4 := R4.lt
  have lt_F4 := F4.lt
  have lt_PG := PG.lt
  have lt_PH := PH.lt
  have HS := Lib.hid (fun (u : World) (hu : Below (w20.heap.size) w20 u) => (⟨(hu.cell (p := ⟨w1.heap.size, 0, none⟩) (by show w1.heap.size < _; omega)).trans P5.c0, (hu.cell (p := ⟨w1.heap.size, 1, none⟩) (by show w1.heap.size < _; omega)).trans P5.c1, (hu.cell (p := ⟨w5.heap.size, 0, none⟩) (by show w5.heap.size < _; omega)).trans R4.c0, (hu.cell (p := ⟨w5.heap.size, 1, none⟩) (by show w5.heap.size < _; omega)).trans R4.c1, (hu.cell (p := ⟨w5.heap.size, 2, none⟩) (by show w5.heap.size < _; omega)).trans R4.c2, (hu.cell (p := ⟨w5.heap.size, 3, none⟩) (by show w5.heap.size < _; omega)).trans R4.c3, (hu.cell (p := ⟨w5.heap.size + 1, 0, none⟩) (by show w5.heap.size + 1 < _; omega)).trans F4.c0, (hu.cell (p := ⟨w5.heap.size + 1, 1, none⟩) (by show w5.heap.size + 1 < _; omega)).trans F4.c1, (hu.cell (p := ⟨g, 0, none⟩) (by show g < _; omega)).trans PG.c0, (hu.cell (p := ⟨g, 1, none⟩) (by show g < _; omega)).trans PG.c1, (hu.cell (p := ⟨g, 2, none⟩) (by show g < _; omega)).trans PG.c2, (hu.cell (p := ⟨h, 0, none⟩) (by show h < _; omega)).trans PH.c0, (hu.cell (p := ⟨h, 1, none⟩) (by show h < _; omega)).trans PH.c1, (hu.cell (p := ⟨h, 2, none⟩) (by show h < _; omega)).trans PH.c2⟩ : u.cell? ⟨w1.heap.size, 0, none⟩ = some (.int .i64 0) ∧ u.cell? ⟨w1.heap.size, 1, none⟩ = some (.int .i64 0) ∧ u.cell? ⟨w5.heap.size, 0, none⟩ = some (.bool r4.num.neg) ∧ u.cell? ⟨w5.heap.size, 1, none⟩ = some (.slice r4.num.A r4.num.n r4.num.c) ∧ u.cell? ⟨w5.heap.size, 2, none⟩ = some (.bool r4.den.neg) ∧ u.cell? ⟨w5.heap.size, 3, none⟩ = some (.slice r4.den.A r4.den.n r4.den.c) ∧ u.cell? ⟨w5.heap.size + 1, 0, none⟩ = some (.int .i64 f4) ∧ u.cell? ⟨w5.heap.size + 1, 1, none⟩ = some (.int .i64 e4) ∧ u.cell? ⟨g, 0, none⟩ = some (.bool p.m) ∧ u.cell? ⟨g, 1, none⟩ = some (.slice p.A p.n p.c) ∧ u.cell? ⟨g, 2, none⟩ = some (.slice p.D p.k p.d) ∧ u.cell? ⟨h, 0, none⟩ = some (.bool q.m) ∧ u.cell? ⟨h, 1, none⟩ = some (.slice q.A q.n q.c) ∧ u.cell? ⟨h, 2, none⟩ = some (.slice q.D q.k q.d)))
  have G0 : Below w20.heap.size w20 w20.drew := Below.drew (Below.refl _ _)
  have g0s := G0.size
  have G0m : Below (w20.heap.size) w20 w20.drew := G0.mono (by omega)
  go_region_held3 (fun u => u.cell? ⟨w1.heap.size, 0, none⟩ = some (.int .i64 0) ∧ u.cell? ⟨w1.heap.size, 1, none⟩ = some (.int .i64 0) ∧ u.cell? ⟨w5.heap.size, 0, none⟩ = some (.bool r4.num.neg) ∧ u.cell? ⟨w5.heap.size, 1, none⟩ = some (.slice r4.num.A r4.num.n r4.num.c) ∧ u.cell? ⟨w5.heap.size, 2, none⟩ = some (.bool r4.den.neg) ∧ u.cell? ⟨w5.heap.size, 3, none⟩ = some (.slice r4.den.A r4.den.n r4.den.c) ∧ u.cell? ⟨w5.heap.size + 1, 0, none⟩ = some (.int .i64 f4) ∧ u.cell? ⟨w5.heap.size + 1, 1, none⟩ = some (.int .i64 e4) ∧ u.cell? ⟨g, 0, none⟩ = some (.bool p.m) ∧ u.cell? ⟨g, 1, none⟩ = some (.slice p.A p.n p.c) ∧ u.cell? ⟨g, 2, none⟩ = some (.slice p.D p.k p.d) ∧ u.cell? ⟨h, 0, none⟩ = some (.bool q.m) ∧ u.cell? ⟨h, 1, none⟩ = some (.slice q.A q.n q.c) ∧ u.cell? ⟨h, 2, none⟩ = some (.slice q.D q.k q.d)) (first | (refine HS.out _ ?_; (repeat (first | with_reducible exact G0m | with_reducible exact BN.mono (by omega) | with_reducible exact B2.mono (by omega) | with_reducible exact B1.mono (by omega) | with_reducible exact Below.refl _ _ | with_reducible refine Below.drew ?_ | with_reducible refine below_drewN ?_ _ | with_reducible refine Below.setCell ?_ (by first | (simp; done) | (simp; omega) | omega) _)); done) | fail)
    (first
      | (go_at_call 25; (with_reducible refine (qturned_v _ w20.heap.size q vq b.den.val.natAbs (qv_at ((Hq1.below G0 (by omega)).more (by have := G0.size; omega)) ((Hq2.below G0 (by omega)).more (by have := G0.size; omega))) (by omega) Rq Tq).mono ?_); rintro e x1 ⟨q8, rfl, hq8, ⟨v8, k1, k2, k3⟩, hb1⟩; have B1 : Below w20.heap.size w20 x1 := bnext G0 hb1; have b1s := B1.size; have R8 := Lib.hid k1; have S8 := Lib.hid k2; have T8 := Lib.hid k3; clear k1 k2 k3; have l8 := Lib.hid (show v8 < TT by have h8 := sval_abs q8.m v8; rw [S8.out, sval_abs] at h8; rw [← h8]; exact lb.out))
      | (go_at_call 22; (with_reducible refine (qtimes_v _ x1.heap.size p q8 vp v8 a.den.val.natAbs vq (qv_at ((Hp1.below B1 (by omega)).more (by have := B1.size; omega)) ((Hp2.below B1 (by omega)).more (by have := B1.size; omega))) hq8 (Nat.le_refl _) Rp Tp R8 T8 lp.out la.out l8.out lq.out pvq).mono ?_); rintro e x2 ⟨y9, z9, hlo, q9, rfl, hq9, hi9, hb2⟩; have B2 : Below w20.heap.size w20 x2 := bnext B1 hb2; have b2s := B2.size; have L9 := Lib.hid (low_div hlo Sp.out S8.out Sq.out ca.out cb.out); have I9 := Lib.hid hi9; clear hlo hi9)
      | (go_at_call 17; (with_reducible refine (gives_z _ x2.heap.size r4 f4 e4 (a.num.val * b.den.val) (a.den.val * b.num.val) q9 y9 z9 (rv_at ((Hr41.below B2 (by omega)).more (by omega)) ((Hr42.below B2 (by omega)).more (by omega))) hq9 (Nat.le_refl _) Z4 I9 L9 nab2.out).mono ?_); rintro e x3 ⟨rfl, hb3⟩; have BN : Below w20.heap.size w20 x3 := bnext B2 hb3)
      | fail)
  all_goals (go_wp2_with fail)
  all_goals go_ret
  all_goals exact ⟨rfl, E.trans (BN.mono E.size)⟩
end Go.Proofs.YtdhdkknaagadaaaGreat
