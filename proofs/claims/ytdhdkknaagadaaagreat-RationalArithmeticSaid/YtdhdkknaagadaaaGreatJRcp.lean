/- The program's Cmp of ratios. -/
import Derived.Test.YtdhdkknaagadaaaGreatJn
import Derived.Test.YtdhdkknaagadaaaGreatJInt21
namespace Go.Proofs.YtdhdkknaagadaaaGreat
open Go.RowKit
set_option maxHeartbeats 400000
set_option maxRecDepth 100000
set_option linter.unusedSimpArgs false
set_option linter.unusedVariables false

set_option maxHeartbeats 8000000 in
theorem rcmp_bad (w : World) (B : Nat) (a b : RV) (H1 : a.at w B) (H2 : b.at w B) (hB : B ≤ w.heap.size) (f2 : Int) (hf : rfault [a, b] 0 = (6, f2)) :
    Calls Tryz.prog 13 #[a.v, b.v] w (GivesI w 0 6 f2) := by
  have bbase : Below w.heap.size w (((w.alloc (.cells #[.bool a.num.neg, .slice a.num.A a.num.n a.num.c, .bool a.den.neg, .slice a.den.A a.den.n a.den.c] 26)).alloc (.cells #[.bool b.num.neg, .slice b.num.A b.num.n b.num.c, .bool b.den.neg, .slice b.den.A b.den.n b.den.c] 26)).alloc (.cells #[.int .i64 0, .int .i64 0] 28)) := ((bl1 w _).alloc (by simp) _).alloc (by simp; omega) _
  have HA : LRd w B a.num.A a.num.n a.num.c a.num.xs := H1.1
  have HC : LRd w B a.den.A a.den.n a.den.c a.den.xs := H1.2
  have HB : LRd w B b.num.A b.num.n b.num.c b.num.xs := H2.1
  have HD : LRd w B b.den.A b.den.n b.den.c b.den.xs := H2.2
  have E : Below w.heap.size w w := Below.refl _ _
  have RR := Lib.hid (rrow2 (((w.alloc (.cells #[.bool a.num.neg, .slice a.num.A a.num.n a.num.c, .bool a.den.neg, .slice a.den.A a.den.n a.den.c] 26)).alloc (.cells #[.bool b.num.neg, .slice b.num.A b.num.n b.num.c, .bool b.den.neg, .slice b.den.A b.den.n b.den.c] 26)).alloc (.cells #[.int .i64 0, .int .i64 0] 28)) B a b (RV.at.below H1 bbase (by omega)) (RV.at.below H2 bbase (by omega)) (by simp; omega))
  clear bbase
  go_enter Tryz.func13, Tryz.ntmps13
  go_wp2_with fail
  obtain ⟨V0, hV0⟩ : ∃ V0 : World, V0 = ((((w.alloc (.cells #[.bool a.num.neg, .slice a.num.A a.num.n a.num.c, .bool a.den.neg, .slice a.den.A a.den.n a.den.c] 26)).alloc (.cells #[.bool b.num.neg, .slice b.num.A b.num.n b.num.c, .bool b.den.neg, .slice b.den.A b.den.n b.den.c] 26)).alloc (.cells #[.int .i64 0, .int .i64 0] 28)).alloc (.cells #[.bool a.num.neg, .slice a.num.A a.num.n a.num.c, .bool a.den.neg, .slice a.den.A a.den.n a.den.c, .bool b.num.neg, .slice b.num.A b.num.n b.num.c, .bool b.den.neg, .slice b.den.A b.den.n b.den.c] 26)) := ⟨_, rfl⟩
  have bV0 : Below w.heap.size w V0 := by rw [hV0]; (repeat (first | with_reducible exact Below.refl _ _ | with_reducible refine Below.drew ?_ | with_reducible refine below_drewN ?_ _ | with_reducible refine Below.setCell ?_ (by first | (simp; done) | (simp; omega) | omega) _ | with_reducible refine Below.alloc ?_ (by first | (simp; done) | (simp; omega) | omega) _))
  have zV0 : w.heap.size + 4 ≤ V0.heap.size := by rw [hV0]; simp
  have PA : Bk4 V0 (w.heap.size) (.bool a.num.neg) (.slice a.num.A a.num.n a.num.c) (.bool a.den.neg) (.slice a.den.A a.den.n a.den.c) := by rw [hV0]; exact ((((Bk4.newAt _ _ (by first | omega | (simp; done) | (simp; omega)) _ _ _ _ _).alloc _).alloc _).alloc _)
  have PB : Bk4 V0 (w.heap.size + 1) (.bool b.num.neg) (.slice b.num.A b.num.n b.num.c) (.bool b.den.neg) (.slice b.den.A b.den.n b.den.c) := by rw [hV0]; exact (((Bk4.newAt _ _ (by first | omega | (simp; done) | (simp; omega)) _ _ _ _ _).alloc _).alloc _)
  have PF : Bk2 V0 (w.heap.size + 2) (.int .i64 0) (.int .i64 0) := by rw [hV0]; exact ((Bk2.newAt _ _ (by first | omega | (simp; done) | (simp; omega)) _ _ _).alloc _)
  replace RR : Hid (RRow V0 B (w.heap.size + 3) [a, b]) := by have h9 := RR.out; rw [hV0]; rw [show ((((w.alloc (.cells #[.bool a.num.neg, .slice a.num.A a.num.n a.num.c, .bool a.den.neg, .slice a.den.A a.den.n a.den.c] 26)).alloc (.cells #[.bool b.num.neg, .slice b.num.A b.num.n b.num.c, .bool b.den.neg, .slice b.den.A b.den.n b.den.c] 26)).alloc (.cells #[.int .i64 0, .int .i64 0] 28))).heap.size = w.heap.size + 3 by simp] at h9; exact h9
  rw [← hV0]
  clear hV0
  replace E := E.trans (bV0.mono E.size)
  replace HA := HA.below bV0 (by omega)
  replace HC := HC.below bV0 (by omega)
  replace HB := HB.below bV0 (by omega)
  replace HD := HD.below bV0 (by omega)
  clear bV0
  (with_reducible refine (rcheck_any _ B (w.heap.size + 3) 2 [a, b] RR.out rfl (by omega) (by omega)).mono ?_)
  rintro e w1 ⟨rfl, hb1⟩
  have sw1 := hb1.size
  replace E := E.trans (hb1.mono E.size)
  replace HA := HA.below hb1 (by omega)
  replace HC := HC.below hb1 (by omega)
  replace HB := HB.below hb1 (by omega)
  replace HD := HD.below hb1 (by omega)
  replace PA := PA.below hb1 PA.lt
  replace PB := PB.below hb1 PB.lt
  replace PF := PF.below hb1 PF.lt
  clear hb1
  rw [hf]
  clear RR
  go_upto_region 3 with fail
  obtain ⟨V1, hV1⟩ : ∃ V1 : World, V1 = (w1.alloc (.cells #[.int .i64 6, .int .i64 f2] 28)) := ⟨_, rfl⟩
  have bV1 : Below w1.heap.size w1 V1 := by rw [hV1]; (repeat (first | with_reducible exact Below.refl _ _ | with_reducible refine Below.drew ?_ | with_reducible refine below_drewN ?_ _ | with_reducible refine Below.setCell ?_ (by first | (simp; done) | (simp; omega) | omega) _ | with_reducible refine Below.alloc ?_ (by first | (simp; done) | (simp; omega) | omega) _))
  have zV1 : w1.heap.size + 1 ≤ V1.heap.size := by rw [hV1]; simp
  have F6 : Bk2 V1 (w1.heap.size) (.int .i64 6) (.int .i64 f2) := by rw [hV1]; exact (Bk2.newAt _ _ (by first | omega | (simp; done) | (simp; omega)) _ _ _)
  rw [← hV1]
  clear hV1
  replace E := E.trans (bV1.mono E.size)
  replace HA := HA.below bV1 (by omega)
  replace HC := HC.below bV1 (by omega)
  replace HB := HB.below bV1 (by omega)
  replace HD := HD.below bV1 (by omega)
  replace PA := PA.below bV1 PA.lt
  replace PB := PB.below bV1 PB.lt
  replace PF := PF.below bV1 PF.lt
  clear bV1
  have lt6 := F6.lt
  have ltF := PF.lt
  obtain ⟨_, _, _, _, _⟩ := F6
  obtain ⟨f0, f1, z0, z1, _⟩ := PF
  go_region
  go_wp2_with fail
  refine bodyPost_ret (v := .tuple #[.int .i64 0, flt 6 f2]) (by simp [results, Tryz.results13, go_sem, f0, f1]) rfl ⟨rfl, ?_⟩
  (repeat (first | with_reducible exact E | with_reducible refine Below.drew ?_ | with_reducible refine below_drewN ?_ _ | with_reducible refine Below.setCell ?_ (by first | (simp; done) | (simp; omega) | omega) _))
set_option maxHeartbeats 8000000 in
theorem rcmp_z (w : World) (B : Nat) (a b : RV) (H1 : a.at w B) (H2 : b.at w B) (hB : B ≤ w.heap.size) (hf : rfault [a, b] 0 = (0, 0)) (na da nb db : Int) (IA : Hid (IRep a.num.neg a.num.xs na)) (IC : Hid (IRep a.den.neg a.den.xs da)) (IB : Hid (IRep b.num.neg b.num.xs nb)) (ID : Hid (IRep b.den.neg b.den.xs db)) (b1 : Hid (na.natAbs < Big)) (b2 : Hid (da.natAbs < Big)) (b3 : Hid (nb.natAbs < Big)) (b4 : Hid (db.natAbs < Big)) (c1 : Hid ((na * db).natAbs < Big)) (c2 : Hid ((nb * da).natAbs < Big)) (c3 : Hid ((na * db).natAbs + (nb * da).natAbs < Big)) (hz : na * db - nb * da = 0) :
    Calls Tryz.prog 13 #[a.v, b.v] w (CmpPostV (na * db) (nb * da) w) := by
  have bbase : Below w.heap.size w (((w.alloc (.cells #[.bool a.num.neg, .slice a.num.A a.num.n a.num.c, .bool a.den.neg, .slice a.den.A a.den.n a.den.c] 26)).alloc (.cells #[.bool b.num.neg, .slice b.num.A b.num.n b.num.c, .bool b.den.neg, .slice b.den.A b.den.n b.den.c] 26)).alloc (.cells #[.int .i64 0, .int .i64 0] 28)) := ((bl1 w _).alloc (by simp) _).alloc (by simp; omega) _
  have HA : LRd w B a.num.A a.num.n a.num.c a.num.xs := H1.1
  have HC : LRd w B a.den.A a.den.n a.den.c a.den.xs := H1.2
  have HB : LRd w B b.num.A b.num.n b.num.c b.num.xs := H2.1
  have HD : LRd w B b.den.A b.den.n b.den.c b.den.xs := H2.2
  have E : Below w.heap.size w w := Below.refl _ _
  have RR := Lib.hid (rrow2 (((w.alloc (.cells #[.bool a.num.neg, .slice a.num.A a.num.n a.num.c, .bool a.den.neg, .slice a.den.A a.den.n a.den.c] 26)).alloc (.cells #[.bool b.num.neg, .slice b.num.A b.num.n b.num.c, .bool b.den.neg, .slice b.den.A b.den.n b.den.c] 26)).alloc (.cells #[.int .i64 0, .int .i64 0] 28)) B a b (RV.at.below H1 bbase (by omega)) (RV.at.below H2 bbase (by omega)) (by simp; omega))
  clear bbase
  go_enter Tryz.func13, Tryz.ntmps13
  go_wp2_with fail
  obtain ⟨V0, hV0⟩ : ∃ V0 : World, V0 = ((((w.alloc (.cells #[.bool a.num.neg, .slice a.num.A a.num.n a.num.c, .bool a.den.neg, .slice a.den.A a.den.n a.den.c] 26)).alloc (.cells #[.bool b.num.neg, .slice b.num.A b.num.n b.num.c, .bool b.den.neg, .slice b.den.A b.den.n b.den.c] 26)).alloc (.cells #[.int .i64 0, .int .i64 0] 28)).alloc (.cells #[.bool a.num.neg, .slice a.num.A a.num.n a.num.c, .bool a.den.neg, .slice a.den.A a.den.n a.den.c, .bool b.num.neg, .slice b.num.A b.num.n b.num.c, .bool b.den.neg, .slice b.den.A b.den.n b.den.c] 26)) := ⟨_, rfl⟩
  have bV0 : Below w.heap.size w V0 := by rw [hV0]; (repeat (first | with_reducible exact Below.refl _ _ | with_reducible refine Below.drew ?_ | with_reducible refine below_drewN ?_ _ | with_reducible refine Below.setCell ?_ (by first | (simp; done) | (simp; omega) | omega) _ | with_reducible refine Below.alloc ?_ (by first | (simp; done) | (simp; omega) | omega) _))
  have zV0 : w.heap.size + 4 ≤ V0.heap.size := by rw [hV0]; simp
  have PA : Bk4 V0 (w.heap.size) (.bool a.num.neg) (.slice a.num.A a.num.n a.num.c) (.bool a.den.neg) (.slice a.den.A a.den.n a.den.c) := by rw [hV0]; exact ((((Bk4.newAt _ _ (by first | omega | (simp; done) | (simp; omega)) _ _ _ _ _).alloc _).alloc _).alloc _)
  have PB : Bk4 V0 (w.heap.size + 1) (.bool b.num.neg) (.slice b.num.A b.num.n b.num.c) (.bool b.den.neg) (.slice b.den.A b.den.n b.den.c) := by rw [hV0]; exact (((Bk4.newAt _ _ (by first | omega | (simp; done) | (simp; omega)) _ _ _ _ _).alloc _).alloc _)
  have PF : Bk2 V0 (w.heap.size + 2) (.int .i64 0) (.int .i64 0) := by rw [hV0]; exact ((Bk2.newAt _ _ (by first | omega | (simp; done) | (simp; omega)) _ _ _).alloc _)
  replace RR : Hid (RRow V0 B (w.heap.size + 3) [a, b]) := by have h9 := RR.out; rw [hV0]; rw [show ((((w.alloc (.cells #[.bool a.num.neg, .slice a.num.A a.num.n a.num.c, .bool a.den.neg, .slice a.den.A a.den.n a.den.c] 26)).alloc (.cells #[.bool b.num.neg, .slice b.num.A b.num.n b.num.c, .bool b.den.neg, .slice b.den.A b.den.n b.den.c] 26)).alloc (.cells #[.int .i64 0, .int .i64 0] 28))).heap.size = w.heap.size + 3 by simp] at h9; exact h9
  rw [← hV0]
  clear hV0
  replace E := E.trans (bV0.mono E.size)
  replace HA := HA.below bV0 (by omega)
  replace HC := HC.below bV0 (by omega)
  replace HB := HB.below bV0 (by omega)
  replace HD := HD.below bV0 (by omega)
  clear bV0
  (with_reducible refine (rcheck_any _ B (w.heap.size + 3) 2 [a, b] RR.out rfl (by omega) (by omega)).mono ?_)
  rintro e w1 ⟨rfl, hb1⟩
  have sw1 := hb1.size
  replace E := E.trans (hb1.mono E.size)
  replace HA := HA.below hb1 (by omega)
  replace HC := HC.below hb1 (by omega)
  replace HB := HB.below hb1 (by omega)
  replace HD := HD.below hb1 (by omega)
  replace PA := PA.below hb1 PA.lt
  replace PB := PB.below hb1 PB.lt
  replace PF := PF.below hb1 PF.lt
  clear hb1
  rw [hf]
  clear RR
  have t_PA0 : (w1.alloc (.cells #[.int .i64 0, .int .i64 0] 28)).cell? ⟨w.heap.size, 0, none⟩ = some ((.bool a.num.neg)) := (PA.alloc _).c0
  have t_PA1 : (w1.alloc (.cells #[.int .i64 0, .int .i64 0] 28)).cell? ⟨w.heap.size, 1, none⟩ = some ((.slice a.num.A a.num.n a.num.c)) := (PA.alloc _).c1
  have t_PA2 : (w1.alloc (.cells #[.int .i64 0, .int .i64 0] 28)).cell? ⟨w.heap.size, 2, none⟩ = some ((.bool a.den.neg)) := (PA.alloc _).c2
  have t_PA3 : (w1.alloc (.cells #[.int .i64 0, .int .i64 0] 28)).cell? ⟨w.heap.size, 3, none⟩ = some ((.slice a.den.A a.den.n a.den.c)) := (PA.alloc _).c3
  have t_PB0 : (w1.alloc (.cells #[.int .i64 0, .int .i64 0] 28)).cell? ⟨w.heap.size + 1, 0, none⟩ = some ((.bool b.num.neg)) := (PB.alloc _).c0
  have t_PB1 : (w1.alloc (.cells #[.int .i64 0, .int .i64 0] 28)).cell? ⟨w.heap.size + 1, 1, none⟩ = some ((.slice b.num.A b.num.n b.num.c)) := (PB.alloc _).c1
  have t_PB2 : (w1.alloc (.cells #[.int .i64 0, .int .i64 0] 28)).cell? ⟨w.heap.size + 1, 2, none⟩ = some ((.bool b.den.neg)) := (PB.alloc _).c2
  have t_PB3 : (w1.alloc (.cells #[.int .i64 0, .int .i64 0] 28)).cell? ⟨w.heap.size + 1, 3, none⟩ = some ((.slice b.den.A b.den.n b.den.c)) := (PB.alloc _).c3
  go_wp2_with fail
  clear t_PA0 t_PA1 t_PA2 t_PA3 t_PB0 t_PB1 t_PB2 t_PB3
  obtain ⟨V1, hV1⟩ : ∃ V1 : World, V1 = (w1.alloc (.cells #[.int .i64 0, .int .i64 0] 28)) := ⟨_, rfl⟩
  have bV1 : Below w1.heap.size w1 V1 := by rw [hV1]; (repeat (first | with_reducible exact Below.refl _ _ | with_reducible refine Below.drew ?_ | with_reducible refine below_drewN ?_ _ | with_reducible refine Below.setCell ?_ (by first | (simp; done) | (simp; omega) | omega) _ | with_reducible refine Below.alloc ?_ (by first | (simp; done) | (simp; omega) | omega) _))
  have zV1 : w1.heap.size + 1 ≤ V1.heap.size := by rw [hV1]; simp
  have F6 : Bk2 V1 (w1.heap.size) (.int .i64 0) (.int .i64 0) := by rw [hV1]; exact (Bk2.newAt _ _ (by first | omega | (simp; done) | (simp; omega)) _ _ _)
  rw [← hV1]
  clear hV1
  replace E := E.trans (bV1.mono E.size)
  replace HA := HA.below bV1 (by omega)
  replace HC := HC.below bV1 (by omega)
  replace HB := HB.below bV1 (by omega)
  replace HD := HD.below bV1 (by omega)
  replace PA := PA.below bV1 PA.lt
  replace PB := PB.below bV1 PB.lt
  replace PF := PF.below bV1 PF.lt
  clear bV1
  (with_reducible refine (gap_any _ B a b na da nb db (rv_at HA HC) (rv_at HB HD) (by omega) IA IC IB ID b1 b2 b3 b4 c1 c2 c3).mono ?_)
  rintro e w2 ⟨m, A, k, c, xs, rfl, hl, hI, hb2⟩
  have sw2 := hb2.size
  replace E := E.trans (hb2.mono E.size)
  replace HA := HA.below hb2 (by omega)
  replace HC := HC.below hb2 (by omega)
  replace HB := HB.below hb2 (by omega)
  replace HD := HD.below hb2 (by omega)
  replace PA := PA.below hb2 PA.lt
  replace PB := PB.below hb2 PB.lt
  replace PF := PF.below hb2 PF.lt
  replace F6 := F6.below hb2 F6.lt
  clear hb2
  have hk0 := (IRep.len0 hI)
  have hsg := hI.sgn
  have hln := hl.len.out
  have hcap := hl.cap
  obtain rfl : k = 0 := by omega
  clear hk0 hsg hln
  go_upto_region 5 with fail
  obtain ⟨V2, hV2⟩ : ∃ V2 : World, V2 = (w2.alloc (.cells #[.bool m, .slice A 0 c] 24)) := ⟨_, rfl⟩
  have bV2 : Below w2.heap.size w2 V2 := by rw [hV2]; (repeat (first | with_reducible exact Below.refl _ _ | with_reducible refine Below.drew ?_ | with_reducible refine below_drewN ?_ _ | with_reducible refine Below.setCell ?_ (by first | (simp; done) | (simp; omega) | omega) _ | with_reducible refine Below.alloc ?_ (by first | (simp; done) | (simp; omega) | omega) _))
  have zV2 : w2.heap.size + 1 ≤ V2.heap.size := by rw [hV2]; simp
  have PG : Bk2 V2 (w2.heap.size) (.bool m) (.slice A 0 c) := by rw [hV2]; exact (Bk2.newAt _ _ (by first | omega | (simp; done) | (simp; omega)) _ _ _)
  rw [← hV2]
  clear hV2
  replace E := E.trans (bV2.mono E.size)
  replace HA := HA.below bV2 (by omega)
  replace HC := HC.below bV2 (by omega)
  replace HB := HB.below bV2 (by omega)
  replace HD := HD.below bV2 (by omega)
  replace PA := PA.below bV2 PA.lt
  replace PB := PB.below bV2 PB.lt
  replace PF := PF.below bV2 PF.lt
  replace F6 := F6.below bV2 F6.lt
  clear bV2
  have t_PG0 := PG.c0
  have t_PG1 := PG.c1
  go_wp2_with fail
  clear t_PG0 t_PG1
  (with_reducible refine (isZero_any _ m A 0 c (by omega)).mono ?_)
  rintro e w3 ⟨rfl, hb3⟩
  have sw3 := hb3.size
  replace E := E.trans (hb3.mono E.size)
  replace HA := HA.below hb3 (by omega)
  replace HC := HC.below hb3 (by omega)
  replace HB := HB.below hb3 (by omega)
  replace HD := HD.below hb3 (by omega)
  replace PA := PA.below hb3 PA.lt
  replace PB := PB.below hb3 PB.lt
  replace PF := PF.below hb3 PF.lt
  replace F6 := F6.below hb3 F6.lt
  replace PG := PG.below hb3 PG.lt
  clear hb3
  rw [show decide ((0 : Nat) = 0) = true from rfl]
  have f0 := PF.c0
  have f1 := PF.c1
  have z0 := PF.z0
  have z1 := PF.z1
  have zz := PF.lt
  have y0 := PG.c0
  have y1 := PG.c1
  go_wp2_with fail
  refine bodyPost_ret (v := .tuple #[.int .i64 (0), flt 0 0]) (by simp [results, Tryz.results13, go_sem, f0, f1]) rfl ⟨_, (by unfold ICmp; omega), rfl, ?_⟩
  (repeat (first | with_reducible exact E | with_reducible refine Below.drew ?_ | with_reducible refine below_drewN ?_ _ | with_reducible refine Below.setCell ?_ (by first | (simp; done) | (simp; omega) | omega) _))
set_option maxHeartbeats 8000000 in
theorem rcmp_n (w : World) (B : Nat) (a b : RV) (H1 : a.at w B) (H2 : b.at w B) (hB : B ≤ w.heap.size) (hf : rfault [a, b] 0 = (0, 0)) (na da nb db : Int) (IA : Hid (IRep a.num.neg a.num.xs na)) (IC : Hid (IRep a.den.neg a.den.xs da)) (IB : Hid (IRep b.num.neg b.num.xs nb)) (ID : Hid (IRep b.den.neg b.den.xs db)) (b1 : Hid (na.natAbs < Big)) (b2 : Hid (da.natAbs < Big)) (b3 : Hid (nb.natAbs < Big)) (b4 : Hid (db.natAbs < Big)) (c1 : Hid ((na * db).natAbs < Big)) (c2 : Hid ((nb * da).natAbs < Big)) (c3 : Hid ((na * db).natAbs + (nb * da).natAbs < Big)) (hz : na * db - nb * da < 0) :
    Calls Tryz.prog 13 #[a.v, b.v] w (CmpPostV (na * db) (nb * da) w) := by
  have bbase : Below w.heap.size w (((w.alloc (.cells #[.bool a.num.neg, .slice a.num.A a.num.n a.num.c, .bool a.den.neg, .slice a.den.A a.den.n a.den.c] 26)).alloc (.cells #[.bool b.num.neg, .slice b.num.A b.num.n b.num.c, .bool b.den.neg, .slice b.den.A b.den.n b.den.c] 26)).alloc (.cells #[.int .i64 0, .int .i64 0] 28)) := ((bl1 w _).alloc (by simp) _).alloc (by simp; omega) _
  have HA : LRd w B a.num.A a.num.n a.num.c a.num.xs := H1.1
  have HC : LRd w B a.den.A a.den.n a.den.c a.den.xs := H1.2
  have HB : LRd w B b.num.A b.num.n b.num.c b.num.xs := H2.1
  have HD : LRd w B b.den.A b.den.n b.den.c b.den.xs := H2.2
  have E : Below w.heap.size w w := Below.refl _ _
  have RR := Lib.hid (rrow2 (((w.alloc (.cells #[.bool a.num.neg, .slice a.num.A a.num.n a.num.c, .bool a.den.neg, .slice a.den.A a.den.n a.den.c] 26)).alloc (.cells #[.bool b.num.neg, .slice b.num.A b.num.n b.num.c, .bool b.den.neg, .slice b.den.A b.den.n b.den.c] 26)).alloc (.cells #[.int .i64 0, .int .i64 0] 28)) B a b (RV.at.below H1 bbase (by omega)) (RV.at.below H2 bbase (by omega)) (by simp; omega))
  clear bbase
  go_enter Tryz.func13, Tryz.ntmps13
  go_wp2_with fail
  obtain ⟨V0, hV0⟩ : ∃ V0 : World, V0 = ((((w.alloc (.cells #[.bool a.num.neg, .slice a.num.A a.num.n a.num.c, .bool a.den.neg, .slice a.den.A a.den.n a.den.c] 26)).alloc (.cells #[.bool b.num.neg, .slice b.num.A b.num.n b.num.c, .bool b.den.neg, .slice b.den.A b.den.n b.den.c] 26)).alloc (.cells #[.int .i64 0, .int .i64 0] 28)).alloc (.cells #[.bool a.num.neg, .slice a.num.A a.num.n a.num.c, .bool a.den.neg, .slice a.den.A a.den.n a.den.c, .bool b.num.neg, .slice b.num.A b.num.n b.num.c, .bool b.den.neg, .slice b.den.A b.den.n b.den.c] 26)) := ⟨_, rfl⟩
  have bV0 : Below w.heap.size w V0 := by rw [hV0]; (repeat (first | with_reducible exact Below.refl _ _ | with_reducible refine Below.drew ?_ | with_reducible refine below_drewN ?_ _ | with_reducible refine Below.setCell ?_ (by first | (simp; done) | (simp; omega) | omega) _ | with_reducible refine Below.alloc ?_ (by first | (simp; done) | (simp; omega) | omega) _))
  have zV0 : w.heap.size + 4 ≤ V0.heap.size := by rw [hV0]; simp
  have PA : Bk4 V0 (w.heap.size) (.bool a.num.neg) (.slice a.num.A a.num.n a.num.c) (.bool a.den.neg) (.slice a.den.A a.den.n a.den.c) := by rw [hV0]; exact ((((Bk4.newAt _ _ (by first | omega | (simp; done) | (simp; omega)) _ _ _ _ _).alloc _).alloc _).alloc _)
  have PB : Bk4 V0 (w.heap.size + 1) (.bool b.num.neg) (.slice b.num.A b.num.n b.num.c) (.bool b.den.neg) (.slice b.den.A b.den.n b.den.c) := by rw [hV0]; exact (((Bk4.newAt _ _ (by first | omega | (simp; done) | (simp; omega)) _ _ _ _ _).alloc _).alloc _)
  have PF : Bk2 V0 (w.heap.size + 2) (.int .i64 0) (.int .i64 0) := by rw [hV0]; exact ((Bk2.newAt _ _ (by first | omega | (simp; done) | (simp; omega)) _ _ _).alloc _)
  replace RR : Hid (RRow V0 B (w.heap.size + 3) [a, b]) := by have h9 := RR.out; rw [hV0]; rw [show ((((w.alloc (.cells #[.bool a.num.neg, .slice a.num.A a.num.n a.num.c, .bool a.den.neg, .slice a.den.A a.den.n a.den.c] 26)).alloc (.cells #[.bool b.num.neg, .slice b.num.A b.num.n b.num.c, .bool b.den.neg, .slice b.den.A b.den.n b.den.c] 26)).alloc (.cells #[.int .i64 0, .int .i64 0] 28))).heap.size = w.heap.size + 3 by simp] at h9; exact h9
  rw [← hV0]
  clear hV0
  replace E := E.trans (bV0.mono E.size)
  replace HA := HA.below bV0 (by omega)
  replace HC := HC.below bV0 (by omega)
  replace HB := HB.below bV0 (by omega)
  replace HD := HD.below bV0 (by omega)
  clear bV0
  (with_reducible refine (rcheck_any _ B (w.heap.size + 3) 2 [a, b] RR.out rfl (by omega) (by omega)).mono ?_)
  rintro e w1 ⟨rfl, hb1⟩
  have sw1 := hb1.size
  replace E := E.trans (hb1.mono E.size)
  replace HA := HA.below hb1 (by omega)
  replace HC := HC.below hb1 (by omega)
  replace HB := HB.below hb1 (by omega)
  replace HD := HD.below hb1 (by omega)
  replace PA := PA.below hb1 PA.lt
  replace PB := PB.below hb1 PB.lt
  replace PF := PF.below hb1 PF.lt
  clear hb1
  rw [hf]
  clear RR
  have t_PA0 : (w1.alloc (.cells #[.int .i64 0, .int .i64 0] 28)).cell? ⟨w.heap.size, 0, none⟩ = some ((.bool a.num.neg)) := (PA.alloc _).c0
  have t_PA1 : (w1.alloc (.cells #[.int .i64 0, .int .i64 0] 28)).cell? ⟨w.heap.size, 1, none⟩ = some ((.slice a.num.A a.num.n a.num.c)) := (PA.alloc _).c1
  have t_PA2 : (w1.alloc (.cells #[.int .i64 0, .int .i64 0] 28)).cell? ⟨w.heap.size, 2, none⟩ = some ((.bool a.den.neg)) := (PA.alloc _).c2
  have t_PA3 : (w1.alloc (.cells #[.int .i64 0, .int .i64 0] 28)).cell? ⟨w.heap.size, 3, none⟩ = some ((.slice a.den.A a.den.n a.den.c)) := (PA.alloc _).c3
  have t_PB0 : (w1.alloc (.cells #[.int .i64 0, .int .i64 0] 28)).cell? ⟨w.heap.size + 1, 0, none⟩ = some ((.bool b.num.neg)) := (PB.alloc _).c0
  have t_PB1 : (w1.alloc (.cells #[.int .i64 0, .int .i64 0] 28)).cell? ⟨w.heap.size + 1, 1, none⟩ = some ((.slice b.num.A b.num.n b.num.c)) := (PB.alloc _).c1
  have t_PB2 : (w1.alloc (.cells #[.int .i64 0, .int .i64 0] 28)).cell? ⟨w.heap.size + 1, 2, none⟩ = some ((.bool b.den.neg)) := (PB.alloc _).c2
  have t_PB3 : (w1.alloc (.cells #[.int .i64 0, .int .i64 0] 28)).cell? ⟨w.heap.size + 1, 3, none⟩ = some ((.slice b.den.A b.den.n b.den.c)) := (PB.alloc _).c3
  go_wp2_with fail
  clear t_PA0 t_PA1 t_PA2 t_PA3 t_PB0 t_PB1 t_PB2 t_PB3
  obtain ⟨V1, hV1⟩ : ∃ V1 : World, V1 = (w1.alloc (.cells #[.int .i64 0, .int .i64 0] 28)) := ⟨_, rfl⟩
  have bV1 : Below w1.heap.size w1 V1 := by rw [hV1]; (repeat (first | with_reducible exact Below.refl _ _ | with_reducible refine Below.drew ?_ | with_reducible refine below_drewN ?_ _ | with_reducible refine Below.setCell ?_ (by first | (simp; done) | (simp; omega) | omega) _ | with_reducible refine Below.alloc ?_ (by first | (simp; done) | (simp; omega) | omega) _))
  have zV1 : w1.heap.size + 1 ≤ V1.heap.size := by rw [hV1]; simp
  have F6 : Bk2 V1 (w1.heap.size) (.int .i64 0) (.int .i64 0) := by rw [hV1]; exact (Bk2.newAt _ _ (by first | omega | (simp; done) | (simp; omega)) _ _ _)
  rw [← hV1]
  clear hV1
  replace E := E.trans (bV1.mono E.size)
  replace HA := HA.below bV1 (by omega)
  replace HC := HC.below bV1 (by omega)
  replace HB := HB.below bV1 (by omega)
  replace HD := HD.below bV1 (by omega)
  replace PA := PA.below bV1 PA.lt
  replace PB := PB.below bV1 PB.lt
  replace PF := PF.below bV1 PF.lt
  clear bV1
  (with_reducible refine (gap_any _ B a b na da nb db (rv_at HA HC) (rv_at HB HD) (by omega) IA IC IB ID b1 b2 b3 b4 c1 c2 c3).mono ?_)
  rintro e w2 ⟨m, A, k, c, xs, rfl, hl, hI, hb2⟩
  have sw2 := hb2.size
  replace E := E.trans (hb2.mono E.size)
  replace HA := HA.below hb2 (by omega)
  replace HC := HC.below hb2 (by omega)
  replace HB := HB.below hb2 (by omega)
  replace HD := HD.below hb2 (by omega)
  replace PA := PA.below hb2 PA.lt
  replace PB := PB.below hb2 PB.lt
  replace PF := PF.below hb2 PF.lt
  replace F6 := F6.below hb2 F6.lt
  clear hb2
  have hk0 := (IRep.len0 hI)
  have hsg := hI.sgn
  have hln := hl.len.out
  have hcap := hl.cap
  obtain rfl : m = true := by rw [hsg]; exact decide_eq_true (by omega)
  have hk1 : decide (k = 0) = false := decide_eq_false (by omega)
  clear hk0 hsg hln
  go_upto_region 5 with fail
  obtain ⟨V2, hV2⟩ : ∃ V2 : World, V2 = (w2.alloc (.cells #[.bool true, .slice A k c] 24)) := ⟨_, rfl⟩
  have bV2 : Below w2.heap.size w2 V2 := by rw [hV2]; (repeat (first | with_reducible exact Below.refl _ _ | with_reducible refine Below.drew ?_ | with_reducible refine below_drewN ?_ _ | with_reducible refine Below.setCell ?_ (by first | (simp; done) | (simp; omega) | omega) _ | with_reducible refine Below.alloc ?_ (by first | (simp; done) | (simp; omega) | omega) _))
  have zV2 : w2.heap.size + 1 ≤ V2.heap.size := by rw [hV2]; simp
  have PG : Bk2 V2 (w2.heap.size) (.bool true) (.slice A k c) := by rw [hV2]; exact (Bk2.newAt _ _ (by first | omega | (simp; done) | (simp; omega)) _ _ _)
  rw [← hV2]
  clear hV2
  replace E := E.trans (bV2.mono E.size)
  replace HA := HA.below bV2 (by omega)
  replace HC := HC.below bV2 (by omega)
  replace HB := HB.below bV2 (by omega)
  replace HD := HD.below bV2 (by omega)
  replace PA := PA.below bV2 PA.lt
  replace PB := PB.below bV2 PB.lt
  replace PF := PF.below bV2 PF.lt
  replace F6 := F6.below bV2 F6.lt
  clear bV2
  have t_PG0 := PG.c0
  have t_PG1 := PG.c1
  go_wp2_with fail
  clear t_PG0 t_PG1
  (with_reducible refine (isZero_any _ true A k c (by omega)).mono ?_)
  rintro e w3 ⟨rfl, hb3⟩
  have sw3 := hb3.size
  replace E := E.trans (hb3.mono E.size)
  replace HA := HA.below hb3 (by omega)
  replace HC := HC.below hb3 (by omega)
  replace HB := HB.below hb3 (by omega)
  replace HD := HD.below hb3 (by omega)
  replace PA := PA.below hb3 PA.lt
  replace PB := PB.below hb3 PB.lt
  replace PF := PF.below hb3 PF.lt
  replace F6 := F6.below hb3 F6.lt
  replace PG := PG.below hb3 PG.lt
  clear hb3
  rw [hk1]
  have f0 := PF.c0
  have f1 := PF.c1
  have z0 := PF.z0
  have z1 := PF.z1
  have zz := PF.lt
  have y0 := PG.c0
  have y1 := PG.c1
  go_wp2_with fail
  refine bodyPost_ret (v := .tuple #[.int .i64 (-1), flt 0 0]) (by simp [results, Tryz.results13, go_sem, f0, f1]) rfl ⟨_, (by unfold ICmp; omega), rfl, ?_⟩
  (repeat (first | with_reducible exact E | with_reducible refine Below.drew ?_ | with_reducible refine below_drewN ?_ _ | with_reducible refine Below.setCell ?_ (by first | (simp; done) | (simp; omega) | omega) _))
set_option maxHeartbeats 8000000 in
theorem rcmp_p (w : World) (B : Nat) (a b : RV) (H1 : a.at w B) (H2 : b.at w B) (hB : B ≤ w.heap.size) (hf : rfault [a, b] 0 = (0, 0)) (na da nb db : Int) (IA : Hid (IRep a.num.neg a.num.xs na)) (IC : Hid (IRep a.den.neg a.den.xs da)) (IB : Hid (IRep b.num.neg b.num.xs nb)) (ID : Hid (IRep b.den.neg b.den.xs db)) (b1 : Hid (na.natAbs < Big)) (b2 : Hid (da.natAbs < Big)) (b3 : Hid (nb.natAbs < Big)) (b4 : Hid (db.natAbs < Big)) (c1 : Hid ((na * db).natAbs < Big)) (c2 : Hid ((nb * da).natAbs < Big)) (c3 : Hid ((na * db).natAbs + (nb * da).natAbs < Big)) (hz : 0 < na * db - nb * da) :
    Calls Tryz.prog 13 #[a.v, b.v] w (CmpPostV (na * db) (nb * da) w) := by
  have bbase : Below w.heap.size w (((w.alloc (.cells #[.bool a.num.neg, .slice a.num.A a.num.n a.num.c, .bool a.den.neg, .slice a.den.A a.den.n a.den.c] 26)).alloc (.cells #[.bool b.num.neg, .slice b.num.A b.num.n b.num.c, .bool b.den.neg, .slice b.den.A b.den.n b.den.c] 26)).alloc (.cells #[.int .i64 0, .int .i64 0] 28)) := ((bl1 w _).alloc (by simp) _).alloc (by simp; omega) _
  have HA : LRd w B a.num.A a.num.n a.num.c a.num.xs := H1.1
  have HC : LRd w B a.den.A a.den.n a.den.c a.den.xs := H1.2
  have HB : LRd w B b.num.A b.num.n b.num.c b.num.xs := H2.1
  have HD : LRd w B b.den.A b.den.n b.den.c b.den.xs := H2.2
  have E : Below w.heap.size w w := Below.refl _ _
  have RR := Lib.hid (rrow2 (((w.alloc (.cells #[.bool a.num.neg, .slice a.num.A a.num.n a.num.c, .bool a.den.neg, .slice a.den.A a.den.n a.den.c] 26)).alloc (.cells #[.bool b.num.neg, .slice b.num.A b.num.n b.num.c, .bool b.den.neg, .slice b.den.A b.den.n b.den.c] 26)).alloc (.cells #[.int .i64 0, .int .i64 0] 28)) B a b (RV.at.below H1 bbase (by omega)) (RV.at.below H2 bbase (by omega)) (by simp; omega))
  clear bbase
  go_enter Tryz.func13, Tryz.ntmps13
  go_wp2_with fail
  obtain ⟨V0, hV0⟩ : ∃ V0 : World, V0 = ((((w.alloc (.cells #[.bool a.num.neg, .slice a.num.A a.num.n a.num.c, .bool a.den.neg, .slice a.den.A a.den.n a.den.c] 26)).alloc (.cells #[.bool b.num.neg, .slice b.num.A b.num.n b.num.c, .bool b.den.neg, .slice b.den.A b.den.n b.den.c] 26)).alloc (.cells #[.int .i64 0, .int .i64 0] 28)).alloc (.cells #[.bool a.num.neg, .slice a.num.A a.num.n a.num.c, .bool a.den.neg, .slice a.den.A a.den.n a.den.c, .bool b.num.neg, .slice b.num.A b.num.n b.num.c, .bool b.den.neg, .slice b.den.A b.den.n b.den.c] 26)) := ⟨_, rfl⟩
  have bV0 : Below w.heap.size w V0 := by rw [hV0]; (repeat (first | with_reducible exact Below.refl _ _ | with_reducible refine Below.drew ?_ | with_reducible refine below_drewN ?_ _ | with_reducible refine Below.setCell ?_ (by first | (simp; done) | (simp; omega) | omega) _ | with_reducible refine Below.alloc ?_ (by first | (simp; done) | (simp; omega) | omega) _))
  have zV0 : w.heap.size + 4 ≤ V0.heap.size := by rw [hV0]; simp
  have PA : Bk4 V0 (w.heap.size) (.bool a.num.neg) (.slice a.num.A a.num.n a.num.c) (.bool a.den.neg) (.slice a.den.A a.den.n a.den.c) := by rw [hV0]; exact ((((Bk4.newAt _ _ (by first | omega | (simp; done) | (simp; omega)) _ _ _ _ _).alloc _).alloc _).alloc _)
  have PB : Bk4 V0 (w.heap.size + 1) (.bool b.num.neg) (.slice b.num.A b.num.n b.num.c) (.bool b.den.neg) (.slice b.den.A b.den.n b.den.c) := by rw [hV0]; exact (((Bk4.newAt _ _ (by first | omega | (simp; done) | (simp; omega)) _ _ _ _ _).alloc _).alloc _)
  have PF : Bk2 V0 (w.heap.size + 2) (.int .i64 0) (.int .i64 0) := by rw [hV0]; exact ((Bk2.newAt _ _ (by first | omega | (simp; done) | (simp; omega)) _ _ _).alloc _)
  replace RR : Hid (RRow V0 B (w.heap.size + 3) [a, b]) := by have h9 := RR.out; rw [hV0]; rw [show ((((w.alloc (.cells #[.bool a.num.neg, .slice a.num.A a.num.n a.num.c, .bool a.den.neg, .slice a.den.A a.den.n a.den.c] 26)).alloc (.cells #[.bool b.num.neg, .slice b.num.A b.num.n b.num.c, .bool b.den.neg, .slice b.den.A b.den.n b.den.c] 26)).alloc (.cells #[.int .i64 0, .int .i64 0] 28))).heap.size = w.heap.size + 3 by simp] at h9; exact h9
  rw [← hV0]
  clear hV0
  replace E := E.trans (bV0.mono E.size)
  replace HA := HA.below bV0 (by omega)
  replace HC := HC.below bV0 (by omega)
  replace HB := HB.below bV0 (by omega)
  replace HD := HD.below bV0 (by omega)
  clear bV0
  (with_reducible refine (rcheck_any _ B (w.heap.size + 3) 2 [a, b] RR.out rfl (by omega) (by omega)).mono ?_)
  rintro e w1 ⟨rfl, hb1⟩
  have sw1 := hb1.size
  replace E := E.trans (hb1.mono E.size)
  replace HA := HA.below hb1 (by omega)
  replace HC := HC.below hb1 (by omega)
  replace HB := HB.below hb1 (by omega)
  replace HD := HD.below hb1 (by omega)
  replace PA := PA.below hb1 PA.lt
  replace PB := PB.below hb1 PB.lt
  replace PF := PF.below hb1 PF.lt
  clear hb1
  rw [hf]
  clear RR
  have t_PA0 : (w1.alloc (.cells #[.int .i64 0, .int .i64 0] 28)).cell? ⟨w.heap.size, 0, none⟩ = some ((.bool a.num.neg)) := (PA.alloc _).c0
  have t_PA1 : (w1.alloc (.cells #[.int .i64 0, .int .i64 0] 28)).cell? ⟨w.heap.size, 1, none⟩ = some ((.slice a.num.A a.num.n a.num.c)) := (PA.alloc _).c1
  have t_PA2 : (w1.alloc (.cells #[.int .i64 0, .int .i64 0] 28)).cell? ⟨w.heap.size, 2, none⟩ = some ((.bool a.den.neg)) := (PA.alloc _).c2
  have t_PA3 : (w1.alloc (.cells #[.int .i64 0, .int .i64 0] 28)).cell? ⟨w.heap.size, 3, none⟩ = some ((.slice a.den.A a.den.n a.den.c)) := (PA.alloc _).c3
  have t_PB0 : (w1.alloc (.cells #[.int .i64 0, .int .i64 0] 28)).cell? ⟨w.heap.size + 1, 0, none⟩ = some ((.bool b.num.neg)) := (PB.alloc _).c0
  have t_PB1 : (w1.alloc (.cells #[.int .i64 0, .int .i64 0] 28)).cell? ⟨w.heap.size + 1, 1, none⟩ = some ((.slice b.num.A b.num.n b.num.c)) := (PB.alloc _).c1
  have t_PB2 : (w1.alloc (.cells #[.int .i64 0, .int .i64 0] 28)).cell? ⟨w.heap.size + 1, 2, none⟩ = some ((.bool b.den.neg)) := (PB.alloc _).c2
  have t_PB3 : (w1.alloc (.cells #[.int .i64 0, .int .i64 0] 28)).cell? ⟨w.heap.size + 1, 3, none⟩ = some ((.slice b.den.A b.den.n b.den.c)) := (PB.alloc _).c3
  go_wp2_with fail
  clear t_PA0 t_PA1 t_PA2 t_PA3 t_PB0 t_PB1 t_PB2 t_PB3
  obtain ⟨V1, hV1⟩ : ∃ V1 : World, V1 = (w1.alloc (.cells #[.int .i64 0, .int .i64 0] 28)) := ⟨_, rfl⟩
  have bV1 : Below w1.heap.size w1 V1 := by rw [hV1]; (repeat (first | with_reducible exact Below.refl _ _ | with_reducible refine Below.drew ?_ | with_reducible refine below_drewN ?_ _ | with_reducible refine Below.setCell ?_ (by first | (simp; done) | (simp; omega) | omega) _ | with_reducible refine Below.alloc ?_ (by first | (simp; done) | (simp; omega) | omega) _))
  have zV1 : w1.heap.size + 1 ≤ V1.heap.size := by rw [hV1]; simp
  have F6 : Bk2 V1 (w1.heap.size) (.int .i64 0) (.int .i64 0) := by rw [hV1]; exact (Bk2.newAt _ _ (by first | omega | (simp; done) | (simp; omega)) _ _ _)
  rw [← hV1]
  clear hV1
  replace E := E.trans (bV1.mono E.size)
  replace HA := HA.below bV1 (by omega)
  replace HC := HC.below bV1 (by omega)
  replace HB := HB.below bV1 (by omega)
  replace HD := HD.below bV1 (by omega)
  replace PA := PA.below bV1 PA.lt
  replace PB := PB.below bV1 PB.lt
  replace PF := PF.below bV1 PF.lt
  clear bV1
  (with_reducible refine (gap_any _ B a b na da nb db (rv_at HA HC) (rv_at HB HD) (by omega) IA IC IB ID b1 b2 b3 b4 c1 c2 c3).mono ?_)
  rintro e w2 ⟨m, A, k, c, xs, rfl, hl, hI, hb2⟩
  have sw2 := hb2.size
  replace E := E.trans (hb2.mono E.size)
  replace HA := HA.below hb2 (by omega)
  replace HC := HC.below hb2 (by omega)
  replace HB := HB.below hb2 (by omega)
  replace HD := HD.below hb2 (by omega)
  replace PA := PA.below hb2 PA.lt
  replace PB := PB.below hb2 PB.lt
  replace PF := PF.below hb2 PF.lt
  replace F6 := F6.below hb2 F6.lt
  clear hb2
  have hk0 := (IRep.len0 hI)
  have hsg := hI.sgn
  have hln := hl.len.out
  have hcap := hl.cap
  obtain rfl : m = false := by rw [hsg]; exact decide_eq_false (by omega)
  have hk1 : decide (k = 0) = false := decide_eq_false (by omega)
  clear hk0 hsg hln
  go_upto_region 5 with fail
  obtain ⟨V2, hV2⟩ : ∃ V2 : World, V2 = (w2.alloc (.cells #[.bool false, .slice A k c] 24)) := ⟨_, rfl⟩
  have bV2 : Below w2.heap.size w2 V2 := by rw [hV2]; (repeat (first | with_reducible exact Below.refl _ _ | with_reducible refine Below.drew ?_ | with_reducible refine below_drewN ?_ _ | with_reducible refine Below.setCell ?_ (by first | (simp; done) | (simp; omega) | omega) _ | with_reducible refine Below.alloc ?_ (by first | (simp; done) | (simp; omega) | omega) _))
  have zV2 : w2.heap.size + 1 ≤ V2.heap.size := by rw [hV2]; simp
  have PG : Bk2 V2 (w2.heap.size) (.bool false) (.slice A k c) := by rw [hV2]; exact (Bk2.newAt _ _ (by first | omega | (simp; done) | (simp; omega)) _ _ _)
  rw [← hV2]
  clear hV2
  replace E := E.trans (bV2.mono E.size)
  replace HA := HA.below bV2 (by omega)
  replace HC := HC.below bV2 (by omega)
  replace HB := HB.below bV2 (by omega)
  replace HD := HD.below bV2 (by omega)
  replace PA := PA.below bV2 PA.lt
  replace PB := PB.below bV2 PB.lt
  replace PF := PF.below bV2 PF.lt
  replace F6 := F6.below bV2 F6.lt
  clear bV2
  have t_PG0 := PG.c0
  have t_PG1 := PG.c1
  go_wp2_with fail
  clear t_PG0 t_PG1
  (with_reducible refine (isZero_any _ false A k c (by omega)).mono ?_)
  rintro e w3 ⟨rfl, hb3⟩
  have sw3 := hb3.size
  replace E := E.trans (hb3.mono E.size)
  replace HA := HA.below hb3 (by omega)
  replace HC := HC.below hb3 (by omega)
  replace HB := HB.below hb3 (by omega)
  replace HD := HD.below hb3 (by omega)
  replace PA := PA.below hb3 PA.lt
  replace PB := PB.below hb3 PB.lt
  replace PF := PF.below hb3 PF.lt
  replace F6 := F6.below hb3 F6.lt
  replace PG := PG.below hb3 PG.lt
  clear hb3
  rw [hk1]
  have f0 := PF.c0
  have f1 := PF.c1
  have z0 := PF.z0
  have z1 := PF.z1
  have zz := PF.lt
  have y0 := PG.c0
  have y1 := PG.c1
  go_wp2_with fail
  refine bodyPost_ret (v := .tuple #[.int .i64 (1), flt 0 0]) (by simp [results, Tryz.results13, go_sem, f0, f1]) rfl ⟨_, (by unfold ICmp; omega), rfl, ?_⟩
  (repeat (first | with_reducible exact E | with_reducible refine Below.drew ?_ | with_reducible refine below_drewN ?_ _ | with_reducible refine Below.setCell ?_ (by first | (simp; done) | (simp; omega) | omega) _))
theorem rcmp_ok (w : World) (B : Nat) (a b : RV) (H1 : a.at w B) (H2 : b.at w B) (hB : B ≤ w.heap.size) (oa : a.ok = true) (ob : b.ok = true) :
    Calls Tryz.prog 13 #[a.v, b.v] w (CmpPostV (a.num.val * b.den.val) (b.num.val * a.den.val) w) := by
  have VA := RV.val oa H1
  have VB := RV.val ob H2
  have hf := rtwo_ok oa ob
  have t1 : (a.num.val * b.den.val).natAbs * 4 < Big := by rw [Int.natAbs_mul]; exact top_sq_big VA.bn VB.bd
  have t2 : (b.num.val * a.den.val).natAbs * 4 < Big := by rw [Int.natAbs_mul]; exact top_sq_big VB.bn VA.bd
  rcases Int.lt_trichotomy (a.num.val * b.den.val - b.num.val * a.den.val) 0 with h | h | h
  · exact rcmp_n w B a b H1 H2 hB hf _ _ _ _ (Lib.hid VA.num) (Lib.hid VA.den) (Lib.hid VB.num) (Lib.hid VB.den) (Lib.hid (top_big1 VA.bn)) (Lib.hid (top_big1 VA.bd)) (Lib.hid (top_big1 VB.bn)) (Lib.hid (top_big1 VB.bd)) (Lib.hid (by omega)) (Lib.hid (by omega)) (Lib.hid (by omega)) h
  · exact rcmp_z w B a b H1 H2 hB hf _ _ _ _ (Lib.hid VA.num) (Lib.hid VA.den) (Lib.hid VB.num) (Lib.hid VB.den) (Lib.hid (top_big1 VA.bn)) (Lib.hid (top_big1 VA.bd)) (Lib.hid (top_big1 VB.bn)) (Lib.hid (top_big1 VB.bd)) (Lib.hid (by omega)) (Lib.hid (by omega)) (Lib.hid (by omega)) h
  · exact rcmp_p w B a b H1 H2 hB hf _ _ _ _ (Lib.hid VA.num) (Lib.hid VA.den) (Lib.hid VB.num) (Lib.hid VB.den) (Lib.hid (top_big1 VA.bn)) (Lib.hid (top_big1 VA.bd)) (Lib.hid (top_big1 VB.bn)) (Lib.hid (top_big1 VB.bd)) (Lib.hid (by omega)) (Lib.hid (by omega)) (Lib.hid (by omega)) h
end Go.Proofs.YtdhdkknaagadaaaGreat
