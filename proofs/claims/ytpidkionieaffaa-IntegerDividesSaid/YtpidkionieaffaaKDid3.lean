/- IntegerDivides: the law, where the first integer is valid and not negative. -/
import Derived.Test.YtpidkionieaffaaKDid2
namespace Go.Proofs.Ytpidkionieaffaa
open Go.RowKit
set_option maxHeartbeats 400000
set_option maxRecDepth 100000
set_option linter.unusedSimpArgs false
set_option linter.unusedVariables false

set_option maxHeartbeats 8000000 in
theorem divd_pos (w : World) (a b : IV) (HA : a.at w w.heap.size) (HB : b.at w w.heap.size) (f1 f2 : Int) (hf : ffault [a, b] 0 = (f1, f2)) (oa : a.ok = true) (hs : Hid (a.neg = false)) :
    Calls Try.prog 5 #[a.v, b.v] w (fun e w' => e = .returned (.bool true) ∧ Below w.heap.size w w') := by
  replace HA : LRd w w.heap.size a.A a.n a.c a.xs := HA
  replace HB : LRd w w.heap.size b.A b.n b.c b.xs := HB
  have E : Below w.heap.size w w := Below.refl _ _
  have IR := Lib.hid (irow2 ((w.alloc a.cells).alloc b.cells) w.heap.size a b ((HA.alloc (Nat.le_refl _) _).alloc (by simp) _) ((HB.alloc (Nat.le_refl _) _).alloc (by simp) _) (by simp; omega))
  go_enter Try.func5, Try.ntmps5
  go_wp2_with fail
  obtain ⟨V0, hV0⟩ : ∃ V0 : World, V0 = (((w.alloc (.cells #[.bool a.neg, .slice a.A a.n a.c] 24)).alloc (.cells #[.bool b.neg, .slice b.A b.n b.c] 24)).alloc (.cells #[.bool a.neg, .slice a.A a.n a.c, .bool b.neg, .slice b.A b.n b.c] 24)) := ⟨_, rfl⟩
  have bV0 : Below w.heap.size w V0 := by rw [hV0]; (repeat (first | with_reducible exact Below.refl _ _ | with_reducible refine Below.drew ?_ | with_reducible refine below_drewN ?_ _ | with_reducible refine Below.setCell ?_ (by first | (simp; done) | (simp; omega) | omega) _ | with_reducible refine Below.alloc ?_ (by first | (simp; done) | (simp; omega) | omega) _))
  have zV0 : w.heap.size + 3 ≤ V0.heap.size := by rw [hV0]; simp
  have PA : Bk2 V0 (w.heap.size) (.bool a.neg) (.slice a.A a.n a.c) := by rw [hV0]; exact (((Bk2.newAt _ _ (by simp) _ _ _).alloc _).alloc _)
  have PB : Bk2 V0 (w.heap.size + 1) (.bool b.neg) (.slice b.A b.n b.c) := by rw [hV0]; exact ((Bk2.newAt _ _ (by simp) _ _ _).alloc _)
  replace IR : Hid (IRow V0 w.heap.size (w.heap.size + 2) [a, b]) := by have h9 := IR.out; rw [hV0]; rw [show ((w.alloc a.cells).alloc b.cells).heap.size = w.heap.size + 2 by simp] at h9; exact h9
  rw [← hV0]
  clear hV0
  replace E : Below w.heap.size w V0 := E.trans (bV0.mono E.size)
  replace HA : LRd V0 (w.heap.size) a.A a.n a.c a.xs := HA.below bV0 (by omega)
  replace HB : LRd V0 (w.heap.size) b.A b.n b.c b.xs := HB.below bV0 (by omega)
  clear bV0
  (with_reducible refine (faults_any _ w.heap.size (w.heap.size + 2) 2 [a, b] IR.out rfl (by omega) (by omega)).mono ?_)
  rintro e w1 ⟨rfl, hb1⟩
  have sw1 := hb1.size
  replace E : Below w.heap.size w w1 := E.trans (hb1.mono E.size)
  replace HA : LRd w1 (w.heap.size) a.A a.n a.c a.xs := HA.below hb1 (by omega)
  replace HB : LRd w1 (w.heap.size) b.A b.n b.c b.xs := HB.below hb1 (by omega)
  replace PA : Bk2 w1 (w.heap.size) (.bool a.neg) (.slice a.A a.n a.c) := PA.below hb1 PA.lt
  replace PB : Bk2 w1 (w.heap.size + 1) (.bool b.neg) (.slice b.A b.n b.c) := PB.below hb1 PB.lt
  clear hb1
  rw [hf]
  clear IR
  have t_PA0 : (w1.alloc (.cells #[.int .i64 f1, .int .i64 f2] 26)).cell? ⟨w.heap.size, 0, none⟩ = some ((.bool a.neg)) := (PA.alloc _).c0
  have t_PA1 : (w1.alloc (.cells #[.int .i64 f1, .int .i64 f2] 26)).cell? ⟨w.heap.size, 1, none⟩ = some ((.slice a.A a.n a.c)) := (PA.alloc _).c1
  have t_PB0 : (w1.alloc (.cells #[.int .i64 f1, .int .i64 f2] 26)).cell? ⟨w.heap.size + 1, 0, none⟩ = some ((.bool b.neg)) := (PB.alloc _).c0
  have t_PB1 : (w1.alloc (.cells #[.int .i64 f1, .int .i64 f2] 26)).cell? ⟨w.heap.size + 1, 1, none⟩ = some ((.slice b.A b.n b.c)) := (PB.alloc _).c1
  go_wp2_with fail
  clear t_PA0 t_PA1 t_PB0 t_PB1
  obtain ⟨V1, hV1⟩ : ∃ V1 : World, V1 = (w1.alloc (.cells #[.int .i64 f1, .int .i64 f2] 26)) := ⟨_, rfl⟩
  have bV1 : Below w1.heap.size w1 V1 := by rw [hV1]; (repeat (first | with_reducible exact Below.refl _ _ | with_reducible refine Below.drew ?_ | with_reducible refine below_drewN ?_ _ | with_reducible refine Below.setCell ?_ (by first | (simp; done) | (simp; omega) | omega) _ | with_reducible refine Below.alloc ?_ (by first | (simp; done) | (simp; omega) | omega) _))
  have zV1 : w1.heap.size + 1 ≤ V1.heap.size := by rw [hV1]; simp
  have F5 : Bk2 V1 (w1.heap.size) (.int .i64 f1) (.int .i64 f2) := by rw [hV1]; exact (Bk2.newAt _ _ (by simp) _ _ _)
  rw [← hV1]
  clear hV1
  replace E : Below w.heap.size w V1 := E.trans (bV1.mono E.size)
  replace HA : LRd V1 (w.heap.size) a.A a.n a.c a.xs := HA.below bV1 (by omega)
  replace HB : LRd V1 (w.heap.size) b.A b.n b.c b.xs := HB.below bV1 (by omega)
  replace PA : Bk2 V1 (w.heap.size) (.bool a.neg) (.slice a.A a.n a.c) := PA.below bV1 PA.lt
  replace PB : Bk2 V1 (w.heap.size + 1) (.bool b.neg) (.slice b.A b.n b.c) := PB.below bV1 PB.lt
  clear bV1
  refine (idm_any _ w.heap.size a b HA HB (by omega) f1 f2 hf oa).mono ?_
  rintro e w6 ⟨q, r, g1, g2, hdm, n6, A6, k6, c6, x6, n7, A7, k7, c7, x7, rfl, hl6, hr6, hl7, hr7, hb6⟩
  have DM := Lib.hid hdm
  have I6 := Lib.hid hr6
  have I7 := Lib.hid hr7
  clear hdm hr6 hr7
  have sw6 := hb6.size
  replace E : Below w.heap.size w w6 := E.trans (hb6.mono E.size)
  replace HA : LRd w6 (w.heap.size) a.A a.n a.c a.xs := HA.below hb6 (by omega)
  replace HB : LRd w6 (w.heap.size) b.A b.n b.c b.xs := HB.below hb6 (by omega)
  replace PA : Bk2 w6 (w.heap.size) (.bool a.neg) (.slice a.A a.n a.c) := PA.below hb6 PA.lt
  replace PB : Bk2 w6 (w.heap.size + 1) (.bool b.neg) (.slice b.A b.n b.c) := PB.below hb6 PB.lt
  replace F5 : Bk2 w6 (w1.heap.size) (.int .i64 f1) (.int .i64 f2) := F5.below hb6 F5.lt
  clear hb6
  have t_PA0 : (((w6.alloc (.cells #[.bool n6, .slice A6 k6 c6] 24)).alloc (.cells #[.bool n7, .slice A7 k7 c7] 24)).alloc (.cells #[.int .i64 g1, .int .i64 g2] 26)).cell? ⟨w.heap.size, 0, none⟩ = some ((.bool a.neg)) := (((PA.alloc _).alloc _).alloc _).c0
  have t_PA1 : (((w6.alloc (.cells #[.bool n6, .slice A6 k6 c6] 24)).alloc (.cells #[.bool n7, .slice A7 k7 c7] 24)).alloc (.cells #[.int .i64 g1, .int .i64 g2] 26)).cell? ⟨w.heap.size, 1, none⟩ = some ((.slice a.A a.n a.c)) := (((PA.alloc _).alloc _).alloc _).c1
  have t_PB0 : (((w6.alloc (.cells #[.bool n6, .slice A6 k6 c6] 24)).alloc (.cells #[.bool n7, .slice A7 k7 c7] 24)).alloc (.cells #[.int .i64 g1, .int .i64 g2] 26)).cell? ⟨w.heap.size + 1, 0, none⟩ = some ((.bool b.neg)) := (((PB.alloc _).alloc _).alloc _).c0
  have t_PB1 : (((w6.alloc (.cells #[.bool n6, .slice A6 k6 c6] 24)).alloc (.cells #[.bool n7, .slice A7 k7 c7] 24)).alloc (.cells #[.int .i64 g1, .int .i64 g2] 26)).cell? ⟨w.heap.size + 1, 1, none⟩ = some ((.slice b.A b.n b.c)) := (((PB.alloc _).alloc _).alloc _).c1
  go_wp2_with fail
  clear t_PA0 t_PA1 t_PB0 t_PB1
  obtain ⟨V2, hV2⟩ : ∃ V2 : World, V2 = (((w6.alloc (.cells #[.bool n6, .slice A6 k6 c6] 24)).alloc (.cells #[.bool n7, .slice A7 k7 c7] 24)).alloc (.cells #[.int .i64 g1, .int .i64 g2] 26)) := ⟨_, rfl⟩
  have bV2 : Below w6.heap.size w6 V2 := by rw [hV2]; (repeat (first | with_reducible exact Below.refl _ _ | with_reducible refine Below.drew ?_ | with_reducible refine below_drewN ?_ _ | with_reducible refine Below.setCell ?_ (by first | (simp; done) | (simp; omega) | omega) _ | with_reducible refine Below.alloc ?_ (by first | (simp; done) | (simp; omega) | omega) _))
  have zV2 : w6.heap.size + 3 ≤ V2.heap.size := by rw [hV2]; simp
  have P6 : Bk2 V2 (w6.heap.size) (.bool n6) (.slice A6 k6 c6) := by rw [hV2]; exact (((Bk2.newAt _ _ (by simp) _ _ _).alloc _).alloc _)
  have P7 : Bk2 V2 (w6.heap.size + 1) (.bool n7) (.slice A7 k7 c7) := by rw [hV2]; exact ((Bk2.newAt _ _ (by simp) _ _ _).alloc _)
  have F8 : Bk2 V2 (w6.heap.size + 2) (.int .i64 g1) (.int .i64 g2) := by rw [hV2]; exact (Bk2.newAt _ _ (by simp) _ _ _)
  rw [← hV2]
  clear hV2
  replace E : Below w.heap.size w V2 := E.trans (bV2.mono E.size)
  replace HA : LRd V2 (w.heap.size) a.A a.n a.c a.xs := HA.below bV2 (by omega)
  replace HB : LRd V2 (w.heap.size) b.A b.n b.c b.xs := HB.below bV2 (by omega)
  replace PA : Bk2 V2 (w.heap.size) (.bool a.neg) (.slice a.A a.n a.c) := PA.below bV2 PA.lt
  replace PB : Bk2 V2 (w.heap.size + 1) (.bool b.neg) (.slice b.A b.n b.c) := PB.below bV2 PB.lt
  replace F5 : Bk2 V2 (w1.heap.size) (.int .i64 f1) (.int .i64 f2) := F5.below bV2 F5.lt
  replace hl6 : LRd V2 (w6.heap.size) A6 k6 c6 x6 := hl6.below bV2 (by omega)
  replace hl7 : LRd V2 (w6.heap.size) A7 k7 c7 x7 := hl7.below bV2 (by omega)
  clear bV2
  refine (igc_any _ w.heap.size a b HA HB (by omega) f1 f2 hf oa).mono ?_
  rintro e w9 ⟨d, hgc, n9, A9, k9, c9, x9, rfl, hl9, hr9, hb9⟩
  have GC := Lib.hid hgc
  have I9 := Lib.hid hr9
  clear hgc hr9
  have sw9 := hb9.size
  replace E : Below w.heap.size w w9 := E.trans (hb9.mono E.size)
  replace HA : LRd w9 (w.heap.size) a.A a.n a.c a.xs := HA.below hb9 (by omega)
  replace HB : LRd w9 (w.heap.size) b.A b.n b.c b.xs := HB.below hb9 (by omega)
  replace PA : Bk2 w9 (w.heap.size) (.bool a.neg) (.slice a.A a.n a.c) := PA.below hb9 PA.lt
  replace PB : Bk2 w9 (w.heap.size + 1) (.bool b.neg) (.slice b.A b.n b.c) := PB.below hb9 PB.lt
  replace F5 : Bk2 w9 (w1.heap.size) (.int .i64 f1) (.int .i64 f2) := F5.below hb9 F5.lt
  replace hl6 : LRd w9 (w6.heap.size) A6 k6 c6 x6 := hl6.below hb9 (by omega)
  replace hl7 : LRd w9 (w6.heap.size) A7 k7 c7 x7 := hl7.below hb9 (by omega)
  replace P6 : Bk2 w9 (w6.heap.size) (.bool n6) (.slice A6 k6 c6) := P6.below hb9 P6.lt
  replace P7 : Bk2 w9 (w6.heap.size + 1) (.bool n7) (.slice A7 k7 c7) := P7.below hb9 P7.lt
  replace F8 : Bk2 w9 (w6.heap.size + 2) (.int .i64 g1) (.int .i64 g2) := F8.below hb9 F8.lt
  clear hb9
  have t_PA0 : ((w9.alloc (.cells #[.bool n9, .slice A9 k9 c9] 24)).alloc (.cells #[.int .i64 f1, .int .i64 f2] 26)).cell? ⟨w.heap.size, 0, none⟩ = some ((.bool a.neg)) := ((PA.alloc _).alloc _).c0
  have t_PA1 : ((w9.alloc (.cells #[.bool n9, .slice A9 k9 c9] 24)).alloc (.cells #[.int .i64 f1, .int .i64 f2] 26)).cell? ⟨w.heap.size, 1, none⟩ = some ((.slice a.A a.n a.c)) := ((PA.alloc _).alloc _).c1
  go_wp2_with fail
  clear t_PA0 t_PA1
  obtain ⟨V3, hV3⟩ : ∃ V3 : World, V3 = ((w9.alloc (.cells #[.bool n9, .slice A9 k9 c9] 24)).alloc (.cells #[.int .i64 f1, .int .i64 f2] 26)) := ⟨_, rfl⟩
  have bV3 : Below w9.heap.size w9 V3 := by rw [hV3]; (repeat (first | with_reducible exact Below.refl _ _ | with_reducible refine Below.drew ?_ | with_reducible refine below_drewN ?_ _ | with_reducible refine Below.setCell ?_ (by first | (simp; done) | (simp; omega) | omega) _ | with_reducible refine Below.alloc ?_ (by first | (simp; done) | (simp; omega) | omega) _))
  have zV3 : w9.heap.size + 2 ≤ V3.heap.size := by rw [hV3]; simp
  have P9 : Bk2 V3 (w9.heap.size) (.bool n9) (.slice A9 k9 c9) := by rw [hV3]; exact ((Bk2.newAt _ _ (by simp) _ _ _).alloc _)
  have F10 : Bk2 V3 (w9.heap.size + 1) (.int .i64 f1) (.int .i64 f2) := by rw [hV3]; exact (Bk2.newAt _ _ (by simp) _ _ _)
  rw [← hV3]
  clear hV3
  replace E : Below w.heap.size w V3 := E.trans (bV3.mono E.size)
  replace HA : LRd V3 (w.heap.size) a.A a.n a.c a.xs := HA.below bV3 (by omega)
  replace HB : LRd V3 (w.heap.size) b.A b.n b.c b.xs := HB.below bV3 (by omega)
  replace PA : Bk2 V3 (w.heap.size) (.bool a.neg) (.slice a.A a.n a.c) := PA.below bV3 PA.lt
  replace PB : Bk2 V3 (w.heap.size + 1) (.bool b.neg) (.slice b.A b.n b.c) := PB.below bV3 PB.lt
  replace F5 : Bk2 V3 (w1.heap.size) (.int .i64 f1) (.int .i64 f2) := F5.below bV3 F5.lt
  replace hl6 : LRd V3 (w6.heap.size) A6 k6 c6 x6 := hl6.below bV3 (by omega)
  replace hl7 : LRd V3 (w6.heap.size) A7 k7 c7 x7 := hl7.below bV3 (by omega)
  replace P6 : Bk2 V3 (w6.heap.size) (.bool n6) (.slice A6 k6 c6) := P6.below bV3 P6.lt
  replace P7 : Bk2 V3 (w6.heap.size + 1) (.bool n7) (.slice A7 k7 c7) := P7.below bV3 P7.lt
  replace F8 : Bk2 V3 (w6.heap.size + 2) (.int .i64 g1) (.int .i64 g2) := F8.below bV3 F8.lt
  replace hl9 : LRd V3 (w9.heap.size) A9 k9 c9 x9 := hl9.below bV3 (by omega)
  clear bV3
  refine (isqrt_ok _ w.heap.size a HA (by omega) oa hs).mono ?_
  rintro e w11 ⟨s, hs1, hs2, n11, A11, k11, c11, x11, rfl, hl11, hr11, hb11⟩
  have SQ := Lib.hid (⟨hs1, hs2⟩ : s * s ≤ vb 4294967296 a.xs ∧ vb 4294967296 a.xs < (s + 1) * (s + 1))
  have I11 := Lib.hid hr11
  clear hs1 hs2 hr11
  have sw11 := hb11.size
  replace E : Below w.heap.size w w11 := E.trans (hb11.mono E.size)
  replace HA : LRd w11 (w.heap.size) a.A a.n a.c a.xs := HA.below hb11 (by omega)
  replace HB : LRd w11 (w.heap.size) b.A b.n b.c b.xs := HB.below hb11 (by omega)
  replace PA : Bk2 w11 (w.heap.size) (.bool a.neg) (.slice a.A a.n a.c) := PA.below hb11 PA.lt
  replace PB : Bk2 w11 (w.heap.size + 1) (.bool b.neg) (.slice b.A b.n b.c) := PB.below hb11 PB.lt
  replace F5 : Bk2 w11 (w1.heap.size) (.int .i64 f1) (.int .i64 f2) := F5.below hb11 F5.lt
  replace hl6 : LRd w11 (w6.heap.size) A6 k6 c6 x6 := hl6.below hb11 (by omega)
  replace hl7 : LRd w11 (w6.heap.size) A7 k7 c7 x7 := hl7.below hb11 (by omega)
  replace P6 : Bk2 w11 (w6.heap.size) (.bool n6) (.slice A6 k6 c6) := P6.below hb11 P6.lt
  replace P7 : Bk2 w11 (w6.heap.size + 1) (.bool n7) (.slice A7 k7 c7) := P7.below hb11 P7.lt
  replace F8 : Bk2 w11 (w6.heap.size + 2) (.int .i64 g1) (.int .i64 g2) := F8.below hb11 F8.lt
  replace hl9 : LRd w11 (w9.heap.size) A9 k9 c9 x9 := hl9.below hb11 (by omega)
  replace P9 : Bk2 w11 (w9.heap.size) (.bool n9) (.slice A9 k9 c9) := P9.below hb11 P9.lt
  replace F10 : Bk2 w11 (w9.heap.size + 1) (.int .i64 f1) (.int .i64 f2) := F10.below hb11 F10.lt
  clear hb11
  go_wp2_with fail
  obtain ⟨V4, hV4⟩ : ∃ V4 : World, V4 = ((w11.alloc (.cells #[.bool n11, .slice A11 k11 c11] 24)).alloc (.cells #[.int .i64 0, .int .i64 0] 26)) := ⟨_, rfl⟩
  have bV4 : Below w11.heap.size w11 V4 := by rw [hV4]; (repeat (first | with_reducible exact Below.refl _ _ | with_reducible refine Below.drew ?_ | with_reducible refine below_drewN ?_ _ | with_reducible refine Below.setCell ?_ (by first | (simp; done) | (simp; omega) | omega) _ | with_reducible refine Below.alloc ?_ (by first | (simp; done) | (simp; omega) | omega) _))
  have zV4 : w11.heap.size + 2 ≤ V4.heap.size := by rw [hV4]; simp
  have P11 : Bk2 V4 (w11.heap.size) (.bool n11) (.slice A11 k11 c11) := by rw [hV4]; exact ((Bk2.newAt _ _ (by simp) _ _ _).alloc _)
  have F12 : Bk2 V4 (w11.heap.size + 1) (.int .i64 0) (.int .i64 0) := by rw [hV4]; exact (Bk2.newAt _ _ (by simp) _ _ _)
  rw [← hV4]
  clear hV4
  replace E : Below w.heap.size w V4 := E.trans (bV4.mono E.size)
  replace HA : LRd V4 (w.heap.size) a.A a.n a.c a.xs := HA.below bV4 (by omega)
  replace HB : LRd V4 (w.heap.size) b.A b.n b.c b.xs := HB.below bV4 (by omega)
  replace PA : Bk2 V4 (w.heap.size) (.bool a.neg) (.slice a.A a.n a.c) := PA.below bV4 PA.lt
  replace PB : Bk2 V4 (w.heap.size + 1) (.bool b.neg) (.slice b.A b.n b.c) := PB.below bV4 PB.lt
  replace F5 : Bk2 V4 (w1.heap.size) (.int .i64 f1) (.int .i64 f2) := F5.below bV4 F5.lt
  replace hl6 : LRd V4 (w6.heap.size) A6 k6 c6 x6 := hl6.below bV4 (by omega)
  replace hl7 : LRd V4 (w6.heap.size) A7 k7 c7 x7 := hl7.below bV4 (by omega)
  replace P6 : Bk2 V4 (w6.heap.size) (.bool n6) (.slice A6 k6 c6) := P6.below bV4 P6.lt
  replace P7 : Bk2 V4 (w6.heap.size + 1) (.bool n7) (.slice A7 k7 c7) := P7.below bV4 P7.lt
  replace F8 : Bk2 V4 (w6.heap.size + 2) (.int .i64 g1) (.int .i64 g2) := F8.below bV4 F8.lt
  replace hl9 : LRd V4 (w9.heap.size) A9 k9 c9 x9 := hl9.below bV4 (by omega)
  replace P9 : Bk2 V4 (w9.heap.size) (.bool n9) (.slice A9 k9 c9) := P9.below bV4 P9.lt
  replace F10 : Bk2 V4 (w9.heap.size + 1) (.int .i64 f1) (.int .i64 f2) := F10.below bV4 F10.lt
  replace hl11 : LRd V4 (w11.heap.size) A11 k11 c11 x11 := hl11.below bV4 (by omega)
  clear bV4
  (with_reducible refine (counts_any _).mono ?_)
  rintro e w12 ⟨rfl, hb12⟩
  have sw12 := hb12.size
  replace E : Below w.heap.size w w12 := E.trans (hb12.mono E.size)
  replace HA : LRd w12 (w.heap.size) a.A a.n a.c a.xs := HA.below hb12 (by omega)
  replace HB : LRd w12 (w.heap.size) b.A b.n b.c b.xs := HB.below hb12 (by omega)
  replace PA : Bk2 w12 (w.heap.size) (.bool a.neg) (.slice a.A a.n a.c) := PA.below hb12 PA.lt
  replace PB : Bk2 w12 (w.heap.size + 1) (.bool b.neg) (.slice b.A b.n b.c) := PB.below hb12 PB.lt
  replace F5 : Bk2 w12 (w1.heap.size) (.int .i64 f1) (.int .i64 f2) := F5.below hb12 F5.lt
  replace hl6 : LRd w12 (w6.heap.size) A6 k6 c6 x6 := hl6.below hb12 (by omega)
  replace hl7 : LRd w12 (w6.heap.size) A7 k7 c7 x7 := hl7.below hb12 (by omega)
  replace P6 : Bk2 w12 (w6.heap.size) (.bool n6) (.slice A6 k6 c6) := P6.below hb12 P6.lt
  replace P7 : Bk2 w12 (w6.heap.size + 1) (.bool n7) (.slice A7 k7 c7) := P7.below hb12 P7.lt
  replace F8 : Bk2 w12 (w6.heap.size + 2) (.int .i64 g1) (.int .i64 g2) := F8.below hb12 F8.lt
  replace hl9 : LRd w12 (w9.heap.size) A9 k9 c9 x9 := hl9.below hb12 (by omega)
  replace P9 : Bk2 w12 (w9.heap.size) (.bool n9) (.slice A9 k9 c9) := P9.below hb12 P9.lt
  replace F10 : Bk2 w12 (w9.heap.size + 1) (.int .i64 f1) (.int .i64 f2) := F10.below hb12 F10.lt
  replace hl11 : LRd w12 (w11.heap.size) A11 k11 c11 x11 := hl11.below hb12 (by omega)
  replace P11 : Bk2 w12 (w11.heap.size) (.bool n11) (.slice A11 k11 c11) := P11.below hb12 P11.lt
  replace F12 : Bk2 w12 (w11.heap.size + 1) (.int .i64 0) (.int .i64 0) := F12.below hb12 F12.lt
  clear hb12
  have t_F100 : w12.cell? ⟨w9.heap.size + 1, 0, none⟩ = some ((.int .i64 f1)) := F10.c0
  have t_F101 : w12.cell? ⟨w9.heap.size + 1, 1, none⟩ = some ((.int .i64 f2)) := F10.c1
  have t_F50 : w12.cell? ⟨w1.heap.size, 0, none⟩ = some ((.int .i64 f1)) := F5.c0
  have t_F51 : w12.cell? ⟨w1.heap.size, 1, none⟩ = some ((.int .i64 f2)) := F5.c1
  go_upto_region 7 with fail
  clear t_F100 t_F101 t_F50 t_F51
  have VA : ivld false a.xs = true := by have h9 := oa; rw [show a.ok = ivld a.neg a.xs from rfl, hs.out] at h9; exact h9
  rw [hs.out] at PA
  have G0 : Below w12.heap.size w12 w12.drew := Below.drew (Below.refl _ _)
  have HS := Lib.hid (fun (u : World) (hu : Below w12.heap.size w12 u) => (⟨hu, (PA.below hu PA.lt).c0, (PA.below hu PA.lt).c1, (P11.below hu P11.lt).c0, (P11.below hu P11.lt).c1, (F12.below hu F12.lt).c0, (F12.below hu F12.lt).c1⟩ : Below w12.heap.size w12 u ∧ u.cell? ⟨w.heap.size, 0, none⟩ = some (.bool false) ∧ u.cell? ⟨w.heap.size, 1, none⟩ = some (.slice a.A a.n a.c) ∧ u.cell? ⟨w11.heap.size, 0, none⟩ = some (.bool n11) ∧ u.cell? ⟨w11.heap.size, 1, none⟩ = some (.slice A11 k11 c11) ∧ u.cell? ⟨w11.heap.size + 1, 0, none⟩ = some (.int .i64 0) ∧ u.cell? ⟨w11.heap.size + 1, 1, none⟩ = some (.int .i64 0)))
  refine wp_region_held_drew (S := (fun u => Below w12.heap.size w12 u ∧ u.cell? ⟨w.heap.size, 0, none⟩ = some (.bool false) ∧ u.cell? ⟨w.heap.size, 1, none⟩ = some (.slice a.A a.n a.c) ∧ u.cell? ⟨w11.heap.size, 0, none⟩ = some (.bool n11) ∧ u.cell? ⟨w11.heap.size, 1, none⟩ = some (.slice A11 k11 c11) ∧ u.cell? ⟨w11.heap.size + 1, 0, none⟩ = some (.int .i64 0) ∧ u.cell? ⟨w11.heap.size + 1, 1, none⟩ = some (.int .i64 0))) (by kernel_rfl) (HS.out _ G0) (fun hHeld => ?_)
  refine takeW (i := 0) (v := ?_) rfl (by kernel_rfl) (by kernel_rfl) (by kernel_rfl) (fun _ _ _ h => h) (by rfl) (by assumption) ?_ ?_
  rotate_left 1
  · (intro w9 hSw; (try dsimp only at hSw); go_simp); (first | done | with_reducible rfl)
  try simp only [Act.put, List.setIfInBounds_toArray, List.set_cons_zero, List.set_cons_succ]
  refine readyW (i := 1) (by kernel_rfl) rfl (by rfl) (fun K hK => ?_)
  go_simp
  (go_at_call 17; (with_reducible refine (intOk_any _ _ false a.A a.n a.c a.xs ((HA.below G0 (by omega)).more (by have := G0.size; omega)) (Nat.le_refl _)).mono ?_); rintro e u1 ⟨rfl, hB1⟩; have B1 : Below w12.heap.size w12 u1 := bnext G0 hB1; rw [VA])
  go_wp2_with fail
  refine hK.out _ _ (HS.out _ B1) (fun hHeld1 => ?_)
  clear hK K
  try simp only [Act.put, List.setIfInBounds_toArray, List.set_cons_zero, List.set_cons_succ]
  refine takeW (i := 2) (v := ?_) rfl (by kernel_rfl) (by kernel_rfl) (by kernel_rfl) (fun _ _ _ h => h) (by rfl) (by assumption) ?_ ?_
  rotate_left 1
  · (intro w9 hSw; (try dsimp only at hSw); go_simp); (first | done | with_reducible rfl)
  try simp only [Act.put, List.setIfInBounds_toArray, List.set_cons_zero, List.set_cons_succ]
  refine takeW (i := 3) (v := ?_) rfl (by kernel_rfl) (by kernel_rfl) (by kernel_rfl) (fun _ _ _ h => h) (by rfl) (by assumption) ?_ ?_
  rotate_left 1
  · (intro w9 hSw; (try dsimp only at hSw); go_simp); (first | done | with_reducible rfl)
  try simp only [Act.put, List.setIfInBounds_toArray, List.set_cons_zero, List.set_cons_succ]
  refine takeW (i := 4) (v := ?_) rfl (by kernel_rfl) (by kernel_rfl) (by kernel_rfl) (fun _ _ _ h => h) (by rfl) (by assumption) ?_ ?_
  rotate_left 1
  · (intro w9 hSw; (try dsimp only at hSw); go_simp); (first | done | with_reducible rfl)
  try simp only [Act.put, List.setIfInBounds_toArray, List.set_cons_zero, List.set_cons_succ]
  refine takeW (i := 5) (v := ?_) rfl (by kernel_rfl) (by kernel_rfl) (by kernel_rfl) (fun _ _ _ h => h) (by rfl) (by assumption) ?_ ?_
  rotate_left 1
  · (intro w9 hSw; (try dsimp only at hSw); go_simp); (first | done | with_reducible rfl)
  try simp only [Act.put, List.setIfInBounds_toArray, List.set_cons_zero, List.set_cons_succ]
  refine takeW (i := 6) (v := ?_) rfl (by kernel_rfl) (by kernel_rfl) (by kernel_rfl) (fun _ _ _ h => h) (by rfl) (by assumption) ?_ ?_
  rotate_left 1
  · (intro w9 hSw; (try dsimp only at hSw); go_simp); (first | done | with_reducible rfl)
  try simp only [Act.put, List.setIfInBounds_toArray, List.set_cons_zero, List.set_cons_succ]
  refine takeN (i := 7) rfl (by kernel_rfl) (by kernel_rfl) (by kernel_rfl) (fun _ _ _ h => h) (by rfl) (by assumption) ?_
  try simp only [Act.put, List.setIfInBounds_toArray, List.set_cons_zero, List.set_cons_succ]
  refine readyN (i := 8) (by kernel_rfl) rfl (by rfl) (by assumption) ?_
  try simp only [Act.put, List.setIfInBounds_toArray, List.set_cons_zero, List.set_cons_succ]
  refine takeN (i := 9) rfl (by kernel_rfl) (by kernel_rfl) (by kernel_rfl) (fun _ _ _ h => h) (by rfl) (by assumption) ?_
  try simp only [Act.put, List.setIfInBounds_toArray, List.set_cons_zero, List.set_cons_succ]
  refine takeN (i := 10) rfl (by kernel_rfl) (by kernel_rfl) (by kernel_rfl) (fun _ _ _ h => h) (by rfl) (by assumption) ?_
  try simp only [Act.put, List.setIfInBounds_toArray, List.set_cons_zero, List.set_cons_succ]
  refine takeN (i := 11) rfl (by kernel_rfl) (by kernel_rfl) (by kernel_rfl) (fun _ _ _ h => h) (by rfl) (by assumption) ?_
  try simp only [Act.put, List.setIfInBounds_toArray, List.set_cons_zero, List.set_cons_succ]
  refine readyN (i := 12) (by kernel_rfl) rfl (by rfl) (by assumption) ?_
  try simp only [Act.put, List.setIfInBounds_toArray, List.set_cons_zero, List.set_cons_succ]
  refine takeN (i := 13) rfl (by kernel_rfl) (by kernel_rfl) (by kernel_rfl) (fun _ _ _ h => h) (by rfl) (by assumption) ?_
  try simp only [Act.put, List.setIfInBounds_toArray, List.set_cons_zero, List.set_cons_succ]
  refine takeN (i := 14) rfl (by kernel_rfl) (by kernel_rfl) (by kernel_rfl) (fun _ _ _ h => h) (by rfl) (by assumption) ?_
  try simp only [Act.put, List.setIfInBounds_toArray, List.set_cons_zero, List.set_cons_succ]
  refine takeW (i := 15) (v := ?_) rfl (by kernel_rfl) (by kernel_rfl) (by kernel_rfl) (fun _ _ _ h => h) (by rfl) (by assumption) ?_ ?_
  rotate_left 1
  · (intro w9 hSw; (try dsimp only at hSw); go_simp); (first | done | with_reducible rfl)
  try simp only [Act.put, List.setIfInBounds_toArray, List.set_cons_zero, List.set_cons_succ]
  refine takeW (i := 16) (v := ?_) rfl (by kernel_rfl) (by kernel_rfl) (by kernel_rfl) (fun _ _ _ h => h) (by rfl) (by assumption) ?_ ?_
  rotate_left 1
  · (intro w9 hSw; (try dsimp only at hSw); go_simp); (first | done | with_reducible rfl)
  try simp only [Act.put, List.setIfInBounds_toArray, List.set_cons_zero, List.set_cons_succ]
  refine takeW (i := 17) (v := ?_) rfl (by kernel_rfl) (by kernel_rfl) (by kernel_rfl) (fun _ _ _ h => h) (by rfl) (by assumption) ?_ ?_
  rotate_left 1
  · (intro w9 hSw; (try dsimp only at hSw); go_simp); (first | done | with_reducible rfl)
  try simp only [Act.put, List.setIfInBounds_toArray, List.set_cons_zero, List.set_cons_succ]
  refine readyW (i := 18) (by kernel_rfl) rfl (by rfl) (fun K hK => ?_)
  go_simp
  (go_at_call 17; (with_reducible refine (intOk_any _ _ false a.A a.n a.c a.xs ((HA.below B1 (by omega)).more (by have := B1.size; omega)) (Nat.le_refl _)).mono ?_); rintro e u4 ⟨rfl, hB4⟩; have B4 : Below w12.heap.size w12 u4 := bnext B1 hB4; rw [VA])
  go_wp2_with fail
  refine hK.out _ _ (HS.out _ B4) (fun hHeld4 => ?_)
  clear hK K
  try simp only [Act.put, List.setIfInBounds_toArray, List.set_cons_zero, List.set_cons_succ]
  refine takeW (i := 19) (v := ?_) rfl (by kernel_rfl) (by kernel_rfl) (by kernel_rfl) (fun _ _ _ h => h) (by rfl) (by assumption) ?_ ?_
  rotate_left 1
  · (intro w9 hSw; (try dsimp only at hSw); go_simp); (first | done | with_reducible rfl)
  try simp only [Act.put, List.setIfInBounds_toArray, List.set_cons_zero, List.set_cons_succ]
  refine takeW (i := 20) (v := ?_) rfl (by kernel_rfl) (by kernel_rfl) (by kernel_rfl) (fun _ _ _ h => h) (by rfl) (by assumption) ?_ ?_
  rotate_left 1
  · (intro w9 hSw; (try dsimp only at hSw); go_simp); (first | done | with_reducible rfl)
  try simp only [Act.put, List.setIfInBounds_toArray, List.set_cons_zero, List.set_cons_succ]
  refine takeN (i := 21) rfl (by kernel_rfl) (by kernel_rfl) (by kernel_rfl) (fun _ _ _ h => h) (by rfl) (by assumption) ?_
  try simp only [Act.put, List.setIfInBounds_toArray, List.set_cons_zero, List.set_cons_succ]
  refine readyN (i := 22) (by kernel_rfl) rfl (by rfl) (by assumption) ?_
  try simp only [Act.put, List.setIfInBounds_toArray, List.set_cons_zero, List.set_cons_succ]
  refine takeN (i := 23) rfl (by kernel_rfl) (by kernel_rfl) (by kernel_rfl) (fun _ _ _ h => h) (by rfl) (by assumption) ?_
  try simp only [Act.put, List.setIfInBounds_toArray, List.set_cons_zero, List.set_cons_succ]
  refine takeN (i := 24) rfl (by kernel_rfl) (by kernel_rfl) (by kernel_rfl) (fun _ _ _ h => h) (by rfl) (by assumption) ?_
  try simp only [Act.put, List.setIfInBounds_toArray, List.set_cons_zero, List.set_cons_succ]
  refine takeN (i := 25) rfl (by kernel_rfl) (by kernel_rfl) (by kernel_rfl) (fun _ _ _ h => h) (by rfl) (by assumption) ?_
  try simp only [Act.put, List.setIfInBounds_toArray, List.set_cons_zero, List.set_cons_succ]
  refine readyN (i := 26) (by kernel_rfl) rfl (by rfl) (by assumption) ?_
  try simp only [Act.put, List.setIfInBounds_toArray, List.set_cons_zero, List.set_cons_succ]
  refine takeN (i := 27) rfl (by kernel_rfl) (by kernel_rfl) (by kernel_rfl) (fun _ _ _ h => h) (by rfl) (by assumption) ?_
  try simp only [Act.put, List.setIfInBounds_toArray, List.set_cons_zero, List.set_cons_succ]
  refine takeN (i := 28) rfl (by kernel_rfl) (by kernel_rfl) (by kernel_rfl) (fun _ _ _ h => h) (by rfl) (by assumption) ?_
  try simp only [Act.put, List.setIfInBounds_toArray, List.set_cons_zero, List.set_cons_succ]
  refine takeW (i := 29) (v := ?_) rfl (by kernel_rfl) (by kernel_rfl) (by kernel_rfl) (fun _ _ _ h => h) (by rfl) (by assumption) ?_ ?_
  rotate_left 1
  · (intro w9 hSw; (try dsimp only at hSw); go_simp); (first | done | with_reducible rfl)
  try simp only [Act.put, List.setIfInBounds_toArray, List.set_cons_zero, List.set_cons_succ]
  refine takeW (i := 30) (v := ?_) rfl (by kernel_rfl) (by kernel_rfl) (by kernel_rfl) (fun _ _ _ h => h) (by rfl) (by assumption) ?_ ?_
  rotate_left 1
  · (intro w9 hSw; (try dsimp only at hSw); go_simp); (first | done | with_reducible rfl)
  try simp only [Act.put, List.setIfInBounds_toArray, List.set_cons_zero, List.set_cons_succ]
  refine wpAnyH_done (by kernel_rfl) ?_ _
  go_upto_region 9 with fail
  clear HS G0 B1 hHeld hHeld1 hHeld4
  have s13 := B4.size
  replace E : Below w.heap.size w u4 := E.trans (B4.mono E.size)
  replace HA : LRd u4 (w.heap.size) a.A a.n a.c a.xs := HA.below B4 (by omega)
  replace HB : LRd u4 (w.heap.size) b.A b.n b.c b.xs := HB.below B4 (by omega)
  replace PA : Bk2 u4 (w.heap.size) (.bool false) (.slice a.A a.n a.c) := PA.below B4 PA.lt
  replace PB : Bk2 u4 (w.heap.size + 1) (.bool b.neg) (.slice b.A b.n b.c) := PB.below B4 PB.lt
  replace F5 : Bk2 u4 (w1.heap.size) (.int .i64 f1) (.int .i64 f2) := F5.below B4 F5.lt
  replace hl6 : LRd u4 (w6.heap.size) A6 k6 c6 x6 := hl6.below B4 (by omega)
  replace hl7 : LRd u4 (w6.heap.size) A7 k7 c7 x7 := hl7.below B4 (by omega)
  replace P6 : Bk2 u4 (w6.heap.size) (.bool n6) (.slice A6 k6 c6) := P6.below B4 P6.lt
  replace P7 : Bk2 u4 (w6.heap.size + 1) (.bool n7) (.slice A7 k7 c7) := P7.below B4 P7.lt
  replace F8 : Bk2 u4 (w6.heap.size + 2) (.int .i64 g1) (.int .i64 g2) := F8.below B4 F8.lt
  replace hl9 : LRd u4 (w9.heap.size) A9 k9 c9 x9 := hl9.below B4 (by omega)
  replace P9 : Bk2 u4 (w9.heap.size) (.bool n9) (.slice A9 k9 c9) := P9.below B4 P9.lt
  replace F10 : Bk2 u4 (w9.heap.size + 1) (.int .i64 f1) (.int .i64 f2) := F10.below B4 F10.lt
  replace hl11 : LRd u4 (w11.heap.size) A11 k11 c11 x11 := hl11.below B4 (by omega)
  replace P11 : Bk2 u4 (w11.heap.size) (.bool n11) (.slice A11 k11 c11) := P11.below B4 P11.lt
  replace F12 : Bk2 u4 (w11.heap.size + 1) (.int .i64 0) (.int .i64 0) := F12.below B4 F12.lt
  clear B4
  have TA := Lib.hid (show vb 4294967296 a.xs < Top128 from lt128 (⟨HA.lim, rfl, (vld_top (IV.vld oa).1).1⟩ : Rep 4294967296 a.xs (vb 4294967296 a.xs)) rfl (IV.vld oa).2)
  have G0 : Below u4.heap.size u4 u4.drew := Below.drew (Below.refl _ _)
  have HS := Lib.hid (fun (u : World) (hu : Below u4.heap.size u4 u) => (⟨hu, (PA.below hu PA.lt).c0, (PA.below hu PA.lt).c1, (F12.below hu F12.lt).c0, (F12.below hu F12.lt).c1, (P11.below hu P11.lt).c0, (P11.below hu P11.lt).c1⟩ : Below u4.heap.size u4 u ∧ u.cell? ⟨w.heap.size, 0, none⟩ = some (.bool false) ∧ u.cell? ⟨w.heap.size, 1, none⟩ = some (.slice a.A a.n a.c) ∧ u.cell? ⟨w11.heap.size + 1, 0, none⟩ = some (.int .i64 0) ∧ u.cell? ⟨w11.heap.size + 1, 1, none⟩ = some (.int .i64 0) ∧ u.cell? ⟨w11.heap.size, 0, none⟩ = some (.bool n11) ∧ u.cell? ⟨w11.heap.size, 1, none⟩ = some (.slice A11 k11 c11)))
  go_region_held3 (fun u => Below u4.heap.size u4 u ∧ u.cell? ⟨w.heap.size, 0, none⟩ = some (.bool false) ∧ u.cell? ⟨w.heap.size, 1, none⟩ = some (.slice a.A a.n a.c) ∧ u.cell? ⟨w11.heap.size + 1, 0, none⟩ = some (.int .i64 0) ∧ u.cell? ⟨w11.heap.size + 1, 1, none⟩ = some (.int .i64 0) ∧ u.cell? ⟨w11.heap.size, 0, none⟩ = some (.bool n11) ∧ u.cell? ⟨w11.heap.size, 1, none⟩ = some (.slice A11 k11 c11)) (first | with_reducible exact HS.out _ G0 | with_reducible exact HS.out _ B4 | with_reducible exact HS.out _ B3 | with_reducible exact HS.out _ B2 | with_reducible exact HS.out _ B1 | fail)
    (first
      | (go_at_call 17; (with_reducible refine (intOk_any _ _ false a.A a.n a.c a.xs ((HA.below G0 (by omega)).more (by have := G0.size; omega)) (Nat.le_refl _)).mono ?_); rintro e y1 ⟨rfl, hB1⟩; have B1 : Below u4.heap.size u4 y1 := bnext G0 hB1; rw [VA])
      | (go_at_call 41; (with_reducible refine (of_any _ _ a.A a.n a.c a.xs ((HA.below B1 (by omega)).more (by have := B1.size; omega)) (Nat.le_refl _) (by have := HA.len.out; have := (IV.vld oa).2; omega)).mono ?_); rintro e y2 ⟨Ao, ko, co, xo, rfl, hdo, hro, hb2⟩; have B2 : Below u4.heap.size u4 y2 := bnext B1 hb2; have RO := Lib.hid hro; have KO := len512 hro hdo.len.out (top_sq (by have := TA.out; omega)); clear hro)
      | (go_at_call 40; (with_reducible refine (rootD_any _ _ Ao ko co (vb 4294967296 a.xs) xo hdo (Nat.le_refl _) RO.out KO).mono ?_); rintro e y3 ⟨s9, h91, h92, Ar, kr, cr, xr, rfl, hdr, hrr, hb3⟩; have B3 : Below u4.heap.size u4 y3 := bnext B2 hb3; obtain rfl : s = s9 := sq_uniq SQ.out.1 SQ.out.2 h91 h92; have RR := Lib.hid hrr; have KR := len512 hrr hdr.len.out (top_sq (by have := TA.out; have := SQ.out.1; have := Nat.le_mul_self s; omega)); clear hrr h91 h92)
      | (go_at_call 18; (with_reducible refine (sameInt_any _ _ n11 false A11 Ar k11 kr c11 cr s (sval false s) x11 xr ((hl11.below B3 (by omega)).more (by have := B3.size; omega)) hdr (Nat.le_refl _) I11.out RR.out rfl KR).mono ?_); rintro e y4 ⟨rfl, hb4⟩; have B4 : Below u4.heap.size u4 y4 := bnext B3 hb4)
      | fail)
  go_upto_region 11 with fail
  clear HS G0 RO KO RR KR hdo hdr hb2 hb3 hb4 B1 B2 B3 SQ I11
  have s14 := B4.size
  replace E : Below w.heap.size w y4 := E.trans (B4.mono E.size)
  replace HA : LRd y4 (w.heap.size) a.A a.n a.c a.xs := HA.below B4 (by omega)
  replace HB : LRd y4 (w.heap.size) b.A b.n b.c b.xs := HB.below B4 (by omega)
  replace PA : Bk2 y4 (w.heap.size) (.bool false) (.slice a.A a.n a.c) := PA.below B4 PA.lt
  replace PB : Bk2 y4 (w.heap.size + 1) (.bool b.neg) (.slice b.A b.n b.c) := PB.below B4 PB.lt
  replace F5 : Bk2 y4 (w1.heap.size) (.int .i64 f1) (.int .i64 f2) := F5.below B4 F5.lt
  replace hl6 : LRd y4 (w6.heap.size) A6 k6 c6 x6 := hl6.below B4 (by omega)
  replace hl7 : LRd y4 (w6.heap.size) A7 k7 c7 x7 := hl7.below B4 (by omega)
  replace P6 : Bk2 y4 (w6.heap.size) (.bool n6) (.slice A6 k6 c6) := P6.below B4 P6.lt
  replace P7 : Bk2 y4 (w6.heap.size + 1) (.bool n7) (.slice A7 k7 c7) := P7.below B4 P7.lt
  replace F8 : Bk2 y4 (w6.heap.size + 2) (.int .i64 g1) (.int .i64 g2) := F8.below B4 F8.lt
  replace hl9 : LRd y4 (w9.heap.size) A9 k9 c9 x9 := hl9.below B4 (by omega)
  replace P9 : Bk2 y4 (w9.heap.size) (.bool n9) (.slice A9 k9 c9) := P9.below B4 P9.lt
  replace F10 : Bk2 y4 (w9.heap.size + 1) (.int .i64 f1) (.int .i64 f2) := F10.below B4 F10.lt
  replace hl11 : LRd y4 (w11.heap.size) A11 k11 c11 x11 := hl11.below B4 (by omega)
  replace P11 : Bk2 y4 (w11.heap.size) (.bool n11) (.slice A11 k11 c11) := P11.below B4 P11.lt
  replace F12 : Bk2 y4 (w11.heap.size + 1) (.int .i64 0) (.int .i64 0) := F12.below B4 F12.lt
  clear B4
  rcases DM.out with ⟨rfl, rfl, rfl, rfl, rfl⟩ | hok
  · obtain rfl : d = 0 := by
      rcases GC.out with h | h
      · exact h.2
      · exact absurd h.1 (by decide)
    obtain ⟨rfl, rfl⟩ := irep_nil I6.out hl6.len.out
    obtain ⟨rfl, rfl⟩ := irep_nil I7.out hl7.len.out
    obtain ⟨rfl, rfl⟩ := irep_nil I9.out hl9.len.out
    clear hl6
    clear hl7
    clear hl9
    have t_F50 : y4.cell? ⟨w1.heap.size, 0, none⟩ = some ((.int .i64 6)) := F5.c0
    have t_F51 : y4.cell? ⟨w1.heap.size, 1, none⟩ = some ((.int .i64 g2)) := F5.c1
    have t_F80 : y4.cell? ⟨w6.heap.size + 2, 0, none⟩ = some ((.int .i64 6)) := F8.c0
    have t_F81 : y4.cell? ⟨w6.heap.size + 2, 1, none⟩ = some ((.int .i64 g2)) := F8.c1
    have t_P60 : y4.cell? ⟨w6.heap.size, 0, none⟩ = some ((.bool false)) := P6.c0
    have t_P61 : y4.cell? ⟨w6.heap.size, 1, none⟩ = some ((.slice A6 0 c6)) := P6.c1
    go_wp2_with fail
    clear t_F50 t_F51 t_F80 t_F81 t_P60 t_P61
    (with_reducible refine (noInt_any _ false A6 0 c6 (by omega)).mono ?_)
    rintro e v6 ⟨rfl, hq6⟩
    have sv6 := hq6.size
    replace E : Below w.heap.size w v6 := E.trans (hq6.mono E.size)
    replace HA : LRd v6 (w.heap.size) a.A a.n a.c a.xs := HA.below hq6 (by omega)
    replace HB : LRd v6 (w.heap.size) b.A b.n b.c b.xs := HB.below hq6 (by omega)
    replace PA : Bk2 v6 (w.heap.size) (.bool false) (.slice a.A a.n a.c) := PA.below hq6 PA.lt
    replace PB : Bk2 v6 (w.heap.size + 1) (.bool b.neg) (.slice b.A b.n b.c) := PB.below hq6 PB.lt
    replace F5 : Bk2 v6 (w1.heap.size) (.int .i64 6) (.int .i64 g2) := F5.below hq6 F5.lt
    replace P6 : Bk2 v6 (w6.heap.size) (.bool false) (.slice A6 0 c6) := P6.below hq6 P6.lt
    replace P7 : Bk2 v6 (w6.heap.size + 1) (.bool false) (.slice A7 0 c7) := P7.below hq6 P7.lt
    replace F8 : Bk2 v6 (w6.heap.size + 2) (.int .i64 6) (.int .i64 g2) := F8.below hq6 F8.lt
    replace P9 : Bk2 v6 (w9.heap.size) (.bool false) (.slice A9 0 c9) := P9.below hq6 P9.lt
    replace F10 : Bk2 v6 (w9.heap.size + 1) (.int .i64 6) (.int .i64 g2) := F10.below hq6 F10.lt
    replace hl11 : LRd v6 (w11.heap.size) A11 k11 c11 x11 := hl11.below hq6 (by omega)
    replace P11 : Bk2 v6 (w11.heap.size) (.bool n11) (.slice A11 k11 c11) := P11.below hq6 P11.lt
    replace F12 : Bk2 v6 (w11.heap.size + 1) (.int .i64 0) (.int .i64 0) := F12.below hq6 F12.lt
    clear hq6
    rw [show (!false && decide (0 = 0)) = true from rfl]
    have t_P70 : v6.cell? ⟨w6.heap.size + 1, 0, none⟩ = some ((.bool false)) := P7.c0
    have t_P71 : v6.cell? ⟨w6.heap.size + 1, 1, none⟩ = some ((.slice A7 0 c7)) := P7.c1
    go_wp2_with fail
    clear t_P70 t_P71
    (with_reducible refine (noInt_any _ false A7 0 c7 (by omega)).mono ?_)
    rintro e v7 ⟨rfl, hq7⟩
    have sv7 := hq7.size
    replace E : Below w.heap.size w v7 := E.trans (hq7.mono E.size)
    replace HA : LRd v7 (w.heap.size) a.A a.n a.c a.xs := HA.below hq7 (by omega)
    replace HB : LRd v7 (w.heap.size) b.A b.n b.c b.xs := HB.below hq7 (by omega)
    replace PA : Bk2 v7 (w.heap.size) (.bool false) (.slice a.A a.n a.c) := PA.below hq7 PA.lt
    replace PB : Bk2 v7 (w.heap.size + 1) (.bool b.neg) (.slice b.A b.n b.c) := PB.below hq7 PB.lt
    replace F5 : Bk2 v7 (w1.heap.size) (.int .i64 6) (.int .i64 g2) := F5.below hq7 F5.lt
    replace P6 : Bk2 v7 (w6.heap.size) (.bool false) (.slice A6 0 c6) := P6.below hq7 P6.lt
    replace P7 : Bk2 v7 (w6.heap.size + 1) (.bool false) (.slice A7 0 c7) := P7.below hq7 P7.lt
    replace F8 : Bk2 v7 (w6.heap.size + 2) (.int .i64 6) (.int .i64 g2) := F8.below hq7 F8.lt
    replace P9 : Bk2 v7 (w9.heap.size) (.bool false) (.slice A9 0 c9) := P9.below hq7 P9.lt
    replace F10 : Bk2 v7 (w9.heap.size + 1) (.int .i64 6) (.int .i64 g2) := F10.below hq7 F10.lt
    replace hl11 : LRd v7 (w11.heap.size) A11 k11 c11 x11 := hl11.below hq7 (by omega)
    replace P11 : Bk2 v7 (w11.heap.size) (.bool n11) (.slice A11 k11 c11) := P11.below hq7 P11.lt
    replace F12 : Bk2 v7 (w11.heap.size + 1) (.int .i64 0) (.int .i64 0) := F12.below hq7 F12.lt
    clear hq7
    rw [show (!false && decide (0 = 0)) = true from rfl]
    have t_P90 : v7.cell? ⟨w9.heap.size, 0, none⟩ = some ((.bool false)) := P9.c0
    have t_P91 : v7.cell? ⟨w9.heap.size, 1, none⟩ = some ((.slice A9 0 c9)) := P9.c1
    go_wp2_with fail
    clear t_P90 t_P91
    (with_reducible refine (noInt_any _ false A9 0 c9 (by omega)).mono ?_)
    rintro e v9 ⟨rfl, hq9⟩
    have sv9 := hq9.size
    replace E : Below w.heap.size w v9 := E.trans (hq9.mono E.size)
    replace HA : LRd v9 (w.heap.size) a.A a.n a.c a.xs := HA.below hq9 (by omega)
    replace HB : LRd v9 (w.heap.size) b.A b.n b.c b.xs := HB.below hq9 (by omega)
    replace PA : Bk2 v9 (w.heap.size) (.bool false) (.slice a.A a.n a.c) := PA.below hq9 PA.lt
    replace PB : Bk2 v9 (w.heap.size + 1) (.bool b.neg) (.slice b.A b.n b.c) := PB.below hq9 PB.lt
    replace F5 : Bk2 v9 (w1.heap.size) (.int .i64 6) (.int .i64 g2) := F5.below hq9 F5.lt
    replace P6 : Bk2 v9 (w6.heap.size) (.bool false) (.slice A6 0 c6) := P6.below hq9 P6.lt
    replace P7 : Bk2 v9 (w6.heap.size + 1) (.bool false) (.slice A7 0 c7) := P7.below hq9 P7.lt
    replace F8 : Bk2 v9 (w6.heap.size + 2) (.int .i64 6) (.int .i64 g2) := F8.below hq9 F8.lt
    replace P9 : Bk2 v9 (w9.heap.size) (.bool false) (.slice A9 0 c9) := P9.below hq9 P9.lt
    replace F10 : Bk2 v9 (w9.heap.size + 1) (.int .i64 6) (.int .i64 g2) := F10.below hq9 F10.lt
    replace hl11 : LRd v9 (w11.heap.size) A11 k11 c11 x11 := hl11.below hq9 (by omega)
    replace P11 : Bk2 v9 (w11.heap.size) (.bool n11) (.slice A11 k11 c11) := P11.below hq9 P11.lt
    replace F12 : Bk2 v9 (w11.heap.size + 1) (.int .i64 0) (.int .i64 0) := F12.below hq9 F12.lt
    clear hq9
    rw [show (!false && decide (0 = 0)) = true from rfl]
    go_wp2_with fail
    go_ret
    exact ⟨by first | rfl | (simp; done), E⟩
  obtain ⟨rfl, rfl, ob⟩ : f1 = 0 ∧ f2 = 0 ∧ b.ok = true := by
    rcases hok with h | h
    · exact ⟨h.1, h.2.1, h.2.2.1⟩
    · exact ⟨h.1, h.2.1, h.2.2.1⟩
  replace hok : (b.n = 0 ∧ q = 0 ∧ r = 0 ∧ g1 = 22 ∧ g2 = -2) ∨ (0 < b.n ∧ FloorOf a.val b.val q r ∧ g1 = 0 ∧ g2 = 0) := by
    rcases hok with h | h
    · exact .inl h.2.2.2
    · exact .inr h.2.2.2
  clear DM
  obtain rfl : d = sval false (Nat.gcd (vb 4294967296 a.xs) (vb 4294967296 b.xs)) := by
    rcases GC.out with h | h
    · exact absurd h.1 (by decide)
    · exact h.2
  clear GC
  have t_F50 : y4.cell? ⟨w1.heap.size, 0, none⟩ = some ((.int .i64 0)) := F5.c0
  have t_F51 : y4.cell? ⟨w1.heap.size, 1, none⟩ = some ((.int .i64 0)) := F5.c1
  go_upto_region 13 with fail
  clear t_F50 t_F51
  have TB := Lib.hid (show vb 4294967296 b.xs < Top128 from lt128 (⟨HB.lim, rfl, (vld_top (IV.vld ob).1).1⟩ : Rep 4294967296 b.xs (vb 4294967296 b.xs)) rfl (IV.vld ob).2)
  have G0 : Below y4.heap.size y4 y4.drew := Below.drew (Below.refl _ _)
  have HS := Lib.hid (fun (u : World) (hu : Below y4.heap.size y4 u) => (⟨hu, (P9.below hu P9.lt).c0, (P9.below hu P9.lt).c1, (PA.below hu PA.lt).c0, (PA.below hu PA.lt).c1, (PB.below hu PB.lt).c0, (PB.below hu PB.lt).c1⟩ : Below y4.heap.size y4 u ∧ u.cell? ⟨w9.heap.size, 0, none⟩ = some (.bool n9) ∧ u.cell? ⟨w9.heap.size, 1, none⟩ = some (.slice A9 k9 c9) ∧ u.cell? ⟨w.heap.size, 0, none⟩ = some (.bool false) ∧ u.cell? ⟨w.heap.size, 1, none⟩ = some (.slice a.A a.n a.c) ∧ u.cell? ⟨w.heap.size + 1, 0, none⟩ = some (.bool b.neg) ∧ u.cell? ⟨w.heap.size + 1, 1, none⟩ = some (.slice b.A b.n b.c)))
  go_region_held3 (fun u => Below y4.heap.size y4 u ∧ u.cell? ⟨w9.heap.size, 0, none⟩ = some (.bool n9) ∧ u.cell? ⟨w9.heap.size, 1, none⟩ = some (.slice A9 k9 c9) ∧ u.cell? ⟨w.heap.size, 0, none⟩ = some (.bool false) ∧ u.cell? ⟨w.heap.size, 1, none⟩ = some (.slice a.A a.n a.c) ∧ u.cell? ⟨w.heap.size + 1, 0, none⟩ = some (.bool b.neg) ∧ u.cell? ⟨w.heap.size + 1, 1, none⟩ = some (.slice b.A b.n b.c)) (first | with_reducible exact HS.out _ G0 | with_reducible exact HS.out _ B4 | with_reducible exact HS.out _ B3 | with_reducible exact HS.out _ B2 | with_reducible exact HS.out _ B1 | fail)
    (first
      | (go_at_call 41; (with_reducible refine (of_any _ _ a.A a.n a.c a.xs ((HA.below G0 (by omega)).more (by have := G0.size; omega)) (Nat.le_refl _) (by have := HA.len.out; have := (IV.vld oa).2; omega)).mono ?_); rintro e z1 ⟨AEa, kEa, cEa, xEa, rfl, hdEa, hrEa, hbEa⟩; have B1 : Below y4.heap.size y4 z1 := bnext G0 hbEa; have REa := Lib.hid hrEa; have KEa := len512 hrEa hdEa.len.out (top_sq (by have := TA.out; omega)); clear hrEa)
      | (go_at_call 41; (with_reducible refine (of_any _ _ b.A b.n b.c b.xs ((HB.below B1 (by omega)).more (by have := B1.size; omega)) (Nat.le_refl _) (by have := HB.len.out; have := (IV.vld ob).2; omega)).mono ?_); rintro e z2 ⟨AEb, kEb, cEb, xEb, rfl, hdEb, hrEb, hbEb⟩; have B2 : Below y4.heap.size y4 z2 := bnext B1 hbEb; have REb := Lib.hid hrEb; have KEb := len512 hrEb hdEb.len.out (top_sq (by have := TB.out; omega)); clear hrEb)
      | (go_at_call 42; (with_reducible refine (common_any _ _ AEa AEb kEa kEb cEa cEb 100000 (vb 4294967296 a.xs) (vb 4294967296 b.xs) xEa xEb ((hdEa.below hbEb (Nat.le_refl _)).more hbEb.size) hdEb (Nat.le_refl _) KEa KEb (by omega) REa.out REb.out).mono ?_); rintro e z3 ⟨Ac, kc, cc, xc, rfl, hdc, hrc, hbc⟩; have B3 : Below y4.heap.size y4 z3 := bnext B2 hbc; have RC := Lib.hid hrc; have KC := len512 hrc hdc.len.out (top_sq (by have := gcd_ltT TA.out TB.out; omega)); clear hrc)
      | (go_at_call 18; (with_reducible refine (sameInt_any _ _ n9 false A9 Ac k9 kc c9 cc (Nat.gcd (vb 4294967296 a.xs) (vb 4294967296 b.xs)) (sval false (Nat.gcd (vb 4294967296 a.xs) (vb 4294967296 b.xs))) x9 xc ((hl9.below B3 (by omega)).more (by have := B3.size; omega)) hdc (Nat.le_refl _) I9.out RC.out rfl KC).mono ?_); rintro e z4 ⟨rfl, hb4⟩; have B4 : Below y4.heap.size y4 z4 := bnext B3 hb4)
      | fail)
  go_upto_region 15 with fail
  clear HS G0 REa KEa REb KEb hdEa hdEb RC KC hdc hbEa hbEb hbc hb4 B1 B2 B3
  have s15 := B4.size
  replace E : Below w.heap.size w z4 := E.trans (B4.mono E.size)
  replace HA : LRd z4 (w.heap.size) a.A a.n a.c a.xs := HA.below B4 (by omega)
  replace HB : LRd z4 (w.heap.size) b.A b.n b.c b.xs := HB.below B4 (by omega)
  replace PA : Bk2 z4 (w.heap.size) (.bool false) (.slice a.A a.n a.c) := PA.below B4 PA.lt
  replace PB : Bk2 z4 (w.heap.size + 1) (.bool b.neg) (.slice b.A b.n b.c) := PB.below B4 PB.lt
  replace F5 : Bk2 z4 (w1.heap.size) (.int .i64 0) (.int .i64 0) := F5.below B4 F5.lt
  replace hl6 : LRd z4 (w6.heap.size) A6 k6 c6 x6 := hl6.below B4 (by omega)
  replace hl7 : LRd z4 (w6.heap.size) A7 k7 c7 x7 := hl7.below B4 (by omega)
  replace P6 : Bk2 z4 (w6.heap.size) (.bool n6) (.slice A6 k6 c6) := P6.below B4 P6.lt
  replace P7 : Bk2 z4 (w6.heap.size + 1) (.bool n7) (.slice A7 k7 c7) := P7.below B4 P7.lt
  replace F8 : Bk2 z4 (w6.heap.size + 2) (.int .i64 g1) (.int .i64 g2) := F8.below B4 F8.lt
  replace hl9 : LRd z4 (w9.heap.size) A9 k9 c9 x9 := hl9.below B4 (by omega)
  replace P9 : Bk2 z4 (w9.heap.size) (.bool n9) (.slice A9 k9 c9) := P9.below B4 P9.lt
  replace F10 : Bk2 z4 (w9.heap.size + 1) (.int .i64 0) (.int .i64 0) := F10.below B4 F10.lt
  replace hl11 : LRd z4 (w11.heap.size) A11 k11 c11 x11 := hl11.below B4 (by omega)
  replace P11 : Bk2 z4 (w11.heap.size) (.bool n11) (.slice A11 k11 c11) := P11.below B4 P11.lt
  replace F12 : Bk2 z4 (w11.heap.size + 1) (.int .i64 0) (.int .i64 0) := F12.below B4 F12.lt
  clear B4
  have t_PB0 : z4.cell? ⟨w.heap.size + 1, 0, none⟩ = some ((.bool b.neg)) := PB.c0
  have t_PB1 : z4.cell? ⟨w.heap.size + 1, 1, none⟩ = some ((.slice b.A b.n b.c)) := PB.c1
  go_wp2_with fail
  clear t_PB0 t_PB1
  (with_reducible refine (noInt_any _ b.neg b.A b.n b.c (by have := HB.len.out; have := (IV.vld ob).2; omega)).mono ?_)
  rintro e w20 ⟨rfl, hb20⟩
  have sw20 := hb20.size
  replace E : Below w.heap.size w w20 := E.trans (hb20.mono E.size)
  replace HA : LRd w20 (w.heap.size) a.A a.n a.c a.xs := HA.below hb20 (by omega)
  replace HB : LRd w20 (w.heap.size) b.A b.n b.c b.xs := HB.below hb20 (by omega)
  replace PA : Bk2 w20 (w.heap.size) (.bool false) (.slice a.A a.n a.c) := PA.below hb20 PA.lt
  replace PB : Bk2 w20 (w.heap.size + 1) (.bool b.neg) (.slice b.A b.n b.c) := PB.below hb20 PB.lt
  replace F5 : Bk2 w20 (w1.heap.size) (.int .i64 0) (.int .i64 0) := F5.below hb20 F5.lt
  replace hl6 : LRd w20 (w6.heap.size) A6 k6 c6 x6 := hl6.below hb20 (by omega)
  replace hl7 : LRd w20 (w6.heap.size) A7 k7 c7 x7 := hl7.below hb20 (by omega)
  replace P6 : Bk2 w20 (w6.heap.size) (.bool n6) (.slice A6 k6 c6) := P6.below hb20 P6.lt
  replace P7 : Bk2 w20 (w6.heap.size + 1) (.bool n7) (.slice A7 k7 c7) := P7.below hb20 P7.lt
  replace F8 : Bk2 w20 (w6.heap.size + 2) (.int .i64 g1) (.int .i64 g2) := F8.below hb20 F8.lt
  replace hl9 : LRd w20 (w9.heap.size) A9 k9 c9 x9 := hl9.below hb20 (by omega)
  replace P9 : Bk2 w20 (w9.heap.size) (.bool n9) (.slice A9 k9 c9) := P9.below hb20 P9.lt
  replace F10 : Bk2 w20 (w9.heap.size + 1) (.int .i64 0) (.int .i64 0) := F10.below hb20 F10.lt
  replace hl11 : LRd w20 (w11.heap.size) A11 k11 c11 x11 := hl11.below hb20 (by omega)
  replace P11 : Bk2 w20 (w11.heap.size) (.bool n11) (.slice A11 k11 c11) := P11.below hb20 P11.lt
  replace F12 : Bk2 w20 (w11.heap.size + 1) (.int .i64 0) (.int .i64 0) := F12.below hb20 F12.lt
  clear hb20
  rcases hok with ⟨h0, rfl, rfl, rfl, rfl⟩ | ⟨h0, hfl, rfl, rfl⟩
  · obtain ⟨rfl, rfl⟩ := irep_nil I6.out hl6.len.out
    obtain ⟨rfl, rfl⟩ := irep_nil I7.out hl7.len.out
    have hz : (!b.neg && decide (b.n = 0)) = true := by
      have h1 := ob
      rw [show b.ok = ivld b.neg b.xs from rfl, ivld_nil (by have := HB.len.out; omega)] at h1
      rw [h1, h0]; rfl
    rw [hz]
    go_upto_region 16 with fail
    have G0 : Below w20.heap.size w20 w20.drew := Below.drew (Below.refl _ _)
    have HS := Lib.hid (fun (u : World) (hu : Below w20.heap.size w20 u) => (⟨hu, (F8.below hu F8.lt).c0, (F8.below hu F8.lt).c1, (P6.below hu P6.lt).c0, (P6.below hu P6.lt).c1, (P7.below hu P7.lt).c0, (P7.below hu P7.lt).c1⟩ : Below w20.heap.size w20 u ∧ u.cell? ⟨w6.heap.size + 2, 0, none⟩ = some (.int .i64 22) ∧ u.cell? ⟨w6.heap.size + 2, 1, none⟩ = some (.int .i64 (-2)) ∧ u.cell? ⟨w6.heap.size, 0, none⟩ = some (.bool false) ∧ u.cell? ⟨w6.heap.size, 1, none⟩ = some (.slice A6 0 c6) ∧ u.cell? ⟨w6.heap.size + 1, 0, none⟩ = some (.bool false) ∧ u.cell? ⟨w6.heap.size + 1, 1, none⟩ = some (.slice A7 0 c7)))
    go_region_held3 (fun u => Below w20.heap.size w20 u ∧ u.cell? ⟨w6.heap.size + 2, 0, none⟩ = some (.int .i64 22) ∧ u.cell? ⟨w6.heap.size + 2, 1, none⟩ = some (.int .i64 (-2)) ∧ u.cell? ⟨w6.heap.size, 0, none⟩ = some (.bool false) ∧ u.cell? ⟨w6.heap.size, 1, none⟩ = some (.slice A6 0 c6) ∧ u.cell? ⟨w6.heap.size + 1, 0, none⟩ = some (.bool false) ∧ u.cell? ⟨w6.heap.size + 1, 1, none⟩ = some (.slice A7 0 c7)) (first | with_reducible exact HS.out _ G0 | with_reducible exact HS.out _ B3 | with_reducible exact HS.out _ B2 | with_reducible exact HS.out _ B1 | fail)
      (first
        | (go_at_call 25; (with_reducible refine (at_any _ _ _).mono ?_); rintro e x1 ⟨rfl, hB1⟩; have B1 : Below w20.heap.size w20 x1 := bnext G0 hB1)
        | (go_at_call 26; (with_reducible refine (noInt_any _ false A6 0 c6 (by omega)).mono ?_); rintro e x2 ⟨rfl, hB2⟩; have B2 : Below w20.heap.size w20 x2 := bnext B1 hB2; rw [show (!false && decide (0 = 0)) = true from rfl])
        | (go_at_call 26; (with_reducible refine (noInt_any _ false A7 0 c7 (by omega)).mono ?_); rintro e x3 ⟨rfl, hB3⟩; have B3 : Below w20.heap.size w20 x3 := bnext B2 hB3; rw [show (!false && decide (0 = 0)) = true from rfl])
        | fail)
    all_goals (go_wp2_with fail)
    all_goals go_ret
    all_goals exact ⟨by first | rfl | (simp; done), E.trans (B3.mono E.size)⟩
  have hz : (!b.neg && decide (b.n = 0)) = false := by rw [decide_eq_false (by omega), Bool.and_false]
  rw [hz]
  have FL := Lib.hid hfl
  clear hfl
  clear F5
  clear P9
  clear F10
  clear P11
  clear F12
  go_upto_region 17 with fail
  go_cut [13, 14] (fun s13 s14 wx => R9 w20 q r s13 s14 wx)
  case first =>
    have G0 : Below w20.heap.size w20 w20.drew := Below.drew (Below.refl _ _)
    have TX := fun (u : World) (hu : Below w20.heap.size w20 u) => intOf_any u w.heap.size false a.A a.n a.c a.xs (HA.below hu (by omega)) (by have := hu.size; omega) (by have := HA.len.out; have := (IV.vld oa).2; omega)
    have TY := fun (u : World) (hu : Below w20.heap.size w20 u) => intOf_any u w.heap.size b.neg b.A b.n b.c b.xs (HB.below hu (by omega)) (by have := hu.size; omega) (by have := HB.len.out; have := (IV.vld ob).2; omega)
    have HS := Lib.hid (fun (u : World) (hu : Below w20.heap.size w20 u) => (⟨hu, (PA.below hu PA.lt).c0, (PA.below hu PA.lt).c1, (PB.below hu PB.lt).c0, (PB.below hu PB.lt).c1⟩ : Below w20.heap.size w20 u ∧ u.cell? ⟨w.heap.size, 0, none⟩ = some (.bool false) ∧ u.cell? ⟨w.heap.size, 1, none⟩ = some (.slice a.A a.n a.c) ∧ u.cell? ⟨w.heap.size + 1, 0, none⟩ = some (.bool b.neg) ∧ u.cell? ⟨w.heap.size + 1, 1, none⟩ = some (.slice b.A b.n b.c)))
    have HV := Lib.hid (show 0 < vb 4294967296 b.xs from rep_pos4' (⟨HB.lim, rfl, (vld_top (IV.vld ob).1).1⟩ : Rep 4294967296 b.xs (vb 4294967296 b.xs)) HB.len.out h0)
    have SA := Lib.hid (show a.val.natAbs < Top128 by rw [IV.abs]; exact TA.out)
    have SB := Lib.hid (show b.val.natAbs < Top128 by rw [IV.abs]; exact TB.out)
    go_region_held3 (fun u => Below w20.heap.size w20 u ∧ u.cell? ⟨w.heap.size, 0, none⟩ = some (.bool false) ∧ u.cell? ⟨w.heap.size, 1, none⟩ = some (.slice a.A a.n a.c) ∧ u.cell? ⟨w.heap.size + 1, 0, none⟩ = some (.bool b.neg) ∧ u.cell? ⟨w.heap.size + 1, 1, none⟩ = some (.slice b.A b.n b.c))
      (first | with_reducible exact HS.out _ G0 | with_reducible exact HS.out _ HBF | with_reducible exact HS.out _ HBQ | with_reducible exact HS.out _ HBP | (refine HS.out _ ?_; (repeat (first | with_reducible exact G0 | with_reducible exact HBF | with_reducible exact HBQ | with_reducible exact HBP | with_reducible exact Below.refl _ _ | with_reducible refine Below.drew ?_ | with_reducible refine Below.alloc ?_ (by first | (simp; done) | (have := HBF.size; simp; omega) | (have := HBQ.size; simp; omega) | (have := HBP.size; simp; omega)) _ | with_reducible refine Below.setCell ?_ (by first | (simp; done) | (have := HBF.size; simp; omega) | (have := HBQ.size; simp; omega) | (have := HBP.size; simp; omega)) _)); done) | fail)
      (first
        | (go_at_call 27; (with_reducible refine (TX _ ?_).mono ?_); (repeat (first | with_reducible exact G0 | with_reducible exact HBF | with_reducible exact HBQ | with_reducible exact HBP | with_reducible exact Below.refl _ _ | with_reducible refine Below.drew ?_ | with_reducible refine Below.alloc ?_ (by first | (simp; done) | (have := HBF.size; simp; omega) | (have := HBQ.size; simp; omega) | (have := HBP.size; simp; omega)) _ | with_reducible refine Below.setCell ?_ (by first | (simp; done) | (have := HBF.size; simp; omega) | (have := HBQ.size; simp; omega) | (have := HBP.size; simp; omega)) _)); rintro e wp ⟨mp, Ap, kp, cp, xp, vp, rfl, hdp, hrp, hvp, hbp⟩; have HBP : Below w20.heap.size w20 wp := (by refine bnext ?_ hbp; (repeat (first | with_reducible exact G0 | with_reducible exact HBF | with_reducible exact HBQ | with_reducible exact HBP | with_reducible exact Below.refl _ _ | with_reducible refine Below.drew ?_ | with_reducible refine Below.alloc ?_ (by first | (simp; done) | (have := HBF.size; simp; omega) | (have := HBQ.size; simp; omega) | (have := HBP.size; simp; omega)) _ | with_reducible refine Below.setCell ?_ (by first | (simp; done) | (have := HBF.size; simp; omega) | (have := HBQ.size; simp; omega) | (have := HBP.size; simp; omega)) _))); have KP := len512 hrp hdp.len.out (top_sq (by have := abs_sval (show sval mp vp = a.val by rw [show a.val = sval a.neg (vb 4294967296 a.xs) from rfl, hs.out]; exact hvp); have := SA.out; omega)); have RP := Lib.hid hrp; have VP := Lib.hid (show sval mp vp = a.val by rw [show a.val = sval a.neg (vb 4294967296 a.xs) from rfl, hs.out]; exact hvp); clear hrp hvp; (first | (have q1 : Bk2 wp (w20.heap.size) (.bool false) (.slice none 0 0) := Bk2.next (Bk2.drew (Bk2.new w20 _ _ _)) hbp; obtain ⟨_, _, _, _, _⟩ := id q1) | (have q1 : Bk2 wp (w20.heap.size) (.bool false) (.slice none 0 0) := Bk2.next (Bk2.drew (Bk2.alloc (Bk2.new w20 _ _ _) _)) hbp; obtain ⟨_, _, _, _, _⟩ := id q1) | skip); (first | (have q2 : Bk2 wp (w20.heap.size + 1) (.bool false) (.slice none 0 0) := Bk2.next (Bk2.drew (Bk2.newAt (w20.alloc _) _ (by simp) _ _ _)) hbp; obtain ⟨_, _, _, _, _⟩ := id q2) | skip))
        | (go_at_call 27; (with_reducible refine (TY _ ?_).mono ?_); (repeat (first | with_reducible exact G0 | with_reducible exact HBF | with_reducible exact HBQ | with_reducible exact HBP | with_reducible exact Below.refl _ _ | with_reducible refine Below.drew ?_ | with_reducible refine Below.alloc ?_ (by first | (simp; done) | (have := HBF.size; simp; omega) | (have := HBQ.size; simp; omega) | (have := HBP.size; simp; omega)) _ | with_reducible refine Below.setCell ?_ (by first | (simp; done) | (have := HBF.size; simp; omega) | (have := HBQ.size; simp; omega) | (have := HBP.size; simp; omega)) _)); rintro e wq ⟨mq, Aq, kq, cq, xq, vq, rfl, hdq, hrq, hvq, hbq⟩; have HBQ : Below w20.heap.size w20 wq := (by refine bnext ?_ hbq; (repeat (first | with_reducible exact G0 | with_reducible exact HBF | with_reducible exact HBQ | with_reducible exact HBP | with_reducible exact Below.refl _ _ | with_reducible refine Below.drew ?_ | with_reducible refine Below.alloc ?_ (by first | (simp; done) | (have := HBF.size; simp; omega) | (have := HBQ.size; simp; omega) | (have := HBP.size; simp; omega)) _ | with_reducible refine Below.setCell ?_ (by first | (simp; done) | (have := HBF.size; simp; omega) | (have := HBQ.size; simp; omega) | (have := HBP.size; simp; omega)) _))); have KQ := len512 hrq hdq.len.out (top_sq (by have := abs_sval (show sval mq vq = b.val from hvq); have := SB.out; omega)); have hvv : 0 < vq := (by have := abs_sval (show sval mq vq = b.val from hvq); have e2 := IV.abs b; have := HV.out; omega); have RQ := Lib.hid hrq; have VQ := Lib.hid (show sval mq vq = b.val from hvq); clear hrq hvq; have hdpq : DRd wq wp.heap.size Ap kp cp xp := (by first | exact hdp.below hbq (Nat.le_refl _) | exact (hdp.alloc (Nat.le_refl _) _).below hbq (by first | (simp; done) | (simp; omega) | omega) | exact ((hdp.alloc (Nat.le_refl _) _).alloc (by simp) _).below hbq (by first | (simp; done) | (simp; omega) | omega)); have hsz : wp.heap.size ≤ wq.heap.size := (by have := hbq.size; (try simp at this); omega); (first | (have r1 : Bk2 wq (w20.heap.size) (.bool false) (.slice none 0 0) := Bk2.next q1 hbq; obtain ⟨_, _, _, _, _⟩ := id r1) | (have r1 : Bk2 wq (w20.heap.size) (.bool false) (.slice none 0 0) := Bk2.next (Bk2.alloc q1 _) hbq; obtain ⟨_, _, _, _, _⟩ := id r1) | (have r1 : Bk2 wq (w20.heap.size) (.bool false) (.slice none 0 0) := Bk2.next (Bk2.alloc (Bk2.alloc q1 _) _) hbq; obtain ⟨_, _, _, _, _⟩ := id r1) | skip); (first | (have r2 : Bk2 wq (w20.heap.size + 1) (.bool false) (.slice none 0 0) := Bk2.next q2 hbq; obtain ⟨_, _, _, _, _⟩ := id r2) | (have r2 : Bk2 wq (w20.heap.size + 1) (.bool false) (.slice none 0 0) := Bk2.next (Bk2.alloc q2 _) hbq; obtain ⟨_, _, _, _, _⟩ := id r2) | (have r2 : Bk2 wq (w20.heap.size + 1) (.bool false) (.slice none 0 0) := Bk2.next (Bk2.alloc (Bk2.alloc q2 _) _) hbq; obtain ⟨_, _, _, _, _⟩ := id r2) | skip); (first | (have r3 : Bk2 wq (wp.heap.size) (.bool false) (.slice none 0 0) := Bk2.next (Bk2.new wp _ _ _) hbq; obtain ⟨_, _, _, _, _⟩ := id r3) | (have r3 : Bk2 wq (wp.heap.size) (.bool false) (.slice none 0 0) := Bk2.next (Bk2.alloc (Bk2.new wp _ _ _) _) hbq; obtain ⟨_, _, _, _, _⟩ := id r3) | skip); (first | (have r4 : Bk2 wq (wp.heap.size + 1) (.bool false) (.slice none 0 0) := Bk2.next (Bk2.newAt (wp.alloc _) _ (by simp) _ _ _) hbq; obtain ⟨_, _, _, _, _⟩ := id r4) | skip))
        | (go_at_call 43; (with_reducible refine (floorD_any _ wq.heap.size mp mq Ap Aq kp kq cp cq vp vq xp xq ?_ ?_ ?_ RP.out RQ.out hvv KP KQ).mono ?_); ((first | with_reducible exact (hdpq.more hsz) | with_reducible exact DRd.alloc (hdpq.more hsz) (Nat.le_refl _) _ | with_reducible exact DRd.alloc (DRd.alloc (hdpq.more hsz) (Nat.le_refl _) _) (by simp) _)); ((first | with_reducible exact hdq | with_reducible exact DRd.alloc hdq (Nat.le_refl _) _ | with_reducible exact DRd.alloc (DRd.alloc hdq (Nat.le_refl _) _) (by simp) _)); (first | with_reducible exact Nat.le_refl _ | with_reducible exact le_al1 _ _ | with_reducible exact le_al2 _ _ _); rintro e wf ⟨mx, Ax, kx, cx, xx, vx, my, Ay, ky, cy, xy, vy, q8, r8, rfl, hdx, hrx, hvx, hdy, hry, hvy, hfl8, hbf⟩; have HBF : Below w20.heap.size w20 wf := (by first | exact bnext HBQ hbf | exact bnext (Below.alloc HBQ (by first | (simp; done) | (have := HBQ.size; simp; omega)) _) hbf | exact bnext (Below.alloc (Below.alloc HBQ (by first | (simp; done) | (have := HBQ.size; simp; omega)) _) (by first | (simp; done) | (have := HBQ.size; simp; omega)) _) hbf); rw [VP.out, VQ.out] at hfl8; obtain ⟨e81, e82⟩ := FL.out.uniq hfl8; have RX := Lib.hid hrx; have VX := Lib.hid (hvx.trans e81.symm); have RY := Lib.hid hry; have VY := Lib.hid (hvy.trans e82.symm); clear hrx hvx hry hvy hfl8 e81 e82; (first | (have t1 : Bk2 wf (w20.heap.size) (.bool false) (.slice none 0 0) := Bk2.next r1 hbf; obtain ⟨_, _, _, _, _⟩ := id t1) | (have t1 : Bk2 wf (w20.heap.size) (.bool false) (.slice none 0 0) := Bk2.next (Bk2.alloc r1 _) hbf; obtain ⟨_, _, _, _, _⟩ := id t1) | (have t1 : Bk2 wf (w20.heap.size) (.bool false) (.slice none 0 0) := Bk2.next (Bk2.alloc (Bk2.alloc r1 _) _) hbf; obtain ⟨_, _, _, _, _⟩ := id t1) | skip); (first | (have t2 : Bk2 wf (w20.heap.size + 1) (.bool false) (.slice none 0 0) := Bk2.next r2 hbf; obtain ⟨_, _, _, _, _⟩ := id t2) | (have t2 : Bk2 wf (w20.heap.size + 1) (.bool false) (.slice none 0 0) := Bk2.next (Bk2.alloc r2 _) hbf; obtain ⟨_, _, _, _, _⟩ := id t2) | (have t2 : Bk2 wf (w20.heap.size + 1) (.bool false) (.slice none 0 0) := Bk2.next (Bk2.alloc (Bk2.alloc r2 _) _) hbf; obtain ⟨_, _, _, _, _⟩ := id t2) | skip); (first | (have t3 : Bk2 wf (wp.heap.size) (.bool false) (.slice none 0 0) := Bk2.next r3 hbf; obtain ⟨_, _, _, _, _⟩ := id t3) | (have t3 : Bk2 wf (wp.heap.size) (.bool false) (.slice none 0 0) := Bk2.next (Bk2.alloc r3 _) hbf; obtain ⟨_, _, _, _, _⟩ := id t3) | (have t3 : Bk2 wf (wp.heap.size) (.bool false) (.slice none 0 0) := Bk2.next (Bk2.alloc (Bk2.alloc r3 _) _) hbf; obtain ⟨_, _, _, _, _⟩ := id t3) | skip); (first | (have t4 : Bk2 wf (wp.heap.size + 1) (.bool false) (.slice none 0 0) := Bk2.next r4 hbf; obtain ⟨_, _, _, _, _⟩ := id t4) | (have t4 : Bk2 wf (wp.heap.size + 1) (.bool false) (.slice none 0 0) := Bk2.next (Bk2.alloc r4 _) hbf; obtain ⟨_, _, _, _, _⟩ := id t4) | (have t4 : Bk2 wf (wp.heap.size + 1) (.bool false) (.slice none 0 0) := Bk2.next (Bk2.alloc (Bk2.alloc r4 _) _) hbf; obtain ⟨_, _, _, _, _⟩ := id t4) | skip); (first | (have t5 : Bk2 wf (wq.heap.size) (.bool false) (.slice none 0 0) := Bk2.next (Bk2.new wq _ _ _) hbf; obtain ⟨_, _, _, _, _⟩ := id t5) | (have t5 : Bk2 wf (wq.heap.size) (.bool false) (.slice none 0 0) := Bk2.next (Bk2.alloc (Bk2.new wq _ _ _) _) hbf; obtain ⟨_, _, _, _, _⟩ := id t5) | skip); (first | (have t6 : Bk2 wf (wq.heap.size + 1) (.bool false) (.slice none 0 0) := Bk2.next (Bk2.newAt (wq.alloc _) _ (by simp) _ _ _) hbf; obtain ⟨_, _, _, _, _⟩ := id t6) | skip))
        | fail)
    all_goals (go_wp2_with fail)
    all_goals
      go_meet
      refine ⟨_, _, mx, Ax, kx, cx, xx, vx, my, Ay, ky, cy, xy, vy, rfl, rfl, ?_, ?_, ?_, RX, VX, ?_, RY, VY, ?_⟩
      · (repeat (first | with_reducible exact Bk2.newAt _ _ (by first | rfl | (simp; done)) _ _ _ | with_reducible refine Bk2.alloc ?_ _ | with_reducible refine Bk2.set (u := .bool false) (v := .slice none 0 0) ?_ _ _ | with_reducible refine Bk2.far2 ?_ (by omega) _ _ | with_reducible exact t1 | with_reducible exact t2 | with_reducible exact t3 | with_reducible exact t4 | with_reducible exact t5 | with_reducible exact t6))
      · (repeat (first | with_reducible exact Bk2.newAt _ _ (by first | rfl | (simp; done)) _ _ _ | with_reducible refine Bk2.alloc ?_ _ | with_reducible refine Bk2.set (u := .bool false) (v := .slice none 0 0) ?_ _ _ | with_reducible refine Bk2.far2 ?_ (by omega) _ _ | with_reducible exact t1 | with_reducible exact t2 | with_reducible exact t3 | with_reducible exact t4 | with_reducible exact t5 | with_reducible exact t6))
      · (with_reducible refine DRd.more (B := wf.heap.size) ?_ (by first | (simp; done) | (have := HBF.size; simp; omega) | (have := HBQ.size; simp; omega) | (have := hbq.size; simp at this; simp; omega) | omega)); (repeat (first | with_reducible exact hdx | with_reducible refine DRd.alloc ?_ (by first | (simp; done) | (have := HBF.size; simp; omega) | (have := HBQ.size; simp; omega) | (have := hbq.size; simp at this; simp; omega) | omega) _ | with_reducible refine DRd.setBD ?_ t1 (by simp) (by simp) _ _ | with_reducible refine DRd.setBD ?_ (t1.far2 (by omega) _ _) (by simp) (by simp) _ _ | with_reducible refine DRd.setBD ?_ t2 (by simp) (by simp) _ _ | with_reducible refine DRd.setBD ?_ (t2.far2 (by omega) _ _) (by simp) (by simp) _ _ | with_reducible refine DRd.setBD ?_ t3 (by simp) (by simp) _ _ | with_reducible refine DRd.setBD ?_ (t3.far2 (by omega) _ _) (by simp) (by simp) _ _ | with_reducible refine DRd.setBD ?_ t4 (by simp) (by simp) _ _ | with_reducible refine DRd.setBD ?_ (t4.far2 (by omega) _ _) (by simp) (by simp) _ _ | with_reducible refine DRd.setBD ?_ t5 (by simp) (by simp) _ _ | with_reducible refine DRd.setBD ?_ (t5.far2 (by omega) _ _) (by simp) (by simp) _ _ | with_reducible refine DRd.setBD ?_ t6 (by simp) (by simp) _ _ | with_reducible refine DRd.setBD ?_ (t6.far2 (by omega) _ _) (by simp) (by simp) _ _ | with_reducible refine DRd.setFar2 ?_ (by first | (simp; done) | (have := HBF.size; simp; omega) | (have := HBQ.size; simp; omega) | (have := hbq.size; simp at this; simp; omega) | omega) _ _))
      · (with_reducible refine DRd.more (B := wf.heap.size) ?_ (by first | (simp; done) | (have := HBF.size; simp; omega) | (have := HBQ.size; simp; omega) | (have := hbq.size; simp at this; simp; omega) | omega)); (repeat (first | with_reducible exact hdy | with_reducible refine DRd.alloc ?_ (by first | (simp; done) | (have := HBF.size; simp; omega) | (have := HBQ.size; simp; omega) | (have := hbq.size; simp at this; simp; omega) | omega) _ | with_reducible refine DRd.setBD ?_ t1 (by simp) (by simp) _ _ | with_reducible refine DRd.setBD ?_ (t1.far2 (by omega) _ _) (by simp) (by simp) _ _ | with_reducible refine DRd.setBD ?_ t2 (by simp) (by simp) _ _ | with_reducible refine DRd.setBD ?_ (t2.far2 (by omega) _ _) (by simp) (by simp) _ _ | with_reducible refine DRd.setBD ?_ t3 (by simp) (by simp) _ _ | with_reducible refine DRd.setBD ?_ (t3.far2 (by omega) _ _) (by simp) (by simp) _ _ | with_reducible refine DRd.setBD ?_ t4 (by simp) (by simp) _ _ | with_reducible refine DRd.setBD ?_ (t4.far2 (by omega) _ _) (by simp) (by simp) _ _ | with_reducible refine DRd.setBD ?_ t5 (by simp) (by simp) _ _ | with_reducible refine DRd.setBD ?_ (t5.far2 (by omega) _ _) (by simp) (by simp) _ _ | with_reducible refine DRd.setBD ?_ t6 (by simp) (by simp) _ _ | with_reducible refine DRd.setBD ?_ (t6.far2 (by omega) _ _) (by simp) (by simp) _ _ | with_reducible refine DRd.setFar2 ?_ (by first | (simp; done) | (have := HBF.size; simp; omega) | (have := HBQ.size; simp; omega) | (have := hbq.size; simp at this; simp; omega) | omega) _ _))
      · (repeat (first | with_reducible exact G0 | with_reducible exact HBF | with_reducible exact HBQ | with_reducible exact HBP | with_reducible exact Below.refl _ _ | with_reducible refine Below.drew ?_ | with_reducible refine Below.alloc ?_ (by first | (simp; done) | (have := HBF.size; simp; omega) | (have := HBQ.size; simp; omega) | (have := HBP.size; simp; omega)) _ | with_reducible refine Below.setCell ?_ (by first | (simp; done) | (have := HBF.size; simp; omega) | (have := HBQ.size; simp; omega) | (have := HBP.size; simp; omega)) _))
  case rest =>
  obtain ⟨g1, g2, m1, A1, k1, c1, x1, v1, m2, A2, k2, c2, x2, v2, rfl, rfl, P13, P14, hd1, R1, V1, hd2, R2, V2, hbX⟩ := hcut
  have sX := hbX.size
  replace E : Below w.heap.size w wc := E.trans (hbX.mono E.size)
  replace HA : LRd wc (w.heap.size) a.A a.n a.c a.xs := HA.below hbX (by omega)
  replace HB : LRd wc (w.heap.size) b.A b.n b.c b.xs := HB.below hbX (by omega)
  replace PA : Bk2 wc (w.heap.size) (.bool false) (.slice a.A a.n a.c) := PA.below hbX PA.lt
  replace PB : Bk2 wc (w.heap.size + 1) (.bool b.neg) (.slice b.A b.n b.c) := PB.below hbX PB.lt
  replace hl6 : LRd wc (w6.heap.size) A6 k6 c6 x6 := hl6.below hbX (by omega)
  replace hl7 : LRd wc (w6.heap.size) A7 k7 c7 x7 := hl7.below hbX (by omega)
  replace P6 : Bk2 wc (w6.heap.size) (.bool n6) (.slice A6 k6 c6) := P6.below hbX P6.lt
  replace P7 : Bk2 wc (w6.heap.size + 1) (.bool n7) (.slice A7 k7 c7) := P7.below hbX P7.lt
  replace F8 : Bk2 wc (w6.heap.size + 2) (.int .i64 0) (.int .i64 0) := F8.below hbX F8.lt
  replace hl9 : LRd wc (w9.heap.size) A9 k9 c9 x9 := hl9.below hbX (by omega)
  replace hl11 : LRd wc (w11.heap.size) A11 k11 c11 x11 := hl11.below hbX (by omega)
  clear hbX
  have TQ := Lib.hid (show q.natAbs ≤ Top128 from floor_q FL.out (by rw [IV.abs]; exact TA.out))
  have TR := Lib.hid (show r.natAbs < Top128 from floor_r FL.out (by rw [IV.abs]; exact TB.out))
  have L1 := len512 R1.out hd1.len.out (top_sq (by have := abs_sval V1.out; have := TQ.out; have := top_i64; omega))
  have L2 := len512 R2.out hd2.len.out (top_sq (by have := abs_sval V2.out; have := TR.out; omega))
  have t_F80 : wc.cell? ⟨w6.heap.size + 2, 0, none⟩ = some ((.int .i64 0)) := F8.c0
  have t_F81 : wc.cell? ⟨w6.heap.size + 2, 1, none⟩ = some ((.int .i64 0)) := F8.c1
  have t_P60 : wc.cell? ⟨w6.heap.size, 0, none⟩ = some ((.bool n6)) := P6.c0
  have t_P61 : wc.cell? ⟨w6.heap.size, 1, none⟩ = some ((.slice A6 k6 c6)) := P6.c1
  have t_P130 : wc.cell? ⟨g1, 0, none⟩ = some ((.bool m1)) := P13.c0
  have t_P131 : wc.cell? ⟨g1, 1, none⟩ = some ((.slice A1 k1 c1)) := P13.c1
  go_wp2_with fail
  clear t_F80 t_F81 t_P60 t_P61 t_P130 t_P131
  (with_reducible refine (sameInt_any _ _ n6 m1 A6 A1 k6 k1 c6 c1 v1 q x6 x1 (hl6.more (by omega)) hd1 (by omega) I6.out R1.out V1.out L1).mono ?_)
  rintro e w30 ⟨rfl, hb30⟩
  have sw30 := hb30.size
  replace E : Below w.heap.size w w30 := E.trans (hb30.mono E.size)
  replace HA : LRd w30 (w.heap.size) a.A a.n a.c a.xs := HA.below hb30 (by omega)
  replace HB : LRd w30 (w.heap.size) b.A b.n b.c b.xs := HB.below hb30 (by omega)
  replace PA : Bk2 w30 (w.heap.size) (.bool false) (.slice a.A a.n a.c) := PA.below hb30 PA.lt
  replace PB : Bk2 w30 (w.heap.size + 1) (.bool b.neg) (.slice b.A b.n b.c) := PB.below hb30 PB.lt
  replace hl6 : LRd w30 (w6.heap.size) A6 k6 c6 x6 := hl6.below hb30 (by omega)
  replace hl7 : LRd w30 (w6.heap.size) A7 k7 c7 x7 := hl7.below hb30 (by omega)
  replace P6 : Bk2 w30 (w6.heap.size) (.bool n6) (.slice A6 k6 c6) := P6.below hb30 P6.lt
  replace P7 : Bk2 w30 (w6.heap.size + 1) (.bool n7) (.slice A7 k7 c7) := P7.below hb30 P7.lt
  replace F8 : Bk2 w30 (w6.heap.size + 2) (.int .i64 0) (.int .i64 0) := F8.below hb30 F8.lt
  replace hl9 : LRd w30 (w9.heap.size) A9 k9 c9 x9 := hl9.below hb30 (by omega)
  replace hl11 : LRd w30 (w11.heap.size) A11 k11 c11 x11 := hl11.below hb30 (by omega)
  replace P13 : Bk2 w30 (g1) (.bool m1) (.slice A1 k1 c1) := P13.below hb30 P13.lt
  replace P14 : Bk2 w30 (g2) (.bool m2) (.slice A2 k2 c2) := P14.below hb30 P14.lt
  replace hd1 : DRd w30 (wc.heap.size) A1 k1 c1 x1 := hd1.below hb30 (by omega)
  replace hd2 : DRd w30 (wc.heap.size) A2 k2 c2 x2 := hd2.below hb30 (by omega)
  clear hb30
  have t_P70 : w30.cell? ⟨w6.heap.size + 1, 0, none⟩ = some ((.bool n7)) := P7.c0
  have t_P71 : w30.cell? ⟨w6.heap.size + 1, 1, none⟩ = some ((.slice A7 k7 c7)) := P7.c1
  have t_P140 : w30.cell? ⟨g2, 0, none⟩ = some ((.bool m2)) := P14.c0
  have t_P141 : w30.cell? ⟨g2, 1, none⟩ = some ((.slice A2 k2 c2)) := P14.c1
  go_wp2_with fail
  clear t_P70 t_P71 t_P140 t_P141
  (with_reducible refine (sameInt_any _ _ n7 m2 A7 A2 k7 k2 c7 c2 v2 r x7 x2 (hl7.more (by omega)) hd2 (by omega) I7.out R2.out V2.out L2).mono ?_)
  rintro e w31 ⟨rfl, hb31⟩
  have sw31 := hb31.size
  replace E : Below w.heap.size w w31 := E.trans (hb31.mono E.size)
  replace HA : LRd w31 (w.heap.size) a.A a.n a.c a.xs := HA.below hb31 (by omega)
  replace HB : LRd w31 (w.heap.size) b.A b.n b.c b.xs := HB.below hb31 (by omega)
  replace PA : Bk2 w31 (w.heap.size) (.bool false) (.slice a.A a.n a.c) := PA.below hb31 PA.lt
  replace PB : Bk2 w31 (w.heap.size + 1) (.bool b.neg) (.slice b.A b.n b.c) := PB.below hb31 PB.lt
  replace hl6 : LRd w31 (w6.heap.size) A6 k6 c6 x6 := hl6.below hb31 (by omega)
  replace hl7 : LRd w31 (w6.heap.size) A7 k7 c7 x7 := hl7.below hb31 (by omega)
  replace P6 : Bk2 w31 (w6.heap.size) (.bool n6) (.slice A6 k6 c6) := P6.below hb31 P6.lt
  replace P7 : Bk2 w31 (w6.heap.size + 1) (.bool n7) (.slice A7 k7 c7) := P7.below hb31 P7.lt
  replace F8 : Bk2 w31 (w6.heap.size + 2) (.int .i64 0) (.int .i64 0) := F8.below hb31 F8.lt
  replace hl9 : LRd w31 (w9.heap.size) A9 k9 c9 x9 := hl9.below hb31 (by omega)
  replace hl11 : LRd w31 (w11.heap.size) A11 k11 c11 x11 := hl11.below hb31 (by omega)
  replace P13 : Bk2 w31 (g1) (.bool m1) (.slice A1 k1 c1) := P13.below hb31 P13.lt
  replace P14 : Bk2 w31 (g2) (.bool m2) (.slice A2 k2 c2) := P14.below hb31 P14.lt
  replace hd1 : DRd w31 (wc.heap.size) A1 k1 c1 x1 := hd1.below hb31 (by omega)
  replace hd2 : DRd w31 (wc.heap.size) A2 k2 c2 x2 := hd2.below hb31 (by omega)
  clear hb31
  go_wp2_with fail
  go_ret
  exact ⟨by first | rfl | (simp; done), E⟩
end Go.Proofs.Ytpidkionieaffaa
