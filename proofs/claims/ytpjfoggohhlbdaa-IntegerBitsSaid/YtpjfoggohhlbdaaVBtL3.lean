/- IntegerBits: the law, both integers good (big). -/
import Derived.Test.YtpjfoggohhlbdaaVBitA
import Derived.Deep.RegionHeld3
import Derived.Deep.DeepCutAuto
namespace Go.Proofs.Ytpjfoggohhlbdaa
open Go.RowKit
set_option maxHeartbeats 400000
set_option maxRecDepth 100000
set_option linter.unusedSimpArgs false
set_option linter.unusedVariables false

set_option maxHeartbeats 16000000 in
theorem bts_bb (w : World) (a b : IV) (i : Int) (i1 : -9223372036854775808 ≤ i) (i2 : i ≤ 9223372036854775807) (HA : a.at w w.heap.size) (HB : b.at w w.heap.size) (oa : a.ok = true) (ob : b.ok = true) (VZ0 : Hid (¬ vb 4294967296 a.xs = 0)) (hi : 4096 < i) :
    Calls Try.prog 7 #[a.v, b.v, .int .i64 i] w (fun e w' => e = .returned (.bool true) ∧ Below w.heap.size w w') := by
  replace HA : LRd w w.heap.size a.A a.n a.c a.xs := HA
  replace HB : LRd w w.heap.size b.A b.n b.c b.xs := HB
  have VA : ivld a.neg a.xs = true := oa
  have hna : a.n ≤ 100000 := by have := (IV.vld oa).2; have := HA.len.out; omega
  have LTA := Lib.hid (ok_lt oa HA.lim)
  have NEGA := Lib.hid (ok_neg oa HA.lim)
  have AV := Lib.hid (show sval a.neg (vb 4294967296 a.xs) = a.val from rfl)
  have SQ0 := Lib.hid (show (-1 : Int).natAbs < Top128 * Top128 from sq_of (by have := top_4; show 1 ≤ _; omega))
  have SQ1 := Lib.hid (show (-sval a.neg (vb 4294967296 a.xs)).natAbs < Top128 * Top128 from sq_of (by have := LTA.out; rw [Int.natAbs_neg, sval_abs]; omega))
  have SQ2 := Lib.hid (show (-a.val - 1).natAbs < Top128 * Top128 from sq_of (by have h1 := LTA.out; have h2 := sval_abs a.neg (vb 4294967296 a.xs); rw [AV.out] at h2; omega))
  have hi' : 4096 < i := hi
  have SB := Lib.hid (show Top128 ≤ (zshift a.val i).natAbs from shift_big (fun e => VZ0.out (by have h2 := sval_abs a.neg (vb 4294967296 a.xs); rw [AV.out, e] at h2; exact h2.symm)) hi)
  have hf : ffault [a, b] 0 = (0, 0) := two_ok oa ob
  have hnb : b.n ≤ 100000 := by have := (IV.vld ob).2; have := HB.len.out; omega
  have LTB := Lib.hid (ok_lt ob HB.lim)
  have HIA := Lib.hid (show ∃ s, ∀ j, 4096 ≤ j → zbit a.val j = s from ⟨a.neg, fun j hj => val_high oa HA.lim (N := 128) (by have := (IV.vld oa).2; omega) (by omega)⟩)
  have HIB := Lib.hid (show ∃ s, ∀ j, 4096 ≤ j → zbit b.val j = s from ⟨b.neg, fun j hj => val_high ob HB.lim (N := 128) (by have := (IV.vld ob).2; omega) (by omega)⟩)
  have E : Below w.heap.size w w := Below.refl _ _
  have IR := Lib.hid (irow2 ((w.alloc a.cells).alloc b.cells) w.heap.size a b ((HA.alloc (Nat.le_refl _) _).alloc (by simp) _) ((HB.alloc (Nat.le_refl _) _).alloc (by simp) _) (by simp; omega))
  go_enter Try.func7, Try.ntmps7
  go_wp2_with fail
  obtain ⟨V0, hV0⟩ : ∃ V0 : World, V0 = (((w.alloc (.cells #[.bool a.neg, .slice a.A a.n a.c] 24)).alloc (.cells #[.bool b.neg, .slice b.A b.n b.c] 24)).alloc (.cells #[.bool a.neg, .slice a.A a.n a.c, .bool b.neg, .slice b.A b.n b.c] 24)) := ⟨_, rfl⟩
  have bV0 : Below w.heap.size w V0 := by rw [hV0]; (repeat (first | with_reducible exact Below.refl _ _ | with_reducible refine Below.drew ?_ | with_reducible refine below_drewN ?_ _ | with_reducible refine Below.setCell ?_ (by first | (simp; done) | (simp; omega) | omega) _ | with_reducible refine Below.alloc ?_ (by first | (simp; done) | (simp; omega) | omega) _))
  have zV0 : w.heap.size + 3 ≤ V0.heap.size := by rw [hV0]; simp
  have PA : Bk2 V0 (w.heap.size) (.bool a.neg) (.slice a.A a.n a.c) := by rw [hV0]; exact (((Bk2.newAt _ _ (by simp) _ _ _).alloc _).alloc _)
  have PB : Bk2 V0 (w.heap.size + 1) (.bool b.neg) (.slice b.A b.n b.c) := by rw [hV0]; exact ((Bk2.newAt _ _ (by simp) _ _ _).alloc _)
  replace IR : Hid (IRow V0 w.heap.size (w.heap.size + 2) [a, b]) := by have h9 := IR.out; rw [hV0]; rw [show ((w.alloc a.cells).alloc b.cells).heap.size = w.heap.size + 2 by simp] at h9; exact h9
  rw [← hV0]
  clear hV0
  replace E : Below w.heap.size w V0 := E.trans (bV0.mono E.size)
  replace HA : LRd V0 (w.heap.size) a.A a.n a.c a.xs := HA.below bV0 (by omega)
  replace HB : LRd V0 (w.heap.size) b.A b.n b.c b.xs := HB.below bV0 (by omega)
  clear bV0
  (with_reducible refine (faults_any _ w.heap.size (w.heap.size + 2) 2 [a, b] IR.out rfl (by omega) (by omega)).mono ?_)
  rintro e w1 ⟨rfl, hb1⟩
  have sw1 := hb1.size
  replace E : Below w.heap.size w w1 := E.trans (hb1.mono E.size)
  replace HA : LRd w1 (w.heap.size) a.A a.n a.c a.xs := HA.below hb1 (by omega)
  replace HB : LRd w1 (w.heap.size) b.A b.n b.c b.xs := HB.below hb1 (by omega)
  replace PA : Bk2 w1 (w.heap.size) (.bool a.neg) (.slice a.A a.n a.c) := PA.below hb1 PA.lt
  replace PB : Bk2 w1 (w.heap.size + 1) (.bool b.neg) (.slice b.A b.n b.c) := PB.below hb1 PB.lt
  clear hb1
  rw [hf]
  clear IR
  have t_PA0 : (w1.alloc (.cells #[.int .i64 0, .int .i64 0] 26)).cell? ⟨w.heap.size, 0, none⟩ = some ((.bool a.neg)) := (PA.alloc _).c0
  have t_PA1 : (w1.alloc (.cells #[.int .i64 0, .int .i64 0] 26)).cell? ⟨w.heap.size, 1, none⟩ = some ((.slice a.A a.n a.c)) := (PA.alloc _).c1
  have t_PB0 : (w1.alloc (.cells #[.int .i64 0, .int .i64 0] 26)).cell? ⟨w.heap.size + 1, 0, none⟩ = some ((.bool b.neg)) := (PB.alloc _).c0
  have t_PB1 : (w1.alloc (.cells #[.int .i64 0, .int .i64 0] 26)).cell? ⟨w.heap.size + 1, 1, none⟩ = some ((.slice b.A b.n b.c)) := (PB.alloc _).c1
  go_wp2_with fail
  clear t_PA0 t_PA1 t_PB0 t_PB1
  obtain ⟨V1, hV1⟩ : ∃ V1 : World, V1 = (w1.alloc (.cells #[.int .i64 0, .int .i64 0] 26)) := ⟨_, rfl⟩
  have bV1 : Below w1.heap.size w1 V1 := by rw [hV1]; (repeat (first | with_reducible exact Below.refl _ _ | with_reducible refine Below.drew ?_ | with_reducible refine below_drewN ?_ _ | with_reducible refine Below.setCell ?_ (by first | (simp; done) | (simp; omega) | omega) _ | with_reducible refine Below.alloc ?_ (by first | (simp; done) | (simp; omega) | omega) _))
  have zV1 : w1.heap.size + 1 ≤ V1.heap.size := by rw [hV1]; simp
  have F7 : Bk2 V1 (w1.heap.size) (.int .i64 0) (.int .i64 0) := by rw [hV1]; exact (Bk2.newAt _ _ (by simp) _ _ _)
  rw [← hV1]
  clear hV1
  replace E : Below w.heap.size w V1 := E.trans (bV1.mono E.size)
  replace HA : LRd V1 (w.heap.size) a.A a.n a.c a.xs := HA.below bV1 (by omega)
  replace HB : LRd V1 (w.heap.size) b.A b.n b.c b.xs := HB.below bV1 (by omega)
  replace PA : Bk2 V1 (w.heap.size) (.bool a.neg) (.slice a.A a.n a.c) := PA.below bV1 PA.lt
  replace PB : Bk2 V1 (w.heap.size + 1) (.bool b.neg) (.slice b.A b.n b.c) := PB.below bV1 PB.lt
  clear bV1
  refine (iand_ok _ w.heap.size a b HA HB (by omega) oa ob).mono ?_
  rintro e w8 ⟨y8, hz8, hv⟩
  have Z8 := Lib.hid hz8
  clear hz8
  obtain ⟨z8, f8, g8, hy8, m8, A8, k8, c8, x8, rfl, hl8, hr8, hb8⟩ := vl_yr hv
  clear hv
  have R8 := Lib.hid hr8
  have Y8 := Lib.hid hy8
  have sw8 := hb8.size
  clear hr8 hy8
  replace E : Below w.heap.size w w8 := E.trans (hb8.mono E.size)
  replace HA : LRd w8 (w.heap.size) a.A a.n a.c a.xs := HA.below hb8 (by omega)
  replace HB : LRd w8 (w.heap.size) b.A b.n b.c b.xs := HB.below hb8 (by omega)
  replace PA : Bk2 w8 (w.heap.size) (.bool a.neg) (.slice a.A a.n a.c) := PA.below hb8 PA.lt
  replace PB : Bk2 w8 (w.heap.size + 1) (.bool b.neg) (.slice b.A b.n b.c) := PB.below hb8 PB.lt
  replace F7 : Bk2 w8 (w1.heap.size) (.int .i64 0) (.int .i64 0) := F7.below hb8 F7.lt
  clear hb8
  have t_PA0 : ((w8.alloc (.cells #[.bool m8, .slice A8 k8 c8] 24)).alloc (.cells #[.int .i64 f8, .int .i64 g8] 26)).cell? ⟨w.heap.size, 0, none⟩ = some ((.bool a.neg)) := ((PA.alloc _).alloc _).c0
  have t_PA1 : ((w8.alloc (.cells #[.bool m8, .slice A8 k8 c8] 24)).alloc (.cells #[.int .i64 f8, .int .i64 g8] 26)).cell? ⟨w.heap.size, 1, none⟩ = some ((.slice a.A a.n a.c)) := ((PA.alloc _).alloc _).c1
  have t_PB0 : ((w8.alloc (.cells #[.bool m8, .slice A8 k8 c8] 24)).alloc (.cells #[.int .i64 f8, .int .i64 g8] 26)).cell? ⟨w.heap.size + 1, 0, none⟩ = some ((.bool b.neg)) := ((PB.alloc _).alloc _).c0
  have t_PB1 : ((w8.alloc (.cells #[.bool m8, .slice A8 k8 c8] 24)).alloc (.cells #[.int .i64 f8, .int .i64 g8] 26)).cell? ⟨w.heap.size + 1, 1, none⟩ = some ((.slice b.A b.n b.c)) := ((PB.alloc _).alloc _).c1
  go_wp2_with fail
  clear t_PA0 t_PA1 t_PB0 t_PB1
  obtain ⟨V2, hV2⟩ : ∃ V2 : World, V2 = ((w8.alloc (.cells #[.bool m8, .slice A8 k8 c8] 24)).alloc (.cells #[.int .i64 f8, .int .i64 g8] 26)) := ⟨_, rfl⟩
  have bV2 : Below w8.heap.size w8 V2 := by rw [hV2]; (repeat (first | with_reducible exact Below.refl _ _ | with_reducible refine Below.drew ?_ | with_reducible refine below_drewN ?_ _ | with_reducible refine Below.setCell ?_ (by first | (simp; done) | (simp; omega) | omega) _ | with_reducible refine Below.alloc ?_ (by first | (simp; done) | (simp; omega) | omega) _))
  have zV2 : w8.heap.size + 2 ≤ V2.heap.size := by rw [hV2]; simp
  have P8 : Bk2 V2 (w8.heap.size) (.bool m8) (.slice A8 k8 c8) := by rw [hV2]; exact ((Bk2.newAt _ _ (by simp) _ _ _).alloc _)
  have F9 : Bk2 V2 (w8.heap.size + 1) (.int .i64 f8) (.int .i64 g8) := by rw [hV2]; exact (Bk2.newAt _ _ (by simp) _ _ _)
  rw [← hV2]
  clear hV2
  replace E : Below w.heap.size w V2 := E.trans (bV2.mono E.size)
  replace HA : LRd V2 (w.heap.size) a.A a.n a.c a.xs := HA.below bV2 (by omega)
  replace HB : LRd V2 (w.heap.size) b.A b.n b.c b.xs := HB.below bV2 (by omega)
  replace PA : Bk2 V2 (w.heap.size) (.bool a.neg) (.slice a.A a.n a.c) := PA.below bV2 PA.lt
  replace PB : Bk2 V2 (w.heap.size + 1) (.bool b.neg) (.slice b.A b.n b.c) := PB.below bV2 PB.lt
  replace F7 : Bk2 V2 (w1.heap.size) (.int .i64 0) (.int .i64 0) := F7.below bV2 F7.lt
  replace hl8 : LRd V2 (w8.heap.size) A8 k8 c8 x8 := hl8.below bV2 (by omega)
  clear bV2
  refine (ior_ok _ w.heap.size a b HA HB (by omega) oa ob).mono ?_
  rintro e w10 ⟨y10, hz10, hv⟩
  have Z10 := Lib.hid hz10
  clear hz10
  obtain ⟨z10, f10, g10, hy10, m10, A10, k10, c10, x10, rfl, hl10, hr10, hb10⟩ := vl_yr hv
  clear hv
  have R10 := Lib.hid hr10
  have Y10 := Lib.hid hy10
  have sw10 := hb10.size
  clear hr10 hy10
  replace E : Below w.heap.size w w10 := E.trans (hb10.mono E.size)
  replace HA : LRd w10 (w.heap.size) a.A a.n a.c a.xs := HA.below hb10 (by omega)
  replace HB : LRd w10 (w.heap.size) b.A b.n b.c b.xs := HB.below hb10 (by omega)
  replace PA : Bk2 w10 (w.heap.size) (.bool a.neg) (.slice a.A a.n a.c) := PA.below hb10 PA.lt
  replace PB : Bk2 w10 (w.heap.size + 1) (.bool b.neg) (.slice b.A b.n b.c) := PB.below hb10 PB.lt
  replace F7 : Bk2 w10 (w1.heap.size) (.int .i64 0) (.int .i64 0) := F7.below hb10 F7.lt
  replace hl8 : LRd w10 (w8.heap.size) A8 k8 c8 x8 := hl8.below hb10 (by omega)
  replace P8 : Bk2 w10 (w8.heap.size) (.bool m8) (.slice A8 k8 c8) := P8.below hb10 P8.lt
  replace F9 : Bk2 w10 (w8.heap.size + 1) (.int .i64 f8) (.int .i64 g8) := F9.below hb10 F9.lt
  clear hb10
  have t_PA0 : ((w10.alloc (.cells #[.bool m10, .slice A10 k10 c10] 24)).alloc (.cells #[.int .i64 f10, .int .i64 g10] 26)).cell? ⟨w.heap.size, 0, none⟩ = some ((.bool a.neg)) := ((PA.alloc _).alloc _).c0
  have t_PA1 : ((w10.alloc (.cells #[.bool m10, .slice A10 k10 c10] 24)).alloc (.cells #[.int .i64 f10, .int .i64 g10] 26)).cell? ⟨w.heap.size, 1, none⟩ = some ((.slice a.A a.n a.c)) := ((PA.alloc _).alloc _).c1
  have t_PB0 : ((w10.alloc (.cells #[.bool m10, .slice A10 k10 c10] 24)).alloc (.cells #[.int .i64 f10, .int .i64 g10] 26)).cell? ⟨w.heap.size + 1, 0, none⟩ = some ((.bool b.neg)) := ((PB.alloc _).alloc _).c0
  have t_PB1 : ((w10.alloc (.cells #[.bool m10, .slice A10 k10 c10] 24)).alloc (.cells #[.int .i64 f10, .int .i64 g10] 26)).cell? ⟨w.heap.size + 1, 1, none⟩ = some ((.slice b.A b.n b.c)) := ((PB.alloc _).alloc _).c1
  go_wp2_with fail
  clear t_PA0 t_PA1 t_PB0 t_PB1
  obtain ⟨V3, hV3⟩ : ∃ V3 : World, V3 = ((w10.alloc (.cells #[.bool m10, .slice A10 k10 c10] 24)).alloc (.cells #[.int .i64 f10, .int .i64 g10] 26)) := ⟨_, rfl⟩
  have bV3 : Below w10.heap.size w10 V3 := by rw [hV3]; (repeat (first | with_reducible exact Below.refl _ _ | with_reducible refine Below.drew ?_ | with_reducible refine below_drewN ?_ _ | with_reducible refine Below.setCell ?_ (by first | (simp; done) | (simp; omega) | omega) _ | with_reducible refine Below.alloc ?_ (by first | (simp; done) | (simp; omega) | omega) _))
  have zV3 : w10.heap.size + 2 ≤ V3.heap.size := by rw [hV3]; simp
  have P10 : Bk2 V3 (w10.heap.size) (.bool m10) (.slice A10 k10 c10) := by rw [hV3]; exact ((Bk2.newAt _ _ (by simp) _ _ _).alloc _)
  have F11 : Bk2 V3 (w10.heap.size + 1) (.int .i64 f10) (.int .i64 g10) := by rw [hV3]; exact (Bk2.newAt _ _ (by simp) _ _ _)
  rw [← hV3]
  clear hV3
  replace E : Below w.heap.size w V3 := E.trans (bV3.mono E.size)
  replace HA : LRd V3 (w.heap.size) a.A a.n a.c a.xs := HA.below bV3 (by omega)
  replace HB : LRd V3 (w.heap.size) b.A b.n b.c b.xs := HB.below bV3 (by omega)
  replace PA : Bk2 V3 (w.heap.size) (.bool a.neg) (.slice a.A a.n a.c) := PA.below bV3 PA.lt
  replace PB : Bk2 V3 (w.heap.size + 1) (.bool b.neg) (.slice b.A b.n b.c) := PB.below bV3 PB.lt
  replace F7 : Bk2 V3 (w1.heap.size) (.int .i64 0) (.int .i64 0) := F7.below bV3 F7.lt
  replace hl8 : LRd V3 (w8.heap.size) A8 k8 c8 x8 := hl8.below bV3 (by omega)
  replace P8 : Bk2 V3 (w8.heap.size) (.bool m8) (.slice A8 k8 c8) := P8.below bV3 P8.lt
  replace F9 : Bk2 V3 (w8.heap.size + 1) (.int .i64 f8) (.int .i64 g8) := F9.below bV3 F9.lt
  replace hl10 : LRd V3 (w10.heap.size) A10 k10 c10 x10 := hl10.below bV3 (by omega)
  clear bV3
  refine (ixor_ok _ w.heap.size a b HA HB (by omega) oa ob).mono ?_
  rintro e w12 ⟨y12, hz12, hv⟩
  have Z12 := Lib.hid hz12
  clear hz12
  obtain ⟨z12, f12, g12, hy12, m12, A12, k12, c12, x12, rfl, hl12, hr12, hb12⟩ := vl_yr hv
  clear hv
  have R12 := Lib.hid hr12
  have Y12 := Lib.hid hy12
  have sw12 := hb12.size
  clear hr12 hy12
  replace E : Below w.heap.size w w12 := E.trans (hb12.mono E.size)
  replace HA : LRd w12 (w.heap.size) a.A a.n a.c a.xs := HA.below hb12 (by omega)
  replace HB : LRd w12 (w.heap.size) b.A b.n b.c b.xs := HB.below hb12 (by omega)
  replace PA : Bk2 w12 (w.heap.size) (.bool a.neg) (.slice a.A a.n a.c) := PA.below hb12 PA.lt
  replace PB : Bk2 w12 (w.heap.size + 1) (.bool b.neg) (.slice b.A b.n b.c) := PB.below hb12 PB.lt
  replace F7 : Bk2 w12 (w1.heap.size) (.int .i64 0) (.int .i64 0) := F7.below hb12 F7.lt
  replace hl8 : LRd w12 (w8.heap.size) A8 k8 c8 x8 := hl8.below hb12 (by omega)
  replace P8 : Bk2 w12 (w8.heap.size) (.bool m8) (.slice A8 k8 c8) := P8.below hb12 P8.lt
  replace F9 : Bk2 w12 (w8.heap.size + 1) (.int .i64 f8) (.int .i64 g8) := F9.below hb12 F9.lt
  replace hl10 : LRd w12 (w10.heap.size) A10 k10 c10 x10 := hl10.below hb12 (by omega)
  replace P10 : Bk2 w12 (w10.heap.size) (.bool m10) (.slice A10 k10 c10) := P10.below hb12 P10.lt
  replace F11 : Bk2 w12 (w10.heap.size + 1) (.int .i64 f10) (.int .i64 g10) := F11.below hb12 F11.lt
  clear hb12
  have t_PA0 : ((w12.alloc (.cells #[.bool m12, .slice A12 k12 c12] 24)).alloc (.cells #[.int .i64 f12, .int .i64 g12] 26)).cell? ⟨w.heap.size, 0, none⟩ = some ((.bool a.neg)) := ((PA.alloc _).alloc _).c0
  have t_PA1 : ((w12.alloc (.cells #[.bool m12, .slice A12 k12 c12] 24)).alloc (.cells #[.int .i64 f12, .int .i64 g12] 26)).cell? ⟨w.heap.size, 1, none⟩ = some ((.slice a.A a.n a.c)) := ((PA.alloc _).alloc _).c1
  go_wp2_with fail
  clear t_PA0 t_PA1
  obtain ⟨V4, hV4⟩ : ∃ V4 : World, V4 = ((w12.alloc (.cells #[.bool m12, .slice A12 k12 c12] 24)).alloc (.cells #[.int .i64 f12, .int .i64 g12] 26)) := ⟨_, rfl⟩
  have bV4 : Below w12.heap.size w12 V4 := by rw [hV4]; (repeat (first | with_reducible exact Below.refl _ _ | with_reducible refine Below.drew ?_ | with_reducible refine below_drewN ?_ _ | with_reducible refine Below.setCell ?_ (by first | (simp; done) | (simp; omega) | omega) _ | with_reducible refine Below.alloc ?_ (by first | (simp; done) | (simp; omega) | omega) _))
  have zV4 : w12.heap.size + 2 ≤ V4.heap.size := by rw [hV4]; simp
  have P12 : Bk2 V4 (w12.heap.size) (.bool m12) (.slice A12 k12 c12) := by rw [hV4]; exact ((Bk2.newAt _ _ (by simp) _ _ _).alloc _)
  have F13 : Bk2 V4 (w12.heap.size + 1) (.int .i64 f12) (.int .i64 g12) := by rw [hV4]; exact (Bk2.newAt _ _ (by simp) _ _ _)
  rw [← hV4]
  clear hV4
  replace E : Below w.heap.size w V4 := E.trans (bV4.mono E.size)
  replace HA : LRd V4 (w.heap.size) a.A a.n a.c a.xs := HA.below bV4 (by omega)
  replace HB : LRd V4 (w.heap.size) b.A b.n b.c b.xs := HB.below bV4 (by omega)
  replace PA : Bk2 V4 (w.heap.size) (.bool a.neg) (.slice a.A a.n a.c) := PA.below bV4 PA.lt
  replace PB : Bk2 V4 (w.heap.size + 1) (.bool b.neg) (.slice b.A b.n b.c) := PB.below bV4 PB.lt
  replace F7 : Bk2 V4 (w1.heap.size) (.int .i64 0) (.int .i64 0) := F7.below bV4 F7.lt
  replace hl8 : LRd V4 (w8.heap.size) A8 k8 c8 x8 := hl8.below bV4 (by omega)
  replace P8 : Bk2 V4 (w8.heap.size) (.bool m8) (.slice A8 k8 c8) := P8.below bV4 P8.lt
  replace F9 : Bk2 V4 (w8.heap.size + 1) (.int .i64 f8) (.int .i64 g8) := F9.below bV4 F9.lt
  replace hl10 : LRd V4 (w10.heap.size) A10 k10 c10 x10 := hl10.below bV4 (by omega)
  replace P10 : Bk2 V4 (w10.heap.size) (.bool m10) (.slice A10 k10 c10) := P10.below bV4 P10.lt
  replace F11 : Bk2 V4 (w10.heap.size + 1) (.int .i64 f10) (.int .i64 g10) := F11.below bV4 F11.lt
  replace hl12 : LRd V4 (w12.heap.size) A12 k12 c12 x12 := hl12.below bV4 (by omega)
  clear bV4
  refine (inot_ok _ w.heap.size a HA (by omega) oa).mono ?_
  rintro e w14 hv
  obtain ⟨z14, f14, g14, hy14, m14, A14, k14, c14, x14, rfl, hl14, hr14, hb14⟩ := vl_yr hv
  clear hv
  have R14 := Lib.hid hr14
  have Y14 := Lib.hid hy14
  have sw14 := hb14.size
  clear hr14 hy14
  replace E : Below w.heap.size w w14 := E.trans (hb14.mono E.size)
  replace HA : LRd w14 (w.heap.size) a.A a.n a.c a.xs := HA.below hb14 (by omega)
  replace HB : LRd w14 (w.heap.size) b.A b.n b.c b.xs := HB.below hb14 (by omega)
  replace PA : Bk2 w14 (w.heap.size) (.bool a.neg) (.slice a.A a.n a.c) := PA.below hb14 PA.lt
  replace PB : Bk2 w14 (w.heap.size + 1) (.bool b.neg) (.slice b.A b.n b.c) := PB.below hb14 PB.lt
  replace F7 : Bk2 w14 (w1.heap.size) (.int .i64 0) (.int .i64 0) := F7.below hb14 F7.lt
  replace hl8 : LRd w14 (w8.heap.size) A8 k8 c8 x8 := hl8.below hb14 (by omega)
  replace P8 : Bk2 w14 (w8.heap.size) (.bool m8) (.slice A8 k8 c8) := P8.below hb14 P8.lt
  replace F9 : Bk2 w14 (w8.heap.size + 1) (.int .i64 f8) (.int .i64 g8) := F9.below hb14 F9.lt
  replace hl10 : LRd w14 (w10.heap.size) A10 k10 c10 x10 := hl10.below hb14 (by omega)
  replace P10 : Bk2 w14 (w10.heap.size) (.bool m10) (.slice A10 k10 c10) := P10.below hb14 P10.lt
  replace F11 : Bk2 w14 (w10.heap.size + 1) (.int .i64 f10) (.int .i64 g10) := F11.below hb14 F11.lt
  replace hl12 : LRd w14 (w12.heap.size) A12 k12 c12 x12 := hl12.below hb14 (by omega)
  replace P12 : Bk2 w14 (w12.heap.size) (.bool m12) (.slice A12 k12 c12) := P12.below hb14 P12.lt
  replace F13 : Bk2 w14 (w12.heap.size + 1) (.int .i64 f12) (.int .i64 g12) := F13.below hb14 F13.lt
  clear hb14
  have t_PA0 : ((w14.alloc (.cells #[.bool m14, .slice A14 k14 c14] 24)).alloc (.cells #[.int .i64 f14, .int .i64 g14] 26)).cell? ⟨w.heap.size, 0, none⟩ = some ((.bool a.neg)) := ((PA.alloc _).alloc _).c0
  have t_PA1 : ((w14.alloc (.cells #[.bool m14, .slice A14 k14 c14] 24)).alloc (.cells #[.int .i64 f14, .int .i64 g14] 26)).cell? ⟨w.heap.size, 1, none⟩ = some ((.slice a.A a.n a.c)) := ((PA.alloc _).alloc _).c1
  go_wp2_with fail
  clear t_PA0 t_PA1
  obtain ⟨V5, hV5⟩ : ∃ V5 : World, V5 = ((w14.alloc (.cells #[.bool m14, .slice A14 k14 c14] 24)).alloc (.cells #[.int .i64 f14, .int .i64 g14] 26)) := ⟨_, rfl⟩
  have bV5 : Below w14.heap.size w14 V5 := by rw [hV5]; (repeat (first | with_reducible exact Below.refl _ _ | with_reducible refine Below.drew ?_ | with_reducible refine below_drewN ?_ _ | with_reducible refine Below.setCell ?_ (by first | (simp; done) | (simp; omega) | omega) _ | with_reducible refine Below.alloc ?_ (by first | (simp; done) | (simp; omega) | omega) _))
  have zV5 : w14.heap.size + 2 ≤ V5.heap.size := by rw [hV5]; simp
  have P14 : Bk2 V5 (w14.heap.size) (.bool m14) (.slice A14 k14 c14) := by rw [hV5]; exact ((Bk2.newAt _ _ (by simp) _ _ _).alloc _)
  have F15 : Bk2 V5 (w14.heap.size + 1) (.int .i64 f14) (.int .i64 g14) := by rw [hV5]; exact (Bk2.newAt _ _ (by simp) _ _ _)
  rw [← hV5]
  clear hV5
  replace E : Below w.heap.size w V5 := E.trans (bV5.mono E.size)
  replace HA : LRd V5 (w.heap.size) a.A a.n a.c a.xs := HA.below bV5 (by omega)
  replace HB : LRd V5 (w.heap.size) b.A b.n b.c b.xs := HB.below bV5 (by omega)
  replace PA : Bk2 V5 (w.heap.size) (.bool a.neg) (.slice a.A a.n a.c) := PA.below bV5 PA.lt
  replace PB : Bk2 V5 (w.heap.size + 1) (.bool b.neg) (.slice b.A b.n b.c) := PB.below bV5 PB.lt
  replace F7 : Bk2 V5 (w1.heap.size) (.int .i64 0) (.int .i64 0) := F7.below bV5 F7.lt
  replace hl8 : LRd V5 (w8.heap.size) A8 k8 c8 x8 := hl8.below bV5 (by omega)
  replace P8 : Bk2 V5 (w8.heap.size) (.bool m8) (.slice A8 k8 c8) := P8.below bV5 P8.lt
  replace F9 : Bk2 V5 (w8.heap.size + 1) (.int .i64 f8) (.int .i64 g8) := F9.below bV5 F9.lt
  replace hl10 : LRd V5 (w10.heap.size) A10 k10 c10 x10 := hl10.below bV5 (by omega)
  replace P10 : Bk2 V5 (w10.heap.size) (.bool m10) (.slice A10 k10 c10) := P10.below bV5 P10.lt
  replace F11 : Bk2 V5 (w10.heap.size + 1) (.int .i64 f10) (.int .i64 g10) := F11.below bV5 F11.lt
  replace hl12 : LRd V5 (w12.heap.size) A12 k12 c12 x12 := hl12.below bV5 (by omega)
  replace P12 : Bk2 V5 (w12.heap.size) (.bool m12) (.slice A12 k12 c12) := P12.below bV5 P12.lt
  replace F13 : Bk2 V5 (w12.heap.size + 1) (.int .i64 f12) (.int .i64 g12) := F13.below bV5 F13.lt
  replace hl14 : LRd V5 (w14.heap.size) A14 k14 c14 x14 := hl14.below bV5 (by omega)
  clear bV5
  refine (ishift_ok _ w.heap.size a i i1 i2 HA (by omega) oa).mono ?_
  rintro e w16 hv
  rcases hv with ⟨hlt, _⟩ | ⟨_, m16, A16, k16, c16, x16, rfl, hl16, hr16, hb16⟩
  · exact absurd hlt (by have := SB.out; omega)
  obtain ⟨rfl, rfl⟩ := irep_nilB hr16 hl16.len.out
  have sw16 := hb16.size
  clear hl16 hr16
  replace E : Below w.heap.size w w16 := E.trans (hb16.mono E.size)
  replace HA : LRd w16 (w.heap.size) a.A a.n a.c a.xs := HA.below hb16 (by omega)
  replace HB : LRd w16 (w.heap.size) b.A b.n b.c b.xs := HB.below hb16 (by omega)
  replace PA : Bk2 w16 (w.heap.size) (.bool a.neg) (.slice a.A a.n a.c) := PA.below hb16 PA.lt
  replace PB : Bk2 w16 (w.heap.size + 1) (.bool b.neg) (.slice b.A b.n b.c) := PB.below hb16 PB.lt
  replace F7 : Bk2 w16 (w1.heap.size) (.int .i64 0) (.int .i64 0) := F7.below hb16 F7.lt
  replace hl8 : LRd w16 (w8.heap.size) A8 k8 c8 x8 := hl8.below hb16 (by omega)
  replace P8 : Bk2 w16 (w8.heap.size) (.bool m8) (.slice A8 k8 c8) := P8.below hb16 P8.lt
  replace F9 : Bk2 w16 (w8.heap.size + 1) (.int .i64 f8) (.int .i64 g8) := F9.below hb16 F9.lt
  replace hl10 : LRd w16 (w10.heap.size) A10 k10 c10 x10 := hl10.below hb16 (by omega)
  replace P10 : Bk2 w16 (w10.heap.size) (.bool m10) (.slice A10 k10 c10) := P10.below hb16 P10.lt
  replace F11 : Bk2 w16 (w10.heap.size + 1) (.int .i64 f10) (.int .i64 g10) := F11.below hb16 F11.lt
  replace hl12 : LRd w16 (w12.heap.size) A12 k12 c12 x12 := hl12.below hb16 (by omega)
  replace P12 : Bk2 w16 (w12.heap.size) (.bool m12) (.slice A12 k12 c12) := P12.below hb16 P12.lt
  replace F13 : Bk2 w16 (w12.heap.size + 1) (.int .i64 f12) (.int .i64 g12) := F13.below hb16 F13.lt
  replace hl14 : LRd w16 (w14.heap.size) A14 k14 c14 x14 := hl14.below hb16 (by omega)
  replace P14 : Bk2 w16 (w14.heap.size) (.bool m14) (.slice A14 k14 c14) := P14.below hb16 P14.lt
  replace F15 : Bk2 w16 (w14.heap.size + 1) (.int .i64 f14) (.int .i64 g14) := F15.below hb16 F15.lt
  clear hb16
  go_wp2_with fail
  obtain ⟨V6, hV6⟩ : ∃ V6 : World, V6 = ((w16.alloc (.cells #[.bool false, .slice A16 0 c16] 24)).alloc (.cells #[.int .i64 14, .int .i64 (-1)] 26)) := ⟨_, rfl⟩
  have bV6 : Below w16.heap.size w16 V6 := by rw [hV6]; (repeat (first | with_reducible exact Below.refl _ _ | with_reducible refine Below.drew ?_ | with_reducible refine below_drewN ?_ _ | with_reducible refine Below.setCell ?_ (by first | (simp; done) | (simp; omega) | omega) _ | with_reducible refine Below.alloc ?_ (by first | (simp; done) | (simp; omega) | omega) _))
  have zV6 : w16.heap.size + 2 ≤ V6.heap.size := by rw [hV6]; simp
  have P16 : Bk2 V6 (w16.heap.size) (.bool false) (.slice A16 0 c16) := by rw [hV6]; exact ((Bk2.newAt _ _ (by simp) _ _ _).alloc _)
  have F17 : Bk2 V6 (w16.heap.size + 1) (.int .i64 14) (.int .i64 (-1)) := by rw [hV6]; exact (Bk2.newAt _ _ (by simp) _ _ _)
  rw [← hV6]
  clear hV6
  replace E : Below w.heap.size w V6 := E.trans (bV6.mono E.size)
  replace HA : LRd V6 (w.heap.size) a.A a.n a.c a.xs := HA.below bV6 (by omega)
  replace HB : LRd V6 (w.heap.size) b.A b.n b.c b.xs := HB.below bV6 (by omega)
  replace PA : Bk2 V6 (w.heap.size) (.bool a.neg) (.slice a.A a.n a.c) := PA.below bV6 PA.lt
  replace PB : Bk2 V6 (w.heap.size + 1) (.bool b.neg) (.slice b.A b.n b.c) := PB.below bV6 PB.lt
  replace F7 : Bk2 V6 (w1.heap.size) (.int .i64 0) (.int .i64 0) := F7.below bV6 F7.lt
  replace hl8 : LRd V6 (w8.heap.size) A8 k8 c8 x8 := hl8.below bV6 (by omega)
  replace P8 : Bk2 V6 (w8.heap.size) (.bool m8) (.slice A8 k8 c8) := P8.below bV6 P8.lt
  replace F9 : Bk2 V6 (w8.heap.size + 1) (.int .i64 f8) (.int .i64 g8) := F9.below bV6 F9.lt
  replace hl10 : LRd V6 (w10.heap.size) A10 k10 c10 x10 := hl10.below bV6 (by omega)
  replace P10 : Bk2 V6 (w10.heap.size) (.bool m10) (.slice A10 k10 c10) := P10.below bV6 P10.lt
  replace F11 : Bk2 V6 (w10.heap.size + 1) (.int .i64 f10) (.int .i64 g10) := F11.below bV6 F11.lt
  replace hl12 : LRd V6 (w12.heap.size) A12 k12 c12 x12 := hl12.below bV6 (by omega)
  replace P12 : Bk2 V6 (w12.heap.size) (.bool m12) (.slice A12 k12 c12) := P12.below bV6 P12.lt
  replace F13 : Bk2 V6 (w12.heap.size + 1) (.int .i64 f12) (.int .i64 g12) := F13.below bV6 F13.lt
  replace hl14 : LRd V6 (w14.heap.size) A14 k14 c14 x14 := hl14.below bV6 (by omega)
  replace P14 : Bk2 V6 (w14.heap.size) (.bool m14) (.slice A14 k14 c14) := P14.below bV6 P14.lt
  replace F15 : Bk2 V6 (w14.heap.size + 1) (.int .i64 f14) (.int .i64 g14) := F15.below bV6 F15.lt
  clear bV6
  (with_reducible refine (counts_any _).mono ?_)
  rintro e w3 ⟨rfl, hb3⟩
  have sw3 := hb3.size
  replace E : Below w.heap.size w w3 := E.trans (hb3.mono E.size)
  replace HA : LRd w3 (w.heap.size) a.A a.n a.c a.xs := HA.below hb3 (by omega)
  replace HB : LRd w3 (w.heap.size) b.A b.n b.c b.xs := HB.below hb3 (by omega)
  replace PA : Bk2 w3 (w.heap.size) (.bool a.neg) (.slice a.A a.n a.c) := PA.below hb3 PA.lt
  replace PB : Bk2 w3 (w.heap.size + 1) (.bool b.neg) (.slice b.A b.n b.c) := PB.below hb3 PB.lt
  replace F7 : Bk2 w3 (w1.heap.size) (.int .i64 0) (.int .i64 0) := F7.below hb3 F7.lt
  replace hl8 : LRd w3 (w8.heap.size) A8 k8 c8 x8 := hl8.below hb3 (by omega)
  replace P8 : Bk2 w3 (w8.heap.size) (.bool m8) (.slice A8 k8 c8) := P8.below hb3 P8.lt
  replace F9 : Bk2 w3 (w8.heap.size + 1) (.int .i64 f8) (.int .i64 g8) := F9.below hb3 F9.lt
  replace hl10 : LRd w3 (w10.heap.size) A10 k10 c10 x10 := hl10.below hb3 (by omega)
  replace P10 : Bk2 w3 (w10.heap.size) (.bool m10) (.slice A10 k10 c10) := P10.below hb3 P10.lt
  replace F11 : Bk2 w3 (w10.heap.size + 1) (.int .i64 f10) (.int .i64 g10) := F11.below hb3 F11.lt
  replace hl12 : LRd w3 (w12.heap.size) A12 k12 c12 x12 := hl12.below hb3 (by omega)
  replace P12 : Bk2 w3 (w12.heap.size) (.bool m12) (.slice A12 k12 c12) := P12.below hb3 P12.lt
  replace F13 : Bk2 w3 (w12.heap.size + 1) (.int .i64 f12) (.int .i64 g12) := F13.below hb3 F13.lt
  replace hl14 : LRd w3 (w14.heap.size) A14 k14 c14 x14 := hl14.below hb3 (by omega)
  replace P14 : Bk2 w3 (w14.heap.size) (.bool m14) (.slice A14 k14 c14) := P14.below hb3 P14.lt
  replace F15 : Bk2 w3 (w14.heap.size + 1) (.int .i64 f14) (.int .i64 g14) := F15.below hb3 F15.lt
  replace P16 : Bk2 w3 (w16.heap.size) (.bool false) (.slice A16 0 c16) := P16.below hb3 P16.lt
  replace F17 : Bk2 w3 (w16.heap.size + 1) (.int .i64 14) (.int .i64 (-1)) := F17.below hb3 F17.lt
  clear hb3
  have t_PA0 : w3.cell? ⟨w.heap.size, 0, none⟩ = some ((.bool a.neg)) := PA.c0
  have t_PA1 : w3.cell? ⟨w.heap.size, 1, none⟩ = some ((.slice a.A a.n a.c)) := PA.c1
  go_wp2_with fail
  clear t_PA0 t_PA1
  (with_reducible refine (intOk_any _ w.heap.size a.neg a.A a.n a.c a.xs HA (by omega)).mono ?_)
  rintro e w4 ⟨rfl, hb4⟩
  have sw4 := hb4.size
  replace E : Below w.heap.size w w4 := E.trans (hb4.mono E.size)
  replace HA : LRd w4 (w.heap.size) a.A a.n a.c a.xs := HA.below hb4 (by omega)
  replace HB : LRd w4 (w.heap.size) b.A b.n b.c b.xs := HB.below hb4 (by omega)
  replace PA : Bk2 w4 (w.heap.size) (.bool a.neg) (.slice a.A a.n a.c) := PA.below hb4 PA.lt
  replace PB : Bk2 w4 (w.heap.size + 1) (.bool b.neg) (.slice b.A b.n b.c) := PB.below hb4 PB.lt
  replace F7 : Bk2 w4 (w1.heap.size) (.int .i64 0) (.int .i64 0) := F7.below hb4 F7.lt
  replace hl8 : LRd w4 (w8.heap.size) A8 k8 c8 x8 := hl8.below hb4 (by omega)
  replace P8 : Bk2 w4 (w8.heap.size) (.bool m8) (.slice A8 k8 c8) := P8.below hb4 P8.lt
  replace F9 : Bk2 w4 (w8.heap.size + 1) (.int .i64 f8) (.int .i64 g8) := F9.below hb4 F9.lt
  replace hl10 : LRd w4 (w10.heap.size) A10 k10 c10 x10 := hl10.below hb4 (by omega)
  replace P10 : Bk2 w4 (w10.heap.size) (.bool m10) (.slice A10 k10 c10) := P10.below hb4 P10.lt
  replace F11 : Bk2 w4 (w10.heap.size + 1) (.int .i64 f10) (.int .i64 g10) := F11.below hb4 F11.lt
  replace hl12 : LRd w4 (w12.heap.size) A12 k12 c12 x12 := hl12.below hb4 (by omega)
  replace P12 : Bk2 w4 (w12.heap.size) (.bool m12) (.slice A12 k12 c12) := P12.below hb4 P12.lt
  replace F13 : Bk2 w4 (w12.heap.size + 1) (.int .i64 f12) (.int .i64 g12) := F13.below hb4 F13.lt
  replace hl14 : LRd w4 (w14.heap.size) A14 k14 c14 x14 := hl14.below hb4 (by omega)
  replace P14 : Bk2 w4 (w14.heap.size) (.bool m14) (.slice A14 k14 c14) := P14.below hb4 P14.lt
  replace F15 : Bk2 w4 (w14.heap.size + 1) (.int .i64 f14) (.int .i64 g14) := F15.below hb4 F15.lt
  replace P16 : Bk2 w4 (w16.heap.size) (.bool false) (.slice A16 0 c16) := P16.below hb4 P16.lt
  replace F17 : Bk2 w4 (w16.heap.size + 1) (.int .i64 14) (.int .i64 (-1)) := F17.below hb4 F17.lt
  clear hb4
  rw [VA]
  have t_PA0 : w4.cell? ⟨w.heap.size, 0, none⟩ = some ((.bool a.neg)) := PA.c0
  have t_PA1 : w4.cell? ⟨w.heap.size, 1, none⟩ = some ((.slice a.A a.n a.c)) := PA.c1
  go_wp2_with fail
  clear t_PA0 t_PA1
  (with_reducible refine (intOf_sgn _ w.heap.size a.neg a.A a.n a.c a.xs HA (by omega) hna).mono ?_)
  rintro e w5 ⟨AA, kA, cA, zA, rfl, hdA, hrA, hb5⟩
  have sw5 := hb5.size
  replace E : Below w.heap.size w w5 := E.trans (hb5.mono E.size)
  replace HA : LRd w5 (w.heap.size) a.A a.n a.c a.xs := HA.below hb5 (by omega)
  replace HB : LRd w5 (w.heap.size) b.A b.n b.c b.xs := HB.below hb5 (by omega)
  replace PA : Bk2 w5 (w.heap.size) (.bool a.neg) (.slice a.A a.n a.c) := PA.below hb5 PA.lt
  replace PB : Bk2 w5 (w.heap.size + 1) (.bool b.neg) (.slice b.A b.n b.c) := PB.below hb5 PB.lt
  replace F7 : Bk2 w5 (w1.heap.size) (.int .i64 0) (.int .i64 0) := F7.below hb5 F7.lt
  replace hl8 : LRd w5 (w8.heap.size) A8 k8 c8 x8 := hl8.below hb5 (by omega)
  replace P8 : Bk2 w5 (w8.heap.size) (.bool m8) (.slice A8 k8 c8) := P8.below hb5 P8.lt
  replace F9 : Bk2 w5 (w8.heap.size + 1) (.int .i64 f8) (.int .i64 g8) := F9.below hb5 F9.lt
  replace hl10 : LRd w5 (w10.heap.size) A10 k10 c10 x10 := hl10.below hb5 (by omega)
  replace P10 : Bk2 w5 (w10.heap.size) (.bool m10) (.slice A10 k10 c10) := P10.below hb5 P10.lt
  replace F11 : Bk2 w5 (w10.heap.size + 1) (.int .i64 f10) (.int .i64 g10) := F11.below hb5 F11.lt
  replace hl12 : LRd w5 (w12.heap.size) A12 k12 c12 x12 := hl12.below hb5 (by omega)
  replace P12 : Bk2 w5 (w12.heap.size) (.bool m12) (.slice A12 k12 c12) := P12.below hb5 P12.lt
  replace F13 : Bk2 w5 (w12.heap.size + 1) (.int .i64 f12) (.int .i64 g12) := F13.below hb5 F13.lt
  replace hl14 : LRd w5 (w14.heap.size) A14 k14 c14 x14 := hl14.below hb5 (by omega)
  replace P14 : Bk2 w5 (w14.heap.size) (.bool m14) (.slice A14 k14 c14) := P14.below hb5 P14.lt
  replace F15 : Bk2 w5 (w14.heap.size + 1) (.int .i64 f14) (.int .i64 g14) := F15.below hb5 F15.lt
  replace P16 : Bk2 w5 (w16.heap.size) (.bool false) (.slice A16 0 c16) := P16.below hb5 P16.lt
  replace F17 : Bk2 w5 (w16.heap.size + 1) (.int .i64 14) (.int .i64 (-1)) := F17.below hb5 F17.lt
  clear hb5
  have RA := Lib.hid hrA
  have KA : kA ≤ 100000 := len512 hrA hdA.len.out (top_sq (by have := LTA.out; omega))
  clear hrA
  go_upto_region 13 with fail
  obtain ⟨V9, hV9⟩ : ∃ V9 : World, V9 = (w5.alloc (.cells #[.bool a.neg, .slice AA kA cA] 37)) := ⟨_, rfl⟩
  have bV9 : Below w5.heap.size w5 V9 := by rw [hV9]; (repeat (first | with_reducible exact Below.refl _ _ | with_reducible refine Below.drew ?_ | with_reducible refine below_drewN ?_ _ | with_reducible refine Below.setCell ?_ (by first | (simp; done) | (simp; omega) | omega) _ | with_reducible refine Below.alloc ?_ (by first | (simp; done) | (simp; omega) | omega) _))
  have zV9 : w5.heap.size + 1 ≤ V9.heap.size := by rw [hV9]; simp
  have P19 : Bk2 V9 (w5.heap.size) (.bool a.neg) (.slice AA kA cA) := by rw [hV9]; exact (Bk2.newAt _ _ (by simp) _ _ _)
  rw [← hV9]
  clear hV9
  replace E : Below w.heap.size w V9 := E.trans (bV9.mono E.size)
  replace HA : LRd V9 (w.heap.size) a.A a.n a.c a.xs := HA.below bV9 (by omega)
  replace HB : LRd V9 (w.heap.size) b.A b.n b.c b.xs := HB.below bV9 (by omega)
  replace PA : Bk2 V9 (w.heap.size) (.bool a.neg) (.slice a.A a.n a.c) := PA.below bV9 PA.lt
  replace PB : Bk2 V9 (w.heap.size + 1) (.bool b.neg) (.slice b.A b.n b.c) := PB.below bV9 PB.lt
  replace F7 : Bk2 V9 (w1.heap.size) (.int .i64 0) (.int .i64 0) := F7.below bV9 F7.lt
  replace hl8 : LRd V9 (w8.heap.size) A8 k8 c8 x8 := hl8.below bV9 (by omega)
  replace P8 : Bk2 V9 (w8.heap.size) (.bool m8) (.slice A8 k8 c8) := P8.below bV9 P8.lt
  replace F9 : Bk2 V9 (w8.heap.size + 1) (.int .i64 f8) (.int .i64 g8) := F9.below bV9 F9.lt
  replace hl10 : LRd V9 (w10.heap.size) A10 k10 c10 x10 := hl10.below bV9 (by omega)
  replace P10 : Bk2 V9 (w10.heap.size) (.bool m10) (.slice A10 k10 c10) := P10.below bV9 P10.lt
  replace F11 : Bk2 V9 (w10.heap.size + 1) (.int .i64 f10) (.int .i64 g10) := F11.below bV9 F11.lt
  replace hl12 : LRd V9 (w12.heap.size) A12 k12 c12 x12 := hl12.below bV9 (by omega)
  replace P12 : Bk2 V9 (w12.heap.size) (.bool m12) (.slice A12 k12 c12) := P12.below bV9 P12.lt
  replace F13 : Bk2 V9 (w12.heap.size + 1) (.int .i64 f12) (.int .i64 g12) := F13.below bV9 F13.lt
  replace hl14 : LRd V9 (w14.heap.size) A14 k14 c14 x14 := hl14.below bV9 (by omega)
  replace P14 : Bk2 V9 (w14.heap.size) (.bool m14) (.slice A14 k14 c14) := P14.below bV9 P14.lt
  replace F15 : Bk2 V9 (w14.heap.size + 1) (.int .i64 f14) (.int .i64 g14) := F15.below bV9 F15.lt
  replace P16 : Bk2 V9 (w16.heap.size) (.bool false) (.slice A16 0 c16) := P16.below bV9 P16.lt
  replace F17 : Bk2 V9 (w16.heap.size + 1) (.int .i64 14) (.int .i64 (-1)) := F17.below bV9 F17.lt
  replace hdA : DRd V9 (w5.heap.size) AA kA cA zA := hdA.below bV9 (by omega)
  clear bV9
  have G0 : Below V9.heap.size V9 V9.drew := Below.drew (Below.refl _ _)
  have HS := Lib.hid (fun (u : World) (hu : Below V9.heap.size V9 u) => (⟨hu, (P14.below hu P14.lt).c0, (P14.below hu P14.lt).c1, (F15.below hu F15.lt).c0, (F15.below hu F15.lt).c1, (P19.below hu P19.lt).c0, (P19.below hu P19.lt).c1⟩ : Below V9.heap.size V9 u ∧ u.cell? ⟨w14.heap.size, 0, none⟩ = some (.bool m14) ∧ u.cell? ⟨w14.heap.size, 1, none⟩ = some (.slice A14 k14 c14) ∧ u.cell? ⟨w14.heap.size + 1, 0, none⟩ = some (.int .i64 f14) ∧ u.cell? ⟨w14.heap.size + 1, 1, none⟩ = some (.int .i64 g14) ∧ u.cell? ⟨w5.heap.size, 0, none⟩ = some (.bool a.neg) ∧ u.cell? ⟨w5.heap.size, 1, none⟩ = some (.slice AA kA cA)))
  have g0s := G0.size
  skip
  go_region_held3 (fun u => Below V9.heap.size V9 u ∧ u.cell? ⟨w14.heap.size, 0, none⟩ = some (.bool m14) ∧ u.cell? ⟨w14.heap.size, 1, none⟩ = some (.slice A14 k14 c14) ∧ u.cell? ⟨w14.heap.size + 1, 0, none⟩ = some (.int .i64 f14) ∧ u.cell? ⟨w14.heap.size + 1, 1, none⟩ = some (.int .i64 g14) ∧ u.cell? ⟨w5.heap.size, 0, none⟩ = some (.bool a.neg) ∧ u.cell? ⟨w5.heap.size, 1, none⟩ = some (.slice AA kA cA)) (first | with_reducible exact HS.out _ G0 | with_reducible exact HS.out _ B4 | with_reducible exact HS.out _ B3 | with_reducible exact HS.out _ B2 | with_reducible exact HS.out _ B1 | (refine HS.out _ ?_; (repeat (first | with_reducible exact G0 | with_reducible exact B4 | with_reducible exact B3 | with_reducible exact B2 | with_reducible exact B1 | with_reducible exact Below.refl _ _ | with_reducible refine Below.drew ?_ | with_reducible refine below_drewN ?_ _)); done) | fail)
    (first
      | (go_at_call 31; (with_reducible refine (rminus_any _ V9.heap.size a.neg AA kA cA (vb 4294967296 a.xs) zA ((hdA.below G0 (by omega)).more (by omega)) RA.out (by omega)).mono ?_); rintro e u1 ⟨m1, A1, k1, c1, x1, v1, rfl, hd1, hr1, hv1, hb1⟩; have B1 : Below V9.heap.size V9 u1 := bnext G0 hb1; have VM := Lib.hid hv1; have RM := Lib.hid hr1; have K1 := k_small hr1 hd1.len.out hv1 SQ1.out; clear hv1 hr1)
      | (go_at_call 20; (with_reducible refine (number_any _ (-1) (by decide) (by decide)).mono ?_); rintro e u2 ⟨m2, A2, k2, c2, x2, v2, rfl, hd2, hr2, hv2, hb2⟩; have B2 : Below V9.heap.size V9 u2 := bnext B1 hb2; have VN := Lib.hid hv2; have RN := Lib.hid hr2; have K2 := k_small hr2 hd2.len.out hv2 SQ0.out; clear hv2 hr2; have hd1q := hd1.below hb2 (Nat.le_refl _))
      | (go_at_call 35; (with_reducible refine (rplus_any _ u2.heap.size m1 m2 A1 A2 k1 k2 c1 c2 v1 v2 x1 x2 (hd1q.more (by have := hb2.size; omega)) hd2 (Nat.le_refl _) RM.out RN.out K1 K2).mono ?_); rintro e u3 ⟨m3, A3, k3, c3, x3, v3, rfl, hd3, hr3, hv3, hb3⟩; have B3 : Below V9.heap.size V9 u3 := bnext B2 hb3; have VP := Lib.hid (show sval m3 v3 = -a.val - 1 by rw [hv3, VM.out, VN.out, ← AV.out]; rfl); have RP := Lib.hid hr3; have K3 := k_small hr3 hd3.len.out VP.out SQ2.out; clear hv3 hr3)
      | (go_at_call 30; (with_reducible refine (yieldsv _ u3.heap.size m14 A14 k14 c14 x14 m3 A3 k3 c3 v3 x3 (-a.val - 1) z14 f14 g14 ((hl14.below B3 (by omega)).more (by have := B3.size; omega)) hd3 (Nat.le_refl _) Y14.out R14.out RP.out VP.out K3).mono ?_); rintro e u4 ⟨rfl, hb4⟩; have B4 : Below V9.heap.size V9 u4 := bnext B3 hb4)
      | fail)
  clear HS G0 g0s hd1 hd1q hd2 hd3 hb1 hb2 hb3 hb4 B1 B2 B3
  have s4 := B4.size
  clear hl14
  replace E : Below w.heap.size w u4 := E.trans (B4.mono E.size)
  replace HA : LRd u4 (w.heap.size) a.A a.n a.c a.xs := HA.below B4 (by omega)
  replace HB : LRd u4 (w.heap.size) b.A b.n b.c b.xs := HB.below B4 (by omega)
  replace PA : Bk2 u4 (w.heap.size) (.bool a.neg) (.slice a.A a.n a.c) := PA.below B4 PA.lt
  replace PB : Bk2 u4 (w.heap.size + 1) (.bool b.neg) (.slice b.A b.n b.c) := PB.below B4 PB.lt
  replace F7 : Bk2 u4 (w1.heap.size) (.int .i64 0) (.int .i64 0) := F7.below B4 F7.lt
  replace hl8 : LRd u4 (w8.heap.size) A8 k8 c8 x8 := hl8.below B4 (by omega)
  replace P8 : Bk2 u4 (w8.heap.size) (.bool m8) (.slice A8 k8 c8) := P8.below B4 P8.lt
  replace F9 : Bk2 u4 (w8.heap.size + 1) (.int .i64 f8) (.int .i64 g8) := F9.below B4 F9.lt
  replace hl10 : LRd u4 (w10.heap.size) A10 k10 c10 x10 := hl10.below B4 (by omega)
  replace P10 : Bk2 u4 (w10.heap.size) (.bool m10) (.slice A10 k10 c10) := P10.below B4 P10.lt
  replace F11 : Bk2 u4 (w10.heap.size + 1) (.int .i64 f10) (.int .i64 g10) := F11.below B4 F11.lt
  replace hl12 : LRd u4 (w12.heap.size) A12 k12 c12 x12 := hl12.below B4 (by omega)
  replace P12 : Bk2 u4 (w12.heap.size) (.bool m12) (.slice A12 k12 c12) := P12.below B4 P12.lt
  replace F13 : Bk2 u4 (w12.heap.size + 1) (.int .i64 f12) (.int .i64 g12) := F13.below B4 F13.lt
  replace P14 : Bk2 u4 (w14.heap.size) (.bool m14) (.slice A14 k14 c14) := P14.below B4 P14.lt
  replace F15 : Bk2 u4 (w14.heap.size + 1) (.int .i64 f14) (.int .i64 g14) := F15.below B4 F15.lt
  replace P16 : Bk2 u4 (w16.heap.size) (.bool false) (.slice A16 0 c16) := P16.below B4 P16.lt
  replace F17 : Bk2 u4 (w16.heap.size + 1) (.int .i64 14) (.int .i64 (-1)) := F17.below B4 F17.lt
  replace hdA : DRd u4 (w5.heap.size) AA kA cA zA := hdA.below B4 (by omega)
  replace P19 : Bk2 u4 (w5.heap.size) (.bool a.neg) (.slice AA kA cA) := P19.below B4 P19.lt
  clear B4
  have t_P190 : u4.cell? ⟨w5.heap.size, 0, none⟩ = some ((.bool a.neg)) := P19.c0
  have t_P191 : u4.cell? ⟨w5.heap.size, 1, none⟩ = some ((.slice AA kA cA)) := P19.c1
  go_wp2_with fail
  clear t_P190 t_P191
  (with_reducible refine (ones_any _ u4.heap.size AA kA cA zA (hdA.more (by omega)) (Nat.le_refl _) (by omega)).mono ?_)
  rintro e w15 ⟨A5, k5, c5, x5, rfl, hO5, hr5, hb5⟩
  have sw15 := hb5.size
  replace E : Below w.heap.size w w15 := E.trans (hb5.mono E.size)
  replace HA : LRd w15 (w.heap.size) a.A a.n a.c a.xs := HA.below hb5 (by omega)
  replace HB : LRd w15 (w.heap.size) b.A b.n b.c b.xs := HB.below hb5 (by omega)
  replace PA : Bk2 w15 (w.heap.size) (.bool a.neg) (.slice a.A a.n a.c) := PA.below hb5 PA.lt
  replace PB : Bk2 w15 (w.heap.size + 1) (.bool b.neg) (.slice b.A b.n b.c) := PB.below hb5 PB.lt
  replace F7 : Bk2 w15 (w1.heap.size) (.int .i64 0) (.int .i64 0) := F7.below hb5 F7.lt
  replace hl8 : LRd w15 (w8.heap.size) A8 k8 c8 x8 := hl8.below hb5 (by omega)
  replace P8 : Bk2 w15 (w8.heap.size) (.bool m8) (.slice A8 k8 c8) := P8.below hb5 P8.lt
  replace F9 : Bk2 w15 (w8.heap.size + 1) (.int .i64 f8) (.int .i64 g8) := F9.below hb5 F9.lt
  replace hl10 : LRd w15 (w10.heap.size) A10 k10 c10 x10 := hl10.below hb5 (by omega)
  replace P10 : Bk2 w15 (w10.heap.size) (.bool m10) (.slice A10 k10 c10) := P10.below hb5 P10.lt
  replace F11 : Bk2 w15 (w10.heap.size + 1) (.int .i64 f10) (.int .i64 g10) := F11.below hb5 F11.lt
  replace hl12 : LRd w15 (w12.heap.size) A12 k12 c12 x12 := hl12.below hb5 (by omega)
  replace P12 : Bk2 w15 (w12.heap.size) (.bool m12) (.slice A12 k12 c12) := P12.below hb5 P12.lt
  replace F13 : Bk2 w15 (w12.heap.size + 1) (.int .i64 f12) (.int .i64 g12) := F13.below hb5 F13.lt
  replace P14 : Bk2 w15 (w14.heap.size) (.bool m14) (.slice A14 k14 c14) := P14.below hb5 P14.lt
  replace F15 : Bk2 w15 (w14.heap.size + 1) (.int .i64 f14) (.int .i64 g14) := F15.below hb5 F15.lt
  replace P16 : Bk2 w15 (w16.heap.size) (.bool false) (.slice A16 0 c16) := P16.below hb5 P16.lt
  replace F17 : Bk2 w15 (w16.heap.size + 1) (.int .i64 14) (.int .i64 (-1)) := F17.below hb5 F17.lt
  replace hdA : DRd w15 (w5.heap.size) AA kA cA zA := hdA.below hb5 (by omega)
  replace P19 : Bk2 w15 (w5.heap.size) (.bool a.neg) (.slice AA kA cA) := P19.below hb5 P19.lt
  clear hb5
  rw [RA.out.val] at hr5
  have hcap5 := hO5.cap
  have LO := Lib.hid hO5.len.out
  have hk5 : 0 < (k5 : Int) := by
    rcases Nat.eq_zero_or_pos k5 with e | e
    · exfalso
      have h1 := hr5.val
      rw [List.eq_nil_of_length_eq_zero (LO.out.trans e), vb_nil] at h1
      exact VZ0.out h1.symm
    · omega
  clear hr5 hO5
  go_upto_region 17 with fail
  have G0 : Below w15.heap.size w15 w15.drew := Below.drew (Below.refl _ _)
  have HS := Lib.hid (fun (u : World) (hu : Below w15.heap.size w15 u) => (⟨hu, (P16.below hu P16.lt).c0, (P16.below hu P16.lt).c1, (F17.below hu F17.lt).c0, (F17.below hu F17.lt).c1⟩ : Below w15.heap.size w15 u ∧ u.cell? ⟨w16.heap.size, 0, none⟩ = some (.bool false) ∧ u.cell? ⟨w16.heap.size, 1, none⟩ = some (.slice A16 0 c16) ∧ u.cell? ⟨w16.heap.size + 1, 0, none⟩ = some (.int .i64 14) ∧ u.cell? ⟨w16.heap.size + 1, 1, none⟩ = some (.int .i64 (-1))))
  go_region_held3 (fun u => Below w15.heap.size w15 u ∧ u.cell? ⟨w16.heap.size, 0, none⟩ = some (.bool false) ∧ u.cell? ⟨w16.heap.size, 1, none⟩ = some (.slice A16 0 c16) ∧ u.cell? ⟨w16.heap.size + 1, 0, none⟩ = some (.int .i64 14) ∧ u.cell? ⟨w16.heap.size + 1, 1, none⟩ = some (.int .i64 (-1))) (first | with_reducible exact HS.out _ G0 | with_reducible exact HS.out _ B2 | with_reducible exact HS.out _ B1 | (refine HS.out _ ?_; (repeat (first | with_reducible exact G0 | with_reducible exact B2 | with_reducible exact B1 | with_reducible exact Below.refl _ _ | with_reducible refine Below.drew ?_ | with_reducible refine below_drewN ?_ _)); done) | fail)
    (first
      | (go_at_call 25; (with_reducible refine (at_any _ _ _).mono ?_); rintro e u5 ⟨rfl, hb1⟩; have B1 : Below w15.heap.size w15 u5 := bnext G0 hb1)
      | (go_at_call 26; (with_reducible refine (noInt_any _ false A16 0 c16 (by omega)).mono ?_); rintro e u6 ⟨rfl, hb2⟩; have B2 : Below w15.heap.size w15 u6 := bnext B1 hb2; rw [show (!false && decide (0 = 0)) = true from rfl])
      | fail)
  clear HS G0 hb1 hb2 B1
  have s6 := B2.size
  replace E : Below w.heap.size w u6 := E.trans (B2.mono E.size)
  replace HA : LRd u6 (w.heap.size) a.A a.n a.c a.xs := HA.below B2 (by omega)
  replace HB : LRd u6 (w.heap.size) b.A b.n b.c b.xs := HB.below B2 (by omega)
  replace PA : Bk2 u6 (w.heap.size) (.bool a.neg) (.slice a.A a.n a.c) := PA.below B2 PA.lt
  replace PB : Bk2 u6 (w.heap.size + 1) (.bool b.neg) (.slice b.A b.n b.c) := PB.below B2 PB.lt
  replace F7 : Bk2 u6 (w1.heap.size) (.int .i64 0) (.int .i64 0) := F7.below B2 F7.lt
  replace hl8 : LRd u6 (w8.heap.size) A8 k8 c8 x8 := hl8.below B2 (by omega)
  replace P8 : Bk2 u6 (w8.heap.size) (.bool m8) (.slice A8 k8 c8) := P8.below B2 P8.lt
  replace F9 : Bk2 u6 (w8.heap.size + 1) (.int .i64 f8) (.int .i64 g8) := F9.below B2 F9.lt
  replace hl10 : LRd u6 (w10.heap.size) A10 k10 c10 x10 := hl10.below B2 (by omega)
  replace P10 : Bk2 u6 (w10.heap.size) (.bool m10) (.slice A10 k10 c10) := P10.below B2 P10.lt
  replace F11 : Bk2 u6 (w10.heap.size + 1) (.int .i64 f10) (.int .i64 g10) := F11.below B2 F11.lt
  replace hl12 : LRd u6 (w12.heap.size) A12 k12 c12 x12 := hl12.below B2 (by omega)
  replace P12 : Bk2 u6 (w12.heap.size) (.bool m12) (.slice A12 k12 c12) := P12.below B2 P12.lt
  replace F13 : Bk2 u6 (w12.heap.size + 1) (.int .i64 f12) (.int .i64 g12) := F13.below B2 F13.lt
  replace P14 : Bk2 u6 (w14.heap.size) (.bool m14) (.slice A14 k14 c14) := P14.below B2 P14.lt
  replace F15 : Bk2 u6 (w14.heap.size + 1) (.int .i64 f14) (.int .i64 g14) := F15.below B2 F15.lt
  replace P16 : Bk2 u6 (w16.heap.size) (.bool false) (.slice A16 0 c16) := P16.below B2 P16.lt
  replace F17 : Bk2 u6 (w16.heap.size + 1) (.int .i64 14) (.int .i64 (-1)) := F17.below B2 F17.lt
  replace hdA : DRd u6 (w5.heap.size) AA kA cA zA := hdA.below B2 (by omega)
  replace P19 : Bk2 u6 (w5.heap.size) (.bool a.neg) (.slice AA kA cA) := P19.below B2 P19.lt
  clear B2
  have t_F70 : u6.cell? ⟨w1.heap.size, 0, none⟩ = some ((.int .i64 0)) := F7.c0
  have t_F71 : u6.cell? ⟨w1.heap.size, 1, none⟩ = some ((.int .i64 0)) := F7.c1
  have t_PB0 : u6.cell? ⟨w.heap.size + 1, 0, none⟩ = some ((.bool b.neg)) := PB.c0
  have t_PB1 : u6.cell? ⟨w.heap.size + 1, 1, none⟩ = some ((.slice b.A b.n b.c)) := PB.c1
  go_wp2_with fail
  clear t_F70 t_F71 t_PB0 t_PB1
  (with_reducible refine (intOf_sgn _ w.heap.size b.neg b.A b.n b.c b.xs HB (by omega) hnb).mono ?_)
  rintro e w20 ⟨AB, kB, cB, zB, rfl, hdB, hrB, hb9⟩
  have sw20 := hb9.size
  replace E : Below w.heap.size w w20 := E.trans (hb9.mono E.size)
  replace HA : LRd w20 (w.heap.size) a.A a.n a.c a.xs := HA.below hb9 (by omega)
  replace HB : LRd w20 (w.heap.size) b.A b.n b.c b.xs := HB.below hb9 (by omega)
  replace PA : Bk2 w20 (w.heap.size) (.bool a.neg) (.slice a.A a.n a.c) := PA.below hb9 PA.lt
  replace PB : Bk2 w20 (w.heap.size + 1) (.bool b.neg) (.slice b.A b.n b.c) := PB.below hb9 PB.lt
  replace F7 : Bk2 w20 (w1.heap.size) (.int .i64 0) (.int .i64 0) := F7.below hb9 F7.lt
  replace hl8 : LRd w20 (w8.heap.size) A8 k8 c8 x8 := hl8.below hb9 (by omega)
  replace P8 : Bk2 w20 (w8.heap.size) (.bool m8) (.slice A8 k8 c8) := P8.below hb9 P8.lt
  replace F9 : Bk2 w20 (w8.heap.size + 1) (.int .i64 f8) (.int .i64 g8) := F9.below hb9 F9.lt
  replace hl10 : LRd w20 (w10.heap.size) A10 k10 c10 x10 := hl10.below hb9 (by omega)
  replace P10 : Bk2 w20 (w10.heap.size) (.bool m10) (.slice A10 k10 c10) := P10.below hb9 P10.lt
  replace F11 : Bk2 w20 (w10.heap.size + 1) (.int .i64 f10) (.int .i64 g10) := F11.below hb9 F11.lt
  replace hl12 : LRd w20 (w12.heap.size) A12 k12 c12 x12 := hl12.below hb9 (by omega)
  replace P12 : Bk2 w20 (w12.heap.size) (.bool m12) (.slice A12 k12 c12) := P12.below hb9 P12.lt
  replace F13 : Bk2 w20 (w12.heap.size + 1) (.int .i64 f12) (.int .i64 g12) := F13.below hb9 F13.lt
  replace P14 : Bk2 w20 (w14.heap.size) (.bool m14) (.slice A14 k14 c14) := P14.below hb9 P14.lt
  replace F15 : Bk2 w20 (w14.heap.size + 1) (.int .i64 f14) (.int .i64 g14) := F15.below hb9 F15.lt
  replace P16 : Bk2 w20 (w16.heap.size) (.bool false) (.slice A16 0 c16) := P16.below hb9 P16.lt
  replace F17 : Bk2 w20 (w16.heap.size + 1) (.int .i64 14) (.int .i64 (-1)) := F17.below hb9 F17.lt
  replace hdA : DRd w20 (w5.heap.size) AA kA cA zA := hdA.below hb9 (by omega)
  replace P19 : Bk2 w20 (w5.heap.size) (.bool a.neg) (.slice AA kA cA) := P19.below hb9 P19.lt
  clear hb9
  have RB := Lib.hid hrB
  have KB : kB ≤ 100000 := len512 hrB hdB.len.out (top_sq (by have := LTB.out; omega))
  clear hrB
  go_upto_region 24 with fail
  obtain ⟨V13, hV13⟩ : ∃ V13 : World, V13 = (w20.alloc (.cells #[.bool b.neg, .slice AB kB cB] 37)) := ⟨_, rfl⟩
  have bV13 : Below w20.heap.size w20 V13 := by rw [hV13]; (repeat (first | with_reducible exact Below.refl _ _ | with_reducible refine Below.drew ?_ | with_reducible refine below_drewN ?_ _ | with_reducible refine Below.setCell ?_ (by first | (simp; done) | (simp; omega) | omega) _ | with_reducible refine Below.alloc ?_ (by first | (simp; done) | (simp; omega) | omega) _))
  have zV13 : w20.heap.size + 1 ≤ V13.heap.size := by rw [hV13]; simp
  have P21 : Bk2 V13 (w20.heap.size) (.bool b.neg) (.slice AB kB cB) := by rw [hV13]; exact (Bk2.newAt _ _ (by simp) _ _ _)
  rw [← hV13]
  clear hV13
  replace E : Below w.heap.size w V13 := E.trans (bV13.mono E.size)
  replace HA : LRd V13 (w.heap.size) a.A a.n a.c a.xs := HA.below bV13 (by omega)
  replace HB : LRd V13 (w.heap.size) b.A b.n b.c b.xs := HB.below bV13 (by omega)
  replace PA : Bk2 V13 (w.heap.size) (.bool a.neg) (.slice a.A a.n a.c) := PA.below bV13 PA.lt
  replace PB : Bk2 V13 (w.heap.size + 1) (.bool b.neg) (.slice b.A b.n b.c) := PB.below bV13 PB.lt
  replace F7 : Bk2 V13 (w1.heap.size) (.int .i64 0) (.int .i64 0) := F7.below bV13 F7.lt
  replace hl8 : LRd V13 (w8.heap.size) A8 k8 c8 x8 := hl8.below bV13 (by omega)
  replace P8 : Bk2 V13 (w8.heap.size) (.bool m8) (.slice A8 k8 c8) := P8.below bV13 P8.lt
  replace F9 : Bk2 V13 (w8.heap.size + 1) (.int .i64 f8) (.int .i64 g8) := F9.below bV13 F9.lt
  replace hl10 : LRd V13 (w10.heap.size) A10 k10 c10 x10 := hl10.below bV13 (by omega)
  replace P10 : Bk2 V13 (w10.heap.size) (.bool m10) (.slice A10 k10 c10) := P10.below bV13 P10.lt
  replace F11 : Bk2 V13 (w10.heap.size + 1) (.int .i64 f10) (.int .i64 g10) := F11.below bV13 F11.lt
  replace hl12 : LRd V13 (w12.heap.size) A12 k12 c12 x12 := hl12.below bV13 (by omega)
  replace P12 : Bk2 V13 (w12.heap.size) (.bool m12) (.slice A12 k12 c12) := P12.below bV13 P12.lt
  replace F13 : Bk2 V13 (w12.heap.size + 1) (.int .i64 f12) (.int .i64 g12) := F13.below bV13 F13.lt
  replace P14 : Bk2 V13 (w14.heap.size) (.bool m14) (.slice A14 k14 c14) := P14.below bV13 P14.lt
  replace F15 : Bk2 V13 (w14.heap.size + 1) (.int .i64 f14) (.int .i64 g14) := F15.below bV13 F15.lt
  replace P16 : Bk2 V13 (w16.heap.size) (.bool false) (.slice A16 0 c16) := P16.below bV13 P16.lt
  replace F17 : Bk2 V13 (w16.heap.size + 1) (.int .i64 14) (.int .i64 (-1)) := F17.below bV13 F17.lt
  replace hdA : DRd V13 (w5.heap.size) AA kA cA zA := hdA.below bV13 (by omega)
  replace P19 : Bk2 V13 (w5.heap.size) (.bool a.neg) (.slice AA kA cA) := P19.below bV13 P19.lt
  replace hdB : DRd V13 (w20.heap.size) AB kB cB zB := hdB.below bV13 (by omega)
  clear bV13
  have G0 : Below V13.heap.size V13 V13.drew := Below.drew (Below.refl _ _)
  have HS := Lib.hid (fun (u : World) (hu : Below V13.heap.size V13 u) => (⟨hu, (P8.below hu P8.lt).c0, (P8.below hu P8.lt).c1, (F9.below hu F9.lt).c0, (F9.below hu F9.lt).c1, (P10.below hu P10.lt).c0, (P10.below hu P10.lt).c1, (F11.below hu F11.lt).c0, (F11.below hu F11.lt).c1, (P12.below hu P12.lt).c0, (P12.below hu P12.lt).c1, (F13.below hu F13.lt).c0, (F13.below hu F13.lt).c1, (P19.below hu P19.lt).c0, (P19.below hu P19.lt).c1, (P21.below hu P21.lt).c0, (P21.below hu P21.lt).c1, (F7.below hu F7.lt).c0, (F7.below hu F7.lt).c1⟩ : Below V13.heap.size V13 u ∧ u.cell? ⟨w8.heap.size, 0, none⟩ = some (.bool m8) ∧ u.cell? ⟨w8.heap.size, 1, none⟩ = some (.slice A8 k8 c8) ∧ u.cell? ⟨w8.heap.size + 1, 0, none⟩ = some (.int .i64 f8) ∧ u.cell? ⟨w8.heap.size + 1, 1, none⟩ = some (.int .i64 g8) ∧ u.cell? ⟨w10.heap.size, 0, none⟩ = some (.bool m10) ∧ u.cell? ⟨w10.heap.size, 1, none⟩ = some (.slice A10 k10 c10) ∧ u.cell? ⟨w10.heap.size + 1, 0, none⟩ = some (.int .i64 f10) ∧ u.cell? ⟨w10.heap.size + 1, 1, none⟩ = some (.int .i64 g10) ∧ u.cell? ⟨w12.heap.size, 0, none⟩ = some (.bool m12) ∧ u.cell? ⟨w12.heap.size, 1, none⟩ = some (.slice A12 k12 c12) ∧ u.cell? ⟨w12.heap.size + 1, 0, none⟩ = some (.int .i64 f12) ∧ u.cell? ⟨w12.heap.size + 1, 1, none⟩ = some (.int .i64 g12) ∧ u.cell? ⟨w5.heap.size, 0, none⟩ = some (.bool a.neg) ∧ u.cell? ⟨w5.heap.size, 1, none⟩ = some (.slice AA kA cA) ∧ u.cell? ⟨w20.heap.size, 0, none⟩ = some (.bool b.neg) ∧ u.cell? ⟨w20.heap.size, 1, none⟩ = some (.slice AB kB cB) ∧ u.cell? ⟨w1.heap.size, 0, none⟩ = some (.int .i64 0) ∧ u.cell? ⟨w1.heap.size, 1, none⟩ = some (.int .i64 0)))
  have g0s := G0.size
  go_region_held3 (fun u => Below V13.heap.size V13 u ∧ u.cell? ⟨w8.heap.size, 0, none⟩ = some (.bool m8) ∧ u.cell? ⟨w8.heap.size, 1, none⟩ = some (.slice A8 k8 c8) ∧ u.cell? ⟨w8.heap.size + 1, 0, none⟩ = some (.int .i64 f8) ∧ u.cell? ⟨w8.heap.size + 1, 1, none⟩ = some (.int .i64 g8) ∧ u.cell? ⟨w10.heap.size, 0, none⟩ = some (.bool m10) ∧ u.cell? ⟨w10.heap.size, 1, none⟩ = some (.slice A10 k10 c10) ∧ u.cell? ⟨w10.heap.size + 1, 0, none⟩ = some (.int .i64 f10) ∧ u.cell? ⟨w10.heap.size + 1, 1, none⟩ = some (.int .i64 g10) ∧ u.cell? ⟨w12.heap.size, 0, none⟩ = some (.bool m12) ∧ u.cell? ⟨w12.heap.size, 1, none⟩ = some (.slice A12 k12 c12) ∧ u.cell? ⟨w12.heap.size + 1, 0, none⟩ = some (.int .i64 f12) ∧ u.cell? ⟨w12.heap.size + 1, 1, none⟩ = some (.int .i64 g12) ∧ u.cell? ⟨w5.heap.size, 0, none⟩ = some (.bool a.neg) ∧ u.cell? ⟨w5.heap.size, 1, none⟩ = some (.slice AA kA cA) ∧ u.cell? ⟨w20.heap.size, 0, none⟩ = some (.bool b.neg) ∧ u.cell? ⟨w20.heap.size, 1, none⟩ = some (.slice AB kB cB) ∧ u.cell? ⟨w1.heap.size, 0, none⟩ = some (.int .i64 0) ∧ u.cell? ⟨w1.heap.size, 1, none⟩ = some (.int .i64 0)) (first | with_reducible exact HS.out _ G0 | with_reducible exact HS.out _ B6 | with_reducible exact HS.out _ B5 | with_reducible exact HS.out _ B4 | with_reducible exact HS.out _ B3 | with_reducible exact HS.out _ B2 | with_reducible exact HS.out _ B1 | (refine HS.out _ ?_; (repeat (first | with_reducible exact G0 | with_reducible exact B6 | with_reducible exact B5 | with_reducible exact B4 | with_reducible exact B3 | with_reducible exact B2 | with_reducible exact B1 | with_reducible exact Below.refl _ _ | with_reducible refine Below.drew ?_ | with_reducible refine below_drewN ?_ _)); done) | fail)
    (first
      | (go_at_call 55; (with_reducible refine (bitwise_and _ V13.heap.size a.neg b.neg AA AB kA cA kB cB (vb 4294967296 a.xs) (vb 4294967296 b.xs) zA zB ((hdA.below G0 (by omega)).more (by omega)) ((hdB.below G0 (by omega)).more (by omega)) (by have := G0.size; omega) KA KB RA.out RB.out).mono ?_); rintro e r1 ⟨q1, hz1, m1, A1, k1, c1, x1, v1, rfl, hd1, hr1, hv1, hb1⟩; have B1 : Below V13.heap.size V13 r1 := bnext G0 hb1; have VV1 := Lib.hid (show sval m1 v1 = y8 from hv1.trans (ZOp.uniq hz1 Z8.out)); have RR1 := Lib.hid hr1; have KK1 := k_small hr1 hd1.len.out VV1.out (zop_sq Z8.out HIA.out HIB.out); clear hz1 hv1 hr1)
      | (go_at_call 30; (with_reducible refine (yieldsv _ r1.heap.size m8 A8 k8 c8 x8 m1 A1 k1 c1 v1 x1 y8 z8 f8 g8 ((hl8.below B1 (by omega)).more (by have := B1.size; omega)) hd1 (Nat.le_refl _) Y8.out R8.out RR1.out VV1.out KK1).mono ?_); rintro e r2 ⟨rfl, hb2⟩; have B2 : Below V13.heap.size V13 r2 := bnext B1 hb2)
      | (go_at_call 55; (with_reducible refine (bitwise_or _ V13.heap.size a.neg b.neg AA AB kA cA kB cB (vb 4294967296 a.xs) (vb 4294967296 b.xs) zA zB ((hdA.below B2 (by omega)).more (by omega)) ((hdB.below B2 (by omega)).more (by omega)) (by have := B2.size; omega) KA KB RA.out RB.out).mono ?_); rintro e r3 ⟨q3, hz3, m3, A3, k3, c3, x3, v3, rfl, hd3, hr3, hv3, hb3⟩; have B3 : Below V13.heap.size V13 r3 := bnext B2 hb3; have VV3 := Lib.hid (show sval m3 v3 = y10 from hv3.trans (ZOp.uniq hz3 Z10.out)); have RR3 := Lib.hid hr3; have KK3 := k_small hr3 hd3.len.out VV3.out (zop_sq Z10.out HIA.out HIB.out); clear hz3 hv3 hr3)
      | (go_at_call 30; (with_reducible refine (yieldsv _ r3.heap.size m10 A10 k10 c10 x10 m3 A3 k3 c3 v3 x3 y10 z10 f10 g10 ((hl10.below B3 (by omega)).more (by have := B3.size; omega)) hd3 (Nat.le_refl _) Y10.out R10.out RR3.out VV3.out KK3).mono ?_); rintro e r4 ⟨rfl, hb4⟩; have B4 : Below V13.heap.size V13 r4 := bnext B3 hb4)
      | (go_at_call 55; (with_reducible refine (bitwise_xor _ V13.heap.size a.neg b.neg AA AB kA cA kB cB (vb 4294967296 a.xs) (vb 4294967296 b.xs) zA zB ((hdA.below B4 (by omega)).more (by omega)) ((hdB.below B4 (by omega)).more (by omega)) (by have := B4.size; omega) KA KB RA.out RB.out).mono ?_); rintro e r5 ⟨q5, hz5, m5, A5, k5, c5, x5, v5, rfl, hd5, hr5, hv5, hb5⟩; have B5 : Below V13.heap.size V13 r5 := bnext B4 hb5; have VV5 := Lib.hid (show sval m5 v5 = y12 from hv5.trans (ZOp.uniq hz5 Z12.out)); have RR5 := Lib.hid hr5; have KK5 := k_small hr5 hd5.len.out VV5.out (zop_sq Z12.out HIA.out HIB.out); clear hz5 hv5 hr5)
      | (go_at_call 30; (with_reducible refine (yieldsv _ r5.heap.size m12 A12 k12 c12 x12 m5 A5 k5 c5 v5 x5 y12 z12 f12 g12 ((hl12.below B5 (by omega)).more (by have := B5.size; omega)) hd5 (Nat.le_refl _) Y12.out R12.out RR5.out VV5.out KK5).mono ?_); rintro e r6 ⟨rfl, hb6⟩; have B6 : Below V13.heap.size V13 r6 := bnext B5 hb6)
      | fail)
  all_goals (go_wp2_with fail)
  all_goals go_ret
  all_goals exact ⟨by first | rfl | (simp; done), E.trans (B6.mono E.size)⟩
end Go.Proofs.Ytpjfoggohhlbdaa
