/- IntegerArithmetic: the law at valid arguments. -/
import Derived.Test.YtpidkionieaffaaKAri1
import Derived.Deep.Cut
import Derived.Deep.CutRange
namespace Go.Proofs.Ytpidkionieaffaa
open Go.RowKit
set_option maxHeartbeats 400000
set_option maxRecDepth 100000
set_option linter.unusedSimpArgs false
set_option linter.unusedVariables false

theorem Bk2.next {w w' : World} {g : Nat} {u v : Value} (h : Bk2 w g u v) (hb : Below w.heap.size w w') : Bk2 w' g u v := h.below hb h.lt
theorem yields_any' (w : World) (B : Nat) (n : Bool) (A : Option Addr) (l c : Nat) (xs : List Nat) (m : Bool) (D : Option Addr) (k d v : Nat) (zs : List Nat) (z z' f1 f2 : Int) (HA : LRd w B A l c xs) (HD : DRd w B D k d zs) (hB : B ≤ w.heap.size) (hy : YR z z' f1 f2) (hI : IRep n xs z') (hz : Rep 65536 zs v) (hv : sval m v = z) (hk : k ≤ 100000) :
    Calls Try.prog 30 #[intv n A l c, flt f1 f2, intv m D k d, flt 0 0] w (fun e w' => e = .returned (.bool true) ∧ Below w.heap.size w w') := yields_any w B (IV.mk n A l c xs) m D k d v zs z z' f1 f2 HA HD hB hy hI hz hv hk
set_option maxHeartbeats 8000000 in
theorem iari_good (w : World) (a b : IV) (HA : a.at w w.heap.size) (HB : b.at w w.heap.size) (oa : a.ok = true) (ob : b.ok = true) :
    Calls Try.prog 4 #[a.v, b.v] w (fun e w' => e = .returned (.bool true) ∧ Below w.heap.size w w') := by
  replace HA : LRd w w.heap.size a.A a.n a.c a.xs := HA
  replace HB : LRd w w.heap.size b.A b.n b.c b.xs := HB
  have E : Below w.heap.size w w := Below.refl _ _
  have IR := Lib.hid (irow2 ((w.alloc a.cells).alloc b.cells) w.heap.size a b ((HA.alloc (Nat.le_refl _) _).alloc (by simp) _) ((HB.alloc (Nat.le_refl _) _).alloc (by simp) _) (by simp; omega))
  go_enter Try.func4, Try.ntmps4
  go_wp2_with fail
  obtain ⟨V0, hV0⟩ : ∃ V0 : World, V0 = (((w.alloc (.cells #[.bool a.neg, .slice a.A a.n a.c] 24)).alloc (.cells #[.bool b.neg, .slice b.A b.n b.c] 24)).alloc (.cells #[.bool a.neg, .slice a.A a.n a.c, .bool b.neg, .slice b.A b.n b.c] 24)) := ⟨_, rfl⟩
  have bV0 : Below w.heap.size w V0 := by rw [hV0]; (repeat (first | with_reducible exact Below.refl _ _ | with_reducible refine Below.drew ?_ | with_reducible refine below_drewN ?_ _ | with_reducible refine Below.setCell ?_ (by first | (simp; done) | (simp; omega) | omega) _ | with_reducible refine Below.alloc ?_ (by first | (simp; done) | (simp; omega) | omega) _))
  have zV0 : w.heap.size + 3 ≤ V0.heap.size := by rw [hV0]; simp
  have PA : Bk2 V0 (w.heap.size) (.bool a.neg) (.slice a.A a.n a.c) := by rw [hV0]; exact (((Bk2.newAt _ _ (by simp) _ _ _).alloc _).alloc _)
  have PB : Bk2 V0 (w.heap.size + 1) (.bool b.neg) (.slice b.A b.n b.c) := by rw [hV0]; exact ((Bk2.newAt _ _ (by simp) _ _ _).alloc _)
  replace IR : Hid (IRow V0 w.heap.size (w.heap.size + 2) [a, b]) := by have h9 := IR.out; rw [hV0]; rw [show ((w.alloc a.cells).alloc b.cells).heap.size = w.heap.size + 2 by simp] at h9; exact h9
  rw [← hV0]
  clear hV0
  replace E : Below w.heap.size w V0 := E.trans (bV0.mono E.size)
  replace HA : LRd V0 (w.heap.size) a.A a.n a.c a.xs := HA.below bV0 (by omega)
  replace HB : LRd V0 (w.heap.size) b.A b.n b.c b.xs := HB.below bV0 (by omega)
  clear bV0
  (with_reducible refine (faults_any _ w.heap.size (w.heap.size + 2) 2 [a, b] IR.out rfl (by omega) (by omega)).mono ?_)
  rintro e w1 ⟨rfl, hb1⟩
  have sw1 := hb1.size
  replace E : Below w.heap.size w w1 := E.trans (hb1.mono E.size)
  replace HA : LRd w1 (w.heap.size) a.A a.n a.c a.xs := HA.below hb1 (by omega)
  replace HB : LRd w1 (w.heap.size) b.A b.n b.c b.xs := HB.below hb1 (by omega)
  replace PA : Bk2 w1 (w.heap.size) (.bool a.neg) (.slice a.A a.n a.c) := PA.below hb1 PA.lt
  replace PB : Bk2 w1 (w.heap.size + 1) (.bool b.neg) (.slice b.A b.n b.c) := PB.below hb1 PB.lt
  clear hb1
  rw [two_ok oa ob]
  clear IR
  have t_PA0 : (w1.alloc (.cells #[.int .i64 0, .int .i64 0] 26)).cell? ⟨w.heap.size, 0, none⟩ = some ((.bool a.neg)) := (PA.alloc _).c0
  have t_PA1 : (w1.alloc (.cells #[.int .i64 0, .int .i64 0] 26)).cell? ⟨w.heap.size, 1, none⟩ = some ((.slice a.A a.n a.c)) := (PA.alloc _).c1
  have t_PB0 : (w1.alloc (.cells #[.int .i64 0, .int .i64 0] 26)).cell? ⟨w.heap.size + 1, 0, none⟩ = some ((.bool b.neg)) := (PB.alloc _).c0
  have t_PB1 : (w1.alloc (.cells #[.int .i64 0, .int .i64 0] 26)).cell? ⟨w.heap.size + 1, 1, none⟩ = some ((.slice b.A b.n b.c)) := (PB.alloc _).c1
  go_wp2_with fail
  clear t_PA0 t_PA1 t_PB0 t_PB1
  obtain ⟨V1, hV1⟩ : ∃ V1 : World, V1 = (w1.alloc (.cells #[.int .i64 0, .int .i64 0] 26)) := ⟨_, rfl⟩
  have bV1 : Below w1.heap.size w1 V1 := by rw [hV1]; (repeat (first | with_reducible exact Below.refl _ _ | with_reducible refine Below.drew ?_ | with_reducible refine below_drewN ?_ _ | with_reducible refine Below.setCell ?_ (by first | (simp; done) | (simp; omega) | omega) _ | with_reducible refine Below.alloc ?_ (by first | (simp; done) | (simp; omega) | omega) _))
  have zV1 : w1.heap.size + 1 ≤ V1.heap.size := by rw [hV1]; simp
  have F5 : Bk2 V1 (w1.heap.size) (.int .i64 0) (.int .i64 0) := by rw [hV1]; exact (Bk2.newAt _ _ (by simp) _ _ _)
  rw [← hV1]
  clear hV1
  replace E : Below w.heap.size w V1 := E.trans (bV1.mono E.size)
  replace HA : LRd V1 (w.heap.size) a.A a.n a.c a.xs := HA.below bV1 (by omega)
  replace HB : LRd V1 (w.heap.size) b.A b.n b.c b.xs := HB.below bV1 (by omega)
  replace PA : Bk2 V1 (w.heap.size) (.bool a.neg) (.slice a.A a.n a.c) := PA.below bV1 PA.lt
  replace PB : Bk2 V1 (w.heap.size + 1) (.bool b.neg) (.slice b.A b.n b.c) := PB.below bV1 PB.lt
  clear bV1
  have HS := Lib.hid (iadd_ok _ w.heap.size a b HA HB (by omega) oa ob)
  refine HS.out.mono ?_
  intro e w6 hgv
  clear HS
  obtain ⟨z6, f6, g6, hy6, n6, A6, k6, c6, x6, rfl, hl6, hr6, hb6⟩ := vl_yr hgv
  clear hgv
  have Y6 := Lib.hid hy6
  have I6 := Lib.hid hr6
  have s6 := hb6.size
  clear hy6 hr6
  replace E : Below w.heap.size w w6 := E.trans (hb6.mono E.size)
  replace HA : LRd w6 (w.heap.size) a.A a.n a.c a.xs := HA.below hb6 (by omega)
  replace HB : LRd w6 (w.heap.size) b.A b.n b.c b.xs := HB.below hb6 (by omega)
  replace PA : Bk2 w6 (w.heap.size) (.bool a.neg) (.slice a.A a.n a.c) := PA.below hb6 PA.lt
  replace PB : Bk2 w6 (w.heap.size + 1) (.bool b.neg) (.slice b.A b.n b.c) := PB.below hb6 PB.lt
  replace F5 : Bk2 w6 (w1.heap.size) (.int .i64 0) (.int .i64 0) := F5.below hb6 F5.lt
  clear hb6
  have t_PA0 : ((w6.alloc (.cells #[.bool n6, .slice A6 k6 c6] 24)).alloc (.cells #[.int .i64 f6, .int .i64 g6] 26)).cell? ⟨w.heap.size, 0, none⟩ = some ((.bool a.neg)) := ((PA.alloc _).alloc _).c0
  have t_PA1 : ((w6.alloc (.cells #[.bool n6, .slice A6 k6 c6] 24)).alloc (.cells #[.int .i64 f6, .int .i64 g6] 26)).cell? ⟨w.heap.size, 1, none⟩ = some ((.slice a.A a.n a.c)) := ((PA.alloc _).alloc _).c1
  have t_PB0 : ((w6.alloc (.cells #[.bool n6, .slice A6 k6 c6] 24)).alloc (.cells #[.int .i64 f6, .int .i64 g6] 26)).cell? ⟨w.heap.size + 1, 0, none⟩ = some ((.bool b.neg)) := ((PB.alloc _).alloc _).c0
  have t_PB1 : ((w6.alloc (.cells #[.bool n6, .slice A6 k6 c6] 24)).alloc (.cells #[.int .i64 f6, .int .i64 g6] 26)).cell? ⟨w.heap.size + 1, 1, none⟩ = some ((.slice b.A b.n b.c)) := ((PB.alloc _).alloc _).c1
  go_wp2_with fail
  clear t_PA0 t_PA1 t_PB0 t_PB1
  obtain ⟨V2, hV2⟩ : ∃ V2 : World, V2 = ((w6.alloc (.cells #[.bool n6, .slice A6 k6 c6] 24)).alloc (.cells #[.int .i64 f6, .int .i64 g6] 26)) := ⟨_, rfl⟩
  have bV2 : Below w6.heap.size w6 V2 := by rw [hV2]; (repeat (first | with_reducible exact Below.refl _ _ | with_reducible refine Below.drew ?_ | with_reducible refine below_drewN ?_ _ | with_reducible refine Below.setCell ?_ (by first | (simp; done) | (simp; omega) | omega) _ | with_reducible refine Below.alloc ?_ (by first | (simp; done) | (simp; omega) | omega) _))
  have zV2 : w6.heap.size + 2 ≤ V2.heap.size := by rw [hV2]; simp
  have P6 : Bk2 V2 (w6.heap.size) (.bool n6) (.slice A6 k6 c6) := by rw [hV2]; exact ((Bk2.newAt _ _ (by simp) _ _ _).alloc _)
  have F7 : Bk2 V2 (w6.heap.size + 1) (.int .i64 f6) (.int .i64 g6) := by rw [hV2]; exact (Bk2.newAt _ _ (by simp) _ _ _)
  rw [← hV2]
  clear hV2
  replace E : Below w.heap.size w V2 := E.trans (bV2.mono E.size)
  replace HA : LRd V2 (w.heap.size) a.A a.n a.c a.xs := HA.below bV2 (by omega)
  replace HB : LRd V2 (w.heap.size) b.A b.n b.c b.xs := HB.below bV2 (by omega)
  replace PA : Bk2 V2 (w.heap.size) (.bool a.neg) (.slice a.A a.n a.c) := PA.below bV2 PA.lt
  replace PB : Bk2 V2 (w.heap.size + 1) (.bool b.neg) (.slice b.A b.n b.c) := PB.below bV2 PB.lt
  replace F5 : Bk2 V2 (w1.heap.size) (.int .i64 0) (.int .i64 0) := F5.below bV2 F5.lt
  replace hl6 : LRd V2 (w6.heap.size) A6 k6 c6 x6 := hl6.below bV2 (by omega)
  clear bV2
  have HS := Lib.hid (isub_ok _ w.heap.size a b HA HB (by omega) oa ob)
  refine HS.out.mono ?_
  intro e w8 hgv
  clear HS
  rw [neg_sub] at hgv
  obtain ⟨z8, f8, g8, hy8, n8, A8, k8, c8, x8, rfl, hl8, hr8, hb8⟩ := vl_yr hgv
  clear hgv
  have Y8 := Lib.hid hy8
  have I8 := Lib.hid hr8
  have s8 := hb8.size
  clear hy8 hr8
  replace E : Below w.heap.size w w8 := E.trans (hb8.mono E.size)
  replace HA : LRd w8 (w.heap.size) a.A a.n a.c a.xs := HA.below hb8 (by omega)
  replace HB : LRd w8 (w.heap.size) b.A b.n b.c b.xs := HB.below hb8 (by omega)
  replace PA : Bk2 w8 (w.heap.size) (.bool a.neg) (.slice a.A a.n a.c) := PA.below hb8 PA.lt
  replace PB : Bk2 w8 (w.heap.size + 1) (.bool b.neg) (.slice b.A b.n b.c) := PB.below hb8 PB.lt
  replace F5 : Bk2 w8 (w1.heap.size) (.int .i64 0) (.int .i64 0) := F5.below hb8 F5.lt
  replace hl6 : LRd w8 (w6.heap.size) A6 k6 c6 x6 := hl6.below hb8 (by omega)
  replace P6 : Bk2 w8 (w6.heap.size) (.bool n6) (.slice A6 k6 c6) := P6.below hb8 P6.lt
  replace F7 : Bk2 w8 (w6.heap.size + 1) (.int .i64 f6) (.int .i64 g6) := F7.below hb8 F7.lt
  clear hb8
  have t_PA0 : ((w8.alloc (.cells #[.bool n8, .slice A8 k8 c8] 24)).alloc (.cells #[.int .i64 f8, .int .i64 g8] 26)).cell? ⟨w.heap.size, 0, none⟩ = some ((.bool a.neg)) := ((PA.alloc _).alloc _).c0
  have t_PA1 : ((w8.alloc (.cells #[.bool n8, .slice A8 k8 c8] 24)).alloc (.cells #[.int .i64 f8, .int .i64 g8] 26)).cell? ⟨w.heap.size, 1, none⟩ = some ((.slice a.A a.n a.c)) := ((PA.alloc _).alloc _).c1
  have t_PB0 : ((w8.alloc (.cells #[.bool n8, .slice A8 k8 c8] 24)).alloc (.cells #[.int .i64 f8, .int .i64 g8] 26)).cell? ⟨w.heap.size + 1, 0, none⟩ = some ((.bool b.neg)) := ((PB.alloc _).alloc _).c0
  have t_PB1 : ((w8.alloc (.cells #[.bool n8, .slice A8 k8 c8] 24)).alloc (.cells #[.int .i64 f8, .int .i64 g8] 26)).cell? ⟨w.heap.size + 1, 1, none⟩ = some ((.slice b.A b.n b.c)) := ((PB.alloc _).alloc _).c1
  go_wp2_with fail
  clear t_PA0 t_PA1 t_PB0 t_PB1
  obtain ⟨V3, hV3⟩ : ∃ V3 : World, V3 = ((w8.alloc (.cells #[.bool n8, .slice A8 k8 c8] 24)).alloc (.cells #[.int .i64 f8, .int .i64 g8] 26)) := ⟨_, rfl⟩
  have bV3 : Below w8.heap.size w8 V3 := by rw [hV3]; (repeat (first | with_reducible exact Below.refl _ _ | with_reducible refine Below.drew ?_ | with_reducible refine below_drewN ?_ _ | with_reducible refine Below.setCell ?_ (by first | (simp; done) | (simp; omega) | omega) _ | with_reducible refine Below.alloc ?_ (by first | (simp; done) | (simp; omega) | omega) _))
  have zV3 : w8.heap.size + 2 ≤ V3.heap.size := by rw [hV3]; simp
  have P8 : Bk2 V3 (w8.heap.size) (.bool n8) (.slice A8 k8 c8) := by rw [hV3]; exact ((Bk2.newAt _ _ (by simp) _ _ _).alloc _)
  have F9 : Bk2 V3 (w8.heap.size + 1) (.int .i64 f8) (.int .i64 g8) := by rw [hV3]; exact (Bk2.newAt _ _ (by simp) _ _ _)
  rw [← hV3]
  clear hV3
  replace E : Below w.heap.size w V3 := E.trans (bV3.mono E.size)
  replace HA : LRd V3 (w.heap.size) a.A a.n a.c a.xs := HA.below bV3 (by omega)
  replace HB : LRd V3 (w.heap.size) b.A b.n b.c b.xs := HB.below bV3 (by omega)
  replace PA : Bk2 V3 (w.heap.size) (.bool a.neg) (.slice a.A a.n a.c) := PA.below bV3 PA.lt
  replace PB : Bk2 V3 (w.heap.size + 1) (.bool b.neg) (.slice b.A b.n b.c) := PB.below bV3 PB.lt
  replace F5 : Bk2 V3 (w1.heap.size) (.int .i64 0) (.int .i64 0) := F5.below bV3 F5.lt
  replace hl6 : LRd V3 (w6.heap.size) A6 k6 c6 x6 := hl6.below bV3 (by omega)
  replace P6 : Bk2 V3 (w6.heap.size) (.bool n6) (.slice A6 k6 c6) := P6.below bV3 P6.lt
  replace F7 : Bk2 V3 (w6.heap.size + 1) (.int .i64 f6) (.int .i64 g6) := F7.below bV3 F7.lt
  replace hl8 : LRd V3 (w8.heap.size) A8 k8 c8 x8 := hl8.below bV3 (by omega)
  clear bV3
  have HS := Lib.hid (imul_ok _ w.heap.size a b HA HB (by omega) oa ob)
  refine HS.out.mono ?_
  intro e w10 hgv
  clear HS
  obtain ⟨z10, f10, g10, hy10, n10, A10, k10, c10, x10, rfl, hl10, hr10, hb10⟩ := vl_yr hgv
  clear hgv
  have Y10 := Lib.hid hy10
  have I10 := Lib.hid hr10
  have s10 := hb10.size
  clear hy10 hr10
  replace E : Below w.heap.size w w10 := E.trans (hb10.mono E.size)
  replace HA : LRd w10 (w.heap.size) a.A a.n a.c a.xs := HA.below hb10 (by omega)
  replace HB : LRd w10 (w.heap.size) b.A b.n b.c b.xs := HB.below hb10 (by omega)
  replace PA : Bk2 w10 (w.heap.size) (.bool a.neg) (.slice a.A a.n a.c) := PA.below hb10 PA.lt
  replace PB : Bk2 w10 (w.heap.size + 1) (.bool b.neg) (.slice b.A b.n b.c) := PB.below hb10 PB.lt
  replace F5 : Bk2 w10 (w1.heap.size) (.int .i64 0) (.int .i64 0) := F5.below hb10 F5.lt
  replace hl6 : LRd w10 (w6.heap.size) A6 k6 c6 x6 := hl6.below hb10 (by omega)
  replace P6 : Bk2 w10 (w6.heap.size) (.bool n6) (.slice A6 k6 c6) := P6.below hb10 P6.lt
  replace F7 : Bk2 w10 (w6.heap.size + 1) (.int .i64 f6) (.int .i64 g6) := F7.below hb10 F7.lt
  replace hl8 : LRd w10 (w8.heap.size) A8 k8 c8 x8 := hl8.below hb10 (by omega)
  replace P8 : Bk2 w10 (w8.heap.size) (.bool n8) (.slice A8 k8 c8) := P8.below hb10 P8.lt
  replace F9 : Bk2 w10 (w8.heap.size + 1) (.int .i64 f8) (.int .i64 g8) := F9.below hb10 F9.lt
  clear hb10
  go_wp2_with fail
  obtain ⟨V4, hV4⟩ : ∃ V4 : World, V4 = ((w10.alloc (.cells #[.bool n10, .slice A10 k10 c10] 24)).alloc (.cells #[.int .i64 f10, .int .i64 g10] 26)) := ⟨_, rfl⟩
  have bV4 : Below w10.heap.size w10 V4 := by rw [hV4]; (repeat (first | with_reducible exact Below.refl _ _ | with_reducible refine Below.drew ?_ | with_reducible refine below_drewN ?_ _ | with_reducible refine Below.setCell ?_ (by first | (simp; done) | (simp; omega) | omega) _ | with_reducible refine Below.alloc ?_ (by first | (simp; done) | (simp; omega) | omega) _))
  have zV4 : w10.heap.size + 2 ≤ V4.heap.size := by rw [hV4]; simp
  have P10 : Bk2 V4 (w10.heap.size) (.bool n10) (.slice A10 k10 c10) := by rw [hV4]; exact ((Bk2.newAt _ _ (by simp) _ _ _).alloc _)
  have F11 : Bk2 V4 (w10.heap.size + 1) (.int .i64 f10) (.int .i64 g10) := by rw [hV4]; exact (Bk2.newAt _ _ (by simp) _ _ _)
  rw [← hV4]
  clear hV4
  replace E : Below w.heap.size w V4 := E.trans (bV4.mono E.size)
  replace HA : LRd V4 (w.heap.size) a.A a.n a.c a.xs := HA.below bV4 (by omega)
  replace HB : LRd V4 (w.heap.size) b.A b.n b.c b.xs := HB.below bV4 (by omega)
  replace PA : Bk2 V4 (w.heap.size) (.bool a.neg) (.slice a.A a.n a.c) := PA.below bV4 PA.lt
  replace PB : Bk2 V4 (w.heap.size + 1) (.bool b.neg) (.slice b.A b.n b.c) := PB.below bV4 PB.lt
  replace F5 : Bk2 V4 (w1.heap.size) (.int .i64 0) (.int .i64 0) := F5.below bV4 F5.lt
  replace hl6 : LRd V4 (w6.heap.size) A6 k6 c6 x6 := hl6.below bV4 (by omega)
  replace P6 : Bk2 V4 (w6.heap.size) (.bool n6) (.slice A6 k6 c6) := P6.below bV4 P6.lt
  replace F7 : Bk2 V4 (w6.heap.size + 1) (.int .i64 f6) (.int .i64 g6) := F7.below bV4 F7.lt
  replace hl8 : LRd V4 (w8.heap.size) A8 k8 c8 x8 := hl8.below bV4 (by omega)
  replace P8 : Bk2 V4 (w8.heap.size) (.bool n8) (.slice A8 k8 c8) := P8.below bV4 P8.lt
  replace F9 : Bk2 V4 (w8.heap.size + 1) (.int .i64 f8) (.int .i64 g8) := F9.below bV4 F9.lt
  replace hl10 : LRd V4 (w10.heap.size) A10 k10 c10 x10 := hl10.below bV4 (by omega)
  clear bV4
  (with_reducible refine (counts_any _).mono ?_)
  rintro e w12 ⟨rfl, hb12⟩
  have sw12 := hb12.size
  replace E : Below w.heap.size w w12 := E.trans (hb12.mono E.size)
  replace HA : LRd w12 (w.heap.size) a.A a.n a.c a.xs := HA.below hb12 (by omega)
  replace HB : LRd w12 (w.heap.size) b.A b.n b.c b.xs := HB.below hb12 (by omega)
  replace PA : Bk2 w12 (w.heap.size) (.bool a.neg) (.slice a.A a.n a.c) := PA.below hb12 PA.lt
  replace PB : Bk2 w12 (w.heap.size + 1) (.bool b.neg) (.slice b.A b.n b.c) := PB.below hb12 PB.lt
  replace F5 : Bk2 w12 (w1.heap.size) (.int .i64 0) (.int .i64 0) := F5.below hb12 F5.lt
  replace hl6 : LRd w12 (w6.heap.size) A6 k6 c6 x6 := hl6.below hb12 (by omega)
  replace P6 : Bk2 w12 (w6.heap.size) (.bool n6) (.slice A6 k6 c6) := P6.below hb12 P6.lt
  replace F7 : Bk2 w12 (w6.heap.size + 1) (.int .i64 f6) (.int .i64 g6) := F7.below hb12 F7.lt
  replace hl8 : LRd w12 (w8.heap.size) A8 k8 c8 x8 := hl8.below hb12 (by omega)
  replace P8 : Bk2 w12 (w8.heap.size) (.bool n8) (.slice A8 k8 c8) := P8.below hb12 P8.lt
  replace F9 : Bk2 w12 (w8.heap.size + 1) (.int .i64 f8) (.int .i64 g8) := F9.below hb12 F9.lt
  replace hl10 : LRd w12 (w10.heap.size) A10 k10 c10 x10 := hl10.below hb12 (by omega)
  replace P10 : Bk2 w12 (w10.heap.size) (.bool n10) (.slice A10 k10 c10) := P10.below hb12 P10.lt
  replace F11 : Bk2 w12 (w10.heap.size + 1) (.int .i64 f10) (.int .i64 g10) := F11.below hb12 F11.lt
  clear hb12
  have t0 := F5.c0
  go_upto_region 9 with fail
  clear t0
  go_cut [12, 13] (fun s12 s13 wx => R9 w12 a.val b.val s12 s13 wx)
  case first =>
    have G0 : Below w12.heap.size w12 w12.drew := Below.drew (Below.refl _ _)
    have TA := fun (u : World) (hu : Below w12.heap.size w12 u) => intOf_any u w.heap.size a.neg a.A a.n a.c a.xs (HA.below hu (by omega)) (by have := hu.size; omega) (by have := HA.len.out; have := (IV.vld oa).2; omega)
    have TB := fun (u : World) (hu : Below w12.heap.size w12 u) => intOf_any u w.heap.size b.neg b.A b.n b.c b.xs (HB.below hu (by omega)) (by have := hu.size; omega) (by have := HB.len.out; have := (IV.vld ob).2; omega)
    have HS := Lib.hid (fun (u : World) (hu : Below w12.heap.size w12 u) => (⟨hu, (PA.below hu PA.lt).c0, (PA.below hu PA.lt).c1, (PB.below hu PB.lt).c0, (PB.below hu PB.lt).c1⟩ : Below w12.heap.size w12 u ∧ u.cell? ⟨w.heap.size, 0, none⟩ = some (.bool a.neg) ∧ u.cell? ⟨w.heap.size, 1, none⟩ = some (.slice a.A a.n a.c) ∧ u.cell? ⟨w.heap.size + 1, 0, none⟩ = some (.bool b.neg) ∧ u.cell? ⟨w.heap.size + 1, 1, none⟩ = some (.slice b.A b.n b.c)))
    go_region_held3 (fun u => Below w12.heap.size w12 u ∧ u.cell? ⟨w.heap.size, 0, none⟩ = some (.bool a.neg) ∧ u.cell? ⟨w.heap.size, 1, none⟩ = some (.slice a.A a.n a.c) ∧ u.cell? ⟨w.heap.size + 1, 0, none⟩ = some (.bool b.neg) ∧ u.cell? ⟨w.heap.size + 1, 1, none⟩ = some (.slice b.A b.n b.c))
      (first | with_reducible exact HS.out _ G0 | with_reducible exact HS.out _ HBQ | with_reducible exact HS.out _ HBP | (refine HS.out _ ?_; (repeat (first | with_reducible exact G0 | with_reducible exact HBQ | with_reducible exact HBP | with_reducible exact Below.refl _ _ | with_reducible refine Below.drew ?_ | with_reducible refine Below.alloc ?_ (by first | (simp; done) | (have := HBQ.size; simp; omega) | (have := HBP.size; simp; omega)) _ | with_reducible refine Below.setCell ?_ (by first | (simp; done) | (have := HBQ.size; simp; omega) | (have := HBP.size; simp; omega)) _)); done) | fail)
      (first
        | (go_at_call 27; (with_reducible refine (TA _ ?_).mono ?_); (repeat (first | with_reducible exact G0 | with_reducible exact HBQ | with_reducible exact HBP | with_reducible exact Below.refl _ _ | with_reducible refine Below.drew ?_ | with_reducible refine Below.alloc ?_ (by first | (simp; done) | (have := HBQ.size; simp; omega) | (have := HBP.size; simp; omega)) _ | with_reducible refine Below.setCell ?_ (by first | (simp; done) | (have := HBQ.size; simp; omega) | (have := HBP.size; simp; omega)) _)); rintro e wp ⟨mp, Ap, kp, cp, xp, vp, rfl, hdp, hrp, hvp, hbp⟩; have HBP : Below w12.heap.size w12 wp := (by refine bnext ?_ hbp; (repeat (first | with_reducible exact G0 | with_reducible exact HBQ | with_reducible exact HBP | with_reducible exact Below.refl _ _ | with_reducible refine Below.drew ?_ | with_reducible refine Below.alloc ?_ (by first | (simp; done) | (have := HBQ.size; simp; omega) | (have := HBP.size; simp; omega)) _ | with_reducible refine Below.setCell ?_ (by first | (simp; done) | (have := HBQ.size; simp; omega) | (have := HBP.size; simp; omega)) _))); have RP := Lib.hid hrp; have VP := Lib.hid hvp; clear hrp hvp; (first | (have q1 : Bk2 wp (w12.heap.size) (.bool false) (.slice none 0 0) := Bk2.next (Bk2.drew (Bk2.new w12 _ _ _)) hbp; obtain ⟨_, _, _, _, _⟩ := id q1) | (have q1 : Bk2 wp (w12.heap.size) (.bool false) (.slice none 0 0) := Bk2.next (Bk2.drew (Bk2.alloc (Bk2.new w12 _ _ _) _)) hbp; obtain ⟨_, _, _, _, _⟩ := id q1) | skip); (first | (have q2 : Bk2 wp (w12.heap.size + 1) (.bool false) (.slice none 0 0) := Bk2.next (Bk2.drew (Bk2.newAt (w12.alloc _) _ (by simp) _ _ _)) hbp; obtain ⟨_, _, _, _, _⟩ := id q2) | skip))
        | (go_at_call 27; (with_reducible refine (TB _ ?_).mono ?_); (repeat (first | with_reducible exact G0 | with_reducible exact HBQ | with_reducible exact HBP | with_reducible exact Below.refl _ _ | with_reducible refine Below.drew ?_ | with_reducible refine Below.alloc ?_ (by first | (simp; done) | (have := HBQ.size; simp; omega) | (have := HBP.size; simp; omega)) _ | with_reducible refine Below.setCell ?_ (by first | (simp; done) | (have := HBQ.size; simp; omega) | (have := HBP.size; simp; omega)) _)); rintro e wq ⟨mq, Aq, kq, cq, xq, vq, rfl, hdq, hrq, hvq, hbq⟩; have HBQ : Below w12.heap.size w12 wq := (by refine bnext ?_ hbq; (repeat (first | with_reducible exact G0 | with_reducible exact HBQ | with_reducible exact HBP | with_reducible exact Below.refl _ _ | with_reducible refine Below.drew ?_ | with_reducible refine Below.alloc ?_ (by first | (simp; done) | (have := HBQ.size; simp; omega) | (have := HBP.size; simp; omega)) _ | with_reducible refine Below.setCell ?_ (by first | (simp; done) | (have := HBQ.size; simp; omega) | (have := HBP.size; simp; omega)) _))); have RQ := Lib.hid hrq; have VQ := Lib.hid hvq; clear hrq hvq; (first | (have r1 : Bk2 wq (w12.heap.size) (.bool false) (.slice none 0 0) := Bk2.next q1 hbq; obtain ⟨_, _, _, _, _⟩ := id r1) | (have r1 : Bk2 wq (w12.heap.size) (.bool false) (.slice none 0 0) := Bk2.next (Bk2.alloc q1 _) hbq; obtain ⟨_, _, _, _, _⟩ := id r1) | (have r1 : Bk2 wq (w12.heap.size) (.bool false) (.slice none 0 0) := Bk2.next (Bk2.alloc (Bk2.alloc q1 _) _) hbq; obtain ⟨_, _, _, _, _⟩ := id r1) | skip); (first | (have r2 : Bk2 wq (w12.heap.size + 1) (.bool false) (.slice none 0 0) := Bk2.next q2 hbq; obtain ⟨_, _, _, _, _⟩ := id r2) | (have r2 : Bk2 wq (w12.heap.size + 1) (.bool false) (.slice none 0 0) := Bk2.next (Bk2.alloc q2 _) hbq; obtain ⟨_, _, _, _, _⟩ := id r2) | (have r2 : Bk2 wq (w12.heap.size + 1) (.bool false) (.slice none 0 0) := Bk2.next (Bk2.alloc (Bk2.alloc q2 _) _) hbq; obtain ⟨_, _, _, _, _⟩ := id r2) | skip); (first | (have r3 : Bk2 wq (wp.heap.size) (.bool false) (.slice none 0 0) := Bk2.next (Bk2.new wp _ _ _) hbq; obtain ⟨_, _, _, _, _⟩ := id r3) | (have r3 : Bk2 wq (wp.heap.size) (.bool false) (.slice none 0 0) := Bk2.next (Bk2.alloc (Bk2.new wp _ _ _) _) hbq; obtain ⟨_, _, _, _, _⟩ := id r3) | skip); (first | (have r4 : Bk2 wq (wp.heap.size + 1) (.bool false) (.slice none 0 0) := Bk2.next (Bk2.newAt (wp.alloc _) _ (by simp) _ _ _) hbq; obtain ⟨_, _, _, _, _⟩ := id r4) | skip))
        | fail)
    all_goals (go_wp2_with fail)
    all_goals
      go_meet
      have hdpq : DRd wq wp.heap.size Ap kp cp xp := by
        first
          | exact hdp.below hbq (Nat.le_refl _)
          | exact (hdp.alloc (Nat.le_refl _) _).below hbq (by first | (simp; done) | (simp; omega) | omega)
          | exact ((hdp.alloc (Nat.le_refl _) _).alloc (by simp) _).below hbq (by first | (simp; done) | (simp; omega) | omega)
      have hsz : wp.heap.size ≤ wq.heap.size := by have := hbq.size; (try simp at this); omega
      refine ⟨_, _, mp, Ap, kp, cp, xp, vp, mq, Aq, kq, cq, xq, vq, rfl, rfl, ?_, ?_, ?_, RP, VP, ?_, RQ, VQ, ?_⟩
      · (repeat (first | with_reducible exact Bk2.newAt _ _ (by first | rfl | (simp; done)) _ _ _ | with_reducible refine Bk2.alloc ?_ _ | with_reducible refine Bk2.set (u := .bool false) (v := .slice none 0 0) ?_ _ _ | with_reducible refine Bk2.far2 ?_ (by omega) _ _ | with_reducible exact r1 | with_reducible exact r2 | with_reducible exact r3 | with_reducible exact r4))
      · (repeat (first | with_reducible exact Bk2.newAt _ _ (by first | rfl | (simp; done)) _ _ _ | with_reducible refine Bk2.alloc ?_ _ | with_reducible refine Bk2.set (u := .bool false) (v := .slice none 0 0) ?_ _ _ | with_reducible refine Bk2.far2 ?_ (by omega) _ _ | with_reducible exact r1 | with_reducible exact r2 | with_reducible exact r3 | with_reducible exact r4))
      · (with_reducible refine DRd.more (B := wp.heap.size) ?_ (by first | (simp; done) | (have := hbq.size; simp at this; simp; omega) | (have := HBQ.size; simp; omega) | omega)); (repeat (first | with_reducible exact hdpq | with_reducible refine DRd.alloc ?_ (by first | (simp; done) | (have := hbq.size; simp at this; simp; omega) | (have := HBQ.size; simp; omega) | omega) _ | with_reducible refine DRd.setBD ?_ r1 (by simp) (by simp) _ _ | with_reducible refine DRd.setBD ?_ r2 (by simp) (by simp) _ _ | with_reducible refine DRd.setBD ?_ r3 (by simp) (by simp) _ _ | with_reducible refine DRd.setBD ?_ r4 (by simp) (by simp) _ _ | with_reducible refine DRd.setBD ?_ (r1.far2 (by omega) _ _) (by simp) (by simp) _ _ | with_reducible refine DRd.setBD ?_ (r2.far2 (by omega) _ _) (by simp) (by simp) _ _ | with_reducible refine DRd.setBD ?_ (r3.far2 (by omega) _ _) (by simp) (by simp) _ _ | with_reducible refine DRd.setBD ?_ (r4.far2 (by omega) _ _) (by simp) (by simp) _ _))
      · (with_reducible refine DRd.more (B := wq.heap.size) ?_ (by first | (simp; done) | (have := hbq.size; simp at this; simp; omega) | (have := HBQ.size; simp; omega) | omega)); (repeat (first | with_reducible exact hdq | with_reducible refine DRd.alloc ?_ (by first | (simp; done) | (have := hbq.size; simp at this; simp; omega) | (have := HBQ.size; simp; omega) | omega) _ | with_reducible refine DRd.setBD ?_ r1 (by simp) (by simp) _ _ | with_reducible refine DRd.setBD ?_ r2 (by simp) (by simp) _ _ | with_reducible refine DRd.setBD ?_ r3 (by simp) (by simp) _ _ | with_reducible refine DRd.setBD ?_ r4 (by simp) (by simp) _ _ | with_reducible refine DRd.setBD ?_ (r1.far2 (by omega) _ _) (by simp) (by simp) _ _ | with_reducible refine DRd.setBD ?_ (r2.far2 (by omega) _ _) (by simp) (by simp) _ _ | with_reducible refine DRd.setBD ?_ (r3.far2 (by omega) _ _) (by simp) (by simp) _ _ | with_reducible refine DRd.setBD ?_ (r4.far2 (by omega) _ _) (by simp) (by simp) _ _))
      · (repeat (first | with_reducible exact G0 | with_reducible exact HBQ | with_reducible exact HBP | with_reducible exact Below.refl _ _ | with_reducible refine Below.drew ?_ | with_reducible refine Below.alloc ?_ (by first | (simp; done) | (have := HBQ.size; simp; omega) | (have := HBP.size; simp; omega)) _ | with_reducible refine Below.setCell ?_ (by first | (simp; done) | (have := HBQ.size; simp; omega) | (have := HBP.size; simp; omega)) _))
  case rest =>
  obtain ⟨g1, g2, m1, A1, k1, c1, x1, v1, m2, A2, k2, c2, x2, v2, rfl, rfl, P12, P13, hd1, R1, V1, hd2, R2, V2, hbX⟩ := hcut
  have sX := hbX.size
  replace E : Below w.heap.size w wc := E.trans (hbX.mono E.size)
  replace HA : LRd wc (w.heap.size) a.A a.n a.c a.xs := HA.below hbX (by omega)
  replace HB : LRd wc (w.heap.size) b.A b.n b.c b.xs := HB.below hbX (by omega)
  replace PA : Bk2 wc (w.heap.size) (.bool a.neg) (.slice a.A a.n a.c) := PA.below hbX PA.lt
  replace PB : Bk2 wc (w.heap.size + 1) (.bool b.neg) (.slice b.A b.n b.c) := PB.below hbX PB.lt
  replace F5 : Bk2 wc (w1.heap.size) (.int .i64 0) (.int .i64 0) := F5.below hbX F5.lt
  replace hl6 : LRd wc (w6.heap.size) A6 k6 c6 x6 := hl6.below hbX (by omega)
  replace P6 : Bk2 wc (w6.heap.size) (.bool n6) (.slice A6 k6 c6) := P6.below hbX P6.lt
  replace F7 : Bk2 wc (w6.heap.size + 1) (.int .i64 f6) (.int .i64 g6) := F7.below hbX F7.lt
  replace hl8 : LRd wc (w8.heap.size) A8 k8 c8 x8 := hl8.below hbX (by omega)
  replace P8 : Bk2 wc (w8.heap.size) (.bool n8) (.slice A8 k8 c8) := P8.below hbX P8.lt
  replace F9 : Bk2 wc (w8.heap.size + 1) (.int .i64 f8) (.int .i64 g8) := F9.below hbX F9.lt
  replace hl10 : LRd wc (w10.heap.size) A10 k10 c10 x10 := hl10.below hbX (by omega)
  replace P10 : Bk2 wc (w10.heap.size) (.bool n10) (.slice A10 k10 c10) := P10.below hbX P10.lt
  replace F11 : Bk2 wc (w10.heap.size + 1) (.int .i64 f10) (.int .i64 g10) := F11.below hbX F11.lt
  clear hbX
  have TA := Lib.hid (show a.val.natAbs < Top128 by rw [IV.abs]; exact lt128 (⟨HA.lim, rfl, (vld_top (IV.vld oa).1).1⟩ : Rep 4294967296 a.xs (vb 4294967296 a.xs)) rfl (IV.vld oa).2)
  have TB := Lib.hid (show b.val.natAbs < Top128 by rw [IV.abs]; exact lt128 (⟨HB.lim, rfl, (vld_top (IV.vld ob).1).1⟩ : Rep 4294967296 b.xs (vb 4294967296 b.xs)) rfl (IV.vld ob).2)
  have L1 := len512 R1.out hd1.len.out (top_sq (by have := abs_sval V1.out; have := TA.out; omega))
  have L2 := len512 R2.out hd2.len.out (top_sq (by have := abs_sval V2.out; have := TB.out; omega))
  have G0 : Below wc.heap.size wc wc.drew := Below.drew (Below.refl _ _)
  have HS := Lib.hid (fun (u : World) (hu : Below wc.heap.size wc u) => (⟨hu, (P6.below hu P6.lt).c0, (P6.below hu P6.lt).c1, (F7.below hu F7.lt).c0, (F7.below hu F7.lt).c1, (P12.below hu P12.lt).c0, (P12.below hu P12.lt).c1, (P13.below hu P13.lt).c0, (P13.below hu P13.lt).c1, (F5.below hu F5.lt).c0, (F5.below hu F5.lt).c1, (P8.below hu P8.lt).c0, (P8.below hu P8.lt).c1, (F9.below hu F9.lt).c0, (F9.below hu F9.lt).c1, (P10.below hu P10.lt).c0, (P10.below hu P10.lt).c1, (F11.below hu F11.lt).c0, (F11.below hu F11.lt).c1⟩ : Below wc.heap.size wc u ∧ u.cell? ⟨w6.heap.size, 0, none⟩ = some (.bool n6) ∧ u.cell? ⟨w6.heap.size, 1, none⟩ = some (.slice A6 k6 c6) ∧ u.cell? ⟨w6.heap.size + 1, 0, none⟩ = some (.int .i64 f6) ∧ u.cell? ⟨w6.heap.size + 1, 1, none⟩ = some (.int .i64 g6) ∧ u.cell? ⟨g1, 0, none⟩ = some (.bool m1) ∧ u.cell? ⟨g1, 1, none⟩ = some (.slice A1 k1 c1) ∧ u.cell? ⟨g2, 0, none⟩ = some (.bool m2) ∧ u.cell? ⟨g2, 1, none⟩ = some (.slice A2 k2 c2) ∧ u.cell? ⟨w1.heap.size, 0, none⟩ = some (.int .i64 0) ∧ u.cell? ⟨w1.heap.size, 1, none⟩ = some (.int .i64 0) ∧ u.cell? ⟨w8.heap.size, 0, none⟩ = some (.bool n8) ∧ u.cell? ⟨w8.heap.size, 1, none⟩ = some (.slice A8 k8 c8) ∧ u.cell? ⟨w8.heap.size + 1, 0, none⟩ = some (.int .i64 f8) ∧ u.cell? ⟨w8.heap.size + 1, 1, none⟩ = some (.int .i64 g8) ∧ u.cell? ⟨w10.heap.size, 0, none⟩ = some (.bool n10) ∧ u.cell? ⟨w10.heap.size, 1, none⟩ = some (.slice A10 k10 c10) ∧ u.cell? ⟨w10.heap.size + 1, 0, none⟩ = some (.int .i64 f10) ∧ u.cell? ⟨w10.heap.size + 1, 1, none⟩ = some (.int .i64 g10)))
  clear PA PB F5 P6 F7 P8 F9 P10 F11 P12 P13
  go_wp2_with fail
  go_region_held3 (fun u => Below wc.heap.size wc u ∧ u.cell? ⟨w6.heap.size, 0, none⟩ = some (.bool n6) ∧ u.cell? ⟨w6.heap.size, 1, none⟩ = some (.slice A6 k6 c6) ∧ u.cell? ⟨w6.heap.size + 1, 0, none⟩ = some (.int .i64 f6) ∧ u.cell? ⟨w6.heap.size + 1, 1, none⟩ = some (.int .i64 g6) ∧ u.cell? ⟨g1, 0, none⟩ = some (.bool m1) ∧ u.cell? ⟨g1, 1, none⟩ = some (.slice A1 k1 c1) ∧ u.cell? ⟨g2, 0, none⟩ = some (.bool m2) ∧ u.cell? ⟨g2, 1, none⟩ = some (.slice A2 k2 c2) ∧ u.cell? ⟨w1.heap.size, 0, none⟩ = some (.int .i64 0) ∧ u.cell? ⟨w1.heap.size, 1, none⟩ = some (.int .i64 0) ∧ u.cell? ⟨w8.heap.size, 0, none⟩ = some (.bool n8) ∧ u.cell? ⟨w8.heap.size, 1, none⟩ = some (.slice A8 k8 c8) ∧ u.cell? ⟨w8.heap.size + 1, 0, none⟩ = some (.int .i64 f8) ∧ u.cell? ⟨w8.heap.size + 1, 1, none⟩ = some (.int .i64 g8) ∧ u.cell? ⟨w10.heap.size, 0, none⟩ = some (.bool n10) ∧ u.cell? ⟨w10.heap.size, 1, none⟩ = some (.slice A10 k10 c10) ∧ u.cell? ⟨w10.heap.size + 1, 0, none⟩ = some (.int .i64 f10) ∧ u.cell? ⟨w10.heap.size + 1, 1, none⟩ = some (.int .i64 g10)) (first | with_reducible exact HS.out _ G0 | with_reducible exact HS.out _ B7 | with_reducible exact HS.out _ B6 | with_reducible exact HS.out _ B5 | with_reducible exact HS.out _ B4 | with_reducible exact HS.out _ B3 | with_reducible exact HS.out _ B2 | with_reducible exact HS.out _ B1 | fail)
    (first
      | (go_at_call 35; (with_reducible refine (rplus_any _ _ m1 m2 A1 A2 k1 k2 c1 c2 v1 v2 x1 x2 ((hd1.below G0 (Nat.le_refl _)).more G0.size) ((hd2.below G0 (Nat.le_refl _)).more G0.size) (Nat.le_refl _) R1.out R2.out L1 L2).mono ?_); rintro e u1 ⟨mS, AS, kS, cS, xS, vS, rfl, hdS, hrS, hvS, hbS⟩; have B1 : Below wc.heap.size wc u1 := bnext G0 hbS; rw [V1.out, V2.out] at hvS; have KS := len512 hrS hdS.len.out (top_sq (by have := abs_sval hvS; have := TA.out; have := TB.out; omega)); have RS := Lib.hid hrS; have VS := Lib.hid (show sval mS vS = a.val + b.val from hvS); clear hrS hvS)
      | (go_at_call 30; (with_reducible refine (yields_any' _ _ n6 A6 k6 c6 x6 mS AS kS cS vS xS (a.val + b.val) z6 f6 g6 ((hl6.below B1 (by omega)).more (by have := B1.size; omega)) hdS (Nat.le_refl _) Y6.out I6.out RS.out VS.out KS).mono ?_); rintro e u2 ⟨rfl, hy6⟩; have B2 : Below wc.heap.size wc u2 := bnext B1 hy6)
      | (go_at_call 31; (with_reducible refine (rminus_any _ _ m2 A2 k2 c2 v2 x2 ((hd2.below B2 (Nat.le_refl _)).more B2.size) R2.out (Nat.le_refl _)).mono ?_); rintro e u3 ⟨mM, AM, kM, cM, xM, vM, rfl, hdM, hrM, hvM, hbM⟩; have B3 : Below wc.heap.size wc u3 := bnext B2 hbM; rw [V2.out] at hvM; have KM := len512 hrM hdM.len.out (top_sq (by have := abs_sval hvM; have := TB.out; omega)); have RM := Lib.hid hrM; have VM := Lib.hid hvM; clear hrM hvM)
      | (go_at_call 35; (with_reducible refine (rplus_any _ _ m1 mM A1 AM k1 kM c1 cM v1 vM x1 xM ((hd1.below B3 (Nat.le_refl _)).more B3.size) hdM (Nat.le_refl _) R1.out RM.out L1 KM).mono ?_); rintro e u4 ⟨mT, AT, kT, cT, xT, vT, rfl, hdT, hrT, hvT, hbT⟩; have B4 : Below wc.heap.size wc u4 := bnext B3 hbT; rw [V1.out, VM.out] at hvT; have KT := len512 hrT hdT.len.out (top_sq (by have := abs_sval hvT; have := TA.out; have := TB.out; omega)); have RT := Lib.hid hrT; have VT := Lib.hid (show sval mT vT = a.val - b.val from hvT); clear hrT hvT)
      | (go_at_call 30; (with_reducible refine (yields_any' _ _ n8 A8 k8 c8 x8 mT AT kT cT vT xT (a.val - b.val) z8 f8 g8 ((hl8.below B4 (by omega)).more (by have := B4.size; omega)) hdT (Nat.le_refl _) Y8.out I8.out RT.out VT.out KT).mono ?_); rintro e u5 ⟨rfl, hy8⟩; have B5 : Below wc.heap.size wc u5 := bnext B4 hy8)
      | (go_at_call 36; (with_reducible refine (rtimes_any _ _ m1 m2 A1 A2 k1 k2 c1 c2 v1 v2 x1 x2 ((hd1.below B5 (Nat.le_refl _)).more B5.size) ((hd2.below B5 (Nat.le_refl _)).more B5.size) (Nat.le_refl _) R1.out R2.out L1 L2).mono ?_); rintro e u6 ⟨mP, AP, kP, cP, xP, vP, rfl, hdP, hrP, hvP, hbP⟩; have B6 : Below wc.heap.size wc u6 := bnext B5 hbP; rw [V1.out, V2.out] at hvP; have KP := len512 hrP hdP.len.out (by have e9 := abs_sval hvP; rw [← e9, Int.natAbs_mul]; exact Nat.mul_lt_mul'' TA.out TB.out); have RP := Lib.hid hrP; have VP := Lib.hid hvP; clear hrP hvP)
      | (go_at_call 30; (with_reducible refine (yields_any' _ _ n10 A10 k10 c10 x10 mP AP kP cP vP xP (a.val * b.val) z10 f10 g10 ((hl10.below B6 (by omega)).more (by have := B6.size; omega)) hdP (Nat.le_refl _) Y10.out I10.out RP.out VP.out KP).mono ?_); rintro e u7 ⟨rfl, hy10⟩; have B7 : Below wc.heap.size wc u7 := bnext B6 hy10)
      | fail)
  all_goals (go_wp2_with fail)
  all_goals go_ret
  all_goals exact ⟨by first | rfl | (simp; done), E.trans (B7.mono E.size)⟩
theorem iarith_any (w : World) (a b : IV) (HA : a.at w w.heap.size) (HB : b.at w w.heap.size) :
    Calls Try.prog 4 #[a.v, b.v] w (fun e w' => e = .returned (.bool true) ∧ Below w.heap.size w w') := by
  by_cases h : a.ok = true ∧ b.ok = true
  · exact iari_good w a b HA HB h.1 h.2
  · obtain ⟨f2, hf⟩ := two_bad h
    exact iari_bad w a b HA HB f2 hf
end Go.Proofs.Ytpidkionieaffaa
