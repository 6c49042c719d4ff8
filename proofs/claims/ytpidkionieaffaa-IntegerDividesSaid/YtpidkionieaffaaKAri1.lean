/- IntegerArithmetic: the law. -/
import Derived.Test.YtpidkionieaffaaKYld
import Derived.Test.YtpidkionieaffaaKg
import Derived.Test.YtpidkionieaffaaKDvs1
import Derived.Deep.RegionHeld3
import Derived.Deep.DeepCutAuto
namespace Go.Proofs.Ytpidkionieaffaa
open Go.RowKit
set_option maxHeartbeats 400000
set_option maxRecDepth 100000
set_option linter.unusedSimpArgs false
set_option linter.unusedVariables false

def YR (z z' f1 f2 : Int) : Prop := (z.natAbs < Top128 ∧ z' = z ∧ f1 = 0 ∧ f2 = 0) ∨ (Top128 ≤ z.natAbs ∧ z' = 0 ∧ f1 = 14 ∧ f2 = -1)
theorem vl_yr {w w' : World} {z : Int} {e : Ending} (h : GivesVL w z e w') : ∃ z' f1 f2, YR z z' f1 f2 ∧ GivesVF w z' f1 f2 e w' := by
  rcases h with ⟨h1, h2⟩ | ⟨h1, h2⟩
  · exact ⟨z, 0, 0, .inl ⟨h1, rfl, rfl, rfl⟩, h2⟩
  · exact ⟨0, 14, -1, .inr ⟨h1, rfl, rfl, rfl⟩, h2⟩
theorem yields_any (w : World) (B : Nat) (a : IV) (m : Bool) (D : Option Addr) (k d v : Nat) (zs : List Nat) (z z' f1 f2 : Int) (HA : LRd w B a.A a.n a.c a.xs) (HD : DRd w B D k d zs) (hB : B ≤ w.heap.size) (hy : YR z z' f1 f2) (hI : IRep a.neg a.xs z') (hz : Rep 65536 zs v) (hv : sval m v = z) (hk : k ≤ 100000) :
    Calls Try.prog 30 #[a.v, flt f1 f2, intv m D k d, flt 0 0] w (fun e w' => e = .returned (.bool true) ∧ Below w.heap.size w w') := by
  rcases hy with ⟨h1, rfl, rfl, rfl⟩ | ⟨h1, rfl, rfl, rfl⟩
  · exact yields_fit w B a m D k d v zs _ HA HD hB hI hz hv hk h1
  · exact yields_big w B a m D k d v zs z HA HD hB hI hz hv hk h1
theorem len512 {zs : List Nat} {v k : Nat} (h : Rep 65536 zs v) (hl : zs.length = k) (hv : v < Top128 * Top128) : k ≤ 100000 := by
  obtain ⟨m, hm⟩ : ∃ m, m = 128 := ⟨_, rfl⟩
  obtain ⟨j, hj⟩ : ∃ j, j = 256 := ⟨_, rfl⟩
  rw [top128 hm, top_256 hm hj, ← Nat.pow_add] at hv
  have := h.length_le (by decide) hv
  omega
theorem top_sq {p : Nat} (h : p < Top128 + Top128) : p < Top128 * Top128 := by
  have h1 : 2 ≤ Top128 := by
    obtain ⟨m, hm⟩ : ∃ m, m = 127 := ⟨_, rfl⟩
    rw [top128 (m := m + 1) (by omega), Nat.pow_succ]
    have := Nat.pow_pos (n := m) (show 0 < 4294967296 by decide)
    omega
  have := Nat.mul_le_mul_right Top128 h1
  omega
def R9 (W : World) (x y : Int) (s t : Value) (wx : World) : Prop :=
  ∃ g1 g2 m1 A1 k1 c1 x1 v1 m2 A2 k2 c2 x2 v2, s = .pointer (some ⟨g1, 0, none⟩) ∧ t = .pointer (some ⟨g2, 0, none⟩) ∧ Bk2 wx g1 (.bool m1) (.slice A1 k1 c1) ∧ Bk2 wx g2 (.bool m2) (.slice A2 k2 c2) ∧
    DRd wx wx.heap.size A1 k1 c1 x1 ∧ Hid (Rep 65536 x1 v1) ∧ Hid (sval m1 v1 = x) ∧ DRd wx wx.heap.size A2 k2 c2 x2 ∧ Hid (Rep 65536 x2 v2) ∧ Hid (sval m2 v2 = y) ∧ Below W.heap.size W wx
set_option maxHeartbeats 8000000 in
theorem iari_bad (w : World) (a b : IV) (HA : a.at w w.heap.size) (HB : b.at w w.heap.size) (f2 : Int) (hf : ffault [a, b] 0 = (6, f2)) :
    Calls Try.prog 4 #[a.v, b.v] w (fun e w' => e = .returned (.bool true) ∧ Below w.heap.size w w') := by
  replace HA : LRd w w.heap.size a.A a.n a.c a.xs := HA
  replace HB : LRd w w.heap.size b.A b.n b.c b.xs := HB
  have E : Below w.heap.size w w := Below.refl _ _
  have IR := Lib.hid (irow2 ((w.alloc a.cells).alloc b.cells) w.heap.size a b ((HA.alloc (Nat.le_refl _) _).alloc (by simp) _) ((HB.alloc (Nat.le_refl _) _).alloc (by simp) _) (by simp; omega))
  go_enter Try.func4, Try.ntmps4
  go_wp2_with fail
  obtain ⟨V0, hV0⟩ : ∃ V0 : World, V0 = (((w.alloc (.cells #[.bool a.neg, .slice a.A a.n a.c] 24)).alloc (.cells #[.bool b.neg, .slice b.A b.n b.c] 24)).alloc (.cells #[.bool a.neg, .slice a.A a.n a.c, .bool b.neg, .slice b.A b.n b.c] 24)) := ⟨_, rfl⟩
  have bV0 : Below w.heap.size w V0 := by rw [hV0]; (repeat (first | with_reducible exact Below.refl _ _ | with_reducible refine Below.drew ?_ | with_reducible refine below_drewN ?_ _ | with_reducible refine Below.setCell ?_ (by first | (simp; done) | (simp; omega) | omega) _ | with_reducible refine Below.alloc ?_ (by first | (simp; done) | (simp; omega) | omega) _))
  have zV0 : w.heap.size + 3 ≤ V0.heap.size := by rw [hV0]; simp
  have PA : Bk2 V0 (w.heap.size) (.bool a.neg) (.slice a.A a.n a.c) := by rw [hV0]; exact (((Bk2.newAt _ _ (by simp) _ _ _).alloc _).alloc _)
  have PB : Bk2 V0 (w.heap.size + 1) (.bool b.neg) (.slice b.A b.n b.c) := by rw [hV0]; exact ((Bk2.newAt _ _ (by simp) _ _ _).alloc _)
  replace IR : Hid (IRow V0 w.heap.size (w.heap.size + 2) [a, b]) := by have h9 := IR.out; rw [hV0]; rw [show ((w.alloc a.cells).alloc b.cells).heap.size = w.heap.size + 2 by simp] at h9; exact h9
  rw [← hV0]
  clear hV0
  replace E : Below w.heap.size w V0 := E.trans (bV0.mono E.size)
  replace HA : LRd V0 (w.heap.size) a.A a.n a.c a.xs := HA.below bV0 (by omega)
  replace HB : LRd V0 (w.heap.size) b.A b.n b.c b.xs := HB.below bV0 (by omega)
  clear bV0
  (with_reducible refine (faults_any _ w.heap.size (w.heap.size + 2) 2 [a, b] IR.out rfl (by omega) (by omega)).mono ?_)
  rintro e w1 ⟨rfl, hb1⟩
  have sw1 := hb1.size
  replace E : Below w.heap.size w w1 := E.trans (hb1.mono E.size)
  replace HA : LRd w1 (w.heap.size) a.A a.n a.c a.xs := HA.below hb1 (by omega)
  replace HB : LRd w1 (w.heap.size) b.A b.n b.c b.xs := HB.below hb1 (by omega)
  replace PA : Bk2 w1 (w.heap.size) (.bool a.neg) (.slice a.A a.n a.c) := PA.below hb1 PA.lt
  replace PB : Bk2 w1 (w.heap.size + 1) (.bool b.neg) (.slice b.A b.n b.c) := PB.below hb1 PB.lt
  clear hb1
  rw [hf]
  clear IR
  have t_PA0 : (w1.alloc (.cells #[.int .i64 6, .int .i64 f2] 26)).cell? ⟨w.heap.size, 0, none⟩ = some ((.bool a.neg)) := (PA.alloc _).c0
  have t_PA1 : (w1.alloc (.cells #[.int .i64 6, .int .i64 f2] 26)).cell? ⟨w.heap.size, 1, none⟩ = some ((.slice a.A a.n a.c)) := (PA.alloc _).c1
  have t_PB0 : (w1.alloc (.cells #[.int .i64 6, .int .i64 f2] 26)).cell? ⟨w.heap.size + 1, 0, none⟩ = some ((.bool b.neg)) := (PB.alloc _).c0
  have t_PB1 : (w1.alloc (.cells #[.int .i64 6, .int .i64 f2] 26)).cell? ⟨w.heap.size + 1, 1, none⟩ = some ((.slice b.A b.n b.c)) := (PB.alloc _).c1
  go_wp2_with fail
  clear t_PA0 t_PA1 t_PB0 t_PB1
  obtain ⟨V1, hV1⟩ : ∃ V1 : World, V1 = (w1.alloc (.cells #[.int .i64 6, .int .i64 f2] 26)) := ⟨_, rfl⟩
  have bV1 : Below w1.heap.size w1 V1 := by rw [hV1]; (repeat (first | with_reducible exact Below.refl _ _ | with_reducible refine Below.drew ?_ | with_reducible refine below_drewN ?_ _ | with_reducible refine Below.setCell ?_ (by first | (simp; done) | (simp; omega) | omega) _ | with_reducible refine Below.alloc ?_ (by first | (simp; done) | (simp; omega) | omega) _))
  have zV1 : w1.heap.size + 1 ≤ V1.heap.size := by rw [hV1]; simp
  have F5 : Bk2 V1 (w1.heap.size) (.int .i64 6) (.int .i64 f2) := by rw [hV1]; exact (Bk2.newAt _ _ (by simp) _ _ _)
  rw [← hV1]
  clear hV1
  replace E : Below w.heap.size w V1 := E.trans (bV1.mono E.size)
  replace HA : LRd V1 (w.heap.size) a.A a.n a.c a.xs := HA.below bV1 (by omega)
  replace HB : LRd V1 (w.heap.size) b.A b.n b.c b.xs := HB.below bV1 (by omega)
  replace PA : Bk2 V1 (w.heap.size) (.bool a.neg) (.slice a.A a.n a.c) := PA.below bV1 PA.lt
  replace PB : Bk2 V1 (w.heap.size + 1) (.bool b.neg) (.slice b.A b.n b.c) := PB.below bV1 PB.lt
  clear bV1
  refine (iadd_bad _ w.heap.size a b HA HB (by omega) f2 hf).mono ?_
  rintro e w6 ⟨n6, A6, k6, c6, x6, rfl, hl6, hr6, hb6⟩
  have sw6 := hb6.size
  replace E : Below w.heap.size w w6 := E.trans (hb6.mono E.size)
  replace HA : LRd w6 (w.heap.size) a.A a.n a.c a.xs := HA.below hb6 (by omega)
  replace HB : LRd w6 (w.heap.size) b.A b.n b.c b.xs := HB.below hb6 (by omega)
  replace PA : Bk2 w6 (w.heap.size) (.bool a.neg) (.slice a.A a.n a.c) := PA.below hb6 PA.lt
  replace PB : Bk2 w6 (w.heap.size + 1) (.bool b.neg) (.slice b.A b.n b.c) := PB.below hb6 PB.lt
  replace F5 : Bk2 w6 (w1.heap.size) (.int .i64 6) (.int .i64 f2) := F5.below hb6 F5.lt
  clear hb6
  obtain rfl : k6 = 0 := nil_len (by have := hr6.rep; simpa using this) hl6.len.out
  obtain rfl : n6 = false := by rw [hr6.sgn]; rfl
  have hc6 := hl6.cap
  clear hl6 hr6
  have t_PA0 : ((w6.alloc (.cells #[.bool false, .slice A6 0 c6] 24)).alloc (.cells #[.int .i64 6, .int .i64 f2] 26)).cell? ⟨w.heap.size, 0, none⟩ = some ((.bool a.neg)) := ((PA.alloc _).alloc _).c0
  have t_PA1 : ((w6.alloc (.cells #[.bool false, .slice A6 0 c6] 24)).alloc (.cells #[.int .i64 6, .int .i64 f2] 26)).cell? ⟨w.heap.size, 1, none⟩ = some ((.slice a.A a.n a.c)) := ((PA.alloc _).alloc _).c1
  have t_PB0 : ((w6.alloc (.cells #[.bool false, .slice A6 0 c6] 24)).alloc (.cells #[.int .i64 6, .int .i64 f2] 26)).cell? ⟨w.heap.size + 1, 0, none⟩ = some ((.bool b.neg)) := ((PB.alloc _).alloc _).c0
  have t_PB1 : ((w6.alloc (.cells #[.bool false, .slice A6 0 c6] 24)).alloc (.cells #[.int .i64 6, .int .i64 f2] 26)).cell? ⟨w.heap.size + 1, 1, none⟩ = some ((.slice b.A b.n b.c)) := ((PB.alloc _).alloc _).c1
  go_wp2_with fail
  clear t_PA0 t_PA1 t_PB0 t_PB1
  obtain ⟨V2, hV2⟩ : ∃ V2 : World, V2 = ((w6.alloc (.cells #[.bool false, .slice A6 0 c6] 24)).alloc (.cells #[.int .i64 6, .int .i64 f2] 26)) := ⟨_, rfl⟩
  have bV2 : Below w6.heap.size w6 V2 := by rw [hV2]; (repeat (first | with_reducible exact Below.refl _ _ | with_reducible refine Below.drew ?_ | with_reducible refine below_drewN ?_ _ | with_reducible refine Below.setCell ?_ (by first | (simp; done) | (simp; omega) | omega) _ | with_reducible refine Below.alloc ?_ (by first | (simp; done) | (simp; omega) | omega) _))
  have zV2 : w6.heap.size + 2 ≤ V2.heap.size := by rw [hV2]; simp
  have P6 : Bk2 V2 (w6.heap.size) (.bool false) (.slice A6 0 c6) := by rw [hV2]; exact ((Bk2.newAt _ _ (by simp) _ _ _).alloc _)
  have F7 : Bk2 V2 (w6.heap.size + 1) (.int .i64 6) (.int .i64 f2) := by rw [hV2]; exact (Bk2.newAt _ _ (by simp) _ _ _)
  rw [← hV2]
  clear hV2
  replace E : Below w.heap.size w V2 := E.trans (bV2.mono E.size)
  replace HA : LRd V2 (w.heap.size) a.A a.n a.c a.xs := HA.below bV2 (by omega)
  replace HB : LRd V2 (w.heap.size) b.A b.n b.c b.xs := HB.below bV2 (by omega)
  replace PA : Bk2 V2 (w.heap.size) (.bool a.neg) (.slice a.A a.n a.c) := PA.below bV2 PA.lt
  replace PB : Bk2 V2 (w.heap.size + 1) (.bool b.neg) (.slice b.A b.n b.c) := PB.below bV2 PB.lt
  replace F5 : Bk2 V2 (w1.heap.size) (.int .i64 6) (.int .i64 f2) := F5.below bV2 F5.lt
  clear bV2
  refine (isub_bad _ w.heap.size a b HA HB (by omega) f2 hf).mono ?_
  rintro e w8 ⟨n8, A8, k8, c8, x8, rfl, hl8, hr8, hb8⟩
  have sw8 := hb8.size
  replace E : Below w.heap.size w w8 := E.trans (hb8.mono E.size)
  replace HA : LRd w8 (w.heap.size) a.A a.n a.c a.xs := HA.below hb8 (by omega)
  replace HB : LRd w8 (w.heap.size) b.A b.n b.c b.xs := HB.below hb8 (by omega)
  replace PA : Bk2 w8 (w.heap.size) (.bool a.neg) (.slice a.A a.n a.c) := PA.below hb8 PA.lt
  replace PB : Bk2 w8 (w.heap.size + 1) (.bool b.neg) (.slice b.A b.n b.c) := PB.below hb8 PB.lt
  replace F5 : Bk2 w8 (w1.heap.size) (.int .i64 6) (.int .i64 f2) := F5.below hb8 F5.lt
  replace P6 : Bk2 w8 (w6.heap.size) (.bool false) (.slice A6 0 c6) := P6.below hb8 P6.lt
  replace F7 : Bk2 w8 (w6.heap.size + 1) (.int .i64 6) (.int .i64 f2) := F7.below hb8 F7.lt
  clear hb8
  obtain rfl : k8 = 0 := nil_len (by have := hr8.rep; simpa using this) hl8.len.out
  obtain rfl : n8 = false := by rw [hr8.sgn]; rfl
  have hc8 := hl8.cap
  clear hl8 hr8
  have t_PA0 : ((w8.alloc (.cells #[.bool false, .slice A8 0 c8] 24)).alloc (.cells #[.int .i64 6, .int .i64 f2] 26)).cell? ⟨w.heap.size, 0, none⟩ = some ((.bool a.neg)) := ((PA.alloc _).alloc _).c0
  have t_PA1 : ((w8.alloc (.cells #[.bool false, .slice A8 0 c8] 24)).alloc (.cells #[.int .i64 6, .int .i64 f2] 26)).cell? ⟨w.heap.size, 1, none⟩ = some ((.slice a.A a.n a.c)) := ((PA.alloc _).alloc _).c1
  have t_PB0 : ((w8.alloc (.cells #[.bool false, .slice A8 0 c8] 24)).alloc (.cells #[.int .i64 6, .int .i64 f2] 26)).cell? ⟨w.heap.size + 1, 0, none⟩ = some ((.bool b.neg)) := ((PB.alloc _).alloc _).c0
  have t_PB1 : ((w8.alloc (.cells #[.bool false, .slice A8 0 c8] 24)).alloc (.cells #[.int .i64 6, .int .i64 f2] 26)).cell? ⟨w.heap.size + 1, 1, none⟩ = some ((.slice b.A b.n b.c)) := ((PB.alloc _).alloc _).c1
  go_wp2_with fail
  clear t_PA0 t_PA1 t_PB0 t_PB1
  obtain ⟨V3, hV3⟩ : ∃ V3 : World, V3 = ((w8.alloc (.cells #[.bool false, .slice A8 0 c8] 24)).alloc (.cells #[.int .i64 6, .int .i64 f2] 26)) := ⟨_, rfl⟩
  have bV3 : Below w8.heap.size w8 V3 := by rw [hV3]; (repeat (first | with_reducible exact Below.refl _ _ | with_reducible refine Below.drew ?_ | with_reducible refine below_drewN ?_ _ | with_reducible refine Below.setCell ?_ (by first | (simp; done) | (simp; omega) | omega) _ | with_reducible refine Below.alloc ?_ (by first | (simp; done) | (simp; omega) | omega) _))
  have zV3 : w8.heap.size + 2 ≤ V3.heap.size := by rw [hV3]; simp
  have P8 : Bk2 V3 (w8.heap.size) (.bool false) (.slice A8 0 c8) := by rw [hV3]; exact ((Bk2.newAt _ _ (by simp) _ _ _).alloc _)
  have F9 : Bk2 V3 (w8.heap.size + 1) (.int .i64 6) (.int .i64 f2) := by rw [hV3]; exact (Bk2.newAt _ _ (by simp) _ _ _)
  rw [← hV3]
  clear hV3
  replace E : Below w.heap.size w V3 := E.trans (bV3.mono E.size)
  replace HA : LRd V3 (w.heap.size) a.A a.n a.c a.xs := HA.below bV3 (by omega)
  replace HB : LRd V3 (w.heap.size) b.A b.n b.c b.xs := HB.below bV3 (by omega)
  replace PA : Bk2 V3 (w.heap.size) (.bool a.neg) (.slice a.A a.n a.c) := PA.below bV3 PA.lt
  replace PB : Bk2 V3 (w.heap.size + 1) (.bool b.neg) (.slice b.A b.n b.c) := PB.below bV3 PB.lt
  replace F5 : Bk2 V3 (w1.heap.size) (.int .i64 6) (.int .i64 f2) := F5.below bV3 F5.lt
  replace P6 : Bk2 V3 (w6.heap.size) (.bool false) (.slice A6 0 c6) := P6.below bV3 P6.lt
  replace F7 : Bk2 V3 (w6.heap.size + 1) (.int .i64 6) (.int .i64 f2) := F7.below bV3 F7.lt
  clear bV3
  refine (imul_bad _ w.heap.size a b HA HB (by omega) f2 hf).mono ?_
  rintro e w10 ⟨n10, A10, k10, c10, x10, rfl, hl10, hr10, hb10⟩
  have sw10 := hb10.size
  replace E : Below w.heap.size w w10 := E.trans (hb10.mono E.size)
  replace HA : LRd w10 (w.heap.size) a.A a.n a.c a.xs := HA.below hb10 (by omega)
  replace HB : LRd w10 (w.heap.size) b.A b.n b.c b.xs := HB.below hb10 (by omega)
  replace PA : Bk2 w10 (w.heap.size) (.bool a.neg) (.slice a.A a.n a.c) := PA.below hb10 PA.lt
  replace PB : Bk2 w10 (w.heap.size + 1) (.bool b.neg) (.slice b.A b.n b.c) := PB.below hb10 PB.lt
  replace F5 : Bk2 w10 (w1.heap.size) (.int .i64 6) (.int .i64 f2) := F5.below hb10 F5.lt
  replace P6 : Bk2 w10 (w6.heap.size) (.bool false) (.slice A6 0 c6) := P6.below hb10 P6.lt
  replace F7 : Bk2 w10 (w6.heap.size + 1) (.int .i64 6) (.int .i64 f2) := F7.below hb10 F7.lt
  replace P8 : Bk2 w10 (w8.heap.size) (.bool false) (.slice A8 0 c8) := P8.below hb10 P8.lt
  replace F9 : Bk2 w10 (w8.heap.size + 1) (.int .i64 6) (.int .i64 f2) := F9.below hb10 F9.lt
  clear hb10
  obtain rfl : k10 = 0 := nil_len (by have := hr10.rep; simpa using this) hl10.len.out
  obtain rfl : n10 = false := by rw [hr10.sgn]; rfl
  have hc10 := hl10.cap
  clear hl10 hr10
  go_wp2_with fail
  obtain ⟨V4, hV4⟩ : ∃ V4 : World, V4 = ((w10.alloc (.cells #[.bool false, .slice A10 0 c10] 24)).alloc (.cells #[.int .i64 6, .int .i64 f2] 26)) := ⟨_, rfl⟩
  have bV4 : Below w10.heap.size w10 V4 := by rw [hV4]; (repeat (first | with_reducible exact Below.refl _ _ | with_reducible refine Below.drew ?_ | with_reducible refine below_drewN ?_ _ | with_reducible refine Below.setCell ?_ (by first | (simp; done) | (simp; omega) | omega) _ | with_reducible refine Below.alloc ?_ (by first | (simp; done) | (simp; omega) | omega) _))
  have zV4 : w10.heap.size + 2 ≤ V4.heap.size := by rw [hV4]; simp
  have P10 : Bk2 V4 (w10.heap.size) (.bool false) (.slice A10 0 c10) := by rw [hV4]; exact ((Bk2.newAt _ _ (by simp) _ _ _).alloc _)
  have F11 : Bk2 V4 (w10.heap.size + 1) (.int .i64 6) (.int .i64 f2) := by rw [hV4]; exact (Bk2.newAt _ _ (by simp) _ _ _)
  rw [← hV4]
  clear hV4
  replace E : Below w.heap.size w V4 := E.trans (bV4.mono E.size)
  replace HA : LRd V4 (w.heap.size) a.A a.n a.c a.xs := HA.below bV4 (by omega)
  replace HB : LRd V4 (w.heap.size) b.A b.n b.c b.xs := HB.below bV4 (by omega)
  replace PA : Bk2 V4 (w.heap.size) (.bool a.neg) (.slice a.A a.n a.c) := PA.below bV4 PA.lt
  replace PB : Bk2 V4 (w.heap.size + 1) (.bool b.neg) (.slice b.A b.n b.c) := PB.below bV4 PB.lt
  replace F5 : Bk2 V4 (w1.heap.size) (.int .i64 6) (.int .i64 f2) := F5.below bV4 F5.lt
  replace P6 : Bk2 V4 (w6.heap.size) (.bool false) (.slice A6 0 c6) := P6.below bV4 P6.lt
  replace F7 : Bk2 V4 (w6.heap.size + 1) (.int .i64 6) (.int .i64 f2) := F7.below bV4 F7.lt
  replace P8 : Bk2 V4 (w8.heap.size) (.bool false) (.slice A8 0 c8) := P8.below bV4 P8.lt
  replace F9 : Bk2 V4 (w8.heap.size + 1) (.int .i64 6) (.int .i64 f2) := F9.below bV4 F9.lt
  clear bV4
  (with_reducible refine (counts_any _).mono ?_)
  rintro e w12 ⟨rfl, hb12⟩
  have sw12 := hb12.size
  replace E : Below w.heap.size w w12 := E.trans (hb12.mono E.size)
  replace HA : LRd w12 (w.heap.size) a.A a.n a.c a.xs := HA.below hb12 (by omega)
  replace HB : LRd w12 (w.heap.size) b.A b.n b.c b.xs := HB.below hb12 (by omega)
  replace PA : Bk2 w12 (w.heap.size) (.bool a.neg) (.slice a.A a.n a.c) := PA.below hb12 PA.lt
  replace PB : Bk2 w12 (w.heap.size + 1) (.bool b.neg) (.slice b.A b.n b.c) := PB.below hb12 PB.lt
  replace F5 : Bk2 w12 (w1.heap.size) (.int .i64 6) (.int .i64 f2) := F5.below hb12 F5.lt
  replace P6 : Bk2 w12 (w6.heap.size) (.bool false) (.slice A6 0 c6) := P6.below hb12 P6.lt
  replace F7 : Bk2 w12 (w6.heap.size + 1) (.int .i64 6) (.int .i64 f2) := F7.below hb12 F7.lt
  replace P8 : Bk2 w12 (w8.heap.size) (.bool false) (.slice A8 0 c8) := P8.below hb12 P8.lt
  replace F9 : Bk2 w12 (w8.heap.size + 1) (.int .i64 6) (.int .i64 f2) := F9.below hb12 F9.lt
  replace P10 : Bk2 w12 (w10.heap.size) (.bool false) (.slice A10 0 c10) := P10.below hb12 P10.lt
  replace F11 : Bk2 w12 (w10.heap.size + 1) (.int .i64 6) (.int .i64 f2) := F11.below hb12 F11.lt
  clear hb12
  have t_F50 : w12.cell? ⟨w1.heap.size, 0, none⟩ = some ((.int .i64 6)) := F5.c0
  have t_F51 : w12.cell? ⟨w1.heap.size, 1, none⟩ = some ((.int .i64 f2)) := F5.c1
  have t_F70 : w12.cell? ⟨w6.heap.size + 1, 0, none⟩ = some ((.int .i64 6)) := F7.c0
  have t_F71 : w12.cell? ⟨w6.heap.size + 1, 1, none⟩ = some ((.int .i64 f2)) := F7.c1
  have t_F90 : w12.cell? ⟨w8.heap.size + 1, 0, none⟩ = some ((.int .i64 6)) := F9.c0
  have t_F91 : w12.cell? ⟨w8.heap.size + 1, 1, none⟩ = some ((.int .i64 f2)) := F9.c1
  have t_F110 : w12.cell? ⟨w10.heap.size + 1, 0, none⟩ = some ((.int .i64 6)) := F11.c0
  have t_F111 : w12.cell? ⟨w10.heap.size + 1, 1, none⟩ = some ((.int .i64 f2)) := F11.c1
  have t_P60 : w12.cell? ⟨w6.heap.size, 0, none⟩ = some ((.bool false)) := P6.c0
  have t_P61 : w12.cell? ⟨w6.heap.size, 1, none⟩ = some ((.slice A6 0 c6)) := P6.c1
  go_wp2_with fail
  clear t_F50 t_F51 t_F70 t_F71 t_F90 t_F91 t_F110 t_F111 t_P60 t_P61
  (with_reducible refine (noInt_any _ false A6 0 c6 (by omega)).mono ?_)
  rintro e y6 ⟨rfl, hq6⟩
  have sy6 := hq6.size
  replace E : Below w.heap.size w y6 := E.trans (hq6.mono E.size)
  replace HA : LRd y6 (w.heap.size) a.A a.n a.c a.xs := HA.below hq6 (by omega)
  replace HB : LRd y6 (w.heap.size) b.A b.n b.c b.xs := HB.below hq6 (by omega)
  replace PA : Bk2 y6 (w.heap.size) (.bool a.neg) (.slice a.A a.n a.c) := PA.below hq6 PA.lt
  replace PB : Bk2 y6 (w.heap.size + 1) (.bool b.neg) (.slice b.A b.n b.c) := PB.below hq6 PB.lt
  replace F5 : Bk2 y6 (w1.heap.size) (.int .i64 6) (.int .i64 f2) := F5.below hq6 F5.lt
  replace P6 : Bk2 y6 (w6.heap.size) (.bool false) (.slice A6 0 c6) := P6.below hq6 P6.lt
  replace F7 : Bk2 y6 (w6.heap.size + 1) (.int .i64 6) (.int .i64 f2) := F7.below hq6 F7.lt
  replace P8 : Bk2 y6 (w8.heap.size) (.bool false) (.slice A8 0 c8) := P8.below hq6 P8.lt
  replace F9 : Bk2 y6 (w8.heap.size + 1) (.int .i64 6) (.int .i64 f2) := F9.below hq6 F9.lt
  replace P10 : Bk2 y6 (w10.heap.size) (.bool false) (.slice A10 0 c10) := P10.below hq6 P10.lt
  replace F11 : Bk2 y6 (w10.heap.size + 1) (.int .i64 6) (.int .i64 f2) := F11.below hq6 F11.lt
  clear hq6
  rw [show (!false && decide (0 = 0)) = true from rfl]
  have t_P80 : y6.cell? ⟨w8.heap.size, 0, none⟩ = some ((.bool false)) := P8.c0
  have t_P81 : y6.cell? ⟨w8.heap.size, 1, none⟩ = some ((.slice A8 0 c8)) := P8.c1
  go_wp2_with fail
  clear t_P80 t_P81
  (with_reducible refine (noInt_any _ false A8 0 c8 (by omega)).mono ?_)
  rintro e y8 ⟨rfl, hq8⟩
  have sy8 := hq8.size
  replace E : Below w.heap.size w y8 := E.trans (hq8.mono E.size)
  replace HA : LRd y8 (w.heap.size) a.A a.n a.c a.xs := HA.below hq8 (by omega)
  replace HB : LRd y8 (w.heap.size) b.A b.n b.c b.xs := HB.below hq8 (by omega)
  replace PA : Bk2 y8 (w.heap.size) (.bool a.neg) (.slice a.A a.n a.c) := PA.below hq8 PA.lt
  replace PB : Bk2 y8 (w.heap.size + 1) (.bool b.neg) (.slice b.A b.n b.c) := PB.below hq8 PB.lt
  replace F5 : Bk2 y8 (w1.heap.size) (.int .i64 6) (.int .i64 f2) := F5.below hq8 F5.lt
  replace P6 : Bk2 y8 (w6.heap.size) (.bool false) (.slice A6 0 c6) := P6.below hq8 P6.lt
  replace F7 : Bk2 y8 (w6.heap.size + 1) (.int .i64 6) (.int .i64 f2) := F7.below hq8 F7.lt
  replace P8 : Bk2 y8 (w8.heap.size) (.bool false) (.slice A8 0 c8) := P8.below hq8 P8.lt
  replace F9 : Bk2 y8 (w8.heap.size + 1) (.int .i64 6) (.int .i64 f2) := F9.below hq8 F9.lt
  replace P10 : Bk2 y8 (w10.heap.size) (.bool false) (.slice A10 0 c10) := P10.below hq8 P10.lt
  replace F11 : Bk2 y8 (w10.heap.size + 1) (.int .i64 6) (.int .i64 f2) := F11.below hq8 F11.lt
  clear hq8
  rw [show (!false && decide (0 = 0)) = true from rfl]
  have t_P100 : y8.cell? ⟨w10.heap.size, 0, none⟩ = some ((.bool false)) := P10.c0
  have t_P101 : y8.cell? ⟨w10.heap.size, 1, none⟩ = some ((.slice A10 0 c10)) := P10.c1
  go_wp2_with fail
  clear t_P100 t_P101
  (with_reducible refine (noInt_any _ false A10 0 c10 (by omega)).mono ?_)
  rintro e y10 ⟨rfl, hq10⟩
  have sy10 := hq10.size
  replace E : Below w.heap.size w y10 := E.trans (hq10.mono E.size)
  replace HA : LRd y10 (w.heap.size) a.A a.n a.c a.xs := HA.below hq10 (by omega)
  replace HB : LRd y10 (w.heap.size) b.A b.n b.c b.xs := HB.below hq10 (by omega)
  replace PA : Bk2 y10 (w.heap.size) (.bool a.neg) (.slice a.A a.n a.c) := PA.below hq10 PA.lt
  replace PB : Bk2 y10 (w.heap.size + 1) (.bool b.neg) (.slice b.A b.n b.c) := PB.below hq10 PB.lt
  replace F5 : Bk2 y10 (w1.heap.size) (.int .i64 6) (.int .i64 f2) := F5.below hq10 F5.lt
  replace P6 : Bk2 y10 (w6.heap.size) (.bool false) (.slice A6 0 c6) := P6.below hq10 P6.lt
  replace F7 : Bk2 y10 (w6.heap.size + 1) (.int .i64 6) (.int .i64 f2) := F7.below hq10 F7.lt
  replace P8 : Bk2 y10 (w8.heap.size) (.bool false) (.slice A8 0 c8) := P8.below hq10 P8.lt
  replace F9 : Bk2 y10 (w8.heap.size + 1) (.int .i64 6) (.int .i64 f2) := F9.below hq10 F9.lt
  replace P10 : Bk2 y10 (w10.heap.size) (.bool false) (.slice A10 0 c10) := P10.below hq10 P10.lt
  replace F11 : Bk2 y10 (w10.heap.size + 1) (.int .i64 6) (.int .i64 f2) := F11.below hq10 F11.lt
  clear hq10
  rw [show (!false && decide (0 = 0)) = true from rfl]
  go_wp2_with fail
  go_ret
  exact ⟨by first | rfl | (simp; done), E⟩
end Go.Proofs.Ytpidkionieaffaa
