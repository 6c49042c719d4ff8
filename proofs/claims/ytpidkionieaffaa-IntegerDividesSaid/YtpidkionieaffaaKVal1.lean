/- IntegerValues: the law, where an integer is refused. -/
import Derived.Test.YtpidkionieaffaaKAri1
import Derived.Test.YtpidkionieaffaaKInt23
import Derived.Test.YtpidkionieaffaaKInt22
import Derived.Test.YtpidkionieaffaaKInt21
import Derived.Test.YtpidkionieaffaaKh
import Derived.Deep.RegionHeld3
import Derived.Deep.DeepCutAuto
namespace Go.Proofs.Ytpidkionieaffaa
open Go.RowKit
set_option maxHeartbeats 400000
set_option maxRecDepth 100000
set_option linter.unusedSimpArgs false
set_option linter.unusedVariables false

theorem top_i64 : 9223372036854775809 < Top128 := by
  obtain ⟨m, hm⟩ : ∃ m, m = 126 := ⟨_, rfl⟩
  rw [top128 (m := m + 2) (by omega), Nat.pow_add]
  have := Nat.pow_pos (n := m) (show 0 < 4294967296 by decide)
  have := Nat.mul_le_mul_right (4294967296 ^ 2) this
  omega
set_option maxHeartbeats 8000000 in
theorem vals_bad (w : World) (a b : IV) (i : Int) (i1 : -9223372036854775808 ≤ i) (i2 : i ≤ 9223372036854775807) (HA : a.at w w.heap.size) (HB : b.at w w.heap.size) (f2 : Int) (hf : ffault [a, b] 0 = (6, f2)) (na : a.ok = false) :
    Calls Try.prog 3 #[a.v, b.v, .int .i64 i] w (fun e w' => e = .returned (.bool true) ∧ Below w.heap.size w w') := by
  replace HA : LRd w w.heap.size a.A a.n a.c a.xs := HA
  replace HB : LRd w w.heap.size b.A b.n b.c b.xs := HB
  have E : Below w.heap.size w w := Below.refl _ _
  have IR := Lib.hid (irow2 ((w.alloc a.cells).alloc b.cells) w.heap.size a b ((HA.alloc (Nat.le_refl _) _).alloc (by simp) _) ((HB.alloc (Nat.le_refl _) _).alloc (by simp) _) (by simp; omega))
  go_enter Try.func3, Try.ntmps3
  go_wp2_with fail
  obtain ⟨V0, hV0⟩ : ∃ V0 : World, V0 = (((w.alloc (.cells #[.bool a.neg, .slice a.A a.n a.c] 24)).alloc (.cells #[.bool b.neg, .slice b.A b.n b.c] 24)).alloc (.cells #[.bool a.neg, .slice a.A a.n a.c, .bool b.neg, .slice b.A b.n b.c] 24)) := ⟨_, rfl⟩
  have bV0 : Below w.heap.size w V0 := by rw [hV0]; (repeat (first | with_reducible exact Below.refl _ _ | with_reducible refine Below.drew ?_ | with_reducible refine below_drewN ?_ _ | with_reducible refine Below.setCell ?_ (by first | (simp; done) | (simp; omega) | omega) _ | with_reducible refine Below.alloc ?_ (by first | (simp; done) | (simp; omega) | omega) _))
  have zV0 : w.heap.size + 3 ≤ V0.heap.size := by rw [hV0]; simp
  have PA : Bk2 V0 (w.heap.size) (.bool a.neg) (.slice a.A a.n a.c) := by rw [hV0]; exact (((Bk2.newAt _ _ (by simp) _ _ _).alloc _).alloc _)
  have PB : Bk2 V0 (w.heap.size + 1) (.bool b.neg) (.slice b.A b.n b.c) := by rw [hV0]; exact ((Bk2.newAt _ _ (by simp) _ _ _).alloc _)
  replace IR : Hid (IRow V0 w.heap.size (w.heap.size + 2) [a, b]) := by have h9 := IR.out; rw [hV0]; rw [show ((w.alloc a.cells).alloc b.cells).heap.size = w.heap.size + 2 by simp] at h9; exact h9
  rw [← hV0]
  clear hV0
  replace E : Below w.heap.size w V0 := E.trans (bV0.mono E.size)
  replace HA : LRd V0 (w.heap.size) a.A a.n a.c a.xs := HA.below bV0 (by omega)
  replace HB : LRd V0 (w.heap.size) b.A b.n b.c b.xs := HB.below bV0 (by omega)
  clear bV0
  (with_reducible refine (faults_any _ w.heap.size (w.heap.size + 2) 2 [a, b] IR.out rfl (by omega) (by omega)).mono ?_)
  rintro e w1 ⟨rfl, hb1⟩
  have sw1 := hb1.size
  replace E : Below w.heap.size w w1 := E.trans (hb1.mono E.size)
  replace HA : LRd w1 (w.heap.size) a.A a.n a.c a.xs := HA.below hb1 (by omega)
  replace HB : LRd w1 (w.heap.size) b.A b.n b.c b.xs := HB.below hb1 (by omega)
  replace PA : Bk2 w1 (w.heap.size) (.bool a.neg) (.slice a.A a.n a.c) := PA.below hb1 PA.lt
  replace PB : Bk2 w1 (w.heap.size + 1) (.bool b.neg) (.slice b.A b.n b.c) := PB.below hb1 PB.lt
  clear hb1
  rw [hf]
  clear IR
  have t_PA0 : (w1.alloc (.cells #[.int .i64 6, .int .i64 f2] 26)).cell? ⟨w.heap.size, 0, none⟩ = some ((.bool a.neg)) := (PA.alloc _).c0
  have t_PA1 : (w1.alloc (.cells #[.int .i64 6, .int .i64 f2] 26)).cell? ⟨w.heap.size, 1, none⟩ = some ((.slice a.A a.n a.c)) := (PA.alloc _).c1
  have t_PB0 : (w1.alloc (.cells #[.int .i64 6, .int .i64 f2] 26)).cell? ⟨w.heap.size + 1, 0, none⟩ = some ((.bool b.neg)) := (PB.alloc _).c0
  have t_PB1 : (w1.alloc (.cells #[.int .i64 6, .int .i64 f2] 26)).cell? ⟨w.heap.size + 1, 1, none⟩ = some ((.slice b.A b.n b.c)) := (PB.alloc _).c1
  go_wp2_with fail
  clear t_PA0 t_PA1 t_PB0 t_PB1
  obtain ⟨V1, hV1⟩ : ∃ V1 : World, V1 = (w1.alloc (.cells #[.int .i64 6, .int .i64 f2] 26)) := ⟨_, rfl⟩
  have bV1 : Below w1.heap.size w1 V1 := by rw [hV1]; (repeat (first | with_reducible exact Below.refl _ _ | with_reducible refine Below.drew ?_ | with_reducible refine below_drewN ?_ _ | with_reducible refine Below.setCell ?_ (by first | (simp; done) | (simp; omega) | omega) _ | with_reducible refine Below.alloc ?_ (by first | (simp; done) | (simp; omega) | omega) _))
  have zV1 : w1.heap.size + 1 ≤ V1.heap.size := by rw [hV1]; simp
  have F7 : Bk2 V1 (w1.heap.size) (.int .i64 6) (.int .i64 f2) := by rw [hV1]; exact (Bk2.newAt _ _ (by simp) _ _ _)
  rw [← hV1]
  clear hV1
  replace E : Below w.heap.size w V1 := E.trans (bV1.mono E.size)
  replace HA : LRd V1 (w.heap.size) a.A a.n a.c a.xs := HA.below bV1 (by omega)
  replace HB : LRd V1 (w.heap.size) b.A b.n b.c b.xs := HB.below bV1 (by omega)
  replace PA : Bk2 V1 (w.heap.size) (.bool a.neg) (.slice a.A a.n a.c) := PA.below bV1 PA.lt
  replace PB : Bk2 V1 (w.heap.size + 1) (.bool b.neg) (.slice b.A b.n b.c) := PB.below bV1 PB.lt
  clear bV1
  refine (icmp_bad _ w.heap.size a b HA HB (by omega) f2 hf).mono ?_
  rintro e w2 ⟨rfl, hb2⟩
  have sw2 := hb2.size
  replace E : Below w.heap.size w w2 := E.trans (hb2.mono E.size)
  replace HA : LRd w2 (w.heap.size) a.A a.n a.c a.xs := HA.below hb2 (by omega)
  replace HB : LRd w2 (w.heap.size) b.A b.n b.c b.xs := HB.below hb2 (by omega)
  replace PA : Bk2 w2 (w.heap.size) (.bool a.neg) (.slice a.A a.n a.c) := PA.below hb2 PA.lt
  replace PB : Bk2 w2 (w.heap.size + 1) (.bool b.neg) (.slice b.A b.n b.c) := PB.below hb2 PB.lt
  replace F7 : Bk2 w2 (w1.heap.size) (.int .i64 6) (.int .i64 f2) := F7.below hb2 F7.lt
  clear hb2
  go_upto_region 3 with fail
  obtain ⟨V2, hV2⟩ : ∃ V2 : World, V2 = (w2.alloc (.cells #[.int .i64 6, .int .i64 f2] 26)) := ⟨_, rfl⟩
  have bV2 : Below w2.heap.size w2 V2 := by rw [hV2]; (repeat (first | with_reducible exact Below.refl _ _ | with_reducible refine Below.drew ?_ | with_reducible refine below_drewN ?_ _ | with_reducible refine Below.setCell ?_ (by first | (simp; done) | (simp; omega) | omega) _ | with_reducible refine Below.alloc ?_ (by first | (simp; done) | (simp; omega) | omega) _))
  have zV2 : w2.heap.size + 1 ≤ V2.heap.size := by rw [hV2]; simp
  have F9 : Bk2 V2 (w2.heap.size) (.int .i64 6) (.int .i64 f2) := by rw [hV2]; exact (Bk2.newAt _ _ (by simp) _ _ _)
  rw [← hV2]
  clear hV2
  replace E : Below w.heap.size w V2 := E.trans (bV2.mono E.size)
  replace HA : LRd V2 (w.heap.size) a.A a.n a.c a.xs := HA.below bV2 (by omega)
  replace HB : LRd V2 (w.heap.size) b.A b.n b.c b.xs := HB.below bV2 (by omega)
  replace PA : Bk2 V2 (w.heap.size) (.bool a.neg) (.slice a.A a.n a.c) := PA.below bV2 PA.lt
  replace PB : Bk2 V2 (w.heap.size + 1) (.bool b.neg) (.slice b.A b.n b.c) := PB.below bV2 PB.lt
  replace F7 : Bk2 V2 (w1.heap.size) (.int .i64 6) (.int .i64 f2) := F7.below bV2 F7.lt
  clear bV2
  have VA : ivld a.neg a.xs = false := na
  have G0 : Below V2.heap.size V2 V2.drew := Below.drew (Below.refl _ _)
  have HS := Lib.hid (fun (u : World) (hu : Below V2.heap.size V2 u) => (⟨hu, (PA.below hu PA.lt).c0, (PA.below hu PA.lt).c1, (F7.below hu F7.lt).c0, (F7.below hu F7.lt).c1, (F9.below hu F9.lt).c0, (F9.below hu F9.lt).c1⟩ : Below V2.heap.size V2 u ∧ u.cell? ⟨w.heap.size, 0, none⟩ = some (.bool a.neg) ∧ u.cell? ⟨w.heap.size, 1, none⟩ = some (.slice a.A a.n a.c) ∧ u.cell? ⟨w1.heap.size, 0, none⟩ = some (.int .i64 6) ∧ u.cell? ⟨w1.heap.size, 1, none⟩ = some (.int .i64 f2) ∧ u.cell? ⟨w2.heap.size, 0, none⟩ = some (.int .i64 6) ∧ u.cell? ⟨w2.heap.size, 1, none⟩ = some (.int .i64 f2)))
  go_region_held3 (fun u => Below V2.heap.size V2 u ∧ u.cell? ⟨w.heap.size, 0, none⟩ = some (.bool a.neg) ∧ u.cell? ⟨w.heap.size, 1, none⟩ = some (.slice a.A a.n a.c) ∧ u.cell? ⟨w1.heap.size, 0, none⟩ = some (.int .i64 6) ∧ u.cell? ⟨w1.heap.size, 1, none⟩ = some (.int .i64 f2) ∧ u.cell? ⟨w2.heap.size, 0, none⟩ = some (.int .i64 6) ∧ u.cell? ⟨w2.heap.size, 1, none⟩ = some (.int .i64 f2)) (first | with_reducible exact HS.out _ G0 | with_reducible exact HS.out _ B6 | with_reducible exact HS.out _ B5 | with_reducible exact HS.out _ B4 | with_reducible exact HS.out _ B3 | with_reducible exact HS.out _ B2 | with_reducible exact HS.out _ B1 | fail)
    (first
      | (go_at_call 15; (with_reducible refine (counts_any _).mono ?_); rintro e u1 ⟨rfl, hb1⟩; have B1 : Below V2.heap.size V2 u1 := bnext G0 hb1)
      | (go_at_call 16; (with_reducible refine (ivalid_any _ _ a.neg a.A a.n a.c a.xs ((HA.below B1 (by omega)).more (by have := B1.size; omega)) (Nat.le_refl _)).mono ?_); rintro e u2 ⟨rfl, hb2⟩; have B2 : Below V2.heap.size V2 u2 := bnext B1 hb2; rw [VA])
      | (go_at_call 17; (with_reducible refine (intOk_any _ _ a.neg a.A a.n a.c a.xs ((HA.below B2 (by omega)).more (by have := B2.size; omega)) (Nat.le_refl _)).mono ?_); rintro e u3 ⟨rfl, hb3⟩; have B3 : Below V2.heap.size V2 u3 := bnext B2 hb3; rw [VA])
      | (go_at_call 19; (with_reducible refine (iof_any _ i i1 i2).mono ?_); rintro e u4 ⟨m4, A4, k4, c4, x4, rfl, hl4, hr4, hb4⟩; have B4 : Below V2.heap.size V2 u4 := bnext B3 hb4; have R4 := Lib.hid hr4; clear hr4)
      | (go_at_call 20; (with_reducible refine (number_any _ i i1 i2).mono ?_); rintro e u5 ⟨m5, A5, k5, c5, x5, v5, rfl, hd5, hr5, hv5, hb5⟩; have B5 : Below V2.heap.size V2 u5 := bnext B4 hb5; have K5 := len512 hr5 hd5.len.out (top_sq (by have := abs_sval hv5; have := top_i64; omega)); have R5 := Lib.hid hr5; have V5 := Lib.hid hv5; clear hr5 hv5)
      | (go_at_call 18; (with_reducible refine (sameInt_any _ _ m4 m5 A4 A5 k4 k5 c4 c5 v5 i x4 x5 ((hl4.below hb5 (Nat.le_refl _)).more hb5.size) hd5 (Nat.le_refl _) R4.out R5.out V5.out K5).mono ?_); rintro e u6 ⟨rfl, hb6⟩; have B6 : Below V2.heap.size V2 u6 := bnext B5 hb6)
      | fail)
  go_wp2_with fail
  have hx1 : ffault [a] 0 = (6, -1) := by show (if a.ok = true then _ else _) = _; rw [na]; rfl
  clear HS G0
  have s6 := B6.size
  replace E : Below w.heap.size w u6 := E.trans (B6.mono E.size)
  replace HA : LRd u6 (w.heap.size) a.A a.n a.c a.xs := HA.below B6 (by omega)
  replace HB : LRd u6 (w.heap.size) b.A b.n b.c b.xs := HB.below B6 (by omega)
  replace PA : Bk2 u6 (w.heap.size) (.bool a.neg) (.slice a.A a.n a.c) := PA.below B6 PA.lt
  replace PB : Bk2 u6 (w.heap.size + 1) (.bool b.neg) (.slice b.A b.n b.c) := PB.below B6 PB.lt
  replace F7 : Bk2 u6 (w1.heap.size) (.int .i64 6) (.int .i64 f2) := F7.below B6 F7.lt
  replace F9 : Bk2 u6 (w2.heap.size) (.int .i64 6) (.int .i64 f2) := F9.below B6 F9.lt
  refine (ismall_bad _ w.heap.size a HA (by omega) (-1) hx1).mono ?_
  rintro e w7 ⟨rfl, hb7⟩
  have sw7 := hb7.size
  replace E : Below w.heap.size w w7 := E.trans (hb7.mono E.size)
  replace HA : LRd w7 (w.heap.size) a.A a.n a.c a.xs := HA.below hb7 (by omega)
  replace HB : LRd w7 (w.heap.size) b.A b.n b.c b.xs := HB.below hb7 (by omega)
  replace PA : Bk2 w7 (w.heap.size) (.bool a.neg) (.slice a.A a.n a.c) := PA.below hb7 PA.lt
  replace PB : Bk2 w7 (w.heap.size + 1) (.bool b.neg) (.slice b.A b.n b.c) := PB.below hb7 PB.lt
  replace F7 : Bk2 w7 (w1.heap.size) (.int .i64 6) (.int .i64 f2) := F7.below hb7 F7.lt
  replace F9 : Bk2 w7 (w2.heap.size) (.int .i64 6) (.int .i64 f2) := F9.below hb7 F9.lt
  clear hb7
  have t_PA0 : (w7.alloc (.cells #[.int .i64 6, .int .i64 (-1)] 26)).cell? ⟨w.heap.size, 0, none⟩ = some ((.bool a.neg)) := (PA.alloc _).c0
  have t_PA1 : (w7.alloc (.cells #[.int .i64 6, .int .i64 (-1)] 26)).cell? ⟨w.heap.size, 1, none⟩ = some ((.slice a.A a.n a.c)) := (PA.alloc _).c1
  go_wp2_with fail
  clear t_PA0 t_PA1
  obtain ⟨V3, hV3⟩ : ∃ V3 : World, V3 = (w7.alloc (.cells #[.int .i64 6, .int .i64 (-1)] 26)) := ⟨_, rfl⟩
  have bV3 : Below w7.heap.size w7 V3 := by rw [hV3]; (repeat (first | with_reducible exact Below.refl _ _ | with_reducible refine Below.drew ?_ | with_reducible refine below_drewN ?_ _ | with_reducible refine Below.setCell ?_ (by first | (simp; done) | (simp; omega) | omega) _ | with_reducible refine Below.alloc ?_ (by first | (simp; done) | (simp; omega) | omega) _))
  have zV3 : w7.heap.size + 1 ≤ V3.heap.size := by rw [hV3]; simp
  have FS : Bk2 V3 (w7.heap.size) (.int .i64 6) (.int .i64 (-1)) := by rw [hV3]; exact (Bk2.newAt _ _ (by simp) _ _ _)
  rw [← hV3]
  clear hV3
  replace E : Below w.heap.size w V3 := E.trans (bV3.mono E.size)
  replace HA : LRd V3 (w.heap.size) a.A a.n a.c a.xs := HA.below bV3 (by omega)
  replace HB : LRd V3 (w.heap.size) b.A b.n b.c b.xs := HB.below bV3 (by omega)
  replace PA : Bk2 V3 (w.heap.size) (.bool a.neg) (.slice a.A a.n a.c) := PA.below bV3 PA.lt
  replace PB : Bk2 V3 (w.heap.size + 1) (.bool b.neg) (.slice b.A b.n b.c) := PB.below bV3 PB.lt
  replace F7 : Bk2 V3 (w1.heap.size) (.int .i64 6) (.int .i64 f2) := F7.below bV3 F7.lt
  replace F9 : Bk2 V3 (w2.heap.size) (.int .i64 6) (.int .i64 f2) := F9.below bV3 F9.lt
  clear bV3
  refine (ibits_bad _ w.heap.size a HA (by omega) (-1) hx1).mono ?_
  rintro e w8 ⟨rfl, hb8⟩
  have sw8 := hb8.size
  replace E : Below w.heap.size w w8 := E.trans (hb8.mono E.size)
  replace HA : LRd w8 (w.heap.size) a.A a.n a.c a.xs := HA.below hb8 (by omega)
  replace HB : LRd w8 (w.heap.size) b.A b.n b.c b.xs := HB.below hb8 (by omega)
  replace PA : Bk2 w8 (w.heap.size) (.bool a.neg) (.slice a.A a.n a.c) := PA.below hb8 PA.lt
  replace PB : Bk2 w8 (w.heap.size + 1) (.bool b.neg) (.slice b.A b.n b.c) := PB.below hb8 PB.lt
  replace F7 : Bk2 w8 (w1.heap.size) (.int .i64 6) (.int .i64 f2) := F7.below hb8 F7.lt
  replace F9 : Bk2 w8 (w2.heap.size) (.int .i64 6) (.int .i64 f2) := F9.below hb8 F9.lt
  replace FS : Bk2 w8 (w7.heap.size) (.int .i64 6) (.int .i64 (-1)) := FS.below hb8 FS.lt
  clear hb8
  have t_PA0 : (w8.alloc (.cells #[.int .i64 6, .int .i64 (-1)] 26)).cell? ⟨w.heap.size, 0, none⟩ = some ((.bool a.neg)) := (PA.alloc _).c0
  have t_PA1 : (w8.alloc (.cells #[.int .i64 6, .int .i64 (-1)] 26)).cell? ⟨w.heap.size, 1, none⟩ = some ((.slice a.A a.n a.c)) := (PA.alloc _).c1
  go_wp2_with fail
  clear t_PA0 t_PA1
  obtain ⟨V4, hV4⟩ : ∃ V4 : World, V4 = (w8.alloc (.cells #[.int .i64 6, .int .i64 (-1)] 26)) := ⟨_, rfl⟩
  have bV4 : Below w8.heap.size w8 V4 := by rw [hV4]; (repeat (first | with_reducible exact Below.refl _ _ | with_reducible refine Below.drew ?_ | with_reducible refine below_drewN ?_ _ | with_reducible refine Below.setCell ?_ (by first | (simp; done) | (simp; omega) | omega) _ | with_reducible refine Below.alloc ?_ (by first | (simp; done) | (simp; omega) | omega) _))
  have zV4 : w8.heap.size + 1 ≤ V4.heap.size := by rw [hV4]; simp
  have FB : Bk2 V4 (w8.heap.size) (.int .i64 6) (.int .i64 (-1)) := by rw [hV4]; exact (Bk2.newAt _ _ (by simp) _ _ _)
  rw [← hV4]
  clear hV4
  replace E : Below w.heap.size w V4 := E.trans (bV4.mono E.size)
  replace HA : LRd V4 (w.heap.size) a.A a.n a.c a.xs := HA.below bV4 (by omega)
  replace HB : LRd V4 (w.heap.size) b.A b.n b.c b.xs := HB.below bV4 (by omega)
  replace PA : Bk2 V4 (w.heap.size) (.bool a.neg) (.slice a.A a.n a.c) := PA.below bV4 PA.lt
  replace PB : Bk2 V4 (w.heap.size + 1) (.bool b.neg) (.slice b.A b.n b.c) := PB.below bV4 PB.lt
  replace F7 : Bk2 V4 (w1.heap.size) (.int .i64 6) (.int .i64 f2) := F7.below bV4 F7.lt
  replace F9 : Bk2 V4 (w2.heap.size) (.int .i64 6) (.int .i64 f2) := F9.below bV4 F9.lt
  replace FS : Bk2 V4 (w7.heap.size) (.int .i64 6) (.int .i64 (-1)) := FS.below bV4 FS.lt
  clear bV4
  refine (ineg_bad _ w.heap.size a HA (by omega) (-1) hx1).mono ?_
  rintro e w9 ⟨n9, A9, k9, c9, x9, rfl, hl9, hr9, hb9⟩
  have sw9 := hb9.size
  replace E : Below w.heap.size w w9 := E.trans (hb9.mono E.size)
  replace HA : LRd w9 (w.heap.size) a.A a.n a.c a.xs := HA.below hb9 (by omega)
  replace HB : LRd w9 (w.heap.size) b.A b.n b.c b.xs := HB.below hb9 (by omega)
  replace PA : Bk2 w9 (w.heap.size) (.bool a.neg) (.slice a.A a.n a.c) := PA.below hb9 PA.lt
  replace PB : Bk2 w9 (w.heap.size + 1) (.bool b.neg) (.slice b.A b.n b.c) := PB.below hb9 PB.lt
  replace F7 : Bk2 w9 (w1.heap.size) (.int .i64 6) (.int .i64 f2) := F7.below hb9 F7.lt
  replace F9 : Bk2 w9 (w2.heap.size) (.int .i64 6) (.int .i64 f2) := F9.below hb9 F9.lt
  replace FS : Bk2 w9 (w7.heap.size) (.int .i64 6) (.int .i64 (-1)) := FS.below hb9 FS.lt
  replace FB : Bk2 w9 (w8.heap.size) (.int .i64 6) (.int .i64 (-1)) := FB.below hb9 FB.lt
  clear hb9
  obtain rfl : k9 = 0 := nil_len (by have := hr9.rep; simpa using this) hl9.len.out
  obtain rfl : n9 = false := by rw [hr9.sgn]; rfl
  clear hl9 hr9
  have t_PA0 : ((w9.alloc (.cells #[.bool false, .slice A9 0 c9] 24)).alloc (.cells #[.int .i64 6, .int .i64 (-1)] 26)).cell? ⟨w.heap.size, 0, none⟩ = some ((.bool a.neg)) := ((PA.alloc _).alloc _).c0
  have t_PA1 : ((w9.alloc (.cells #[.bool false, .slice A9 0 c9] 24)).alloc (.cells #[.int .i64 6, .int .i64 (-1)] 26)).cell? ⟨w.heap.size, 1, none⟩ = some ((.slice a.A a.n a.c)) := ((PA.alloc _).alloc _).c1
  go_wp2_with fail
  clear t_PA0 t_PA1
  obtain ⟨V5, hV5⟩ : ∃ V5 : World, V5 = ((w9.alloc (.cells #[.bool false, .slice A9 0 c9] 24)).alloc (.cells #[.int .i64 6, .int .i64 (-1)] 26)) := ⟨_, rfl⟩
  have bV5 : Below w9.heap.size w9 V5 := by rw [hV5]; (repeat (first | with_reducible exact Below.refl _ _ | with_reducible refine Below.drew ?_ | with_reducible refine below_drewN ?_ _ | with_reducible refine Below.setCell ?_ (by first | (simp; done) | (simp; omega) | omega) _ | with_reducible refine Below.alloc ?_ (by first | (simp; done) | (simp; omega) | omega) _))
  have zV5 : w9.heap.size + 2 ≤ V5.heap.size := by rw [hV5]; simp
  have P9 : Bk2 V5 (w9.heap.size) (.bool false) (.slice A9 0 c9) := by rw [hV5]; exact ((Bk2.newAt _ _ (by simp) _ _ _).alloc _)
  have F100 : Bk2 V5 (w9.heap.size + 1) (.int .i64 6) (.int .i64 (-1)) := by rw [hV5]; exact (Bk2.newAt _ _ (by simp) _ _ _)
  rw [← hV5]
  clear hV5
  replace E : Below w.heap.size w V5 := E.trans (bV5.mono E.size)
  replace HA : LRd V5 (w.heap.size) a.A a.n a.c a.xs := HA.below bV5 (by omega)
  replace HB : LRd V5 (w.heap.size) b.A b.n b.c b.xs := HB.below bV5 (by omega)
  replace PA : Bk2 V5 (w.heap.size) (.bool a.neg) (.slice a.A a.n a.c) := PA.below bV5 PA.lt
  replace PB : Bk2 V5 (w.heap.size + 1) (.bool b.neg) (.slice b.A b.n b.c) := PB.below bV5 PB.lt
  replace F7 : Bk2 V5 (w1.heap.size) (.int .i64 6) (.int .i64 f2) := F7.below bV5 F7.lt
  replace F9 : Bk2 V5 (w2.heap.size) (.int .i64 6) (.int .i64 f2) := F9.below bV5 F9.lt
  replace FS : Bk2 V5 (w7.heap.size) (.int .i64 6) (.int .i64 (-1)) := FS.below bV5 FS.lt
  replace FB : Bk2 V5 (w8.heap.size) (.int .i64 6) (.int .i64 (-1)) := FB.below bV5 FB.lt
  clear bV5
  refine (iabs_bad _ w.heap.size a HA (by omega) (-1) hx1).mono ?_
  rintro e w10 ⟨n10, A10, k10, c10, x10, rfl, hl10, hr10, hb10⟩
  have sw10 := hb10.size
  replace E : Below w.heap.size w w10 := E.trans (hb10.mono E.size)
  replace HA : LRd w10 (w.heap.size) a.A a.n a.c a.xs := HA.below hb10 (by omega)
  replace HB : LRd w10 (w.heap.size) b.A b.n b.c b.xs := HB.below hb10 (by omega)
  replace PA : Bk2 w10 (w.heap.size) (.bool a.neg) (.slice a.A a.n a.c) := PA.below hb10 PA.lt
  replace PB : Bk2 w10 (w.heap.size + 1) (.bool b.neg) (.slice b.A b.n b.c) := PB.below hb10 PB.lt
  replace F7 : Bk2 w10 (w1.heap.size) (.int .i64 6) (.int .i64 f2) := F7.below hb10 F7.lt
  replace F9 : Bk2 w10 (w2.heap.size) (.int .i64 6) (.int .i64 f2) := F9.below hb10 F9.lt
  replace FS : Bk2 w10 (w7.heap.size) (.int .i64 6) (.int .i64 (-1)) := FS.below hb10 FS.lt
  replace FB : Bk2 w10 (w8.heap.size) (.int .i64 6) (.int .i64 (-1)) := FB.below hb10 FB.lt
  replace P9 : Bk2 w10 (w9.heap.size) (.bool false) (.slice A9 0 c9) := P9.below hb10 P9.lt
  replace F100 : Bk2 w10 (w9.heap.size + 1) (.int .i64 6) (.int .i64 (-1)) := F100.below hb10 F100.lt
  clear hb10
  obtain rfl : k10 = 0 := nil_len (by have := hr10.rep; simpa using this) hl10.len.out
  obtain rfl : n10 = false := by rw [hr10.sgn]; rfl
  clear hl10 hr10
  have t_PA0 : ((w10.alloc (.cells #[.bool false, .slice A10 0 c10] 24)).alloc (.cells #[.int .i64 6, .int .i64 (-1)] 26)).cell? ⟨w.heap.size, 0, none⟩ = some ((.bool a.neg)) := ((PA.alloc _).alloc _).c0
  have t_PA1 : ((w10.alloc (.cells #[.bool false, .slice A10 0 c10] 24)).alloc (.cells #[.int .i64 6, .int .i64 (-1)] 26)).cell? ⟨w.heap.size, 1, none⟩ = some ((.slice a.A a.n a.c)) := ((PA.alloc _).alloc _).c1
  go_wp2_with fail
  clear t_PA0 t_PA1
  obtain ⟨V6, hV6⟩ : ∃ V6 : World, V6 = ((w10.alloc (.cells #[.bool false, .slice A10 0 c10] 24)).alloc (.cells #[.int .i64 6, .int .i64 (-1)] 26)) := ⟨_, rfl⟩
  have bV6 : Below w10.heap.size w10 V6 := by rw [hV6]; (repeat (first | with_reducible exact Below.refl _ _ | with_reducible refine Below.drew ?_ | with_reducible refine below_drewN ?_ _ | with_reducible refine Below.setCell ?_ (by first | (simp; done) | (simp; omega) | omega) _ | with_reducible refine Below.alloc ?_ (by first | (simp; done) | (simp; omega) | omega) _))
  have zV6 : w10.heap.size + 2 ≤ V6.heap.size := by rw [hV6]; simp
  have P10 : Bk2 V6 (w10.heap.size) (.bool false) (.slice A10 0 c10) := by rw [hV6]; exact ((Bk2.newAt _ _ (by simp) _ _ _).alloc _)
  have F110 : Bk2 V6 (w10.heap.size + 1) (.int .i64 6) (.int .i64 (-1)) := by rw [hV6]; exact (Bk2.newAt _ _ (by simp) _ _ _)
  rw [← hV6]
  clear hV6
  replace E : Below w.heap.size w V6 := E.trans (bV6.mono E.size)
  replace HA : LRd V6 (w.heap.size) a.A a.n a.c a.xs := HA.below bV6 (by omega)
  replace HB : LRd V6 (w.heap.size) b.A b.n b.c b.xs := HB.below bV6 (by omega)
  replace PA : Bk2 V6 (w.heap.size) (.bool a.neg) (.slice a.A a.n a.c) := PA.below bV6 PA.lt
  replace PB : Bk2 V6 (w.heap.size + 1) (.bool b.neg) (.slice b.A b.n b.c) := PB.below bV6 PB.lt
  replace F7 : Bk2 V6 (w1.heap.size) (.int .i64 6) (.int .i64 f2) := F7.below bV6 F7.lt
  replace F9 : Bk2 V6 (w2.heap.size) (.int .i64 6) (.int .i64 f2) := F9.below bV6 F9.lt
  replace FS : Bk2 V6 (w7.heap.size) (.int .i64 6) (.int .i64 (-1)) := FS.below bV6 FS.lt
  replace FB : Bk2 V6 (w8.heap.size) (.int .i64 6) (.int .i64 (-1)) := FB.below bV6 FB.lt
  replace P9 : Bk2 V6 (w9.heap.size) (.bool false) (.slice A9 0 c9) := P9.below bV6 P9.lt
  replace F100 : Bk2 V6 (w9.heap.size + 1) (.int .i64 6) (.int .i64 (-1)) := F100.below bV6 F100.lt
  clear bV6
  (with_reducible refine (intOk_any _ w.heap.size a.neg a.A a.n a.c a.xs HA (by omega)).mono ?_)
  rintro e w11 ⟨rfl, hb11⟩
  have sw11 := hb11.size
  replace E : Below w.heap.size w w11 := E.trans (hb11.mono E.size)
  replace HA : LRd w11 (w.heap.size) a.A a.n a.c a.xs := HA.below hb11 (by omega)
  replace HB : LRd w11 (w.heap.size) b.A b.n b.c b.xs := HB.below hb11 (by omega)
  replace PA : Bk2 w11 (w.heap.size) (.bool a.neg) (.slice a.A a.n a.c) := PA.below hb11 PA.lt
  replace PB : Bk2 w11 (w.heap.size + 1) (.bool b.neg) (.slice b.A b.n b.c) := PB.below hb11 PB.lt
  replace F7 : Bk2 w11 (w1.heap.size) (.int .i64 6) (.int .i64 f2) := F7.below hb11 F7.lt
  replace F9 : Bk2 w11 (w2.heap.size) (.int .i64 6) (.int .i64 f2) := F9.below hb11 F9.lt
  replace FS : Bk2 w11 (w7.heap.size) (.int .i64 6) (.int .i64 (-1)) := FS.below hb11 FS.lt
  replace FB : Bk2 w11 (w8.heap.size) (.int .i64 6) (.int .i64 (-1)) := FB.below hb11 FB.lt
  replace P9 : Bk2 w11 (w9.heap.size) (.bool false) (.slice A9 0 c9) := P9.below hb11 P9.lt
  replace F100 : Bk2 w11 (w9.heap.size + 1) (.int .i64 6) (.int .i64 (-1)) := F100.below hb11 F100.lt
  replace P10 : Bk2 w11 (w10.heap.size) (.bool false) (.slice A10 0 c10) := P10.below hb11 P10.lt
  replace F110 : Bk2 w11 (w10.heap.size + 1) (.int .i64 6) (.int .i64 (-1)) := F110.below hb11 F110.lt
  clear hb11
  rw [VA]
  go_upto_region 10 with fail
  clear F7 F9 HA HB PA PB
  have G0 : Below w11.heap.size w11 w11.drew := Below.drew (Below.refl _ _)
  have HS := Lib.hid (fun (u : World) (hu : Below w11.heap.size w11 u) => (⟨hu, (FS.below hu FS.lt).c0, (FS.below hu FS.lt).c1, (FB.below hu FB.lt).c0, (FB.below hu FB.lt).c1, (F100.below hu F100.lt).c0, (F100.below hu F100.lt).c1, (F110.below hu F110.lt).c0, (F110.below hu F110.lt).c1, (P9.below hu P9.lt).c0, (P9.below hu P9.lt).c1, (P10.below hu P10.lt).c0, (P10.below hu P10.lt).c1⟩ : Below w11.heap.size w11 u ∧ u.cell? ⟨w7.heap.size, 0, none⟩ = some (.int .i64 6) ∧ u.cell? ⟨w7.heap.size, 1, none⟩ = some (.int .i64 (-1)) ∧ u.cell? ⟨w8.heap.size, 0, none⟩ = some (.int .i64 6) ∧ u.cell? ⟨w8.heap.size, 1, none⟩ = some (.int .i64 (-1)) ∧ u.cell? ⟨w9.heap.size + 1, 0, none⟩ = some (.int .i64 6) ∧ u.cell? ⟨w9.heap.size + 1, 1, none⟩ = some (.int .i64 (-1)) ∧ u.cell? ⟨w10.heap.size + 1, 0, none⟩ = some (.int .i64 6) ∧ u.cell? ⟨w10.heap.size + 1, 1, none⟩ = some (.int .i64 (-1)) ∧ u.cell? ⟨w9.heap.size, 0, none⟩ = some (.bool false) ∧ u.cell? ⟨w9.heap.size, 1, none⟩ = some (.slice A9 0 c9) ∧ u.cell? ⟨w10.heap.size, 0, none⟩ = some (.bool false) ∧ u.cell? ⟨w10.heap.size, 1, none⟩ = some (.slice A10 0 c10)))
  go_region_held3 (fun u => Below w11.heap.size w11 u ∧ u.cell? ⟨w7.heap.size, 0, none⟩ = some (.int .i64 6) ∧ u.cell? ⟨w7.heap.size, 1, none⟩ = some (.int .i64 (-1)) ∧ u.cell? ⟨w8.heap.size, 0, none⟩ = some (.int .i64 6) ∧ u.cell? ⟨w8.heap.size, 1, none⟩ = some (.int .i64 (-1)) ∧ u.cell? ⟨w9.heap.size + 1, 0, none⟩ = some (.int .i64 6) ∧ u.cell? ⟨w9.heap.size + 1, 1, none⟩ = some (.int .i64 (-1)) ∧ u.cell? ⟨w10.heap.size + 1, 0, none⟩ = some (.int .i64 6) ∧ u.cell? ⟨w10.heap.size + 1, 1, none⟩ = some (.int .i64 (-1)) ∧ u.cell? ⟨w9.heap.size, 0, none⟩ = some (.bool false) ∧ u.cell? ⟨w9.heap.size, 1, none⟩ = some (.slice A9 0 c9) ∧ u.cell? ⟨w10.heap.size, 0, none⟩ = some (.bool false) ∧ u.cell? ⟨w10.heap.size, 1, none⟩ = some (.slice A10 0 c10)) (first | with_reducible exact HS.out _ G0 | with_reducible exact HS.out _ B3 | with_reducible exact HS.out _ B2 | with_reducible exact HS.out _ B1 | fail)
    (first
      | (go_at_call 25; (with_reducible refine (at_any _ _ _).mono ?_); rintro e y1 ⟨rfl, hb1⟩; have B1 : Below w11.heap.size w11 y1 := bnext G0 hb1)
      | (go_at_call 26; (with_reducible refine (noInt_any _ false A9 0 c9 (by omega)).mono ?_); rintro e y2 ⟨rfl, hb2⟩; have B2 : Below w11.heap.size w11 y2 := bnext B1 hb2; rw [show (!false && decide (0 = 0)) = true from rfl])
      | (go_at_call 26; (with_reducible refine (noInt_any _ false A10 0 c10 (by omega)).mono ?_); rintro e y3 ⟨rfl, hb3⟩; have B3 : Below w11.heap.size w11 y3 := bnext B2 hb3; rw [show (!false && decide (0 = 0)) = true from rfl])
      | fail)
  all_goals (go_wp2_with fail)
  all_goals go_ret
  all_goals exact ⟨by first | rfl | (simp; done), E.trans (B3.mono E.size)⟩
end Go.Proofs.Ytpidkionieaffaa
