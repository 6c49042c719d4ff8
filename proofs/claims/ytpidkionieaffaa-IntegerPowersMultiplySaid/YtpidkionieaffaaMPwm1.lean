/- IntegerPowersMultiply: the law, where nothing is asked. -/
import Derived.Test.YtpidkionieaffaaMPow6
import Derived.Test.YtpidkionieaffaaMDvs1
import Derived.Test.YtpidkionieaffaaMRng2
import Derived.Test.YtpidkionieaffaaMAri2
namespace Go.Proofs.Ytpidkionieaffaa
open Go.RowKit
set_option maxHeartbeats 400000
set_option maxRecDepth 100000
set_option linter.unusedSimpArgs false
set_option linter.unusedVariables false

set_option maxHeartbeats 8000000 in
theorem pwm_bad (w : World) (a b : IV) (i j : Int) (i1 : -9223372036854775808 ≤ i) (i2 : i ≤ 9223372036854775807) (j1 : -9223372036854775808 ≤ j) (j2 : j ≤ 9223372036854775807) (HA : a.at w w.heap.size) (HB : b.at w w.heap.size) (f2 : Int) (hf : ffault [a, b] 0 = (6, f2)) :
    Calls Try.prog 12 #[a.v, .int .i64 i, .int .i64 j, b.v] w (fun e w' => e = .returned (.bool true) ∧ Below w.heap.size w w') := by
  replace HA : LRd w w.heap.size a.A a.n a.c a.xs := HA
  replace HB : LRd w w.heap.size b.A b.n b.c b.xs := HB
  have E : Below w.heap.size w w := Below.refl _ _
  have hfd := field_code
  go_enter Try.func12, Try.ntmps12
  go_wp2_with fail
  obtain ⟨V0, hV0⟩ : ∃ V0 : World, V0 = ((w.alloc (.cells #[.bool a.neg, .slice a.A a.n a.c] 24)).alloc (.cells #[.bool b.neg, .slice b.A b.n b.c] 24)) := ⟨_, rfl⟩
  have bV0 : Below w.heap.size w V0 := by rw [hV0]; (repeat (first | with_reducible exact Below.refl _ _ | with_reducible refine Below.drew ?_ | with_reducible refine below_drewN ?_ _ | with_reducible refine Below.setCell ?_ (by first | (simp; done) | (simp; omega) | omega) _ | with_reducible refine Below.alloc ?_ (by first | (simp; done) | (simp; omega) | omega) _))
  have zV0 : w.heap.size + 2 ≤ V0.heap.size := by rw [hV0]; simp
  have PA : Bk2 V0 (w.heap.size) (.bool a.neg) (.slice a.A a.n a.c) := by rw [hV0]; exact ((Bk2.newAt _ _ (by simp) _ _ _).alloc _)
  have PB : Bk2 V0 (w.heap.size + 1) (.bool b.neg) (.slice b.A b.n b.c) := by rw [hV0]; exact (Bk2.newAt _ _ (by simp) _ _ _)
  rw [← hV0]
  clear hV0
  replace E : Below w.heap.size w V0 := E.trans (bV0.mono E.size)
  replace HA : LRd V0 (w.heap.size) a.A a.n a.c a.xs := HA.below bV0 (by omega)
  replace HB : LRd V0 (w.heap.size) b.A b.n b.c b.xs := HB.below bV0 (by omega)
  clear bV0
  (with_reducible refine (counts_any _).mono ?_)
  rintro e w1 ⟨rfl, hb1⟩
  have sw1 := hb1.size
  replace E : Below w.heap.size w w1 := E.trans (hb1.mono E.size)
  replace HA : LRd w1 (w.heap.size) a.A a.n a.c a.xs := HA.below hb1 (by omega)
  replace HB : LRd w1 (w.heap.size) b.A b.n b.c b.xs := HB.below hb1 (by omega)
  replace PA : Bk2 w1 (w.heap.size) (.bool a.neg) (.slice a.A a.n a.c) := PA.below hb1 PA.lt
  replace PB : Bk2 w1 (w.heap.size + 1) (.bool b.neg) (.slice b.A b.n b.c) := PB.below hb1 PB.lt
  clear hb1
  have IR := Lib.hid (irow2 w1 w.heap.size a b HA HB (by omega))
  have p_PA0 : w1.cell? ⟨w.heap.size, 0, none⟩ = some ((.bool a.neg)) := PA.c0
  have p_PA1 : w1.cell? ⟨w.heap.size, 1, none⟩ = some ((.slice a.A a.n a.c)) := PA.c1
  have p_PB0 : w1.cell? ⟨w.heap.size + 1, 0, none⟩ = some ((.bool b.neg)) := PB.c0
  have p_PB1 : w1.cell? ⟨w.heap.size + 1, 1, none⟩ = some ((.slice b.A b.n b.c)) := PB.c1
  go_wp2_with fail
  clear p_PA0 p_PA1 p_PB0 p_PB1
  obtain ⟨V1, hV1⟩ : ∃ V1 : World, V1 = (w1.alloc (.cells #[.bool a.neg, .slice a.A a.n a.c, .bool b.neg, .slice b.A b.n b.c] 24)) := ⟨_, rfl⟩
  have bV1 : Below w1.heap.size w1 V1 := by rw [hV1]; (repeat (first | with_reducible exact Below.refl _ _ | with_reducible refine Below.drew ?_ | with_reducible refine below_drewN ?_ _ | with_reducible refine Below.setCell ?_ (by first | (simp; done) | (simp; omega) | omega) _ | with_reducible refine Below.alloc ?_ (by first | (simp; done) | (simp; omega) | omega) _))
  have zV1 : w1.heap.size + 1 ≤ V1.heap.size := by rw [hV1]; simp
  replace IR : Hid (IRow V1 w.heap.size w1.heap.size [a, b]) := by have h9 := IR.out; rw [hV1]; exact h9
  rw [← hV1]
  clear hV1
  replace E : Below w.heap.size w V1 := E.trans (bV1.mono E.size)
  replace HA : LRd V1 (w.heap.size) a.A a.n a.c a.xs := HA.below bV1 (by omega)
  replace HB : LRd V1 (w.heap.size) b.A b.n b.c b.xs := HB.below bV1 (by omega)
  replace PA : Bk2 V1 (w.heap.size) (.bool a.neg) (.slice a.A a.n a.c) := PA.below bV1 PA.lt
  replace PB : Bk2 V1 (w.heap.size + 1) (.bool b.neg) (.slice b.A b.n b.c) := PB.below bV1 PB.lt
  clear bV1
  (with_reducible refine (faults_any _ w.heap.size w1.heap.size 2 [a, b] IR.out rfl (by omega) (by omega)).mono ?_)
  rintro e w2 ⟨rfl, hb2⟩
  have sw2 := hb2.size
  replace E : Below w.heap.size w w2 := E.trans (hb2.mono E.size)
  replace HA : LRd w2 (w.heap.size) a.A a.n a.c a.xs := HA.below hb2 (by omega)
  replace HB : LRd w2 (w.heap.size) b.A b.n b.c b.xs := HB.below hb2 (by omega)
  replace PA : Bk2 w2 (w.heap.size) (.bool a.neg) (.slice a.A a.n a.c) := PA.below hb2 PA.lt
  replace PB : Bk2 w2 (w.heap.size + 1) (.bool b.neg) (.slice b.A b.n b.c) := PB.below hb2 PB.lt
  clear hb2
  rw [hf]
  unfold flt
  clear IR
  go_wp2_with fail
  all_goals go_ret
  all_goals exact ⟨by first | rfl | (simp; done), E⟩
set_option maxHeartbeats 8000000 in
theorem pwm_neg (w : World) (a b : IV) (i j : Int) (i1 : -9223372036854775808 ≤ i) (i2 : i ≤ 9223372036854775807) (j1 : -9223372036854775808 ≤ j) (j2 : j ≤ 9223372036854775807) (HA : a.at w w.heap.size) (HB : b.at w w.heap.size) (oa : a.ok = true) (ob : b.ok = true) (hb : Hid (b.neg = true)) :
    Calls Try.prog 12 #[a.v, .int .i64 i, .int .i64 j, b.v] w (fun e w' => e = .returned (.bool true) ∧ Below w.heap.size w w') := by
  replace HA : LRd w w.heap.size a.A a.n a.c a.xs := HA
  replace HB : LRd w w.heap.size b.A b.n b.c b.xs := HB
  have E : Below w.heap.size w w := Below.refl _ _
  have hfd := field_code
  go_enter Try.func12, Try.ntmps12
  go_wp2_with fail
  obtain ⟨V0, hV0⟩ : ∃ V0 : World, V0 = ((w.alloc (.cells #[.bool a.neg, .slice a.A a.n a.c] 24)).alloc (.cells #[.bool b.neg, .slice b.A b.n b.c] 24)) := ⟨_, rfl⟩
  have bV0 : Below w.heap.size w V0 := by rw [hV0]; (repeat (first | with_reducible exact Below.refl _ _ | with_reducible refine Below.drew ?_ | with_reducible refine below_drewN ?_ _ | with_reducible refine Below.setCell ?_ (by first | (simp; done) | (simp; omega) | omega) _ | with_reducible refine Below.alloc ?_ (by first | (simp; done) | (simp; omega) | omega) _))
  have zV0 : w.heap.size + 2 ≤ V0.heap.size := by rw [hV0]; simp
  have PA : Bk2 V0 (w.heap.size) (.bool a.neg) (.slice a.A a.n a.c) := by rw [hV0]; exact ((Bk2.newAt _ _ (by simp) _ _ _).alloc _)
  have PB : Bk2 V0 (w.heap.size + 1) (.bool b.neg) (.slice b.A b.n b.c) := by rw [hV0]; exact (Bk2.newAt _ _ (by simp) _ _ _)
  rw [← hV0]
  clear hV0
  replace E : Below w.heap.size w V0 := E.trans (bV0.mono E.size)
  replace HA : LRd V0 (w.heap.size) a.A a.n a.c a.xs := HA.below bV0 (by omega)
  replace HB : LRd V0 (w.heap.size) b.A b.n b.c b.xs := HB.below bV0 (by omega)
  clear bV0
  (with_reducible refine (counts_any _).mono ?_)
  rintro e w1 ⟨rfl, hb1⟩
  have sw1 := hb1.size
  replace E : Below w.heap.size w w1 := E.trans (hb1.mono E.size)
  replace HA : LRd w1 (w.heap.size) a.A a.n a.c a.xs := HA.below hb1 (by omega)
  replace HB : LRd w1 (w.heap.size) b.A b.n b.c b.xs := HB.below hb1 (by omega)
  replace PA : Bk2 w1 (w.heap.size) (.bool a.neg) (.slice a.A a.n a.c) := PA.below hb1 PA.lt
  replace PB : Bk2 w1 (w.heap.size + 1) (.bool b.neg) (.slice b.A b.n b.c) := PB.below hb1 PB.lt
  clear hb1
  have IR := Lib.hid (irow2 w1 w.heap.size a b HA HB (by omega))
  have p_PA0 : w1.cell? ⟨w.heap.size, 0, none⟩ = some ((.bool a.neg)) := PA.c0
  have p_PA1 : w1.cell? ⟨w.heap.size, 1, none⟩ = some ((.slice a.A a.n a.c)) := PA.c1
  have p_PB0 : w1.cell? ⟨w.heap.size + 1, 0, none⟩ = some ((.bool b.neg)) := PB.c0
  have p_PB1 : w1.cell? ⟨w.heap.size + 1, 1, none⟩ = some ((.slice b.A b.n b.c)) := PB.c1
  go_wp2_with fail
  clear p_PA0 p_PA1 p_PB0 p_PB1
  obtain ⟨V1, hV1⟩ : ∃ V1 : World, V1 = (w1.alloc (.cells #[.bool a.neg, .slice a.A a.n a.c, .bool b.neg, .slice b.A b.n b.c] 24)) := ⟨_, rfl⟩
  have bV1 : Below w1.heap.size w1 V1 := by rw [hV1]; (repeat (first | with_reducible exact Below.refl _ _ | with_reducible refine Below.drew ?_ | with_reducible refine below_drewN ?_ _ | with_reducible refine Below.setCell ?_ (by first | (simp; done) | (simp; omega) | omega) _ | with_reducible refine Below.alloc ?_ (by first | (simp; done) | (simp; omega) | omega) _))
  have zV1 : w1.heap.size + 1 ≤ V1.heap.size := by rw [hV1]; simp
  replace IR : Hid (IRow V1 w.heap.size w1.heap.size [a, b]) := by have h9 := IR.out; rw [hV1]; exact h9
  rw [← hV1]
  clear hV1
  replace E : Below w.heap.size w V1 := E.trans (bV1.mono E.size)
  replace HA : LRd V1 (w.heap.size) a.A a.n a.c a.xs := HA.below bV1 (by omega)
  replace HB : LRd V1 (w.heap.size) b.A b.n b.c b.xs := HB.below bV1 (by omega)
  replace PA : Bk2 V1 (w.heap.size) (.bool a.neg) (.slice a.A a.n a.c) := PA.below bV1 PA.lt
  replace PB : Bk2 V1 (w.heap.size + 1) (.bool b.neg) (.slice b.A b.n b.c) := PB.below bV1 PB.lt
  clear bV1
  (with_reducible refine (faults_any _ w.heap.size w1.heap.size 2 [a, b] IR.out rfl (by omega) (by omega)).mono ?_)
  rintro e w2 ⟨rfl, hb2⟩
  have sw2 := hb2.size
  replace E : Below w.heap.size w w2 := E.trans (hb2.mono E.size)
  replace HA : LRd w2 (w.heap.size) a.A a.n a.c a.xs := HA.below hb2 (by omega)
  replace HB : LRd w2 (w.heap.size) b.A b.n b.c b.xs := HB.below hb2 (by omega)
  replace PA : Bk2 w2 (w.heap.size) (.bool a.neg) (.slice a.A a.n a.c) := PA.below hb2 PA.lt
  replace PB : Bk2 w2 (w.heap.size + 1) (.bool b.neg) (.slice b.A b.n b.c) := PB.below hb2 PB.lt
  clear hb2
  rw [two_ok oa ob]
  unfold flt
  clear IR
  rw [hb.out] at PB
  have t0 := PB.c0
  go_wp2_with fail
  all_goals go_ret
  all_goals exact ⟨by first | rfl | (simp; done), E⟩
set_option maxHeartbeats 8000000 in
theorem pwm_zero (w : World) (a b : IV) (i j : Int) (i1 : -9223372036854775808 ≤ i) (i2 : i ≤ 9223372036854775807) (j1 : -9223372036854775808 ≤ j) (j2 : j ≤ 9223372036854775807) (HA : a.at w w.heap.size) (HB : b.at w w.heap.size) (oa : a.ok = true) (ob : b.ok = true) (hb : Hid (b.neg = false)) (h0 : Hid (b.n = 0)) :
    Calls Try.prog 12 #[a.v, .int .i64 i, .int .i64 j, b.v] w (fun e w' => e = .returned (.bool true) ∧ Below w.heap.size w w') := by
  replace HA : LRd w w.heap.size a.A a.n a.c a.xs := HA
  replace HB : LRd w w.heap.size b.A b.n b.c b.xs := HB
  have E : Below w.heap.size w w := Below.refl _ _
  have hfd := field_code
  go_enter Try.func12, Try.ntmps12
  go_wp2_with fail
  obtain ⟨V0, hV0⟩ : ∃ V0 : World, V0 = ((w.alloc (.cells #[.bool a.neg, .slice a.A a.n a.c] 24)).alloc (.cells #[.bool b.neg, .slice b.A b.n b.c] 24)) := ⟨_, rfl⟩
  have bV0 : Below w.heap.size w V0 := by rw [hV0]; (repeat (first | with_reducible exact Below.refl _ _ | with_reducible refine Below.drew ?_ | with_reducible refine below_drewN ?_ _ | with_reducible refine Below.setCell ?_ (by first | (simp; done) | (simp; omega) | omega) _ | with_reducible refine Below.alloc ?_ (by first | (simp; done) | (simp; omega) | omega) _))
  have zV0 : w.heap.size + 2 ≤ V0.heap.size := by rw [hV0]; simp
  have PA : Bk2 V0 (w.heap.size) (.bool a.neg) (.slice a.A a.n a.c) := by rw [hV0]; exact ((Bk2.newAt _ _ (by simp) _ _ _).alloc _)
  have PB : Bk2 V0 (w.heap.size + 1) (.bool b.neg) (.slice b.A b.n b.c) := by rw [hV0]; exact (Bk2.newAt _ _ (by simp) _ _ _)
  rw [← hV0]
  clear hV0
  replace E : Below w.heap.size w V0 := E.trans (bV0.mono E.size)
  replace HA : LRd V0 (w.heap.size) a.A a.n a.c a.xs := HA.below bV0 (by omega)
  replace HB : LRd V0 (w.heap.size) b.A b.n b.c b.xs := HB.below bV0 (by omega)
  clear bV0
  (with_reducible refine (counts_any _).mono ?_)
  rintro e w1 ⟨rfl, hb1⟩
  have sw1 := hb1.size
  replace E : Below w.heap.size w w1 := E.trans (hb1.mono E.size)
  replace HA : LRd w1 (w.heap.size) a.A a.n a.c a.xs := HA.below hb1 (by omega)
  replace HB : LRd w1 (w.heap.size) b.A b.n b.c b.xs := HB.below hb1 (by omega)
  replace PA : Bk2 w1 (w.heap.size) (.bool a.neg) (.slice a.A a.n a.c) := PA.below hb1 PA.lt
  replace PB : Bk2 w1 (w.heap.size + 1) (.bool b.neg) (.slice b.A b.n b.c) := PB.below hb1 PB.lt
  clear hb1
  have IR := Lib.hid (irow2 w1 w.heap.size a b HA HB (by omega))
  have p_PA0 : w1.cell? ⟨w.heap.size, 0, none⟩ = some ((.bool a.neg)) := PA.c0
  have p_PA1 : w1.cell? ⟨w.heap.size, 1, none⟩ = some ((.slice a.A a.n a.c)) := PA.c1
  have p_PB0 : w1.cell? ⟨w.heap.size + 1, 0, none⟩ = some ((.bool b.neg)) := PB.c0
  have p_PB1 : w1.cell? ⟨w.heap.size + 1, 1, none⟩ = some ((.slice b.A b.n b.c)) := PB.c1
  go_wp2_with fail
  clear p_PA0 p_PA1 p_PB0 p_PB1
  obtain ⟨V1, hV1⟩ : ∃ V1 : World, V1 = (w1.alloc (.cells #[.bool a.neg, .slice a.A a.n a.c, .bool b.neg, .slice b.A b.n b.c] 24)) := ⟨_, rfl⟩
  have bV1 : Below w1.heap.size w1 V1 := by rw [hV1]; (repeat (first | with_reducible exact Below.refl _ _ | with_reducible refine Below.drew ?_ | with_reducible refine below_drewN ?_ _ | with_reducible refine Below.setCell ?_ (by first | (simp; done) | (simp; omega) | omega) _ | with_reducible refine Below.alloc ?_ (by first | (simp; done) | (simp; omega) | omega) _))
  have zV1 : w1.heap.size + 1 ≤ V1.heap.size := by rw [hV1]; simp
  replace IR : Hid (IRow V1 w.heap.size w1.heap.size [a, b]) := by have h9 := IR.out; rw [hV1]; exact h9
  rw [← hV1]
  clear hV1
  replace E : Below w.heap.size w V1 := E.trans (bV1.mono E.size)
  replace HA : LRd V1 (w.heap.size) a.A a.n a.c a.xs := HA.below bV1 (by omega)
  replace HB : LRd V1 (w.heap.size) b.A b.n b.c b.xs := HB.below bV1 (by omega)
  replace PA : Bk2 V1 (w.heap.size) (.bool a.neg) (.slice a.A a.n a.c) := PA.below bV1 PA.lt
  replace PB : Bk2 V1 (w.heap.size + 1) (.bool b.neg) (.slice b.A b.n b.c) := PB.below bV1 PB.lt
  clear bV1
  (with_reducible refine (faults_any _ w.heap.size w1.heap.size 2 [a, b] IR.out rfl (by omega) (by omega)).mono ?_)
  rintro e w2 ⟨rfl, hb2⟩
  have sw2 := hb2.size
  replace E : Below w.heap.size w w2 := E.trans (hb2.mono E.size)
  replace HA : LRd w2 (w.heap.size) a.A a.n a.c a.xs := HA.below hb2 (by omega)
  replace HB : LRd w2 (w.heap.size) b.A b.n b.c b.xs := HB.below hb2 (by omega)
  replace PA : Bk2 w2 (w.heap.size) (.bool a.neg) (.slice a.A a.n a.c) := PA.below hb2 PA.lt
  replace PB : Bk2 w2 (w.heap.size + 1) (.bool b.neg) (.slice b.A b.n b.c) := PB.below hb2 PB.lt
  clear hb2
  rw [two_ok oa ob]
  unfold flt
  clear IR
  rw [hb.out] at PB
  have t_PB0 : w2.cell? ⟨w.heap.size + 1, 0, none⟩ = some ((.bool false)) := PB.c0
  have t_PB1 : w2.cell? ⟨w.heap.size + 1, 1, none⟩ = some ((.slice b.A b.n b.c)) := PB.c1
  go_wp2_with fail
  clear t_PB0 t_PB1
  (with_reducible refine (noInt_any _ false b.A b.n b.c (by have := HB.len.out; have := (IV.vld ob).2; omega)).mono ?_)
  rintro e w3 ⟨rfl, hb3⟩
  have sw3 := hb3.size
  replace E : Below w.heap.size w w3 := E.trans (hb3.mono E.size)
  replace HA : LRd w3 (w.heap.size) a.A a.n a.c a.xs := HA.below hb3 (by omega)
  replace HB : LRd w3 (w.heap.size) b.A b.n b.c b.xs := HB.below hb3 (by omega)
  replace PA : Bk2 w3 (w.heap.size) (.bool a.neg) (.slice a.A a.n a.c) := PA.below hb3 PA.lt
  replace PB : Bk2 w3 (w.heap.size + 1) (.bool false) (.slice b.A b.n b.c) := PB.below hb3 PB.lt
  clear hb3
  rw [show (!false && decide (b.n = 0)) = true by rw [decide_eq_true h0.out]; rfl]
  go_wp2_with fail
  all_goals go_ret
  all_goals exact ⟨by first | rfl | (simp; done), E⟩
set_option maxHeartbeats 8000000 in
theorem pwm_long (w : World) (a b : IV) (i j : Int) (i1 : -9223372036854775808 ≤ i) (i2 : i ≤ 9223372036854775807) (j1 : -9223372036854775808 ≤ j) (j2 : j ≤ 9223372036854775807) (HA : a.at w w.heap.size) (HB : b.at w w.heap.size) (oa : a.ok = true) (ob : b.ok = true) (hb : Hid (b.neg = false)) (h0 : Hid (0 < b.n)) (hl : 60 < b.n) :
    Calls Try.prog 12 #[a.v, .int .i64 i, .int .i64 j, b.v] w (fun e w' => e = .returned (.bool true) ∧ Below w.heap.size w w') := by
  replace HA : LRd w w.heap.size a.A a.n a.c a.xs := HA
  replace HB : LRd w w.heap.size b.A b.n b.c b.xs := HB
  have E : Below w.heap.size w w := Below.refl _ _
  have hfd := field_code
  go_enter Try.func12, Try.ntmps12
  go_wp2_with fail
  obtain ⟨V0, hV0⟩ : ∃ V0 : World, V0 = ((w.alloc (.cells #[.bool a.neg, .slice a.A a.n a.c] 24)).alloc (.cells #[.bool b.neg, .slice b.A b.n b.c] 24)) := ⟨_, rfl⟩
  have bV0 : Below w.heap.size w V0 := by rw [hV0]; (repeat (first | with_reducible exact Below.refl _ _ | with_reducible refine Below.drew ?_ | with_reducible refine below_drewN ?_ _ | with_reducible refine Below.setCell ?_ (by first | (simp; done) | (simp; omega) | omega) _ | with_reducible refine Below.alloc ?_ (by first | (simp; done) | (simp; omega) | omega) _))
  have zV0 : w.heap.size + 2 ≤ V0.heap.size := by rw [hV0]; simp
  have PA : Bk2 V0 (w.heap.size) (.bool a.neg) (.slice a.A a.n a.c) := by rw [hV0]; exact ((Bk2.newAt _ _ (by simp) _ _ _).alloc _)
  have PB : Bk2 V0 (w.heap.size + 1) (.bool b.neg) (.slice b.A b.n b.c) := by rw [hV0]; exact (Bk2.newAt _ _ (by simp) _ _ _)
  rw [← hV0]
  clear hV0
  replace E : Below w.heap.size w V0 := E.trans (bV0.mono E.size)
  replace HA : LRd V0 (w.heap.size) a.A a.n a.c a.xs := HA.below bV0 (by omega)
  replace HB : LRd V0 (w.heap.size) b.A b.n b.c b.xs := HB.below bV0 (by omega)
  clear bV0
  (with_reducible refine (counts_any _).mono ?_)
  rintro e w1 ⟨rfl, hb1⟩
  have sw1 := hb1.size
  replace E : Below w.heap.size w w1 := E.trans (hb1.mono E.size)
  replace HA : LRd w1 (w.heap.size) a.A a.n a.c a.xs := HA.below hb1 (by omega)
  replace HB : LRd w1 (w.heap.size) b.A b.n b.c b.xs := HB.below hb1 (by omega)
  replace PA : Bk2 w1 (w.heap.size) (.bool a.neg) (.slice a.A a.n a.c) := PA.below hb1 PA.lt
  replace PB : Bk2 w1 (w.heap.size + 1) (.bool b.neg) (.slice b.A b.n b.c) := PB.below hb1 PB.lt
  clear hb1
  have IR := Lib.hid (irow2 w1 w.heap.size a b HA HB (by omega))
  have p_PA0 : w1.cell? ⟨w.heap.size, 0, none⟩ = some ((.bool a.neg)) := PA.c0
  have p_PA1 : w1.cell? ⟨w.heap.size, 1, none⟩ = some ((.slice a.A a.n a.c)) := PA.c1
  have p_PB0 : w1.cell? ⟨w.heap.size + 1, 0, none⟩ = some ((.bool b.neg)) := PB.c0
  have p_PB1 : w1.cell? ⟨w.heap.size + 1, 1, none⟩ = some ((.slice b.A b.n b.c)) := PB.c1
  go_wp2_with fail
  clear p_PA0 p_PA1 p_PB0 p_PB1
  obtain ⟨V1, hV1⟩ : ∃ V1 : World, V1 = (w1.alloc (.cells #[.bool a.neg, .slice a.A a.n a.c, .bool b.neg, .slice b.A b.n b.c] 24)) := ⟨_, rfl⟩
  have bV1 : Below w1.heap.size w1 V1 := by rw [hV1]; (repeat (first | with_reducible exact Below.refl _ _ | with_reducible refine Below.drew ?_ | with_reducible refine below_drewN ?_ _ | with_reducible refine Below.setCell ?_ (by first | (simp; done) | (simp; omega) | omega) _ | with_reducible refine Below.alloc ?_ (by first | (simp; done) | (simp; omega) | omega) _))
  have zV1 : w1.heap.size + 1 ≤ V1.heap.size := by rw [hV1]; simp
  replace IR : Hid (IRow V1 w.heap.size w1.heap.size [a, b]) := by have h9 := IR.out; rw [hV1]; exact h9
  rw [← hV1]
  clear hV1
  replace E : Below w.heap.size w V1 := E.trans (bV1.mono E.size)
  replace HA : LRd V1 (w.heap.size) a.A a.n a.c a.xs := HA.below bV1 (by omega)
  replace HB : LRd V1 (w.heap.size) b.A b.n b.c b.xs := HB.below bV1 (by omega)
  replace PA : Bk2 V1 (w.heap.size) (.bool a.neg) (.slice a.A a.n a.c) := PA.below bV1 PA.lt
  replace PB : Bk2 V1 (w.heap.size + 1) (.bool b.neg) (.slice b.A b.n b.c) := PB.below bV1 PB.lt
  clear bV1
  (with_reducible refine (faults_any _ w.heap.size w1.heap.size 2 [a, b] IR.out rfl (by omega) (by omega)).mono ?_)
  rintro e w2 ⟨rfl, hb2⟩
  have sw2 := hb2.size
  replace E : Below w.heap.size w w2 := E.trans (hb2.mono E.size)
  replace HA : LRd w2 (w.heap.size) a.A a.n a.c a.xs := HA.below hb2 (by omega)
  replace HB : LRd w2 (w.heap.size) b.A b.n b.c b.xs := HB.below hb2 (by omega)
  replace PA : Bk2 w2 (w.heap.size) (.bool a.neg) (.slice a.A a.n a.c) := PA.below hb2 PA.lt
  replace PB : Bk2 w2 (w.heap.size + 1) (.bool b.neg) (.slice b.A b.n b.c) := PB.below hb2 PB.lt
  clear hb2
  rw [two_ok oa ob]
  unfold flt
  clear IR
  rw [hb.out] at PB
  have t_PB0 : w2.cell? ⟨w.heap.size + 1, 0, none⟩ = some ((.bool false)) := PB.c0
  have t_PB1 : w2.cell? ⟨w.heap.size + 1, 1, none⟩ = some ((.slice b.A b.n b.c)) := PB.c1
  go_wp2_with fail
  clear t_PB0 t_PB1
  (with_reducible refine (noInt_any _ false b.A b.n b.c (by have := HB.len.out; have := (IV.vld ob).2; omega)).mono ?_)
  rintro e w3 ⟨rfl, hb3⟩
  have sw3 := hb3.size
  replace E : Below w.heap.size w w3 := E.trans (hb3.mono E.size)
  replace HA : LRd w3 (w.heap.size) a.A a.n a.c a.xs := HA.below hb3 (by omega)
  replace HB : LRd w3 (w.heap.size) b.A b.n b.c b.xs := HB.below hb3 (by omega)
  replace PA : Bk2 w3 (w.heap.size) (.bool a.neg) (.slice a.A a.n a.c) := PA.below hb3 PA.lt
  replace PB : Bk2 w3 (w.heap.size + 1) (.bool false) (.slice b.A b.n b.c) := PB.below hb3 PB.lt
  clear hb3
  rw [show (!false && decide (b.n = 0)) = false by rw [decide_eq_false (by have := h0.out; omega)]; rfl]
  have t1 := PB.c1
  have hl' : 60 < (b.n : Int) := by omega
  go_wp2_with fail
  all_goals go_ret
  all_goals exact ⟨by first | rfl | (simp; done), E⟩
set_option maxHeartbeats 8000000 in
theorem pwm_n0 (w : World) (a b : IV) (i j : Int) (i1 : -9223372036854775808 ≤ i) (i2 : i ≤ 9223372036854775807) (j1 : -9223372036854775808 ≤ j) (j2 : j ≤ 9223372036854775807) (HA : a.at w w.heap.size) (HB : b.at w w.heap.size) (oa : a.ok = true) (ob : b.ok = true) (hb : Hid (b.neg = false)) (h0 : Hid (0 < b.n)) (hl : b.n ≤ 60) (k0 : i < 0) :
    Calls Try.prog 12 #[a.v, .int .i64 i, .int .i64 j, b.v] w (fun e w' => e = .returned (.bool true) ∧ Below w.heap.size w w') := by
  replace HA : LRd w w.heap.size a.A a.n a.c a.xs := HA
  replace HB : LRd w w.heap.size b.A b.n b.c b.xs := HB
  have E : Below w.heap.size w w := Below.refl _ _
  have hfd := field_code
  go_enter Try.func12, Try.ntmps12
  go_wp2_with fail
  obtain ⟨V0, hV0⟩ : ∃ V0 : World, V0 = ((w.alloc (.cells #[.bool a.neg, .slice a.A a.n a.c] 24)).alloc (.cells #[.bool b.neg, .slice b.A b.n b.c] 24)) := ⟨_, rfl⟩
  have bV0 : Below w.heap.size w V0 := by rw [hV0]; (repeat (first | with_reducible exact Below.refl _ _ | with_reducible refine Below.drew ?_ | with_reducible refine below_drewN ?_ _ | with_reducible refine Below.setCell ?_ (by first | (simp; done) | (simp; omega) | omega) _ | with_reducible refine Below.alloc ?_ (by first | (simp; done) | (simp; omega) | omega) _))
  have zV0 : w.heap.size + 2 ≤ V0.heap.size := by rw [hV0]; simp
  have PA : Bk2 V0 (w.heap.size) (.bool a.neg) (.slice a.A a.n a.c) := by rw [hV0]; exact ((Bk2.newAt _ _ (by simp) _ _ _).alloc _)
  have PB : Bk2 V0 (w.heap.size + 1) (.bool b.neg) (.slice b.A b.n b.c) := by rw [hV0]; exact (Bk2.newAt _ _ (by simp) _ _ _)
  rw [← hV0]
  clear hV0
  replace E : Below w.heap.size w V0 := E.trans (bV0.mono E.size)
  replace HA : LRd V0 (w.heap.size) a.A a.n a.c a.xs := HA.below bV0 (by omega)
  replace HB : LRd V0 (w.heap.size) b.A b.n b.c b.xs := HB.below bV0 (by omega)
  clear bV0
  (with_reducible refine (counts_any _).mono ?_)
  rintro e w1 ⟨rfl, hb1⟩
  have sw1 := hb1.size
  replace E : Below w.heap.size w w1 := E.trans (hb1.mono E.size)
  replace HA : LRd w1 (w.heap.size) a.A a.n a.c a.xs := HA.below hb1 (by omega)
  replace HB : LRd w1 (w.heap.size) b.A b.n b.c b.xs := HB.below hb1 (by omega)
  replace PA : Bk2 w1 (w.heap.size) (.bool a.neg) (.slice a.A a.n a.c) := PA.below hb1 PA.lt
  replace PB : Bk2 w1 (w.heap.size + 1) (.bool b.neg) (.slice b.A b.n b.c) := PB.below hb1 PB.lt
  clear hb1
  have IR := Lib.hid (irow2 w1 w.heap.size a b HA HB (by omega))
  have p_PA0 : w1.cell? ⟨w.heap.size, 0, none⟩ = some ((.bool a.neg)) := PA.c0
  have p_PA1 : w1.cell? ⟨w.heap.size, 1, none⟩ = some ((.slice a.A a.n a.c)) := PA.c1
  have p_PB0 : w1.cell? ⟨w.heap.size + 1, 0, none⟩ = some ((.bool b.neg)) := PB.c0
  have p_PB1 : w1.cell? ⟨w.heap.size + 1, 1, none⟩ = some ((.slice b.A b.n b.c)) := PB.c1
  go_wp2_with fail
  clear p_PA0 p_PA1 p_PB0 p_PB1
  obtain ⟨V1, hV1⟩ : ∃ V1 : World, V1 = (w1.alloc (.cells #[.bool a.neg, .slice a.A a.n a.c, .bool b.neg, .slice b.A b.n b.c] 24)) := ⟨_, rfl⟩
  have bV1 : Below w1.heap.size w1 V1 := by rw [hV1]; (repeat (first | with_reducible exact Below.refl _ _ | with_reducible refine Below.drew ?_ | with_reducible refine below_drewN ?_ _ | with_reducible refine Below.setCell ?_ (by first | (simp; done) | (simp; omega) | omega) _ | with_reducible refine Below.alloc ?_ (by first | (simp; done) | (simp; omega) | omega) _))
  have zV1 : w1.heap.size + 1 ≤ V1.heap.size := by rw [hV1]; simp
  replace IR : Hid (IRow V1 w.heap.size w1.heap.size [a, b]) := by have h9 := IR.out; rw [hV1]; exact h9
  rw [← hV1]
  clear hV1
  replace E : Below w.heap.size w V1 := E.trans (bV1.mono E.size)
  replace HA : LRd V1 (w.heap.size) a.A a.n a.c a.xs := HA.below bV1 (by omega)
  replace HB : LRd V1 (w.heap.size) b.A b.n b.c b.xs := HB.below bV1 (by omega)
  replace PA : Bk2 V1 (w.heap.size) (.bool a.neg) (.slice a.A a.n a.c) := PA.below bV1 PA.lt
  replace PB : Bk2 V1 (w.heap.size + 1) (.bool b.neg) (.slice b.A b.n b.c) := PB.below bV1 PB.lt
  clear bV1
  (with_reducible refine (faults_any _ w.heap.size w1.heap.size 2 [a, b] IR.out rfl (by omega) (by omega)).mono ?_)
  rintro e w2 ⟨rfl, hb2⟩
  have sw2 := hb2.size
  replace E : Below w.heap.size w w2 := E.trans (hb2.mono E.size)
  replace HA : LRd w2 (w.heap.size) a.A a.n a.c a.xs := HA.below hb2 (by omega)
  replace HB : LRd w2 (w.heap.size) b.A b.n b.c b.xs := HB.below hb2 (by omega)
  replace PA : Bk2 w2 (w.heap.size) (.bool a.neg) (.slice a.A a.n a.c) := PA.below hb2 PA.lt
  replace PB : Bk2 w2 (w.heap.size + 1) (.bool b.neg) (.slice b.A b.n b.c) := PB.below hb2 PB.lt
  clear hb2
  rw [two_ok oa ob]
  unfold flt
  clear IR
  rw [hb.out] at PB
  have t_PB0 : w2.cell? ⟨w.heap.size + 1, 0, none⟩ = some ((.bool false)) := PB.c0
  have t_PB1 : w2.cell? ⟨w.heap.size + 1, 1, none⟩ = some ((.slice b.A b.n b.c)) := PB.c1
  go_wp2_with fail
  clear t_PB0 t_PB1
  (with_reducible refine (noInt_any _ false b.A b.n b.c (by have := HB.len.out; have := (IV.vld ob).2; omega)).mono ?_)
  rintro e w3 ⟨rfl, hb3⟩
  have sw3 := hb3.size
  replace E : Below w.heap.size w w3 := E.trans (hb3.mono E.size)
  replace HA : LRd w3 (w.heap.size) a.A a.n a.c a.xs := HA.below hb3 (by omega)
  replace HB : LRd w3 (w.heap.size) b.A b.n b.c b.xs := HB.below hb3 (by omega)
  replace PA : Bk2 w3 (w.heap.size) (.bool a.neg) (.slice a.A a.n a.c) := PA.below hb3 PA.lt
  replace PB : Bk2 w3 (w.heap.size + 1) (.bool false) (.slice b.A b.n b.c) := PB.below hb3 PB.lt
  clear hb3
  rw [show (!false && decide (b.n = 0)) = false by rw [decide_eq_false (by have := h0.out; omega)]; rfl]
  have t1 := PB.c1
  have hl' : (b.n : Int) ≤ 60 := by omega
  go_wp2_with fail
  all_goals go_ret
  all_goals exact ⟨by first | rfl | (simp; done), E⟩
set_option maxHeartbeats 8000000 in
theorem pwm_k0 (w : World) (a b : IV) (i j : Int) (i1 : -9223372036854775808 ≤ i) (i2 : i ≤ 9223372036854775807) (j1 : -9223372036854775808 ≤ j) (j2 : j ≤ 9223372036854775807) (HA : a.at w w.heap.size) (HB : b.at w w.heap.size) (oa : a.ok = true) (ob : b.ok = true) (hb : Hid (b.neg = false)) (h0 : Hid (0 < b.n)) (hl : b.n ≤ 60) (k0 : 0 ≤ i) (k1 : j < 0) :
    Calls Try.prog 12 #[a.v, .int .i64 i, .int .i64 j, b.v] w (fun e w' => e = .returned (.bool true) ∧ Below w.heap.size w w') := by
  replace HA : LRd w w.heap.size a.A a.n a.c a.xs := HA
  replace HB : LRd w w.heap.size b.A b.n b.c b.xs := HB
  have E : Below w.heap.size w w := Below.refl _ _
  have hfd := field_code
  go_enter Try.func12, Try.ntmps12
  go_wp2_with fail
  obtain ⟨V0, hV0⟩ : ∃ V0 : World, V0 = ((w.alloc (.cells #[.bool a.neg, .slice a.A a.n a.c] 24)).alloc (.cells #[.bool b.neg, .slice b.A b.n b.c] 24)) := ⟨_, rfl⟩
  have bV0 : Below w.heap.size w V0 := by rw [hV0]; (repeat (first | with_reducible exact Below.refl _ _ | with_reducible refine Below.drew ?_ | with_reducible refine below_drewN ?_ _ | with_reducible refine Below.setCell ?_ (by first | (simp; done) | (simp; omega) | omega) _ | with_reducible refine Below.alloc ?_ (by first | (simp; done) | (simp; omega) | omega) _))
  have zV0 : w.heap.size + 2 ≤ V0.heap.size := by rw [hV0]; simp
  have PA : Bk2 V0 (w.heap.size) (.bool a.neg) (.slice a.A a.n a.c) := by rw [hV0]; exact ((Bk2.newAt _ _ (by simp) _ _ _).alloc _)
  have PB : Bk2 V0 (w.heap.size + 1) (.bool b.neg) (.slice b.A b.n b.c) := by rw [hV0]; exact (Bk2.newAt _ _ (by simp) _ _ _)
  rw [← hV0]
  clear hV0
  replace E : Below w.heap.size w V0 := E.trans (bV0.mono E.size)
  replace HA : LRd V0 (w.heap.size) a.A a.n a.c a.xs := HA.below bV0 (by omega)
  replace HB : LRd V0 (w.heap.size) b.A b.n b.c b.xs := HB.below bV0 (by omega)
  clear bV0
  (with_reducible refine (counts_any _).mono ?_)
  rintro e w1 ⟨rfl, hb1⟩
  have sw1 := hb1.size
  replace E : Below w.heap.size w w1 := E.trans (hb1.mono E.size)
  replace HA : LRd w1 (w.heap.size) a.A a.n a.c a.xs := HA.below hb1 (by omega)
  replace HB : LRd w1 (w.heap.size) b.A b.n b.c b.xs := HB.below hb1 (by omega)
  replace PA : Bk2 w1 (w.heap.size) (.bool a.neg) (.slice a.A a.n a.c) := PA.below hb1 PA.lt
  replace PB : Bk2 w1 (w.heap.size + 1) (.bool b.neg) (.slice b.A b.n b.c) := PB.below hb1 PB.lt
  clear hb1
  have IR := Lib.hid (irow2 w1 w.heap.size a b HA HB (by omega))
  have p_PA0 : w1.cell? ⟨w.heap.size, 0, none⟩ = some ((.bool a.neg)) := PA.c0
  have p_PA1 : w1.cell? ⟨w.heap.size, 1, none⟩ = some ((.slice a.A a.n a.c)) := PA.c1
  have p_PB0 : w1.cell? ⟨w.heap.size + 1, 0, none⟩ = some ((.bool b.neg)) := PB.c0
  have p_PB1 : w1.cell? ⟨w.heap.size + 1, 1, none⟩ = some ((.slice b.A b.n b.c)) := PB.c1
  go_wp2_with fail
  clear p_PA0 p_PA1 p_PB0 p_PB1
  obtain ⟨V1, hV1⟩ : ∃ V1 : World, V1 = (w1.alloc (.cells #[.bool a.neg, .slice a.A a.n a.c, .bool b.neg, .slice b.A b.n b.c] 24)) := ⟨_, rfl⟩
  have bV1 : Below w1.heap.size w1 V1 := by rw [hV1]; (repeat (first | with_reducible exact Below.refl _ _ | with_reducible refine Below.drew ?_ | with_reducible refine below_drewN ?_ _ | with_reducible refine Below.setCell ?_ (by first | (simp; done) | (simp; omega) | omega) _ | with_reducible refine Below.alloc ?_ (by first | (simp; done) | (simp; omega) | omega) _))
  have zV1 : w1.heap.size + 1 ≤ V1.heap.size := by rw [hV1]; simp
  replace IR : Hid (IRow V1 w.heap.size w1.heap.size [a, b]) := by have h9 := IR.out; rw [hV1]; exact h9
  rw [← hV1]
  clear hV1
  replace E : Below w.heap.size w V1 := E.trans (bV1.mono E.size)
  replace HA : LRd V1 (w.heap.size) a.A a.n a.c a.xs := HA.below bV1 (by omega)
  replace HB : LRd V1 (w.heap.size) b.A b.n b.c b.xs := HB.below bV1 (by omega)
  replace PA : Bk2 V1 (w.heap.size) (.bool a.neg) (.slice a.A a.n a.c) := PA.below bV1 PA.lt
  replace PB : Bk2 V1 (w.heap.size + 1) (.bool b.neg) (.slice b.A b.n b.c) := PB.below bV1 PB.lt
  clear bV1
  (with_reducible refine (faults_any _ w.heap.size w1.heap.size 2 [a, b] IR.out rfl (by omega) (by omega)).mono ?_)
  rintro e w2 ⟨rfl, hb2⟩
  have sw2 := hb2.size
  replace E : Below w.heap.size w w2 := E.trans (hb2.mono E.size)
  replace HA : LRd w2 (w.heap.size) a.A a.n a.c a.xs := HA.below hb2 (by omega)
  replace HB : LRd w2 (w.heap.size) b.A b.n b.c b.xs := HB.below hb2 (by omega)
  replace PA : Bk2 w2 (w.heap.size) (.bool a.neg) (.slice a.A a.n a.c) := PA.below hb2 PA.lt
  replace PB : Bk2 w2 (w.heap.size + 1) (.bool b.neg) (.slice b.A b.n b.c) := PB.below hb2 PB.lt
  clear hb2
  rw [two_ok oa ob]
  unfold flt
  clear IR
  rw [hb.out] at PB
  have t_PB0 : w2.cell? ⟨w.heap.size + 1, 0, none⟩ = some ((.bool false)) := PB.c0
  have t_PB1 : w2.cell? ⟨w.heap.size + 1, 1, none⟩ = some ((.slice b.A b.n b.c)) := PB.c1
  go_wp2_with fail
  clear t_PB0 t_PB1
  (with_reducible refine (noInt_any _ false b.A b.n b.c (by have := HB.len.out; have := (IV.vld ob).2; omega)).mono ?_)
  rintro e w3 ⟨rfl, hb3⟩
  have sw3 := hb3.size
  replace E : Below w.heap.size w w3 := E.trans (hb3.mono E.size)
  replace HA : LRd w3 (w.heap.size) a.A a.n a.c a.xs := HA.below hb3 (by omega)
  replace HB : LRd w3 (w.heap.size) b.A b.n b.c b.xs := HB.below hb3 (by omega)
  replace PA : Bk2 w3 (w.heap.size) (.bool a.neg) (.slice a.A a.n a.c) := PA.below hb3 PA.lt
  replace PB : Bk2 w3 (w.heap.size + 1) (.bool false) (.slice b.A b.n b.c) := PB.below hb3 PB.lt
  clear hb3
  rw [show (!false && decide (b.n = 0)) = false by rw [decide_eq_false (by have := h0.out; omega)]; rfl]
  have t1 := PB.c1
  have hl' : (b.n : Int) ≤ 60 := by omega
  go_wp2_with fail
  all_goals go_ret
  all_goals exact ⟨by first | rfl | (simp; done), E⟩
set_option maxHeartbeats 8000000 in
theorem pwm_n1 (w : World) (a b : IV) (i j : Int) (i1 : -9223372036854775808 ≤ i) (i2 : i ≤ 9223372036854775807) (j1 : -9223372036854775808 ≤ j) (j2 : j ≤ 9223372036854775807) (HA : a.at w w.heap.size) (HB : b.at w w.heap.size) (oa : a.ok = true) (ob : b.ok = true) (hb : Hid (b.neg = false)) (h0 : Hid (0 < b.n)) (hl : b.n ≤ 60) (k0 : 0 ≤ i) (k1 : 0 ≤ j) (k2 : 5000 < i) :
    Calls Try.prog 12 #[a.v, .int .i64 i, .int .i64 j, b.v] w (fun e w' => e = .returned (.bool true) ∧ Below w.heap.size w w') := by
  replace HA : LRd w w.heap.size a.A a.n a.c a.xs := HA
  replace HB : LRd w w.heap.size b.A b.n b.c b.xs := HB
  have E : Below w.heap.size w w := Below.refl _ _
  have hfd := field_code
  go_enter Try.func12, Try.ntmps12
  go_wp2_with fail
  obtain ⟨V0, hV0⟩ : ∃ V0 : World, V0 = ((w.alloc (.cells #[.bool a.neg, .slice a.A a.n a.c] 24)).alloc (.cells #[.bool b.neg, .slice b.A b.n b.c] 24)) := ⟨_, rfl⟩
  have bV0 : Below w.heap.size w V0 := by rw [hV0]; (repeat (first | with_reducible exact Below.refl _ _ | with_reducible refine Below.drew ?_ | with_reducible refine below_drewN ?_ _ | with_reducible refine Below.setCell ?_ (by first | (simp; done) | (simp; omega) | omega) _ | with_reducible refine Below.alloc ?_ (by first | (simp; done) | (simp; omega) | omega) _))
  have zV0 : w.heap.size + 2 ≤ V0.heap.size := by rw [hV0]; simp
  have PA : Bk2 V0 (w.heap.size) (.bool a.neg) (.slice a.A a.n a.c) := by rw [hV0]; exact ((Bk2.newAt _ _ (by simp) _ _ _).alloc _)
  have PB : Bk2 V0 (w.heap.size + 1) (.bool b.neg) (.slice b.A b.n b.c) := by rw [hV0]; exact (Bk2.newAt _ _ (by simp) _ _ _)
  rw [← hV0]
  clear hV0
  replace E : Below w.heap.size w V0 := E.trans (bV0.mono E.size)
  replace HA : LRd V0 (w.heap.size) a.A a.n a.c a.xs := HA.below bV0 (by omega)
  replace HB : LRd V0 (w.heap.size) b.A b.n b.c b.xs := HB.below bV0 (by omega)
  clear bV0
  (with_reducible refine (counts_any _).mono ?_)
  rintro e w1 ⟨rfl, hb1⟩
  have sw1 := hb1.size
  replace E : Below w.heap.size w w1 := E.trans (hb1.mono E.size)
  replace HA : LRd w1 (w.heap.size) a.A a.n a.c a.xs := HA.below hb1 (by omega)
  replace HB : LRd w1 (w.heap.size) b.A b.n b.c b.xs := HB.below hb1 (by omega)
  replace PA : Bk2 w1 (w.heap.size) (.bool a.neg) (.slice a.A a.n a.c) := PA.below hb1 PA.lt
  replace PB : Bk2 w1 (w.heap.size + 1) (.bool b.neg) (.slice b.A b.n b.c) := PB.below hb1 PB.lt
  clear hb1
  have IR := Lib.hid (irow2 w1 w.heap.size a b HA HB (by omega))
  have p_PA0 : w1.cell? ⟨w.heap.size, 0, none⟩ = some ((.bool a.neg)) := PA.c0
  have p_PA1 : w1.cell? ⟨w.heap.size, 1, none⟩ = some ((.slice a.A a.n a.c)) := PA.c1
  have p_PB0 : w1.cell? ⟨w.heap.size + 1, 0, none⟩ = some ((.bool b.neg)) := PB.c0
  have p_PB1 : w1.cell? ⟨w.heap.size + 1, 1, none⟩ = some ((.slice b.A b.n b.c)) := PB.c1
  go_wp2_with fail
  clear p_PA0 p_PA1 p_PB0 p_PB1
  obtain ⟨V1, hV1⟩ : ∃ V1 : World, V1 = (w1.alloc (.cells #[.bool a.neg, .slice a.A a.n a.c, .bool b.neg, .slice b.A b.n b.c] 24)) := ⟨_, rfl⟩
  have bV1 : Below w1.heap.size w1 V1 := by rw [hV1]; (repeat (first | with_reducible exact Below.refl _ _ | with_reducible refine Below.drew ?_ | with_reducible refine below_drewN ?_ _ | with_reducible refine Below.setCell ?_ (by first | (simp; done) | (simp; omega) | omega) _ | with_reducible refine Below.alloc ?_ (by first | (simp; done) | (simp; omega) | omega) _))
  have zV1 : w1.heap.size + 1 ≤ V1.heap.size := by rw [hV1]; simp
  replace IR : Hid (IRow V1 w.heap.size w1.heap.size [a, b]) := by have h9 := IR.out; rw [hV1]; exact h9
  rw [← hV1]
  clear hV1
  replace E : Below w.heap.size w V1 := E.trans (bV1.mono E.size)
  replace HA : LRd V1 (w.heap.size) a.A a.n a.c a.xs := HA.below bV1 (by omega)
  replace HB : LRd V1 (w.heap.size) b.A b.n b.c b.xs := HB.below bV1 (by omega)
  replace PA : Bk2 V1 (w.heap.size) (.bool a.neg) (.slice a.A a.n a.c) := PA.below bV1 PA.lt
  replace PB : Bk2 V1 (w.heap.size + 1) (.bool b.neg) (.slice b.A b.n b.c) := PB.below bV1 PB.lt
  clear bV1
  (with_reducible refine (faults_any _ w.heap.size w1.heap.size 2 [a, b] IR.out rfl (by omega) (by omega)).mono ?_)
  rintro e w2 ⟨rfl, hb2⟩
  have sw2 := hb2.size
  replace E : Below w.heap.size w w2 := E.trans (hb2.mono E.size)
  replace HA : LRd w2 (w.heap.size) a.A a.n a.c a.xs := HA.below hb2 (by omega)
  replace HB : LRd w2 (w.heap.size) b.A b.n b.c b.xs := HB.below hb2 (by omega)
  replace PA : Bk2 w2 (w.heap.size) (.bool a.neg) (.slice a.A a.n a.c) := PA.below hb2 PA.lt
  replace PB : Bk2 w2 (w.heap.size + 1) (.bool b.neg) (.slice b.A b.n b.c) := PB.below hb2 PB.lt
  clear hb2
  rw [two_ok oa ob]
  unfold flt
  clear IR
  rw [hb.out] at PB
  have t_PB0 : w2.cell? ⟨w.heap.size + 1, 0, none⟩ = some ((.bool false)) := PB.c0
  have t_PB1 : w2.cell? ⟨w.heap.size + 1, 1, none⟩ = some ((.slice b.A b.n b.c)) := PB.c1
  go_wp2_with fail
  clear t_PB0 t_PB1
  (with_reducible refine (noInt_any _ false b.A b.n b.c (by have := HB.len.out; have := (IV.vld ob).2; omega)).mono ?_)
  rintro e w3 ⟨rfl, hb3⟩
  have sw3 := hb3.size
  replace E : Below w.heap.size w w3 := E.trans (hb3.mono E.size)
  replace HA : LRd w3 (w.heap.size) a.A a.n a.c a.xs := HA.below hb3 (by omega)
  replace HB : LRd w3 (w.heap.size) b.A b.n b.c b.xs := HB.below hb3 (by omega)
  replace PA : Bk2 w3 (w.heap.size) (.bool a.neg) (.slice a.A a.n a.c) := PA.below hb3 PA.lt
  replace PB : Bk2 w3 (w.heap.size + 1) (.bool false) (.slice b.A b.n b.c) := PB.below hb3 PB.lt
  clear hb3
  rw [show (!false && decide (b.n = 0)) = false by rw [decide_eq_false (by have := h0.out; omega)]; rfl]
  have t1 := PB.c1
  have hl' : (b.n : Int) ≤ 60 := by omega
  go_wp2_with fail
  all_goals go_ret
  all_goals exact ⟨by first | rfl | (simp; done), E⟩
set_option maxHeartbeats 8000000 in
theorem pwm_k1 (w : World) (a b : IV) (i j : Int) (i1 : -9223372036854775808 ≤ i) (i2 : i ≤ 9223372036854775807) (j1 : -9223372036854775808 ≤ j) (j2 : j ≤ 9223372036854775807) (HA : a.at w w.heap.size) (HB : b.at w w.heap.size) (oa : a.ok = true) (ob : b.ok = true) (hb : Hid (b.neg = false)) (h0 : Hid (0 < b.n)) (hl : b.n ≤ 60) (k0 : 0 ≤ i) (k1 : 0 ≤ j) (k2 : i ≤ 5000) (k3 : 5000 < j) :
    Calls Try.prog 12 #[a.v, .int .i64 i, .int .i64 j, b.v] w (fun e w' => e = .returned (.bool true) ∧ Below w.heap.size w w') := by
  replace HA : LRd w w.heap.size a.A a.n a.c a.xs := HA
  replace HB : LRd w w.heap.size b.A b.n b.c b.xs := HB
  have E : Below w.heap.size w w := Below.refl _ _
  have hfd := field_code
  go_enter Try.func12, Try.ntmps12
  go_wp2_with fail
  obtain ⟨V0, hV0⟩ : ∃ V0 : World, V0 = ((w.alloc (.cells #[.bool a.neg, .slice a.A a.n a.c] 24)).alloc (.cells #[.bool b.neg, .slice b.A b.n b.c] 24)) := ⟨_, rfl⟩
  have bV0 : Below w.heap.size w V0 := by rw [hV0]; (repeat (first | with_reducible exact Below.refl _ _ | with_reducible refine Below.drew ?_ | with_reducible refine below_drewN ?_ _ | with_reducible refine Below.setCell ?_ (by first | (simp; done) | (simp; omega) | omega) _ | with_reducible refine Below.alloc ?_ (by first | (simp; done) | (simp; omega) | omega) _))
  have zV0 : w.heap.size + 2 ≤ V0.heap.size := by rw [hV0]; simp
  have PA : Bk2 V0 (w.heap.size) (.bool a.neg) (.slice a.A a.n a.c) := by rw [hV0]; exact ((Bk2.newAt _ _ (by simp) _ _ _).alloc _)
  have PB : Bk2 V0 (w.heap.size + 1) (.bool b.neg) (.slice b.A b.n b.c) := by rw [hV0]; exact (Bk2.newAt _ _ (by simp) _ _ _)
  rw [← hV0]
  clear hV0
  replace E : Below w.heap.size w V0 := E.trans (bV0.mono E.size)
  replace HA : LRd V0 (w.heap.size) a.A a.n a.c a.xs := HA.below bV0 (by omega)
  replace HB : LRd V0 (w.heap.size) b.A b.n b.c b.xs := HB.below bV0 (by omega)
  clear bV0
  (with_reducible refine (counts_any _).mono ?_)
  rintro e w1 ⟨rfl, hb1⟩
  have sw1 := hb1.size
  replace E : Below w.heap.size w w1 := E.trans (hb1.mono E.size)
  replace HA : LRd w1 (w.heap.size) a.A a.n a.c a.xs := HA.below hb1 (by omega)
  replace HB : LRd w1 (w.heap.size) b.A b.n b.c b.xs := HB.below hb1 (by omega)
  replace PA : Bk2 w1 (w.heap.size) (.bool a.neg) (.slice a.A a.n a.c) := PA.below hb1 PA.lt
  replace PB : Bk2 w1 (w.heap.size + 1) (.bool b.neg) (.slice b.A b.n b.c) := PB.below hb1 PB.lt
  clear hb1
  have IR := Lib.hid (irow2 w1 w.heap.size a b HA HB (by omega))
  have p_PA0 : w1.cell? ⟨w.heap.size, 0, none⟩ = some ((.bool a.neg)) := PA.c0
  have p_PA1 : w1.cell? ⟨w.heap.size, 1, none⟩ = some ((.slice a.A a.n a.c)) := PA.c1
  have p_PB0 : w1.cell? ⟨w.heap.size + 1, 0, none⟩ = some ((.bool b.neg)) := PB.c0
  have p_PB1 : w1.cell? ⟨w.heap.size + 1, 1, none⟩ = some ((.slice b.A b.n b.c)) := PB.c1
  go_wp2_with fail
  clear p_PA0 p_PA1 p_PB0 p_PB1
  obtain ⟨V1, hV1⟩ : ∃ V1 : World, V1 = (w1.alloc (.cells #[.bool a.neg, .slice a.A a.n a.c, .bool b.neg, .slice b.A b.n b.c] 24)) := ⟨_, rfl⟩
  have bV1 : Below w1.heap.size w1 V1 := by rw [hV1]; (repeat (first | with_reducible exact Below.refl _ _ | with_reducible refine Below.drew ?_ | with_reducible refine below_drewN ?_ _ | with_reducible refine Below.setCell ?_ (by first | (simp; done) | (simp; omega) | omega) _ | with_reducible refine Below.alloc ?_ (by first | (simp; done) | (simp; omega) | omega) _))
  have zV1 : w1.heap.size + 1 ≤ V1.heap.size := by rw [hV1]; simp
  replace IR : Hid (IRow V1 w.heap.size w1.heap.size [a, b]) := by have h9 := IR.out; rw [hV1]; exact h9
  rw [← hV1]
  clear hV1
  replace E : Below w.heap.size w V1 := E.trans (bV1.mono E.size)
  replace HA : LRd V1 (w.heap.size) a.A a.n a.c a.xs := HA.below bV1 (by omega)
  replace HB : LRd V1 (w.heap.size) b.A b.n b.c b.xs := HB.below bV1 (by omega)
  replace PA : Bk2 V1 (w.heap.size) (.bool a.neg) (.slice a.A a.n a.c) := PA.below bV1 PA.lt
  replace PB : Bk2 V1 (w.heap.size + 1) (.bool b.neg) (.slice b.A b.n b.c) := PB.below bV1 PB.lt
  clear bV1
  (with_reducible refine (faults_any _ w.heap.size w1.heap.size 2 [a, b] IR.out rfl (by omega) (by omega)).mono ?_)
  rintro e w2 ⟨rfl, hb2⟩
  have sw2 := hb2.size
  replace E : Below w.heap.size w w2 := E.trans (hb2.mono E.size)
  replace HA : LRd w2 (w.heap.size) a.A a.n a.c a.xs := HA.below hb2 (by omega)
  replace HB : LRd w2 (w.heap.size) b.A b.n b.c b.xs := HB.below hb2 (by omega)
  replace PA : Bk2 w2 (w.heap.size) (.bool a.neg) (.slice a.A a.n a.c) := PA.below hb2 PA.lt
  replace PB : Bk2 w2 (w.heap.size + 1) (.bool b.neg) (.slice b.A b.n b.c) := PB.below hb2 PB.lt
  clear hb2
  rw [two_ok oa ob]
  unfold flt
  clear IR
  rw [hb.out] at PB
  have t_PB0 : w2.cell? ⟨w.heap.size + 1, 0, none⟩ = some ((.bool false)) := PB.c0
  have t_PB1 : w2.cell? ⟨w.heap.size + 1, 1, none⟩ = some ((.slice b.A b.n b.c)) := PB.c1
  go_wp2_with fail
  clear t_PB0 t_PB1
  (with_reducible refine (noInt_any _ false b.A b.n b.c (by have := HB.len.out; have := (IV.vld ob).2; omega)).mono ?_)
  rintro e w3 ⟨rfl, hb3⟩
  have sw3 := hb3.size
  replace E : Below w.heap.size w w3 := E.trans (hb3.mono E.size)
  replace HA : LRd w3 (w.heap.size) a.A a.n a.c a.xs := HA.below hb3 (by omega)
  replace HB : LRd w3 (w.heap.size) b.A b.n b.c b.xs := HB.below hb3 (by omega)
  replace PA : Bk2 w3 (w.heap.size) (.bool a.neg) (.slice a.A a.n a.c) := PA.below hb3 PA.lt
  replace PB : Bk2 w3 (w.heap.size + 1) (.bool false) (.slice b.A b.n b.c) := PB.below hb3 PB.lt
  clear hb3
  rw [show (!false && decide (b.n = 0)) = false by rw [decide_eq_false (by have := h0.out; omega)]; rfl]
  have t1 := PB.c1
  have hl' : (b.n : Int) ≤ 60 := by omega
  go_wp2_with fail
  all_goals go_ret
  all_goals exact ⟨by first | rfl | (simp; done), E⟩
end Go.Proofs.Ytpidkionieaffaa
