/- IntegerPowersMultiply: the law, where a power is too large (C). -/
import Derived.Test.YtpidkionieaffaaMPwm2
namespace Go.Proofs.Ytpidkionieaffaa
open Go.RowKit
set_option maxHeartbeats 400000
set_option maxRecDepth 100000
set_option linter.unusedSimpArgs false
set_option linter.unusedVariables false

set_option maxHeartbeats 8000000 in
theorem pwm_C (w : World) (a b : IV) (HA : a.at w w.heap.size) (HB : b.at w w.heap.size) (oa : a.ok = true) (ob : b.ok = true) (hb : Hid (b.neg = false)) (h0 : Hid (0 < b.n)) (hl : b.n ≤ 60) (n k : Nat) (hn : n ≤ 5000) (hk : k ≤ 5000) (s9 : Hid (Top128 ≤ (a.val ^ n).natAbs)) (s13 : Hid (Top128 ≤ (a.val ^ (n + k)).natAbs)) :
    Calls Try.prog 12 #[a.v, .int .i64 (n : Int), .int .i64 (k : Int), b.v] w (fun e w' => e = .returned (.bool true) ∧ Below w.heap.size w w') := by
  replace HA : LRd w w.heap.size a.A a.n a.c a.xs := HA
  replace HB : LRd w w.heap.size b.A b.n b.c b.xs := HB
  have E : Below w.heap.size w w := Below.refl _ _
  have hfd := field_code
  go_enter Try.func12, Try.ntmps12
  go_wp2_with fail
  obtain ⟨V0, hV0⟩ : ∃ V0 : World, V0 = ((w.alloc (.cells #[.bool a.neg, .slice a.A a.n a.c] 24)).alloc (.cells #[.bool b.neg, .slice b.A b.n b.c] 24)) := ⟨_, rfl⟩
  have bV0 : Below w.heap.size w V0 := by rw [hV0]; (repeat (first | with_reducible exact Below.refl _ _ | with_reducible refine Below.drew ?_ | with_reducible refine below_drewN ?_ _ | with_reducible refine Below.setCell ?_ (by first | (simp; done) | (simp; omega) | omega) _ | with_reducible refine Below.alloc ?_ (by first | (simp; done) | (simp; omega) | omega) _))
  have zV0 : w.heap.size + 2 ≤ V0.heap.size := by rw [hV0]; simp
  have PA : Bk2 V0 (w.heap.size) (.bool a.neg) (.slice a.A a.n a.c) := by rw [hV0]; exact ((Bk2.newAt _ _ (by simp) _ _ _).alloc _)
  have PB : Bk2 V0 (w.heap.size + 1) (.bool b.neg) (.slice b.A b.n b.c) := by rw [hV0]; exact (Bk2.newAt _ _ (by simp) _ _ _)
  rw [← hV0]
  clear hV0
  replace E : Below w.heap.size w V0 := E.trans (bV0.mono E.size)
  replace HA : LRd V0 (w.heap.size) a.A a.n a.c a.xs := HA.below bV0 (by omega)
  replace HB : LRd V0 (w.heap.size) b.A b.n b.c b.xs := HB.below bV0 (by omega)
  clear bV0
  (with_reducible refine (counts_any _).mono ?_)
  rintro e w1 ⟨rfl, hb1⟩
  have sw1 := hb1.size
  replace E : Below w.heap.size w w1 := E.trans (hb1.mono E.size)
  replace HA : LRd w1 (w.heap.size) a.A a.n a.c a.xs := HA.below hb1 (by omega)
  replace HB : LRd w1 (w.heap.size) b.A b.n b.c b.xs := HB.below hb1 (by omega)
  replace PA : Bk2 w1 (w.heap.size) (.bool a.neg) (.slice a.A a.n a.c) := PA.below hb1 PA.lt
  replace PB : Bk2 w1 (w.heap.size + 1) (.bool b.neg) (.slice b.A b.n b.c) := PB.below hb1 PB.lt
  clear hb1
  have IR := Lib.hid (irow2 w1 w.heap.size a b HA HB (by omega))
  have p_PA0 : w1.cell? ⟨w.heap.size, 0, none⟩ = some ((.bool a.neg)) := PA.c0
  have p_PA1 : w1.cell? ⟨w.heap.size, 1, none⟩ = some ((.slice a.A a.n a.c)) := PA.c1
  have p_PB0 : w1.cell? ⟨w.heap.size + 1, 0, none⟩ = some ((.bool b.neg)) := PB.c0
  have p_PB1 : w1.cell? ⟨w.heap.size + 1, 1, none⟩ = some ((.slice b.A b.n b.c)) := PB.c1
  go_wp2_with fail
  clear p_PA0 p_PA1 p_PB0 p_PB1
  obtain ⟨V1, hV1⟩ : ∃ V1 : World, V1 = (w1.alloc (.cells #[.bool a.neg, .slice a.A a.n a.c, .bool b.neg, .slice b.A b.n b.c] 24)) := ⟨_, rfl⟩
  have bV1 : Below w1.heap.size w1 V1 := by rw [hV1]; (repeat (first | with_reducible exact Below.refl _ _ | with_reducible refine Below.drew ?_ | with_reducible refine below_drewN ?_ _ | with_reducible refine Below.setCell ?_ (by first | (simp; done) | (simp; omega) | omega) _ | with_reducible refine Below.alloc ?_ (by first | (simp; done) | (simp; omega) | omega) _))
  have zV1 : w1.heap.size + 1 ≤ V1.heap.size := by rw [hV1]; simp
  replace IR : Hid (IRow V1 w.heap.size w1.heap.size [a, b]) := by have h9 := IR.out; rw [hV1]; exact h9
  rw [← hV1]
  clear hV1
  replace E : Below w.heap.size w V1 := E.trans (bV1.mono E.size)
  replace HA : LRd V1 (w.heap.size) a.A a.n a.c a.xs := HA.below bV1 (by omega)
  replace HB : LRd V1 (w.heap.size) b.A b.n b.c b.xs := HB.below bV1 (by omega)
  replace PA : Bk2 V1 (w.heap.size) (.bool a.neg) (.slice a.A a.n a.c) := PA.below bV1 PA.lt
  replace PB : Bk2 V1 (w.heap.size + 1) (.bool b.neg) (.slice b.A b.n b.c) := PB.below bV1 PB.lt
  clear bV1
  (with_reducible refine (faults_any _ w.heap.size w1.heap.size 2 [a, b] IR.out rfl (by omega) (by omega)).mono ?_)
  rintro e w2 ⟨rfl, hb2⟩
  have sw2 := hb2.size
  replace E : Below w.heap.size w w2 := E.trans (hb2.mono E.size)
  replace HA : LRd w2 (w.heap.size) a.A a.n a.c a.xs := HA.below hb2 (by omega)
  replace HB : LRd w2 (w.heap.size) b.A b.n b.c b.xs := HB.below hb2 (by omega)
  replace PA : Bk2 w2 (w.heap.size) (.bool a.neg) (.slice a.A a.n a.c) := PA.below hb2 PA.lt
  replace PB : Bk2 w2 (w.heap.size + 1) (.bool b.neg) (.slice b.A b.n b.c) := PB.below hb2 PB.lt
  clear hb2
  rw [two_ok oa ob]
  unfold flt
  clear IR
  rw [hb.out] at PB
  have t_PB0 : w2.cell? ⟨w.heap.size + 1, 0, none⟩ = some ((.bool false)) := PB.c0
  have t_PB1 : w2.cell? ⟨w.heap.size + 1, 1, none⟩ = some ((.slice b.A b.n b.c)) := PB.c1
  go_wp2_with fail
  clear t_PB0 t_PB1
  (with_reducible refine (noInt_any _ false b.A b.n b.c (by have := HB.len.out; have := (IV.vld ob).2; omega)).mono ?_)
  rintro e w3 ⟨rfl, hb3⟩
  have sw3 := hb3.size
  replace E : Below w.heap.size w w3 := E.trans (hb3.mono E.size)
  replace HA : LRd w3 (w.heap.size) a.A a.n a.c a.xs := HA.below hb3 (by omega)
  replace HB : LRd w3 (w.heap.size) b.A b.n b.c b.xs := HB.below hb3 (by omega)
  replace PA : Bk2 w3 (w.heap.size) (.bool a.neg) (.slice a.A a.n a.c) := PA.below hb3 PA.lt
  replace PB : Bk2 w3 (w.heap.size + 1) (.bool false) (.slice b.A b.n b.c) := PB.below hb3 PB.lt
  clear hb3
  rw [show (!false && decide (b.n = 0)) = false by rw [decide_eq_false (by have := h0.out; omega)]; rfl]
  have hl' : (b.n : Int) ≤ 60 := by omega
  have q1 : (0 : Int) ≤ (n : Int) := by omega
  have q2 : (0 : Int) ≤ (k : Int) := by omega
  have q3 : (n : Int) ≤ 5000 := by omega
  have q4 : (k : Int) ≤ 5000 := by omega
  have t_PB0 : w3.cell? ⟨w.heap.size + 1, 0, none⟩ = some ((.bool false)) := PB.c0
  have t_PB1 : w3.cell? ⟨w.heap.size + 1, 1, none⟩ = some ((.slice b.A b.n b.c)) := PB.c1
  have t_PA0 : w3.cell? ⟨w.heap.size, 0, none⟩ = some ((.bool a.neg)) := PA.c0
  have t_PA1 : w3.cell? ⟨w.heap.size, 1, none⟩ = some ((.slice a.A a.n a.c)) := PA.c1
  go_wp2_with fail
  clear t_PB0 t_PB1 t_PA0 t_PA1
  have HT := ipow_ok w3 w.heap.size a (n) HA (by omega) oa (by omega)
  refine HT.mono ?_
  intro e w9 hgv
  clear HT
  obtain ⟨n9, A9, k9, c9, x9, rfl, hl9, hr9, hb9⟩ := hgv.elim (fun h => absurd h.1 (Nat.not_lt_of_le s9.out)) (fun h => h.2)
  clear hgv
  have I9 := Lib.hid hr9
  have sw9 := hb9.size
  clear hr9
  replace E : Below w.heap.size w w9 := E.trans (hb9.mono E.size)
  replace HA : LRd w9 (w.heap.size) a.A a.n a.c a.xs := HA.below hb9 (by omega)
  replace HB : LRd w9 (w.heap.size) b.A b.n b.c b.xs := HB.below hb9 (by omega)
  replace PA : Bk2 w9 (w.heap.size) (.bool a.neg) (.slice a.A a.n a.c) := PA.below hb9 PA.lt
  replace PB : Bk2 w9 (w.heap.size + 1) (.bool false) (.slice b.A b.n b.c) := PB.below hb9 PB.lt
  clear hb9
  have t_PA0 : ((w9.alloc (.cells #[.bool n9, .slice A9 k9 c9] 24)).alloc (.cells #[.int .i64 14, .int .i64 (-1)] 26)).cell? ⟨w.heap.size, 0, none⟩ = some ((.bool a.neg)) := ((PA.alloc _).alloc _).c0
  have t_PA1 : ((w9.alloc (.cells #[.bool n9, .slice A9 k9 c9] 24)).alloc (.cells #[.int .i64 14, .int .i64 (-1)] 26)).cell? ⟨w.heap.size, 1, none⟩ = some ((.slice a.A a.n a.c)) := ((PA.alloc _).alloc _).c1
  go_wp2_with fail
  clear t_PA0 t_PA1
  obtain ⟨V4, hV4⟩ : ∃ V4 : World, V4 = ((w9.alloc (.cells #[.bool n9, .slice A9 k9 c9] 24)).alloc (.cells #[.int .i64 14, .int .i64 (-1)] 26)) := ⟨_, rfl⟩
  have bV4 : Below w9.heap.size w9 V4 := by rw [hV4]; (repeat (first | with_reducible exact Below.refl _ _ | with_reducible refine Below.drew ?_ | with_reducible refine below_drewN ?_ _ | with_reducible refine Below.setCell ?_ (by first | (simp; done) | (simp; omega) | omega) _ | with_reducible refine Below.alloc ?_ (by first | (simp; done) | (simp; omega) | omega) _))
  have zV4 : w9.heap.size + 2 ≤ V4.heap.size := by rw [hV4]; simp
  have P9 : Bk2 V4 (w9.heap.size) (.bool n9) (.slice A9 k9 c9) := by rw [hV4]; exact ((Bk2.newAt _ _ (by simp) _ _ _).alloc _)
  have F10 : Bk2 V4 (w9.heap.size + 1) (.int .i64 14) (.int .i64 (-1)) := by rw [hV4]; exact (Bk2.newAt _ _ (by simp) _ _ _)
  rw [← hV4]
  clear hV4
  replace E : Below w.heap.size w V4 := E.trans (bV4.mono E.size)
  replace HA : LRd V4 (w.heap.size) a.A a.n a.c a.xs := HA.below bV4 (by omega)
  replace HB : LRd V4 (w.heap.size) b.A b.n b.c b.xs := HB.below bV4 (by omega)
  replace PA : Bk2 V4 (w.heap.size) (.bool a.neg) (.slice a.A a.n a.c) := PA.below bV4 PA.lt
  replace PB : Bk2 V4 (w.heap.size + 1) (.bool false) (.slice b.A b.n b.c) := PB.below bV4 PB.lt
  replace hl9 : LRd V4 (w9.heap.size) A9 k9 c9 x9 := hl9.below bV4 (by omega)
  clear bV4
  have HT := ipow_ok V4 w.heap.size a (k) HA (by omega) oa (by omega)
  refine HT.mono ?_
  intro e w11 hgv
  clear HT
  obtain ⟨z11, f11, g11, hy11, n11, A11, k11, c11, x11, rfl, hl11, hr11, hb11⟩ := vl_yr hgv
  clear hy11
  clear hgv
  have I11 := Lib.hid hr11
  have sw11 := hb11.size
  clear hr11
  replace E : Below w.heap.size w w11 := E.trans (hb11.mono E.size)
  replace HA : LRd w11 (w.heap.size) a.A a.n a.c a.xs := HA.below hb11 (by omega)
  replace HB : LRd w11 (w.heap.size) b.A b.n b.c b.xs := HB.below hb11 (by omega)
  replace PA : Bk2 w11 (w.heap.size) (.bool a.neg) (.slice a.A a.n a.c) := PA.below hb11 PA.lt
  replace PB : Bk2 w11 (w.heap.size + 1) (.bool false) (.slice b.A b.n b.c) := PB.below hb11 PB.lt
  replace hl9 : LRd w11 (w9.heap.size) A9 k9 c9 x9 := hl9.below hb11 (by omega)
  replace P9 : Bk2 w11 (w9.heap.size) (.bool n9) (.slice A9 k9 c9) := P9.below hb11 P9.lt
  replace F10 : Bk2 w11 (w9.heap.size + 1) (.int .i64 14) (.int .i64 (-1)) := F10.below hb11 F10.lt
  clear hb11
  have t_PA0 : ((w11.alloc (.cells #[.bool n11, .slice A11 k11 c11] 24)).alloc (.cells #[.int .i64 f11, .int .i64 g11] 26)).cell? ⟨w.heap.size, 0, none⟩ = some ((.bool a.neg)) := ((PA.alloc _).alloc _).c0
  have t_PA1 : ((w11.alloc (.cells #[.bool n11, .slice A11 k11 c11] 24)).alloc (.cells #[.int .i64 f11, .int .i64 g11] 26)).cell? ⟨w.heap.size, 1, none⟩ = some ((.slice a.A a.n a.c)) := ((PA.alloc _).alloc _).c1
  go_wp2_with fail
  clear t_PA0 t_PA1
  obtain ⟨V5, hV5⟩ : ∃ V5 : World, V5 = ((w11.alloc (.cells #[.bool n11, .slice A11 k11 c11] 24)).alloc (.cells #[.int .i64 f11, .int .i64 g11] 26)) := ⟨_, rfl⟩
  have bV5 : Below w11.heap.size w11 V5 := by rw [hV5]; (repeat (first | with_reducible exact Below.refl _ _ | with_reducible refine Below.drew ?_ | with_reducible refine below_drewN ?_ _ | with_reducible refine Below.setCell ?_ (by first | (simp; done) | (simp; omega) | omega) _ | with_reducible refine Below.alloc ?_ (by first | (simp; done) | (simp; omega) | omega) _))
  have zV5 : w11.heap.size + 2 ≤ V5.heap.size := by rw [hV5]; simp
  have P11 : Bk2 V5 (w11.heap.size) (.bool n11) (.slice A11 k11 c11) := by rw [hV5]; exact ((Bk2.newAt _ _ (by simp) _ _ _).alloc _)
  have F12 : Bk2 V5 (w11.heap.size + 1) (.int .i64 f11) (.int .i64 g11) := by rw [hV5]; exact (Bk2.newAt _ _ (by simp) _ _ _)
  rw [← hV5]
  clear hV5
  replace E : Below w.heap.size w V5 := E.trans (bV5.mono E.size)
  replace HA : LRd V5 (w.heap.size) a.A a.n a.c a.xs := HA.below bV5 (by omega)
  replace HB : LRd V5 (w.heap.size) b.A b.n b.c b.xs := HB.below bV5 (by omega)
  replace PA : Bk2 V5 (w.heap.size) (.bool a.neg) (.slice a.A a.n a.c) := PA.below bV5 PA.lt
  replace PB : Bk2 V5 (w.heap.size + 1) (.bool false) (.slice b.A b.n b.c) := PB.below bV5 PB.lt
  replace hl9 : LRd V5 (w9.heap.size) A9 k9 c9 x9 := hl9.below bV5 (by omega)
  replace P9 : Bk2 V5 (w9.heap.size) (.bool n9) (.slice A9 k9 c9) := P9.below bV5 P9.lt
  replace F10 : Bk2 V5 (w9.heap.size + 1) (.int .i64 14) (.int .i64 (-1)) := F10.below bV5 F10.lt
  replace hl11 : LRd V5 (w11.heap.size) A11 k11 c11 x11 := hl11.below bV5 (by omega)
  clear bV5
  have HT := ipow_ok V5 w.heap.size a (n + k) HA (by omega) oa (by omega)
  rw [Int.natCast_add] at HT
  refine HT.mono ?_
  intro e w13 hgv
  clear HT
  obtain ⟨n13, A13, k13, c13, x13, rfl, hl13, hr13, hb13⟩ := hgv.elim (fun h => absurd h.1 (Nat.not_lt_of_le s13.out)) (fun h => h.2)
  clear hgv
  have I13 := Lib.hid hr13
  have sw13 := hb13.size
  clear hr13
  replace E : Below w.heap.size w w13 := E.trans (hb13.mono E.size)
  replace HA : LRd w13 (w.heap.size) a.A a.n a.c a.xs := HA.below hb13 (by omega)
  replace HB : LRd w13 (w.heap.size) b.A b.n b.c b.xs := HB.below hb13 (by omega)
  replace PA : Bk2 w13 (w.heap.size) (.bool a.neg) (.slice a.A a.n a.c) := PA.below hb13 PA.lt
  replace PB : Bk2 w13 (w.heap.size + 1) (.bool false) (.slice b.A b.n b.c) := PB.below hb13 PB.lt
  replace hl9 : LRd w13 (w9.heap.size) A9 k9 c9 x9 := hl9.below hb13 (by omega)
  replace P9 : Bk2 w13 (w9.heap.size) (.bool n9) (.slice A9 k9 c9) := P9.below hb13 P9.lt
  replace F10 : Bk2 w13 (w9.heap.size + 1) (.int .i64 14) (.int .i64 (-1)) := F10.below hb13 F10.lt
  replace hl11 : LRd w13 (w11.heap.size) A11 k11 c11 x11 := hl11.below hb13 (by omega)
  replace P11 : Bk2 w13 (w11.heap.size) (.bool n11) (.slice A11 k11 c11) := P11.below hb13 P11.lt
  replace F12 : Bk2 w13 (w11.heap.size + 1) (.int .i64 f11) (.int .i64 g11) := F12.below hb13 F12.lt
  clear hb13
  go_upto_region 8 with fail
  obtain ⟨V6, hV6⟩ : ∃ V6 : World, V6 = ((w13.alloc (.cells #[.bool n13, .slice A13 k13 c13] 24)).alloc (.cells #[.int .i64 14, .int .i64 (-1)] 26)) := ⟨_, rfl⟩
  have bV6 : Below w13.heap.size w13 V6 := by rw [hV6]; (repeat (first | with_reducible exact Below.refl _ _ | with_reducible refine Below.drew ?_ | with_reducible refine below_drewN ?_ _ | with_reducible refine Below.setCell ?_ (by first | (simp; done) | (simp; omega) | omega) _ | with_reducible refine Below.alloc ?_ (by first | (simp; done) | (simp; omega) | omega) _))
  have zV6 : w13.heap.size + 2 ≤ V6.heap.size := by rw [hV6]; simp
  have P13 : Bk2 V6 (w13.heap.size) (.bool n13) (.slice A13 k13 c13) := by rw [hV6]; exact ((Bk2.newAt _ _ (by simp) _ _ _).alloc _)
  have F14 : Bk2 V6 (w13.heap.size + 1) (.int .i64 14) (.int .i64 (-1)) := by rw [hV6]; exact (Bk2.newAt _ _ (by simp) _ _ _)
  rw [← hV6]
  clear hV6
  replace E : Below w.heap.size w V6 := E.trans (bV6.mono E.size)
  replace HA : LRd V6 (w.heap.size) a.A a.n a.c a.xs := HA.below bV6 (by omega)
  replace HB : LRd V6 (w.heap.size) b.A b.n b.c b.xs := HB.below bV6 (by omega)
  replace PA : Bk2 V6 (w.heap.size) (.bool a.neg) (.slice a.A a.n a.c) := PA.below bV6 PA.lt
  replace PB : Bk2 V6 (w.heap.size + 1) (.bool false) (.slice b.A b.n b.c) := PB.below bV6 PB.lt
  replace hl9 : LRd V6 (w9.heap.size) A9 k9 c9 x9 := hl9.below bV6 (by omega)
  replace P9 : Bk2 V6 (w9.heap.size) (.bool n9) (.slice A9 k9 c9) := P9.below bV6 P9.lt
  replace F10 : Bk2 V6 (w9.heap.size + 1) (.int .i64 14) (.int .i64 (-1)) := F10.below bV6 F10.lt
  replace hl11 : LRd V6 (w11.heap.size) A11 k11 c11 x11 := hl11.below bV6 (by omega)
  replace P11 : Bk2 V6 (w11.heap.size) (.bool n11) (.slice A11 k11 c11) := P11.below bV6 P11.lt
  replace F12 : Bk2 V6 (w11.heap.size + 1) (.int .i64 f11) (.int .i64 g11) := F12.below bV6 F12.lt
  replace hl13 : LRd V6 (w13.heap.size) A13 k13 c13 x13 := hl13.below bV6 (by omega)
  clear bV6
  have t_F100 : V6.cell? ⟨w9.heap.size + 1, 0, none⟩ = some ((.int .i64 14)) := F10.c0
  have t_F101 : V6.cell? ⟨w9.heap.size + 1, 1, none⟩ = some ((.int .i64 (-1))) := F10.c1
  have t_F140 : V6.cell? ⟨w13.heap.size + 1, 0, none⟩ = some ((.int .i64 14)) := F14.c0
  have t_F141 : V6.cell? ⟨w13.heap.size + 1, 1, none⟩ = some ((.int .i64 (-1))) := F14.c1
  go_upto_region 14 with fail
  clear t_F100 t_F101 t_F140 t_F141
  clear P9 P11 P13 hl9 hl11 hl13
  have ob1 := Lib.hid (show (IV.mk false b.A b.n b.c b.xs).ok = true by have h9 := ob; rw [show b.ok = ivld b.neg b.xs from rfl, hb.out] at h9; exact h9)
  have VBL := Lib.hid (show (IV.mk false b.A b.n b.c b.xs).val = b.val by rw [val_mk, ← hb.out]; rfl)
  go_cut [17] (fun s wx => RP V6 ((V6.setCell ⟨w9.heap.size + 1, 0, none⟩ (.int .i64 0)).setCell ⟨w9.heap.size + 1, 1, none⟩ (.int .i64 0)) (a.val ^ (n) % b.val) s wx)
  case first =>
    as_aux_lemma =>
      have G0 : Below V6.heap.size V6 V6.drew := Below.drew (Below.refl _ _)
      have HS := Lib.hid (fun (u : World) (hu : Below V6.heap.size V6 u) => (s2of (PA.below hu PA.lt) (PB.below hu PB.lt) : u.cell? ⟨w.heap.size, 0, none⟩ = some (.bool a.neg) ∧ u.cell? ⟨w.heap.size, 1, none⟩ = some (.slice a.A a.n a.c) ∧ u.cell? ⟨w.heap.size + 1, 0, none⟩ = some (.bool false) ∧ u.cell? ⟨w.heap.size + 1, 1, none⟩ = some (.slice b.A b.n b.c)))
      obtain ⟨_, _, _, _, _⟩ := id F10
      have hwr : IntKind.i64.wrap ((n : Int) + (k : Int)) = (n : Int) + (k : Int) := IntWalk.i64_in _ (by omega)
      have ltA := PA.lt
      have ltB := PB.lt
      have ltF := F10.lt
      go_region_held3 (fun u => u.cell? ⟨w.heap.size, 0, none⟩ = some (.bool a.neg) ∧ u.cell? ⟨w.heap.size, 1, none⟩ = some (.slice a.A a.n a.c) ∧ u.cell? ⟨w.heap.size + 1, 0, none⟩ = some (.bool false) ∧ u.cell? ⟨w.heap.size + 1, 1, none⟩ = some (.slice b.A b.n b.c))
        (first | with_reducible exact HS.out _ G0 | with_reducible exact HS.out _ HBQ | with_reducible exact HS.out _ HBP | (refine HS.out _ ?_; (repeat (first | with_reducible exact G0 | with_reducible exact HBQ | with_reducible exact HBP | with_reducible exact Below.refl _ _ | with_reducible refine Below.drew ?_ | with_reducible refine Below.alloc ?_ (by first | (simp; done) | (have := HBQ.size; simp; omega) | (have := HBP.size; simp; omega)) _ | with_reducible refine Below.setCell ?_ (by first | (simp; done) | (have := HBQ.size; simp; omega) | (have := HBP.size; simp; omega)) _)); done) | (refine s2of ?_ ?_; (repeat (first | with_reducible exact PA | with_reducible exact PAq | with_reducible exact PAp | with_reducible refine Bk2.drew ?_ | with_reducible refine Bk2.alloc ?_ _ | with_reducible refine Bk2.far2 ?_ (by omega) _ _)); (repeat (first | with_reducible exact PB | with_reducible exact PBq | with_reducible exact PBp | with_reducible refine Bk2.drew ?_ | with_reducible refine Bk2.alloc ?_ _ | with_reducible refine Bk2.far2 ?_ (by omega) _ _)); done) | fail)
        (first
          | (go_at_call 19; (try rw [hwr]); (with_reducible refine (iof_any _ ((n : Int)) (by omega) (by omega)).mono ?_); rintro e wp ⟨m4, A4, k4, c4, x4, rfl, hl4, hr4, hbp⟩; have HBP : Below V6.heap.size V6 wp := (by refine bnext ?_ hbp; (repeat (first | with_reducible exact G0 | with_reducible exact HBQ | with_reducible exact HBP | with_reducible exact Below.refl _ _ | with_reducible refine Below.drew ?_ | with_reducible refine Below.alloc ?_ (by first | (simp; done) | (have := HBQ.size; simp; omega) | (have := HBP.size; simp; omega)) _ | with_reducible refine Below.setCell ?_ (by first | (simp; done) | (have := HBQ.size; simp; omega) | (have := HBP.size; simp; omega)) _))); obtain rfl : m4 = false := (by rw [hr4.sgn]; exact decide_eq_false (by omega)); have o4 := Lib.hid (show (IV.mk false A4 k4 c4 x4).ok = true from IRep.iok hr4 (lt_top (by omega))); have v4 := Lib.hid (show vb 4294967296 x4 = n by rw [hr4.rep.val]; omega); clear hr4; have PAp := PA.below HBP PA.lt; have PBp := PB.below HBP PB.lt; have szp := HBP.size; (first | (have p1 := mxd hbp; obtain ⟨_, _, _, _, _⟩ := id p1) | skip); obtain ⟨_, _, _, _, _⟩ := F10.below HBP F10.lt)
          | (go_at_call 45; (with_reducible refine (ipm_ok _ wp.heap.size a (IV.mk false A4 k4 c4 x4) (IV.mk false b.A b.n b.c b.xs) ?_ ?_ ?_ ?_ oa o4.out ob1.out (Lib.hid rfl) (Lib.hid rfl) h0.out).mono ?_); (show LRd _ wp.heap.size a.A a.n a.c a.xs); (first | with_reducible exact ((HA.below HBP (by omega)).more (by omega)) | with_reducible exact LRd.alloc ((HA.below HBP (by omega)).more (by omega)) (Nat.le_refl _) _); (show LRd _ wp.heap.size A4 k4 c4 x4); (first | with_reducible exact hl4 | with_reducible exact LRd.alloc hl4 (Nat.le_refl _) _); (show LRd _ wp.heap.size b.A b.n b.c b.xs); (first | with_reducible exact ((HB.below HBP (by omega)).more (by omega)) | with_reducible exact LRd.alloc ((HB.below HBP (by omega)).more (by omega)) (Nat.le_refl _) _); (first | with_reducible exact Nat.le_refl _ | with_reducible exact ms_w1 _ _); rintro e wq ⟨nq, Aq, kq, cq, xq, rfl, hlq, hrq, hbq⟩; have HBQ : Below V6.heap.size V6 wq := (by first | exact bnext HBP hbq | exact bnext (Below.alloc HBP HBP.size _) hbq); have IQ := Lib.hid (show IRep nq xq (a.val ^ (n) % b.val) by have h9 := hrq; rw [VBL.out] at h9; rw [← v4.out]; exact h9); clear hrq; have szq : wp.heap.size ≤ wq.heap.size := (by first | with_reducible exact hbq.size | with_reducible exact Nat.le_trans (ms_w1 _ _) hbq.size); have PAq := PA.below HBQ PA.lt; have PBq := PB.below HBQ PB.lt; have FQ := F10.below HBQ F10.lt; obtain ⟨_, _, _, _, _⟩ := id FQ; (first | (have s1 := mx1 hbq; obtain ⟨_, _, _, _, _⟩ := id s1) | skip); (first | (have s3 := Bk2.next p1 hbq; obtain ⟨_, _, _, _, _⟩ := id s3) | skip))
          | fail)
      all_goals (go_wp2_with fail)
      all_goals
        go_meet
        refine ⟨_, nq, Aq, kq, cq, xq, rfl, ?_, ?_, IQ, ?_, ?_⟩
        · (repeat (first | with_reducible exact Bk2.newAt _ _ (by first | rfl | (simp; done)) _ _ _ | with_reducible exact s1 | with_reducible exact s3 | with_reducible refine Bk2.alloc ?_ _ | with_reducible refine Bk2.set (u := .bool false) (v := .slice none 0 0) ?_ _ _ | with_reducible refine Bk2.far2 ?_ (by omega) _ _))
        · (with_reducible refine LRd.more (B := wq.heap.size) ?_ (by first | (simp [World.setCell]; done) | (simp [World.setCell]; omega))); (repeat (first | with_reducible exact hlq | with_reducible refine LRd.alloc ?_ (by first | (simp; done) | (have := HBQ.size; simp; omega) | omega) _ | with_reducible refine LRd.setFar2 ?_ (by first | (simp; done) | (have := HBQ.size; simp; omega) | omega) _ _ | with_reducible refine LRd.setB ?_ s1 (by simp) (by simp) _ _ | with_reducible refine LRd.setB ?_ (s1.far2 (by omega) _ _) (by simp) (by simp) _ _ | with_reducible refine LRd.setB ?_ ((s1.alloc _).far2 (by omega) _ _) (by simp) (by simp) _ _ | with_reducible refine LRd.setB ?_ (s1.alloc _) (by simp) (by simp) _ _ | with_reducible refine LRd.setB ?_ s3 (by simp) (by simp) _ _ | with_reducible refine LRd.setB ?_ (s3.far2 (by omega) _ _) (by simp) (by simp) _ _ | with_reducible refine LRd.setB ?_ ((s3.alloc _).far2 (by omega) _ _) (by simp) (by simp) _ _ | with_reducible refine LRd.setB ?_ (s3.alloc _) (by simp) (by simp) _ _ | with_reducible refine LRd.setB ?_ FQ (by simp) (by simp) _ _ | with_reducible refine LRd.setB ?_ (FQ.far2 (by omega) _ _) (by simp) (by simp) _ _ | with_reducible refine LRd.setB ?_ ((FQ.alloc _).far2 (by omega) _ _) (by simp) (by simp) _ _ | with_reducible refine LRd.setB ?_ (FQ.alloc _) (by simp) (by simp) _ _))
        · (first | omega | (simp; done) | (simp; omega))
        · (first | (refine (Below.both (Below.both ?_ _ _) _ _); (repeat (first | with_reducible exact G0 | with_reducible exact HBQ | with_reducible exact HBP | with_reducible exact Below.refl _ _ | with_reducible refine Below.drew ?_ | with_reducible refine Below.alloc ?_ (by first | (simp; done) | (have := HBQ.size; simp; omega) | (have := HBP.size; simp; omega)) _ | with_reducible refine Below.setCell ?_ (by first | (simp; done) | (have := HBQ.size; simp; omega) | (have := HBP.size; simp; omega)) _)); done) | (refine Below.alloc (Below.both (Below.both ?_ _ _) _ _) (by simp [World.setCell]; exact HBQ.size) _; (repeat (first | with_reducible exact G0 | with_reducible exact HBQ | with_reducible exact HBP | with_reducible exact Below.refl _ _ | with_reducible refine Below.drew ?_ | with_reducible refine Below.alloc ?_ (by first | (simp; done) | (have := HBQ.size; simp; omega) | (have := HBP.size; simp; omega)) _ | with_reducible refine Below.setCell ?_ (by first | (simp; done) | (have := HBQ.size; simp; omega) | (have := HBP.size; simp; omega)) _)); done))
  case rest =>
  obtain ⟨g17, n17, A17, k17, c17, x17, rfl, P17, hl17, I17, hg17, hbX⟩ := hcut
  obtain ⟨U17F10, hU17F10⟩ : ∃ U17F10 : World, U17F10 = ((V6.setCell ⟨w9.heap.size + 1, 0, none⟩ (.int .i64 0)).setCell ⟨w9.heap.size + 1, 1, none⟩ (.int .i64 0)) := ⟨_, rfl⟩
  have zU17F10 : U17F10.heap.size = V6.heap.size := by rw [hU17F10]; simp [World.setCell]
  replace E : Below w.heap.size w U17F10 := by rw [hU17F10]; exact (E.setCell (by first | (simp; done) | (simp; omega)) _).setCell (by first | (simp; done) | (simp; omega)) _
  replace HA : LRd U17F10 (w.heap.size) a.A a.n a.c a.xs := by rw [hU17F10]; first | exact HA.setB F10 (by simp) (by simp) _ _ | exact HA.setFar2 (by omega) _ _
  replace HB : LRd U17F10 (w.heap.size) b.A b.n b.c b.xs := by rw [hU17F10]; first | exact HB.setB F10 (by simp) (by simp) _ _ | exact HB.setFar2 (by omega) _ _
  replace PA : Bk2 U17F10 (w.heap.size) (.bool a.neg) (.slice a.A a.n a.c) := by rw [hU17F10]; exact PA.far2 (by omega) _ _
  replace PB : Bk2 U17F10 (w.heap.size + 1) (.bool false) (.slice b.A b.n b.c) := by rw [hU17F10]; exact PB.far2 (by omega) _ _
  replace F12 : Bk2 U17F10 (w11.heap.size + 1) (.int .i64 f11) (.int .i64 g11) := by rw [hU17F10]; exact F12.far2 (by omega) _ _
  replace F14 : Bk2 U17F10 (w13.heap.size + 1) (.int .i64 14) (.int .i64 (-1)) := by rw [hU17F10]; exact F14.far2 (by omega) _ _
  replace F10 : Bk2 U17F10 (w9.heap.size + 1) (.int .i64 0) (.int .i64 0) := by rw [hU17F10]; exact F10.set _ _
  rw [← hU17F10] at hbX
  have hzU17F10 : U17F10.heap.size = V6.heap.size := by rw [hU17F10]; simp [World.setCell]
  clear hU17F10
  rw [← hzU17F10] at hbX hg17
  have zU17F10' := Nat.le_of_eq zU17F10
  replace zU17F10 := Nat.le_of_eq zU17F10.symm
  replace E : Below w.heap.size w wc := E.trans (hbX.mono E.size)
  replace HA : LRd wc (w.heap.size) a.A a.n a.c a.xs := HA.below hbX (by omega)
  replace HB : LRd wc (w.heap.size) b.A b.n b.c b.xs := HB.below hbX (by omega)
  replace PA : Bk2 wc (w.heap.size) (.bool a.neg) (.slice a.A a.n a.c) := PA.below hbX PA.lt
  replace PB : Bk2 wc (w.heap.size + 1) (.bool false) (.slice b.A b.n b.c) := PB.below hbX PB.lt
  replace F10 : Bk2 wc (w9.heap.size + 1) (.int .i64 0) (.int .i64 0) := F10.below hbX F10.lt
  replace F12 : Bk2 wc (w11.heap.size + 1) (.int .i64 f11) (.int .i64 g11) := F12.below hbX F12.lt
  replace F14 : Bk2 wc (w13.heap.size + 1) (.int .i64 14) (.int .i64 (-1)) := F14.below hbX F14.lt
  have sX17 := hbX.size
  clear hbX
  obtain ⟨y17, hy17⟩ : ∃ y : World, y = wc := ⟨_, rfl⟩
  subst hy17
  clear VBL
  have lg17 := P17.lt
  go_upto_region 15 with fail
  have VBL := Lib.hid (show (IV.mk false b.A b.n b.c b.xs).val = b.val by rw [val_mk, ← hb.out]; rfl)
  go_cut [18] (fun s wx => RP y17 ((y17.setCell ⟨w11.heap.size + 1, 0, none⟩ (.int .i64 0)).setCell ⟨w11.heap.size + 1, 1, none⟩ (.int .i64 0)) (a.val ^ (k) % b.val) s wx)
  case first =>
    as_aux_lemma =>
      have G0 : Below y17.heap.size y17 y17.drew := Below.drew (Below.refl _ _)
      have HS := Lib.hid (fun (u : World) (hu : Below y17.heap.size y17 u) => (s2of (PA.below hu PA.lt) (PB.below hu PB.lt) : u.cell? ⟨w.heap.size, 0, none⟩ = some (.bool a.neg) ∧ u.cell? ⟨w.heap.size, 1, none⟩ = some (.slice a.A a.n a.c) ∧ u.cell? ⟨w.heap.size + 1, 0, none⟩ = some (.bool false) ∧ u.cell? ⟨w.heap.size + 1, 1, none⟩ = some (.slice b.A b.n b.c)))
      obtain ⟨_, _, _, _, _⟩ := id F12
      have hwr : IntKind.i64.wrap ((n : Int) + (k : Int)) = (n : Int) + (k : Int) := IntWalk.i64_in _ (by omega)
      have ltA := PA.lt
      have ltB := PB.lt
      have ltF := F12.lt
      go_region_held3 (fun u => u.cell? ⟨w.heap.size, 0, none⟩ = some (.bool a.neg) ∧ u.cell? ⟨w.heap.size, 1, none⟩ = some (.slice a.A a.n a.c) ∧ u.cell? ⟨w.heap.size + 1, 0, none⟩ = some (.bool false) ∧ u.cell? ⟨w.heap.size + 1, 1, none⟩ = some (.slice b.A b.n b.c))
        (first | with_reducible exact HS.out _ G0 | with_reducible exact HS.out _ HBQ | with_reducible exact HS.out _ HBP | (refine HS.out _ ?_; (repeat (first | with_reducible exact G0 | with_reducible exact HBQ | with_reducible exact HBP | with_reducible exact Below.refl _ _ | with_reducible refine Below.drew ?_ | with_reducible refine Below.alloc ?_ (by first | (simp; done) | (have := HBQ.size; simp; omega) | (have := HBP.size; simp; omega)) _ | with_reducible refine Below.setCell ?_ (by first | (simp; done) | (have := HBQ.size; simp; omega) | (have := HBP.size; simp; omega)) _)); done) | (refine s2of ?_ ?_; (repeat (first | with_reducible exact PA | with_reducible exact PAq | with_reducible exact PAp | with_reducible refine Bk2.drew ?_ | with_reducible refine Bk2.alloc ?_ _ | with_reducible refine Bk2.far2 ?_ (by omega) _ _)); (repeat (first | with_reducible exact PB | with_reducible exact PBq | with_reducible exact PBp | with_reducible refine Bk2.drew ?_ | with_reducible refine Bk2.alloc ?_ _ | with_reducible refine Bk2.far2 ?_ (by omega) _ _)); done) | fail)
        (first
          | (go_at_call 19; (try rw [hwr]); (with_reducible refine (iof_any _ ((k : Int)) (by omega) (by omega)).mono ?_); rintro e wp ⟨m4, A4, k4, c4, x4, rfl, hl4, hr4, hbp⟩; have HBP : Below y17.heap.size y17 wp := (by refine bnext ?_ hbp; (repeat (first | with_reducible exact G0 | with_reducible exact HBQ | with_reducible exact HBP | with_reducible exact Below.refl _ _ | with_reducible refine Below.drew ?_ | with_reducible refine Below.alloc ?_ (by first | (simp; done) | (have := HBQ.size; simp; omega) | (have := HBP.size; simp; omega)) _ | with_reducible refine Below.setCell ?_ (by first | (simp; done) | (have := HBQ.size; simp; omega) | (have := HBP.size; simp; omega)) _))); obtain rfl : m4 = false := (by rw [hr4.sgn]; exact decide_eq_false (by omega)); have o4 := Lib.hid (show (IV.mk false A4 k4 c4 x4).ok = true from IRep.iok hr4 (lt_top (by omega))); have v4 := Lib.hid (show vb 4294967296 x4 = k by rw [hr4.rep.val]; omega); clear hr4; have PAp := PA.below HBP PA.lt; have PBp := PB.below HBP PB.lt; have szp := HBP.size; (first | (have p1 := mxd hbp; obtain ⟨_, _, _, _, _⟩ := id p1) | skip); obtain ⟨_, _, _, _, _⟩ := F12.below HBP F12.lt)
          | (go_at_call 45; (with_reducible refine (ipm_ok _ wp.heap.size a (IV.mk false A4 k4 c4 x4) (IV.mk false b.A b.n b.c b.xs) ?_ ?_ ?_ ?_ oa o4.out ob1.out (Lib.hid rfl) (Lib.hid rfl) h0.out).mono ?_); (show LRd _ wp.heap.size a.A a.n a.c a.xs); (first | with_reducible exact ((HA.below HBP (by omega)).more (by omega)) | with_reducible exact LRd.alloc ((HA.below HBP (by omega)).more (by omega)) (Nat.le_refl _) _); (show LRd _ wp.heap.size A4 k4 c4 x4); (first | with_reducible exact hl4 | with_reducible exact LRd.alloc hl4 (Nat.le_refl _) _); (show LRd _ wp.heap.size b.A b.n b.c b.xs); (first | with_reducible exact ((HB.below HBP (by omega)).more (by omega)) | with_reducible exact LRd.alloc ((HB.below HBP (by omega)).more (by omega)) (Nat.le_refl _) _); (first | with_reducible exact Nat.le_refl _ | with_reducible exact ms_w1 _ _); rintro e wq ⟨nq, Aq, kq, cq, xq, rfl, hlq, hrq, hbq⟩; have HBQ : Below y17.heap.size y17 wq := (by first | exact bnext HBP hbq | exact bnext (Below.alloc HBP HBP.size _) hbq); have IQ := Lib.hid (show IRep nq xq (a.val ^ (k) % b.val) by have h9 := hrq; rw [VBL.out] at h9; rw [← v4.out]; exact h9); clear hrq; have szq : wp.heap.size ≤ wq.heap.size := (by first | with_reducible exact hbq.size | with_reducible exact Nat.le_trans (ms_w1 _ _) hbq.size); have PAq := PA.below HBQ PA.lt; have PBq := PB.below HBQ PB.lt; have FQ := F12.below HBQ F12.lt; obtain ⟨_, _, _, _, _⟩ := id FQ; (first | (have s1 := mx1 hbq; obtain ⟨_, _, _, _, _⟩ := id s1) | skip); (first | (have s3 := Bk2.next p1 hbq; obtain ⟨_, _, _, _, _⟩ := id s3) | skip))
          | fail)
      all_goals (go_wp2_with fail)
      all_goals
        go_meet
        refine ⟨_, nq, Aq, kq, cq, xq, rfl, ?_, ?_, IQ, ?_, ?_⟩
        · (repeat (first | with_reducible exact Bk2.newAt _ _ (by first | rfl | (simp; done)) _ _ _ | with_reducible exact s1 | with_reducible exact s3 | with_reducible refine Bk2.alloc ?_ _ | with_reducible refine Bk2.set (u := .bool false) (v := .slice none 0 0) ?_ _ _ | with_reducible refine Bk2.far2 ?_ (by omega) _ _))
        · (with_reducible refine LRd.more (B := wq.heap.size) ?_ (by first | (simp [World.setCell]; done) | (simp [World.setCell]; omega))); (repeat (first | with_reducible exact hlq | with_reducible refine LRd.alloc ?_ (by first | (simp; done) | (have := HBQ.size; simp; omega) | omega) _ | with_reducible refine LRd.setFar2 ?_ (by first | (simp; done) | (have := HBQ.size; simp; omega) | omega) _ _ | with_reducible refine LRd.setB ?_ s1 (by simp) (by simp) _ _ | with_reducible refine LRd.setB ?_ (s1.far2 (by omega) _ _) (by simp) (by simp) _ _ | with_reducible refine LRd.setB ?_ ((s1.alloc _).far2 (by omega) _ _) (by simp) (by simp) _ _ | with_reducible refine LRd.setB ?_ (s1.alloc _) (by simp) (by simp) _ _ | with_reducible refine LRd.setB ?_ s3 (by simp) (by simp) _ _ | with_reducible refine LRd.setB ?_ (s3.far2 (by omega) _ _) (by simp) (by simp) _ _ | with_reducible refine LRd.setB ?_ ((s3.alloc _).far2 (by omega) _ _) (by simp) (by simp) _ _ | with_reducible refine LRd.setB ?_ (s3.alloc _) (by simp) (by simp) _ _ | with_reducible refine LRd.setB ?_ FQ (by simp) (by simp) _ _ | with_reducible refine LRd.setB ?_ (FQ.far2 (by omega) _ _) (by simp) (by simp) _ _ | with_reducible refine LRd.setB ?_ ((FQ.alloc _).far2 (by omega) _ _) (by simp) (by simp) _ _ | with_reducible refine LRd.setB ?_ (FQ.alloc _) (by simp) (by simp) _ _))
        · (first | omega | (simp; done) | (simp; omega))
        · (first | (refine (Below.both (Below.both ?_ _ _) _ _); (repeat (first | with_reducible exact G0 | with_reducible exact HBQ | with_reducible exact HBP | with_reducible exact Below.refl _ _ | with_reducible refine Below.drew ?_ | with_reducible refine Below.alloc ?_ (by first | (simp; done) | (have := HBQ.size; simp; omega) | (have := HBP.size; simp; omega)) _ | with_reducible refine Below.setCell ?_ (by first | (simp; done) | (have := HBQ.size; simp; omega) | (have := HBP.size; simp; omega)) _)); done) | (refine Below.alloc (Below.both (Below.both ?_ _ _) _ _) (by simp [World.setCell]; exact HBQ.size) _; (repeat (first | with_reducible exact G0 | with_reducible exact HBQ | with_reducible exact HBP | with_reducible exact Below.refl _ _ | with_reducible refine Below.drew ?_ | with_reducible refine Below.alloc ?_ (by first | (simp; done) | (have := HBQ.size; simp; omega) | (have := HBP.size; simp; omega)) _ | with_reducible refine Below.setCell ?_ (by first | (simp; done) | (have := HBQ.size; simp; omega) | (have := HBP.size; simp; omega)) _)); done))
  case rest =>
  obtain ⟨g18, n18, A18, k18, c18, x18, rfl, P18, hl18, I18, hg18, hbX⟩ := hcut
  obtain ⟨U18F12, hU18F12⟩ : ∃ U18F12 : World, U18F12 = ((y17.setCell ⟨w11.heap.size + 1, 0, none⟩ (.int .i64 0)).setCell ⟨w11.heap.size + 1, 1, none⟩ (.int .i64 0)) := ⟨_, rfl⟩
  have zU18F12 : U18F12.heap.size = y17.heap.size := by rw [hU18F12]; simp [World.setCell]
  replace E : Below w.heap.size w U18F12 := by rw [hU18F12]; exact (E.setCell (by first | (simp; done) | (simp; omega)) _).setCell (by first | (simp; done) | (simp; omega)) _
  replace HA : LRd U18F12 (w.heap.size) a.A a.n a.c a.xs := by rw [hU18F12]; first | exact HA.setB F12 (by simp) (by simp) _ _ | exact HA.setFar2 (by omega) _ _
  replace HB : LRd U18F12 (w.heap.size) b.A b.n b.c b.xs := by rw [hU18F12]; first | exact HB.setB F12 (by simp) (by simp) _ _ | exact HB.setFar2 (by omega) _ _
  replace PA : Bk2 U18F12 (w.heap.size) (.bool a.neg) (.slice a.A a.n a.c) := by rw [hU18F12]; exact PA.far2 (by omega) _ _
  replace PB : Bk2 U18F12 (w.heap.size + 1) (.bool false) (.slice b.A b.n b.c) := by rw [hU18F12]; exact PB.far2 (by omega) _ _
  replace F10 : Bk2 U18F12 (w9.heap.size + 1) (.int .i64 0) (.int .i64 0) := by rw [hU18F12]; exact F10.far2 (by omega) _ _
  replace F14 : Bk2 U18F12 (w13.heap.size + 1) (.int .i64 14) (.int .i64 (-1)) := by rw [hU18F12]; exact F14.far2 (by omega) _ _
  replace P17 : Bk2 U18F12 (g17) (.bool n17) (.slice A17 k17 c17) := by rw [hU18F12]; exact P17.far2 (by omega) _ _
  replace hl17 : LRd U18F12 (y17.heap.size) A17 k17 c17 x17 := by rw [hU18F12]; first | exact hl17.setB F12 (by simp) (by simp) _ _ | exact hl17.setFar2 (by omega) _ _
  replace F12 : Bk2 U18F12 (w11.heap.size + 1) (.int .i64 0) (.int .i64 0) := by rw [hU18F12]; exact F12.set _ _
  rw [← hU18F12] at hbX
  have hzU18F12 : U18F12.heap.size = y17.heap.size := by rw [hU18F12]; simp [World.setCell]
  clear hU18F12
  rw [← hzU18F12] at hbX hg18
  have zU18F12' := Nat.le_of_eq zU18F12
  replace zU18F12 := Nat.le_of_eq zU18F12.symm
  replace E : Below w.heap.size w wc := E.trans (hbX.mono E.size)
  replace HA : LRd wc (w.heap.size) a.A a.n a.c a.xs := HA.below hbX (by omega)
  replace HB : LRd wc (w.heap.size) b.A b.n b.c b.xs := HB.below hbX (by omega)
  replace PA : Bk2 wc (w.heap.size) (.bool a.neg) (.slice a.A a.n a.c) := PA.below hbX PA.lt
  replace PB : Bk2 wc (w.heap.size + 1) (.bool false) (.slice b.A b.n b.c) := PB.below hbX PB.lt
  replace F10 : Bk2 wc (w9.heap.size + 1) (.int .i64 0) (.int .i64 0) := F10.below hbX F10.lt
  replace F12 : Bk2 wc (w11.heap.size + 1) (.int .i64 0) (.int .i64 0) := F12.below hbX F12.lt
  replace F14 : Bk2 wc (w13.heap.size + 1) (.int .i64 14) (.int .i64 (-1)) := F14.below hbX F14.lt
  replace P17 : Bk2 wc (g17) (.bool n17) (.slice A17 k17 c17) := P17.below hbX P17.lt
  replace hl17 : LRd wc (y17.heap.size) A17 k17 c17 x17 := hl17.below hbX (by omega)
  have sX18 := hbX.size
  clear hbX
  obtain ⟨y18, hy18⟩ : ∃ y : World, y = wc := ⟨_, rfl⟩
  subst hy18
  clear VBL
  have lg18 := P18.lt
  go_upto_region 16 with fail
  have VBL := Lib.hid (show (IV.mk false b.A b.n b.c b.xs).val = b.val by rw [val_mk, ← hb.out]; rfl)
  go_cut [19] (fun s wx => RP y18 ((y18.setCell ⟨w13.heap.size + 1, 0, none⟩ (.int .i64 0)).setCell ⟨w13.heap.size + 1, 1, none⟩ (.int .i64 0)) (a.val ^ (n + k) % b.val) s wx)
  case first =>
    as_aux_lemma =>
      have G0 : Below y18.heap.size y18 y18.drew := Below.drew (Below.refl _ _)
      have HS := Lib.hid (fun (u : World) (hu : Below y18.heap.size y18 u) => (s2of (PA.below hu PA.lt) (PB.below hu PB.lt) : u.cell? ⟨w.heap.size, 0, none⟩ = some (.bool a.neg) ∧ u.cell? ⟨w.heap.size, 1, none⟩ = some (.slice a.A a.n a.c) ∧ u.cell? ⟨w.heap.size + 1, 0, none⟩ = some (.bool false) ∧ u.cell? ⟨w.heap.size + 1, 1, none⟩ = some (.slice b.A b.n b.c)))
      obtain ⟨_, _, _, _, _⟩ := id F14
      have hwr : IntKind.i64.wrap ((n : Int) + (k : Int)) = (n : Int) + (k : Int) := IntWalk.i64_in _ (by omega)
      have ltA := PA.lt
      have ltB := PB.lt
      have ltF := F14.lt
      go_region_held3 (fun u => u.cell? ⟨w.heap.size, 0, none⟩ = some (.bool a.neg) ∧ u.cell? ⟨w.heap.size, 1, none⟩ = some (.slice a.A a.n a.c) ∧ u.cell? ⟨w.heap.size + 1, 0, none⟩ = some (.bool false) ∧ u.cell? ⟨w.heap.size + 1, 1, none⟩ = some (.slice b.A b.n b.c))
        (first | with_reducible exact HS.out _ G0 | with_reducible exact HS.out _ HBQ | with_reducible exact HS.out _ HBP | (refine HS.out _ ?_; (repeat (first | with_reducible exact G0 | with_reducible exact HBQ | with_reducible exact HBP | with_reducible exact Below.refl _ _ | with_reducible refine Below.drew ?_ | with_reducible refine Below.alloc ?_ (by first | (simp; done) | (have := HBQ.size; simp; omega) | (have := HBP.size; simp; omega)) _ | with_reducible refine Below.setCell ?_ (by first | (simp; done) | (have := HBQ.size; simp; omega) | (have := HBP.size; simp; omega)) _)); done) | (refine s2of ?_ ?_; (repeat (first | with_reducible exact PA | with_reducible exact PAq | with_reducible exact PAp | with_reducible refine Bk2.drew ?_ | with_reducible refine Bk2.alloc ?_ _ | with_reducible refine Bk2.far2 ?_ (by omega) _ _)); (repeat (first | with_reducible exact PB | with_reducible exact PBq | with_reducible exact PBp | with_reducible refine Bk2.drew ?_ | with_reducible refine Bk2.alloc ?_ _ | with_reducible refine Bk2.far2 ?_ (by omega) _ _)); done) | fail)
        (first
          | (go_at_call 19; (try rw [hwr]); (with_reducible refine (iof_any _ (((n : Int) + (k : Int))) (by omega) (by omega)).mono ?_); rintro e wp ⟨m4, A4, k4, c4, x4, rfl, hl4, hr4, hbp⟩; have HBP : Below y18.heap.size y18 wp := (by refine bnext ?_ hbp; (repeat (first | with_reducible exact G0 | with_reducible exact HBQ | with_reducible exact HBP | with_reducible exact Below.refl _ _ | with_reducible refine Below.drew ?_ | with_reducible refine Below.alloc ?_ (by first | (simp; done) | (have := HBQ.size; simp; omega) | (have := HBP.size; simp; omega)) _ | with_reducible refine Below.setCell ?_ (by first | (simp; done) | (have := HBQ.size; simp; omega) | (have := HBP.size; simp; omega)) _))); obtain rfl : m4 = false := (by rw [hr4.sgn]; exact decide_eq_false (by omega)); have o4 := Lib.hid (show (IV.mk false A4 k4 c4 x4).ok = true from IRep.iok hr4 (lt_top (by omega))); have v4 := Lib.hid (show vb 4294967296 x4 = n + k by rw [hr4.rep.val]; omega); clear hr4; have PAp := PA.below HBP PA.lt; have PBp := PB.below HBP PB.lt; have szp := HBP.size; (first | (have p1 := mxd hbp; obtain ⟨_, _, _, _, _⟩ := id p1) | skip); obtain ⟨_, _, _, _, _⟩ := F14.below HBP F14.lt)
          | (go_at_call 45; (with_reducible refine (ipm_ok _ wp.heap.size a (IV.mk false A4 k4 c4 x4) (IV.mk false b.A b.n b.c b.xs) ?_ ?_ ?_ ?_ oa o4.out ob1.out (Lib.hid rfl) (Lib.hid rfl) h0.out).mono ?_); (show LRd _ wp.heap.size a.A a.n a.c a.xs); (first | with_reducible exact ((HA.below HBP (by omega)).more (by omega)) | with_reducible exact LRd.alloc ((HA.below HBP (by omega)).more (by omega)) (Nat.le_refl _) _); (show LRd _ wp.heap.size A4 k4 c4 x4); (first | with_reducible exact hl4 | with_reducible exact LRd.alloc hl4 (Nat.le_refl _) _); (show LRd _ wp.heap.size b.A b.n b.c b.xs); (first | with_reducible exact ((HB.below HBP (by omega)).more (by omega)) | with_reducible exact LRd.alloc ((HB.below HBP (by omega)).more (by omega)) (Nat.le_refl _) _); (first | with_reducible exact Nat.le_refl _ | with_reducible exact ms_w1 _ _); rintro e wq ⟨nq, Aq, kq, cq, xq, rfl, hlq, hrq, hbq⟩; have HBQ : Below y18.heap.size y18 wq := (by first | exact bnext HBP hbq | exact bnext (Below.alloc HBP HBP.size _) hbq); have IQ := Lib.hid (show IRep nq xq (a.val ^ (n + k) % b.val) by have h9 := hrq; rw [VBL.out] at h9; rw [← v4.out]; exact h9); clear hrq; have szq : wp.heap.size ≤ wq.heap.size := (by first | with_reducible exact hbq.size | with_reducible exact Nat.le_trans (ms_w1 _ _) hbq.size); have PAq := PA.below HBQ PA.lt; have PBq := PB.below HBQ PB.lt; have FQ := F14.below HBQ F14.lt; obtain ⟨_, _, _, _, _⟩ := id FQ; (first | (have s1 := mx1 hbq; obtain ⟨_, _, _, _, _⟩ := id s1) | skip); (first | (have s3 := Bk2.next p1 hbq; obtain ⟨_, _, _, _, _⟩ := id s3) | skip))
          | fail)
      all_goals (go_wp2_with fail)
      all_goals
        go_meet
        refine ⟨_, nq, Aq, kq, cq, xq, rfl, ?_, ?_, IQ, ?_, ?_⟩
        · (repeat (first | with_reducible exact Bk2.newAt _ _ (by first | rfl | (simp; done)) _ _ _ | with_reducible exact s1 | with_reducible exact s3 | with_reducible refine Bk2.alloc ?_ _ | with_reducible refine Bk2.set (u := .bool false) (v := .slice none 0 0) ?_ _ _ | with_reducible refine Bk2.far2 ?_ (by omega) _ _))
        · (with_reducible refine LRd.more (B := wq.heap.size) ?_ (by first | (simp [World.setCell]; done) | (simp [World.setCell]; omega))); (repeat (first | with_reducible exact hlq | with_reducible refine LRd.alloc ?_ (by first | (simp; done) | (have := HBQ.size; simp; omega) | omega) _ | with_reducible refine LRd.setFar2 ?_ (by first | (simp; done) | (have := HBQ.size; simp; omega) | omega) _ _ | with_reducible refine LRd.setB ?_ s1 (by simp) (by simp) _ _ | with_reducible refine LRd.setB ?_ (s1.far2 (by omega) _ _) (by simp) (by simp) _ _ | with_reducible refine LRd.setB ?_ ((s1.alloc _).far2 (by omega) _ _) (by simp) (by simp) _ _ | with_reducible refine LRd.setB ?_ (s1.alloc _) (by simp) (by simp) _ _ | with_reducible refine LRd.setB ?_ s3 (by simp) (by simp) _ _ | with_reducible refine LRd.setB ?_ (s3.far2 (by omega) _ _) (by simp) (by simp) _ _ | with_reducible refine LRd.setB ?_ ((s3.alloc _).far2 (by omega) _ _) (by simp) (by simp) _ _ | with_reducible refine LRd.setB ?_ (s3.alloc _) (by simp) (by simp) _ _ | with_reducible refine LRd.setB ?_ FQ (by simp) (by simp) _ _ | with_reducible refine LRd.setB ?_ (FQ.far2 (by omega) _ _) (by simp) (by simp) _ _ | with_reducible refine LRd.setB ?_ ((FQ.alloc _).far2 (by omega) _ _) (by simp) (by simp) _ _ | with_reducible refine LRd.setB ?_ (FQ.alloc _) (by simp) (by simp) _ _))
        · (first | omega | (simp; done) | (simp; omega))
        · (first | (refine (Below.both (Below.both ?_ _ _) _ _); (repeat (first | with_reducible exact G0 | with_reducible exact HBQ | with_reducible exact HBP | with_reducible exact Below.refl _ _ | with_reducible refine Below.drew ?_ | with_reducible refine Below.alloc ?_ (by first | (simp; done) | (have := HBQ.size; simp; omega) | (have := HBP.size; simp; omega)) _ | with_reducible refine Below.setCell ?_ (by first | (simp; done) | (have := HBQ.size; simp; omega) | (have := HBP.size; simp; omega)) _)); done) | (refine Below.alloc (Below.both (Below.both ?_ _ _) _ _) (by simp [World.setCell]; exact HBQ.size) _; (repeat (first | with_reducible exact G0 | with_reducible exact HBQ | with_reducible exact HBP | with_reducible exact Below.refl _ _ | with_reducible refine Below.drew ?_ | with_reducible refine Below.alloc ?_ (by first | (simp; done) | (have := HBQ.size; simp; omega) | (have := HBP.size; simp; omega)) _ | with_reducible refine Below.setCell ?_ (by first | (simp; done) | (have := HBQ.size; simp; omega) | (have := HBP.size; simp; omega)) _)); done))
  case rest =>
  obtain ⟨g19, n19, A19, k19, c19, x19, rfl, P19, hl19, I19, hg19, hbX⟩ := hcut
  obtain ⟨U19F14, hU19F14⟩ : ∃ U19F14 : World, U19F14 = ((y18.setCell ⟨w13.heap.size + 1, 0, none⟩ (.int .i64 0)).setCell ⟨w13.heap.size + 1, 1, none⟩ (.int .i64 0)) := ⟨_, rfl⟩
  have zU19F14 : U19F14.heap.size = y18.heap.size := by rw [hU19F14]; simp [World.setCell]
  replace E : Below w.heap.size w U19F14 := by rw [hU19F14]; exact (E.setCell (by first | (simp; done) | (simp; omega)) _).setCell (by first | (simp; done) | (simp; omega)) _
  replace HA : LRd U19F14 (w.heap.size) a.A a.n a.c a.xs := by rw [hU19F14]; first | exact HA.setB F14 (by simp) (by simp) _ _ | exact HA.setFar2 (by omega) _ _
  replace HB : LRd U19F14 (w.heap.size) b.A b.n b.c b.xs := by rw [hU19F14]; first | exact HB.setB F14 (by simp) (by simp) _ _ | exact HB.setFar2 (by omega) _ _
  replace PA : Bk2 U19F14 (w.heap.size) (.bool a.neg) (.slice a.A a.n a.c) := by rw [hU19F14]; exact PA.far2 (by omega) _ _
  replace PB : Bk2 U19F14 (w.heap.size + 1) (.bool false) (.slice b.A b.n b.c) := by rw [hU19F14]; exact PB.far2 (by omega) _ _
  replace F10 : Bk2 U19F14 (w9.heap.size + 1) (.int .i64 0) (.int .i64 0) := by rw [hU19F14]; exact F10.far2 (by omega) _ _
  replace F12 : Bk2 U19F14 (w11.heap.size + 1) (.int .i64 0) (.int .i64 0) := by rw [hU19F14]; exact F12.far2 (by omega) _ _
  replace P17 : Bk2 U19F14 (g17) (.bool n17) (.slice A17 k17 c17) := by rw [hU19F14]; exact P17.far2 (by omega) _ _
  replace hl17 : LRd U19F14 (y17.heap.size) A17 k17 c17 x17 := by rw [hU19F14]; first | exact hl17.setB F14 (by simp) (by simp) _ _ | exact hl17.setFar2 (by omega) _ _
  replace P18 : Bk2 U19F14 (g18) (.bool n18) (.slice A18 k18 c18) := by rw [hU19F14]; exact P18.far2 (by omega) _ _
  replace hl18 : LRd U19F14 (y18.heap.size) A18 k18 c18 x18 := by rw [hU19F14]; first | exact hl18.setB F14 (by simp) (by simp) _ _ | exact hl18.setFar2 (by omega) _ _
  replace F14 : Bk2 U19F14 (w13.heap.size + 1) (.int .i64 0) (.int .i64 0) := by rw [hU19F14]; exact F14.set _ _
  rw [← hU19F14] at hbX
  have hzU19F14 : U19F14.heap.size = y18.heap.size := by rw [hU19F14]; simp [World.setCell]
  clear hU19F14
  rw [← hzU19F14] at hbX hg19
  have zU19F14' := Nat.le_of_eq zU19F14
  replace zU19F14 := Nat.le_of_eq zU19F14.symm
  replace E : Below w.heap.size w wc := E.trans (hbX.mono E.size)
  replace HA : LRd wc (w.heap.size) a.A a.n a.c a.xs := HA.below hbX (by omega)
  replace HB : LRd wc (w.heap.size) b.A b.n b.c b.xs := HB.below hbX (by omega)
  replace PA : Bk2 wc (w.heap.size) (.bool a.neg) (.slice a.A a.n a.c) := PA.below hbX PA.lt
  replace PB : Bk2 wc (w.heap.size + 1) (.bool false) (.slice b.A b.n b.c) := PB.below hbX PB.lt
  replace F10 : Bk2 wc (w9.heap.size + 1) (.int .i64 0) (.int .i64 0) := F10.below hbX F10.lt
  replace F12 : Bk2 wc (w11.heap.size + 1) (.int .i64 0) (.int .i64 0) := F12.below hbX F12.lt
  replace F14 : Bk2 wc (w13.heap.size + 1) (.int .i64 0) (.int .i64 0) := F14.below hbX F14.lt
  replace P17 : Bk2 wc (g17) (.bool n17) (.slice A17 k17 c17) := P17.below hbX P17.lt
  replace hl17 : LRd wc (y17.heap.size) A17 k17 c17 x17 := hl17.below hbX (by omega)
  replace P18 : Bk2 wc (g18) (.bool n18) (.slice A18 k18 c18) := P18.below hbX P18.lt
  replace hl18 : LRd wc (y18.heap.size) A18 k18 c18 x18 := hl18.below hbX (by omega)
  have sX19 := hbX.size
  clear hbX
  obtain ⟨y19, hy19⟩ : ∃ y : World, y = wc := ⟨_, rfl⟩
  subst hy19
  clear VBL
  have lg19 := P19.lt
  go_upto_region 17 with fail
  have BV := Lib.hid (show b.val = sval false (vb 4294967296 b.xs) by rw [sval_val, hb.out])
  have hbr := Lib.hid (⟨HB.lim, rfl, (vld_top (IV.vld ob).1).1⟩ : Rep 4294967296 b.xs (vb 4294967296 b.xs))
  have BP := Lib.hid (show 0 < b.val by have h1 : b.val = ((vb 4294967296 b.xs : Nat) : Int) := BV.out; have := rep_pos4' hbr.out HB.len.out h0.out; omega)
  have BT := Lib.hid (show b.val.natAbs < Top60 by rw [IV.abs]; exact lt60 hbr.out HB.len.out hl)
  have TX := Lib.hid (me_abs (x := a.val ^ n) BP.out BT.out)
  have TY := Lib.hid (me_abs (x := a.val ^ k) BP.out BT.out)
  have TZ := Lib.hid (me_abs (x := a.val ^ (n + k)) BP.out BT.out)
  have TM := Lib.hid (show ((a.val ^ n % b.val) * (a.val ^ k % b.val)).natAbs < Top128 by rw [Int.natAbs_mul]; exact mul60 TX.out TY.out)
  clear PA HA
  have t_P170 : y19.cell? ⟨g17, 0, none⟩ = some ((.bool n17)) := P17.c0
  have t_P171 : y19.cell? ⟨g17, 1, none⟩ = some ((.slice A17 k17 c17)) := P17.c1
  have t_P180 : y19.cell? ⟨g18, 0, none⟩ = some ((.bool n18)) := P18.c0
  have t_P181 : y19.cell? ⟨g18, 1, none⟩ = some ((.slice A18 k18 c18)) := P18.c1
  go_wp2_with fail
  clear t_P170 t_P171 t_P180 t_P181
  have HT := imul_ok y19 y19.heap.size (IV.mk n17 A17 k17 c17 x17) (IV.mk n18 A18 k18 c18 x18) (hl17.more (by omega)) (hl18.more (by omega)) (by omega) (IRep.iok I17.out (t60 TX.out)) (IRep.iok I18.out (t60 TY.out))
  rw [I17.out.ival, I18.out.ival] at HT
  refine HT.mono ?_
  intro e w30 hgv
  clear HT
  obtain ⟨n30, A30, k30, c30, x30, rfl, hl30, hr30, hb30⟩ := hgv.elim (fun h => h.2) (fun h => absurd TM.out (Nat.not_lt_of_le h.1))
  clear hgv
  have I30 := Lib.hid hr30
  have sw30 := hb30.size
  clear hr30
  clear hl17 hl18 P18
  replace E : Below w.heap.size w w30 := E.trans (hb30.mono E.size)
  replace HB : LRd w30 (w.heap.size) b.A b.n b.c b.xs := HB.below hb30 (by omega)
  replace PB : Bk2 w30 (w.heap.size + 1) (.bool false) (.slice b.A b.n b.c) := PB.below hb30 PB.lt
  replace F10 : Bk2 w30 (w9.heap.size + 1) (.int .i64 0) (.int .i64 0) := F10.below hb30 F10.lt
  replace F12 : Bk2 w30 (w11.heap.size + 1) (.int .i64 0) (.int .i64 0) := F12.below hb30 F12.lt
  replace F14 : Bk2 w30 (w13.heap.size + 1) (.int .i64 0) (.int .i64 0) := F14.below hb30 F14.lt
  replace P17 : Bk2 w30 (g17) (.bool n17) (.slice A17 k17 c17) := P17.below hb30 P17.lt
  replace P19 : Bk2 w30 (g19) (.bool n19) (.slice A19 k19 c19) := P19.below hb30 P19.lt
  replace hl19 : LRd w30 (y19.heap.size) A19 k19 c19 x19 := hl19.below hb30 (by omega)
  clear hb30
  have y_P170 : w30.cell? ⟨g17, 0, none⟩ = some ((.bool n17)) := P17.c0
  have z_P170 : w30.frozen? ⟨g17, 0, none⟩ = false := P17.z0
  have y_P171 : w30.cell? ⟨g17, 1, none⟩ = some ((.slice A17 k17 c17)) := P17.c1
  have z_P171 : w30.frozen? ⟨g17, 1, none⟩ = false := P17.z1
  have lt_P17 := P17.lt
  go_upto_region 18 with fail
  clear y_P170 z_P170 y_P171 z_P171 lt_P17
  obtain ⟨U9P17, hU9P17⟩ : ∃ U9P17 : World, U9P17 = ((w30.setCell ⟨g17, 0, none⟩ (.bool n30)).setCell ⟨g17, 1, none⟩ (.slice A30 k30 c30)) := ⟨_, rfl⟩
  have zU9P17 : U9P17.heap.size = w30.heap.size := by rw [hU9P17]; simp [World.setCell]
  replace E : Below w.heap.size w U9P17 := by rw [hU9P17]; exact (E.setCell (by first | (simp; done) | (simp; omega)) _).setCell (by first | (simp; done) | (simp; omega)) _
  replace HB : LRd U9P17 (w.heap.size) b.A b.n b.c b.xs := by rw [hU9P17]; first | exact HB.setB P17 (by simp) (by simp) _ _ | exact HB.setFar2 (by omega) _ _
  replace PB : Bk2 U9P17 (w.heap.size + 1) (.bool false) (.slice b.A b.n b.c) := by rw [hU9P17]; exact PB.far2 (by omega) _ _
  replace F10 : Bk2 U9P17 (w9.heap.size + 1) (.int .i64 0) (.int .i64 0) := by rw [hU9P17]; exact F10.far2 (by omega) _ _
  replace F12 : Bk2 U9P17 (w11.heap.size + 1) (.int .i64 0) (.int .i64 0) := by rw [hU9P17]; exact F12.far2 (by omega) _ _
  replace F14 : Bk2 U9P17 (w13.heap.size + 1) (.int .i64 0) (.int .i64 0) := by rw [hU9P17]; exact F14.far2 (by omega) _ _
  replace P19 : Bk2 U9P17 (g19) (.bool n19) (.slice A19 k19 c19) := by rw [hU9P17]; exact P19.far2 (by omega) _ _
  replace hl19 : LRd U9P17 (y19.heap.size) A19 k19 c19 x19 := by rw [hU9P17]; first | exact hl19.setB P17 (by simp) (by simp) _ _ | exact hl19.setFar2 (by omega) _ _
  replace hl30 : LRd U9P17 (w30.heap.size) A30 k30 c30 x30 := by rw [hU9P17]; first | exact hl30.setB P17 (by simp) (by simp) _ _ | exact hl30.setFar2 (by omega) _ _
  replace P17 : Bk2 U9P17 (g17) (.bool n30) (.slice A30 k30 c30) := by rw [hU9P17]; exact P17.set _ _
  rw [← hU9P17]
  clear hU9P17
  have zU9P17' := Nat.le_of_eq zU9P17
  replace zU9P17 := Nat.le_of_eq zU9P17.symm
  obtain ⟨V9, hV9⟩ : ∃ V9 : World, V9 = (U9P17.alloc (.cells #[.int .i64 0, .int .i64 0] 26)) := ⟨_, rfl⟩
  have bV9 : Below U9P17.heap.size U9P17 V9 := by rw [hV9]; (repeat (first | with_reducible exact Below.refl _ _ | with_reducible refine Below.drew ?_ | with_reducible refine below_drewN ?_ _ | with_reducible refine Below.setCell ?_ (by first | (simp; done) | (simp; omega) | omega) _ | with_reducible refine Below.alloc ?_ (by first | (simp; done) | (simp; omega) | omega) _))
  have zV9 : U9P17.heap.size + 1 ≤ V9.heap.size := by rw [hV9]; simp
  have F20 : Bk2 V9 (w30.heap.size) (.int .i64 0) (.int .i64 0) := by rw [hV9]; exact (Bk2.newAt _ _ (by first | omega | (simp; done) | (simp; omega)) _ _ _)
  rw [← hV9]
  clear hV9
  replace E : Below w.heap.size w V9 := E.trans (bV9.mono E.size)
  replace HB : LRd V9 (w.heap.size) b.A b.n b.c b.xs := HB.below bV9 (by omega)
  replace PB : Bk2 V9 (w.heap.size + 1) (.bool false) (.slice b.A b.n b.c) := PB.below bV9 PB.lt
  replace F10 : Bk2 V9 (w9.heap.size + 1) (.int .i64 0) (.int .i64 0) := F10.below bV9 F10.lt
  replace F12 : Bk2 V9 (w11.heap.size + 1) (.int .i64 0) (.int .i64 0) := F12.below bV9 F12.lt
  replace F14 : Bk2 V9 (w13.heap.size + 1) (.int .i64 0) (.int .i64 0) := F14.below bV9 F14.lt
  replace P17 : Bk2 V9 (g17) (.bool n30) (.slice A30 k30 c30) := P17.below bV9 P17.lt
  replace P19 : Bk2 V9 (g19) (.bool n19) (.slice A19 k19 c19) := P19.below bV9 P19.lt
  replace hl19 : LRd V9 (y19.heap.size) A19 k19 c19 x19 := hl19.below bV9 (by omega)
  replace hl30 : LRd V9 (w30.heap.size) A30 k30 c30 x30 := hl30.below bV9 (by omega)
  clear bV9
  have t_P170 : V9.cell? ⟨g17, 0, none⟩ = some ((.bool n30)) := P17.c0
  have t_P171 : V9.cell? ⟨g17, 1, none⟩ = some ((.slice A30 k30 c30)) := P17.c1
  have t_PB0 : V9.cell? ⟨w.heap.size + 1, 0, none⟩ = some ((.bool false)) := PB.c0
  have t_PB1 : V9.cell? ⟨w.heap.size + 1, 1, none⟩ = some ((.slice b.A b.n b.c)) := PB.c1
  go_wp2_with fail
  clear t_P170 t_P171 t_PB0 t_PB1
  have HT := idivmod_ok V9 w30.heap.size (IV.mk n30 A30 k30 c30 x30) (IV.mk false b.A b.n b.c b.xs) (hl30.more (by omega)) (HB.more (by omega)) (by omega) (IRep.iok I30.out TM.out) ob1.out h0.out
  rw [I30.out.ival, show (IV.mk false b.A b.n b.c b.xs).val = b.val by rw [val_mk, ← hb.out]; rfl] at HT
  refine HT.mono ?_
  rintro e w31 ⟨q, r, hfl, n31, A31, k31, c31, x31, n32, A32, k32, c32, x32, rfl, hl31, hr31, hl32, hr32, hb31⟩
  clear HT
  obtain rfl : r = (a.val ^ (n + k) % b.val) := (me_emod hfl BP.out).trans pm_add
  have I32 := Lib.hid hr32
  have c31c := hl31.cap
  have sw31 := hb31.size
  clear hr31 hr32 hfl hl31
  clear hl30 PB HB
  replace E : Below w.heap.size w w31 := E.trans (hb31.mono E.size)
  replace F10 : Bk2 w31 (w9.heap.size + 1) (.int .i64 0) (.int .i64 0) := F10.below hb31 F10.lt
  replace F12 : Bk2 w31 (w11.heap.size + 1) (.int .i64 0) (.int .i64 0) := F12.below hb31 F12.lt
  replace F14 : Bk2 w31 (w13.heap.size + 1) (.int .i64 0) (.int .i64 0) := F14.below hb31 F14.lt
  replace P17 : Bk2 w31 (g17) (.bool n30) (.slice A30 k30 c30) := P17.below hb31 P17.lt
  replace P19 : Bk2 w31 (g19) (.bool n19) (.slice A19 k19 c19) := P19.below hb31 P19.lt
  replace hl19 : LRd w31 (y19.heap.size) A19 k19 c19 x19 := hl19.below hb31 (by omega)
  replace F20 : Bk2 w31 (w30.heap.size) (.int .i64 0) (.int .i64 0) := F20.below hb31 F20.lt
  clear hb31
  have y_P170 : w31.cell? ⟨g17, 0, none⟩ = some ((.bool n30)) := P17.c0
  have z_P170 : w31.frozen? ⟨g17, 0, none⟩ = false := P17.z0
  have y_P171 : w31.cell? ⟨g17, 1, none⟩ = some ((.slice A30 k30 c30)) := P17.c1
  have z_P171 : w31.frozen? ⟨g17, 1, none⟩ = false := P17.z1
  have lt_P17 := P17.lt
  go_upto_region 19 with fail
  clear y_P170 z_P170 y_P171 z_P171 lt_P17
  obtain ⟨U11P17, hU11P17⟩ : ∃ U11P17 : World, U11P17 = ((w31.setCell ⟨g17, 0, none⟩ (.bool n32)).setCell ⟨g17, 1, none⟩ (.slice A32 k32 c32)) := ⟨_, rfl⟩
  have zU11P17 : U11P17.heap.size = w31.heap.size := by rw [hU11P17]; simp [World.setCell]
  replace E : Below w.heap.size w U11P17 := by rw [hU11P17]; exact (E.setCell (by first | (simp; done) | (simp; omega)) _).setCell (by first | (simp; done) | (simp; omega)) _
  replace F10 : Bk2 U11P17 (w9.heap.size + 1) (.int .i64 0) (.int .i64 0) := by rw [hU11P17]; exact F10.far2 (by omega) _ _
  replace F12 : Bk2 U11P17 (w11.heap.size + 1) (.int .i64 0) (.int .i64 0) := by rw [hU11P17]; exact F12.far2 (by omega) _ _
  replace F14 : Bk2 U11P17 (w13.heap.size + 1) (.int .i64 0) (.int .i64 0) := by rw [hU11P17]; exact F14.far2 (by omega) _ _
  replace P19 : Bk2 U11P17 (g19) (.bool n19) (.slice A19 k19 c19) := by rw [hU11P17]; exact P19.far2 (by omega) _ _
  replace hl19 : LRd U11P17 (y19.heap.size) A19 k19 c19 x19 := by rw [hU11P17]; first | exact hl19.setB P17 (by simp) (by simp) _ _ | exact hl19.setFar2 (by omega) _ _
  replace F20 : Bk2 U11P17 (w30.heap.size) (.int .i64 0) (.int .i64 0) := by rw [hU11P17]; exact F20.far2 (by omega) _ _
  replace hl32 : LRd U11P17 (w31.heap.size) A32 k32 c32 x32 := by rw [hU11P17]; first | exact hl32.setB P17 (by simp) (by simp) _ _ | exact hl32.setFar2 (by omega) _ _
  replace P17 : Bk2 U11P17 (g17) (.bool n32) (.slice A32 k32 c32) := by rw [hU11P17]; exact P17.set _ _
  rw [← hU11P17]
  clear hU11P17
  have zU11P17' := Nat.le_of_eq zU11P17
  replace zU11P17 := Nat.le_of_eq zU11P17.symm
  obtain ⟨V11, hV11⟩ : ∃ V11 : World, V11 = ((U11P17.alloc (.cells #[.bool n31, .slice A31 k31 c31] 24)).alloc (.cells #[.int .i64 0, .int .i64 0] 26)) := ⟨_, rfl⟩
  have bV11 : Below U11P17.heap.size U11P17 V11 := by rw [hV11]; (repeat (first | with_reducible exact Below.refl _ _ | with_reducible refine Below.drew ?_ | with_reducible refine below_drewN ?_ _ | with_reducible refine Below.setCell ?_ (by first | (simp; done) | (simp; omega) | omega) _ | with_reducible refine Below.alloc ?_ (by first | (simp; done) | (simp; omega) | omega) _))
  have zV11 : U11P17.heap.size + 2 ≤ V11.heap.size := by rw [hV11]; simp
  have P21 : Bk2 V11 (w31.heap.size) (.bool n31) (.slice A31 k31 c31) := by rw [hV11]; exact ((Bk2.newAt _ _ (by first | omega | (simp; done) | (simp; omega)) _ _ _).alloc _)
  have F22 : Bk2 V11 (w31.heap.size + 1) (.int .i64 0) (.int .i64 0) := by rw [hV11]; exact (Bk2.newAt _ _ (by first | omega | (simp; done) | (simp; omega)) _ _ _)
  rw [← hV11]
  clear hV11
  replace E : Below w.heap.size w V11 := E.trans (bV11.mono E.size)
  replace F10 : Bk2 V11 (w9.heap.size + 1) (.int .i64 0) (.int .i64 0) := F10.below bV11 F10.lt
  replace F12 : Bk2 V11 (w11.heap.size + 1) (.int .i64 0) (.int .i64 0) := F12.below bV11 F12.lt
  replace F14 : Bk2 V11 (w13.heap.size + 1) (.int .i64 0) (.int .i64 0) := F14.below bV11 F14.lt
  replace P17 : Bk2 V11 (g17) (.bool n32) (.slice A32 k32 c32) := P17.below bV11 P17.lt
  replace P19 : Bk2 V11 (g19) (.bool n19) (.slice A19 k19 c19) := P19.below bV11 P19.lt
  replace hl19 : LRd V11 (y19.heap.size) A19 k19 c19 x19 := hl19.below bV11 (by omega)
  replace F20 : Bk2 V11 (w30.heap.size) (.int .i64 0) (.int .i64 0) := F20.below bV11 F20.lt
  replace hl32 : LRd V11 (w31.heap.size) A32 k32 c32 x32 := hl32.below bV11 (by omega)
  clear bV11
  have t_F100 : V11.cell? ⟨w9.heap.size + 1, 0, none⟩ = some ((.int .i64 0)) := F10.c0
  have t_F101 : V11.cell? ⟨w9.heap.size + 1, 1, none⟩ = some ((.int .i64 0)) := F10.c1
  have t_F120 : V11.cell? ⟨w11.heap.size + 1, 0, none⟩ = some ((.int .i64 0)) := F12.c0
  have t_F121 : V11.cell? ⟨w11.heap.size + 1, 1, none⟩ = some ((.int .i64 0)) := F12.c1
  have t_F140 : V11.cell? ⟨w13.heap.size + 1, 0, none⟩ = some ((.int .i64 0)) := F14.c0
  have t_F141 : V11.cell? ⟨w13.heap.size + 1, 1, none⟩ = some ((.int .i64 0)) := F14.c1
  have t_F200 : V11.cell? ⟨w30.heap.size, 0, none⟩ = some ((.int .i64 0)) := F20.c0
  have t_F201 : V11.cell? ⟨w30.heap.size, 1, none⟩ = some ((.int .i64 0)) := F20.c1
  have t_F220 : V11.cell? ⟨w31.heap.size + 1, 0, none⟩ = some ((.int .i64 0)) := F22.c0
  have t_F221 : V11.cell? ⟨w31.heap.size + 1, 1, none⟩ = some ((.int .i64 0)) := F22.c1
  have t_P170 : V11.cell? ⟨g17, 0, none⟩ = some ((.bool n32)) := P17.c0
  have t_P171 : V11.cell? ⟨g17, 1, none⟩ = some ((.slice A32 k32 c32)) := P17.c1
  have t_P190 : V11.cell? ⟨g19, 0, none⟩ = some ((.bool n19)) := P19.c0
  have t_P191 : V11.cell? ⟨g19, 1, none⟩ = some ((.slice A19 k19 c19)) := P19.c1
  go_wp2_with fail
  clear t_F100 t_F101 t_F120 t_F121 t_F140 t_F141 t_F200 t_F201 t_F220 t_F221 t_P170 t_P171 t_P190 t_P191
  (with_reducible refine (sameInts_any _ V11.heap.size n32 n19 A32 A19 k32 k19 c32 c19 x32 x19 (hl32.more (by omega)) (hl19.more (by omega)) (Nat.le_refl _)).mono ?_)
  rintro e w40 ⟨rfl, hb40⟩
  have sw40 := hb40.size
  replace E : Below w.heap.size w w40 := E.trans (hb40.mono E.size)
  replace F10 : Bk2 w40 (w9.heap.size + 1) (.int .i64 0) (.int .i64 0) := F10.below hb40 F10.lt
  replace F12 : Bk2 w40 (w11.heap.size + 1) (.int .i64 0) (.int .i64 0) := F12.below hb40 F12.lt
  replace F14 : Bk2 w40 (w13.heap.size + 1) (.int .i64 0) (.int .i64 0) := F14.below hb40 F14.lt
  replace P17 : Bk2 w40 (g17) (.bool n32) (.slice A32 k32 c32) := P17.below hb40 P17.lt
  replace P19 : Bk2 w40 (g19) (.bool n19) (.slice A19 k19 c19) := P19.below hb40 P19.lt
  replace hl19 : LRd w40 (y19.heap.size) A19 k19 c19 x19 := hl19.below hb40 (by omega)
  replace F20 : Bk2 w40 (w30.heap.size) (.int .i64 0) (.int .i64 0) := F20.below hb40 F20.lt
  replace hl32 : LRd w40 (w31.heap.size) A32 k32 c32 x32 := hl32.below hb40 (by omega)
  replace P21 : Bk2 w40 (w31.heap.size) (.bool n31) (.slice A31 k31 c31) := P21.below hb40 P21.lt
  replace F22 : Bk2 w40 (w31.heap.size + 1) (.int .i64 0) (.int .i64 0) := F22.below hb40 F22.lt
  clear hb40
  rw [irep_eq I32.out I19.out]
  go_wp2_with fail
  go_ret
  exact ⟨by first | rfl | (simp; done), E⟩
end Go.Proofs.Ytpidkionieaffaa
