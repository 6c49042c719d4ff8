/- IntegerDivisors: the law at valid arguments. -/
import Derived.Test.YtpjohcbopkmbmaaKDvs1
namespace Go.Proofs.Ytpjohcbopkmbmaa
open Go.RowKit
set_option maxHeartbeats 400000
set_option maxRecDepth 100000
set_option linter.unusedSimpArgs false
set_option linter.unusedVariables false

set_option maxHeartbeats 4000000 in
theorem divs_none (w : World) (a b : IV) (HA : a.at w w.heap.size) (HB : b.at w w.heap.size) (oa : a.ok = true) (ob : b.ok = true) (ha60 : a.n ≤ 60) (hb60 : b.n ≤ 60) (hg0 : Hid (Nat.gcd a.val.natAbs b.val.natAbs = 0)) :
    Calls Try.prog 11 #[a.v, b.v] w (fun e w' => e = .returned (.bool true) ∧ Below w.heap.size w w') := by
  obtain ⟨va, la⟩ := IV.vld oa
  obtain ⟨vb', lb⟩ := IV.vld ob
  have pa := lt60 (⟨HA.lim, rfl, (vld_top va).1⟩ : Rep 4294967296 a.xs (vb 4294967296 a.xs)) HA.len.out ha60
  have pb := lt60 (⟨HB.lim, rfl, (vld_top vb').1⟩ : Rep 4294967296 b.xs (vb 4294967296 b.xs)) HB.len.out hb60
  rw [← IV.abs] at pa pb
  have HPA := Lib.hid pa
  have HPB := Lib.hid pb
  have hla : (a.n : Int) ≤ 60 := by omega
  have hlb : (b.n : Int) ≤ 60 := by omega
  clear pa pb
  have HA : LRd w w.heap.size a.A a.n a.c a.xs := HA
  have HB : LRd w w.heap.size b.A b.n b.c b.xs := HB
  have E : Below w.heap.size w w := Below.refl _ _
  have hfd := field_code
  go_enter Try.func11, Try.ntmps11
  go_wp2_with fail
  obtain ⟨V0, hV0⟩ : ∃ V0 : World, V0 = ((w.alloc (.cells #[.bool a.neg, .slice a.A a.n a.c] 24)).alloc (.cells #[.bool b.neg, .slice b.A b.n b.c] 24)) := ⟨_, rfl⟩
  have bV0 : Below w.heap.size w V0 := by rw [hV0]; (repeat (first | with_reducible exact Below.refl _ _ | with_reducible refine Below.drew ?_ | with_reducible refine below_drewN ?_ _ | with_reducible refine Below.setCell ?_ (by first | (simp; done) | (simp; omega) | omega) _ | with_reducible refine Below.alloc ?_ (by first | (simp; done) | (simp; omega) | omega) _))
  have zV0 : w.heap.size + 2 ≤ V0.heap.size := by rw [hV0]; simp
  have PA : Bk2 V0 (w.heap.size) (.bool a.neg) (.slice a.A a.n a.c) := by rw [hV0]; exact ((Bk2.newAt _ _ (by simp) _ _ _).alloc _)
  have PB : Bk2 V0 (w.heap.size + 1) (.bool b.neg) (.slice b.A b.n b.c) := by rw [hV0]; exact (Bk2.newAt _ _ (by simp) _ _ _)
  rw [← hV0]
  clear hV0
  have E : Below w.heap.size w V0 := E.trans (bV0.mono E.size)
  have HA : LRd V0 (w.heap.size) a.A a.n a.c a.xs := HA.below bV0 (by omega)
  have HB : LRd V0 (w.heap.size) b.A b.n b.c b.xs := HB.below bV0 (by omega)
  clear bV0
  (with_reducible refine (counts_any _).mono ?_)
  rintro e w1 ⟨rfl, hb1⟩
  have sw1 := hb1.size
  have E : Below w.heap.size w w1 := E.trans (hb1.mono E.size)
  have HA : LRd w1 (w.heap.size) a.A a.n a.c a.xs := HA.below hb1 (by omega)
  have HB : LRd w1 (w.heap.size) b.A b.n b.c b.xs := HB.below hb1 (by omega)
  have PA : Bk2 w1 (w.heap.size) (.bool a.neg) (.slice a.A a.n a.c) := PA.below hb1 PA.lt
  have PB : Bk2 w1 (w.heap.size + 1) (.bool b.neg) (.slice b.A b.n b.c) := PB.below hb1 PB.lt
  clear hb1
  have IR := Lib.hid (irow2 w1 w.heap.size a b HA HB (by omega))
  have p_PA0 : w1.cell? ⟨w.heap.size, 0, none⟩ = some ((.bool a.neg)) := PA.c0
  have p_PA1 : w1.cell? ⟨w.heap.size, 1, none⟩ = some ((.slice a.A a.n a.c)) := PA.c1
  have p_PB0 : w1.cell? ⟨w.heap.size + 1, 0, none⟩ = some ((.bool b.neg)) := PB.c0
  have p_PB1 : w1.cell? ⟨w.heap.size + 1, 1, none⟩ = some ((.slice b.A b.n b.c)) := PB.c1
  go_wp2_with fail
  clear p_PA0 p_PA1 p_PB0 p_PB1
  obtain ⟨V1, hV1⟩ : ∃ V1 : World, V1 = (w1.alloc (.cells #[.bool a.neg, .slice a.A a.n a.c, .bool b.neg, .slice b.A b.n b.c] 24)) := ⟨_, rfl⟩
  have bV1 : Below w1.heap.size w1 V1 := by rw [hV1]; (repeat (first | with_reducible exact Below.refl _ _ | with_reducible refine Below.drew ?_ | with_reducible refine below_drewN ?_ _ | with_reducible refine Below.setCell ?_ (by first | (simp; done) | (simp; omega) | omega) _ | with_reducible refine Below.alloc ?_ (by first | (simp; done) | (simp; omega) | omega) _))
  have zV1 : w1.heap.size + 1 ≤ V1.heap.size := by rw [hV1]; simp
  have IR : Hid (IRow V1 w.heap.size w1.heap.size [a, b]) := by rw [hV1]; exact IR
  rw [← hV1]
  clear hV1
  have E : Below w.heap.size w V1 := E.trans (bV1.mono E.size)
  have HA : LRd V1 (w.heap.size) a.A a.n a.c a.xs := HA.below bV1 (by omega)
  have HB : LRd V1 (w.heap.size) b.A b.n b.c b.xs := HB.below bV1 (by omega)
  have PA : Bk2 V1 (w.heap.size) (.bool a.neg) (.slice a.A a.n a.c) := PA.below bV1 PA.lt
  have PB : Bk2 V1 (w.heap.size + 1) (.bool b.neg) (.slice b.A b.n b.c) := PB.below bV1 PB.lt
  clear bV1
  (with_reducible refine (faults_any _ w.heap.size w1.heap.size 2 [a, b] IR.out rfl (by omega) (by omega)).mono ?_)
  rintro e w2 ⟨rfl, hb2⟩
  have sw2 := hb2.size
  have E : Below w.heap.size w w2 := E.trans (hb2.mono E.size)
  have HA : LRd w2 (w.heap.size) a.A a.n a.c a.xs := HA.below hb2 (by omega)
  have HB : LRd w2 (w.heap.size) b.A b.n b.c b.xs := HB.below hb2 (by omega)
  have PA : Bk2 w2 (w.heap.size) (.bool a.neg) (.slice a.A a.n a.c) := PA.below hb2 PA.lt
  have PB : Bk2 w2 (w.heap.size + 1) (.bool b.neg) (.slice b.A b.n b.c) := PB.below hb2 PB.lt
  clear hb2
  rw [two_ok oa ob]
  unfold flt
  clear IR
  have t0 := PA.c1
  have t1 := PB.c1
  have t2 := PA.c0
  have t3 := PB.c0
  go_wp2_with fail
  clear t0 t1 t2 t3
  refine (igcd_ok _ w.heap.size a b HA HB (by omega) oa ob).mono ?_
  rintro e w3 ⟨n3, A3, k3, c3, x3, rfl, hl3, hr3, hb3⟩
  have sw3 := hb3.size
  have E : Below w.heap.size w w3 := E.trans (hb3.mono E.size)
  have HA : LRd w3 (w.heap.size) a.A a.n a.c a.xs := HA.below hb3 (by omega)
  have HB : LRd w3 (w.heap.size) b.A b.n b.c b.xs := HB.below hb3 (by omega)
  have PA : Bk2 w3 (w.heap.size) (.bool a.neg) (.slice a.A a.n a.c) := PA.below hb3 PA.lt
  have PB : Bk2 w3 (w.heap.size + 1) (.bool b.neg) (.slice b.A b.n b.c) := PB.below hb3 PB.lt
  clear hb3
  rw [← IV.abs, ← IV.abs] at hr3
  obtain ⟨g, hg⟩ : ∃ g, g = Nat.gcd a.val.natAbs b.val.natAbs := ⟨_, rfl⟩
  rw [← hg] at hr3
  have hn3 : n3 = false := by rw [hr3.sgn]; simp
  subst hn3
  have HR3 := Lib.hid hr3
  have HG := Lib.hid hg
  have HGT := Lib.hid (show g < Top128 by
    rcases Nat.eq_zero_or_pos a.val.natAbs with e | e
    · rw [hg, e, Nat.gcd_zero_left]; exact t60 HPB.out
    · exact Nat.lt_of_le_of_lt (by rw [hg]; exact Nat.gcd_le_left _ e) (t60 HPA.out))
  clear hr3 hg
  have t_PA0 : ((w3.alloc (.cells #[.bool false, .slice A3 k3 c3] 24)).alloc (.cells #[.int .i64 0, .int .i64 0] 26)).cell? ⟨w.heap.size, 0, none⟩ = some ((.bool a.neg)) := ((PA.alloc _).alloc _).c0
  have t_PA1 : ((w3.alloc (.cells #[.bool false, .slice A3 k3 c3] 24)).alloc (.cells #[.int .i64 0, .int .i64 0] 26)).cell? ⟨w.heap.size, 1, none⟩ = some ((.slice a.A a.n a.c)) := ((PA.alloc _).alloc _).c1
  have t_PB0 : ((w3.alloc (.cells #[.bool false, .slice A3 k3 c3] 24)).alloc (.cells #[.int .i64 0, .int .i64 0] 26)).cell? ⟨w.heap.size + 1, 0, none⟩ = some ((.bool b.neg)) := ((PB.alloc _).alloc _).c0
  have t_PB1 : ((w3.alloc (.cells #[.bool false, .slice A3 k3 c3] 24)).alloc (.cells #[.int .i64 0, .int .i64 0] 26)).cell? ⟨w.heap.size + 1, 1, none⟩ = some ((.slice b.A b.n b.c)) := ((PB.alloc _).alloc _).c1
  go_wp2_with fail
  clear t_PA0 t_PA1 t_PB0 t_PB1
  obtain ⟨V2, hV2⟩ : ∃ V2 : World, V2 = ((w3.alloc (.cells #[.bool false, .slice A3 k3 c3] 24)).alloc (.cells #[.int .i64 0, .int .i64 0] 26)) := ⟨_, rfl⟩
  have bV2 : Below w3.heap.size w3 V2 := by rw [hV2]; (repeat (first | with_reducible exact Below.refl _ _ | with_reducible refine Below.drew ?_ | with_reducible refine below_drewN ?_ _ | with_reducible refine Below.setCell ?_ (by first | (simp; done) | (simp; omega) | omega) _ | with_reducible refine Below.alloc ?_ (by first | (simp; done) | (simp; omega) | omega) _))
  have zV2 : w3.heap.size + 2 ≤ V2.heap.size := by rw [hV2]; simp
  have P3 : Bk2 V2 (w3.heap.size) (.bool false) (.slice A3 k3 c3) := by rw [hV2]; exact ((Bk2.newAt _ _ (by simp) _ _ _).alloc _)
  have F3 : Bk2 V2 (w3.heap.size + 1) (.int .i64 0) (.int .i64 0) := by rw [hV2]; exact (Bk2.newAt _ _ (by simp) _ _ _)
  rw [← hV2]
  clear hV2
  have E : Below w.heap.size w V2 := E.trans (bV2.mono E.size)
  have HA : LRd V2 (w.heap.size) a.A a.n a.c a.xs := HA.below bV2 (by omega)
  have HB : LRd V2 (w.heap.size) b.A b.n b.c b.xs := HB.below bV2 (by omega)
  have PA : Bk2 V2 (w.heap.size) (.bool a.neg) (.slice a.A a.n a.c) := PA.below bV2 PA.lt
  have PB : Bk2 V2 (w.heap.size + 1) (.bool b.neg) (.slice b.A b.n b.c) := PB.below bV2 PB.lt
  have hl3 : LRd V2 (w3.heap.size) A3 k3 c3 x3 := hl3.below bV2 (by omega)
  clear bV2
  have HS := Lib.hid (isub_ok _ w.heap.size a b HA HB (by omega) oa ob)
  refine HS.out.mono ?_
  intro e w4 hgv
  rw [neg_sub] at hgv
  clear HS
  obtain ⟨n4, A4, k4, c4, x4, rfl, hl4, hr4, hb4⟩ := (hgv.resolve_right (fun hh => absurd hh.1 (by
    have h1 := sum60 HPA.out HPB.out
    have h2 : (a.val - b.val).natAbs ≤ a.val.natAbs + b.val.natAbs := by omega
    omega))).2
  clear hgv
  have sw4 := hb4.size
  have E : Below w.heap.size w w4 := E.trans (hb4.mono E.size)
  have HA : LRd w4 (w.heap.size) a.A a.n a.c a.xs := HA.below hb4 (by omega)
  have HB : LRd w4 (w.heap.size) b.A b.n b.c b.xs := HB.below hb4 (by omega)
  have PA : Bk2 w4 (w.heap.size) (.bool a.neg) (.slice a.A a.n a.c) := PA.below hb4 PA.lt
  have PB : Bk2 w4 (w.heap.size + 1) (.bool b.neg) (.slice b.A b.n b.c) := PB.below hb4 PB.lt
  have hl3 : LRd w4 (w3.heap.size) A3 k3 c3 x3 := hl3.below hb4 (by omega)
  have P3 : Bk2 w4 (w3.heap.size) (.bool false) (.slice A3 k3 c3) := P3.below hb4 P3.lt
  have F3 : Bk2 w4 (w3.heap.size + 1) (.int .i64 0) (.int .i64 0) := F3.below hb4 F3.lt
  clear hb4
  have o4 := Lib.hid (hr4.iok (show (a.val - b.val).natAbs < Top128 by
    have h1 := sum60 HPA.out HPB.out
    have h2 : (a.val - b.val).natAbs ≤ a.val.natAbs + b.val.natAbs := by omega
    omega))
  have v4 := Lib.hid (hr4.ival (A := A4) (n := k4) (c := c4))
  clear hr4
  have t_PB0 : ((w4.alloc (.cells #[.bool n4, .slice A4 k4 c4] 24)).alloc (.cells #[.int .i64 0, .int .i64 0] 26)).cell? ⟨w.heap.size + 1, 0, none⟩ = some ((.bool b.neg)) := ((PB.alloc _).alloc _).c0
  have t_PB1 : ((w4.alloc (.cells #[.bool n4, .slice A4 k4 c4] 24)).alloc (.cells #[.int .i64 0, .int .i64 0] 26)).cell? ⟨w.heap.size + 1, 1, none⟩ = some ((.slice b.A b.n b.c)) := ((PB.alloc _).alloc _).c1
  go_wp2_with fail
  clear t_PB0 t_PB1
  obtain ⟨V3, hV3⟩ : ∃ V3 : World, V3 = ((w4.alloc (.cells #[.bool n4, .slice A4 k4 c4] 24)).alloc (.cells #[.int .i64 0, .int .i64 0] 26)) := ⟨_, rfl⟩
  have bV3 : Below w4.heap.size w4 V3 := by rw [hV3]; (repeat (first | with_reducible exact Below.refl _ _ | with_reducible refine Below.drew ?_ | with_reducible refine below_drewN ?_ _ | with_reducible refine Below.setCell ?_ (by first | (simp; done) | (simp; omega) | omega) _ | with_reducible refine Below.alloc ?_ (by first | (simp; done) | (simp; omega) | omega) _))
  have zV3 : w4.heap.size + 2 ≤ V3.heap.size := by rw [hV3]; simp
  have P4 : Bk2 V3 (w4.heap.size) (.bool n4) (.slice A4 k4 c4) := by rw [hV3]; exact ((Bk2.newAt _ _ (by simp) _ _ _).alloc _)
  have F4 : Bk2 V3 (w4.heap.size + 1) (.int .i64 0) (.int .i64 0) := by rw [hV3]; exact (Bk2.newAt _ _ (by simp) _ _ _)
  rw [← hV3]
  clear hV3
  have E : Below w.heap.size w V3 := E.trans (bV3.mono E.size)
  have HA : LRd V3 (w.heap.size) a.A a.n a.c a.xs := HA.below bV3 (by omega)
  have HB : LRd V3 (w.heap.size) b.A b.n b.c b.xs := HB.below bV3 (by omega)
  have PA : Bk2 V3 (w.heap.size) (.bool a.neg) (.slice a.A a.n a.c) := PA.below bV3 PA.lt
  have PB : Bk2 V3 (w.heap.size + 1) (.bool b.neg) (.slice b.A b.n b.c) := PB.below bV3 PB.lt
  have hl3 : LRd V3 (w3.heap.size) A3 k3 c3 x3 := hl3.below bV3 (by omega)
  have P3 : Bk2 V3 (w3.heap.size) (.bool false) (.slice A3 k3 c3) := P3.below bV3 P3.lt
  have F3 : Bk2 V3 (w3.heap.size + 1) (.int .i64 0) (.int .i64 0) := F3.below bV3 F3.lt
  have hl4 : LRd V3 (w4.heap.size) A4 k4 c4 x4 := hl4.below bV3 (by omega)
  clear bV3
  refine (igcd_ok _ V3.heap.size (IV.mk n4 A4 k4 c4 x4) b (LRd.more hl4 (by omega) : LRd _ _ A4 k4 c4 x4) (LRd.more HB (by omega) : LRd _ _ b.A b.n b.c b.xs) (Nat.le_refl _) o4.out ob).mono ?_
  rintro e w5 ⟨n5, A5, k5, c5, x5, rfl, hl5, hr5, hb5⟩
  have sw5 := hb5.size
  have E : Below w.heap.size w w5 := E.trans (hb5.mono E.size)
  have HA : LRd w5 (w.heap.size) a.A a.n a.c a.xs := HA.below hb5 (by omega)
  have HB : LRd w5 (w.heap.size) b.A b.n b.c b.xs := HB.below hb5 (by omega)
  have PA : Bk2 w5 (w.heap.size) (.bool a.neg) (.slice a.A a.n a.c) := PA.below hb5 PA.lt
  have PB : Bk2 w5 (w.heap.size + 1) (.bool b.neg) (.slice b.A b.n b.c) := PB.below hb5 PB.lt
  have hl3 : LRd w5 (w3.heap.size) A3 k3 c3 x3 := hl3.below hb5 (by omega)
  have P3 : Bk2 w5 (w3.heap.size) (.bool false) (.slice A3 k3 c3) := P3.below hb5 P3.lt
  have F3 : Bk2 w5 (w3.heap.size + 1) (.int .i64 0) (.int .i64 0) := F3.below hb5 F3.lt
  have hl4 : LRd w5 (w4.heap.size) A4 k4 c4 x4 := hl4.below hb5 (by omega)
  have P4 : Bk2 w5 (w4.heap.size) (.bool n4) (.slice A4 k4 c4) := P4.below hb5 P4.lt
  have F4 : Bk2 w5 (w4.heap.size + 1) (.int .i64 0) (.int .i64 0) := F4.below hb5 F4.lt
  clear hb5
  rw [← IV.abs, ← IV.abs, v4.out, dv_sub, ← HG.out] at hr5
  have hn5 : n5 = false := by rw [hr5.sgn]; simp
  subst hn5
  obtain rfl : x3 = x5 := HR3.out.rep.unique (by decide) hr5.rep
  clear hr5 v4 o4
  have t_F30 : ((w5.alloc (.cells #[.bool false, .slice A5 k5 c5] 24)).alloc (.cells #[.int .i64 0, .int .i64 0] 26)).cell? ⟨w3.heap.size + 1, 0, none⟩ = some ((.int .i64 0)) := ((F3.alloc _).alloc _).c0
  have t_F31 : ((w5.alloc (.cells #[.bool false, .slice A5 k5 c5] 24)).alloc (.cells #[.int .i64 0, .int .i64 0] 26)).cell? ⟨w3.heap.size + 1, 1, none⟩ = some ((.int .i64 0)) := ((F3.alloc _).alloc _).c1
  have t_F40 : ((w5.alloc (.cells #[.bool false, .slice A5 k5 c5] 24)).alloc (.cells #[.int .i64 0, .int .i64 0] 26)).cell? ⟨w4.heap.size + 1, 0, none⟩ = some ((.int .i64 0)) := ((F4.alloc _).alloc _).c0
  have t_F41 : ((w5.alloc (.cells #[.bool false, .slice A5 k5 c5] 24)).alloc (.cells #[.int .i64 0, .int .i64 0] 26)).cell? ⟨w4.heap.size + 1, 1, none⟩ = some ((.int .i64 0)) := ((F4.alloc _).alloc _).c1
  have t_P30 : ((w5.alloc (.cells #[.bool false, .slice A5 k5 c5] 24)).alloc (.cells #[.int .i64 0, .int .i64 0] 26)).cell? ⟨w3.heap.size, 0, none⟩ = some ((.bool false)) := ((P3.alloc _).alloc _).c0
  have t_P31 : ((w5.alloc (.cells #[.bool false, .slice A5 k5 c5] 24)).alloc (.cells #[.int .i64 0, .int .i64 0] 26)).cell? ⟨w3.heap.size, 1, none⟩ = some ((.slice A3 k3 c3)) := ((P3.alloc _).alloc _).c1
  go_wp2_with fail
  clear t_F30 t_F31 t_F40 t_F41 t_P30 t_P31
  obtain ⟨V4, hV4⟩ : ∃ V4 : World, V4 = ((w5.alloc (.cells #[.bool false, .slice A5 k5 c5] 24)).alloc (.cells #[.int .i64 0, .int .i64 0] 26)) := ⟨_, rfl⟩
  have bV4 : Below w5.heap.size w5 V4 := by rw [hV4]; (repeat (first | with_reducible exact Below.refl _ _ | with_reducible refine Below.drew ?_ | with_reducible refine below_drewN ?_ _ | with_reducible refine Below.setCell ?_ (by first | (simp; done) | (simp; omega) | omega) _ | with_reducible refine Below.alloc ?_ (by first | (simp; done) | (simp; omega) | omega) _))
  have zV4 : w5.heap.size + 2 ≤ V4.heap.size := by rw [hV4]; simp
  have P5 : Bk2 V4 (w5.heap.size) (.bool false) (.slice A5 k5 c5) := by rw [hV4]; exact ((Bk2.newAt _ _ (by simp) _ _ _).alloc _)
  have F5 : Bk2 V4 (w5.heap.size + 1) (.int .i64 0) (.int .i64 0) := by rw [hV4]; exact (Bk2.newAt _ _ (by simp) _ _ _)
  rw [← hV4]
  clear hV4
  have E : Below w.heap.size w V4 := E.trans (bV4.mono E.size)
  have HA : LRd V4 (w.heap.size) a.A a.n a.c a.xs := HA.below bV4 (by omega)
  have HB : LRd V4 (w.heap.size) b.A b.n b.c b.xs := HB.below bV4 (by omega)
  have PA : Bk2 V4 (w.heap.size) (.bool a.neg) (.slice a.A a.n a.c) := PA.below bV4 PA.lt
  have PB : Bk2 V4 (w.heap.size + 1) (.bool b.neg) (.slice b.A b.n b.c) := PB.below bV4 PB.lt
  have hl3 : LRd V4 (w3.heap.size) A3 k3 c3 x3 := hl3.below bV4 (by omega)
  have P3 : Bk2 V4 (w3.heap.size) (.bool false) (.slice A3 k3 c3) := P3.below bV4 P3.lt
  have F3 : Bk2 V4 (w3.heap.size + 1) (.int .i64 0) (.int .i64 0) := F3.below bV4 F3.lt
  have hl4 : LRd V4 (w4.heap.size) A4 k4 c4 x4 := hl4.below bV4 (by omega)
  have P4 : Bk2 V4 (w4.heap.size) (.bool n4) (.slice A4 k4 c4) := P4.below bV4 P4.lt
  have F4 : Bk2 V4 (w4.heap.size + 1) (.int .i64 0) (.int .i64 0) := F4.below bV4 F4.lt
  have hl5 : LRd V4 (w5.heap.size) A5 k5 c5 x3 := hl5.below bV4 (by omega)
  clear bV4
  (with_reducible refine (sameInts_any _ V4.heap.size false false A5 A3 k5 k3 c5 c3 x3 x3 (hl5.more (by omega)) (hl3.more (by omega)) (Nat.le_refl _)).mono ?_)
  rintro e w6 ⟨rfl, hb6⟩
  have sw6 := hb6.size
  have E : Below w.heap.size w w6 := E.trans (hb6.mono E.size)
  have HA : LRd w6 (w.heap.size) a.A a.n a.c a.xs := HA.below hb6 (by omega)
  have HB : LRd w6 (w.heap.size) b.A b.n b.c b.xs := HB.below hb6 (by omega)
  have PA : Bk2 w6 (w.heap.size) (.bool a.neg) (.slice a.A a.n a.c) := PA.below hb6 PA.lt
  have PB : Bk2 w6 (w.heap.size + 1) (.bool b.neg) (.slice b.A b.n b.c) := PB.below hb6 PB.lt
  have hl3 : LRd w6 (w3.heap.size) A3 k3 c3 x3 := hl3.below hb6 (by omega)
  have P3 : Bk2 w6 (w3.heap.size) (.bool false) (.slice A3 k3 c3) := P3.below hb6 P3.lt
  have F3 : Bk2 w6 (w3.heap.size + 1) (.int .i64 0) (.int .i64 0) := F3.below hb6 F3.lt
  have hl4 : LRd w6 (w4.heap.size) A4 k4 c4 x4 := hl4.below hb6 (by omega)
  have P4 : Bk2 w6 (w4.heap.size) (.bool n4) (.slice A4 k4 c4) := P4.below hb6 P4.lt
  have F4 : Bk2 w6 (w4.heap.size + 1) (.int .i64 0) (.int .i64 0) := F4.below hb6 F4.lt
  have hl5 : LRd w6 (w5.heap.size) A5 k5 c5 x3 := hl5.below hb6 (by omega)
  have P5 : Bk2 w6 (w5.heap.size) (.bool false) (.slice A5 k5 c5) := P5.below hb6 P5.lt
  have F5 : Bk2 w6 (w5.heap.size + 1) (.int .i64 0) (.int .i64 0) := F5.below hb6 F5.lt
  clear hb6
  rw [show (decide (false = false) && sameB x3 x3) = true by rw [sameB_refl]; rfl]
  clear hl5 P5
  have t_P30 : w6.cell? ⟨w3.heap.size, 0, none⟩ = some ((.bool false)) := P3.c0
  have t_P31 : w6.cell? ⟨w3.heap.size, 1, none⟩ = some ((.slice A3 k3 c3)) := P3.c1
  go_wp2_with fail
  clear t_P30 t_P31
  have hcap3 := hl3.cap
  (with_reducible refine (noInt_any _ false A3 k3 c3 (by omega)).mono ?_)
  rintro e w7 ⟨rfl, hb7⟩
  have sw7 := hb7.size
  have E : Below w.heap.size w w7 := E.trans (hb7.mono E.size)
  have HA : LRd w7 (w.heap.size) a.A a.n a.c a.xs := HA.below hb7 (by omega)
  have HB : LRd w7 (w.heap.size) b.A b.n b.c b.xs := HB.below hb7 (by omega)
  have PA : Bk2 w7 (w.heap.size) (.bool a.neg) (.slice a.A a.n a.c) := PA.below hb7 PA.lt
  have PB : Bk2 w7 (w.heap.size + 1) (.bool b.neg) (.slice b.A b.n b.c) := PB.below hb7 PB.lt
  have hl3 : LRd w7 (w3.heap.size) A3 k3 c3 x3 := hl3.below hb7 (by omega)
  have P3 : Bk2 w7 (w3.heap.size) (.bool false) (.slice A3 k3 c3) := P3.below hb7 P3.lt
  have F3 : Bk2 w7 (w3.heap.size + 1) (.int .i64 0) (.int .i64 0) := F3.below hb7 F3.lt
  have hl4 : LRd w7 (w4.heap.size) A4 k4 c4 x4 := hl4.below hb7 (by omega)
  have P4 : Bk2 w7 (w4.heap.size) (.bool n4) (.slice A4 k4 c4) := P4.below hb7 P4.lt
  have F4 : Bk2 w7 (w4.heap.size + 1) (.int .i64 0) (.int .i64 0) := F4.below hb7 F4.lt
  have F5 : Bk2 w7 (w5.heap.size + 1) (.int .i64 0) (.int .i64 0) := F5.below hb7 F5.lt
  clear hb7
  have hk3 : k3 = 0 := by
    have := HR3.out.rep
    rw [HG.out, hg0.out] at this
    exact nil_len this hl3.len.out
  subst hk3
  have hab := Nat.gcd_eq_zero_iff.1 hg0.out
  have ean : a.n = 0 := nil_len (by have : Rep 4294967296 a.xs a.val.natAbs := by rw [IV.abs]; exact ⟨HA.lim, rfl, (vld_top va).1⟩
                                    rw [hab.1] at this; exact this) HA.len.out
  have ebn : b.n = 0 := nil_len (by have : Rep 4294967296 b.xs b.val.natAbs := by rw [IV.abs]; exact ⟨HB.lim, rfl, (vld_top vb').1⟩
                                    rw [hab.2] at this; exact this) HB.len.out
  have san := Lib.hid (show (!a.neg && decide (a.n = 0)) = true by
    have h1 : (!a.neg) = true := by
      have := oa
      unfold IV.ok at this
      rwa [ivld_nil (HA.len.out.trans ean)] at this
    rw [h1, ean]; rfl)
  have sbn := Lib.hid (show (!b.neg && decide (b.n = 0)) = true by
    have h1 : (!b.neg) = true := by
      have := ob
      unfold IV.ok at this
      rwa [ivld_nil (HB.len.out.trans ebn)] at this
    rw [h1, ebn]; rfl)
  clear hab ean ebn
  rw [show (!false && decide (0 = 0)) = true from rfl]
  clear hl3 P3
  have t_PA0 : w7.cell? ⟨w.heap.size, 0, none⟩ = some ((.bool a.neg)) := PA.c0
  have t_PA1 : w7.cell? ⟨w.heap.size, 1, none⟩ = some ((.slice a.A a.n a.c)) := PA.c1
  go_wp2_with fail
  clear t_PA0 t_PA1
  (with_reducible refine (noInt_any _ a.neg a.A a.n a.c (by omega)).mono ?_)
  rintro e w8 ⟨rfl, hb8⟩
  have sw8 := hb8.size
  have E : Below w.heap.size w w8 := E.trans (hb8.mono E.size)
  have HA : LRd w8 (w.heap.size) a.A a.n a.c a.xs := HA.below hb8 (by omega)
  have HB : LRd w8 (w.heap.size) b.A b.n b.c b.xs := HB.below hb8 (by omega)
  have PA : Bk2 w8 (w.heap.size) (.bool a.neg) (.slice a.A a.n a.c) := PA.below hb8 PA.lt
  have PB : Bk2 w8 (w.heap.size + 1) (.bool b.neg) (.slice b.A b.n b.c) := PB.below hb8 PB.lt
  have F3 : Bk2 w8 (w3.heap.size + 1) (.int .i64 0) (.int .i64 0) := F3.below hb8 F3.lt
  have hl4 : LRd w8 (w4.heap.size) A4 k4 c4 x4 := hl4.below hb8 (by omega)
  have P4 : Bk2 w8 (w4.heap.size) (.bool n4) (.slice A4 k4 c4) := P4.below hb8 P4.lt
  have F4 : Bk2 w8 (w4.heap.size + 1) (.int .i64 0) (.int .i64 0) := F4.below hb8 F4.lt
  have F5 : Bk2 w8 (w5.heap.size + 1) (.int .i64 0) (.int .i64 0) := F5.below hb8 F5.lt
  clear hb8
  rw [san.out]
  have t_PB0 : w8.cell? ⟨w.heap.size + 1, 0, none⟩ = some ((.bool b.neg)) := PB.c0
  have t_PB1 : w8.cell? ⟨w.heap.size + 1, 1, none⟩ = some ((.slice b.A b.n b.c)) := PB.c1
  go_wp2_with fail
  clear t_PB0 t_PB1
  (with_reducible refine (noInt_any _ b.neg b.A b.n b.c (by omega)).mono ?_)
  rintro e w9 ⟨rfl, hb9⟩
  have sw9 := hb9.size
  have E : Below w.heap.size w w9 := E.trans (hb9.mono E.size)
  have HA : LRd w9 (w.heap.size) a.A a.n a.c a.xs := HA.below hb9 (by omega)
  have HB : LRd w9 (w.heap.size) b.A b.n b.c b.xs := HB.below hb9 (by omega)
  have PA : Bk2 w9 (w.heap.size) (.bool a.neg) (.slice a.A a.n a.c) := PA.below hb9 PA.lt
  have PB : Bk2 w9 (w.heap.size + 1) (.bool b.neg) (.slice b.A b.n b.c) := PB.below hb9 PB.lt
  have F3 : Bk2 w9 (w3.heap.size + 1) (.int .i64 0) (.int .i64 0) := F3.below hb9 F3.lt
  have hl4 : LRd w9 (w4.heap.size) A4 k4 c4 x4 := hl4.below hb9 (by omega)
  have P4 : Bk2 w9 (w4.heap.size) (.bool n4) (.slice A4 k4 c4) := P4.below hb9 P4.lt
  have F4 : Bk2 w9 (w4.heap.size + 1) (.int .i64 0) (.int .i64 0) := F4.below hb9 F4.lt
  have F5 : Bk2 w9 (w5.heap.size + 1) (.int .i64 0) (.int .i64 0) := F5.below hb9 F5.lt
  clear hb9
  rw [sbn.out]
  go_wp2_with fail
  all_goals go_ret
  all_goals exact ⟨by first | rfl | (simp; done), E⟩
set_option maxHeartbeats 4000000 in
theorem divs_some (w : World) (a b : IV) (HA : a.at w w.heap.size) (HB : b.at w w.heap.size) (oa : a.ok = true) (ob : b.ok = true) (ha60 : a.n ≤ 60) (hb60 : b.n ≤ 60) (hg0 : Hid (0 < Nat.gcd a.val.natAbs b.val.natAbs)) :
    Calls Try.prog 11 #[a.v, b.v] w (fun e w' => e = .returned (.bool true) ∧ Below w.heap.size w w') := by
  obtain ⟨va, la⟩ := IV.vld oa
  obtain ⟨vb', lb⟩ := IV.vld ob
  have pa := lt60 (⟨HA.lim, rfl, (vld_top va).1⟩ : Rep 4294967296 a.xs (vb 4294967296 a.xs)) HA.len.out ha60
  have pb := lt60 (⟨HB.lim, rfl, (vld_top vb').1⟩ : Rep 4294967296 b.xs (vb 4294967296 b.xs)) HB.len.out hb60
  rw [← IV.abs] at pa pb
  have HPA := Lib.hid pa
  have HPB := Lib.hid pb
  have hla : (a.n : Int) ≤ 60 := by omega
  have hlb : (b.n : Int) ≤ 60 := by omega
  clear pa pb
  have HA : LRd w w.heap.size a.A a.n a.c a.xs := HA
  have HB : LRd w w.heap.size b.A b.n b.c b.xs := HB
  have E : Below w.heap.size w w := Below.refl _ _
  have hfd := field_code
  go_enter Try.func11, Try.ntmps11
  go_wp2_with fail
  obtain ⟨V0, hV0⟩ : ∃ V0 : World, V0 = ((w.alloc (.cells #[.bool a.neg, .slice a.A a.n a.c] 24)).alloc (.cells #[.bool b.neg, .slice b.A b.n b.c] 24)) := ⟨_, rfl⟩
  have bV0 : Below w.heap.size w V0 := by rw [hV0]; (repeat (first | with_reducible exact Below.refl _ _ | with_reducible refine Below.drew ?_ | with_reducible refine below_drewN ?_ _ | with_reducible refine Below.setCell ?_ (by first | (simp; done) | (simp; omega) | omega) _ | with_reducible refine Below.alloc ?_ (by first | (simp; done) | (simp; omega) | omega) _))
  have zV0 : w.heap.size + 2 ≤ V0.heap.size := by rw [hV0]; simp
  have PA : Bk2 V0 (w.heap.size) (.bool a.neg) (.slice a.A a.n a.c) := by rw [hV0]; exact ((Bk2.newAt _ _ (by simp) _ _ _).alloc _)
  have PB : Bk2 V0 (w.heap.size + 1) (.bool b.neg) (.slice b.A b.n b.c) := by rw [hV0]; exact (Bk2.newAt _ _ (by simp) _ _ _)
  rw [← hV0]
  clear hV0
  have E : Below w.heap.size w V0 := E.trans (bV0.mono E.size)
  have HA : LRd V0 (w.heap.size) a.A a.n a.c a.xs := HA.below bV0 (by omega)
  have HB : LRd V0 (w.heap.size) b.A b.n b.c b.xs := HB.below bV0 (by omega)
  clear bV0
  (with_reducible refine (counts_any _).mono ?_)
  rintro e w1 ⟨rfl, hb1⟩
  have sw1 := hb1.size
  have E : Below w.heap.size w w1 := E.trans (hb1.mono E.size)
  have HA : LRd w1 (w.heap.size) a.A a.n a.c a.xs := HA.below hb1 (by omega)
  have HB : LRd w1 (w.heap.size) b.A b.n b.c b.xs := HB.below hb1 (by omega)
  have PA : Bk2 w1 (w.heap.size) (.bool a.neg) (.slice a.A a.n a.c) := PA.below hb1 PA.lt
  have PB : Bk2 w1 (w.heap.size + 1) (.bool b.neg) (.slice b.A b.n b.c) := PB.below hb1 PB.lt
  clear hb1
  have IR := Lib.hid (irow2 w1 w.heap.size a b HA HB (by omega))
  have p_PA0 : w1.cell? ⟨w.heap.size, 0, none⟩ = some ((.bool a.neg)) := PA.c0
  have p_PA1 : w1.cell? ⟨w.heap.size, 1, none⟩ = some ((.slice a.A a.n a.c)) := PA.c1
  have p_PB0 : w1.cell? ⟨w.heap.size + 1, 0, none⟩ = some ((.bool b.neg)) := PB.c0
  have p_PB1 : w1.cell? ⟨w.heap.size + 1, 1, none⟩ = some ((.slice b.A b.n b.c)) := PB.c1
  go_wp2_with fail
  clear p_PA0 p_PA1 p_PB0 p_PB1
  obtain ⟨V1, hV1⟩ : ∃ V1 : World, V1 = (w1.alloc (.cells #[.bool a.neg, .slice a.A a.n a.c, .bool b.neg, .slice b.A b.n b.c] 24)) := ⟨_, rfl⟩
  have bV1 : Below w1.heap.size w1 V1 := by rw [hV1]; (repeat (first | with_reducible exact Below.refl _ _ | with_reducible refine Below.drew ?_ | with_reducible refine below_drewN ?_ _ | with_reducible refine Below.setCell ?_ (by first | (simp; done) | (simp; omega) | omega) _ | with_reducible refine Below.alloc ?_ (by first | (simp; done) | (simp; omega) | omega) _))
  have zV1 : w1.heap.size + 1 ≤ V1.heap.size := by rw [hV1]; simp
  have IR : Hid (IRow V1 w.heap.size w1.heap.size [a, b]) := by rw [hV1]; exact IR
  rw [← hV1]
  clear hV1
  have E : Below w.heap.size w V1 := E.trans (bV1.mono E.size)
  have HA : LRd V1 (w.heap.size) a.A a.n a.c a.xs := HA.below bV1 (by omega)
  have HB : LRd V1 (w.heap.size) b.A b.n b.c b.xs := HB.below bV1 (by omega)
  have PA : Bk2 V1 (w.heap.size) (.bool a.neg) (.slice a.A a.n a.c) := PA.below bV1 PA.lt
  have PB : Bk2 V1 (w.heap.size + 1) (.bool b.neg) (.slice b.A b.n b.c) := PB.below bV1 PB.lt
  clear bV1
  (with_reducible refine (faults_any _ w.heap.size w1.heap.size 2 [a, b] IR.out rfl (by omega) (by omega)).mono ?_)
  rintro e w2 ⟨rfl, hb2⟩
  have sw2 := hb2.size
  have E : Below w.heap.size w w2 := E.trans (hb2.mono E.size)
  have HA : LRd w2 (w.heap.size) a.A a.n a.c a.xs := HA.below hb2 (by omega)
  have HB : LRd w2 (w.heap.size) b.A b.n b.c b.xs := HB.below hb2 (by omega)
  have PA : Bk2 w2 (w.heap.size) (.bool a.neg) (.slice a.A a.n a.c) := PA.below hb2 PA.lt
  have PB : Bk2 w2 (w.heap.size + 1) (.bool b.neg) (.slice b.A b.n b.c) := PB.below hb2 PB.lt
  clear hb2
  rw [two_ok oa ob]
  unfold flt
  clear IR
  have t0 := PA.c1
  have t1 := PB.c1
  have t2 := PA.c0
  have t3 := PB.c0
  go_wp2_with fail
  clear t0 t1 t2 t3
  refine (igcd_ok _ w.heap.size a b HA HB (by omega) oa ob).mono ?_
  rintro e w3 ⟨n3, A3, k3, c3, x3, rfl, hl3, hr3, hb3⟩
  have sw3 := hb3.size
  have E : Below w.heap.size w w3 := E.trans (hb3.mono E.size)
  have HA : LRd w3 (w.heap.size) a.A a.n a.c a.xs := HA.below hb3 (by omega)
  have HB : LRd w3 (w.heap.size) b.A b.n b.c b.xs := HB.below hb3 (by omega)
  have PA : Bk2 w3 (w.heap.size) (.bool a.neg) (.slice a.A a.n a.c) := PA.below hb3 PA.lt
  have PB : Bk2 w3 (w.heap.size + 1) (.bool b.neg) (.slice b.A b.n b.c) := PB.below hb3 PB.lt
  clear hb3
  rw [← IV.abs, ← IV.abs] at hr3
  obtain ⟨g, hg⟩ : ∃ g, g = Nat.gcd a.val.natAbs b.val.natAbs := ⟨_, rfl⟩
  rw [← hg] at hr3
  have hn3 : n3 = false := by rw [hr3.sgn]; simp
  subst hn3
  have HR3 := Lib.hid hr3
  have HG := Lib.hid hg
  have HGT := Lib.hid (show g < Top128 by
    rcases Nat.eq_zero_or_pos a.val.natAbs with e | e
    · rw [hg, e, Nat.gcd_zero_left]; exact t60 HPB.out
    · exact Nat.lt_of_le_of_lt (by rw [hg]; exact Nat.gcd_le_left _ e) (t60 HPA.out))
  clear hr3 hg
  have t_PA0 : ((w3.alloc (.cells #[.bool false, .slice A3 k3 c3] 24)).alloc (.cells #[.int .i64 0, .int .i64 0] 26)).cell? ⟨w.heap.size, 0, none⟩ = some ((.bool a.neg)) := ((PA.alloc _).alloc _).c0
  have t_PA1 : ((w3.alloc (.cells #[.bool false, .slice A3 k3 c3] 24)).alloc (.cells #[.int .i64 0, .int .i64 0] 26)).cell? ⟨w.heap.size, 1, none⟩ = some ((.slice a.A a.n a.c)) := ((PA.alloc _).alloc _).c1
  have t_PB0 : ((w3.alloc (.cells #[.bool false, .slice A3 k3 c3] 24)).alloc (.cells #[.int .i64 0, .int .i64 0] 26)).cell? ⟨w.heap.size + 1, 0, none⟩ = some ((.bool b.neg)) := ((PB.alloc _).alloc _).c0
  have t_PB1 : ((w3.alloc (.cells #[.bool false, .slice A3 k3 c3] 24)).alloc (.cells #[.int .i64 0, .int .i64 0] 26)).cell? ⟨w.heap.size + 1, 1, none⟩ = some ((.slice b.A b.n b.c)) := ((PB.alloc _).alloc _).c1
  go_wp2_with fail
  clear t_PA0 t_PA1 t_PB0 t_PB1
  obtain ⟨V2, hV2⟩ : ∃ V2 : World, V2 = ((w3.alloc (.cells #[.bool false, .slice A3 k3 c3] 24)).alloc (.cells #[.int .i64 0, .int .i64 0] 26)) := ⟨_, rfl⟩
  have bV2 : Below w3.heap.size w3 V2 := by rw [hV2]; (repeat (first | with_reducible exact Below.refl _ _ | with_reducible refine Below.drew ?_ | with_reducible refine below_drewN ?_ _ | with_reducible refine Below.setCell ?_ (by first | (simp; done) | (simp; omega) | omega) _ | with_reducible refine Below.alloc ?_ (by first | (simp; done) | (simp; omega) | omega) _))
  have zV2 : w3.heap.size + 2 ≤ V2.heap.size := by rw [hV2]; simp
  have P3 : Bk2 V2 (w3.heap.size) (.bool false) (.slice A3 k3 c3) := by rw [hV2]; exact ((Bk2.newAt _ _ (by simp) _ _ _).alloc _)
  have F3 : Bk2 V2 (w3.heap.size + 1) (.int .i64 0) (.int .i64 0) := by rw [hV2]; exact (Bk2.newAt _ _ (by simp) _ _ _)
  rw [← hV2]
  clear hV2
  have E : Below w.heap.size w V2 := E.trans (bV2.mono E.size)
  have HA : LRd V2 (w.heap.size) a.A a.n a.c a.xs := HA.below bV2 (by omega)
  have HB : LRd V2 (w.heap.size) b.A b.n b.c b.xs := HB.below bV2 (by omega)
  have PA : Bk2 V2 (w.heap.size) (.bool a.neg) (.slice a.A a.n a.c) := PA.below bV2 PA.lt
  have PB : Bk2 V2 (w.heap.size + 1) (.bool b.neg) (.slice b.A b.n b.c) := PB.below bV2 PB.lt
  have hl3 : LRd V2 (w3.heap.size) A3 k3 c3 x3 := hl3.below bV2 (by omega)
  clear bV2
  have HS := Lib.hid (isub_ok _ w.heap.size a b HA HB (by omega) oa ob)
  refine HS.out.mono ?_
  intro e w4 hgv
  rw [neg_sub] at hgv
  clear HS
  obtain ⟨n4, A4, k4, c4, x4, rfl, hl4, hr4, hb4⟩ := (hgv.resolve_right (fun hh => absurd hh.1 (by
    have h1 := sum60 HPA.out HPB.out
    have h2 : (a.val - b.val).natAbs ≤ a.val.natAbs + b.val.natAbs := by omega
    omega))).2
  clear hgv
  have sw4 := hb4.size
  have E : Below w.heap.size w w4 := E.trans (hb4.mono E.size)
  have HA : LRd w4 (w.heap.size) a.A a.n a.c a.xs := HA.below hb4 (by omega)
  have HB : LRd w4 (w.heap.size) b.A b.n b.c b.xs := HB.below hb4 (by omega)
  have PA : Bk2 w4 (w.heap.size) (.bool a.neg) (.slice a.A a.n a.c) := PA.below hb4 PA.lt
  have PB : Bk2 w4 (w.heap.size + 1) (.bool b.neg) (.slice b.A b.n b.c) := PB.below hb4 PB.lt
  have hl3 : LRd w4 (w3.heap.size) A3 k3 c3 x3 := hl3.below hb4 (by omega)
  have P3 : Bk2 w4 (w3.heap.size) (.bool false) (.slice A3 k3 c3) := P3.below hb4 P3.lt
  have F3 : Bk2 w4 (w3.heap.size + 1) (.int .i64 0) (.int .i64 0) := F3.below hb4 F3.lt
  clear hb4
  have o4 := Lib.hid (hr4.iok (show (a.val - b.val).natAbs < Top128 by
    have h1 := sum60 HPA.out HPB.out
    have h2 : (a.val - b.val).natAbs ≤ a.val.natAbs + b.val.natAbs := by omega
    omega))
  have v4 := Lib.hid (hr4.ival (A := A4) (n := k4) (c := c4))
  clear hr4
  have t_PB0 : ((w4.alloc (.cells #[.bool n4, .slice A4 k4 c4] 24)).alloc (.cells #[.int .i64 0, .int .i64 0] 26)).cell? ⟨w.heap.size + 1, 0, none⟩ = some ((.bool b.neg)) := ((PB.alloc _).alloc _).c0
  have t_PB1 : ((w4.alloc (.cells #[.bool n4, .slice A4 k4 c4] 24)).alloc (.cells #[.int .i64 0, .int .i64 0] 26)).cell? ⟨w.heap.size + 1, 1, none⟩ = some ((.slice b.A b.n b.c)) := ((PB.alloc _).alloc _).c1
  go_wp2_with fail
  clear t_PB0 t_PB1
  obtain ⟨V3, hV3⟩ : ∃ V3 : World, V3 = ((w4.alloc (.cells #[.bool n4, .slice A4 k4 c4] 24)).alloc (.cells #[.int .i64 0, .int .i64 0] 26)) := ⟨_, rfl⟩
  have bV3 : Below w4.heap.size w4 V3 := by rw [hV3]; (repeat (first | with_reducible exact Below.refl _ _ | with_reducible refine Below.drew ?_ | with_reducible refine below_drewN ?_ _ | with_reducible refine Below.setCell ?_ (by first | (simp; done) | (simp; omega) | omega) _ | with_reducible refine Below.alloc ?_ (by first | (simp; done) | (simp; omega) | omega) _))
  have zV3 : w4.heap.size + 2 ≤ V3.heap.size := by rw [hV3]; simp
  have P4 : Bk2 V3 (w4.heap.size) (.bool n4) (.slice A4 k4 c4) := by rw [hV3]; exact ((Bk2.newAt _ _ (by simp) _ _ _).alloc _)
  have F4 : Bk2 V3 (w4.heap.size + 1) (.int .i64 0) (.int .i64 0) := by rw [hV3]; exact (Bk2.newAt _ _ (by simp) _ _ _)
  rw [← hV3]
  clear hV3
  have E : Below w.heap.size w V3 := E.trans (bV3.mono E.size)
  have HA : LRd V3 (w.heap.size) a.A a.n a.c a.xs := HA.below bV3 (by omega)
  have HB : LRd V3 (w.heap.size) b.A b.n b.c b.xs := HB.below bV3 (by omega)
  have PA : Bk2 V3 (w.heap.size) (.bool a.neg) (.slice a.A a.n a.c) := PA.below bV3 PA.lt
  have PB : Bk2 V3 (w.heap.size + 1) (.bool b.neg) (.slice b.A b.n b.c) := PB.below bV3 PB.lt
  have hl3 : LRd V3 (w3.heap.size) A3 k3 c3 x3 := hl3.below bV3 (by omega)
  have P3 : Bk2 V3 (w3.heap.size) (.bool false) (.slice A3 k3 c3) := P3.below bV3 P3.lt
  have F3 : Bk2 V3 (w3.heap.size + 1) (.int .i64 0) (.int .i64 0) := F3.below bV3 F3.lt
  have hl4 : LRd V3 (w4.heap.size) A4 k4 c4 x4 := hl4.below bV3 (by omega)
  clear bV3
  refine (igcd_ok _ V3.heap.size (IV.mk n4 A4 k4 c4 x4) b (LRd.more hl4 (by omega) : LRd _ _ A4 k4 c4 x4) (LRd.more HB (by omega) : LRd _ _ b.A b.n b.c b.xs) (Nat.le_refl _) o4.out ob).mono ?_
  rintro e w5 ⟨n5, A5, k5, c5, x5, rfl, hl5, hr5, hb5⟩
  have sw5 := hb5.size
  have E : Below w.heap.size w w5 := E.trans (hb5.mono E.size)
  have HA : LRd w5 (w.heap.size) a.A a.n a.c a.xs := HA.below hb5 (by omega)
  have HB : LRd w5 (w.heap.size) b.A b.n b.c b.xs := HB.below hb5 (by omega)
  have PA : Bk2 w5 (w.heap.size) (.bool a.neg) (.slice a.A a.n a.c) := PA.below hb5 PA.lt
  have PB : Bk2 w5 (w.heap.size + 1) (.bool b.neg) (.slice b.A b.n b.c) := PB.below hb5 PB.lt
  have hl3 : LRd w5 (w3.heap.size) A3 k3 c3 x3 := hl3.below hb5 (by omega)
  have P3 : Bk2 w5 (w3.heap.size) (.bool false) (.slice A3 k3 c3) := P3.below hb5 P3.lt
  have F3 : Bk2 w5 (w3.heap.size + 1) (.int .i64 0) (.int .i64 0) := F3.below hb5 F3.lt
  have hl4 : LRd w5 (w4.heap.size) A4 k4 c4 x4 := hl4.below hb5 (by omega)
  have P4 : Bk2 w5 (w4.heap.size) (.bool n4) (.slice A4 k4 c4) := P4.below hb5 P4.lt
  have F4 : Bk2 w5 (w4.heap.size + 1) (.int .i64 0) (.int .i64 0) := F4.below hb5 F4.lt
  clear hb5
  rw [← IV.abs, ← IV.abs, v4.out, dv_sub, ← HG.out] at hr5
  have hn5 : n5 = false := by rw [hr5.sgn]; simp
  subst hn5
  obtain rfl : x3 = x5 := HR3.out.rep.unique (by decide) hr5.rep
  clear hr5 v4 o4
  have t_F30 : ((w5.alloc (.cells #[.bool false, .slice A5 k5 c5] 24)).alloc (.cells #[.int .i64 0, .int .i64 0] 26)).cell? ⟨w3.heap.size + 1, 0, none⟩ = some ((.int .i64 0)) := ((F3.alloc _).alloc _).c0
  have t_F31 : ((w5.alloc (.cells #[.bool false, .slice A5 k5 c5] 24)).alloc (.cells #[.int .i64 0, .int .i64 0] 26)).cell? ⟨w3.heap.size + 1, 1, none⟩ = some ((.int .i64 0)) := ((F3.alloc _).alloc _).c1
  have t_F40 : ((w5.alloc (.cells #[.bool false, .slice A5 k5 c5] 24)).alloc (.cells #[.int .i64 0, .int .i64 0] 26)).cell? ⟨w4.heap.size + 1, 0, none⟩ = some ((.int .i64 0)) := ((F4.alloc _).alloc _).c0
  have t_F41 : ((w5.alloc (.cells #[.bool false, .slice A5 k5 c5] 24)).alloc (.cells #[.int .i64 0, .int .i64 0] 26)).cell? ⟨w4.heap.size + 1, 1, none⟩ = some ((.int .i64 0)) := ((F4.alloc _).alloc _).c1
  have t_P30 : ((w5.alloc (.cells #[.bool false, .slice A5 k5 c5] 24)).alloc (.cells #[.int .i64 0, .int .i64 0] 26)).cell? ⟨w3.heap.size, 0, none⟩ = some ((.bool false)) := ((P3.alloc _).alloc _).c0
  have t_P31 : ((w5.alloc (.cells #[.bool false, .slice A5 k5 c5] 24)).alloc (.cells #[.int .i64 0, .int .i64 0] 26)).cell? ⟨w3.heap.size, 1, none⟩ = some ((.slice A3 k3 c3)) := ((P3.alloc _).alloc _).c1
  go_wp2_with fail
  clear t_F30 t_F31 t_F40 t_F41 t_P30 t_P31
  obtain ⟨V4, hV4⟩ : ∃ V4 : World, V4 = ((w5.alloc (.cells #[.bool false, .slice A5 k5 c5] 24)).alloc (.cells #[.int .i64 0, .int .i64 0] 26)) := ⟨_, rfl⟩
  have bV4 : Below w5.heap.size w5 V4 := by rw [hV4]; (repeat (first | with_reducible exact Below.refl _ _ | with_reducible refine Below.drew ?_ | with_reducible refine below_drewN ?_ _ | with_reducible refine Below.setCell ?_ (by first | (simp; done) | (simp; omega) | omega) _ | with_reducible refine Below.alloc ?_ (by first | (simp; done) | (simp; omega) | omega) _))
  have zV4 : w5.heap.size + 2 ≤ V4.heap.size := by rw [hV4]; simp
  have P5 : Bk2 V4 (w5.heap.size) (.bool false) (.slice A5 k5 c5) := by rw [hV4]; exact ((Bk2.newAt _ _ (by simp) _ _ _).alloc _)
  have F5 : Bk2 V4 (w5.heap.size + 1) (.int .i64 0) (.int .i64 0) := by rw [hV4]; exact (Bk2.newAt _ _ (by simp) _ _ _)
  rw [← hV4]
  clear hV4
  have E : Below w.heap.size w V4 := E.trans (bV4.mono E.size)
  have HA : LRd V4 (w.heap.size) a.A a.n a.c a.xs := HA.below bV4 (by omega)
  have HB : LRd V4 (w.heap.size) b.A b.n b.c b.xs := HB.below bV4 (by omega)
  have PA : Bk2 V4 (w.heap.size) (.bool a.neg) (.slice a.A a.n a.c) := PA.below bV4 PA.lt
  have PB : Bk2 V4 (w.heap.size + 1) (.bool b.neg) (.slice b.A b.n b.c) := PB.below bV4 PB.lt
  have hl3 : LRd V4 (w3.heap.size) A3 k3 c3 x3 := hl3.below bV4 (by omega)
  have P3 : Bk2 V4 (w3.heap.size) (.bool false) (.slice A3 k3 c3) := P3.below bV4 P3.lt
  have F3 : Bk2 V4 (w3.heap.size + 1) (.int .i64 0) (.int .i64 0) := F3.below bV4 F3.lt
  have hl4 : LRd V4 (w4.heap.size) A4 k4 c4 x4 := hl4.below bV4 (by omega)
  have P4 : Bk2 V4 (w4.heap.size) (.bool n4) (.slice A4 k4 c4) := P4.below bV4 P4.lt
  have F4 : Bk2 V4 (w4.heap.size + 1) (.int .i64 0) (.int .i64 0) := F4.below bV4 F4.lt
  have hl5 : LRd V4 (w5.heap.size) A5 k5 c5 x3 := hl5.below bV4 (by omega)
  clear bV4
  (with_reducible refine (sameInts_any _ V4.heap.size false false A5 A3 k5 k3 c5 c3 x3 x3 (hl5.more (by omega)) (hl3.more (by omega)) (Nat.le_refl _)).mono ?_)
  rintro e w6 ⟨rfl, hb6⟩
  have sw6 := hb6.size
  have E : Below w.heap.size w w6 := E.trans (hb6.mono E.size)
  have HA : LRd w6 (w.heap.size) a.A a.n a.c a.xs := HA.below hb6 (by omega)
  have HB : LRd w6 (w.heap.size) b.A b.n b.c b.xs := HB.below hb6 (by omega)
  have PA : Bk2 w6 (w.heap.size) (.bool a.neg) (.slice a.A a.n a.c) := PA.below hb6 PA.lt
  have PB : Bk2 w6 (w.heap.size + 1) (.bool b.neg) (.slice b.A b.n b.c) := PB.below hb6 PB.lt
  have hl3 : LRd w6 (w3.heap.size) A3 k3 c3 x3 := hl3.below hb6 (by omega)
  have P3 : Bk2 w6 (w3.heap.size) (.bool false) (.slice A3 k3 c3) := P3.below hb6 P3.lt
  have F3 : Bk2 w6 (w3.heap.size + 1) (.int .i64 0) (.int .i64 0) := F3.below hb6 F3.lt
  have hl4 : LRd w6 (w4.heap.size) A4 k4 c4 x4 := hl4.below hb6 (by omega)
  have P4 : Bk2 w6 (w4.heap.size) (.bool n4) (.slice A4 k4 c4) := P4.below hb6 P4.lt
  have F4 : Bk2 w6 (w4.heap.size + 1) (.int .i64 0) (.int .i64 0) := F4.below hb6 F4.lt
  have hl5 : LRd w6 (w5.heap.size) A5 k5 c5 x3 := hl5.below hb6 (by omega)
  have P5 : Bk2 w6 (w5.heap.size) (.bool false) (.slice A5 k5 c5) := P5.below hb6 P5.lt
  have F5 : Bk2 w6 (w5.heap.size + 1) (.int .i64 0) (.int .i64 0) := F5.below hb6 F5.lt
  clear hb6
  rw [show (decide (false = false) && sameB x3 x3) = true by rw [sameB_refl]; rfl]
  clear hl5 P5
  have t_P30 : w6.cell? ⟨w3.heap.size, 0, none⟩ = some ((.bool false)) := P3.c0
  have t_P31 : w6.cell? ⟨w3.heap.size, 1, none⟩ = some ((.slice A3 k3 c3)) := P3.c1
  go_wp2_with fail
  clear t_P30 t_P31
  have hcap3 := hl3.cap
  (with_reducible refine (noInt_any _ false A3 k3 c3 (by omega)).mono ?_)
  rintro e w7 ⟨rfl, hb7⟩
  have sw7 := hb7.size
  have E : Below w.heap.size w w7 := E.trans (hb7.mono E.size)
  have HA : LRd w7 (w.heap.size) a.A a.n a.c a.xs := HA.below hb7 (by omega)
  have HB : LRd w7 (w.heap.size) b.A b.n b.c b.xs := HB.below hb7 (by omega)
  have PA : Bk2 w7 (w.heap.size) (.bool a.neg) (.slice a.A a.n a.c) := PA.below hb7 PA.lt
  have PB : Bk2 w7 (w.heap.size + 1) (.bool b.neg) (.slice b.A b.n b.c) := PB.below hb7 PB.lt
  have hl3 : LRd w7 (w3.heap.size) A3 k3 c3 x3 := hl3.below hb7 (by omega)
  have P3 : Bk2 w7 (w3.heap.size) (.bool false) (.slice A3 k3 c3) := P3.below hb7 P3.lt
  have F3 : Bk2 w7 (w3.heap.size + 1) (.int .i64 0) (.int .i64 0) := F3.below hb7 F3.lt
  have hl4 : LRd w7 (w4.heap.size) A4 k4 c4 x4 := hl4.below hb7 (by omega)
  have P4 : Bk2 w7 (w4.heap.size) (.bool n4) (.slice A4 k4 c4) := P4.below hb7 P4.lt
  have F4 : Bk2 w7 (w4.heap.size + 1) (.int .i64 0) (.int .i64 0) := F4.below hb7 F4.lt
  have F5 : Bk2 w7 (w5.heap.size + 1) (.int .i64 0) (.int .i64 0) := F5.below hb7 F5.lt
  clear hb7
  have hk3 : k3 ≠ 0 := fun e => by
    have h1 := HR3.out.rep.val
    rw [List.eq_nil_of_length_eq_zero (hl3.len.out.trans e), vb_nil] at h1
    have h2 := hg0.out
    rw [← HG.out] at h2
    omega
  have hg1 := Lib.hid (show 0 < g by rw [HG.out]; exact hg0.out)
  have o3 := Lib.hid (HR3.out.iok (show ((g : Int)).natAbs < Top128 by have := HGT.out; simpa using this))
  have v3 := Lib.hid (HR3.out.ival (A := A3) (n := k3) (c := c3))
  have p3 : 0 < k3 := by omega
  have hga := Lib.hid (show (g : Int) ∣ a.val by rw [HG.out]; exact Int.gcd_dvd_left _ _)
  have hgb := Lib.hid (show (g : Int) ∣ b.val by rw [HG.out]; exact Int.gcd_dvd_right _ _)
  rw [show (!false && decide (k3 = 0)) = false by simp [hk3]]
  clear hk3
  have t_PA0 : w7.cell? ⟨w.heap.size, 0, none⟩ = some ((.bool a.neg)) := PA.c0
  have t_PA1 : w7.cell? ⟨w.heap.size, 1, none⟩ = some ((.slice a.A a.n a.c)) := PA.c1
  have t_P30 : w7.cell? ⟨w3.heap.size, 0, none⟩ = some ((.bool false)) := P3.c0
  have t_P31 : w7.cell? ⟨w3.heap.size, 1, none⟩ = some ((.slice A3 k3 c3)) := P3.c1
  go_wp2_with fail
  clear t_PA0 t_PA1 t_P30 t_P31
  refine (idivmod_ok _ w7.heap.size a (IV.mk false A3 k3 c3 x3) (LRd.more HA (by omega) : LRd _ _ a.A a.n a.c a.xs) (LRd.more hl3 (by omega) : LRd _ _ A3 k3 c3 x3) (Nat.le_refl _) oa o3.out p3).mono ?_
  rintro e w8 ⟨Q8, R8, hf8, n8, A8, k8, c8, x8, m8, D8, l8, d8, y8, rfl, hl8, hr8, hk8, hs8, hb8⟩
  have sw8 := hb8.size
  have E : Below w.heap.size w w8 := E.trans (hb8.mono E.size)
  have HA : LRd w8 (w.heap.size) a.A a.n a.c a.xs := HA.below hb8 (by omega)
  have HB : LRd w8 (w.heap.size) b.A b.n b.c b.xs := HB.below hb8 (by omega)
  have PA : Bk2 w8 (w.heap.size) (.bool a.neg) (.slice a.A a.n a.c) := PA.below hb8 PA.lt
  have PB : Bk2 w8 (w.heap.size + 1) (.bool b.neg) (.slice b.A b.n b.c) := PB.below hb8 PB.lt
  have hl3 : LRd w8 (w3.heap.size) A3 k3 c3 x3 := hl3.below hb8 (by omega)
  have P3 : Bk2 w8 (w3.heap.size) (.bool false) (.slice A3 k3 c3) := P3.below hb8 P3.lt
  have F3 : Bk2 w8 (w3.heap.size + 1) (.int .i64 0) (.int .i64 0) := F3.below hb8 F3.lt
  have hl4 : LRd w8 (w4.heap.size) A4 k4 c4 x4 := hl4.below hb8 (by omega)
  have P4 : Bk2 w8 (w4.heap.size) (.bool n4) (.slice A4 k4 c4) := P4.below hb8 P4.lt
  have F4 : Bk2 w8 (w4.heap.size + 1) (.int .i64 0) (.int .i64 0) := F4.below hb8 F4.lt
  have F5 : Bk2 w8 (w5.heap.size + 1) (.int .i64 0) (.int .i64 0) := F5.below hb8 F5.lt
  clear hb8
  rw [v3.out] at hf8
  obtain ⟨rfl, hq8⟩ := dv_zero hf8 hga.out (by have := hg1.out; omega)
  have HQ8 := Lib.hid hq8
  obtain rfl : l8 = 0 := nil_len (by have := hs8.rep; simpa using this) hk8.len.out
  obtain rfl : m8 = false := by rw [hs8.sgn]; rfl
  have HR8 := Lib.hid hr8
  have o8 := Lib.hid (hr8.iok (show Q8.natAbs < Top128 by
    have h1 := t60 HPA.out
    rw [hq8, Int.natAbs_mul, Int.natAbs_natCast] at h1
    have h2 : Q8.natAbs * 1 ≤ Q8.natAbs * g := Nat.mul_le_mul_left _ hg1.out
    omega))
  have v8 := Lib.hid (hr8.ival (A := A8) (n := k8) (c := c8))
  have hcc8 := hk8.cap
  clear hf8 hq8 hr8 hs8 hk8
  have t_PB0 : ((w8.alloc (.cells #[.bool n8, .slice A8 k8 c8] 24)).alloc (.cells #[.bool false, .slice D8 0 d8] 24)).cell? ⟨w.heap.size + 1, 0, none⟩ = some ((.bool b.neg)) := ((PB.alloc _).alloc _).c0
  have t_PB1 : ((w8.alloc (.cells #[.bool n8, .slice A8 k8 c8] 24)).alloc (.cells #[.bool false, .slice D8 0 d8] 24)).cell? ⟨w.heap.size + 1, 1, none⟩ = some ((.slice b.A b.n b.c)) := ((PB.alloc _).alloc _).c1
  have t_P30 : ((w8.alloc (.cells #[.bool n8, .slice A8 k8 c8] 24)).alloc (.cells #[.bool false, .slice D8 0 d8] 24)).cell? ⟨w3.heap.size, 0, none⟩ = some ((.bool false)) := ((P3.alloc _).alloc _).c0
  have t_P31 : ((w8.alloc (.cells #[.bool n8, .slice A8 k8 c8] 24)).alloc (.cells #[.bool false, .slice D8 0 d8] 24)).cell? ⟨w3.heap.size, 1, none⟩ = some ((.slice A3 k3 c3)) := ((P3.alloc _).alloc _).c1
  have y_F30 : ((w8.alloc (.cells #[.bool n8, .slice A8 k8 c8] 24)).alloc (.cells #[.bool false, .slice D8 0 d8] 24)).cell? ⟨w3.heap.size + 1, 0, none⟩ = some ((.int .i64 0)) := ((F3.alloc _).alloc _).c0
  have z_F30 : ((w8.alloc (.cells #[.bool n8, .slice A8 k8 c8] 24)).alloc (.cells #[.bool false, .slice D8 0 d8] 24)).frozen? ⟨w3.heap.size + 1, 0, none⟩ = false := ((F3.alloc _).alloc _).z0
  have y_F31 : ((w8.alloc (.cells #[.bool n8, .slice A8 k8 c8] 24)).alloc (.cells #[.bool false, .slice D8 0 d8] 24)).cell? ⟨w3.heap.size + 1, 1, none⟩ = some ((.int .i64 0)) := ((F3.alloc _).alloc _).c1
  have z_F31 : ((w8.alloc (.cells #[.bool n8, .slice A8 k8 c8] 24)).alloc (.cells #[.bool false, .slice D8 0 d8] 24)).frozen? ⟨w3.heap.size + 1, 1, none⟩ = false := ((F3.alloc _).alloc _).z1
  go_wp2_with fail
  clear t_PB0 t_PB1 t_P30 t_P31 y_F30 z_F30 y_F31 z_F31
  obtain ⟨V7, hV7⟩ : ∃ V7 : World, V7 = ((w8.alloc (.cells #[.bool n8, .slice A8 k8 c8] 24)).alloc (.cells #[.bool false, .slice D8 0 d8] 24)) := ⟨_, rfl⟩
  have bV7 : Below w8.heap.size w8 V7 := by rw [hV7]; (repeat (first | with_reducible exact Below.refl _ _ | with_reducible refine Below.drew ?_ | with_reducible refine below_drewN ?_ _ | with_reducible refine Below.setCell ?_ (by first | (simp; done) | (simp; omega) | omega) _ | with_reducible refine Below.alloc ?_ (by first | (simp; done) | (simp; omega) | omega) _))
  have zV7 : w8.heap.size + 2 ≤ V7.heap.size := by rw [hV7]; simp
  have P8 : Bk2 V7 (w8.heap.size) (.bool n8) (.slice A8 k8 c8) := by rw [hV7]; exact ((Bk2.newAt _ _ (by simp) _ _ _).alloc _)
  have R8 : Bk2 V7 (w8.heap.size + 1) (.bool false) (.slice D8 0 d8) := by rw [hV7]; exact (Bk2.newAt _ _ (by simp) _ _ _)
  rw [← hV7]
  clear hV7
  have E : Below w.heap.size w V7 := E.trans (bV7.mono E.size)
  have HA : LRd V7 (w.heap.size) a.A a.n a.c a.xs := HA.below bV7 (by omega)
  have HB : LRd V7 (w.heap.size) b.A b.n b.c b.xs := HB.below bV7 (by omega)
  have PA : Bk2 V7 (w.heap.size) (.bool a.neg) (.slice a.A a.n a.c) := PA.below bV7 PA.lt
  have PB : Bk2 V7 (w.heap.size + 1) (.bool b.neg) (.slice b.A b.n b.c) := PB.below bV7 PB.lt
  have hl3 : LRd V7 (w3.heap.size) A3 k3 c3 x3 := hl3.below bV7 (by omega)
  have P3 : Bk2 V7 (w3.heap.size) (.bool false) (.slice A3 k3 c3) := P3.below bV7 P3.lt
  have F3 : Bk2 V7 (w3.heap.size + 1) (.int .i64 0) (.int .i64 0) := F3.below bV7 F3.lt
  have hl4 : LRd V7 (w4.heap.size) A4 k4 c4 x4 := hl4.below bV7 (by omega)
  have P4 : Bk2 V7 (w4.heap.size) (.bool n4) (.slice A4 k4 c4) := P4.below bV7 P4.lt
  have F4 : Bk2 V7 (w4.heap.size + 1) (.int .i64 0) (.int .i64 0) := F4.below bV7 F4.lt
  have F5 : Bk2 V7 (w5.heap.size + 1) (.int .i64 0) (.int .i64 0) := F5.below bV7 F5.lt
  have hl8 : LRd V7 (w8.heap.size) A8 k8 c8 x8 := hl8.below bV7 (by omega)
  clear bV7
  obtain ⟨U7F3, hU7F3⟩ : ∃ U7F3 : World, U7F3 = ((V7.setCell ⟨w3.heap.size + 1, 0, none⟩ (.int .i64 0)).setCell ⟨w3.heap.size + 1, 1, none⟩ (.int .i64 0)) := ⟨_, rfl⟩
  have zU7F3 : U7F3.heap.size = V7.heap.size := by rw [hU7F3]; simp [World.setCell]
  have E : Below w.heap.size w U7F3 := by rw [hU7F3]; exact (E.setCell (by first | omega | (simp; omega)) _).setCell (by first | omega | (simp; omega)) _
  have HA : LRd U7F3 (w.heap.size) a.A a.n a.c a.xs := by rw [hU7F3]; exact HA.setB F3 (by simp) (by simp) _ _
  have HB : LRd U7F3 (w.heap.size) b.A b.n b.c b.xs := by rw [hU7F3]; exact HB.setB F3 (by simp) (by simp) _ _
  have PA : Bk2 U7F3 (w.heap.size) (.bool a.neg) (.slice a.A a.n a.c) := by rw [hU7F3]; exact PA.far2 (by omega) _ _
  have PB : Bk2 U7F3 (w.heap.size + 1) (.bool b.neg) (.slice b.A b.n b.c) := by rw [hU7F3]; exact PB.far2 (by omega) _ _
  have hl3 : LRd U7F3 (w3.heap.size) A3 k3 c3 x3 := by rw [hU7F3]; exact hl3.setB F3 (by simp) (by simp) _ _
  have P3 : Bk2 U7F3 (w3.heap.size) (.bool false) (.slice A3 k3 c3) := by rw [hU7F3]; exact P3.far2 (by omega) _ _
  have hl4 : LRd U7F3 (w4.heap.size) A4 k4 c4 x4 := by rw [hU7F3]; exact hl4.setB F3 (by simp) (by simp) _ _
  have P4 : Bk2 U7F3 (w4.heap.size) (.bool n4) (.slice A4 k4 c4) := by rw [hU7F3]; exact P4.far2 (by omega) _ _
  have F4 : Bk2 U7F3 (w4.heap.size + 1) (.int .i64 0) (.int .i64 0) := by rw [hU7F3]; exact F4.far2 (by omega) _ _
  have F5 : Bk2 U7F3 (w5.heap.size + 1) (.int .i64 0) (.int .i64 0) := by rw [hU7F3]; exact F5.far2 (by omega) _ _
  have hl8 : LRd U7F3 (w8.heap.size) A8 k8 c8 x8 := by rw [hU7F3]; exact hl8.setB F3 (by simp) (by simp) _ _
  have P8 : Bk2 U7F3 (w8.heap.size) (.bool n8) (.slice A8 k8 c8) := by rw [hU7F3]; exact P8.far2 (by omega) _ _
  have R8 : Bk2 U7F3 (w8.heap.size + 1) (.bool false) (.slice D8 0 d8) := by rw [hU7F3]; exact R8.far2 (by omega) _ _
  have F3 : Bk2 U7F3 (w3.heap.size + 1) (.int .i64 0) (.int .i64 0) := by rw [hU7F3]; exact F3.set _ _
  rw [← hU7F3]
  clear hU7F3
  have zU7F3 := Nat.le_of_eq zU7F3.symm
  refine (idivmod_ok _ U7F3.heap.size b (IV.mk false A3 k3 c3 x3) (LRd.more HB (by omega) : LRd _ _ b.A b.n b.c b.xs) (LRd.more hl3 (by omega) : LRd _ _ A3 k3 c3 x3) (Nat.le_refl _) ob o3.out p3).mono ?_
  rintro e w9 ⟨Q9, R9, hf9, n9, A9, k9, c9, x9, m9, D9, l9, d9, y9, rfl, hl9, hr9, hk9, hs9, hb9⟩
  have sw9 := hb9.size
  have E : Below w.heap.size w w9 := E.trans (hb9.mono E.size)
  have HA : LRd w9 (w.heap.size) a.A a.n a.c a.xs := HA.below hb9 (by omega)
  have HB : LRd w9 (w.heap.size) b.A b.n b.c b.xs := HB.below hb9 (by omega)
  have PA : Bk2 w9 (w.heap.size) (.bool a.neg) (.slice a.A a.n a.c) := PA.below hb9 PA.lt
  have PB : Bk2 w9 (w.heap.size + 1) (.bool b.neg) (.slice b.A b.n b.c) := PB.below hb9 PB.lt
  have hl3 : LRd w9 (w3.heap.size) A3 k3 c3 x3 := hl3.below hb9 (by omega)
  have P3 : Bk2 w9 (w3.heap.size) (.bool false) (.slice A3 k3 c3) := P3.below hb9 P3.lt
  have F3 : Bk2 w9 (w3.heap.size + 1) (.int .i64 0) (.int .i64 0) := F3.below hb9 F3.lt
  have hl4 : LRd w9 (w4.heap.size) A4 k4 c4 x4 := hl4.below hb9 (by omega)
  have P4 : Bk2 w9 (w4.heap.size) (.bool n4) (.slice A4 k4 c4) := P4.below hb9 P4.lt
  have F4 : Bk2 w9 (w4.heap.size + 1) (.int .i64 0) (.int .i64 0) := F4.below hb9 F4.lt
  have F5 : Bk2 w9 (w5.heap.size + 1) (.int .i64 0) (.int .i64 0) := F5.below hb9 F5.lt
  have hl8 : LRd w9 (w8.heap.size) A8 k8 c8 x8 := hl8.below hb9 (by omega)
  have P8 : Bk2 w9 (w8.heap.size) (.bool n8) (.slice A8 k8 c8) := P8.below hb9 P8.lt
  have R8 : Bk2 w9 (w8.heap.size + 1) (.bool false) (.slice D8 0 d8) := R8.below hb9 R8.lt
  clear hb9
  rw [v3.out] at hf9
  obtain ⟨rfl, hq9⟩ := dv_zero hf9 hgb.out (by have := hg1.out; omega)
  have HQ9 := Lib.hid hq9
  obtain rfl : l9 = 0 := nil_len (by have := hs9.rep; simpa using this) hk9.len.out
  obtain rfl : m9 = false := by rw [hs9.sgn]; rfl
  have HR9 := Lib.hid hr9
  have o9 := Lib.hid (hr9.iok (show Q9.natAbs < Top128 by
    have h1 := t60 HPB.out
    rw [hq9, Int.natAbs_mul, Int.natAbs_natCast] at h1
    have h2 : Q9.natAbs * 1 ≤ Q9.natAbs * g := Nat.mul_le_mul_left _ hg1.out
    omega))
  have v9 := Lib.hid (hr9.ival (A := A9) (n := k9) (c := c9))
  have hcc9 := hk9.cap
  clear hf9 hq9 hr9 hs9 hk9
  have t_P80 : ((w9.alloc (.cells #[.bool n9, .slice A9 k9 c9] 24)).alloc (.cells #[.bool false, .slice D9 0 d9] 24)).cell? ⟨w8.heap.size, 0, none⟩ = some ((.bool n8)) := ((P8.alloc _).alloc _).c0
  have t_P81 : ((w9.alloc (.cells #[.bool n9, .slice A9 k9 c9] 24)).alloc (.cells #[.bool false, .slice D9 0 d9] 24)).cell? ⟨w8.heap.size, 1, none⟩ = some ((.slice A8 k8 c8)) := ((P8.alloc _).alloc _).c1
  have y_F40 : ((w9.alloc (.cells #[.bool n9, .slice A9 k9 c9] 24)).alloc (.cells #[.bool false, .slice D9 0 d9] 24)).cell? ⟨w4.heap.size + 1, 0, none⟩ = some ((.int .i64 0)) := ((F4.alloc _).alloc _).c0
  have z_F40 : ((w9.alloc (.cells #[.bool n9, .slice A9 k9 c9] 24)).alloc (.cells #[.bool false, .slice D9 0 d9] 24)).frozen? ⟨w4.heap.size + 1, 0, none⟩ = false := ((F4.alloc _).alloc _).z0
  have y_F41 : ((w9.alloc (.cells #[.bool n9, .slice A9 k9 c9] 24)).alloc (.cells #[.bool false, .slice D9 0 d9] 24)).cell? ⟨w4.heap.size + 1, 1, none⟩ = some ((.int .i64 0)) := ((F4.alloc _).alloc _).c1
  have z_F41 : ((w9.alloc (.cells #[.bool n9, .slice A9 k9 c9] 24)).alloc (.cells #[.bool false, .slice D9 0 d9] 24)).frozen? ⟨w4.heap.size + 1, 1, none⟩ = false := ((F4.alloc _).alloc _).z1
  go_wp2_with fail
  clear t_P80 t_P81 y_F40 z_F40 y_F41 z_F41
  obtain ⟨V8, hV8⟩ : ∃ V8 : World, V8 = ((w9.alloc (.cells #[.bool n9, .slice A9 k9 c9] 24)).alloc (.cells #[.bool false, .slice D9 0 d9] 24)) := ⟨_, rfl⟩
  have bV8 : Below w9.heap.size w9 V8 := by rw [hV8]; (repeat (first | with_reducible exact Below.refl _ _ | with_reducible refine Below.drew ?_ | with_reducible refine below_drewN ?_ _ | with_reducible refine Below.setCell ?_ (by first | (simp; done) | (simp; omega) | omega) _ | with_reducible refine Below.alloc ?_ (by first | (simp; done) | (simp; omega) | omega) _))
  have zV8 : w9.heap.size + 2 ≤ V8.heap.size := by rw [hV8]; simp
  have P9 : Bk2 V8 (w9.heap.size) (.bool n9) (.slice A9 k9 c9) := by rw [hV8]; exact ((Bk2.newAt _ _ (by simp) _ _ _).alloc _)
  have R9 : Bk2 V8 (w9.heap.size + 1) (.bool false) (.slice D9 0 d9) := by rw [hV8]; exact (Bk2.newAt _ _ (by simp) _ _ _)
  rw [← hV8]
  clear hV8
  have E : Below w.heap.size w V8 := E.trans (bV8.mono E.size)
  have HA : LRd V8 (w.heap.size) a.A a.n a.c a.xs := HA.below bV8 (by omega)
  have HB : LRd V8 (w.heap.size) b.A b.n b.c b.xs := HB.below bV8 (by omega)
  have PA : Bk2 V8 (w.heap.size) (.bool a.neg) (.slice a.A a.n a.c) := PA.below bV8 PA.lt
  have PB : Bk2 V8 (w.heap.size + 1) (.bool b.neg) (.slice b.A b.n b.c) := PB.below bV8 PB.lt
  have hl3 : LRd V8 (w3.heap.size) A3 k3 c3 x3 := hl3.below bV8 (by omega)
  have P3 : Bk2 V8 (w3.heap.size) (.bool false) (.slice A3 k3 c3) := P3.below bV8 P3.lt
  have F3 : Bk2 V8 (w3.heap.size + 1) (.int .i64 0) (.int .i64 0) := F3.below bV8 F3.lt
  have hl4 : LRd V8 (w4.heap.size) A4 k4 c4 x4 := hl4.below bV8 (by omega)
  have P4 : Bk2 V8 (w4.heap.size) (.bool n4) (.slice A4 k4 c4) := P4.below bV8 P4.lt
  have F4 : Bk2 V8 (w4.heap.size + 1) (.int .i64 0) (.int .i64 0) := F4.below bV8 F4.lt
  have F5 : Bk2 V8 (w5.heap.size + 1) (.int .i64 0) (.int .i64 0) := F5.below bV8 F5.lt
  have hl8 : LRd V8 (w8.heap.size) A8 k8 c8 x8 := hl8.below bV8 (by omega)
  have P8 : Bk2 V8 (w8.heap.size) (.bool n8) (.slice A8 k8 c8) := P8.below bV8 P8.lt
  have R8 : Bk2 V8 (w8.heap.size + 1) (.bool false) (.slice D8 0 d8) := R8.below bV8 R8.lt
  have hl9 : LRd V8 (w9.heap.size) A9 k9 c9 x9 := hl9.below bV8 (by omega)
  clear bV8
  obtain ⟨U8F4, hU8F4⟩ : ∃ U8F4 : World, U8F4 = ((V8.setCell ⟨w4.heap.size + 1, 0, none⟩ (.int .i64 0)).setCell ⟨w4.heap.size + 1, 1, none⟩ (.int .i64 0)) := ⟨_, rfl⟩
  have zU8F4 : U8F4.heap.size = V8.heap.size := by rw [hU8F4]; simp [World.setCell]
  have E : Below w.heap.size w U8F4 := by rw [hU8F4]; exact (E.setCell (by first | omega | (simp; omega)) _).setCell (by first | omega | (simp; omega)) _
  have HA : LRd U8F4 (w.heap.size) a.A a.n a.c a.xs := by rw [hU8F4]; exact HA.setB F4 (by simp) (by simp) _ _
  have HB : LRd U8F4 (w.heap.size) b.A b.n b.c b.xs := by rw [hU8F4]; exact HB.setB F4 (by simp) (by simp) _ _
  have PA : Bk2 U8F4 (w.heap.size) (.bool a.neg) (.slice a.A a.n a.c) := by rw [hU8F4]; exact PA.far2 (by omega) _ _
  have PB : Bk2 U8F4 (w.heap.size + 1) (.bool b.neg) (.slice b.A b.n b.c) := by rw [hU8F4]; exact PB.far2 (by omega) _ _
  have hl3 : LRd U8F4 (w3.heap.size) A3 k3 c3 x3 := by rw [hU8F4]; exact hl3.setB F4 (by simp) (by simp) _ _
  have P3 : Bk2 U8F4 (w3.heap.size) (.bool false) (.slice A3 k3 c3) := by rw [hU8F4]; exact P3.far2 (by omega) _ _
  have F3 : Bk2 U8F4 (w3.heap.size + 1) (.int .i64 0) (.int .i64 0) := by rw [hU8F4]; exact F3.far2 (by omega) _ _
  have hl4 : LRd U8F4 (w4.heap.size) A4 k4 c4 x4 := by rw [hU8F4]; exact hl4.setB F4 (by simp) (by simp) _ _
  have P4 : Bk2 U8F4 (w4.heap.size) (.bool n4) (.slice A4 k4 c4) := by rw [hU8F4]; exact P4.far2 (by omega) _ _
  have F5 : Bk2 U8F4 (w5.heap.size + 1) (.int .i64 0) (.int .i64 0) := by rw [hU8F4]; exact F5.far2 (by omega) _ _
  have hl8 : LRd U8F4 (w8.heap.size) A8 k8 c8 x8 := by rw [hU8F4]; exact hl8.setB F4 (by simp) (by simp) _ _
  have P8 : Bk2 U8F4 (w8.heap.size) (.bool n8) (.slice A8 k8 c8) := by rw [hU8F4]; exact P8.far2 (by omega) _ _
  have R8 : Bk2 U8F4 (w8.heap.size + 1) (.bool false) (.slice D8 0 d8) := by rw [hU8F4]; exact R8.far2 (by omega) _ _
  have hl9 : LRd U8F4 (w9.heap.size) A9 k9 c9 x9 := by rw [hU8F4]; exact hl9.setB F4 (by simp) (by simp) _ _
  have P9 : Bk2 U8F4 (w9.heap.size) (.bool n9) (.slice A9 k9 c9) := by rw [hU8F4]; exact P9.far2 (by omega) _ _
  have R9 : Bk2 U8F4 (w9.heap.size + 1) (.bool false) (.slice D9 0 d9) := by rw [hU8F4]; exact R9.far2 (by omega) _ _
  have F4 : Bk2 U8F4 (w4.heap.size + 1) (.int .i64 0) (.int .i64 0) := by rw [hU8F4]; exact F4.set _ _
  rw [← hU8F4]
  clear hU8F4
  have zU8F4 := Nat.le_of_eq zU8F4.symm
  refine (igcd_ok _ U8F4.heap.size (IV.mk n8 A8 k8 c8 x8) (IV.mk n9 A9 k9 c9 x9) (LRd.more hl8 (by omega) : LRd _ _ A8 k8 c8 x8) (LRd.more hl9 (by omega) : LRd _ _ A9 k9 c9 x9) (Nat.le_refl _) o8.out o9.out).mono ?_
  rintro e w10 ⟨n10, A10, k10, c10, x10, rfl, hl10, hr10, hb10⟩
  have sw10 := hb10.size
  have E : Below w.heap.size w w10 := E.trans (hb10.mono E.size)
  have HA : LRd w10 (w.heap.size) a.A a.n a.c a.xs := HA.below hb10 (by omega)
  have HB : LRd w10 (w.heap.size) b.A b.n b.c b.xs := HB.below hb10 (by omega)
  have PA : Bk2 w10 (w.heap.size) (.bool a.neg) (.slice a.A a.n a.c) := PA.below hb10 PA.lt
  have PB : Bk2 w10 (w.heap.size + 1) (.bool b.neg) (.slice b.A b.n b.c) := PB.below hb10 PB.lt
  have hl3 : LRd w10 (w3.heap.size) A3 k3 c3 x3 := hl3.below hb10 (by omega)
  have P3 : Bk2 w10 (w3.heap.size) (.bool false) (.slice A3 k3 c3) := P3.below hb10 P3.lt
  have F3 : Bk2 w10 (w3.heap.size + 1) (.int .i64 0) (.int .i64 0) := F3.below hb10 F3.lt
  have hl4 : LRd w10 (w4.heap.size) A4 k4 c4 x4 := hl4.below hb10 (by omega)
  have P4 : Bk2 w10 (w4.heap.size) (.bool n4) (.slice A4 k4 c4) := P4.below hb10 P4.lt
  have F4 : Bk2 w10 (w4.heap.size + 1) (.int .i64 0) (.int .i64 0) := F4.below hb10 F4.lt
  have F5 : Bk2 w10 (w5.heap.size + 1) (.int .i64 0) (.int .i64 0) := F5.below hb10 F5.lt
  have hl8 : LRd w10 (w8.heap.size) A8 k8 c8 x8 := hl8.below hb10 (by omega)
  have P8 : Bk2 w10 (w8.heap.size) (.bool n8) (.slice A8 k8 c8) := P8.below hb10 P8.lt
  have R8 : Bk2 w10 (w8.heap.size + 1) (.bool false) (.slice D8 0 d8) := R8.below hb10 R8.lt
  have hl9 : LRd w10 (w9.heap.size) A9 k9 c9 x9 := hl9.below hb10 (by omega)
  have P9 : Bk2 w10 (w9.heap.size) (.bool n9) (.slice A9 k9 c9) := P9.below hb10 P9.lt
  have R9 : Bk2 w10 (w9.heap.size + 1) (.bool false) (.slice D9 0 d9) := R9.below hb10 R9.lt
  clear hb10
  rw [← IV.abs, ← IV.abs, v8.out, v9.out, dv_gcd rfl hg1.out (by rw [← HQ8.out, ← HQ9.out]; exact HG.out.symm)] at hr10
  have HR10 := Lib.hid (show IRep n10 x10 1 from hr10)
  clear hr10
  have y_F50 : (w10.alloc (.cells #[.bool n10, .slice A10 k10 c10] 24)).cell? ⟨w5.heap.size + 1, 0, none⟩ = some ((.int .i64 0)) := (F5.alloc _).c0
  have z_F50 : (w10.alloc (.cells #[.bool n10, .slice A10 k10 c10] 24)).frozen? ⟨w5.heap.size + 1, 0, none⟩ = false := (F5.alloc _).z0
  have y_F51 : (w10.alloc (.cells #[.bool n10, .slice A10 k10 c10] 24)).cell? ⟨w5.heap.size + 1, 1, none⟩ = some ((.int .i64 0)) := (F5.alloc _).c1
  have z_F51 : (w10.alloc (.cells #[.bool n10, .slice A10 k10 c10] 24)).frozen? ⟨w5.heap.size + 1, 1, none⟩ = false := (F5.alloc _).z1
  go_wp2_with fail
  clear y_F50 z_F50 y_F51 z_F51
  obtain ⟨V9, hV9⟩ : ∃ V9 : World, V9 = (w10.alloc (.cells #[.bool n10, .slice A10 k10 c10] 24)) := ⟨_, rfl⟩
  have bV9 : Below w10.heap.size w10 V9 := by rw [hV9]; (repeat (first | with_reducible exact Below.refl _ _ | with_reducible refine Below.drew ?_ | with_reducible refine below_drewN ?_ _ | with_reducible refine Below.setCell ?_ (by first | (simp; done) | (simp; omega) | omega) _ | with_reducible refine Below.alloc ?_ (by first | (simp; done) | (simp; omega) | omega) _))
  have zV9 : w10.heap.size + 1 ≤ V9.heap.size := by rw [hV9]; simp
  have P10 : Bk2 V9 (w10.heap.size) (.bool n10) (.slice A10 k10 c10) := by rw [hV9]; exact (Bk2.newAt _ _ (by simp) _ _ _)
  rw [← hV9]
  clear hV9
  have E : Below w.heap.size w V9 := E.trans (bV9.mono E.size)
  have HA : LRd V9 (w.heap.size) a.A a.n a.c a.xs := HA.below bV9 (by omega)
  have HB : LRd V9 (w.heap.size) b.A b.n b.c b.xs := HB.below bV9 (by omega)
  have PA : Bk2 V9 (w.heap.size) (.bool a.neg) (.slice a.A a.n a.c) := PA.below bV9 PA.lt
  have PB : Bk2 V9 (w.heap.size + 1) (.bool b.neg) (.slice b.A b.n b.c) := PB.below bV9 PB.lt
  have hl3 : LRd V9 (w3.heap.size) A3 k3 c3 x3 := hl3.below bV9 (by omega)
  have P3 : Bk2 V9 (w3.heap.size) (.bool false) (.slice A3 k3 c3) := P3.below bV9 P3.lt
  have F3 : Bk2 V9 (w3.heap.size + 1) (.int .i64 0) (.int .i64 0) := F3.below bV9 F3.lt
  have hl4 : LRd V9 (w4.heap.size) A4 k4 c4 x4 := hl4.below bV9 (by omega)
  have P4 : Bk2 V9 (w4.heap.size) (.bool n4) (.slice A4 k4 c4) := P4.below bV9 P4.lt
  have F4 : Bk2 V9 (w4.heap.size + 1) (.int .i64 0) (.int .i64 0) := F4.below bV9 F4.lt
  have F5 : Bk2 V9 (w5.heap.size + 1) (.int .i64 0) (.int .i64 0) := F5.below bV9 F5.lt
  have hl8 : LRd V9 (w8.heap.size) A8 k8 c8 x8 := hl8.below bV9 (by omega)
  have P8 : Bk2 V9 (w8.heap.size) (.bool n8) (.slice A8 k8 c8) := P8.below bV9 P8.lt
  have R8 : Bk2 V9 (w8.heap.size + 1) (.bool false) (.slice D8 0 d8) := R8.below bV9 R8.lt
  have hl9 : LRd V9 (w9.heap.size) A9 k9 c9 x9 := hl9.below bV9 (by omega)
  have P9 : Bk2 V9 (w9.heap.size) (.bool n9) (.slice A9 k9 c9) := P9.below bV9 P9.lt
  have R9 : Bk2 V9 (w9.heap.size + 1) (.bool false) (.slice D9 0 d9) := R9.below bV9 R9.lt
  have hl10 : LRd V9 (w10.heap.size) A10 k10 c10 x10 := hl10.below bV9 (by omega)
  clear bV9
  obtain ⟨U9F5, hU9F5⟩ : ∃ U9F5 : World, U9F5 = ((V9.setCell ⟨w5.heap.size + 1, 0, none⟩ (.int .i64 0)).setCell ⟨w5.heap.size + 1, 1, none⟩ (.int .i64 0)) := ⟨_, rfl⟩
  have zU9F5 : U9F5.heap.size = V9.heap.size := by rw [hU9F5]; simp [World.setCell]
  have E : Below w.heap.size w U9F5 := by rw [hU9F5]; exact (E.setCell (by first | omega | (simp; omega)) _).setCell (by first | omega | (simp; omega)) _
  have HA : LRd U9F5 (w.heap.size) a.A a.n a.c a.xs := by rw [hU9F5]; exact HA.setB F5 (by simp) (by simp) _ _
  have HB : LRd U9F5 (w.heap.size) b.A b.n b.c b.xs := by rw [hU9F5]; exact HB.setB F5 (by simp) (by simp) _ _
  have PA : Bk2 U9F5 (w.heap.size) (.bool a.neg) (.slice a.A a.n a.c) := by rw [hU9F5]; exact PA.far2 (by omega) _ _
  have PB : Bk2 U9F5 (w.heap.size + 1) (.bool b.neg) (.slice b.A b.n b.c) := by rw [hU9F5]; exact PB.far2 (by omega) _ _
  have hl3 : LRd U9F5 (w3.heap.size) A3 k3 c3 x3 := by rw [hU9F5]; exact hl3.setB F5 (by simp) (by simp) _ _
  have P3 : Bk2 U9F5 (w3.heap.size) (.bool false) (.slice A3 k3 c3) := by rw [hU9F5]; exact P3.far2 (by omega) _ _
  have F3 : Bk2 U9F5 (w3.heap.size + 1) (.int .i64 0) (.int .i64 0) := by rw [hU9F5]; exact F3.far2 (by omega) _ _
  have hl4 : LRd U9F5 (w4.heap.size) A4 k4 c4 x4 := by rw [hU9F5]; exact hl4.setB F5 (by simp) (by simp) _ _
  have P4 : Bk2 U9F5 (w4.heap.size) (.bool n4) (.slice A4 k4 c4) := by rw [hU9F5]; exact P4.far2 (by omega) _ _
  have F4 : Bk2 U9F5 (w4.heap.size + 1) (.int .i64 0) (.int .i64 0) := by rw [hU9F5]; exact F4.far2 (by omega) _ _
  have hl8 : LRd U9F5 (w8.heap.size) A8 k8 c8 x8 := by rw [hU9F5]; exact hl8.setB F5 (by simp) (by simp) _ _
  have P8 : Bk2 U9F5 (w8.heap.size) (.bool n8) (.slice A8 k8 c8) := by rw [hU9F5]; exact P8.far2 (by omega) _ _
  have R8 : Bk2 U9F5 (w8.heap.size + 1) (.bool false) (.slice D8 0 d8) := by rw [hU9F5]; exact R8.far2 (by omega) _ _
  have hl9 : LRd U9F5 (w9.heap.size) A9 k9 c9 x9 := by rw [hU9F5]; exact hl9.setB F5 (by simp) (by simp) _ _
  have P9 : Bk2 U9F5 (w9.heap.size) (.bool n9) (.slice A9 k9 c9) := by rw [hU9F5]; exact P9.far2 (by omega) _ _
  have R9 : Bk2 U9F5 (w9.heap.size + 1) (.bool false) (.slice D9 0 d9) := by rw [hU9F5]; exact R9.far2 (by omega) _ _
  have hl10 : LRd U9F5 (w10.heap.size) A10 k10 c10 x10 := by rw [hU9F5]; exact hl10.setB F5 (by simp) (by simp) _ _
  have P10 : Bk2 U9F5 (w10.heap.size) (.bool n10) (.slice A10 k10 c10) := by rw [hU9F5]; exact P10.far2 (by omega) _ _
  have F5 : Bk2 U9F5 (w5.heap.size + 1) (.int .i64 0) (.int .i64 0) := by rw [hU9F5]; exact F5.set _ _
  rw [← hU9F5]
  clear hU9F5
  have zU9F5 := Nat.le_of_eq zU9F5.symm
  have G0 : Below U9F5.heap.size U9F5 U9F5.drew := Below.drew (Below.refl _ _)
  have HS := Lib.hid (fun (u : World) (hu : Below U9F5.heap.size U9F5 u) => (⟨hu, (F3.below hu F3.lt).c0, (F4.below hu F4.lt).c0, (F5.below hu F5.lt).c0, (R8.below hu R8.lt).c0, (R8.below hu R8.lt).c1, (R9.below hu R9.lt).c0, (R9.below hu R9.lt).c1, (P10.below hu P10.lt).c0, (P10.below hu P10.lt).c1⟩ : Below U9F5.heap.size U9F5 u ∧ u.cell? ⟨w3.heap.size + 1, 0, none⟩ = some (.int .i64 0) ∧ u.cell? ⟨w4.heap.size + 1, 0, none⟩ = some (.int .i64 0) ∧ u.cell? ⟨w5.heap.size + 1, 0, none⟩ = some (.int .i64 0) ∧ u.cell? ⟨w8.heap.size + 1, 0, none⟩ = some (.bool false) ∧ u.cell? ⟨w8.heap.size + 1, 1, none⟩ = some (.slice D8 0 d8) ∧ u.cell? ⟨w9.heap.size + 1, 0, none⟩ = some (.bool false) ∧ u.cell? ⟨w9.heap.size + 1, 1, none⟩ = some (.slice D9 0 d9) ∧ u.cell? ⟨w10.heap.size, 0, none⟩ = some (.bool n10) ∧ u.cell? ⟨w10.heap.size, 1, none⟩ = some (.slice A10 k10 c10)))
  clear PA PB P3 F3 P4 F4 F5 P8 R8 P9 R9 P10
  go_region_held3 (fun u => Below U9F5.heap.size U9F5 u ∧ u.cell? ⟨w3.heap.size + 1, 0, none⟩ = some (.int .i64 0) ∧ u.cell? ⟨w4.heap.size + 1, 0, none⟩ = some (.int .i64 0) ∧ u.cell? ⟨w5.heap.size + 1, 0, none⟩ = some (.int .i64 0) ∧ u.cell? ⟨w8.heap.size + 1, 0, none⟩ = some (.bool false) ∧ u.cell? ⟨w8.heap.size + 1, 1, none⟩ = some (.slice D8 0 d8) ∧ u.cell? ⟨w9.heap.size + 1, 0, none⟩ = some (.bool false) ∧ u.cell? ⟨w9.heap.size + 1, 1, none⟩ = some (.slice D9 0 d9) ∧ u.cell? ⟨w10.heap.size, 0, none⟩ = some (.bool n10) ∧ u.cell? ⟨w10.heap.size, 1, none⟩ = some (.slice A10 k10 c10)) (first | with_reducible exact HS.out _ G0 | with_reducible exact HS.out _ HBS | with_reducible exact HS.out _ HBN | with_reducible exact HS.out _ HBZ)
    (first
      | (go_at_call 26; try go_split_ands; ((with_reducible refine (noInt_any _ _ _ _ _ (by omega)).mono ?_); rintro e wz ⟨rfl, hbZ⟩; have HBZ : Below U9F5.heap.size U9F5 wz := bnext (by assumption) hbZ; try rw [show (!false && decide (0 = 0)) = true from rfl]))
      | (go_at_call 20; try go_split_ands; ((with_reducible refine (number_any _ _ (by omega) (by omega)).mono ?_); rintro e wn ⟨mN, AN, kN, cN, zN, vN, rfl, hDN, hRN, hsN, hbN⟩; have HBN : Below U9F5.heap.size U9F5 wn := bnext (by assumption) hbN; have HkN := len16 hRN hDN.len.out (by have := abs_sval hsN; omega)))
      | (go_at_call 18; ((with_reducible refine (sameInt_any _ wn.heap.size n10 mN A10 AN k10 kN c10 cN vN 1 x10 zN ((hl10.below HBN (by omega)).more (by have := HBN.size; omega)) hDN (Nat.le_refl _) HR10.out hRN hsN HkN).mono ?_); rintro e ws ⟨rfl, hbS⟩; have HBS : Below U9F5.heap.size U9F5 ws := bnext HBN hbS)))
  all_goals (go_wp2_with fail)
  all_goals go_ret
  all_goals exact ⟨by first | rfl | (simp; done), E.trans (Below.mono (by assumption) E.size)⟩
theorem divisors_any (w : World) (a b : IV) (HA : a.at w w.heap.size) (HB : b.at w w.heap.size) :
    Calls Try.prog 11 #[a.v, b.v] w (fun e w' => e = .returned (.bool true) ∧ Below w.heap.size w w') := by
  by_cases h : a.ok = true ∧ b.ok = true
  · obtain ⟨oa, ob⟩ := h
    rcases Nat.lt_or_ge 60 a.n with e | e
    · exact divs_long1 w a b HA HB oa ob e
    · rcases Nat.lt_or_ge 60 b.n with e2 | e2
      · exact divs_long2 w a b HA HB oa ob e e2
      · rcases Nat.eq_zero_or_pos (Nat.gcd a.val.natAbs b.val.natAbs) with e3 | e3
        · exact divs_none w a b HA HB oa ob e e2 e3
        · exact divs_some w a b HA HB oa ob e e2 e3
  · obtain ⟨f2, hf⟩ := two_bad h
    exact divs_bad w a b HA HB f2 hf
end Go.Proofs.Ytpjohcbopkmbmaa
