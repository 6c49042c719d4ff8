/- IntegerRing: the law at valid arguments. -/
import Derived.Test.YtpjohcbopkmbmaaKRng1
namespace Go.Proofs.Ytpjohcbopkmbmaa
open Go.RowKit
set_option maxHeartbeats 400000
set_option maxRecDepth 100000
set_option linter.unusedSimpArgs false
set_option linter.unusedVariables false

theorem mul60 {p q : Nat} (hp : p < Top60) (hq : q < Top60) : p * q < Top128 := by
  obtain ⟨m, hm⟩ : ∃ m, m = 60 := ⟨_, rfl⟩
  obtain ⟨k, hk⟩ : ∃ k, k = 128 := ⟨_, rfl⟩
  rw [top60 hm] at hp hq
  rw [top128 hk]
  have h1 : p * q < 4294967296 ^ m * 4294967296 ^ m := Nat.mul_lt_mul'' hp hq
  rw [← Nat.pow_add] at h1
  exact Nat.lt_of_lt_of_le h1 (Nat.pow_le_pow_right (by decide) (by omega))
theorem mul61 {p q r : Nat} (hp : p < Top60) (hq : q < Top60) (hr : r < Top60) : (p + q) * r < Top128 := by
  obtain ⟨m, hm⟩ : ∃ m, m = 60 := ⟨_, rfl⟩
  obtain ⟨k, hk⟩ : ∃ k, k = 128 := ⟨_, rfl⟩
  rw [top60 hm] at hp hq hr
  rw [top128 hk]
  have h0 : p + q < 4294967296 ^ (m + 1) := by rw [Nat.pow_succ]; omega
  have h1 : (p + q) * r < 4294967296 ^ (m + 1) * 4294967296 ^ m := Nat.mul_lt_mul'' h0 hr
  rw [← Nat.pow_add] at h1
  exact Nat.lt_of_lt_of_le h1 (Nat.pow_le_pow_right (by decide) (by omega))
theorem abs_add {x y : Int} {n : Nat} (h : x.natAbs + y.natAbs < n) : (x + y).natAbs < n := by omega
theorem abs_mul {x y : Int} {n : Nat} (h : x.natAbs * y.natAbs < n) : (x * y).natAbs < n := by rw [Int.natAbs_mul]; exact h
theorem irep_eq {m n : Bool} {xs ys : List Nat} {z : Int} (h : IRep m xs z) (k : IRep n ys z) : (decide (m = n) && sameB xs ys) = true := by
  rw [h.sgn, ← k.sgn, h.rep.unique (by decide) k.rep, sameB_refl]; simp
set_option maxHeartbeats 8000000 in
theorem ring_zero (w : World) (a b c : IV) (HA : a.at w w.heap.size) (HB : b.at w w.heap.size) (HC : c.at w w.heap.size) (oa : a.ok = true) (ob : b.ok = true) (oc : c.ok = true) (ha60 : a.n ≤ 60) (hb60 : b.n ≤ 60) (hc60 : c.n ≤ 60) (hb0 : Hid ((!b.neg && decide (b.n = 0)) = true)) :
    Calls Try.prog 9 #[a.v, b.v, c.v] w (fun e w' => e = .returned (.bool true) ∧ Below w.heap.size w w') := by
  have V := fun (x : IV) (h : x.at w w.heap.size) (o : x.ok = true) (l : x.n ≤ 60) => (show x.val.natAbs < Top60 by rw [IV.abs]; exact lt60 (⟨h.lim, rfl, (vld_top (IV.vld o).1).1⟩ : Rep 4294967296 x.xs (vb 4294967296 x.xs)) h.len.out l)
  have QA := Lib.hid (V a HA oa ha60)
  have QB := Lib.hid (V b HB ob hb60)
  have QC := Lib.hid (V c HC oc hc60)
  clear V
  have hla : (a.n : Int) ≤ 60 := by omega
  have hlb : (b.n : Int) ≤ 60 := by omega
  have hlc : (c.n : Int) ≤ 60 := by omega
  have IA := Lib.hid (IV.irep oa HA.lim)
  have IB := Lib.hid (IV.irep ob HB.lim)
  replace HA : LRd w w.heap.size a.A a.n a.c a.xs := HA
  replace HB : LRd w w.heap.size b.A b.n b.c b.xs := HB
  replace HC : LRd w w.heap.size c.A c.n c.c c.xs := HC
  have E : Below w.heap.size w w := Below.refl _ _
  have hfd := field_code
  go_enter Try.func9, Try.ntmps9
  go_wp2_with fail
  obtain ⟨V0, hV0⟩ : ∃ V0 : World, V0 = (((w.alloc (.cells #[.bool a.neg, .slice a.A a.n a.c] 24)).alloc (.cells #[.bool b.neg, .slice b.A b.n b.c] 24)).alloc (.cells #[.bool c.neg, .slice c.A c.n c.c] 24)) := ⟨_, rfl⟩
  have bV0 : Below w.heap.size w V0 := by rw [hV0]; (repeat (first | with_reducible exact Below.refl _ _ | with_reducible refine Below.drew ?_ | with_reducible refine below_drewN ?_ _ | with_reducible refine Below.setCell ?_ (by first | (simp; done) | (simp; omega) | omega) _ | with_reducible refine Below.alloc ?_ (by first | (simp; done) | (simp; omega) | omega) _))
  have zV0 : w.heap.size + 3 ≤ V0.heap.size := by rw [hV0]; simp
  have PA : Bk2 V0 (w.heap.size) (.bool a.neg) (.slice a.A a.n a.c) := by rw [hV0]; exact (((Bk2.newAt _ _ (by simp) _ _ _).alloc _).alloc _)
  have PB : Bk2 V0 (w.heap.size + 1) (.bool b.neg) (.slice b.A b.n b.c) := by rw [hV0]; exact ((Bk2.newAt _ _ (by simp) _ _ _).alloc _)
  have PC : Bk2 V0 (w.heap.size + 2) (.bool c.neg) (.slice c.A c.n c.c) := by rw [hV0]; exact (Bk2.newAt _ _ (by simp) _ _ _)
  rw [← hV0]
  clear hV0
  replace E : Below w.heap.size w V0 := E.trans (bV0.mono E.size)
  replace HA : LRd V0 (w.heap.size) a.A a.n a.c a.xs := HA.below bV0 (by omega)
  replace HB : LRd V0 (w.heap.size) b.A b.n b.c b.xs := HB.below bV0 (by omega)
  replace HC : LRd V0 (w.heap.size) c.A c.n c.c c.xs := HC.below bV0 (by omega)
  clear bV0
  (with_reducible refine (counts_any _).mono ?_)
  rintro e w1 ⟨rfl, hb1⟩
  have sw1 := hb1.size
  replace E : Below w.heap.size w w1 := E.trans (hb1.mono E.size)
  replace HA : LRd w1 (w.heap.size) a.A a.n a.c a.xs := HA.below hb1 (by omega)
  replace HB : LRd w1 (w.heap.size) b.A b.n b.c b.xs := HB.below hb1 (by omega)
  replace HC : LRd w1 (w.heap.size) c.A c.n c.c c.xs := HC.below hb1 (by omega)
  replace PA : Bk2 w1 (w.heap.size) (.bool a.neg) (.slice a.A a.n a.c) := PA.below hb1 PA.lt
  replace PB : Bk2 w1 (w.heap.size + 1) (.bool b.neg) (.slice b.A b.n b.c) := PB.below hb1 PB.lt
  replace PC : Bk2 w1 (w.heap.size + 2) (.bool c.neg) (.slice c.A c.n c.c) := PC.below hb1 PC.lt
  clear hb1
  have IR := Lib.hid (irow3 w1 w.heap.size a b c HA HB HC (by omega))
  have p_PA0 : w1.cell? ⟨w.heap.size, 0, none⟩ = some ((.bool a.neg)) := PA.c0
  have p_PA1 : w1.cell? ⟨w.heap.size, 1, none⟩ = some ((.slice a.A a.n a.c)) := PA.c1
  have p_PB0 : w1.cell? ⟨w.heap.size + 1, 0, none⟩ = some ((.bool b.neg)) := PB.c0
  have p_PB1 : w1.cell? ⟨w.heap.size + 1, 1, none⟩ = some ((.slice b.A b.n b.c)) := PB.c1
  have p_PC0 : w1.cell? ⟨w.heap.size + 2, 0, none⟩ = some ((.bool c.neg)) := PC.c0
  have p_PC1 : w1.cell? ⟨w.heap.size + 2, 1, none⟩ = some ((.slice c.A c.n c.c)) := PC.c1
  go_wp2_with fail
  clear p_PA0 p_PA1 p_PB0 p_PB1 p_PC0 p_PC1
  obtain ⟨V1, hV1⟩ : ∃ V1 : World, V1 = (w1.alloc (.cells #[.bool a.neg, .slice a.A a.n a.c, .bool b.neg, .slice b.A b.n b.c, .bool c.neg, .slice c.A c.n c.c] 24)) := ⟨_, rfl⟩
  have bV1 : Below w1.heap.size w1 V1 := by rw [hV1]; (repeat (first | with_reducible exact Below.refl _ _ | with_reducible refine Below.drew ?_ | with_reducible refine below_drewN ?_ _ | with_reducible refine Below.setCell ?_ (by first | (simp; done) | (simp; omega) | omega) _ | with_reducible refine Below.alloc ?_ (by first | (simp; done) | (simp; omega) | omega) _))
  have zV1 : w1.heap.size + 1 ≤ V1.heap.size := by rw [hV1]; simp
  replace IR : Hid (IRow V1 w.heap.size w1.heap.size [a, b, c]) := by rw [hV1]; exact IR
  rw [← hV1]
  clear hV1
  replace E : Below w.heap.size w V1 := E.trans (bV1.mono E.size)
  replace HA : LRd V1 (w.heap.size) a.A a.n a.c a.xs := HA.below bV1 (by omega)
  replace HB : LRd V1 (w.heap.size) b.A b.n b.c b.xs := HB.below bV1 (by omega)
  replace HC : LRd V1 (w.heap.size) c.A c.n c.c c.xs := HC.below bV1 (by omega)
  replace PA : Bk2 V1 (w.heap.size) (.bool a.neg) (.slice a.A a.n a.c) := PA.below bV1 PA.lt
  replace PB : Bk2 V1 (w.heap.size + 1) (.bool b.neg) (.slice b.A b.n b.c) := PB.below bV1 PB.lt
  replace PC : Bk2 V1 (w.heap.size + 2) (.bool c.neg) (.slice c.A c.n c.c) := PC.below bV1 PC.lt
  clear bV1
  (with_reducible refine (faults_any _ w.heap.size w1.heap.size 3 [a, b, c] IR.out rfl (by omega) (by omega)).mono ?_)
  rintro e w2 ⟨rfl, hb2⟩
  have sw2 := hb2.size
  replace E : Below w.heap.size w w2 := E.trans (hb2.mono E.size)
  replace HA : LRd w2 (w.heap.size) a.A a.n a.c a.xs := HA.below hb2 (by omega)
  replace HB : LRd w2 (w.heap.size) b.A b.n b.c b.xs := HB.below hb2 (by omega)
  replace HC : LRd w2 (w.heap.size) c.A c.n c.c c.xs := HC.below hb2 (by omega)
  replace PA : Bk2 w2 (w.heap.size) (.bool a.neg) (.slice a.A a.n a.c) := PA.below hb2 PA.lt
  replace PB : Bk2 w2 (w.heap.size + 1) (.bool b.neg) (.slice b.A b.n b.c) := PB.below hb2 PB.lt
  replace PC : Bk2 w2 (w.heap.size + 2) (.bool c.neg) (.slice c.A c.n c.c) := PC.below hb2 PC.lt
  clear hb2
  rw [three_ok oa ob oc]
  unfold flt
  clear IR
  have t0 := PA.c1
  have t1 := PB.c1
  have t2 := PC.c1
  have t3 := PA.c0
  have t4 := PB.c0
  go_wp2_with fail
  clear t0 t1 t2 t3 t4
  have HS := Lib.hid (iadd_ok _ w2.heap.size a b (LRd.more HA (by omega) : LRd _ _ a.A a.n a.c a.xs) (LRd.more HB (by omega) : LRd _ _ b.A b.n b.c b.xs) (Nat.le_refl _) oa ob)
  refine HS.out.mono ?_
  intro e w3 hgv
  clear HS
  have hbd : (a.val + b.val).natAbs < Top128 := abs_add (sum60 QA.out QB.out)
  obtain ⟨n3, A3, k3, c3, x3, rfl, hl3, hr3, hb3⟩ := (hgv.resolve_right (fun hh => absurd hh.1 (by omega))).2
  clear hgv
  have s3 := hb3.size
  replace E : Below w.heap.size w w3 := E.trans (hb3.mono E.size)
  replace HA : LRd w3 (w.heap.size) a.A a.n a.c a.xs := HA.below hb3 (by omega)
  replace HB : LRd w3 (w.heap.size) b.A b.n b.c b.xs := HB.below hb3 (by omega)
  replace HC : LRd w3 (w.heap.size) c.A c.n c.c c.xs := HC.below hb3 (by omega)
  replace PA : Bk2 w3 (w.heap.size) (.bool a.neg) (.slice a.A a.n a.c) := PA.below hb3 PA.lt
  replace PB : Bk2 w3 (w.heap.size + 1) (.bool b.neg) (.slice b.A b.n b.c) := PB.below hb3 PB.lt
  replace PC : Bk2 w3 (w.heap.size + 2) (.bool c.neg) (.slice c.A c.n c.c) := PC.below hb3 PC.lt
  clear hb3
  have o3 := Lib.hid (hr3.iok hbd)
  have v3 := Lib.hid (hr3.ival (A := A3) (n := k3) (c := c3))
  have I3 := Lib.hid hr3
  clear hr3 hbd
  have t_PC0 : ((w3.alloc (.cells #[.bool n3, .slice A3 k3 c3] 24)).alloc (.cells #[.int .i64 0, .int .i64 0] 26)).cell? ⟨w.heap.size + 2, 0, none⟩ = some ((.bool c.neg)) := ((PC.alloc _).alloc _).c0
  have t_PC1 : ((w3.alloc (.cells #[.bool n3, .slice A3 k3 c3] 24)).alloc (.cells #[.int .i64 0, .int .i64 0] 26)).cell? ⟨w.heap.size + 2, 1, none⟩ = some ((.slice c.A c.n c.c)) := ((PC.alloc _).alloc _).c1
  go_wp2_with fail
  clear t_PC0 t_PC1
  obtain ⟨V2, hV2⟩ : ∃ V2 : World, V2 = ((w3.alloc (.cells #[.bool n3, .slice A3 k3 c3] 24)).alloc (.cells #[.int .i64 0, .int .i64 0] 26)) := ⟨_, rfl⟩
  have bV2 : Below w3.heap.size w3 V2 := by rw [hV2]; (repeat (first | with_reducible exact Below.refl _ _ | with_reducible refine Below.drew ?_ | with_reducible refine below_drewN ?_ _ | with_reducible refine Below.setCell ?_ (by first | (simp; done) | (simp; omega) | omega) _ | with_reducible refine Below.alloc ?_ (by first | (simp; done) | (simp; omega) | omega) _))
  have zV2 : w3.heap.size + 2 ≤ V2.heap.size := by rw [hV2]; simp
  have P3 : Bk2 V2 (w3.heap.size) (.bool n3) (.slice A3 k3 c3) := by rw [hV2]; exact ((Bk2.newAt _ _ (by simp) _ _ _).alloc _)
  have F3 : Bk2 V2 (w3.heap.size + 1) (.int .i64 0) (.int .i64 0) := by rw [hV2]; exact (Bk2.newAt _ _ (by simp) _ _ _)
  rw [← hV2]
  clear hV2
  replace E : Below w.heap.size w V2 := E.trans (bV2.mono E.size)
  replace HA : LRd V2 (w.heap.size) a.A a.n a.c a.xs := HA.below bV2 (by omega)
  replace HB : LRd V2 (w.heap.size) b.A b.n b.c b.xs := HB.below bV2 (by omega)
  replace HC : LRd V2 (w.heap.size) c.A c.n c.c c.xs := HC.below bV2 (by omega)
  replace PA : Bk2 V2 (w.heap.size) (.bool a.neg) (.slice a.A a.n a.c) := PA.below bV2 PA.lt
  replace PB : Bk2 V2 (w.heap.size + 1) (.bool b.neg) (.slice b.A b.n b.c) := PB.below bV2 PB.lt
  replace PC : Bk2 V2 (w.heap.size + 2) (.bool c.neg) (.slice c.A c.n c.c) := PC.below bV2 PC.lt
  replace hl3 : LRd V2 (w3.heap.size) A3 k3 c3 x3 := hl3.below bV2 (by omega)
  clear bV2
  have HS := Lib.hid (imul_ok _ V2.heap.size (IV.mk n3 A3 k3 c3 x3) c (LRd.more hl3 (by omega) : LRd _ _ A3 k3 c3 x3) (LRd.more HC (by omega) : LRd _ _ c.A c.n c.c c.xs) (Nat.le_refl _) o3.out oc)
  refine HS.out.mono ?_
  intro e w4 hgv
  clear HS
  rw [v3.out] at hgv
  have hbd : ((a.val + b.val) * c.val).natAbs < Top128 := abs_mul (Nat.lt_of_le_of_lt (Nat.mul_le_mul_right _ (show (a.val + b.val).natAbs ≤ a.val.natAbs + b.val.natAbs by omega)) (mul61 QA.out QB.out QC.out))
  obtain ⟨n4, A4, k4, c4, x4, rfl, hl4, hr4, hb4⟩ := (hgv.resolve_right (fun hh => absurd hh.1 (by omega))).2
  clear hgv
  have s4 := hb4.size
  replace E : Below w.heap.size w w4 := E.trans (hb4.mono E.size)
  replace HA : LRd w4 (w.heap.size) a.A a.n a.c a.xs := HA.below hb4 (by omega)
  replace HB : LRd w4 (w.heap.size) b.A b.n b.c b.xs := HB.below hb4 (by omega)
  replace HC : LRd w4 (w.heap.size) c.A c.n c.c c.xs := HC.below hb4 (by omega)
  replace PA : Bk2 w4 (w.heap.size) (.bool a.neg) (.slice a.A a.n a.c) := PA.below hb4 PA.lt
  replace PB : Bk2 w4 (w.heap.size + 1) (.bool b.neg) (.slice b.A b.n b.c) := PB.below hb4 PB.lt
  replace PC : Bk2 w4 (w.heap.size + 2) (.bool c.neg) (.slice c.A c.n c.c) := PC.below hb4 PC.lt
  replace hl3 : LRd w4 (w3.heap.size) A3 k3 c3 x3 := hl3.below hb4 (by omega)
  replace P3 : Bk2 w4 (w3.heap.size) (.bool n3) (.slice A3 k3 c3) := P3.below hb4 P3.lt
  replace F3 : Bk2 w4 (w3.heap.size + 1) (.int .i64 0) (.int .i64 0) := F3.below hb4 F3.lt
  clear hb4
  have o4 := Lib.hid (hr4.iok hbd)
  have v4 := Lib.hid (hr4.ival (A := A4) (n := k4) (c := c4))
  have I4 := Lib.hid hr4
  clear hr4 hbd
  have t_PA0 : ((w4.alloc (.cells #[.bool n4, .slice A4 k4 c4] 24)).alloc (.cells #[.int .i64 0, .int .i64 0] 26)).cell? ⟨w.heap.size, 0, none⟩ = some ((.bool a.neg)) := ((PA.alloc _).alloc _).c0
  have t_PA1 : ((w4.alloc (.cells #[.bool n4, .slice A4 k4 c4] 24)).alloc (.cells #[.int .i64 0, .int .i64 0] 26)).cell? ⟨w.heap.size, 1, none⟩ = some ((.slice a.A a.n a.c)) := ((PA.alloc _).alloc _).c1
  have t_PC0 : ((w4.alloc (.cells #[.bool n4, .slice A4 k4 c4] 24)).alloc (.cells #[.int .i64 0, .int .i64 0] 26)).cell? ⟨w.heap.size + 2, 0, none⟩ = some ((.bool c.neg)) := ((PC.alloc _).alloc _).c0
  have t_PC1 : ((w4.alloc (.cells #[.bool n4, .slice A4 k4 c4] 24)).alloc (.cells #[.int .i64 0, .int .i64 0] 26)).cell? ⟨w.heap.size + 2, 1, none⟩ = some ((.slice c.A c.n c.c)) := ((PC.alloc _).alloc _).c1
  go_wp2_with fail
  clear t_PA0 t_PA1 t_PC0 t_PC1
  obtain ⟨V3, hV3⟩ : ∃ V3 : World, V3 = ((w4.alloc (.cells #[.bool n4, .slice A4 k4 c4] 24)).alloc (.cells #[.int .i64 0, .int .i64 0] 26)) := ⟨_, rfl⟩
  have bV3 : Below w4.heap.size w4 V3 := by rw [hV3]; (repeat (first | with_reducible exact Below.refl _ _ | with_reducible refine Below.drew ?_ | with_reducible refine below_drewN ?_ _ | with_reducible refine Below.setCell ?_ (by first | (simp; done) | (simp; omega) | omega) _ | with_reducible refine Below.alloc ?_ (by first | (simp; done) | (simp; omega) | omega) _))
  have zV3 : w4.heap.size + 2 ≤ V3.heap.size := by rw [hV3]; simp
  have P4 : Bk2 V3 (w4.heap.size) (.bool n4) (.slice A4 k4 c4) := by rw [hV3]; exact ((Bk2.newAt _ _ (by simp) _ _ _).alloc _)
  have F4 : Bk2 V3 (w4.heap.size + 1) (.int .i64 0) (.int .i64 0) := by rw [hV3]; exact (Bk2.newAt _ _ (by simp) _ _ _)
  rw [← hV3]
  clear hV3
  replace E : Below w.heap.size w V3 := E.trans (bV3.mono E.size)
  replace HA : LRd V3 (w.heap.size) a.A a.n a.c a.xs := HA.below bV3 (by omega)
  replace HB : LRd V3 (w.heap.size) b.A b.n b.c b.xs := HB.below bV3 (by omega)
  replace HC : LRd V3 (w.heap.size) c.A c.n c.c c.xs := HC.below bV3 (by omega)
  replace PA : Bk2 V3 (w.heap.size) (.bool a.neg) (.slice a.A a.n a.c) := PA.below bV3 PA.lt
  replace PB : Bk2 V3 (w.heap.size + 1) (.bool b.neg) (.slice b.A b.n b.c) := PB.below bV3 PB.lt
  replace PC : Bk2 V3 (w.heap.size + 2) (.bool c.neg) (.slice c.A c.n c.c) := PC.below bV3 PC.lt
  replace hl3 : LRd V3 (w3.heap.size) A3 k3 c3 x3 := hl3.below bV3 (by omega)
  replace P3 : Bk2 V3 (w3.heap.size) (.bool n3) (.slice A3 k3 c3) := P3.below bV3 P3.lt
  replace F3 : Bk2 V3 (w3.heap.size + 1) (.int .i64 0) (.int .i64 0) := F3.below bV3 F3.lt
  replace hl4 : LRd V3 (w4.heap.size) A4 k4 c4 x4 := hl4.below bV3 (by omega)
  clear bV3
  have HS := Lib.hid (imul_ok _ V3.heap.size a c (LRd.more HA (by omega) : LRd _ _ a.A a.n a.c a.xs) (LRd.more HC (by omega) : LRd _ _ c.A c.n c.c c.xs) (Nat.le_refl _) oa oc)
  refine HS.out.mono ?_
  intro e w5 hgv
  clear HS
  have hbd : (a.val * c.val).natAbs < Top128 := abs_mul (mul60 QA.out QC.out)
  obtain ⟨n5, A5, k5, c5, x5, rfl, hl5, hr5, hb5⟩ := (hgv.resolve_right (fun hh => absurd hh.1 (by omega))).2
  clear hgv
  have s5 := hb5.size
  replace E : Below w.heap.size w w5 := E.trans (hb5.mono E.size)
  replace HA : LRd w5 (w.heap.size) a.A a.n a.c a.xs := HA.below hb5 (by omega)
  replace HB : LRd w5 (w.heap.size) b.A b.n b.c b.xs := HB.below hb5 (by omega)
  replace HC : LRd w5 (w.heap.size) c.A c.n c.c c.xs := HC.below hb5 (by omega)
  replace PA : Bk2 w5 (w.heap.size) (.bool a.neg) (.slice a.A a.n a.c) := PA.below hb5 PA.lt
  replace PB : Bk2 w5 (w.heap.size + 1) (.bool b.neg) (.slice b.A b.n b.c) := PB.below hb5 PB.lt
  replace PC : Bk2 w5 (w.heap.size + 2) (.bool c.neg) (.slice c.A c.n c.c) := PC.below hb5 PC.lt
  replace hl3 : LRd w5 (w3.heap.size) A3 k3 c3 x3 := hl3.below hb5 (by omega)
  replace P3 : Bk2 w5 (w3.heap.size) (.bool n3) (.slice A3 k3 c3) := P3.below hb5 P3.lt
  replace F3 : Bk2 w5 (w3.heap.size + 1) (.int .i64 0) (.int .i64 0) := F3.below hb5 F3.lt
  replace hl4 : LRd w5 (w4.heap.size) A4 k4 c4 x4 := hl4.below hb5 (by omega)
  replace P4 : Bk2 w5 (w4.heap.size) (.bool n4) (.slice A4 k4 c4) := P4.below hb5 P4.lt
  replace F4 : Bk2 w5 (w4.heap.size + 1) (.int .i64 0) (.int .i64 0) := F4.below hb5 F4.lt
  clear hb5
  have o5 := Lib.hid (hr5.iok hbd)
  have v5 := Lib.hid (hr5.ival (A := A5) (n := k5) (c := c5))
  have I5 := Lib.hid hr5
  clear hr5 hbd
  have t_PB0 : ((w5.alloc (.cells #[.bool n5, .slice A5 k5 c5] 24)).alloc (.cells #[.int .i64 0, .int .i64 0] 26)).cell? ⟨w.heap.size + 1, 0, none⟩ = some ((.bool b.neg)) := ((PB.alloc _).alloc _).c0
  have t_PB1 : ((w5.alloc (.cells #[.bool n5, .slice A5 k5 c5] 24)).alloc (.cells #[.int .i64 0, .int .i64 0] 26)).cell? ⟨w.heap.size + 1, 1, none⟩ = some ((.slice b.A b.n b.c)) := ((PB.alloc _).alloc _).c1
  have t_PC0 : ((w5.alloc (.cells #[.bool n5, .slice A5 k5 c5] 24)).alloc (.cells #[.int .i64 0, .int .i64 0] 26)).cell? ⟨w.heap.size + 2, 0, none⟩ = some ((.bool c.neg)) := ((PC.alloc _).alloc _).c0
  have t_PC1 : ((w5.alloc (.cells #[.bool n5, .slice A5 k5 c5] 24)).alloc (.cells #[.int .i64 0, .int .i64 0] 26)).cell? ⟨w.heap.size + 2, 1, none⟩ = some ((.slice c.A c.n c.c)) := ((PC.alloc _).alloc _).c1
  go_wp2_with fail
  clear t_PB0 t_PB1 t_PC0 t_PC1
  obtain ⟨V4, hV4⟩ : ∃ V4 : World, V4 = ((w5.alloc (.cells #[.bool n5, .slice A5 k5 c5] 24)).alloc (.cells #[.int .i64 0, .int .i64 0] 26)) := ⟨_, rfl⟩
  have bV4 : Below w5.heap.size w5 V4 := by rw [hV4]; (repeat (first | with_reducible exact Below.refl _ _ | with_reducible refine Below.drew ?_ | with_reducible refine below_drewN ?_ _ | with_reducible refine Below.setCell ?_ (by first | (simp; done) | (simp; omega) | omega) _ | with_reducible refine Below.alloc ?_ (by first | (simp; done) | (simp; omega) | omega) _))
  have zV4 : w5.heap.size + 2 ≤ V4.heap.size := by rw [hV4]; simp
  have P5 : Bk2 V4 (w5.heap.size) (.bool n5) (.slice A5 k5 c5) := by rw [hV4]; exact ((Bk2.newAt _ _ (by simp) _ _ _).alloc _)
  have F5 : Bk2 V4 (w5.heap.size + 1) (.int .i64 0) (.int .i64 0) := by rw [hV4]; exact (Bk2.newAt _ _ (by simp) _ _ _)
  rw [← hV4]
  clear hV4
  replace E : Below w.heap.size w V4 := E.trans (bV4.mono E.size)
  replace HA : LRd V4 (w.heap.size) a.A a.n a.c a.xs := HA.below bV4 (by omega)
  replace HB : LRd V4 (w.heap.size) b.A b.n b.c b.xs := HB.below bV4 (by omega)
  replace HC : LRd V4 (w.heap.size) c.A c.n c.c c.xs := HC.below bV4 (by omega)
  replace PA : Bk2 V4 (w.heap.size) (.bool a.neg) (.slice a.A a.n a.c) := PA.below bV4 PA.lt
  replace PB : Bk2 V4 (w.heap.size + 1) (.bool b.neg) (.slice b.A b.n b.c) := PB.below bV4 PB.lt
  replace PC : Bk2 V4 (w.heap.size + 2) (.bool c.neg) (.slice c.A c.n c.c) := PC.below bV4 PC.lt
  replace hl3 : LRd V4 (w3.heap.size) A3 k3 c3 x3 := hl3.below bV4 (by omega)
  replace P3 : Bk2 V4 (w3.heap.size) (.bool n3) (.slice A3 k3 c3) := P3.below bV4 P3.lt
  replace F3 : Bk2 V4 (w3.heap.size + 1) (.int .i64 0) (.int .i64 0) := F3.below bV4 F3.lt
  replace hl4 : LRd V4 (w4.heap.size) A4 k4 c4 x4 := hl4.below bV4 (by omega)
  replace P4 : Bk2 V4 (w4.heap.size) (.bool n4) (.slice A4 k4 c4) := P4.below bV4 P4.lt
  replace F4 : Bk2 V4 (w4.heap.size + 1) (.int .i64 0) (.int .i64 0) := F4.below bV4 F4.lt
  replace hl5 : LRd V4 (w5.heap.size) A5 k5 c5 x5 := hl5.below bV4 (by omega)
  clear bV4
  have HS := Lib.hid (imul_ok _ V4.heap.size b c (LRd.more HB (by omega) : LRd _ _ b.A b.n b.c b.xs) (LRd.more HC (by omega) : LRd _ _ c.A c.n c.c c.xs) (Nat.le_refl _) ob oc)
  refine HS.out.mono ?_
  intro e w6 hgv
  clear HS
  have hbd : (b.val * c.val).natAbs < Top128 := abs_mul (mul60 QB.out QC.out)
  obtain ⟨n6, A6, k6, c6, x6, rfl, hl6, hr6, hb6⟩ := (hgv.resolve_right (fun hh => absurd hh.1 (by omega))).2
  clear hgv
  have s6 := hb6.size
  replace E : Below w.heap.size w w6 := E.trans (hb6.mono E.size)
  replace HA : LRd w6 (w.heap.size) a.A a.n a.c a.xs := HA.below hb6 (by omega)
  replace HB : LRd w6 (w.heap.size) b.A b.n b.c b.xs := HB.below hb6 (by omega)
  replace HC : LRd w6 (w.heap.size) c.A c.n c.c c.xs := HC.below hb6 (by omega)
  replace PA : Bk2 w6 (w.heap.size) (.bool a.neg) (.slice a.A a.n a.c) := PA.below hb6 PA.lt
  replace PB : Bk2 w6 (w.heap.size + 1) (.bool b.neg) (.slice b.A b.n b.c) := PB.below hb6 PB.lt
  replace PC : Bk2 w6 (w.heap.size + 2) (.bool c.neg) (.slice c.A c.n c.c) := PC.below hb6 PC.lt
  replace hl3 : LRd w6 (w3.heap.size) A3 k3 c3 x3 := hl3.below hb6 (by omega)
  replace P3 : Bk2 w6 (w3.heap.size) (.bool n3) (.slice A3 k3 c3) := P3.below hb6 P3.lt
  replace F3 : Bk2 w6 (w3.heap.size + 1) (.int .i64 0) (.int .i64 0) := F3.below hb6 F3.lt
  replace hl4 : LRd w6 (w4.heap.size) A4 k4 c4 x4 := hl4.below hb6 (by omega)
  replace P4 : Bk2 w6 (w4.heap.size) (.bool n4) (.slice A4 k4 c4) := P4.below hb6 P4.lt
  replace F4 : Bk2 w6 (w4.heap.size + 1) (.int .i64 0) (.int .i64 0) := F4.below hb6 F4.lt
  replace hl5 : LRd w6 (w5.heap.size) A5 k5 c5 x5 := hl5.below hb6 (by omega)
  replace P5 : Bk2 w6 (w5.heap.size) (.bool n5) (.slice A5 k5 c5) := P5.below hb6 P5.lt
  replace F5 : Bk2 w6 (w5.heap.size + 1) (.int .i64 0) (.int .i64 0) := F5.below hb6 F5.lt
  clear hb6
  have o6 := Lib.hid (hr6.iok hbd)
  have v6 := Lib.hid (hr6.ival (A := A6) (n := k6) (c := c6))
  have I6 := Lib.hid hr6
  clear hr6 hbd
  have t_P50 : ((w6.alloc (.cells #[.bool n6, .slice A6 k6 c6] 24)).alloc (.cells #[.int .i64 0, .int .i64 0] 26)).cell? ⟨w5.heap.size, 0, none⟩ = some ((.bool n5)) := ((P5.alloc _).alloc _).c0
  have t_P51 : ((w6.alloc (.cells #[.bool n6, .slice A6 k6 c6] 24)).alloc (.cells #[.int .i64 0, .int .i64 0] 26)).cell? ⟨w5.heap.size, 1, none⟩ = some ((.slice A5 k5 c5)) := ((P5.alloc _).alloc _).c1
  go_wp2_with fail
  clear t_P50 t_P51
  obtain ⟨V5, hV5⟩ : ∃ V5 : World, V5 = ((w6.alloc (.cells #[.bool n6, .slice A6 k6 c6] 24)).alloc (.cells #[.int .i64 0, .int .i64 0] 26)) := ⟨_, rfl⟩
  have bV5 : Below w6.heap.size w6 V5 := by rw [hV5]; (repeat (first | with_reducible exact Below.refl _ _ | with_reducible refine Below.drew ?_ | with_reducible refine below_drewN ?_ _ | with_reducible refine Below.setCell ?_ (by first | (simp; done) | (simp; omega) | omega) _ | with_reducible refine Below.alloc ?_ (by first | (simp; done) | (simp; omega) | omega) _))
  have zV5 : w6.heap.size + 2 ≤ V5.heap.size := by rw [hV5]; simp
  have P6 : Bk2 V5 (w6.heap.size) (.bool n6) (.slice A6 k6 c6) := by rw [hV5]; exact ((Bk2.newAt _ _ (by simp) _ _ _).alloc _)
  have F6 : Bk2 V5 (w6.heap.size + 1) (.int .i64 0) (.int .i64 0) := by rw [hV5]; exact (Bk2.newAt _ _ (by simp) _ _ _)
  rw [← hV5]
  clear hV5
  replace E : Below w.heap.size w V5 := E.trans (bV5.mono E.size)
  replace HA : LRd V5 (w.heap.size) a.A a.n a.c a.xs := HA.below bV5 (by omega)
  replace HB : LRd V5 (w.heap.size) b.A b.n b.c b.xs := HB.below bV5 (by omega)
  replace HC : LRd V5 (w.heap.size) c.A c.n c.c c.xs := HC.below bV5 (by omega)
  replace PA : Bk2 V5 (w.heap.size) (.bool a.neg) (.slice a.A a.n a.c) := PA.below bV5 PA.lt
  replace PB : Bk2 V5 (w.heap.size + 1) (.bool b.neg) (.slice b.A b.n b.c) := PB.below bV5 PB.lt
  replace PC : Bk2 V5 (w.heap.size + 2) (.bool c.neg) (.slice c.A c.n c.c) := PC.below bV5 PC.lt
  replace hl3 : LRd V5 (w3.heap.size) A3 k3 c3 x3 := hl3.below bV5 (by omega)
  replace P3 : Bk2 V5 (w3.heap.size) (.bool n3) (.slice A3 k3 c3) := P3.below bV5 P3.lt
  replace F3 : Bk2 V5 (w3.heap.size + 1) (.int .i64 0) (.int .i64 0) := F3.below bV5 F3.lt
  replace hl4 : LRd V5 (w4.heap.size) A4 k4 c4 x4 := hl4.below bV5 (by omega)
  replace P4 : Bk2 V5 (w4.heap.size) (.bool n4) (.slice A4 k4 c4) := P4.below bV5 P4.lt
  replace F4 : Bk2 V5 (w4.heap.size + 1) (.int .i64 0) (.int .i64 0) := F4.below bV5 F4.lt
  replace hl5 : LRd V5 (w5.heap.size) A5 k5 c5 x5 := hl5.below bV5 (by omega)
  replace P5 : Bk2 V5 (w5.heap.size) (.bool n5) (.slice A5 k5 c5) := P5.below bV5 P5.lt
  replace F5 : Bk2 V5 (w5.heap.size + 1) (.int .i64 0) (.int .i64 0) := F5.below bV5 F5.lt
  replace hl6 : LRd V5 (w6.heap.size) A6 k6 c6 x6 := hl6.below bV5 (by omega)
  clear bV5
  have HS := Lib.hid (iadd_ok _ V5.heap.size (IV.mk n5 A5 k5 c5 x5) (IV.mk n6 A6 k6 c6 x6) (LRd.more hl5 (by omega) : LRd _ _ A5 k5 c5 x5) (LRd.more hl6 (by omega) : LRd _ _ A6 k6 c6 x6) (Nat.le_refl _) o5.out o6.out)
  refine HS.out.mono ?_
  intro e w7 hgv
  clear HS
  rw [v5.out, v6.out] at hgv
  have hbd : (a.val * c.val + b.val * c.val).natAbs < Top128 := by have := abs_mul (x := a.val + b.val) (y := c.val) (Nat.lt_of_le_of_lt (Nat.mul_le_mul_right _ (show (a.val + b.val).natAbs ≤ a.val.natAbs + b.val.natAbs by omega)) (mul61 QA.out QB.out QC.out)); rwa [Int.add_mul] at this
  obtain ⟨n7, A7, k7, c7, x7, rfl, hl7, hr7, hb7⟩ := (hgv.resolve_right (fun hh => absurd hh.1 (by omega))).2
  clear hgv
  have s7 := hb7.size
  replace E : Below w.heap.size w w7 := E.trans (hb7.mono E.size)
  replace HA : LRd w7 (w.heap.size) a.A a.n a.c a.xs := HA.below hb7 (by omega)
  replace HB : LRd w7 (w.heap.size) b.A b.n b.c b.xs := HB.below hb7 (by omega)
  replace HC : LRd w7 (w.heap.size) c.A c.n c.c c.xs := HC.below hb7 (by omega)
  replace PA : Bk2 w7 (w.heap.size) (.bool a.neg) (.slice a.A a.n a.c) := PA.below hb7 PA.lt
  replace PB : Bk2 w7 (w.heap.size + 1) (.bool b.neg) (.slice b.A b.n b.c) := PB.below hb7 PB.lt
  replace PC : Bk2 w7 (w.heap.size + 2) (.bool c.neg) (.slice c.A c.n c.c) := PC.below hb7 PC.lt
  replace hl3 : LRd w7 (w3.heap.size) A3 k3 c3 x3 := hl3.below hb7 (by omega)
  replace P3 : Bk2 w7 (w3.heap.size) (.bool n3) (.slice A3 k3 c3) := P3.below hb7 P3.lt
  replace F3 : Bk2 w7 (w3.heap.size + 1) (.int .i64 0) (.int .i64 0) := F3.below hb7 F3.lt
  replace hl4 : LRd w7 (w4.heap.size) A4 k4 c4 x4 := hl4.below hb7 (by omega)
  replace P4 : Bk2 w7 (w4.heap.size) (.bool n4) (.slice A4 k4 c4) := P4.below hb7 P4.lt
  replace F4 : Bk2 w7 (w4.heap.size + 1) (.int .i64 0) (.int .i64 0) := F4.below hb7 F4.lt
  replace hl5 : LRd w7 (w5.heap.size) A5 k5 c5 x5 := hl5.below hb7 (by omega)
  replace P5 : Bk2 w7 (w5.heap.size) (.bool n5) (.slice A5 k5 c5) := P5.below hb7 P5.lt
  replace F5 : Bk2 w7 (w5.heap.size + 1) (.int .i64 0) (.int .i64 0) := F5.below hb7 F5.lt
  replace hl6 : LRd w7 (w6.heap.size) A6 k6 c6 x6 := hl6.below hb7 (by omega)
  replace P6 : Bk2 w7 (w6.heap.size) (.bool n6) (.slice A6 k6 c6) := P6.below hb7 P6.lt
  replace F6 : Bk2 w7 (w6.heap.size + 1) (.int .i64 0) (.int .i64 0) := F6.below hb7 F6.lt
  clear hb7
  have o7 := Lib.hid (hr7.iok hbd)
  have v7 := Lib.hid (hr7.ival (A := A7) (n := k7) (c := c7))
  have I7 := Lib.hid hr7
  clear hr7 hbd
  have t_P30 : ((w7.alloc (.cells #[.bool n7, .slice A7 k7 c7] 24)).alloc (.cells #[.int .i64 0, .int .i64 0] 26)).cell? ⟨w3.heap.size, 0, none⟩ = some ((.bool n3)) := ((P3.alloc _).alloc _).c0
  have t_P31 : ((w7.alloc (.cells #[.bool n7, .slice A7 k7 c7] 24)).alloc (.cells #[.int .i64 0, .int .i64 0] 26)).cell? ⟨w3.heap.size, 1, none⟩ = some ((.slice A3 k3 c3)) := ((P3.alloc _).alloc _).c1
  have t_PB0 : ((w7.alloc (.cells #[.bool n7, .slice A7 k7 c7] 24)).alloc (.cells #[.int .i64 0, .int .i64 0] 26)).cell? ⟨w.heap.size + 1, 0, none⟩ = some ((.bool b.neg)) := ((PB.alloc _).alloc _).c0
  have t_PB1 : ((w7.alloc (.cells #[.bool n7, .slice A7 k7 c7] 24)).alloc (.cells #[.int .i64 0, .int .i64 0] 26)).cell? ⟨w.heap.size + 1, 1, none⟩ = some ((.slice b.A b.n b.c)) := ((PB.alloc _).alloc _).c1
  go_wp2_with fail
  clear t_P30 t_P31 t_PB0 t_PB1
  obtain ⟨V6, hV6⟩ : ∃ V6 : World, V6 = ((w7.alloc (.cells #[.bool n7, .slice A7 k7 c7] 24)).alloc (.cells #[.int .i64 0, .int .i64 0] 26)) := ⟨_, rfl⟩
  have bV6 : Below w7.heap.size w7 V6 := by rw [hV6]; (repeat (first | with_reducible exact Below.refl _ _ | with_reducible refine Below.drew ?_ | with_reducible refine below_drewN ?_ _ | with_reducible refine Below.setCell ?_ (by first | (simp; done) | (simp; omega) | omega) _ | with_reducible refine Below.alloc ?_ (by first | (simp; done) | (simp; omega) | omega) _))
  have zV6 : w7.heap.size + 2 ≤ V6.heap.size := by rw [hV6]; simp
  have P7 : Bk2 V6 (w7.heap.size) (.bool n7) (.slice A7 k7 c7) := by rw [hV6]; exact ((Bk2.newAt _ _ (by simp) _ _ _).alloc _)
  have F7 : Bk2 V6 (w7.heap.size + 1) (.int .i64 0) (.int .i64 0) := by rw [hV6]; exact (Bk2.newAt _ _ (by simp) _ _ _)
  rw [← hV6]
  clear hV6
  replace E : Below w.heap.size w V6 := E.trans (bV6.mono E.size)
  replace HA : LRd V6 (w.heap.size) a.A a.n a.c a.xs := HA.below bV6 (by omega)
  replace HB : LRd V6 (w.heap.size) b.A b.n b.c b.xs := HB.below bV6 (by omega)
  replace HC : LRd V6 (w.heap.size) c.A c.n c.c c.xs := HC.below bV6 (by omega)
  replace PA : Bk2 V6 (w.heap.size) (.bool a.neg) (.slice a.A a.n a.c) := PA.below bV6 PA.lt
  replace PB : Bk2 V6 (w.heap.size + 1) (.bool b.neg) (.slice b.A b.n b.c) := PB.below bV6 PB.lt
  replace PC : Bk2 V6 (w.heap.size + 2) (.bool c.neg) (.slice c.A c.n c.c) := PC.below bV6 PC.lt
  replace hl3 : LRd V6 (w3.heap.size) A3 k3 c3 x3 := hl3.below bV6 (by omega)
  replace P3 : Bk2 V6 (w3.heap.size) (.bool n3) (.slice A3 k3 c3) := P3.below bV6 P3.lt
  replace F3 : Bk2 V6 (w3.heap.size + 1) (.int .i64 0) (.int .i64 0) := F3.below bV6 F3.lt
  replace hl4 : LRd V6 (w4.heap.size) A4 k4 c4 x4 := hl4.below bV6 (by omega)
  replace P4 : Bk2 V6 (w4.heap.size) (.bool n4) (.slice A4 k4 c4) := P4.below bV6 P4.lt
  replace F4 : Bk2 V6 (w4.heap.size + 1) (.int .i64 0) (.int .i64 0) := F4.below bV6 F4.lt
  replace hl5 : LRd V6 (w5.heap.size) A5 k5 c5 x5 := hl5.below bV6 (by omega)
  replace P5 : Bk2 V6 (w5.heap.size) (.bool n5) (.slice A5 k5 c5) := P5.below bV6 P5.lt
  replace F5 : Bk2 V6 (w5.heap.size + 1) (.int .i64 0) (.int .i64 0) := F5.below bV6 F5.lt
  replace hl6 : LRd V6 (w6.heap.size) A6 k6 c6 x6 := hl6.below bV6 (by omega)
  replace P6 : Bk2 V6 (w6.heap.size) (.bool n6) (.slice A6 k6 c6) := P6.below bV6 P6.lt
  replace F6 : Bk2 V6 (w6.heap.size + 1) (.int .i64 0) (.int .i64 0) := F6.below bV6 F6.lt
  replace hl7 : LRd V6 (w7.heap.size) A7 k7 c7 x7 := hl7.below bV6 (by omega)
  clear bV6
  have HS := Lib.hid (isub_ok _ V6.heap.size (IV.mk n3 A3 k3 c3 x3) b (LRd.more hl3 (by omega) : LRd _ _ A3 k3 c3 x3) (LRd.more HB (by omega) : LRd _ _ b.A b.n b.c b.xs) (Nat.le_refl _) o3.out ob)
  refine HS.out.mono ?_
  intro e w8 hgv
  clear HS
  rw [neg_sub] at hgv
  rw [v3.out] at hgv
  have hbd : (a.val + b.val - b.val).natAbs < Top128 := by rw [show a.val + b.val - b.val = a.val by omega]; exact t60 QA.out
  obtain ⟨n8, A8, k8, c8, x8, rfl, hl8, hr8, hb8⟩ := (hgv.resolve_right (fun hh => absurd hh.1 (by omega))).2
  clear hgv
  have s8 := hb8.size
  replace E : Below w.heap.size w w8 := E.trans (hb8.mono E.size)
  replace HA : LRd w8 (w.heap.size) a.A a.n a.c a.xs := HA.below hb8 (by omega)
  replace HB : LRd w8 (w.heap.size) b.A b.n b.c b.xs := HB.below hb8 (by omega)
  replace HC : LRd w8 (w.heap.size) c.A c.n c.c c.xs := HC.below hb8 (by omega)
  replace PA : Bk2 w8 (w.heap.size) (.bool a.neg) (.slice a.A a.n a.c) := PA.below hb8 PA.lt
  replace PB : Bk2 w8 (w.heap.size + 1) (.bool b.neg) (.slice b.A b.n b.c) := PB.below hb8 PB.lt
  replace PC : Bk2 w8 (w.heap.size + 2) (.bool c.neg) (.slice c.A c.n c.c) := PC.below hb8 PC.lt
  replace hl3 : LRd w8 (w3.heap.size) A3 k3 c3 x3 := hl3.below hb8 (by omega)
  replace P3 : Bk2 w8 (w3.heap.size) (.bool n3) (.slice A3 k3 c3) := P3.below hb8 P3.lt
  replace F3 : Bk2 w8 (w3.heap.size + 1) (.int .i64 0) (.int .i64 0) := F3.below hb8 F3.lt
  replace hl4 : LRd w8 (w4.heap.size) A4 k4 c4 x4 := hl4.below hb8 (by omega)
  replace P4 : Bk2 w8 (w4.heap.size) (.bool n4) (.slice A4 k4 c4) := P4.below hb8 P4.lt
  replace F4 : Bk2 w8 (w4.heap.size + 1) (.int .i64 0) (.int .i64 0) := F4.below hb8 F4.lt
  replace hl5 : LRd w8 (w5.heap.size) A5 k5 c5 x5 := hl5.below hb8 (by omega)
  replace P5 : Bk2 w8 (w5.heap.size) (.bool n5) (.slice A5 k5 c5) := P5.below hb8 P5.lt
  replace F5 : Bk2 w8 (w5.heap.size + 1) (.int .i64 0) (.int .i64 0) := F5.below hb8 F5.lt
  replace hl6 : LRd w8 (w6.heap.size) A6 k6 c6 x6 := hl6.below hb8 (by omega)
  replace P6 : Bk2 w8 (w6.heap.size) (.bool n6) (.slice A6 k6 c6) := P6.below hb8 P6.lt
  replace F6 : Bk2 w8 (w6.heap.size + 1) (.int .i64 0) (.int .i64 0) := F6.below hb8 F6.lt
  replace hl7 : LRd w8 (w7.heap.size) A7 k7 c7 x7 := hl7.below hb8 (by omega)
  replace P7 : Bk2 w8 (w7.heap.size) (.bool n7) (.slice A7 k7 c7) := P7.below hb8 P7.lt
  replace F7 : Bk2 w8 (w7.heap.size + 1) (.int .i64 0) (.int .i64 0) := F7.below hb8 F7.lt
  clear hb8
  have o8 := Lib.hid (hr8.iok hbd)
  have v8 := Lib.hid (hr8.ival (A := A8) (n := k8) (c := c8))
  have I8 := Lib.hid hr8
  clear hr8 hbd
  have t_F30 : ((w8.alloc (.cells #[.bool n8, .slice A8 k8 c8] 24)).alloc (.cells #[.int .i64 0, .int .i64 0] 26)).cell? ⟨w3.heap.size + 1, 0, none⟩ = some ((.int .i64 0)) := ((F3.alloc _).alloc _).c0
  have t_F31 : ((w8.alloc (.cells #[.bool n8, .slice A8 k8 c8] 24)).alloc (.cells #[.int .i64 0, .int .i64 0] 26)).cell? ⟨w3.heap.size + 1, 1, none⟩ = some ((.int .i64 0)) := ((F3.alloc _).alloc _).c1
  have t_F40 : ((w8.alloc (.cells #[.bool n8, .slice A8 k8 c8] 24)).alloc (.cells #[.int .i64 0, .int .i64 0] 26)).cell? ⟨w4.heap.size + 1, 0, none⟩ = some ((.int .i64 0)) := ((F4.alloc _).alloc _).c0
  have t_F41 : ((w8.alloc (.cells #[.bool n8, .slice A8 k8 c8] 24)).alloc (.cells #[.int .i64 0, .int .i64 0] 26)).cell? ⟨w4.heap.size + 1, 1, none⟩ = some ((.int .i64 0)) := ((F4.alloc _).alloc _).c1
  have t_F50 : ((w8.alloc (.cells #[.bool n8, .slice A8 k8 c8] 24)).alloc (.cells #[.int .i64 0, .int .i64 0] 26)).cell? ⟨w5.heap.size + 1, 0, none⟩ = some ((.int .i64 0)) := ((F5.alloc _).alloc _).c0
  have t_F51 : ((w8.alloc (.cells #[.bool n8, .slice A8 k8 c8] 24)).alloc (.cells #[.int .i64 0, .int .i64 0] 26)).cell? ⟨w5.heap.size + 1, 1, none⟩ = some ((.int .i64 0)) := ((F5.alloc _).alloc _).c1
  have t_F60 : ((w8.alloc (.cells #[.bool n8, .slice A8 k8 c8] 24)).alloc (.cells #[.int .i64 0, .int .i64 0] 26)).cell? ⟨w6.heap.size + 1, 0, none⟩ = some ((.int .i64 0)) := ((F6.alloc _).alloc _).c0
  have t_F61 : ((w8.alloc (.cells #[.bool n8, .slice A8 k8 c8] 24)).alloc (.cells #[.int .i64 0, .int .i64 0] 26)).cell? ⟨w6.heap.size + 1, 1, none⟩ = some ((.int .i64 0)) := ((F6.alloc _).alloc _).c1
  have t_F70 : ((w8.alloc (.cells #[.bool n8, .slice A8 k8 c8] 24)).alloc (.cells #[.int .i64 0, .int .i64 0] 26)).cell? ⟨w7.heap.size + 1, 0, none⟩ = some ((.int .i64 0)) := ((F7.alloc _).alloc _).c0
  have t_F71 : ((w8.alloc (.cells #[.bool n8, .slice A8 k8 c8] 24)).alloc (.cells #[.int .i64 0, .int .i64 0] 26)).cell? ⟨w7.heap.size + 1, 1, none⟩ = some ((.int .i64 0)) := ((F7.alloc _).alloc _).c1
  have t_P40 : ((w8.alloc (.cells #[.bool n8, .slice A8 k8 c8] 24)).alloc (.cells #[.int .i64 0, .int .i64 0] 26)).cell? ⟨w4.heap.size, 0, none⟩ = some ((.bool n4)) := ((P4.alloc _).alloc _).c0
  have t_P41 : ((w8.alloc (.cells #[.bool n8, .slice A8 k8 c8] 24)).alloc (.cells #[.int .i64 0, .int .i64 0] 26)).cell? ⟨w4.heap.size, 1, none⟩ = some ((.slice A4 k4 c4)) := ((P4.alloc _).alloc _).c1
  have t_P70 : ((w8.alloc (.cells #[.bool n8, .slice A8 k8 c8] 24)).alloc (.cells #[.int .i64 0, .int .i64 0] 26)).cell? ⟨w7.heap.size, 0, none⟩ = some ((.bool n7)) := ((P7.alloc _).alloc _).c0
  have t_P71 : ((w8.alloc (.cells #[.bool n8, .slice A8 k8 c8] 24)).alloc (.cells #[.int .i64 0, .int .i64 0] 26)).cell? ⟨w7.heap.size, 1, none⟩ = some ((.slice A7 k7 c7)) := ((P7.alloc _).alloc _).c1
  go_wp2_with fail
  clear t_F30 t_F31 t_F40 t_F41 t_F50 t_F51 t_F60 t_F61 t_F70 t_F71 t_P40 t_P41 t_P70 t_P71
  obtain ⟨V7, hV7⟩ : ∃ V7 : World, V7 = ((w8.alloc (.cells #[.bool n8, .slice A8 k8 c8] 24)).alloc (.cells #[.int .i64 0, .int .i64 0] 26)) := ⟨_, rfl⟩
  have bV7 : Below w8.heap.size w8 V7 := by rw [hV7]; (repeat (first | with_reducible exact Below.refl _ _ | with_reducible refine Below.drew ?_ | with_reducible refine below_drewN ?_ _ | with_reducible refine Below.setCell ?_ (by first | (simp; done) | (simp; omega) | omega) _ | with_reducible refine Below.alloc ?_ (by first | (simp; done) | (simp; omega) | omega) _))
  have zV7 : w8.heap.size + 2 ≤ V7.heap.size := by rw [hV7]; simp
  have P8 : Bk2 V7 (w8.heap.size) (.bool n8) (.slice A8 k8 c8) := by rw [hV7]; exact ((Bk2.newAt _ _ (by simp) _ _ _).alloc _)
  have F8 : Bk2 V7 (w8.heap.size + 1) (.int .i64 0) (.int .i64 0) := by rw [hV7]; exact (Bk2.newAt _ _ (by simp) _ _ _)
  rw [← hV7]
  clear hV7
  replace E : Below w.heap.size w V7 := E.trans (bV7.mono E.size)
  replace HA : LRd V7 (w.heap.size) a.A a.n a.c a.xs := HA.below bV7 (by omega)
  replace HB : LRd V7 (w.heap.size) b.A b.n b.c b.xs := HB.below bV7 (by omega)
  replace HC : LRd V7 (w.heap.size) c.A c.n c.c c.xs := HC.below bV7 (by omega)
  replace PA : Bk2 V7 (w.heap.size) (.bool a.neg) (.slice a.A a.n a.c) := PA.below bV7 PA.lt
  replace PB : Bk2 V7 (w.heap.size + 1) (.bool b.neg) (.slice b.A b.n b.c) := PB.below bV7 PB.lt
  replace PC : Bk2 V7 (w.heap.size + 2) (.bool c.neg) (.slice c.A c.n c.c) := PC.below bV7 PC.lt
  replace hl3 : LRd V7 (w3.heap.size) A3 k3 c3 x3 := hl3.below bV7 (by omega)
  replace P3 : Bk2 V7 (w3.heap.size) (.bool n3) (.slice A3 k3 c3) := P3.below bV7 P3.lt
  replace F3 : Bk2 V7 (w3.heap.size + 1) (.int .i64 0) (.int .i64 0) := F3.below bV7 F3.lt
  replace hl4 : LRd V7 (w4.heap.size) A4 k4 c4 x4 := hl4.below bV7 (by omega)
  replace P4 : Bk2 V7 (w4.heap.size) (.bool n4) (.slice A4 k4 c4) := P4.below bV7 P4.lt
  replace F4 : Bk2 V7 (w4.heap.size + 1) (.int .i64 0) (.int .i64 0) := F4.below bV7 F4.lt
  replace hl5 : LRd V7 (w5.heap.size) A5 k5 c5 x5 := hl5.below bV7 (by omega)
  replace P5 : Bk2 V7 (w5.heap.size) (.bool n5) (.slice A5 k5 c5) := P5.below bV7 P5.lt
  replace F5 : Bk2 V7 (w5.heap.size + 1) (.int .i64 0) (.int .i64 0) := F5.below bV7 F5.lt
  replace hl6 : LRd V7 (w6.heap.size) A6 k6 c6 x6 := hl6.below bV7 (by omega)
  replace P6 : Bk2 V7 (w6.heap.size) (.bool n6) (.slice A6 k6 c6) := P6.below bV7 P6.lt
  replace F6 : Bk2 V7 (w6.heap.size + 1) (.int .i64 0) (.int .i64 0) := F6.below bV7 F6.lt
  replace hl7 : LRd V7 (w7.heap.size) A7 k7 c7 x7 := hl7.below bV7 (by omega)
  replace P7 : Bk2 V7 (w7.heap.size) (.bool n7) (.slice A7 k7 c7) := P7.below bV7 P7.lt
  replace F7 : Bk2 V7 (w7.heap.size + 1) (.int .i64 0) (.int .i64 0) := F7.below bV7 F7.lt
  replace hl8 : LRd V7 (w8.heap.size) A8 k8 c8 x8 := hl8.below bV7 (by omega)
  clear bV7
  have e1 := Lib.hid (irep_eq I4.out (by have := I7.out; rwa [← Int.add_mul] at this))
  have e2 := Lib.hid (irep_eq I8.out (by have := IA.out; rwa [show a.val + b.val - b.val = a.val by omega]))
  (with_reducible refine (sameInts_any _ V7.heap.size n4 n7 A4 A7 k4 k7 c4 c7 x4 x7 (hl4.more (by omega)) (hl7.more (by omega)) (Nat.le_refl _)).mono ?_)
  rintro e w9 ⟨rfl, hb9⟩
  have sw9 := hb9.size
  replace E : Below w.heap.size w w9 := E.trans (hb9.mono E.size)
  replace HA : LRd w9 (w.heap.size) a.A a.n a.c a.xs := HA.below hb9 (by omega)
  replace HB : LRd w9 (w.heap.size) b.A b.n b.c b.xs := HB.below hb9 (by omega)
  replace HC : LRd w9 (w.heap.size) c.A c.n c.c c.xs := HC.below hb9 (by omega)
  replace PA : Bk2 w9 (w.heap.size) (.bool a.neg) (.slice a.A a.n a.c) := PA.below hb9 PA.lt
  replace PB : Bk2 w9 (w.heap.size + 1) (.bool b.neg) (.slice b.A b.n b.c) := PB.below hb9 PB.lt
  replace PC : Bk2 w9 (w.heap.size + 2) (.bool c.neg) (.slice c.A c.n c.c) := PC.below hb9 PC.lt
  replace hl3 : LRd w9 (w3.heap.size) A3 k3 c3 x3 := hl3.below hb9 (by omega)
  replace P3 : Bk2 w9 (w3.heap.size) (.bool n3) (.slice A3 k3 c3) := P3.below hb9 P3.lt
  replace F3 : Bk2 w9 (w3.heap.size + 1) (.int .i64 0) (.int .i64 0) := F3.below hb9 F3.lt
  replace hl4 : LRd w9 (w4.heap.size) A4 k4 c4 x4 := hl4.below hb9 (by omega)
  replace P4 : Bk2 w9 (w4.heap.size) (.bool n4) (.slice A4 k4 c4) := P4.below hb9 P4.lt
  replace F4 : Bk2 w9 (w4.heap.size + 1) (.int .i64 0) (.int .i64 0) := F4.below hb9 F4.lt
  replace hl5 : LRd w9 (w5.heap.size) A5 k5 c5 x5 := hl5.below hb9 (by omega)
  replace P5 : Bk2 w9 (w5.heap.size) (.bool n5) (.slice A5 k5 c5) := P5.below hb9 P5.lt
  replace F5 : Bk2 w9 (w5.heap.size + 1) (.int .i64 0) (.int .i64 0) := F5.below hb9 F5.lt
  replace hl6 : LRd w9 (w6.heap.size) A6 k6 c6 x6 := hl6.below hb9 (by omega)
  replace P6 : Bk2 w9 (w6.heap.size) (.bool n6) (.slice A6 k6 c6) := P6.below hb9 P6.lt
  replace F6 : Bk2 w9 (w6.heap.size + 1) (.int .i64 0) (.int .i64 0) := F6.below hb9 F6.lt
  replace hl7 : LRd w9 (w7.heap.size) A7 k7 c7 x7 := hl7.below hb9 (by omega)
  replace P7 : Bk2 w9 (w7.heap.size) (.bool n7) (.slice A7 k7 c7) := P7.below hb9 P7.lt
  replace F7 : Bk2 w9 (w7.heap.size + 1) (.int .i64 0) (.int .i64 0) := F7.below hb9 F7.lt
  replace hl8 : LRd w9 (w8.heap.size) A8 k8 c8 x8 := hl8.below hb9 (by omega)
  replace P8 : Bk2 w9 (w8.heap.size) (.bool n8) (.slice A8 k8 c8) := P8.below hb9 P8.lt
  replace F8 : Bk2 w9 (w8.heap.size + 1) (.int .i64 0) (.int .i64 0) := F8.below hb9 F8.lt
  clear hb9
  rw [e1.out]
  have t_P80 : w9.cell? ⟨w8.heap.size, 0, none⟩ = some ((.bool n8)) := P8.c0
  have t_P81 : w9.cell? ⟨w8.heap.size, 1, none⟩ = some ((.slice A8 k8 c8)) := P8.c1
  have t_PA0 : w9.cell? ⟨w.heap.size, 0, none⟩ = some ((.bool a.neg)) := PA.c0
  have t_PA1 : w9.cell? ⟨w.heap.size, 1, none⟩ = some ((.slice a.A a.n a.c)) := PA.c1
  go_wp2_with fail
  clear t_P80 t_P81 t_PA0 t_PA1
  (with_reducible refine (sameInts_any _ w9.heap.size n8 a.neg A8 a.A k8 a.n c8 a.c x8 a.xs (hl8.more (by omega)) (HA.more (by omega)) (Nat.le_refl _)).mono ?_)
  rintro e w10 ⟨rfl, hb10⟩
  have sw10 := hb10.size
  replace E : Below w.heap.size w w10 := E.trans (hb10.mono E.size)
  replace HA : LRd w10 (w.heap.size) a.A a.n a.c a.xs := HA.below hb10 (by omega)
  replace HB : LRd w10 (w.heap.size) b.A b.n b.c b.xs := HB.below hb10 (by omega)
  replace HC : LRd w10 (w.heap.size) c.A c.n c.c c.xs := HC.below hb10 (by omega)
  replace PA : Bk2 w10 (w.heap.size) (.bool a.neg) (.slice a.A a.n a.c) := PA.below hb10 PA.lt
  replace PB : Bk2 w10 (w.heap.size + 1) (.bool b.neg) (.slice b.A b.n b.c) := PB.below hb10 PB.lt
  replace PC : Bk2 w10 (w.heap.size + 2) (.bool c.neg) (.slice c.A c.n c.c) := PC.below hb10 PC.lt
  replace hl3 : LRd w10 (w3.heap.size) A3 k3 c3 x3 := hl3.below hb10 (by omega)
  replace P3 : Bk2 w10 (w3.heap.size) (.bool n3) (.slice A3 k3 c3) := P3.below hb10 P3.lt
  replace F3 : Bk2 w10 (w3.heap.size + 1) (.int .i64 0) (.int .i64 0) := F3.below hb10 F3.lt
  replace hl4 : LRd w10 (w4.heap.size) A4 k4 c4 x4 := hl4.below hb10 (by omega)
  replace P4 : Bk2 w10 (w4.heap.size) (.bool n4) (.slice A4 k4 c4) := P4.below hb10 P4.lt
  replace F4 : Bk2 w10 (w4.heap.size + 1) (.int .i64 0) (.int .i64 0) := F4.below hb10 F4.lt
  replace hl5 : LRd w10 (w5.heap.size) A5 k5 c5 x5 := hl5.below hb10 (by omega)
  replace P5 : Bk2 w10 (w5.heap.size) (.bool n5) (.slice A5 k5 c5) := P5.below hb10 P5.lt
  replace F5 : Bk2 w10 (w5.heap.size + 1) (.int .i64 0) (.int .i64 0) := F5.below hb10 F5.lt
  replace hl6 : LRd w10 (w6.heap.size) A6 k6 c6 x6 := hl6.below hb10 (by omega)
  replace P6 : Bk2 w10 (w6.heap.size) (.bool n6) (.slice A6 k6 c6) := P6.below hb10 P6.lt
  replace F6 : Bk2 w10 (w6.heap.size + 1) (.int .i64 0) (.int .i64 0) := F6.below hb10 F6.lt
  replace hl7 : LRd w10 (w7.heap.size) A7 k7 c7 x7 := hl7.below hb10 (by omega)
  replace P7 : Bk2 w10 (w7.heap.size) (.bool n7) (.slice A7 k7 c7) := P7.below hb10 P7.lt
  replace F7 : Bk2 w10 (w7.heap.size + 1) (.int .i64 0) (.int .i64 0) := F7.below hb10 F7.lt
  replace hl8 : LRd w10 (w8.heap.size) A8 k8 c8 x8 := hl8.below hb10 (by omega)
  replace P8 : Bk2 w10 (w8.heap.size) (.bool n8) (.slice A8 k8 c8) := P8.below hb10 P8.lt
  replace F8 : Bk2 w10 (w8.heap.size + 1) (.int .i64 0) (.int .i64 0) := F8.below hb10 F8.lt
  clear hb10
  rw [e2.out]
  clear hl8 hl4 hl7 hl3 hl5 hl6
  clear P3 P4 P6 P8 HC PC
  have t_PB0 : w10.cell? ⟨w.heap.size + 1, 0, none⟩ = some ((.bool b.neg)) := PB.c0
  have t_PB1 : w10.cell? ⟨w.heap.size + 1, 1, none⟩ = some ((.slice b.A b.n b.c)) := PB.c1
  go_wp2_with fail
  clear t_PB0 t_PB1
  (with_reducible refine (noInt_any _ b.neg b.A b.n b.c (by omega)).mono ?_)
  rintro e w11 ⟨rfl, hb11⟩
  have sw11 := hb11.size
  replace E : Below w.heap.size w w11 := E.trans (hb11.mono E.size)
  replace HA : LRd w11 (w.heap.size) a.A a.n a.c a.xs := HA.below hb11 (by omega)
  replace HB : LRd w11 (w.heap.size) b.A b.n b.c b.xs := HB.below hb11 (by omega)
  replace PA : Bk2 w11 (w.heap.size) (.bool a.neg) (.slice a.A a.n a.c) := PA.below hb11 PA.lt
  replace PB : Bk2 w11 (w.heap.size + 1) (.bool b.neg) (.slice b.A b.n b.c) := PB.below hb11 PB.lt
  replace F3 : Bk2 w11 (w3.heap.size + 1) (.int .i64 0) (.int .i64 0) := F3.below hb11 F3.lt
  replace F4 : Bk2 w11 (w4.heap.size + 1) (.int .i64 0) (.int .i64 0) := F4.below hb11 F4.lt
  replace P5 : Bk2 w11 (w5.heap.size) (.bool n5) (.slice A5 k5 c5) := P5.below hb11 P5.lt
  replace F5 : Bk2 w11 (w5.heap.size + 1) (.int .i64 0) (.int .i64 0) := F5.below hb11 F5.lt
  replace F6 : Bk2 w11 (w6.heap.size + 1) (.int .i64 0) (.int .i64 0) := F6.below hb11 F6.lt
  replace P7 : Bk2 w11 (w7.heap.size) (.bool n7) (.slice A7 k7 c7) := P7.below hb11 P7.lt
  replace F7 : Bk2 w11 (w7.heap.size + 1) (.int .i64 0) (.int .i64 0) := F7.below hb11 F7.lt
  replace F8 : Bk2 w11 (w8.heap.size + 1) (.int .i64 0) (.int .i64 0) := F8.below hb11 F8.lt
  clear hb11
  rw [show (!b.neg && decide (b.n = 0)) = true from hb0.out]
  go_wp2_with fail
  all_goals go_ret
  all_goals exact ⟨by first | rfl | (simp; done), E⟩
end Go.Proofs.Ytpjohcbopkmbmaa
