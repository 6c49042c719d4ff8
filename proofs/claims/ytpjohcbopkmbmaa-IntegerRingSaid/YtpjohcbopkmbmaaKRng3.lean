/- IntegerRing: the law at valid arguments, with a division. -/
import Derived.Test.YtpjohcbopkmbmaaKRng2
import Derived.Test.YtpjohcbopkmbmaaKh
namespace Go.Proofs.Ytpjohcbopkmbmaa
open Go.RowKit
set_option maxHeartbeats 400000
set_option maxRecDepth 100000
set_option linter.unusedSimpArgs false
set_option linter.unusedVariables false

theorem fl_bound {a b q r : Int} (h : FloorOf a b q r) (hb : b ≠ 0) : q.natAbs ≤ a.natAbs + b.natAbs ∧ r.natAbs < b.natAbs ∧ (q * b).natAbs ≤ a.natAbs + b.natAbs := by
  obtain ⟨h1, h2⟩ := h
  have h3 : (q * b).natAbs ≤ a.natAbs + b.natAbs := by omega
  refine ⟨?_, by omega, h3⟩
  have h4 : q.natAbs * 1 ≤ q.natAbs * b.natAbs := Nat.mul_le_mul_left _ (by omega)
  rw [← Int.natAbs_mul] at h4
  omega
theorem abs_sval' (n : Nat) : sval false n = (n : Int) := rfl
set_option maxHeartbeats 8000000 in
theorem ring_main (w : World) (a b c : IV) (HA : a.at w w.heap.size) (HB : b.at w w.heap.size) (HC : c.at w w.heap.size) (oa : a.ok = true) (ob : b.ok = true) (oc : c.ok = true) (ha60 : a.n ≤ 60) (hb60 : b.n ≤ 60) (hc60 : c.n ≤ 60) (hb0 : Hid ((!b.neg && decide (b.n = 0)) = false)) :
    Calls Try.prog 9 #[a.v, b.v, c.v] w (fun e w' => e = .returned (.bool true) ∧ Below w.heap.size w w') := by
  have V := fun (x : IV) (h : x.at w w.heap.size) (o : x.ok = true) (l : x.n ≤ 60) => (show x.val.natAbs < Top60 by rw [IV.abs]; exact lt60 (⟨h.lim, rfl, (vld_top (IV.vld o).1).1⟩ : Rep 4294967296 x.xs (vb 4294967296 x.xs)) h.len.out l)
  have QA := Lib.hid (V a HA oa ha60)
  have QB := Lib.hid (V b HB ob hb60)
  have QC := Lib.hid (V c HC oc hc60)
  clear V
  have hla : (a.n : Int) ≤ 60 := by omega
  have hlb : (b.n : Int) ≤ 60 := by omega
  have hlc : (c.n : Int) ≤ 60 := by omega
  have IA := Lib.hid (IV.irep oa HA.lim)
  have IB := Lib.hid (IV.irep ob HB.lim)
  replace HA : LRd w w.heap.size a.A a.n a.c a.xs := HA
  replace HB : LRd w w.heap.size b.A b.n b.c b.xs := HB
  replace HC : LRd w w.heap.size c.A c.n c.c c.xs := HC
  have E : Below w.heap.size w w := Below.refl _ _
  have hfd := field_code
  go_enter Try.func9, Try.ntmps9
  go_wp2_with fail
  obtain ⟨V0, hV0⟩ : ∃ V0 : World, V0 = (((w.alloc (.cells #[.bool a.neg, .slice a.A a.n a.c] 24)).alloc (.cells #[.bool b.neg, .slice b.A b.n b.c] 24)).alloc (.cells #[.bool c.neg, .slice c.A c.n c.c] 24)) := ⟨_, rfl⟩
  have bV0 : Below w.heap.size w V0 := by rw [hV0]; (repeat (first | with_reducible exact Below.refl _ _ | with_reducible refine Below.drew ?_ | with_reducible refine below_drewN ?_ _ | with_reducible refine Below.setCell ?_ (by first | (simp; done) | (simp; omega) | omega) _ | with_reducible refine Below.alloc ?_ (by first | (simp; done) | (simp; omega) | omega) _))
  have zV0 : w.heap.size + 3 ≤ V0.heap.size := by rw [hV0]; simp
  have PA : Bk2 V0 (w.heap.size) (.bool a.neg) (.slice a.A a.n a.c) := by rw [hV0]; exact (((Bk2.newAt _ _ (by simp) _ _ _).alloc _).alloc _)
  have PB : Bk2 V0 (w.heap.size + 1) (.bool b.neg) (.slice b.A b.n b.c) := by rw [hV0]; exact ((Bk2.newAt _ _ (by simp) _ _ _).alloc _)
  have PC : Bk2 V0 (w.heap.size + 2) (.bool c.neg) (.slice c.A c.n c.c) := by rw [hV0]; exact (Bk2.newAt _ _ (by simp) _ _ _)
  rw [← hV0]
  clear hV0
  replace E : Below w.heap.size w V0 := E.trans (bV0.mono E.size)
  replace HA : LRd V0 (w.heap.size) a.A a.n a.c a.xs := HA.below bV0 (by omega)
  replace HB : LRd V0 (w.heap.size) b.A b.n b.c b.xs := HB.below bV0 (by omega)
  replace HC : LRd V0 (w.heap.size) c.A c.n c.c c.xs := HC.below bV0 (by omega)
  clear bV0
  (with_reducible refine (counts_any _).mono ?_)
  rintro e w1 ⟨rfl, hb1⟩
  have sw1 := hb1.size
  replace E : Below w.heap.size w w1 := E.trans (hb1.mono E.size)
  replace HA : LRd w1 (w.heap.size) a.A a.n a.c a.xs := HA.below hb1 (by omega)
  replace HB : LRd w1 (w.heap.size) b.A b.n b.c b.xs := HB.below hb1 (by omega)
  replace HC : LRd w1 (w.heap.size) c.A c.n c.c c.xs := HC.below hb1 (by omega)
  replace PA : Bk2 w1 (w.heap.size) (.bool a.neg) (.slice a.A a.n a.c) := PA.below hb1 PA.lt
  replace PB : Bk2 w1 (w.heap.size + 1) (.bool b.neg) (.slice b.A b.n b.c) := PB.below hb1 PB.lt
  replace PC : Bk2 w1 (w.heap.size + 2) (.bool c.neg) (.slice c.A c.n c.c) := PC.below hb1 PC.lt
  clear hb1
  have IR := Lib.hid (irow3 w1 w.heap.size a b c HA HB HC (by omega))
  have p_PA0 : w1.cell? ⟨w.heap.size, 0, none⟩ = some ((.bool a.neg)) := PA.c0
  have p_PA1 : w1.cell? ⟨w.heap.size, 1, none⟩ = some ((.slice a.A a.n a.c)) := PA.c1
  have p_PB0 : w1.cell? ⟨w.heap.size + 1, 0, none⟩ = some ((.bool b.neg)) := PB.c0
  have p_PB1 : w1.cell? ⟨w.heap.size + 1, 1, none⟩ = some ((.slice b.A b.n b.c)) := PB.c1
  have p_PC0 : w1.cell? ⟨w.heap.size + 2, 0, none⟩ = some ((.bool c.neg)) := PC.c0
  have p_PC1 : w1.cell? ⟨w.heap.size + 2, 1, none⟩ = some ((.slice c.A c.n c.c)) := PC.c1
  go_wp2_with fail
  clear p_PA0 p_PA1 p_PB0 p_PB1 p_PC0 p_PC1
  obtain ⟨V1, hV1⟩ : ∃ V1 : World, V1 = (w1.alloc (.cells #[.bool a.neg, .slice a.A a.n a.c, .bool b.neg, .slice b.A b.n b.c, .bool c.neg, .slice c.A c.n c.c] 24)) := ⟨_, rfl⟩
  have bV1 : Below w1.heap.size w1 V1 := by rw [hV1]; (repeat (first | with_reducible exact Below.refl _ _ | with_reducible refine Below.drew ?_ | with_reducible refine below_drewN ?_ _ | with_reducible refine Below.setCell ?_ (by first | (simp; done) | (simp; omega) | omega) _ | with_reducible refine Below.alloc ?_ (by first | (simp; done) | (simp; omega) | omega) _))
  have zV1 : w1.heap.size + 1 ≤ V1.heap.size := by rw [hV1]; simp
  replace IR : Hid (IRow V1 w.heap.size w1.heap.size [a, b, c]) := by rw [hV1]; exact IR
  rw [← hV1]
  clear hV1
  replace E : Below w.heap.size w V1 := E.trans (bV1.mono E.size)
  replace HA : LRd V1 (w.heap.size) a.A a.n a.c a.xs := HA.below bV1 (by omega)
  replace HB : LRd V1 (w.heap.size) b.A b.n b.c b.xs := HB.below bV1 (by omega)
  replace HC : LRd V1 (w.heap.size) c.A c.n c.c c.xs := HC.below bV1 (by omega)
  replace PA : Bk2 V1 (w.heap.size) (.bool a.neg) (.slice a.A a.n a.c) := PA.below bV1 PA.lt
  replace PB : Bk2 V1 (w.heap.size + 1) (.bool b.neg) (.slice b.A b.n b.c) := PB.below bV1 PB.lt
  replace PC : Bk2 V1 (w.heap.size + 2) (.bool c.neg) (.slice c.A c.n c.c) := PC.below bV1 PC.lt
  clear bV1
  (with_reducible refine (faults_any _ w.heap.size w1.heap.size 3 [a, b, c] IR.out rfl (by omega) (by omega)).mono ?_)
  rintro e w2 ⟨rfl, hb2⟩
  have sw2 := hb2.size
  replace E : Below w.heap.size w w2 := E.trans (hb2.mono E.size)
  replace HA : LRd w2 (w.heap.size) a.A a.n a.c a.xs := HA.below hb2 (by omega)
  replace HB : LRd w2 (w.heap.size) b.A b.n b.c b.xs := HB.below hb2 (by omega)
  replace HC : LRd w2 (w.heap.size) c.A c.n c.c c.xs := HC.below hb2 (by omega)
  replace PA : Bk2 w2 (w.heap.size) (.bool a.neg) (.slice a.A a.n a.c) := PA.below hb2 PA.lt
  replace PB : Bk2 w2 (w.heap.size + 1) (.bool b.neg) (.slice b.A b.n b.c) := PB.below hb2 PB.lt
  replace PC : Bk2 w2 (w.heap.size + 2) (.bool c.neg) (.slice c.A c.n c.c) := PC.below hb2 PC.lt
  clear hb2
  rw [three_ok oa ob oc]
  unfold flt
  clear IR
  have t0 := PA.c1
  have t1 := PB.c1
  have t2 := PC.c1
  have t3 := PA.c0
  have t4 := PB.c0
  go_wp2_with fail
  clear t0 t1 t2 t3 t4
  have HS := Lib.hid (iadd_ok _ w2.heap.size a b (LRd.more HA (by omega) : LRd _ _ a.A a.n a.c a.xs) (LRd.more HB (by omega) : LRd _ _ b.A b.n b.c b.xs) (Nat.le_refl _) oa ob)
  refine HS.out.mono ?_
  intro e w3 hgv
  clear HS
  have hbd : (a.val + b.val).natAbs < Top128 := abs_add (sum60 QA.out QB.out)
  obtain ⟨n3, A3, k3, c3, x3, rfl, hl3, hr3, hb3⟩ := (hgv.resolve_right (fun hh => absurd hh.1 (by omega))).2
  clear hgv
  have s3 := hb3.size
  replace E : Below w.heap.size w w3 := E.trans (hb3.mono E.size)
  replace HA : LRd w3 (w.heap.size) a.A a.n a.c a.xs := HA.below hb3 (by omega)
  replace HB : LRd w3 (w.heap.size) b.A b.n b.c b.xs := HB.below hb3 (by omega)
  replace HC : LRd w3 (w.heap.size) c.A c.n c.c c.xs := HC.below hb3 (by omega)
  replace PA : Bk2 w3 (w.heap.size) (.bool a.neg) (.slice a.A a.n a.c) := PA.below hb3 PA.lt
  replace PB : Bk2 w3 (w.heap.size + 1) (.bool b.neg) (.slice b.A b.n b.c) := PB.below hb3 PB.lt
  replace PC : Bk2 w3 (w.heap.size + 2) (.bool c.neg) (.slice c.A c.n c.c) := PC.below hb3 PC.lt
  clear hb3
  have o3 := Lib.hid (hr3.iok hbd)
  have v3 := Lib.hid (hr3.ival (A := A3) (n := k3) (c := c3))
  have I3 := Lib.hid hr3
  clear hr3 hbd
  have t_PC0 : ((w3.alloc (.cells #[.bool n3, .slice A3 k3 c3] 24)).alloc (.cells #[.int .i64 0, .int .i64 0] 26)).cell? ⟨w.heap.size + 2, 0, none⟩ = some ((.bool c.neg)) := ((PC.alloc _).alloc _).c0
  have t_PC1 : ((w3.alloc (.cells #[.bool n3, .slice A3 k3 c3] 24)).alloc (.cells #[.int .i64 0, .int .i64 0] 26)).cell? ⟨w.heap.size + 2, 1, none⟩ = some ((.slice c.A c.n c.c)) := ((PC.alloc _).alloc _).c1
  go_wp2_with fail
  clear t_PC0 t_PC1
  obtain ⟨V2, hV2⟩ : ∃ V2 : World, V2 = ((w3.alloc (.cells #[.bool n3, .slice A3 k3 c3] 24)).alloc (.cells #[.int .i64 0, .int .i64 0] 26)) := ⟨_, rfl⟩
  have bV2 : Below w3.heap.size w3 V2 := by rw [hV2]; (repeat (first | with_reducible exact Below.refl _ _ | with_reducible refine Below.drew ?_ | with_reducible refine below_drewN ?_ _ | with_reducible refine Below.setCell ?_ (by first | (simp; done) | (simp; omega) | omega) _ | with_reducible refine Below.alloc ?_ (by first | (simp; done) | (simp; omega) | omega) _))
  have zV2 : w3.heap.size + 2 ≤ V2.heap.size := by rw [hV2]; simp
  have P3 : Bk2 V2 (w3.heap.size) (.bool n3) (.slice A3 k3 c3) := by rw [hV2]; exact ((Bk2.newAt _ _ (by simp) _ _ _).alloc _)
  have F3 : Bk2 V2 (w3.heap.size + 1) (.int .i64 0) (.int .i64 0) := by rw [hV2]; exact (Bk2.newAt _ _ (by simp) _ _ _)
  rw [← hV2]
  clear hV2
  replace E : Below w.heap.size w V2 := E.trans (bV2.mono E.size)
  replace HA : LRd V2 (w.heap.size) a.A a.n a.c a.xs := HA.below bV2 (by omega)
  replace HB : LRd V2 (w.heap.size) b.A b.n b.c b.xs := HB.below bV2 (by omega)
  replace HC : LRd V2 (w.heap.size) c.A c.n c.c c.xs := HC.below bV2 (by omega)
  replace PA : Bk2 V2 (w.heap.size) (.bool a.neg) (.slice a.A a.n a.c) := PA.below bV2 PA.lt
  replace PB : Bk2 V2 (w.heap.size + 1) (.bool b.neg) (.slice b.A b.n b.c) := PB.below bV2 PB.lt
  replace PC : Bk2 V2 (w.heap.size + 2) (.bool c.neg) (.slice c.A c.n c.c) := PC.below bV2 PC.lt
  replace hl3 : LRd V2 (w3.heap.size) A3 k3 c3 x3 := hl3.below bV2 (by omega)
  clear bV2
  have HS := Lib.hid (imul_ok _ V2.heap.size (IV.mk n3 A3 k3 c3 x3) c (LRd.more hl3 (by omega) : LRd _ _ A3 k3 c3 x3) (LRd.more HC (by omega) : LRd _ _ c.A c.n c.c c.xs) (Nat.le_refl _) o3.out oc)
  refine HS.out.mono ?_
  intro e w4 hgv
  clear HS
  rw [v3.out] at hgv
  have hbd : ((a.val + b.val) * c.val).natAbs < Top128 := abs_mul (Nat.lt_of_le_of_lt (Nat.mul_le_mul_right _ (show (a.val + b.val).natAbs ≤ a.val.natAbs + b.val.natAbs by omega)) (mul61 QA.out QB.out QC.out))
  obtain ⟨n4, A4, k4, c4, x4, rfl, hl4, hr4, hb4⟩ := (hgv.resolve_right (fun hh => absurd hh.1 (by omega))).2
  clear hgv
  have s4 := hb4.size
  replace E : Below w.heap.size w w4 := E.trans (hb4.mono E.size)
  replace HA : LRd w4 (w.heap.size) a.A a.n a.c a.xs := HA.below hb4 (by omega)
  replace HB : LRd w4 (w.heap.size) b.A b.n b.c b.xs := HB.below hb4 (by omega)
  replace HC : LRd w4 (w.heap.size) c.A c.n c.c c.xs := HC.below hb4 (by omega)
  replace PA : Bk2 w4 (w.heap.size) (.bool a.neg) (.slice a.A a.n a.c) := PA.below hb4 PA.lt
  replace PB : Bk2 w4 (w.heap.size + 1) (.bool b.neg) (.slice b.A b.n b.c) := PB.below hb4 PB.lt
  replace PC : Bk2 w4 (w.heap.size + 2) (.bool c.neg) (.slice c.A c.n c.c) := PC.below hb4 PC.lt
  replace hl3 : LRd w4 (w3.heap.size) A3 k3 c3 x3 := hl3.below hb4 (by omega)
  replace P3 : Bk2 w4 (w3.heap.size) (.bool n3) (.slice A3 k3 c3) := P3.below hb4 P3.lt
  replace F3 : Bk2 w4 (w3.heap.size + 1) (.int .i64 0) (.int .i64 0) := F3.below hb4 F3.lt
  clear hb4
  have o4 := Lib.hid (hr4.iok hbd)
  have v4 := Lib.hid (hr4.ival (A := A4) (n := k4) (c := c4))
  have I4 := Lib.hid hr4
  clear hr4 hbd
  have t_PA0 : ((w4.alloc (.cells #[.bool n4, .slice A4 k4 c4] 24)).alloc (.cells #[.int .i64 0, .int .i64 0] 26)).cell? ⟨w.heap.size, 0, none⟩ = some ((.bool a.neg)) := ((PA.alloc _).alloc _).c0
  have t_PA1 : ((w4.alloc (.cells #[.bool n4, .slice A4 k4 c4] 24)).alloc (.cells #[.int .i64 0, .int .i64 0] 26)).cell? ⟨w.heap.size, 1, none⟩ = some ((.slice a.A a.n a.c)) := ((PA.alloc _).alloc _).c1
  have t_PC0 : ((w4.alloc (.cells #[.bool n4, .slice A4 k4 c4] 24)).alloc (.cells #[.int .i64 0, .int .i64 0] 26)).cell? ⟨w.heap.size + 2, 0, none⟩ = some ((.bool c.neg)) := ((PC.alloc _).alloc _).c0
  have t_PC1 : ((w4.alloc (.cells #[.bool n4, .slice A4 k4 c4] 24)).alloc (.cells #[.int .i64 0, .int .i64 0] 26)).cell? ⟨w.heap.size + 2, 1, none⟩ = some ((.slice c.A c.n c.c)) := ((PC.alloc _).alloc _).c1
  go_wp2_with fail
  clear t_PA0 t_PA1 t_PC0 t_PC1
  obtain ⟨V3, hV3⟩ : ∃ V3 : World, V3 = ((w4.alloc (.cells #[.bool n4, .slice A4 k4 c4] 24)).alloc (.cells #[.int .i64 0, .int .i64 0] 26)) := ⟨_, rfl⟩
  have bV3 : Below w4.heap.size w4 V3 := by rw [hV3]; (repeat (first | with_reducible exact Below.refl _ _ | with_reducible refine Below.drew ?_ | with_reducible refine below_drewN ?_ _ | with_reducible refine Below.setCell ?_ (by first | (simp; done) | (simp; omega) | omega) _ | with_reducible refine Below.alloc ?_ (by first | (simp; done) | (simp; omega) | omega) _))
  have zV3 : w4.heap.size + 2 ≤ V3.heap.size := by rw [hV3]; simp
  have P4 : Bk2 V3 (w4.heap.size) (.bool n4) (.slice A4 k4 c4) := by rw [hV3]; exact ((Bk2.newAt _ _ (by simp) _ _ _).alloc _)
  have F4 : Bk2 V3 (w4.heap.size + 1) (.int .i64 0) (.int .i64 0) := by rw [hV3]; exact (Bk2.newAt _ _ (by simp) _ _ _)
  rw [← hV3]
  clear hV3
  replace E : Below w.heap.size w V3 := E.trans (bV3.mono E.size)
  replace HA : LRd V3 (w.heap.size) a.A a.n a.c a.xs := HA.below bV3 (by omega)
  replace HB : LRd V3 (w.heap.size) b.A b.n b.c b.xs := HB.below bV3 (by omega)
  replace HC : LRd V3 (w.heap.size) c.A c.n c.c c.xs := HC.below bV3 (by omega)
  replace PA : Bk2 V3 (w.heap.size) (.bool a.neg) (.slice a.A a.n a.c) := PA.below bV3 PA.lt
  replace PB : Bk2 V3 (w.heap.size + 1) (.bool b.neg) (.slice b.A b.n b.c) := PB.below bV3 PB.lt
  replace PC : Bk2 V3 (w.heap.size + 2) (.bool c.neg) (.slice c.A c.n c.c) := PC.below bV3 PC.lt
  replace hl3 : LRd V3 (w3.heap.size) A3 k3 c3 x3 := hl3.below bV3 (by omega)
  replace P3 : Bk2 V3 (w3.heap.size) (.bool n3) (.slice A3 k3 c3) := P3.below bV3 P3.lt
  replace F3 : Bk2 V3 (w3.heap.size + 1) (.int .i64 0) (.int .i64 0) := F3.below bV3 F3.lt
  replace hl4 : LRd V3 (w4.heap.size) A4 k4 c4 x4 := hl4.below bV3 (by omega)
  clear bV3
  have HS := Lib.hid (imul_ok _ V3.heap.size a c (LRd.more HA (by omega) : LRd _ _ a.A a.n a.c a.xs) (LRd.more HC (by omega) : LRd _ _ c.A c.n c.c c.xs) (Nat.le_refl _) oa oc)
  refine HS.out.mono ?_
  intro e w5 hgv
  clear HS
  have hbd : (a.val * c.val).natAbs < Top128 := abs_mul (mul60 QA.out QC.out)
  obtain ⟨n5, A5, k5, c5, x5, rfl, hl5, hr5, hb5⟩ := (hgv.resolve_right (fun hh => absurd hh.1 (by omega))).2
  clear hgv
  have s5 := hb5.size
  replace E : Below w.heap.size w w5 := E.trans (hb5.mono E.size)
  replace HA : LRd w5 (w.heap.size) a.A a.n a.c a.xs := HA.below hb5 (by omega)
  replace HB : LRd w5 (w.heap.size) b.A b.n b.c b.xs := HB.below hb5 (by omega)
  replace HC : LRd w5 (w.heap.size) c.A c.n c.c c.xs := HC.below hb5 (by omega)
  replace PA : Bk2 w5 (w.heap.size) (.bool a.neg) (.slice a.A a.n a.c) := PA.below hb5 PA.lt
  replace PB : Bk2 w5 (w.heap.size + 1) (.bool b.neg) (.slice b.A b.n b.c) := PB.below hb5 PB.lt
  replace PC : Bk2 w5 (w.heap.size + 2) (.bool c.neg) (.slice c.A c.n c.c) := PC.below hb5 PC.lt
  replace hl3 : LRd w5 (w3.heap.size) A3 k3 c3 x3 := hl3.below hb5 (by omega)
  replace P3 : Bk2 w5 (w3.heap.size) (.bool n3) (.slice A3 k3 c3) := P3.below hb5 P3.lt
  replace F3 : Bk2 w5 (w3.heap.size + 1) (.int .i64 0) (.int .i64 0) := F3.below hb5 F3.lt
  replace hl4 : LRd w5 (w4.heap.size) A4 k4 c4 x4 := hl4.below hb5 (by omega)
  replace P4 : Bk2 w5 (w4.heap.size) (.bool n4) (.slice A4 k4 c4) := P4.below hb5 P4.lt
  replace F4 : Bk2 w5 (w4.heap.size + 1) (.int .i64 0) (.int .i64 0) := F4.below hb5 F4.lt
  clear hb5
  have o5 := Lib.hid (hr5.iok hbd)
  have v5 := Lib.hid (hr5.ival (A := A5) (n := k5) (c := c5))
  have I5 := Lib.hid hr5
  clear hr5 hbd
  have t_PB0 : ((w5.alloc (.cells #[.bool n5, .slice A5 k5 c5] 24)).alloc (.cells #[.int .i64 0, .int .i64 0] 26)).cell? ⟨w.heap.size + 1, 0, none⟩ = some ((.bool b.neg)) := ((PB.alloc _).alloc _).c0
  have t_PB1 : ((w5.alloc (.cells #[.bool n5, .slice A5 k5 c5] 24)).alloc (.cells #[.int .i64 0, .int .i64 0] 26)).cell? ⟨w.heap.size + 1, 1, none⟩ = some ((.slice b.A b.n b.c)) := ((PB.alloc _).alloc _).c1
  have t_PC0 : ((w5.alloc (.cells #[.bool n5, .slice A5 k5 c5] 24)).alloc (.cells #[.int .i64 0, .int .i64 0] 26)).cell? ⟨w.heap.size + 2, 0, none⟩ = some ((.bool c.neg)) := ((PC.alloc _).alloc _).c0
  have t_PC1 : ((w5.alloc (.cells #[.bool n5, .slice A5 k5 c5] 24)).alloc (.cells #[.int .i64 0, .int .i64 0] 26)).cell? ⟨w.heap.size + 2, 1, none⟩ = some ((.slice c.A c.n c.c)) := ((PC.alloc _).alloc _).c1
  go_wp2_with fail
  clear t_PB0 t_PB1 t_PC0 t_PC1
  obtain ⟨V4, hV4⟩ : ∃ V4 : World, V4 = ((w5.alloc (.cells #[.bool n5, .slice A5 k5 c5] 24)).alloc (.cells #[.int .i64 0, .int .i64 0] 26)) := ⟨_, rfl⟩
  have bV4 : Below w5.heap.size w5 V4 := by rw [hV4]; (repeat (first | with_reducible exact Below.refl _ _ | with_reducible refine Below.drew ?_ | with_reducible refine below_drewN ?_ _ | with_reducible refine Below.setCell ?_ (by first | (simp; done) | (simp; omega) | omega) _ | with_reducible refine Below.alloc ?_ (by first | (simp; done) | (simp; omega) | omega) _))
  have zV4 : w5.heap.size + 2 ≤ V4.heap.size := by rw [hV4]; simp
  have P5 : Bk2 V4 (w5.heap.size) (.bool n5) (.slice A5 k5 c5) := by rw [hV4]; exact ((Bk2.newAt _ _ (by simp) _ _ _).alloc _)
  have F5 : Bk2 V4 (w5.heap.size + 1) (.int .i64 0) (.int .i64 0) := by rw [hV4]; exact (Bk2.newAt _ _ (by simp) _ _ _)
  rw [← hV4]
  clear hV4
  replace E : Below w.heap.size w V4 := E.trans (bV4.mono E.size)
  replace HA : LRd V4 (w.heap.size) a.A a.n a.c a.xs := HA.below bV4 (by omega)
  replace HB : LRd V4 (w.heap.size) b.A b.n b.c b.xs := HB.below bV4 (by omega)
  replace HC : LRd V4 (w.heap.size) c.A c.n c.c c.xs := HC.below bV4 (by omega)
  replace PA : Bk2 V4 (w.heap.size) (.bool a.neg) (.slice a.A a.n a.c) := PA.below bV4 PA.lt
  replace PB : Bk2 V4 (w.heap.size + 1) (.bool b.neg) (.slice b.A b.n b.c) := PB.below bV4 PB.lt
  replace PC : Bk2 V4 (w.heap.size + 2) (.bool c.neg) (.slice c.A c.n c.c) := PC.below bV4 PC.lt
  replace hl3 : LRd V4 (w3.heap.size) A3 k3 c3 x3 := hl3.below bV4 (by omega)
  replace P3 : Bk2 V4 (w3.heap.size) (.bool n3) (.slice A3 k3 c3) := P3.below bV4 P3.lt
  replace F3 : Bk2 V4 (w3.heap.size + 1) (.int .i64 0) (.int .i64 0) := F3.below bV4 F3.lt
  replace hl4 : LRd V4 (w4.heap.size) A4 k4 c4 x4 := hl4.below bV4 (by omega)
  replace P4 : Bk2 V4 (w4.heap.size) (.bool n4) (.slice A4 k4 c4) := P4.below bV4 P4.lt
  replace F4 : Bk2 V4 (w4.heap.size + 1) (.int .i64 0) (.int .i64 0) := F4.below bV4 F4.lt
  replace hl5 : LRd V4 (w5.heap.size) A5 k5 c5 x5 := hl5.below bV4 (by omega)
  clear bV4
  have HS := Lib.hid (imul_ok _ V4.heap.size b c (LRd.more HB (by omega) : LRd _ _ b.A b.n b.c b.xs) (LRd.more HC (by omega) : LRd _ _ c.A c.n c.c c.xs) (Nat.le_refl _) ob oc)
  refine HS.out.mono ?_
  intro e w6 hgv
  clear HS
  have hbd : (b.val * c.val).natAbs < Top128 := abs_mul (mul60 QB.out QC.out)
  obtain ⟨n6, A6, k6, c6, x6, rfl, hl6, hr6, hb6⟩ := (hgv.resolve_right (fun hh => absurd hh.1 (by omega))).2
  clear hgv
  have s6 := hb6.size
  replace E : Below w.heap.size w w6 := E.trans (hb6.mono E.size)
  replace HA : LRd w6 (w.heap.size) a.A a.n a.c a.xs := HA.below hb6 (by omega)
  replace HB : LRd w6 (w.heap.size) b.A b.n b.c b.xs := HB.below hb6 (by omega)
  replace HC : LRd w6 (w.heap.size) c.A c.n c.c c.xs := HC.below hb6 (by omega)
  replace PA : Bk2 w6 (w.heap.size) (.bool a.neg) (.slice a.A a.n a.c) := PA.below hb6 PA.lt
  replace PB : Bk2 w6 (w.heap.size + 1) (.bool b.neg) (.slice b.A b.n b.c) := PB.below hb6 PB.lt
  replace PC : Bk2 w6 (w.heap.size + 2) (.bool c.neg) (.slice c.A c.n c.c) := PC.below hb6 PC.lt
  replace hl3 : LRd w6 (w3.heap.size) A3 k3 c3 x3 := hl3.below hb6 (by omega)
  replace P3 : Bk2 w6 (w3.heap.size) (.bool n3) (.slice A3 k3 c3) := P3.below hb6 P3.lt
  replace F3 : Bk2 w6 (w3.heap.size + 1) (.int .i64 0) (.int .i64 0) := F3.below hb6 F3.lt
  replace hl4 : LRd w6 (w4.heap.size) A4 k4 c4 x4 := hl4.below hb6 (by omega)
  replace P4 : Bk2 w6 (w4.heap.size) (.bool n4) (.slice A4 k4 c4) := P4.below hb6 P4.lt
  replace F4 : Bk2 w6 (w4.heap.size + 1) (.int .i64 0) (.int .i64 0) := F4.below hb6 F4.lt
  replace hl5 : LRd w6 (w5.heap.size) A5 k5 c5 x5 := hl5.below hb6 (by omega)
  replace P5 : Bk2 w6 (w5.heap.size) (.bool n5) (.slice A5 k5 c5) := P5.below hb6 P5.lt
  replace F5 : Bk2 w6 (w5.heap.size + 1) (.int .i64 0) (.int .i64 0) := F5.below hb6 F5.lt
  clear hb6
  have o6 := Lib.hid (hr6.iok hbd)
  have v6 := Lib.hid (hr6.ival (A := A6) (n := k6) (c := c6))
  have I6 := Lib.hid hr6
  clear hr6 hbd
  have t_P50 : ((w6.alloc (.cells #[.bool n6, .slice A6 k6 c6] 24)).alloc (.cells #[.int .i64 0, .int .i64 0] 26)).cell? ⟨w5.heap.size, 0, none⟩ = some ((.bool n5)) := ((P5.alloc _).alloc _).c0
  have t_P51 : ((w6.alloc (.cells #[.bool n6, .slice A6 k6 c6] 24)).alloc (.cells #[.int .i64 0, .int .i64 0] 26)).cell? ⟨w5.heap.size, 1, none⟩ = some ((.slice A5 k5 c5)) := ((P5.alloc _).alloc _).c1
  go_wp2_with fail
  clear t_P50 t_P51
  obtain ⟨V5, hV5⟩ : ∃ V5 : World, V5 = ((w6.alloc (.cells #[.bool n6, .slice A6 k6 c6] 24)).alloc (.cells #[.int .i64 0, .int .i64 0] 26)) := ⟨_, rfl⟩
  have bV5 : Below w6.heap.size w6 V5 := by rw [hV5]; (repeat (first | with_reducible exact Below.refl _ _ | with_reducible refine Below.drew ?_ | with_reducible refine below_drewN ?_ _ | with_reducible refine Below.setCell ?_ (by first | (simp; done) | (simp; omega) | omega) _ | with_reducible refine Below.alloc ?_ (by first | (simp; done) | (simp; omega) | omega) _))
  have zV5 : w6.heap.size + 2 ≤ V5.heap.size := by rw [hV5]; simp
  have P6 : Bk2 V5 (w6.heap.size) (.bool n6) (.slice A6 k6 c6) := by rw [hV5]; exact ((Bk2.newAt _ _ (by simp) _ _ _).alloc _)
  have F6 : Bk2 V5 (w6.heap.size + 1) (.int .i64 0) (.int .i64 0) := by rw [hV5]; exact (Bk2.newAt _ _ (by simp) _ _ _)
  rw [← hV5]
  clear hV5
  replace E : Below w.heap.size w V5 := E.trans (bV5.mono E.size)
  replace HA : LRd V5 (w.heap.size) a.A a.n a.c a.xs := HA.below bV5 (by omega)
  replace HB : LRd V5 (w.heap.size) b.A b.n b.c b.xs := HB.below bV5 (by omega)
  replace HC : LRd V5 (w.heap.size) c.A c.n c.c c.xs := HC.below bV5 (by omega)
  replace PA : Bk2 V5 (w.heap.size) (.bool a.neg) (.slice a.A a.n a.c) := PA.below bV5 PA.lt
  replace PB : Bk2 V5 (w.heap.size + 1) (.bool b.neg) (.slice b.A b.n b.c) := PB.below bV5 PB.lt
  replace PC : Bk2 V5 (w.heap.size + 2) (.bool c.neg) (.slice c.A c.n c.c) := PC.below bV5 PC.lt
  replace hl3 : LRd V5 (w3.heap.size) A3 k3 c3 x3 := hl3.below bV5 (by omega)
  replace P3 : Bk2 V5 (w3.heap.size) (.bool n3) (.slice A3 k3 c3) := P3.below bV5 P3.lt
  replace F3 : Bk2 V5 (w3.heap.size + 1) (.int .i64 0) (.int .i64 0) := F3.below bV5 F3.lt
  replace hl4 : LRd V5 (w4.heap.size) A4 k4 c4 x4 := hl4.below bV5 (by omega)
  replace P4 : Bk2 V5 (w4.heap.size) (.bool n4) (.slice A4 k4 c4) := P4.below bV5 P4.lt
  replace F4 : Bk2 V5 (w4.heap.size + 1) (.int .i64 0) (.int .i64 0) := F4.below bV5 F4.lt
  replace hl5 : LRd V5 (w5.heap.size) A5 k5 c5 x5 := hl5.below bV5 (by omega)
  replace P5 : Bk2 V5 (w5.heap.size) (.bool n5) (.slice A5 k5 c5) := P5.below bV5 P5.lt
  replace F5 : Bk2 V5 (w5.heap.size + 1) (.int .i64 0) (.int .i64 0) := F5.below bV5 F5.lt
  replace hl6 : LRd V5 (w6.heap.size) A6 k6 c6 x6 := hl6.below bV5 (by omega)
  clear bV5
  have HS := Lib.hid (iadd_ok _ V5.heap.size (IV.mk n5 A5 k5 c5 x5) (IV.mk n6 A6 k6 c6 x6) (LRd.more hl5 (by omega) : LRd _ _ A5 k5 c5 x5) (LRd.more hl6 (by omega) : LRd _ _ A6 k6 c6 x6) (Nat.le_refl _) o5.out o6.out)
  refine HS.out.mono ?_
  intro e w7 hgv
  clear HS
  rw [v5.out, v6.out] at hgv
  have hbd : (a.val * c.val + b.val * c.val).natAbs < Top128 := by have := abs_mul (x := a.val + b.val) (y := c.val) (Nat.lt_of_le_of_lt (Nat.mul_le_mul_right _ (show (a.val + b.val).natAbs ≤ a.val.natAbs + b.val.natAbs by omega)) (mul61 QA.out QB.out QC.out)); rwa [Int.add_mul] at this
  obtain ⟨n7, A7, k7, c7, x7, rfl, hl7, hr7, hb7⟩ := (hgv.resolve_right (fun hh => absurd hh.1 (by omega))).2
  clear hgv
  have s7 := hb7.size
  replace E : Below w.heap.size w w7 := E.trans (hb7.mono E.size)
  replace HA : LRd w7 (w.heap.size) a.A a.n a.c a.xs := HA.below hb7 (by omega)
  replace HB : LRd w7 (w.heap.size) b.A b.n b.c b.xs := HB.below hb7 (by omega)
  replace HC : LRd w7 (w.heap.size) c.A c.n c.c c.xs := HC.below hb7 (by omega)
  replace PA : Bk2 w7 (w.heap.size) (.bool a.neg) (.slice a.A a.n a.c) := PA.below hb7 PA.lt
  replace PB : Bk2 w7 (w.heap.size + 1) (.bool b.neg) (.slice b.A b.n b.c) := PB.below hb7 PB.lt
  replace PC : Bk2 w7 (w.heap.size + 2) (.bool c.neg) (.slice c.A c.n c.c) := PC.below hb7 PC.lt
  replace hl3 : LRd w7 (w3.heap.size) A3 k3 c3 x3 := hl3.below hb7 (by omega)
  replace P3 : Bk2 w7 (w3.heap.size) (.bool n3) (.slice A3 k3 c3) := P3.below hb7 P3.lt
  replace F3 : Bk2 w7 (w3.heap.size + 1) (.int .i64 0) (.int .i64 0) := F3.below hb7 F3.lt
  replace hl4 : LRd w7 (w4.heap.size) A4 k4 c4 x4 := hl4.below hb7 (by omega)
  replace P4 : Bk2 w7 (w4.heap.size) (.bool n4) (.slice A4 k4 c4) := P4.below hb7 P4.lt
  replace F4 : Bk2 w7 (w4.heap.size + 1) (.int .i64 0) (.int .i64 0) := F4.below hb7 F4.lt
  replace hl5 : LRd w7 (w5.heap.size) A5 k5 c5 x5 := hl5.below hb7 (by omega)
  replace P5 : Bk2 w7 (w5.heap.size) (.bool n5) (.slice A5 k5 c5) := P5.below hb7 P5.lt
  replace F5 : Bk2 w7 (w5.heap.size + 1) (.int .i64 0) (.int .i64 0) := F5.below hb7 F5.lt
  replace hl6 : LRd w7 (w6.heap.size) A6 k6 c6 x6 := hl6.below hb7 (by omega)
  replace P6 : Bk2 w7 (w6.heap.size) (.bool n6) (.slice A6 k6 c6) := P6.below hb7 P6.lt
  replace F6 : Bk2 w7 (w6.heap.size + 1) (.int .i64 0) (.int .i64 0) := F6.below hb7 F6.lt
  clear hb7
  have o7 := Lib.hid (hr7.iok hbd)
  have v7 := Lib.hid (hr7.ival (A := A7) (n := k7) (c := c7))
  have I7 := Lib.hid hr7
  clear hr7 hbd
  have t_P30 : ((w7.alloc (.cells #[.bool n7, .slice A7 k7 c7] 24)).alloc (.cells #[.int .i64 0, .int .i64 0] 26)).cell? ⟨w3.heap.size, 0, none⟩ = some ((.bool n3)) := ((P3.alloc _).alloc _).c0
  have t_P31 : ((w7.alloc (.cells #[.bool n7, .slice A7 k7 c7] 24)).alloc (.cells #[.int .i64 0, .int .i64 0] 26)).cell? ⟨w3.heap.size, 1, none⟩ = some ((.slice A3 k3 c3)) := ((P3.alloc _).alloc _).c1
  have t_PB0 : ((w7.alloc (.cells #[.bool n7, .slice A7 k7 c7] 24)).alloc (.cells #[.int .i64 0, .int .i64 0] 26)).cell? ⟨w.heap.size + 1, 0, none⟩ = some ((.bool b.neg)) := ((PB.alloc _).alloc _).c0
  have t_PB1 : ((w7.alloc (.cells #[.bool n7, .slice A7 k7 c7] 24)).alloc (.cells #[.int .i64 0, .int .i64 0] 26)).cell? ⟨w.heap.size + 1, 1, none⟩ = some ((.slice b.A b.n b.c)) := ((PB.alloc _).alloc _).c1
  go_wp2_with fail
  clear t_P30 t_P31 t_PB0 t_PB1
  obtain ⟨V6, hV6⟩ : ∃ V6 : World, V6 = ((w7.alloc (.cells #[.bool n7, .slice A7 k7 c7] 24)).alloc (.cells #[.int .i64 0, .int .i64 0] 26)) := ⟨_, rfl⟩
  have bV6 : Below w7.heap.size w7 V6 := by rw [hV6]; (repeat (first | with_reducible exact Below.refl _ _ | with_reducible refine Below.drew ?_ | with_reducible refine below_drewN ?_ _ | with_reducible refine Below.setCell ?_ (by first | (simp; done) | (simp; omega) | omega) _ | with_reducible refine Below.alloc ?_ (by first | (simp; done) | (simp; omega) | omega) _))
  have zV6 : w7.heap.size + 2 ≤ V6.heap.size := by rw [hV6]; simp
  have P7 : Bk2 V6 (w7.heap.size) (.bool n7) (.slice A7 k7 c7) := by rw [hV6]; exact ((Bk2.newAt _ _ (by simp) _ _ _).alloc _)
  have F7 : Bk2 V6 (w7.heap.size + 1) (.int .i64 0) (.int .i64 0) := by rw [hV6]; exact (Bk2.newAt _ _ (by simp) _ _ _)
  rw [← hV6]
  clear hV6
  replace E : Below w.heap.size w V6 := E.trans (bV6.mono E.size)
  replace HA : LRd V6 (w.heap.size) a.A a.n a.c a.xs := HA.below bV6 (by omega)
  replace HB : LRd V6 (w.heap.size) b.A b.n b.c b.xs := HB.below bV6 (by omega)
  replace HC : LRd V6 (w.heap.size) c.A c.n c.c c.xs := HC.below bV6 (by omega)
  replace PA : Bk2 V6 (w.heap.size) (.bool a.neg) (.slice a.A a.n a.c) := PA.below bV6 PA.lt
  replace PB : Bk2 V6 (w.heap.size + 1) (.bool b.neg) (.slice b.A b.n b.c) := PB.below bV6 PB.lt
  replace PC : Bk2 V6 (w.heap.size + 2) (.bool c.neg) (.slice c.A c.n c.c) := PC.below bV6 PC.lt
  replace hl3 : LRd V6 (w3.heap.size) A3 k3 c3 x3 := hl3.below bV6 (by omega)
  replace P3 : Bk2 V6 (w3.heap.size) (.bool n3) (.slice A3 k3 c3) := P3.below bV6 P3.lt
  replace F3 : Bk2 V6 (w3.heap.size + 1) (.int .i64 0) (.int .i64 0) := F3.below bV6 F3.lt
  replace hl4 : LRd V6 (w4.heap.size) A4 k4 c4 x4 := hl4.below bV6 (by omega)
  replace P4 : Bk2 V6 (w4.heap.size) (.bool n4) (.slice A4 k4 c4) := P4.below bV6 P4.lt
  replace F4 : Bk2 V6 (w4.heap.size + 1) (.int .i64 0) (.int .i64 0) := F4.below bV6 F4.lt
  replace hl5 : LRd V6 (w5.heap.size) A5 k5 c5 x5 := hl5.below bV6 (by omega)
  replace P5 : Bk2 V6 (w5.heap.size) (.bool n5) (.slice A5 k5 c5) := P5.below bV6 P5.lt
  replace F5 : Bk2 V6 (w5.heap.size + 1) (.int .i64 0) (.int .i64 0) := F5.below bV6 F5.lt
  replace hl6 : LRd V6 (w6.heap.size) A6 k6 c6 x6 := hl6.below bV6 (by omega)
  replace P6 : Bk2 V6 (w6.heap.size) (.bool n6) (.slice A6 k6 c6) := P6.below bV6 P6.lt
  replace F6 : Bk2 V6 (w6.heap.size + 1) (.int .i64 0) (.int .i64 0) := F6.below bV6 F6.lt
  replace hl7 : LRd V6 (w7.heap.size) A7 k7 c7 x7 := hl7.below bV6 (by omega)
  clear bV6
  have HS := Lib.hid (isub_ok _ V6.heap.size (IV.mk n3 A3 k3 c3 x3) b (LRd.more hl3 (by omega) : LRd _ _ A3 k3 c3 x3) (LRd.more HB (by omega) : LRd _ _ b.A b.n b.c b.xs) (Nat.le_refl _) o3.out ob)
  refine HS.out.mono ?_
  intro e w8 hgv
  clear HS
  rw [neg_sub] at hgv
  rw [v3.out] at hgv
  have hbd : (a.val + b.val - b.val).natAbs < Top128 := by rw [show a.val + b.val - b.val = a.val by omega]; exact t60 QA.out
  obtain ⟨n8, A8, k8, c8, x8, rfl, hl8, hr8, hb8⟩ := (hgv.resolve_right (fun hh => absurd hh.1 (by omega))).2
  clear hgv
  have s8 := hb8.size
  replace E : Below w.heap.size w w8 := E.trans (hb8.mono E.size)
  replace HA : LRd w8 (w.heap.size) a.A a.n a.c a.xs := HA.below hb8 (by omega)
  replace HB : LRd w8 (w.heap.size) b.A b.n b.c b.xs := HB.below hb8 (by omega)
  replace HC : LRd w8 (w.heap.size) c.A c.n c.c c.xs := HC.below hb8 (by omega)
  replace PA : Bk2 w8 (w.heap.size) (.bool a.neg) (.slice a.A a.n a.c) := PA.below hb8 PA.lt
  replace PB : Bk2 w8 (w.heap.size + 1) (.bool b.neg) (.slice b.A b.n b.c) := PB.below hb8 PB.lt
  replace PC : Bk2 w8 (w.heap.size + 2) (.bool c.neg) (.slice c.A c.n c.c) := PC.below hb8 PC.lt
  replace hl3 : LRd w8 (w3.heap.size) A3 k3 c3 x3 := hl3.below hb8 (by omega)
  replace P3 : Bk2 w8 (w3.heap.size) (.bool n3) (.slice A3 k3 c3) := P3.below hb8 P3.lt
  replace F3 : Bk2 w8 (w3.heap.size + 1) (.int .i64 0) (.int .i64 0) := F3.below hb8 F3.lt
  replace hl4 : LRd w8 (w4.heap.size) A4 k4 c4 x4 := hl4.below hb8 (by omega)
  replace P4 : Bk2 w8 (w4.heap.size) (.bool n4) (.slice A4 k4 c4) := P4.below hb8 P4.lt
  replace F4 : Bk2 w8 (w4.heap.size + 1) (.int .i64 0) (.int .i64 0) := F4.below hb8 F4.lt
  replace hl5 : LRd w8 (w5.heap.size) A5 k5 c5 x5 := hl5.below hb8 (by omega)
  replace P5 : Bk2 w8 (w5.heap.size) (.bool n5) (.slice A5 k5 c5) := P5.below hb8 P5.lt
  replace F5 : Bk2 w8 (w5.heap.size + 1) (.int .i64 0) (.int .i64 0) := F5.below hb8 F5.lt
  replace hl6 : LRd w8 (w6.heap.size) A6 k6 c6 x6 := hl6.below hb8 (by omega)
  replace P6 : Bk2 w8 (w6.heap.size) (.bool n6) (.slice A6 k6 c6) := P6.below hb8 P6.lt
  replace F6 : Bk2 w8 (w6.heap.size + 1) (.int .i64 0) (.int .i64 0) := F6.below hb8 F6.lt
  replace hl7 : LRd w8 (w7.heap.size) A7 k7 c7 x7 := hl7.below hb8 (by omega)
  replace P7 : Bk2 w8 (w7.heap.size) (.bool n7) (.slice A7 k7 c7) := P7.below hb8 P7.lt
  replace F7 : Bk2 w8 (w7.heap.size + 1) (.int .i64 0) (.int .i64 0) := F7.below hb8 F7.lt
  clear hb8
  have o8 := Lib.hid (hr8.iok hbd)
  have v8 := Lib.hid (hr8.ival (A := A8) (n := k8) (c := c8))
  have I8 := Lib.hid hr8
  clear hr8 hbd
  have t_F30 : ((w8.alloc (.cells #[.bool n8, .slice A8 k8 c8] 24)).alloc (.cells #[.int .i64 0, .int .i64 0] 26)).cell? ⟨w3.heap.size + 1, 0, none⟩ = some ((.int .i64 0)) := ((F3.alloc _).alloc _).c0
  have t_F31 : ((w8.alloc (.cells #[.bool n8, .slice A8 k8 c8] 24)).alloc (.cells #[.int .i64 0, .int .i64 0] 26)).cell? ⟨w3.heap.size + 1, 1, none⟩ = some ((.int .i64 0)) := ((F3.alloc _).alloc _).c1
  have t_F40 : ((w8.alloc (.cells #[.bool n8, .slice A8 k8 c8] 24)).alloc (.cells #[.int .i64 0, .int .i64 0] 26)).cell? ⟨w4.heap.size + 1, 0, none⟩ = some ((.int .i64 0)) := ((F4.alloc _).alloc _).c0
  have t_F41 : ((w8.alloc (.cells #[.bool n8, .slice A8 k8 c8] 24)).alloc (.cells #[.int .i64 0, .int .i64 0] 26)).cell? ⟨w4.heap.size + 1, 1, none⟩ = some ((.int .i64 0)) := ((F4.alloc _).alloc _).c1
  have t_F50 : ((w8.alloc (.cells #[.bool n8, .slice A8 k8 c8] 24)).alloc (.cells #[.int .i64 0, .int .i64 0] 26)).cell? ⟨w5.heap.size + 1, 0, none⟩ = some ((.int .i64 0)) := ((F5.alloc _).alloc _).c0
  have t_F51 : ((w8.alloc (.cells #[.bool n8, .slice A8 k8 c8] 24)).alloc (.cells #[.int .i64 0, .int .i64 0] 26)).cell? ⟨w5.heap.size + 1, 1, none⟩ = some ((.int .i64 0)) := ((F5.alloc _).alloc _).c1
  have t_F60 : ((w8.alloc (.cells #[.bool n8, .slice A8 k8 c8] 24)).alloc (.cells #[.int .i64 0, .int .i64 0] 26)).cell? ⟨w6.heap.size + 1, 0, none⟩ = some ((.int .i64 0)) := ((F6.alloc _).alloc _).c0
  have t_F61 : ((w8.alloc (.cells #[.bool n8, .slice A8 k8 c8] 24)).alloc (.cells #[.int .i64 0, .int .i64 0] 26)).cell? ⟨w6.heap.size + 1, 1, none⟩ = some ((.int .i64 0)) := ((F6.alloc _).alloc _).c1
  have t_F70 : ((w8.alloc (.cells #[.bool n8, .slice A8 k8 c8] 24)).alloc (.cells #[.int .i64 0, .int .i64 0] 26)).cell? ⟨w7.heap.size + 1, 0, none⟩ = some ((.int .i64 0)) := ((F7.alloc _).alloc _).c0
  have t_F71 : ((w8.alloc (.cells #[.bool n8, .slice A8 k8 c8] 24)).alloc (.cells #[.int .i64 0, .int .i64 0] 26)).cell? ⟨w7.heap.size + 1, 1, none⟩ = some ((.int .i64 0)) := ((F7.alloc _).alloc _).c1
  have t_P40 : ((w8.alloc (.cells #[.bool n8, .slice A8 k8 c8] 24)).alloc (.cells #[.int .i64 0, .int .i64 0] 26)).cell? ⟨w4.heap.size, 0, none⟩ = some ((.bool n4)) := ((P4.alloc _).alloc _).c0
  have t_P41 : ((w8.alloc (.cells #[.bool n8, .slice A8 k8 c8] 24)).alloc (.cells #[.int .i64 0, .int .i64 0] 26)).cell? ⟨w4.heap.size, 1, none⟩ = some ((.slice A4 k4 c4)) := ((P4.alloc _).alloc _).c1
  have t_P70 : ((w8.alloc (.cells #[.bool n8, .slice A8 k8 c8] 24)).alloc (.cells #[.int .i64 0, .int .i64 0] 26)).cell? ⟨w7.heap.size, 0, none⟩ = some ((.bool n7)) := ((P7.alloc _).alloc _).c0
  have t_P71 : ((w8.alloc (.cells #[.bool n8, .slice A8 k8 c8] 24)).alloc (.cells #[.int .i64 0, .int .i64 0] 26)).cell? ⟨w7.heap.size, 1, none⟩ = some ((.slice A7 k7 c7)) := ((P7.alloc _).alloc _).c1
  go_wp2_with fail
  clear t_F30 t_F31 t_F40 t_F41 t_F50 t_F51 t_F60 t_F61 t_F70 t_F71 t_P40 t_P41 t_P70 t_P71
  obtain ⟨V7, hV7⟩ : ∃ V7 : World, V7 = ((w8.alloc (.cells #[.bool n8, .slice A8 k8 c8] 24)).alloc (.cells #[.int .i64 0, .int .i64 0] 26)) := ⟨_, rfl⟩
  have bV7 : Below w8.heap.size w8 V7 := by rw [hV7]; (repeat (first | with_reducible exact Below.refl _ _ | with_reducible refine Below.drew ?_ | with_reducible refine below_drewN ?_ _ | with_reducible refine Below.setCell ?_ (by first | (simp; done) | (simp; omega) | omega) _ | with_reducible refine Below.alloc ?_ (by first | (simp; done) | (simp; omega) | omega) _))
  have zV7 : w8.heap.size + 2 ≤ V7.heap.size := by rw [hV7]; simp
  have P8 : Bk2 V7 (w8.heap.size) (.bool n8) (.slice A8 k8 c8) := by rw [hV7]; exact ((Bk2.newAt _ _ (by simp) _ _ _).alloc _)
  have F8 : Bk2 V7 (w8.heap.size + 1) (.int .i64 0) (.int .i64 0) := by rw [hV7]; exact (Bk2.newAt _ _ (by simp) _ _ _)
  rw [← hV7]
  clear hV7
  replace E : Below w.heap.size w V7 := E.trans (bV7.mono E.size)
  replace HA : LRd V7 (w.heap.size) a.A a.n a.c a.xs := HA.below bV7 (by omega)
  replace HB : LRd V7 (w.heap.size) b.A b.n b.c b.xs := HB.below bV7 (by omega)
  replace HC : LRd V7 (w.heap.size) c.A c.n c.c c.xs := HC.below bV7 (by omega)
  replace PA : Bk2 V7 (w.heap.size) (.bool a.neg) (.slice a.A a.n a.c) := PA.below bV7 PA.lt
  replace PB : Bk2 V7 (w.heap.size + 1) (.bool b.neg) (.slice b.A b.n b.c) := PB.below bV7 PB.lt
  replace PC : Bk2 V7 (w.heap.size + 2) (.bool c.neg) (.slice c.A c.n c.c) := PC.below bV7 PC.lt
  replace hl3 : LRd V7 (w3.heap.size) A3 k3 c3 x3 := hl3.below bV7 (by omega)
  replace P3 : Bk2 V7 (w3.heap.size) (.bool n3) (.slice A3 k3 c3) := P3.below bV7 P3.lt
  replace F3 : Bk2 V7 (w3.heap.size + 1) (.int .i64 0) (.int .i64 0) := F3.below bV7 F3.lt
  replace hl4 : LRd V7 (w4.heap.size) A4 k4 c4 x4 := hl4.below bV7 (by omega)
  replace P4 : Bk2 V7 (w4.heap.size) (.bool n4) (.slice A4 k4 c4) := P4.below bV7 P4.lt
  replace F4 : Bk2 V7 (w4.heap.size + 1) (.int .i64 0) (.int .i64 0) := F4.below bV7 F4.lt
  replace hl5 : LRd V7 (w5.heap.size) A5 k5 c5 x5 := hl5.below bV7 (by omega)
  replace P5 : Bk2 V7 (w5.heap.size) (.bool n5) (.slice A5 k5 c5) := P5.below bV7 P5.lt
  replace F5 : Bk2 V7 (w5.heap.size + 1) (.int .i64 0) (.int .i64 0) := F5.below bV7 F5.lt
  replace hl6 : LRd V7 (w6.heap.size) A6 k6 c6 x6 := hl6.below bV7 (by omega)
  replace P6 : Bk2 V7 (w6.heap.size) (.bool n6) (.slice A6 k6 c6) := P6.below bV7 P6.lt
  replace F6 : Bk2 V7 (w6.heap.size + 1) (.int .i64 0) (.int .i64 0) := F6.below bV7 F6.lt
  replace hl7 : LRd V7 (w7.heap.size) A7 k7 c7 x7 := hl7.below bV7 (by omega)
  replace P7 : Bk2 V7 (w7.heap.size) (.bool n7) (.slice A7 k7 c7) := P7.below bV7 P7.lt
  replace F7 : Bk2 V7 (w7.heap.size + 1) (.int .i64 0) (.int .i64 0) := F7.below bV7 F7.lt
  replace hl8 : LRd V7 (w8.heap.size) A8 k8 c8 x8 := hl8.below bV7 (by omega)
  clear bV7
  have e1 := Lib.hid (irep_eq I4.out (by have := I7.out; rwa [← Int.add_mul] at this))
  have e2 := Lib.hid (irep_eq I8.out (by have := IA.out; rwa [show a.val + b.val - b.val = a.val by omega]))
  (with_reducible refine (sameInts_any _ V7.heap.size n4 n7 A4 A7 k4 k7 c4 c7 x4 x7 (hl4.more (by omega)) (hl7.more (by omega)) (Nat.le_refl _)).mono ?_)
  rintro e w9 ⟨rfl, hb9⟩
  have sw9 := hb9.size
  replace E : Below w.heap.size w w9 := E.trans (hb9.mono E.size)
  replace HA : LRd w9 (w.heap.size) a.A a.n a.c a.xs := HA.below hb9 (by omega)
  replace HB : LRd w9 (w.heap.size) b.A b.n b.c b.xs := HB.below hb9 (by omega)
  replace HC : LRd w9 (w.heap.size) c.A c.n c.c c.xs := HC.below hb9 (by omega)
  replace PA : Bk2 w9 (w.heap.size) (.bool a.neg) (.slice a.A a.n a.c) := PA.below hb9 PA.lt
  replace PB : Bk2 w9 (w.heap.size + 1) (.bool b.neg) (.slice b.A b.n b.c) := PB.below hb9 PB.lt
  replace PC : Bk2 w9 (w.heap.size + 2) (.bool c.neg) (.slice c.A c.n c.c) := PC.below hb9 PC.lt
  replace hl3 : LRd w9 (w3.heap.size) A3 k3 c3 x3 := hl3.below hb9 (by omega)
  replace P3 : Bk2 w9 (w3.heap.size) (.bool n3) (.slice A3 k3 c3) := P3.below hb9 P3.lt
  replace F3 : Bk2 w9 (w3.heap.size + 1) (.int .i64 0) (.int .i64 0) := F3.below hb9 F3.lt
  replace hl4 : LRd w9 (w4.heap.size) A4 k4 c4 x4 := hl4.below hb9 (by omega)
  replace P4 : Bk2 w9 (w4.heap.size) (.bool n4) (.slice A4 k4 c4) := P4.below hb9 P4.lt
  replace F4 : Bk2 w9 (w4.heap.size + 1) (.int .i64 0) (.int .i64 0) := F4.below hb9 F4.lt
  replace hl5 : LRd w9 (w5.heap.size) A5 k5 c5 x5 := hl5.below hb9 (by omega)
  replace P5 : Bk2 w9 (w5.heap.size) (.bool n5) (.slice A5 k5 c5) := P5.below hb9 P5.lt
  replace F5 : Bk2 w9 (w5.heap.size + 1) (.int .i64 0) (.int .i64 0) := F5.below hb9 F5.lt
  replace hl6 : LRd w9 (w6.heap.size) A6 k6 c6 x6 := hl6.below hb9 (by omega)
  replace P6 : Bk2 w9 (w6.heap.size) (.bool n6) (.slice A6 k6 c6) := P6.below hb9 P6.lt
  replace F6 : Bk2 w9 (w6.heap.size + 1) (.int .i64 0) (.int .i64 0) := F6.below hb9 F6.lt
  replace hl7 : LRd w9 (w7.heap.size) A7 k7 c7 x7 := hl7.below hb9 (by omega)
  replace P7 : Bk2 w9 (w7.heap.size) (.bool n7) (.slice A7 k7 c7) := P7.below hb9 P7.lt
  replace F7 : Bk2 w9 (w7.heap.size + 1) (.int .i64 0) (.int .i64 0) := F7.below hb9 F7.lt
  replace hl8 : LRd w9 (w8.heap.size) A8 k8 c8 x8 := hl8.below hb9 (by omega)
  replace P8 : Bk2 w9 (w8.heap.size) (.bool n8) (.slice A8 k8 c8) := P8.below hb9 P8.lt
  replace F8 : Bk2 w9 (w8.heap.size + 1) (.int .i64 0) (.int .i64 0) := F8.below hb9 F8.lt
  clear hb9
  rw [e1.out]
  have t_P80 : w9.cell? ⟨w8.heap.size, 0, none⟩ = some ((.bool n8)) := P8.c0
  have t_P81 : w9.cell? ⟨w8.heap.size, 1, none⟩ = some ((.slice A8 k8 c8)) := P8.c1
  have t_PA0 : w9.cell? ⟨w.heap.size, 0, none⟩ = some ((.bool a.neg)) := PA.c0
  have t_PA1 : w9.cell? ⟨w.heap.size, 1, none⟩ = some ((.slice a.A a.n a.c)) := PA.c1
  go_wp2_with fail
  clear t_P80 t_P81 t_PA0 t_PA1
  (with_reducible refine (sameInts_any _ w9.heap.size n8 a.neg A8 a.A k8 a.n c8 a.c x8 a.xs (hl8.more (by omega)) (HA.more (by omega)) (Nat.le_refl _)).mono ?_)
  rintro e w10 ⟨rfl, hb10⟩
  have sw10 := hb10.size
  replace E : Below w.heap.size w w10 := E.trans (hb10.mono E.size)
  replace HA : LRd w10 (w.heap.size) a.A a.n a.c a.xs := HA.below hb10 (by omega)
  replace HB : LRd w10 (w.heap.size) b.A b.n b.c b.xs := HB.below hb10 (by omega)
  replace HC : LRd w10 (w.heap.size) c.A c.n c.c c.xs := HC.below hb10 (by omega)
  replace PA : Bk2 w10 (w.heap.size) (.bool a.neg) (.slice a.A a.n a.c) := PA.below hb10 PA.lt
  replace PB : Bk2 w10 (w.heap.size + 1) (.bool b.neg) (.slice b.A b.n b.c) := PB.below hb10 PB.lt
  replace PC : Bk2 w10 (w.heap.size + 2) (.bool c.neg) (.slice c.A c.n c.c) := PC.below hb10 PC.lt
  replace hl3 : LRd w10 (w3.heap.size) A3 k3 c3 x3 := hl3.below hb10 (by omega)
  replace P3 : Bk2 w10 (w3.heap.size) (.bool n3) (.slice A3 k3 c3) := P3.below hb10 P3.lt
  replace F3 : Bk2 w10 (w3.heap.size + 1) (.int .i64 0) (.int .i64 0) := F3.below hb10 F3.lt
  replace hl4 : LRd w10 (w4.heap.size) A4 k4 c4 x4 := hl4.below hb10 (by omega)
  replace P4 : Bk2 w10 (w4.heap.size) (.bool n4) (.slice A4 k4 c4) := P4.below hb10 P4.lt
  replace F4 : Bk2 w10 (w4.heap.size + 1) (.int .i64 0) (.int .i64 0) := F4.below hb10 F4.lt
  replace hl5 : LRd w10 (w5.heap.size) A5 k5 c5 x5 := hl5.below hb10 (by omega)
  replace P5 : Bk2 w10 (w5.heap.size) (.bool n5) (.slice A5 k5 c5) := P5.below hb10 P5.lt
  replace F5 : Bk2 w10 (w5.heap.size + 1) (.int .i64 0) (.int .i64 0) := F5.below hb10 F5.lt
  replace hl6 : LRd w10 (w6.heap.size) A6 k6 c6 x6 := hl6.below hb10 (by omega)
  replace P6 : Bk2 w10 (w6.heap.size) (.bool n6) (.slice A6 k6 c6) := P6.below hb10 P6.lt
  replace F6 : Bk2 w10 (w6.heap.size + 1) (.int .i64 0) (.int .i64 0) := F6.below hb10 F6.lt
  replace hl7 : LRd w10 (w7.heap.size) A7 k7 c7 x7 := hl7.below hb10 (by omega)
  replace P7 : Bk2 w10 (w7.heap.size) (.bool n7) (.slice A7 k7 c7) := P7.below hb10 P7.lt
  replace F7 : Bk2 w10 (w7.heap.size + 1) (.int .i64 0) (.int .i64 0) := F7.below hb10 F7.lt
  replace hl8 : LRd w10 (w8.heap.size) A8 k8 c8 x8 := hl8.below hb10 (by omega)
  replace P8 : Bk2 w10 (w8.heap.size) (.bool n8) (.slice A8 k8 c8) := P8.below hb10 P8.lt
  replace F8 : Bk2 w10 (w8.heap.size + 1) (.int .i64 0) (.int .i64 0) := F8.below hb10 F8.lt
  clear hb10
  rw [e2.out]
  clear hl8 hl4 hl7 hl3 hl5 hl6
  clear P3 P4 P6 P8 HC PC
  have t_PB0 : w10.cell? ⟨w.heap.size + 1, 0, none⟩ = some ((.bool b.neg)) := PB.c0
  have t_PB1 : w10.cell? ⟨w.heap.size + 1, 1, none⟩ = some ((.slice b.A b.n b.c)) := PB.c1
  go_wp2_with fail
  clear t_PB0 t_PB1
  (with_reducible refine (noInt_any _ b.neg b.A b.n b.c (by omega)).mono ?_)
  rintro e w11 ⟨rfl, hb11⟩
  have sw11 := hb11.size
  replace E : Below w.heap.size w w11 := E.trans (hb11.mono E.size)
  replace HA : LRd w11 (w.heap.size) a.A a.n a.c a.xs := HA.below hb11 (by omega)
  replace HB : LRd w11 (w.heap.size) b.A b.n b.c b.xs := HB.below hb11 (by omega)
  replace PA : Bk2 w11 (w.heap.size) (.bool a.neg) (.slice a.A a.n a.c) := PA.below hb11 PA.lt
  replace PB : Bk2 w11 (w.heap.size + 1) (.bool b.neg) (.slice b.A b.n b.c) := PB.below hb11 PB.lt
  replace F3 : Bk2 w11 (w3.heap.size + 1) (.int .i64 0) (.int .i64 0) := F3.below hb11 F3.lt
  replace F4 : Bk2 w11 (w4.heap.size + 1) (.int .i64 0) (.int .i64 0) := F4.below hb11 F4.lt
  replace P5 : Bk2 w11 (w5.heap.size) (.bool n5) (.slice A5 k5 c5) := P5.below hb11 P5.lt
  replace F5 : Bk2 w11 (w5.heap.size + 1) (.int .i64 0) (.int .i64 0) := F5.below hb11 F5.lt
  replace F6 : Bk2 w11 (w6.heap.size + 1) (.int .i64 0) (.int .i64 0) := F6.below hb11 F6.lt
  replace P7 : Bk2 w11 (w7.heap.size) (.bool n7) (.slice A7 k7 c7) := P7.below hb11 P7.lt
  replace F7 : Bk2 w11 (w7.heap.size + 1) (.int .i64 0) (.int .i64 0) := F7.below hb11 F7.lt
  replace F8 : Bk2 w11 (w8.heap.size + 1) (.int .i64 0) (.int .i64 0) := F8.below hb11 F8.lt
  clear hb11
  rw [show (!b.neg && decide (b.n = 0)) = false from hb0.out]
  have pb := Lib.hid (show 0 < b.n from by
    rcases Nat.eq_zero_or_pos b.n with e | e
    · exfalso
      have h1 := hb0.out
      have h2 := ob
      unfold IV.ok at h2
      rw [ivld_nil (HB.len.out.trans e)] at h2
      rw [h2, e] at h1
      exact absurd h1 (by decide)
    · exact e)
  have hbv := Lib.hid (show b.val ≠ 0 from fun e => by
    have h1 := rep_pos4' (by have := (IV.irep ob HB.lim).rep; exact this) HB.len.out pb.out
    rw [e] at h1; simp at h1)
  have t_PA0 : w11.cell? ⟨w.heap.size, 0, none⟩ = some ((.bool a.neg)) := PA.c0
  have t_PA1 : w11.cell? ⟨w.heap.size, 1, none⟩ = some ((.slice a.A a.n a.c)) := PA.c1
  have t_PB0 : w11.cell? ⟨w.heap.size + 1, 0, none⟩ = some ((.bool b.neg)) := PB.c0
  have t_PB1 : w11.cell? ⟨w.heap.size + 1, 1, none⟩ = some ((.slice b.A b.n b.c)) := PB.c1
  go_wp2_with fail
  clear t_PA0 t_PA1 t_PB0 t_PB1
  refine (idivmod_ok _ w11.heap.size a b (LRd.more HA (by omega) : LRd _ _ a.A a.n a.c a.xs) (LRd.more HB (by omega) : LRd _ _ b.A b.n b.c b.xs) (Nat.le_refl _) oa ob pb.out).mono ?_
  rintro e w12 ⟨Q12, R12, hf12, n12, A12, k12, c12, x12, m12, D12, l12, d12, y12, rfl, hl12, hr12, hk12, hs12, hb12⟩
  have sw12 := hb12.size
  replace E : Below w.heap.size w w12 := E.trans (hb12.mono E.size)
  replace HA : LRd w12 (w.heap.size) a.A a.n a.c a.xs := HA.below hb12 (by omega)
  replace HB : LRd w12 (w.heap.size) b.A b.n b.c b.xs := HB.below hb12 (by omega)
  replace PA : Bk2 w12 (w.heap.size) (.bool a.neg) (.slice a.A a.n a.c) := PA.below hb12 PA.lt
  replace PB : Bk2 w12 (w.heap.size + 1) (.bool b.neg) (.slice b.A b.n b.c) := PB.below hb12 PB.lt
  replace F3 : Bk2 w12 (w3.heap.size + 1) (.int .i64 0) (.int .i64 0) := F3.below hb12 F3.lt
  replace F4 : Bk2 w12 (w4.heap.size + 1) (.int .i64 0) (.int .i64 0) := F4.below hb12 F4.lt
  replace P5 : Bk2 w12 (w5.heap.size) (.bool n5) (.slice A5 k5 c5) := P5.below hb12 P5.lt
  replace F5 : Bk2 w12 (w5.heap.size + 1) (.int .i64 0) (.int .i64 0) := F5.below hb12 F5.lt
  replace F6 : Bk2 w12 (w6.heap.size + 1) (.int .i64 0) (.int .i64 0) := F6.below hb12 F6.lt
  replace P7 : Bk2 w12 (w7.heap.size) (.bool n7) (.slice A7 k7 c7) := P7.below hb12 P7.lt
  replace F7 : Bk2 w12 (w7.heap.size + 1) (.int .i64 0) (.int .i64 0) := F7.below hb12 F7.lt
  replace F8 : Bk2 w12 (w8.heap.size + 1) (.int .i64 0) (.int .i64 0) := F8.below hb12 F8.lt
  clear hb12
  have FL := Lib.hid hf12
  obtain ⟨bq, br, bqb⟩ := fl_bound hf12 hbv.out
  have HT := sum60 QA.out QB.out
  have o12 := Lib.hid (hr12.iok (by omega))
  have v12 := Lib.hid (hr12.ival (A := A12) (n := k12) (c := c12))
  have o13 := Lib.hid (hs12.iok (show R12.natAbs < Top128 by omega))
  have v13 := Lib.hid (hs12.ival (A := D12) (n := l12) (c := d12))
  have BQB := Lib.hid (show (Q12 * b.val).natAbs < Top128 by omega)
  have BR := Lib.hid br
  have I13 := Lib.hid hs12
  clear hf12 bq br bqb HT hr12 hs12
  have y_P70 : w12.cell? ⟨w7.heap.size, 0, none⟩ = some ((.bool n7)) := P7.c0
  have z_P70 : w12.frozen? ⟨w7.heap.size, 0, none⟩ = false := P7.z0
  have y_P71 : w12.cell? ⟨w7.heap.size, 1, none⟩ = some ((.slice A7 k7 c7)) := P7.c1
  have z_P71 : w12.frozen? ⟨w7.heap.size, 1, none⟩ = false := P7.z1
  have lt_P7 := P7.lt
  have y_F30 : w12.cell? ⟨w3.heap.size + 1, 0, none⟩ = some ((.int .i64 0)) := F3.c0
  have z_F30 : w12.frozen? ⟨w3.heap.size + 1, 0, none⟩ = false := F3.z0
  have y_F31 : w12.cell? ⟨w3.heap.size + 1, 1, none⟩ = some ((.int .i64 0)) := F3.c1
  have z_F31 : w12.frozen? ⟨w3.heap.size + 1, 1, none⟩ = false := F3.z1
  have lt_F3 := F3.lt
  have t_PB0 : w12.cell? ⟨w.heap.size + 1, 0, none⟩ = some ((.bool b.neg)) := PB.c0
  have t_PB1 : w12.cell? ⟨w.heap.size + 1, 1, none⟩ = some ((.slice b.A b.n b.c)) := PB.c1
  have lt_PB := PB.lt
  go_wp2_with fail
  clear y_P70 z_P70 y_P71 z_P71 lt_P7 y_F30 z_F30 y_F31 z_F31 lt_F3 t_PB0 t_PB1 lt_PB
  obtain ⟨U11P7, hU11P7⟩ : ∃ U11P7 : World, U11P7 = ((w12.setCell ⟨w7.heap.size, 0, none⟩ (.bool n12)).setCell ⟨w7.heap.size, 1, none⟩ (.slice A12 k12 c12)) := ⟨_, rfl⟩
  have zU11P7 : U11P7.heap.size = w12.heap.size := by rw [hU11P7]; simp [World.setCell]
  replace E : Below w.heap.size w U11P7 := by rw [hU11P7]; exact (E.setCell (by first | (simp; done) | (simp; omega)) _).setCell (by first | (simp; done) | (simp; omega)) _
  replace HA : LRd U11P7 (w.heap.size) a.A a.n a.c a.xs := by rw [hU11P7]; first | exact HA.setB P7 (by simp) (by simp) _ _ | exact HA.setFar2 (by omega) _ _
  replace HB : LRd U11P7 (w.heap.size) b.A b.n b.c b.xs := by rw [hU11P7]; first | exact HB.setB P7 (by simp) (by simp) _ _ | exact HB.setFar2 (by omega) _ _
  replace PA : Bk2 U11P7 (w.heap.size) (.bool a.neg) (.slice a.A a.n a.c) := by rw [hU11P7]; exact PA.far2 (by omega) _ _
  replace PB : Bk2 U11P7 (w.heap.size + 1) (.bool b.neg) (.slice b.A b.n b.c) := by rw [hU11P7]; exact PB.far2 (by omega) _ _
  replace F3 : Bk2 U11P7 (w3.heap.size + 1) (.int .i64 0) (.int .i64 0) := by rw [hU11P7]; exact F3.far2 (by omega) _ _
  replace F4 : Bk2 U11P7 (w4.heap.size + 1) (.int .i64 0) (.int .i64 0) := by rw [hU11P7]; exact F4.far2 (by omega) _ _
  replace P5 : Bk2 U11P7 (w5.heap.size) (.bool n5) (.slice A5 k5 c5) := by rw [hU11P7]; exact P5.far2 (by omega) _ _
  replace F5 : Bk2 U11P7 (w5.heap.size + 1) (.int .i64 0) (.int .i64 0) := by rw [hU11P7]; exact F5.far2 (by omega) _ _
  replace F6 : Bk2 U11P7 (w6.heap.size + 1) (.int .i64 0) (.int .i64 0) := by rw [hU11P7]; exact F6.far2 (by omega) _ _
  replace F7 : Bk2 U11P7 (w7.heap.size + 1) (.int .i64 0) (.int .i64 0) := by rw [hU11P7]; exact F7.far2 (by omega) _ _
  replace F8 : Bk2 U11P7 (w8.heap.size + 1) (.int .i64 0) (.int .i64 0) := by rw [hU11P7]; exact F8.far2 (by omega) _ _
  replace hl12 : LRd U11P7 (w12.heap.size) A12 k12 c12 x12 := by rw [hU11P7]; first | exact hl12.setB P7 (by simp) (by simp) _ _ | exact hl12.setFar2 (by omega) _ _
  replace hk12 : LRd U11P7 (w12.heap.size) D12 l12 d12 y12 := by rw [hU11P7]; first | exact hk12.setB P7 (by simp) (by simp) _ _ | exact hk12.setFar2 (by omega) _ _
  replace P7 : Bk2 U11P7 (w7.heap.size) (.bool n12) (.slice A12 k12 c12) := by rw [hU11P7]; exact P7.set _ _
  rw [← hU11P7]
  clear hU11P7
  have zU11P7' := Nat.le_of_eq zU11P7
  replace zU11P7 := Nat.le_of_eq zU11P7.symm
  obtain ⟨U11F3, hU11F3⟩ : ∃ U11F3 : World, U11F3 = ((U11P7.setCell ⟨w3.heap.size + 1, 0, none⟩ (.int .i64 0)).setCell ⟨w3.heap.size + 1, 1, none⟩ (.int .i64 0)) := ⟨_, rfl⟩
  have zU11F3 : U11F3.heap.size = U11P7.heap.size := by rw [hU11F3]; simp [World.setCell]
  replace E : Below w.heap.size w U11F3 := by rw [hU11F3]; exact (E.setCell (by first | (simp; done) | (simp; omega)) _).setCell (by first | (simp; done) | (simp; omega)) _
  replace HA : LRd U11F3 (w.heap.size) a.A a.n a.c a.xs := by rw [hU11F3]; first | exact HA.setB F3 (by simp) (by simp) _ _ | exact HA.setFar2 (by omega) _ _
  replace HB : LRd U11F3 (w.heap.size) b.A b.n b.c b.xs := by rw [hU11F3]; first | exact HB.setB F3 (by simp) (by simp) _ _ | exact HB.setFar2 (by omega) _ _
  replace PA : Bk2 U11F3 (w.heap.size) (.bool a.neg) (.slice a.A a.n a.c) := by rw [hU11F3]; exact PA.far2 (by omega) _ _
  replace PB : Bk2 U11F3 (w.heap.size + 1) (.bool b.neg) (.slice b.A b.n b.c) := by rw [hU11F3]; exact PB.far2 (by omega) _ _
  replace F4 : Bk2 U11F3 (w4.heap.size + 1) (.int .i64 0) (.int .i64 0) := by rw [hU11F3]; exact F4.far2 (by omega) _ _
  replace P5 : Bk2 U11F3 (w5.heap.size) (.bool n5) (.slice A5 k5 c5) := by rw [hU11F3]; exact P5.far2 (by omega) _ _
  replace F5 : Bk2 U11F3 (w5.heap.size + 1) (.int .i64 0) (.int .i64 0) := by rw [hU11F3]; exact F5.far2 (by omega) _ _
  replace F6 : Bk2 U11F3 (w6.heap.size + 1) (.int .i64 0) (.int .i64 0) := by rw [hU11F3]; exact F6.far2 (by omega) _ _
  replace P7 : Bk2 U11F3 (w7.heap.size) (.bool n12) (.slice A12 k12 c12) := by rw [hU11F3]; exact P7.far2 (by omega) _ _
  replace F7 : Bk2 U11F3 (w7.heap.size + 1) (.int .i64 0) (.int .i64 0) := by rw [hU11F3]; exact F7.far2 (by omega) _ _
  replace F8 : Bk2 U11F3 (w8.heap.size + 1) (.int .i64 0) (.int .i64 0) := by rw [hU11F3]; exact F8.far2 (by omega) _ _
  replace hl12 : LRd U11F3 (w12.heap.size) A12 k12 c12 x12 := by rw [hU11F3]; first | exact hl12.setB F3 (by simp) (by simp) _ _ | exact hl12.setFar2 (by omega) _ _
  replace hk12 : LRd U11F3 (w12.heap.size) D12 l12 d12 y12 := by rw [hU11F3]; first | exact hk12.setB F3 (by simp) (by simp) _ _ | exact hk12.setFar2 (by omega) _ _
  replace F3 : Bk2 U11F3 (w3.heap.size + 1) (.int .i64 0) (.int .i64 0) := by rw [hU11F3]; exact F3.set _ _
  rw [← hU11F3]
  clear hU11F3
  have zU11F3' := Nat.le_of_eq zU11F3
  replace zU11F3 := Nat.le_of_eq zU11F3.symm
  obtain ⟨V11, hV11⟩ : ∃ V11 : World, V11 = (U11F3.alloc (.cells #[.bool m12, .slice D12 l12 d12] 24)) := ⟨_, rfl⟩
  have bV11 : Below U11F3.heap.size U11F3 V11 := by rw [hV11]; (repeat (first | with_reducible exact Below.refl _ _ | with_reducible refine Below.drew ?_ | with_reducible refine below_drewN ?_ _ | with_reducible refine Below.setCell ?_ (by first | (simp; done) | (simp; omega) | omega) _ | with_reducible refine Below.alloc ?_ (by first | (simp; done) | (simp; omega) | omega) _))
  have zV11 : U11F3.heap.size + 1 ≤ V11.heap.size := by rw [hV11]; simp
  have P19 : Bk2 V11 (w12.heap.size) (.bool m12) (.slice D12 l12 d12) := by rw [hV11]; exact (Bk2.newAt _ _ (by first | omega | (simp; done) | (simp; omega)) _ _ _)
  rw [← hV11]
  clear hV11
  replace E : Below w.heap.size w V11 := E.trans (bV11.mono E.size)
  replace HA : LRd V11 (w.heap.size) a.A a.n a.c a.xs := HA.below bV11 (by omega)
  replace HB : LRd V11 (w.heap.size) b.A b.n b.c b.xs := HB.below bV11 (by omega)
  replace PA : Bk2 V11 (w.heap.size) (.bool a.neg) (.slice a.A a.n a.c) := PA.below bV11 PA.lt
  replace PB : Bk2 V11 (w.heap.size + 1) (.bool b.neg) (.slice b.A b.n b.c) := PB.below bV11 PB.lt
  replace F3 : Bk2 V11 (w3.heap.size + 1) (.int .i64 0) (.int .i64 0) := F3.below bV11 F3.lt
  replace F4 : Bk2 V11 (w4.heap.size + 1) (.int .i64 0) (.int .i64 0) := F4.below bV11 F4.lt
  replace P5 : Bk2 V11 (w5.heap.size) (.bool n5) (.slice A5 k5 c5) := P5.below bV11 P5.lt
  replace F5 : Bk2 V11 (w5.heap.size + 1) (.int .i64 0) (.int .i64 0) := F5.below bV11 F5.lt
  replace F6 : Bk2 V11 (w6.heap.size + 1) (.int .i64 0) (.int .i64 0) := F6.below bV11 F6.lt
  replace P7 : Bk2 V11 (w7.heap.size) (.bool n12) (.slice A12 k12 c12) := P7.below bV11 P7.lt
  replace F7 : Bk2 V11 (w7.heap.size + 1) (.int .i64 0) (.int .i64 0) := F7.below bV11 F7.lt
  replace F8 : Bk2 V11 (w8.heap.size + 1) (.int .i64 0) (.int .i64 0) := F8.below bV11 F8.lt
  replace hl12 : LRd V11 (w12.heap.size) A12 k12 c12 x12 := hl12.below bV11 (by omega)
  replace hk12 : LRd V11 (w12.heap.size) D12 l12 d12 y12 := hk12.below bV11 (by omega)
  clear bV11
  have HS := Lib.hid (imul_ok _ V11.heap.size (IV.mk n12 A12 k12 c12 x12) b (LRd.more hl12 (by omega) : LRd _ _ A12 k12 c12 x12) (LRd.more HB (by omega) : LRd _ _ b.A b.n b.c b.xs) (Nat.le_refl _) o12.out ob)
  refine HS.out.mono ?_
  intro e w14 hgv
  clear HS
  rw [v12.out] at hgv
  have hbd : (Q12 * b.val).natAbs < Top128 := BQB.out
  obtain ⟨n14, A14, k14, c14, x14, rfl, hl14, hr14, hb14⟩ := (hgv.resolve_right (fun hh => absurd hh.1 (by omega))).2
  clear hgv
  have s14 := hb14.size
  replace E : Below w.heap.size w w14 := E.trans (hb14.mono E.size)
  replace HA : LRd w14 (w.heap.size) a.A a.n a.c a.xs := HA.below hb14 (by omega)
  replace HB : LRd w14 (w.heap.size) b.A b.n b.c b.xs := HB.below hb14 (by omega)
  replace PA : Bk2 w14 (w.heap.size) (.bool a.neg) (.slice a.A a.n a.c) := PA.below hb14 PA.lt
  replace PB : Bk2 w14 (w.heap.size + 1) (.bool b.neg) (.slice b.A b.n b.c) := PB.below hb14 PB.lt
  replace F3 : Bk2 w14 (w3.heap.size + 1) (.int .i64 0) (.int .i64 0) := F3.below hb14 F3.lt
  replace F4 : Bk2 w14 (w4.heap.size + 1) (.int .i64 0) (.int .i64 0) := F4.below hb14 F4.lt
  replace P5 : Bk2 w14 (w5.heap.size) (.bool n5) (.slice A5 k5 c5) := P5.below hb14 P5.lt
  replace F5 : Bk2 w14 (w5.heap.size + 1) (.int .i64 0) (.int .i64 0) := F5.below hb14 F5.lt
  replace F6 : Bk2 w14 (w6.heap.size + 1) (.int .i64 0) (.int .i64 0) := F6.below hb14 F6.lt
  replace P7 : Bk2 w14 (w7.heap.size) (.bool n12) (.slice A12 k12 c12) := P7.below hb14 P7.lt
  replace F7 : Bk2 w14 (w7.heap.size + 1) (.int .i64 0) (.int .i64 0) := F7.below hb14 F7.lt
  replace F8 : Bk2 w14 (w8.heap.size + 1) (.int .i64 0) (.int .i64 0) := F8.below hb14 F8.lt
  replace hl12 : LRd w14 (w12.heap.size) A12 k12 c12 x12 := hl12.below hb14 (by omega)
  replace hk12 : LRd w14 (w12.heap.size) D12 l12 d12 y12 := hk12.below hb14 (by omega)
  replace P19 : Bk2 w14 (w12.heap.size) (.bool m12) (.slice D12 l12 d12) := P19.below hb14 P19.lt
  clear hb14
  have o14 := Lib.hid (hr14.iok hbd)
  have v14 := Lib.hid (hr14.ival (A := A14) (n := k14) (c := c14))
  have I14 := Lib.hid hr14
  clear hr14 hbd
  have y_P50 : w14.cell? ⟨w5.heap.size, 0, none⟩ = some ((.bool n5)) := P5.c0
  have z_P50 : w14.frozen? ⟨w5.heap.size, 0, none⟩ = false := P5.z0
  have y_P51 : w14.cell? ⟨w5.heap.size, 1, none⟩ = some ((.slice A5 k5 c5)) := P5.c1
  have z_P51 : w14.frozen? ⟨w5.heap.size, 1, none⟩ = false := P5.z1
  have lt_P5 := P5.lt
  have y_F40 : w14.cell? ⟨w4.heap.size + 1, 0, none⟩ = some ((.int .i64 0)) := F4.c0
  have z_F40 : w14.frozen? ⟨w4.heap.size + 1, 0, none⟩ = false := F4.z0
  have y_F41 : w14.cell? ⟨w4.heap.size + 1, 1, none⟩ = some ((.int .i64 0)) := F4.c1
  have z_F41 : w14.frozen? ⟨w4.heap.size + 1, 1, none⟩ = false := F4.z1
  have lt_F4 := F4.lt
  have t_P190 : w14.cell? ⟨w12.heap.size, 0, none⟩ = some ((.bool m12)) := P19.c0
  have t_P191 : w14.cell? ⟨w12.heap.size, 1, none⟩ = some ((.slice D12 l12 d12)) := P19.c1
  have lt_P19 := P19.lt
  go_wp2_with fail
  clear y_P50 z_P50 y_P51 z_P51 lt_P5 y_F40 z_F40 y_F41 z_F41 lt_F4 t_P190 t_P191 lt_P19
  obtain ⟨U12P5, hU12P5⟩ : ∃ U12P5 : World, U12P5 = ((w14.setCell ⟨w5.heap.size, 0, none⟩ (.bool n14)).setCell ⟨w5.heap.size, 1, none⟩ (.slice A14 k14 c14)) := ⟨_, rfl⟩
  have zU12P5 : U12P5.heap.size = w14.heap.size := by rw [hU12P5]; simp [World.setCell]
  replace E : Below w.heap.size w U12P5 := by rw [hU12P5]; exact (E.setCell (by first | (simp; done) | (simp; omega)) _).setCell (by first | (simp; done) | (simp; omega)) _
  replace HA : LRd U12P5 (w.heap.size) a.A a.n a.c a.xs := by rw [hU12P5]; first | exact HA.setB P5 (by simp) (by simp) _ _ | exact HA.setFar2 (by omega) _ _
  replace HB : LRd U12P5 (w.heap.size) b.A b.n b.c b.xs := by rw [hU12P5]; first | exact HB.setB P5 (by simp) (by simp) _ _ | exact HB.setFar2 (by omega) _ _
  replace PA : Bk2 U12P5 (w.heap.size) (.bool a.neg) (.slice a.A a.n a.c) := by rw [hU12P5]; exact PA.far2 (by omega) _ _
  replace PB : Bk2 U12P5 (w.heap.size + 1) (.bool b.neg) (.slice b.A b.n b.c) := by rw [hU12P5]; exact PB.far2 (by omega) _ _
  replace F3 : Bk2 U12P5 (w3.heap.size + 1) (.int .i64 0) (.int .i64 0) := by rw [hU12P5]; exact F3.far2 (by omega) _ _
  replace F4 : Bk2 U12P5 (w4.heap.size + 1) (.int .i64 0) (.int .i64 0) := by rw [hU12P5]; exact F4.far2 (by omega) _ _
  replace F5 : Bk2 U12P5 (w5.heap.size + 1) (.int .i64 0) (.int .i64 0) := by rw [hU12P5]; exact F5.far2 (by omega) _ _
  replace F6 : Bk2 U12P5 (w6.heap.size + 1) (.int .i64 0) (.int .i64 0) := by rw [hU12P5]; exact F6.far2 (by omega) _ _
  replace P7 : Bk2 U12P5 (w7.heap.size) (.bool n12) (.slice A12 k12 c12) := by rw [hU12P5]; exact P7.far2 (by omega) _ _
  replace F7 : Bk2 U12P5 (w7.heap.size + 1) (.int .i64 0) (.int .i64 0) := by rw [hU12P5]; exact F7.far2 (by omega) _ _
  replace F8 : Bk2 U12P5 (w8.heap.size + 1) (.int .i64 0) (.int .i64 0) := by rw [hU12P5]; exact F8.far2 (by omega) _ _
  replace hl12 : LRd U12P5 (w12.heap.size) A12 k12 c12 x12 := by rw [hU12P5]; first | exact hl12.setB P5 (by simp) (by simp) _ _ | exact hl12.setFar2 (by omega) _ _
  replace hk12 : LRd U12P5 (w12.heap.size) D12 l12 d12 y12 := by rw [hU12P5]; first | exact hk12.setB P5 (by simp) (by simp) _ _ | exact hk12.setFar2 (by omega) _ _
  replace P19 : Bk2 U12P5 (w12.heap.size) (.bool m12) (.slice D12 l12 d12) := by rw [hU12P5]; exact P19.far2 (by omega) _ _
  replace hl14 : LRd U12P5 (w14.heap.size) A14 k14 c14 x14 := by rw [hU12P5]; first | exact hl14.setB P5 (by simp) (by simp) _ _ | exact hl14.setFar2 (by omega) _ _
  replace P5 : Bk2 U12P5 (w5.heap.size) (.bool n14) (.slice A14 k14 c14) := by rw [hU12P5]; exact P5.set _ _
  rw [← hU12P5]
  clear hU12P5
  have zU12P5' := Nat.le_of_eq zU12P5
  replace zU12P5 := Nat.le_of_eq zU12P5.symm
  obtain ⟨U12F4, hU12F4⟩ : ∃ U12F4 : World, U12F4 = ((U12P5.setCell ⟨w4.heap.size + 1, 0, none⟩ (.int .i64 0)).setCell ⟨w4.heap.size + 1, 1, none⟩ (.int .i64 0)) := ⟨_, rfl⟩
  have zU12F4 : U12F4.heap.size = U12P5.heap.size := by rw [hU12F4]; simp [World.setCell]
  replace E : Below w.heap.size w U12F4 := by rw [hU12F4]; exact (E.setCell (by first | (simp; done) | (simp; omega)) _).setCell (by first | (simp; done) | (simp; omega)) _
  replace HA : LRd U12F4 (w.heap.size) a.A a.n a.c a.xs := by rw [hU12F4]; first | exact HA.setB F4 (by simp) (by simp) _ _ | exact HA.setFar2 (by omega) _ _
  replace HB : LRd U12F4 (w.heap.size) b.A b.n b.c b.xs := by rw [hU12F4]; first | exact HB.setB F4 (by simp) (by simp) _ _ | exact HB.setFar2 (by omega) _ _
  replace PA : Bk2 U12F4 (w.heap.size) (.bool a.neg) (.slice a.A a.n a.c) := by rw [hU12F4]; exact PA.far2 (by omega) _ _
  replace PB : Bk2 U12F4 (w.heap.size + 1) (.bool b.neg) (.slice b.A b.n b.c) := by rw [hU12F4]; exact PB.far2 (by omega) _ _
  replace F3 : Bk2 U12F4 (w3.heap.size + 1) (.int .i64 0) (.int .i64 0) := by rw [hU12F4]; exact F3.far2 (by omega) _ _
  replace P5 : Bk2 U12F4 (w5.heap.size) (.bool n14) (.slice A14 k14 c14) := by rw [hU12F4]; exact P5.far2 (by omega) _ _
  replace F5 : Bk2 U12F4 (w5.heap.size + 1) (.int .i64 0) (.int .i64 0) := by rw [hU12F4]; exact F5.far2 (by omega) _ _
  replace F6 : Bk2 U12F4 (w6.heap.size + 1) (.int .i64 0) (.int .i64 0) := by rw [hU12F4]; exact F6.far2 (by omega) _ _
  replace P7 : Bk2 U12F4 (w7.heap.size) (.bool n12) (.slice A12 k12 c12) := by rw [hU12F4]; exact P7.far2 (by omega) _ _
  replace F7 : Bk2 U12F4 (w7.heap.size + 1) (.int .i64 0) (.int .i64 0) := by rw [hU12F4]; exact F7.far2 (by omega) _ _
  replace F8 : Bk2 U12F4 (w8.heap.size + 1) (.int .i64 0) (.int .i64 0) := by rw [hU12F4]; exact F8.far2 (by omega) _ _
  replace hl12 : LRd U12F4 (w12.heap.size) A12 k12 c12 x12 := by rw [hU12F4]; first | exact hl12.setB F4 (by simp) (by simp) _ _ | exact hl12.setFar2 (by omega) _ _
  replace hk12 : LRd U12F4 (w12.heap.size) D12 l12 d12 y12 := by rw [hU12F4]; first | exact hk12.setB F4 (by simp) (by simp) _ _ | exact hk12.setFar2 (by omega) _ _
  replace P19 : Bk2 U12F4 (w12.heap.size) (.bool m12) (.slice D12 l12 d12) := by rw [hU12F4]; exact P19.far2 (by omega) _ _
  replace hl14 : LRd U12F4 (w14.heap.size) A14 k14 c14 x14 := by rw [hU12F4]; first | exact hl14.setB F4 (by simp) (by simp) _ _ | exact hl14.setFar2 (by omega) _ _
  replace F4 : Bk2 U12F4 (w4.heap.size + 1) (.int .i64 0) (.int .i64 0) := by rw [hU12F4]; exact F4.set _ _
  rw [← hU12F4]
  clear hU12F4
  have zU12F4' := Nat.le_of_eq zU12F4
  replace zU12F4 := Nat.le_of_eq zU12F4.symm
  have hl13 := hk12
  clear hk12
  have HS := Lib.hid (iadd_ok _ U12F4.heap.size (IV.mk n14 A14 k14 c14 x14) (IV.mk m12 D12 l12 d12 y12) (LRd.more hl14 (by omega) : LRd _ _ A14 k14 c14 x14) (LRd.more hl13 (by omega) : LRd _ _ D12 l12 d12 y12) (Nat.le_refl _) o14.out o13.out)
  refine HS.out.mono ?_
  intro e w15 hgv
  clear HS
  rw [v14.out, v13.out, ← FL.out.1] at hgv
  have hbd : a.val.natAbs < Top128 := t60 QA.out
  obtain ⟨n15, A15, k15, c15, x15, rfl, hl15, hr15, hb15⟩ := (hgv.resolve_right (fun hh => absurd hh.1 (by omega))).2
  clear hgv hbd
  have s15 := hb15.size
  replace E : Below w.heap.size w w15 := E.trans (hb15.mono E.size)
  replace HA : LRd w15 (w.heap.size) a.A a.n a.c a.xs := HA.below hb15 (by omega)
  replace HB : LRd w15 (w.heap.size) b.A b.n b.c b.xs := HB.below hb15 (by omega)
  replace PA : Bk2 w15 (w.heap.size) (.bool a.neg) (.slice a.A a.n a.c) := PA.below hb15 PA.lt
  replace PB : Bk2 w15 (w.heap.size + 1) (.bool b.neg) (.slice b.A b.n b.c) := PB.below hb15 PB.lt
  replace F3 : Bk2 w15 (w3.heap.size + 1) (.int .i64 0) (.int .i64 0) := F3.below hb15 F3.lt
  replace F4 : Bk2 w15 (w4.heap.size + 1) (.int .i64 0) (.int .i64 0) := F4.below hb15 F4.lt
  replace P5 : Bk2 w15 (w5.heap.size) (.bool n14) (.slice A14 k14 c14) := P5.below hb15 P5.lt
  replace F5 : Bk2 w15 (w5.heap.size + 1) (.int .i64 0) (.int .i64 0) := F5.below hb15 F5.lt
  replace F6 : Bk2 w15 (w6.heap.size + 1) (.int .i64 0) (.int .i64 0) := F6.below hb15 F6.lt
  replace P7 : Bk2 w15 (w7.heap.size) (.bool n12) (.slice A12 k12 c12) := P7.below hb15 P7.lt
  replace F7 : Bk2 w15 (w7.heap.size + 1) (.int .i64 0) (.int .i64 0) := F7.below hb15 F7.lt
  replace F8 : Bk2 w15 (w8.heap.size + 1) (.int .i64 0) (.int .i64 0) := F8.below hb15 F8.lt
  replace hl12 : LRd w15 (w12.heap.size) A12 k12 c12 x12 := hl12.below hb15 (by omega)
  replace P19 : Bk2 w15 (w12.heap.size) (.bool m12) (.slice D12 l12 d12) := P19.below hb15 P19.lt
  replace hl14 : LRd w15 (w14.heap.size) A14 k14 c14 x14 := hl14.below hb15 (by omega)
  replace hl13 : LRd w15 (w12.heap.size) D12 l12 d12 y12 := hl13.below hb15 (by omega)
  clear hb15
  have e3 := Lib.hid (irep_eq hr15 IA.out)
  clear hr15
  have y_P50 : w15.cell? ⟨w5.heap.size, 0, none⟩ = some ((.bool n14)) := P5.c0
  have z_P50 : w15.frozen? ⟨w5.heap.size, 0, none⟩ = false := P5.z0
  have y_P51 : w15.cell? ⟨w5.heap.size, 1, none⟩ = some ((.slice A14 k14 c14)) := P5.c1
  have z_P51 : w15.frozen? ⟨w5.heap.size, 1, none⟩ = false := P5.z1
  have lt_P5 := P5.lt
  have y_F50 : w15.cell? ⟨w5.heap.size + 1, 0, none⟩ = some ((.int .i64 0)) := F5.c0
  have z_F50 : w15.frozen? ⟨w5.heap.size + 1, 0, none⟩ = false := F5.z0
  have y_F51 : w15.cell? ⟨w5.heap.size + 1, 1, none⟩ = some ((.int .i64 0)) := F5.c1
  have z_F51 : w15.frozen? ⟨w5.heap.size + 1, 1, none⟩ = false := F5.z1
  have lt_F5 := F5.lt
  have t_P190 : w15.cell? ⟨w12.heap.size, 0, none⟩ = some ((.bool m12)) := P19.c0
  have t_P191 : w15.cell? ⟨w12.heap.size, 1, none⟩ = some ((.slice D12 l12 d12)) := P19.c1
  have lt_P19 := P19.lt
  go_wp2_with fail
  clear y_P50 z_P50 y_P51 z_P51 lt_P5 y_F50 z_F50 y_F51 z_F51 lt_F5 t_P190 t_P191 lt_P19
  obtain ⟨U13P5, hU13P5⟩ : ∃ U13P5 : World, U13P5 = ((w15.setCell ⟨w5.heap.size, 0, none⟩ (.bool n15)).setCell ⟨w5.heap.size, 1, none⟩ (.slice A15 k15 c15)) := ⟨_, rfl⟩
  have zU13P5 : U13P5.heap.size = w15.heap.size := by rw [hU13P5]; simp [World.setCell]
  replace E : Below w.heap.size w U13P5 := by rw [hU13P5]; exact (E.setCell (by first | (simp; done) | (simp; omega)) _).setCell (by first | (simp; done) | (simp; omega)) _
  replace HA : LRd U13P5 (w.heap.size) a.A a.n a.c a.xs := by rw [hU13P5]; first | exact HA.setB P5 (by simp) (by simp) _ _ | exact HA.setFar2 (by omega) _ _
  replace HB : LRd U13P5 (w.heap.size) b.A b.n b.c b.xs := by rw [hU13P5]; first | exact HB.setB P5 (by simp) (by simp) _ _ | exact HB.setFar2 (by omega) _ _
  replace PA : Bk2 U13P5 (w.heap.size) (.bool a.neg) (.slice a.A a.n a.c) := by rw [hU13P5]; exact PA.far2 (by omega) _ _
  replace PB : Bk2 U13P5 (w.heap.size + 1) (.bool b.neg) (.slice b.A b.n b.c) := by rw [hU13P5]; exact PB.far2 (by omega) _ _
  replace F3 : Bk2 U13P5 (w3.heap.size + 1) (.int .i64 0) (.int .i64 0) := by rw [hU13P5]; exact F3.far2 (by omega) _ _
  replace F4 : Bk2 U13P5 (w4.heap.size + 1) (.int .i64 0) (.int .i64 0) := by rw [hU13P5]; exact F4.far2 (by omega) _ _
  replace F5 : Bk2 U13P5 (w5.heap.size + 1) (.int .i64 0) (.int .i64 0) := by rw [hU13P5]; exact F5.far2 (by omega) _ _
  replace F6 : Bk2 U13P5 (w6.heap.size + 1) (.int .i64 0) (.int .i64 0) := by rw [hU13P5]; exact F6.far2 (by omega) _ _
  replace P7 : Bk2 U13P5 (w7.heap.size) (.bool n12) (.slice A12 k12 c12) := by rw [hU13P5]; exact P7.far2 (by omega) _ _
  replace F7 : Bk2 U13P5 (w7.heap.size + 1) (.int .i64 0) (.int .i64 0) := by rw [hU13P5]; exact F7.far2 (by omega) _ _
  replace F8 : Bk2 U13P5 (w8.heap.size + 1) (.int .i64 0) (.int .i64 0) := by rw [hU13P5]; exact F8.far2 (by omega) _ _
  replace hl12 : LRd U13P5 (w12.heap.size) A12 k12 c12 x12 := by rw [hU13P5]; first | exact hl12.setB P5 (by simp) (by simp) _ _ | exact hl12.setFar2 (by omega) _ _
  replace P19 : Bk2 U13P5 (w12.heap.size) (.bool m12) (.slice D12 l12 d12) := by rw [hU13P5]; exact P19.far2 (by omega) _ _
  replace hl14 : LRd U13P5 (w14.heap.size) A14 k14 c14 x14 := by rw [hU13P5]; first | exact hl14.setB P5 (by simp) (by simp) _ _ | exact hl14.setFar2 (by omega) _ _
  replace hl13 : LRd U13P5 (w12.heap.size) D12 l12 d12 y12 := by rw [hU13P5]; first | exact hl13.setB P5 (by simp) (by simp) _ _ | exact hl13.setFar2 (by omega) _ _
  replace hl15 : LRd U13P5 (w15.heap.size) A15 k15 c15 x15 := by rw [hU13P5]; first | exact hl15.setB P5 (by simp) (by simp) _ _ | exact hl15.setFar2 (by omega) _ _
  replace P5 : Bk2 U13P5 (w5.heap.size) (.bool n15) (.slice A15 k15 c15) := by rw [hU13P5]; exact P5.set _ _
  rw [← hU13P5]
  clear hU13P5
  have zU13P5' := Nat.le_of_eq zU13P5
  replace zU13P5 := Nat.le_of_eq zU13P5.symm
  obtain ⟨U13F5, hU13F5⟩ : ∃ U13F5 : World, U13F5 = ((U13P5.setCell ⟨w5.heap.size + 1, 0, none⟩ (.int .i64 0)).setCell ⟨w5.heap.size + 1, 1, none⟩ (.int .i64 0)) := ⟨_, rfl⟩
  have zU13F5 : U13F5.heap.size = U13P5.heap.size := by rw [hU13F5]; simp [World.setCell]
  replace E : Below w.heap.size w U13F5 := by rw [hU13F5]; exact (E.setCell (by first | (simp; done) | (simp; omega)) _).setCell (by first | (simp; done) | (simp; omega)) _
  replace HA : LRd U13F5 (w.heap.size) a.A a.n a.c a.xs := by rw [hU13F5]; first | exact HA.setB F5 (by simp) (by simp) _ _ | exact HA.setFar2 (by omega) _ _
  replace HB : LRd U13F5 (w.heap.size) b.A b.n b.c b.xs := by rw [hU13F5]; first | exact HB.setB F5 (by simp) (by simp) _ _ | exact HB.setFar2 (by omega) _ _
  replace PA : Bk2 U13F5 (w.heap.size) (.bool a.neg) (.slice a.A a.n a.c) := by rw [hU13F5]; exact PA.far2 (by omega) _ _
  replace PB : Bk2 U13F5 (w.heap.size + 1) (.bool b.neg) (.slice b.A b.n b.c) := by rw [hU13F5]; exact PB.far2 (by omega) _ _
  replace F3 : Bk2 U13F5 (w3.heap.size + 1) (.int .i64 0) (.int .i64 0) := by rw [hU13F5]; exact F3.far2 (by omega) _ _
  replace F4 : Bk2 U13F5 (w4.heap.size + 1) (.int .i64 0) (.int .i64 0) := by rw [hU13F5]; exact F4.far2 (by omega) _ _
  replace P5 : Bk2 U13F5 (w5.heap.size) (.bool n15) (.slice A15 k15 c15) := by rw [hU13F5]; exact P5.far2 (by omega) _ _
  replace F6 : Bk2 U13F5 (w6.heap.size + 1) (.int .i64 0) (.int .i64 0) := by rw [hU13F5]; exact F6.far2 (by omega) _ _
  replace P7 : Bk2 U13F5 (w7.heap.size) (.bool n12) (.slice A12 k12 c12) := by rw [hU13F5]; exact P7.far2 (by omega) _ _
  replace F7 : Bk2 U13F5 (w7.heap.size + 1) (.int .i64 0) (.int .i64 0) := by rw [hU13F5]; exact F7.far2 (by omega) _ _
  replace F8 : Bk2 U13F5 (w8.heap.size + 1) (.int .i64 0) (.int .i64 0) := by rw [hU13F5]; exact F8.far2 (by omega) _ _
  replace hl12 : LRd U13F5 (w12.heap.size) A12 k12 c12 x12 := by rw [hU13F5]; first | exact hl12.setB F5 (by simp) (by simp) _ _ | exact hl12.setFar2 (by omega) _ _
  replace P19 : Bk2 U13F5 (w12.heap.size) (.bool m12) (.slice D12 l12 d12) := by rw [hU13F5]; exact P19.far2 (by omega) _ _
  replace hl14 : LRd U13F5 (w14.heap.size) A14 k14 c14 x14 := by rw [hU13F5]; first | exact hl14.setB F5 (by simp) (by simp) _ _ | exact hl14.setFar2 (by omega) _ _
  replace hl13 : LRd U13F5 (w12.heap.size) D12 l12 d12 y12 := by rw [hU13F5]; first | exact hl13.setB F5 (by simp) (by simp) _ _ | exact hl13.setFar2 (by omega) _ _
  replace hl15 : LRd U13F5 (w15.heap.size) A15 k15 c15 x15 := by rw [hU13F5]; first | exact hl15.setB F5 (by simp) (by simp) _ _ | exact hl15.setFar2 (by omega) _ _
  replace F5 : Bk2 U13F5 (w5.heap.size + 1) (.int .i64 0) (.int .i64 0) := by rw [hU13F5]; exact F5.set _ _
  rw [← hU13F5]
  clear hU13F5
  have zU13F5' := Nat.le_of_eq zU13F5
  replace zU13F5 := Nat.le_of_eq zU13F5.symm
  clear hl14 hl12 P7
  have G0 : Below U13F5.heap.size U13F5 U13F5.drew := Below.drew (Below.refl _ _)
  have HS := Lib.hid (fun (u : World) (hu : Below U13F5.heap.size U13F5 u) => (⟨(P19.below hu P19.lt).c0, (P19.below hu P19.lt).c1⟩ : u.cell? ⟨w12.heap.size, 0, none⟩ = some (.bool m12) ∧ u.cell? ⟨w12.heap.size, 1, none⟩ = some (.slice D12 l12 d12)))
  go_region_held3 (fun u => u.cell? ⟨w12.heap.size, 0, none⟩ = some (.bool m12) ∧ u.cell? ⟨w12.heap.size, 1, none⟩ = some (.slice D12 l12 d12))
    (first | with_reducible exact HS.out _ G0 | with_reducible exact HS.out _ HBC | with_reducible exact HS.out _ HBO | exact ⟨((P19.below HBC P19.lt).far2 (by omega) _ _).c0, ((P19.below HBC P19.lt).far2 (by omega) _ _).c1⟩)
    (first
      | (go_at_call 19; ((with_reducible refine (iof_any _ 0 (by omega) (by omega)).mono ?_); rintro e wo ⟨n16, A16, k16, c16, x16, rfl, hl16, hr16, hb16⟩; have HBO : Below U13F5.heap.size U13F5 wo := bnext G0 hb16; have o16 := Lib.hid (hr16.iok (lt_top (by decide))); have v16 := Lib.hid (hr16.ival (A := A16) (n := k16) (c := c16)); clear hr16))
      | (go_at_call 14; go_loud ((refine (icmp_ok _ wo.heap.size (IV.mk n16 A16 k16 c16 x16) (IV.mk m12 D12 l12 d12 y12) hl16 ((hl13.below HBO (by omega)).more (by have := HBO.size; omega)) (Nat.le_refl _) o16.out o13.out).mono ?_); rintro e wc ⟨r, hic, rfl, hbc⟩; have HBC : Below U13F5.heap.size U13F5 wc := bnext HBO hbc; have y0 := (F6.below HBC F6.lt).c0; have y1 := (F6.below HBC F6.lt).c1; have y2 := (F6.below HBC F6.lt).z0; have y3 := (F6.below HBC F6.lt).z1; have HIC := Lib.hid hic; clear hic)))
  all_goals (clear y0 y1 y2 y3 hl16 HS G0)
  have swc := HBC.size
  replace E : Below w.heap.size w wc := E.trans (HBC.mono E.size)
  replace HA : LRd wc (w.heap.size) a.A a.n a.c a.xs := HA.below HBC (by omega)
  replace HB : LRd wc (w.heap.size) b.A b.n b.c b.xs := HB.below HBC (by omega)
  replace PA : Bk2 wc (w.heap.size) (.bool a.neg) (.slice a.A a.n a.c) := PA.below HBC PA.lt
  replace PB : Bk2 wc (w.heap.size + 1) (.bool b.neg) (.slice b.A b.n b.c) := PB.below HBC PB.lt
  replace F3 : Bk2 wc (w3.heap.size + 1) (.int .i64 0) (.int .i64 0) := F3.below HBC F3.lt
  replace F4 : Bk2 wc (w4.heap.size + 1) (.int .i64 0) (.int .i64 0) := F4.below HBC F4.lt
  replace P5 : Bk2 wc (w5.heap.size) (.bool n15) (.slice A15 k15 c15) := P5.below HBC P5.lt
  replace F5 : Bk2 wc (w5.heap.size + 1) (.int .i64 0) (.int .i64 0) := F5.below HBC F5.lt
  replace F6 : Bk2 wc (w6.heap.size + 1) (.int .i64 0) (.int .i64 0) := F6.below HBC F6.lt
  replace F7 : Bk2 wc (w7.heap.size + 1) (.int .i64 0) (.int .i64 0) := F7.below HBC F7.lt
  replace F8 : Bk2 wc (w8.heap.size + 1) (.int .i64 0) (.int .i64 0) := F8.below HBC F8.lt
  replace P19 : Bk2 wc (w12.heap.size) (.bool m12) (.slice D12 l12 d12) := P19.below HBC P19.lt
  replace hl13 : LRd wc (w12.heap.size) D12 l12 d12 y12 := hl13.below HBC (by omega)
  replace hl15 : LRd wc (w15.heap.size) A15 k15 c15 x15 := hl15.below HBC (by omega)
  obtain ⟨U18F6, hU18F6⟩ : ∃ U18F6 : World, U18F6 = ((wc.setCell ⟨w6.heap.size + 1, 0, none⟩ (.int .i64 0)).setCell ⟨w6.heap.size + 1, 1, none⟩ (.int .i64 0)) := ⟨_, rfl⟩
  have zU18F6 : U18F6.heap.size = wc.heap.size := by rw [hU18F6]; simp [World.setCell]
  replace E : Below w.heap.size w U18F6 := by rw [hU18F6]; exact (E.setCell (by first | (simp; done) | (simp; omega)) _).setCell (by first | (simp; done) | (simp; omega)) _
  replace HA : LRd U18F6 (w.heap.size) a.A a.n a.c a.xs := by rw [hU18F6]; first | exact HA.setB F6 (by simp) (by simp) _ _ | exact HA.setFar2 (by omega) _ _
  replace HB : LRd U18F6 (w.heap.size) b.A b.n b.c b.xs := by rw [hU18F6]; first | exact HB.setB F6 (by simp) (by simp) _ _ | exact HB.setFar2 (by omega) _ _
  replace PA : Bk2 U18F6 (w.heap.size) (.bool a.neg) (.slice a.A a.n a.c) := by rw [hU18F6]; exact PA.far2 (by omega) _ _
  replace PB : Bk2 U18F6 (w.heap.size + 1) (.bool b.neg) (.slice b.A b.n b.c) := by rw [hU18F6]; exact PB.far2 (by omega) _ _
  replace F3 : Bk2 U18F6 (w3.heap.size + 1) (.int .i64 0) (.int .i64 0) := by rw [hU18F6]; exact F3.far2 (by omega) _ _
  replace F4 : Bk2 U18F6 (w4.heap.size + 1) (.int .i64 0) (.int .i64 0) := by rw [hU18F6]; exact F4.far2 (by omega) _ _
  replace P5 : Bk2 U18F6 (w5.heap.size) (.bool n15) (.slice A15 k15 c15) := by rw [hU18F6]; exact P5.far2 (by omega) _ _
  replace F5 : Bk2 U18F6 (w5.heap.size + 1) (.int .i64 0) (.int .i64 0) := by rw [hU18F6]; exact F5.far2 (by omega) _ _
  replace F7 : Bk2 U18F6 (w7.heap.size + 1) (.int .i64 0) (.int .i64 0) := by rw [hU18F6]; exact F7.far2 (by omega) _ _
  replace F8 : Bk2 U18F6 (w8.heap.size + 1) (.int .i64 0) (.int .i64 0) := by rw [hU18F6]; exact F8.far2 (by omega) _ _
  replace P19 : Bk2 U18F6 (w12.heap.size) (.bool m12) (.slice D12 l12 d12) := by rw [hU18F6]; exact P19.far2 (by omega) _ _
  replace hl13 : LRd U18F6 (w12.heap.size) D12 l12 d12 y12 := by rw [hU18F6]; first | exact hl13.setB F6 (by simp) (by simp) _ _ | exact hl13.setFar2 (by omega) _ _
  replace hl15 : LRd U18F6 (w15.heap.size) A15 k15 c15 x15 := by rw [hU18F6]; first | exact hl15.setB F6 (by simp) (by simp) _ _ | exact hl15.setFar2 (by omega) _ _
  replace F6 : Bk2 U18F6 (w6.heap.size + 1) (.int .i64 0) (.int .i64 0) := by rw [hU18F6]; exact F6.set _ _
  rw [← hU18F6]
  clear hU18F6
  have zU18F6' := Nat.le_of_eq zU18F6
  replace zU18F6 := Nat.le_of_eq zU18F6.symm
  have t_PB0 : U18F6.cell? ⟨w.heap.size + 1, 0, none⟩ = some ((.bool b.neg)) := PB.c0
  have t_PB1 : U18F6.cell? ⟨w.heap.size + 1, 1, none⟩ = some ((.slice b.A b.n b.c)) := PB.c1
  go_wp2_with fail
  clear t_PB0 t_PB1
  refine (iabs_ok _ U18F6.heap.size b (LRd.more HB (by omega) : LRd _ _ b.A b.n b.c b.xs) (Nat.le_refl _) ob).mono ?_
  rintro e w17 ⟨n17, A17, k17, c17, x17, rfl, hl17, hr17, hb17⟩
  have sw17 := hb17.size
  replace E : Below w.heap.size w w17 := E.trans (hb17.mono E.size)
  replace HA : LRd w17 (w.heap.size) a.A a.n a.c a.xs := HA.below hb17 (by omega)
  replace HB : LRd w17 (w.heap.size) b.A b.n b.c b.xs := HB.below hb17 (by omega)
  replace PA : Bk2 w17 (w.heap.size) (.bool a.neg) (.slice a.A a.n a.c) := PA.below hb17 PA.lt
  replace PB : Bk2 w17 (w.heap.size + 1) (.bool b.neg) (.slice b.A b.n b.c) := PB.below hb17 PB.lt
  replace F3 : Bk2 w17 (w3.heap.size + 1) (.int .i64 0) (.int .i64 0) := F3.below hb17 F3.lt
  replace F4 : Bk2 w17 (w4.heap.size + 1) (.int .i64 0) (.int .i64 0) := F4.below hb17 F4.lt
  replace P5 : Bk2 w17 (w5.heap.size) (.bool n15) (.slice A15 k15 c15) := P5.below hb17 P5.lt
  replace F5 : Bk2 w17 (w5.heap.size + 1) (.int .i64 0) (.int .i64 0) := F5.below hb17 F5.lt
  replace F6 : Bk2 w17 (w6.heap.size + 1) (.int .i64 0) (.int .i64 0) := F6.below hb17 F6.lt
  replace F7 : Bk2 w17 (w7.heap.size + 1) (.int .i64 0) (.int .i64 0) := F7.below hb17 F7.lt
  replace F8 : Bk2 w17 (w8.heap.size + 1) (.int .i64 0) (.int .i64 0) := F8.below hb17 F8.lt
  replace P19 : Bk2 w17 (w12.heap.size) (.bool m12) (.slice D12 l12 d12) := P19.below hb17 P19.lt
  replace hl13 : LRd w17 (w12.heap.size) D12 l12 d12 y12 := hl13.below hb17 (by omega)
  replace hl15 : LRd w17 (w15.heap.size) A15 k15 c15 x15 := hl15.below hb17 (by omega)
  clear hb17
  rw [abs_sval', ← IV.abs] at hr17
  have o17 := Lib.hid (hr17.iok (by have := t60 QB.out; simpa using this))
  have v17 := Lib.hid (hr17.ival (A := A17) (n := k17) (c := c17))
  clear hr17
  have y_F70 : w17.cell? ⟨w7.heap.size + 1, 0, none⟩ = some ((.int .i64 0)) := F7.c0
  have z_F70 : w17.frozen? ⟨w7.heap.size + 1, 0, none⟩ = false := F7.z0
  have y_F71 : w17.cell? ⟨w7.heap.size + 1, 1, none⟩ = some ((.int .i64 0)) := F7.c1
  have z_F71 : w17.frozen? ⟨w7.heap.size + 1, 1, none⟩ = false := F7.z1
  have lt_F7 := F7.lt
  have t_P190 : w17.cell? ⟨w12.heap.size, 0, none⟩ = some ((.bool m12)) := P19.c0
  have t_P191 : w17.cell? ⟨w12.heap.size, 1, none⟩ = some ((.slice D12 l12 d12)) := P19.c1
  have lt_P19 := P19.lt
  go_wp2_with fail
  clear y_F70 z_F70 y_F71 z_F71 lt_F7 t_P190 t_P191 lt_P19
  obtain ⟨U15F7, hU15F7⟩ : ∃ U15F7 : World, U15F7 = ((w17.setCell ⟨w7.heap.size + 1, 0, none⟩ (.int .i64 0)).setCell ⟨w7.heap.size + 1, 1, none⟩ (.int .i64 0)) := ⟨_, rfl⟩
  have zU15F7 : U15F7.heap.size = w17.heap.size := by rw [hU15F7]; simp [World.setCell]
  replace E : Below w.heap.size w U15F7 := by rw [hU15F7]; exact (E.setCell (by first | (simp; done) | (simp; omega)) _).setCell (by first | (simp; done) | (simp; omega)) _
  replace HA : LRd U15F7 (w.heap.size) a.A a.n a.c a.xs := by rw [hU15F7]; first | exact HA.setB F7 (by simp) (by simp) _ _ | exact HA.setFar2 (by omega) _ _
  replace HB : LRd U15F7 (w.heap.size) b.A b.n b.c b.xs := by rw [hU15F7]; first | exact HB.setB F7 (by simp) (by simp) _ _ | exact HB.setFar2 (by omega) _ _
  replace PA : Bk2 U15F7 (w.heap.size) (.bool a.neg) (.slice a.A a.n a.c) := by rw [hU15F7]; exact PA.far2 (by omega) _ _
  replace PB : Bk2 U15F7 (w.heap.size + 1) (.bool b.neg) (.slice b.A b.n b.c) := by rw [hU15F7]; exact PB.far2 (by omega) _ _
  replace F3 : Bk2 U15F7 (w3.heap.size + 1) (.int .i64 0) (.int .i64 0) := by rw [hU15F7]; exact F3.far2 (by omega) _ _
  replace F4 : Bk2 U15F7 (w4.heap.size + 1) (.int .i64 0) (.int .i64 0) := by rw [hU15F7]; exact F4.far2 (by omega) _ _
  replace P5 : Bk2 U15F7 (w5.heap.size) (.bool n15) (.slice A15 k15 c15) := by rw [hU15F7]; exact P5.far2 (by omega) _ _
  replace F5 : Bk2 U15F7 (w5.heap.size + 1) (.int .i64 0) (.int .i64 0) := by rw [hU15F7]; exact F5.far2 (by omega) _ _
  replace F6 : Bk2 U15F7 (w6.heap.size + 1) (.int .i64 0) (.int .i64 0) := by rw [hU15F7]; exact F6.far2 (by omega) _ _
  replace F8 : Bk2 U15F7 (w8.heap.size + 1) (.int .i64 0) (.int .i64 0) := by rw [hU15F7]; exact F8.far2 (by omega) _ _
  replace P19 : Bk2 U15F7 (w12.heap.size) (.bool m12) (.slice D12 l12 d12) := by rw [hU15F7]; exact P19.far2 (by omega) _ _
  replace hl13 : LRd U15F7 (w12.heap.size) D12 l12 d12 y12 := by rw [hU15F7]; first | exact hl13.setB F7 (by simp) (by simp) _ _ | exact hl13.setFar2 (by omega) _ _
  replace hl15 : LRd U15F7 (w15.heap.size) A15 k15 c15 x15 := by rw [hU15F7]; first | exact hl15.setB F7 (by simp) (by simp) _ _ | exact hl15.setFar2 (by omega) _ _
  replace hl17 : LRd U15F7 (w17.heap.size) A17 k17 c17 x17 := by rw [hU15F7]; first | exact hl17.setB F7 (by simp) (by simp) _ _ | exact hl17.setFar2 (by omega) _ _
  replace F7 : Bk2 U15F7 (w7.heap.size + 1) (.int .i64 0) (.int .i64 0) := by rw [hU15F7]; exact F7.set _ _
  rw [← hU15F7]
  clear hU15F7
  have zU15F7' := Nat.le_of_eq zU15F7
  replace zU15F7 := Nat.le_of_eq zU15F7.symm
  obtain ⟨V15, hV15⟩ : ∃ V15 : World, V15 = (U15F7.alloc (.cells #[.bool n17, .slice A17 k17 c17] 24)) := ⟨_, rfl⟩
  have bV15 : Below U15F7.heap.size U15F7 V15 := by rw [hV15]; (repeat (first | with_reducible exact Below.refl _ _ | with_reducible refine Below.drew ?_ | with_reducible refine below_drewN ?_ _ | with_reducible refine Below.setCell ?_ (by first | (simp; done) | (simp; omega) | omega) _ | with_reducible refine Below.alloc ?_ (by first | (simp; done) | (simp; omega) | omega) _))
  have zV15 : U15F7.heap.size + 1 ≤ V15.heap.size := by rw [hV15]; simp
  have P21 : Bk2 V15 (w17.heap.size) (.bool n17) (.slice A17 k17 c17) := by rw [hV15]; exact (Bk2.newAt _ _ (by first | omega | (simp; done) | (simp; omega)) _ _ _)
  rw [← hV15]
  clear hV15
  replace E : Below w.heap.size w V15 := E.trans (bV15.mono E.size)
  replace HA : LRd V15 (w.heap.size) a.A a.n a.c a.xs := HA.below bV15 (by omega)
  replace HB : LRd V15 (w.heap.size) b.A b.n b.c b.xs := HB.below bV15 (by omega)
  replace PA : Bk2 V15 (w.heap.size) (.bool a.neg) (.slice a.A a.n a.c) := PA.below bV15 PA.lt
  replace PB : Bk2 V15 (w.heap.size + 1) (.bool b.neg) (.slice b.A b.n b.c) := PB.below bV15 PB.lt
  replace F3 : Bk2 V15 (w3.heap.size + 1) (.int .i64 0) (.int .i64 0) := F3.below bV15 F3.lt
  replace F4 : Bk2 V15 (w4.heap.size + 1) (.int .i64 0) (.int .i64 0) := F4.below bV15 F4.lt
  replace P5 : Bk2 V15 (w5.heap.size) (.bool n15) (.slice A15 k15 c15) := P5.below bV15 P5.lt
  replace F5 : Bk2 V15 (w5.heap.size + 1) (.int .i64 0) (.int .i64 0) := F5.below bV15 F5.lt
  replace F6 : Bk2 V15 (w6.heap.size + 1) (.int .i64 0) (.int .i64 0) := F6.below bV15 F6.lt
  replace F7 : Bk2 V15 (w7.heap.size + 1) (.int .i64 0) (.int .i64 0) := F7.below bV15 F7.lt
  replace F8 : Bk2 V15 (w8.heap.size + 1) (.int .i64 0) (.int .i64 0) := F8.below bV15 F8.lt
  replace P19 : Bk2 V15 (w12.heap.size) (.bool m12) (.slice D12 l12 d12) := P19.below bV15 P19.lt
  replace hl13 : LRd V15 (w12.heap.size) D12 l12 d12 y12 := hl13.below bV15 (by omega)
  replace hl15 : LRd V15 (w15.heap.size) A15 k15 c15 x15 := hl15.below bV15 (by omega)
  replace hl17 : LRd V15 (w17.heap.size) A17 k17 c17 x17 := hl17.below bV15 (by omega)
  clear bV15
  refine (iabs_ok _ V15.heap.size (IV.mk m12 D12 l12 d12 y12) (LRd.more hl13 (by omega) : LRd _ _ D12 l12 d12 y12) (Nat.le_refl _) o13.out).mono ?_
  rintro e w18 ⟨n18, A18, k18, c18, x18, rfl, hl18, hr18, hb18⟩
  have sw18 := hb18.size
  replace E : Below w.heap.size w w18 := E.trans (hb18.mono E.size)
  replace HA : LRd w18 (w.heap.size) a.A a.n a.c a.xs := HA.below hb18 (by omega)
  replace HB : LRd w18 (w.heap.size) b.A b.n b.c b.xs := HB.below hb18 (by omega)
  replace PA : Bk2 w18 (w.heap.size) (.bool a.neg) (.slice a.A a.n a.c) := PA.below hb18 PA.lt
  replace PB : Bk2 w18 (w.heap.size + 1) (.bool b.neg) (.slice b.A b.n b.c) := PB.below hb18 PB.lt
  replace F3 : Bk2 w18 (w3.heap.size + 1) (.int .i64 0) (.int .i64 0) := F3.below hb18 F3.lt
  replace F4 : Bk2 w18 (w4.heap.size + 1) (.int .i64 0) (.int .i64 0) := F4.below hb18 F4.lt
  replace P5 : Bk2 w18 (w5.heap.size) (.bool n15) (.slice A15 k15 c15) := P5.below hb18 P5.lt
  replace F5 : Bk2 w18 (w5.heap.size + 1) (.int .i64 0) (.int .i64 0) := F5.below hb18 F5.lt
  replace F6 : Bk2 w18 (w6.heap.size + 1) (.int .i64 0) (.int .i64 0) := F6.below hb18 F6.lt
  replace F7 : Bk2 w18 (w7.heap.size + 1) (.int .i64 0) (.int .i64 0) := F7.below hb18 F7.lt
  replace F8 : Bk2 w18 (w8.heap.size + 1) (.int .i64 0) (.int .i64 0) := F8.below hb18 F8.lt
  replace P19 : Bk2 w18 (w12.heap.size) (.bool m12) (.slice D12 l12 d12) := P19.below hb18 P19.lt
  replace hl13 : LRd w18 (w12.heap.size) D12 l12 d12 y12 := hl13.below hb18 (by omega)
  replace hl15 : LRd w18 (w15.heap.size) A15 k15 c15 x15 := hl15.below hb18 (by omega)
  replace hl17 : LRd w18 (w17.heap.size) A17 k17 c17 x17 := hl17.below hb18 (by omega)
  replace P21 : Bk2 w18 (w17.heap.size) (.bool n17) (.slice A17 k17 c17) := P21.below hb18 P21.lt
  clear hb18
  rw [abs_sval', ← IV.abs, v13.out] at hr18
  have o18 := Lib.hid (hr18.iok (by have := t60 QB.out; have := BR.out; simp; omega))
  have v18 := Lib.hid (hr18.ival (A := A18) (n := k18) (c := c18))
  clear hr18
  have y_F80 : w18.cell? ⟨w8.heap.size + 1, 0, none⟩ = some ((.int .i64 0)) := F8.c0
  have z_F80 : w18.frozen? ⟨w8.heap.size + 1, 0, none⟩ = false := F8.z0
  have y_F81 : w18.cell? ⟨w8.heap.size + 1, 1, none⟩ = some ((.int .i64 0)) := F8.c1
  have z_F81 : w18.frozen? ⟨w8.heap.size + 1, 1, none⟩ = false := F8.z1
  have lt_F8 := F8.lt
  have t_P210 : w18.cell? ⟨w17.heap.size, 0, none⟩ = some ((.bool n17)) := P21.c0
  have t_P211 : w18.cell? ⟨w17.heap.size, 1, none⟩ = some ((.slice A17 k17 c17)) := P21.c1
  have lt_P21 := P21.lt
  go_wp2_with fail
  clear y_F80 z_F80 y_F81 z_F81 lt_F8 t_P210 t_P211 lt_P21
  obtain ⟨U16F8, hU16F8⟩ : ∃ U16F8 : World, U16F8 = ((w18.setCell ⟨w8.heap.size + 1, 0, none⟩ (.int .i64 0)).setCell ⟨w8.heap.size + 1, 1, none⟩ (.int .i64 0)) := ⟨_, rfl⟩
  have zU16F8 : U16F8.heap.size = w18.heap.size := by rw [hU16F8]; simp [World.setCell]
  replace E : Below w.heap.size w U16F8 := by rw [hU16F8]; exact (E.setCell (by first | (simp; done) | (simp; omega)) _).setCell (by first | (simp; done) | (simp; omega)) _
  replace HA : LRd U16F8 (w.heap.size) a.A a.n a.c a.xs := by rw [hU16F8]; first | exact HA.setB F8 (by simp) (by simp) _ _ | exact HA.setFar2 (by omega) _ _
  replace HB : LRd U16F8 (w.heap.size) b.A b.n b.c b.xs := by rw [hU16F8]; first | exact HB.setB F8 (by simp) (by simp) _ _ | exact HB.setFar2 (by omega) _ _
  replace PA : Bk2 U16F8 (w.heap.size) (.bool a.neg) (.slice a.A a.n a.c) := by rw [hU16F8]; exact PA.far2 (by omega) _ _
  replace PB : Bk2 U16F8 (w.heap.size + 1) (.bool b.neg) (.slice b.A b.n b.c) := by rw [hU16F8]; exact PB.far2 (by omega) _ _
  replace F3 : Bk2 U16F8 (w3.heap.size + 1) (.int .i64 0) (.int .i64 0) := by rw [hU16F8]; exact F3.far2 (by omega) _ _
  replace F4 : Bk2 U16F8 (w4.heap.size + 1) (.int .i64 0) (.int .i64 0) := by rw [hU16F8]; exact F4.far2 (by omega) _ _
  replace P5 : Bk2 U16F8 (w5.heap.size) (.bool n15) (.slice A15 k15 c15) := by rw [hU16F8]; exact P5.far2 (by omega) _ _
  replace F5 : Bk2 U16F8 (w5.heap.size + 1) (.int .i64 0) (.int .i64 0) := by rw [hU16F8]; exact F5.far2 (by omega) _ _
  replace F6 : Bk2 U16F8 (w6.heap.size + 1) (.int .i64 0) (.int .i64 0) := by rw [hU16F8]; exact F6.far2 (by omega) _ _
  replace F7 : Bk2 U16F8 (w7.heap.size + 1) (.int .i64 0) (.int .i64 0) := by rw [hU16F8]; exact F7.far2 (by omega) _ _
  replace P19 : Bk2 U16F8 (w12.heap.size) (.bool m12) (.slice D12 l12 d12) := by rw [hU16F8]; exact P19.far2 (by omega) _ _
  replace hl13 : LRd U16F8 (w12.heap.size) D12 l12 d12 y12 := by rw [hU16F8]; first | exact hl13.setB F8 (by simp) (by simp) _ _ | exact hl13.setFar2 (by omega) _ _
  replace hl15 : LRd U16F8 (w15.heap.size) A15 k15 c15 x15 := by rw [hU16F8]; first | exact hl15.setB F8 (by simp) (by simp) _ _ | exact hl15.setFar2 (by omega) _ _
  replace hl17 : LRd U16F8 (w17.heap.size) A17 k17 c17 x17 := by rw [hU16F8]; first | exact hl17.setB F8 (by simp) (by simp) _ _ | exact hl17.setFar2 (by omega) _ _
  replace P21 : Bk2 U16F8 (w17.heap.size) (.bool n17) (.slice A17 k17 c17) := by rw [hU16F8]; exact P21.far2 (by omega) _ _
  replace hl18 : LRd U16F8 (w18.heap.size) A18 k18 c18 x18 := by rw [hU16F8]; first | exact hl18.setB F8 (by simp) (by simp) _ _ | exact hl18.setFar2 (by omega) _ _
  replace F8 : Bk2 U16F8 (w8.heap.size + 1) (.int .i64 0) (.int .i64 0) := by rw [hU16F8]; exact F8.set _ _
  rw [← hU16F8]
  clear hU16F8
  have zU16F8' := Nat.le_of_eq zU16F8
  replace zU16F8 := Nat.le_of_eq zU16F8.symm
  obtain ⟨V16, hV16⟩ : ∃ V16 : World, V16 = (U16F8.alloc (.cells #[.bool n18, .slice A18 k18 c18] 24)) := ⟨_, rfl⟩
  have bV16 : Below U16F8.heap.size U16F8 V16 := by rw [hV16]; (repeat (first | with_reducible exact Below.refl _ _ | with_reducible refine Below.drew ?_ | with_reducible refine below_drewN ?_ _ | with_reducible refine Below.setCell ?_ (by first | (simp; done) | (simp; omega) | omega) _ | with_reducible refine Below.alloc ?_ (by first | (simp; done) | (simp; omega) | omega) _))
  have zV16 : U16F8.heap.size + 1 ≤ V16.heap.size := by rw [hV16]; simp
  have P22 : Bk2 V16 (w18.heap.size) (.bool n18) (.slice A18 k18 c18) := by rw [hV16]; exact (Bk2.newAt _ _ (by first | omega | (simp; done) | (simp; omega)) _ _ _)
  rw [← hV16]
  clear hV16
  replace E : Below w.heap.size w V16 := E.trans (bV16.mono E.size)
  replace HA : LRd V16 (w.heap.size) a.A a.n a.c a.xs := HA.below bV16 (by omega)
  replace HB : LRd V16 (w.heap.size) b.A b.n b.c b.xs := HB.below bV16 (by omega)
  replace PA : Bk2 V16 (w.heap.size) (.bool a.neg) (.slice a.A a.n a.c) := PA.below bV16 PA.lt
  replace PB : Bk2 V16 (w.heap.size + 1) (.bool b.neg) (.slice b.A b.n b.c) := PB.below bV16 PB.lt
  replace F3 : Bk2 V16 (w3.heap.size + 1) (.int .i64 0) (.int .i64 0) := F3.below bV16 F3.lt
  replace F4 : Bk2 V16 (w4.heap.size + 1) (.int .i64 0) (.int .i64 0) := F4.below bV16 F4.lt
  replace P5 : Bk2 V16 (w5.heap.size) (.bool n15) (.slice A15 k15 c15) := P5.below bV16 P5.lt
  replace F5 : Bk2 V16 (w5.heap.size + 1) (.int .i64 0) (.int .i64 0) := F5.below bV16 F5.lt
  replace F6 : Bk2 V16 (w6.heap.size + 1) (.int .i64 0) (.int .i64 0) := F6.below bV16 F6.lt
  replace F7 : Bk2 V16 (w7.heap.size + 1) (.int .i64 0) (.int .i64 0) := F7.below bV16 F7.lt
  replace F8 : Bk2 V16 (w8.heap.size + 1) (.int .i64 0) (.int .i64 0) := F8.below bV16 F8.lt
  replace P19 : Bk2 V16 (w12.heap.size) (.bool m12) (.slice D12 l12 d12) := P19.below bV16 P19.lt
  replace hl13 : LRd V16 (w12.heap.size) D12 l12 d12 y12 := hl13.below bV16 (by omega)
  replace hl15 : LRd V16 (w15.heap.size) A15 k15 c15 x15 := hl15.below bV16 (by omega)
  replace hl17 : LRd V16 (w17.heap.size) A17 k17 c17 x17 := hl17.below bV16 (by omega)
  replace P21 : Bk2 V16 (w17.heap.size) (.bool n17) (.slice A17 k17 c17) := P21.below bV16 P21.lt
  replace hl18 : LRd V16 (w18.heap.size) A18 k18 c18 x18 := hl18.below bV16 (by omega)
  clear bV16
  refine (icmp_ok _ V16.heap.size (IV.mk n18 A18 k18 c18 x18) (IV.mk n17 A17 k17 c17 x17) (LRd.more hl18 (by omega) : LRd _ _ A18 k18 c18 x18) (LRd.more hl17 (by omega) : LRd _ _ A17 k17 c17 x17) (Nat.le_refl _) o18.out o17.out).mono ?_
  rintro e w19 ⟨r2, hi2, rfl, hb19⟩
  have sw19 := hb19.size
  replace E : Below w.heap.size w w19 := E.trans (hb19.mono E.size)
  replace HA : LRd w19 (w.heap.size) a.A a.n a.c a.xs := HA.below hb19 (by omega)
  replace HB : LRd w19 (w.heap.size) b.A b.n b.c b.xs := HB.below hb19 (by omega)
  replace PA : Bk2 w19 (w.heap.size) (.bool a.neg) (.slice a.A a.n a.c) := PA.below hb19 PA.lt
  replace PB : Bk2 w19 (w.heap.size + 1) (.bool b.neg) (.slice b.A b.n b.c) := PB.below hb19 PB.lt
  replace F3 : Bk2 w19 (w3.heap.size + 1) (.int .i64 0) (.int .i64 0) := F3.below hb19 F3.lt
  replace F4 : Bk2 w19 (w4.heap.size + 1) (.int .i64 0) (.int .i64 0) := F4.below hb19 F4.lt
  replace P5 : Bk2 w19 (w5.heap.size) (.bool n15) (.slice A15 k15 c15) := P5.below hb19 P5.lt
  replace F5 : Bk2 w19 (w5.heap.size + 1) (.int .i64 0) (.int .i64 0) := F5.below hb19 F5.lt
  replace F6 : Bk2 w19 (w6.heap.size + 1) (.int .i64 0) (.int .i64 0) := F6.below hb19 F6.lt
  replace F7 : Bk2 w19 (w7.heap.size + 1) (.int .i64 0) (.int .i64 0) := F7.below hb19 F7.lt
  replace F8 : Bk2 w19 (w8.heap.size + 1) (.int .i64 0) (.int .i64 0) := F8.below hb19 F8.lt
  replace P19 : Bk2 w19 (w12.heap.size) (.bool m12) (.slice D12 l12 d12) := P19.below hb19 P19.lt
  replace hl13 : LRd w19 (w12.heap.size) D12 l12 d12 y12 := hl13.below hb19 (by omega)
  replace hl15 : LRd w19 (w15.heap.size) A15 k15 c15 x15 := hl15.below hb19 (by omega)
  replace hl17 : LRd w19 (w17.heap.size) A17 k17 c17 x17 := hl17.below hb19 (by omega)
  replace P21 : Bk2 w19 (w17.heap.size) (.bool n17) (.slice A17 k17 c17) := P21.below hb19 P21.lt
  replace hl18 : LRd w19 (w18.heap.size) A18 k18 c18 x18 := hl18.below hb19 (by omega)
  replace P22 : Bk2 w19 (w18.heap.size) (.bool n18) (.slice A18 k18 c18) := P22.below hb19 P22.lt
  clear hb19
  rw [v18.out, v17.out] at hi2
  obtain rfl : r2 = -1 := by have := BR.out; unfold ICmp at hi2; omega
  clear hi2
  have t_F30 : (w19.alloc (.cells #[.int .i64 0, .int .i64 0] 26)).cell? ⟨w3.heap.size + 1, 0, none⟩ = some ((.int .i64 0)) := (F3.alloc _).c0
  have t_F31 : (w19.alloc (.cells #[.int .i64 0, .int .i64 0] 26)).cell? ⟨w3.heap.size + 1, 1, none⟩ = some ((.int .i64 0)) := (F3.alloc _).c1
  have t_F40 : (w19.alloc (.cells #[.int .i64 0, .int .i64 0] 26)).cell? ⟨w4.heap.size + 1, 0, none⟩ = some ((.int .i64 0)) := (F4.alloc _).c0
  have t_F41 : (w19.alloc (.cells #[.int .i64 0, .int .i64 0] 26)).cell? ⟨w4.heap.size + 1, 1, none⟩ = some ((.int .i64 0)) := (F4.alloc _).c1
  have t_F50 : (w19.alloc (.cells #[.int .i64 0, .int .i64 0] 26)).cell? ⟨w5.heap.size + 1, 0, none⟩ = some ((.int .i64 0)) := (F5.alloc _).c0
  have t_F51 : (w19.alloc (.cells #[.int .i64 0, .int .i64 0] 26)).cell? ⟨w5.heap.size + 1, 1, none⟩ = some ((.int .i64 0)) := (F5.alloc _).c1
  have t_F60 : (w19.alloc (.cells #[.int .i64 0, .int .i64 0] 26)).cell? ⟨w6.heap.size + 1, 0, none⟩ = some ((.int .i64 0)) := (F6.alloc _).c0
  have t_F61 : (w19.alloc (.cells #[.int .i64 0, .int .i64 0] 26)).cell? ⟨w6.heap.size + 1, 1, none⟩ = some ((.int .i64 0)) := (F6.alloc _).c1
  have t_F70 : (w19.alloc (.cells #[.int .i64 0, .int .i64 0] 26)).cell? ⟨w7.heap.size + 1, 0, none⟩ = some ((.int .i64 0)) := (F7.alloc _).c0
  have t_F71 : (w19.alloc (.cells #[.int .i64 0, .int .i64 0] 26)).cell? ⟨w7.heap.size + 1, 1, none⟩ = some ((.int .i64 0)) := (F7.alloc _).c1
  have t_F80 : (w19.alloc (.cells #[.int .i64 0, .int .i64 0] 26)).cell? ⟨w8.heap.size + 1, 0, none⟩ = some ((.int .i64 0)) := (F8.alloc _).c0
  have t_F81 : (w19.alloc (.cells #[.int .i64 0, .int .i64 0] 26)).cell? ⟨w8.heap.size + 1, 1, none⟩ = some ((.int .i64 0)) := (F8.alloc _).c1
  have t_P50 : (w19.alloc (.cells #[.int .i64 0, .int .i64 0] 26)).cell? ⟨w5.heap.size, 0, none⟩ = some ((.bool n15)) := (P5.alloc _).c0
  have t_P51 : (w19.alloc (.cells #[.int .i64 0, .int .i64 0] 26)).cell? ⟨w5.heap.size, 1, none⟩ = some ((.slice A15 k15 c15)) := (P5.alloc _).c1
  have t_PA0 : (w19.alloc (.cells #[.int .i64 0, .int .i64 0] 26)).cell? ⟨w.heap.size, 0, none⟩ = some ((.bool a.neg)) := (PA.alloc _).c0
  have t_PA1 : (w19.alloc (.cells #[.int .i64 0, .int .i64 0] 26)).cell? ⟨w.heap.size, 1, none⟩ = some ((.slice a.A a.n a.c)) := (PA.alloc _).c1
  go_wp2_with fail
  clear t_F30 t_F31 t_F40 t_F41 t_F50 t_F51 t_F60 t_F61 t_F70 t_F71 t_F80 t_F81 t_P50 t_P51 t_PA0 t_PA1
  obtain ⟨V17, hV17⟩ : ∃ V17 : World, V17 = (w19.alloc (.cells #[.int .i64 0, .int .i64 0] 26)) := ⟨_, rfl⟩
  have bV17 : Below w19.heap.size w19 V17 := by rw [hV17]; (repeat (first | with_reducible exact Below.refl _ _ | with_reducible refine Below.drew ?_ | with_reducible refine below_drewN ?_ _ | with_reducible refine Below.setCell ?_ (by first | (simp; done) | (simp; omega) | omega) _ | with_reducible refine Below.alloc ?_ (by first | (simp; done) | (simp; omega) | omega) _))
  have zV17 : w19.heap.size + 1 ≤ V17.heap.size := by rw [hV17]; simp
  have F24 : Bk2 V17 (w19.heap.size) (.int .i64 0) (.int .i64 0) := by rw [hV17]; exact (Bk2.newAt _ _ (by simp) _ _ _)
  rw [← hV17]
  clear hV17
  replace E : Below w.heap.size w V17 := E.trans (bV17.mono E.size)
  replace HA : LRd V17 (w.heap.size) a.A a.n a.c a.xs := HA.below bV17 (by omega)
  replace HB : LRd V17 (w.heap.size) b.A b.n b.c b.xs := HB.below bV17 (by omega)
  replace PA : Bk2 V17 (w.heap.size) (.bool a.neg) (.slice a.A a.n a.c) := PA.below bV17 PA.lt
  replace PB : Bk2 V17 (w.heap.size + 1) (.bool b.neg) (.slice b.A b.n b.c) := PB.below bV17 PB.lt
  replace F3 : Bk2 V17 (w3.heap.size + 1) (.int .i64 0) (.int .i64 0) := F3.below bV17 F3.lt
  replace F4 : Bk2 V17 (w4.heap.size + 1) (.int .i64 0) (.int .i64 0) := F4.below bV17 F4.lt
  replace P5 : Bk2 V17 (w5.heap.size) (.bool n15) (.slice A15 k15 c15) := P5.below bV17 P5.lt
  replace F5 : Bk2 V17 (w5.heap.size + 1) (.int .i64 0) (.int .i64 0) := F5.below bV17 F5.lt
  replace F6 : Bk2 V17 (w6.heap.size + 1) (.int .i64 0) (.int .i64 0) := F6.below bV17 F6.lt
  replace F7 : Bk2 V17 (w7.heap.size + 1) (.int .i64 0) (.int .i64 0) := F7.below bV17 F7.lt
  replace F8 : Bk2 V17 (w8.heap.size + 1) (.int .i64 0) (.int .i64 0) := F8.below bV17 F8.lt
  replace P19 : Bk2 V17 (w12.heap.size) (.bool m12) (.slice D12 l12 d12) := P19.below bV17 P19.lt
  replace hl13 : LRd V17 (w12.heap.size) D12 l12 d12 y12 := hl13.below bV17 (by omega)
  replace hl15 : LRd V17 (w15.heap.size) A15 k15 c15 x15 := hl15.below bV17 (by omega)
  replace hl17 : LRd V17 (w17.heap.size) A17 k17 c17 x17 := hl17.below bV17 (by omega)
  replace P21 : Bk2 V17 (w17.heap.size) (.bool n17) (.slice A17 k17 c17) := P21.below bV17 P21.lt
  replace hl18 : LRd V17 (w18.heap.size) A18 k18 c18 x18 := hl18.below bV17 (by omega)
  replace P22 : Bk2 V17 (w18.heap.size) (.bool n18) (.slice A18 k18 c18) := P22.below bV17 P22.lt
  clear bV17
  (with_reducible refine (sameInts_any _ V17.heap.size n15 a.neg A15 a.A k15 a.n c15 a.c x15 a.xs (hl15.more (by omega)) (HA.more (by omega)) (Nat.le_refl _)).mono ?_)
  rintro e w20 ⟨rfl, hb20⟩
  have sw20 := hb20.size
  replace E : Below w.heap.size w w20 := E.trans (hb20.mono E.size)
  replace HA : LRd w20 (w.heap.size) a.A a.n a.c a.xs := HA.below hb20 (by omega)
  replace HB : LRd w20 (w.heap.size) b.A b.n b.c b.xs := HB.below hb20 (by omega)
  replace PA : Bk2 w20 (w.heap.size) (.bool a.neg) (.slice a.A a.n a.c) := PA.below hb20 PA.lt
  replace PB : Bk2 w20 (w.heap.size + 1) (.bool b.neg) (.slice b.A b.n b.c) := PB.below hb20 PB.lt
  replace F3 : Bk2 w20 (w3.heap.size + 1) (.int .i64 0) (.int .i64 0) := F3.below hb20 F3.lt
  replace F4 : Bk2 w20 (w4.heap.size + 1) (.int .i64 0) (.int .i64 0) := F4.below hb20 F4.lt
  replace P5 : Bk2 w20 (w5.heap.size) (.bool n15) (.slice A15 k15 c15) := P5.below hb20 P5.lt
  replace F5 : Bk2 w20 (w5.heap.size + 1) (.int .i64 0) (.int .i64 0) := F5.below hb20 F5.lt
  replace F6 : Bk2 w20 (w6.heap.size + 1) (.int .i64 0) (.int .i64 0) := F6.below hb20 F6.lt
  replace F7 : Bk2 w20 (w7.heap.size + 1) (.int .i64 0) (.int .i64 0) := F7.below hb20 F7.lt
  replace F8 : Bk2 w20 (w8.heap.size + 1) (.int .i64 0) (.int .i64 0) := F8.below hb20 F8.lt
  replace P19 : Bk2 w20 (w12.heap.size) (.bool m12) (.slice D12 l12 d12) := P19.below hb20 P19.lt
  replace hl13 : LRd w20 (w12.heap.size) D12 l12 d12 y12 := hl13.below hb20 (by omega)
  replace hl15 : LRd w20 (w15.heap.size) A15 k15 c15 x15 := hl15.below hb20 (by omega)
  replace hl17 : LRd w20 (w17.heap.size) A17 k17 c17 x17 := hl17.below hb20 (by omega)
  replace P21 : Bk2 w20 (w17.heap.size) (.bool n17) (.slice A17 k17 c17) := P21.below hb20 P21.lt
  replace hl18 : LRd w20 (w18.heap.size) A18 k18 c18 x18 := hl18.below hb20 (by omega)
  replace P22 : Bk2 w20 (w18.heap.size) (.bool n18) (.slice A18 k18 c18) := P22.below hb20 P22.lt
  replace F24 : Bk2 w20 (w19.heap.size) (.int .i64 0) (.int .i64 0) := F24.below hb20 F24.lt
  clear hb20
  rw [e3.out]
  have hic := HIC.out
  rw [v16.out, v13.out] at hic
  have hfl := FL.out.2
  have tb := PB.c0
  have cases3 : (r = -1 ∧ b.neg = false) ∨ r = 0 ∨ (r = 1 ∧ b.neg = true) := by
    rcases hic with ⟨h1, h2⟩ | ⟨h1, _⟩ | ⟨h1, h2⟩
    · left
      refine ⟨h1, ?_⟩
      have h3 := (IV.irep ob HB.lim).sgn
      rw [h3]
      exact decide_eq_false (by omega)
    · exact .inr (.inl h1)
    · right; right
      refine ⟨h1, ?_⟩
      have h3 := (IV.irep ob HB.lim).sgn
      rw [h3]
      exact decide_eq_true (by omega)
  clear hic hfl
  rcases cases3 with ⟨rfl, hbn⟩ | rfl | ⟨rfl, hbn⟩
  · rw [hbn] at tb
    clear hbn
    go_wp2_with fail
    go_ret
    exact ⟨by first | rfl | (simp; done), E⟩
  · go_wp2_with fail
    go_ret
    exact ⟨by first | rfl | (simp; done), E⟩
  · rw [hbn] at tb
    clear hbn
    go_wp2_with fail
    go_ret
    exact ⟨by first | rfl | (simp; done), E⟩
theorem ring_any (w : World) (a b c : IV) (HA : a.at w w.heap.size) (HB : b.at w w.heap.size) (HC : c.at w w.heap.size) :
    Calls Try.prog 9 #[a.v, b.v, c.v] w (fun e w' => e = .returned (.bool true) ∧ Below w.heap.size w w') := by
  by_cases h : a.ok = true ∧ b.ok = true ∧ c.ok = true
  · obtain ⟨oa, ob, oc⟩ := h
    rcases Nat.lt_or_ge 60 a.n with e | e
    · exact ring_long1 w a b c HA HB HC oa ob oc e
    · rcases Nat.lt_or_ge 60 b.n with e2 | e2
      · exact ring_long2 w a b c HA HB HC oa ob oc e e2
      · rcases Nat.lt_or_ge 60 c.n with e3 | e3
        · exact ring_long3 w a b c HA HB HC oa ob oc e e2 e3
        · cases h0 : (!b.neg && decide (b.n = 0))
          · exact ring_main w a b c HA HB HC oa ob oc e e2 e3 h0
          · exact ring_zero w a b c HA HB HC oa ob oc e e2 e3 h0
  · obtain ⟨f2, hf⟩ := three_bad h
    exact ring_bad w a b c HA HB HC f2 hf
end Go.Proofs.Ytpjohcbopkmbmaa
