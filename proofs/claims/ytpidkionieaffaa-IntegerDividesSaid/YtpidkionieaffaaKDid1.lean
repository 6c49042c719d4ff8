/- IntegerDivides: contracts for the law, and where the first integer is refused. -/
import Derived.Test.YtpidkionieaffaaKFloorU
import Derived.Test.YtpidkionieaffaaKInt24
import Derived.Test.YtpidkionieaffaaKe
import Derived.Test.YtpidkionieaffaaKd
import Derived.Test.YtpidkionieaffaaKRootD
import Derived.Test.YtpidkionieaffaaKVal2
import Derived.Test.YtpidkionieaffaaKHand
namespace Go.Proofs.Ytpidkionieaffaa
open Go.RowKit
set_option maxHeartbeats 400000
set_option maxRecDepth 100000
set_option linter.unusedSimpArgs false
set_option linter.unusedVariables false

theorem irep_nil {n : Bool} {zs : List Nat} {k : Nat} (h : IRep n zs 0) (hl : zs.length = k) : k = 0 ∧ n = false := by
  refine ⟨?_, by rw [h.sgn]; rfl⟩
  have := h.rep
  exact nil_len (by simpa using this) hl
def DMR (a b : IV) (q r g1 g2 f1 f2 : Int) : Prop :=
  (f1 = 6 ∧ q = 0 ∧ r = 0 ∧ g1 = 6 ∧ g2 = f2) ∨ (f1 = 0 ∧ f2 = 0 ∧ b.ok = true ∧ b.n = 0 ∧ q = 0 ∧ r = 0 ∧ g1 = 22 ∧ g2 = -2) ∨ (f1 = 0 ∧ f2 = 0 ∧ b.ok = true ∧ 0 < b.n ∧ FloorOf a.val b.val q r ∧ g1 = 0 ∧ g2 = 0)
def DmAny (a b : IV) (f1 f2 : Int) (w : World) (e : Ending) (w' : World) : Prop := ∃ q r g1 g2, DMR a b q r g1 g2 f1 f2 ∧ GivesQV w q r g1 g2 e w'
theorem idm_any (w : World) (B : Nat) (a b : IV) (HA : a.at w B) (HB : b.at w B) (hB : B ≤ w.heap.size) (f1 f2 : Int) (hf : ffault [a, b] 0 = (f1, f2)) (oa : a.ok = true) :
    Calls Try.prog 37 #[a.v, b.v] w (DmAny a b f1 f2 w) := by
  by_cases ob : b.ok = true
  · rw [two_ok oa ob] at hf
    obtain ⟨rfl, rfl⟩ := Prod.mk.inj hf
    rcases Nat.eq_zero_or_pos b.n with h0 | h0
    · refine (idivmod_zero w B a b HA HB hB oa ob h0).mono ?_
      rintro e w1 h
      exact ⟨0, 0, 22, -2, .inr (.inl ⟨rfl, rfl, ob, h0, rfl, rfl, rfl, rfl⟩), h⟩
    · refine (idivmod_ok w B a b HA HB hB oa ob h0).mono ?_
      rintro e w1 ⟨q, r, h1, h⟩
      exact ⟨q, r, 0, 0, .inr (.inr ⟨rfl, rfl, ob, h0, h1, rfl, rfl⟩), h⟩
  · obtain ⟨g2, hg⟩ := two_bad (a := a) (b := b) (fun h => ob h.2)
    rw [hg] at hf
    obtain ⟨rfl, rfl⟩ := Prod.mk.inj hf
    refine (idivmod_bad w B a b HA HB hB g2 hg).mono ?_
    rintro e w1 h
    exact ⟨0, 0, 6, g2, .inl ⟨rfl, rfl, rfl, rfl, rfl⟩, h⟩
def GCR (a b : IV) (d f1 : Int) : Prop := (f1 = 6 ∧ d = 0) ∨ (f1 = 0 ∧ d = sval false (Nat.gcd (vb 4294967296 a.xs) (vb 4294967296 b.xs)))
def GcAny (a b : IV) (f1 f2 : Int) (w : World) (e : Ending) (w' : World) : Prop := ∃ d, GCR a b d f1 ∧ GivesVF w d f1 f2 e w'
theorem igc_any (w : World) (B : Nat) (a b : IV) (HA : a.at w B) (HB : b.at w B) (hB : B ≤ w.heap.size) (f1 f2 : Int) (hf : ffault [a, b] 0 = (f1, f2)) (oa : a.ok = true) :
    Calls Try.prog 38 #[a.v, b.v] w (GcAny a b f1 f2 w) := by
  by_cases ob : b.ok = true
  · rw [two_ok oa ob] at hf
    obtain ⟨rfl, rfl⟩ := Prod.mk.inj hf
    refine (igcd_ok w B a b HA HB hB oa ob).mono ?_
    rintro e w1 h
    exact ⟨_, .inr ⟨rfl, rfl⟩, h⟩
  · obtain ⟨g2, hg⟩ := two_bad (a := a) (b := b) (fun h => ob h.2)
    rw [hg] at hf
    obtain ⟨rfl, rfl⟩ := Prod.mk.inj hf
    refine (igcd_bad w B a b HA HB hB g2 hg).mono ?_
    rintro e w1 h
    exact ⟨0, .inl ⟨rfl, rfl⟩, h⟩
theorem sq_uniq {s t p : Nat} (h1 : s * s ≤ p) (h2 : p < (s + 1) * (s + 1)) (k1 : t * t ≤ p) (k2 : p < (t + 1) * (t + 1)) : s = t := by
  have h := Nat.lt_of_le_of_lt h1 k2
  have k := Nat.lt_of_le_of_lt k1 h2
  have := Nat.mul_self_lt_mul_self_iff.1 h
  have := Nat.mul_self_lt_mul_self_iff.1 k
  omega
set_option maxHeartbeats 8000000 in
theorem divd_bad (w : World) (a b : IV) (HA : a.at w w.heap.size) (HB : b.at w w.heap.size) (na : a.ok = false) :
    Calls Try.prog 5 #[a.v, b.v] w (fun e w' => e = .returned (.bool true) ∧ Below w.heap.size w w') := by
  replace HA : LRd w w.heap.size a.A a.n a.c a.xs := HA
  replace HB : LRd w w.heap.size b.A b.n b.c b.xs := HB
  have hf : ffault [a, b] 0 = (6, -1) := by show (if a.ok = true then _ else _) = _; rw [na]; rfl
  have hx1 : ffault [a] 0 = (6, -1) := by show (if a.ok = true then _ else _) = _; rw [na]; rfl
  have E : Below w.heap.size w w := Below.refl _ _
  have IR := Lib.hid (irow2 ((w.alloc a.cells).alloc b.cells) w.heap.size a b ((HA.alloc (Nat.le_refl _) _).alloc (by simp) _) ((HB.alloc (Nat.le_refl _) _).alloc (by simp) _) (by simp; omega))
  go_enter Try.func5, Try.ntmps5
  go_wp2_with fail
  obtain ⟨V0, hV0⟩ : ∃ V0 : World, V0 = (((w.alloc (.cells #[.bool a.neg, .slice a.A a.n a.c] 24)).alloc (.cells #[.bool b.neg, .slice b.A b.n b.c] 24)).alloc (.cells #[.bool a.neg, .slice a.A a.n a.c, .bool b.neg, .slice b.A b.n b.c] 24)) := ⟨_, rfl⟩
  have bV0 : Below w.heap.size w V0 := by rw [hV0]; (repeat (first | with_reducible exact Below.refl _ _ | with_reducible refine Below.drew ?_ | with_reducible refine below_drewN ?_ _ | with_reducible refine Below.setCell ?_ (by first | (simp; done) | (simp; omega) | omega) _ | with_reducible refine Below.alloc ?_ (by first | (simp; done) | (simp; omega) | omega) _))
  have zV0 : w.heap.size + 3 ≤ V0.heap.size := by rw [hV0]; simp
  have PA : Bk2 V0 (w.heap.size) (.bool a.neg) (.slice a.A a.n a.c) := by rw [hV0]; exact (((Bk2.newAt _ _ (by simp) _ _ _).alloc _).alloc _)
  have PB : Bk2 V0 (w.heap.size + 1) (.bool b.neg) (.slice b.A b.n b.c) := by rw [hV0]; exact ((Bk2.newAt _ _ (by simp) _ _ _).alloc _)
  replace IR : Hid (IRow V0 w.heap.size (w.heap.size + 2) [a, b]) := by have h9 := IR.out; rw [hV0]; rw [show ((w.alloc a.cells).alloc b.cells).heap.size = w.heap.size + 2 by simp] at h9; exact h9
  rw [← hV0]
  clear hV0
  replace E : Below w.heap.size w V0 := E.trans (bV0.mono E.size)
  replace HA : LRd V0 (w.heap.size) a.A a.n a.c a.xs := HA.below bV0 (by omega)
  replace HB : LRd V0 (w.heap.size) b.A b.n b.c b.xs := HB.below bV0 (by omega)
  clear bV0
  (with_reducible refine (faults_any _ w.heap.size (w.heap.size + 2) 2 [a, b] IR.out rfl (by omega) (by omega)).mono ?_)
  rintro e w1 ⟨rfl, hb1⟩
  have sw1 := hb1.size
  replace E : Below w.heap.size w w1 := E.trans (hb1.mono E.size)
  replace HA : LRd w1 (w.heap.size) a.A a.n a.c a.xs := HA.below hb1 (by omega)
  replace HB : LRd w1 (w.heap.size) b.A b.n b.c b.xs := HB.below hb1 (by omega)
  replace PA : Bk2 w1 (w.heap.size) (.bool a.neg) (.slice a.A a.n a.c) := PA.below hb1 PA.lt
  replace PB : Bk2 w1 (w.heap.size + 1) (.bool b.neg) (.slice b.A b.n b.c) := PB.below hb1 PB.lt
  clear hb1
  rw [hf]
  clear IR
  have t_PA0 : (w1.alloc (.cells #[.int .i64 6, .int .i64 (-1)] 26)).cell? ⟨w.heap.size, 0, none⟩ = some ((.bool a.neg)) := (PA.alloc _).c0
  have t_PA1 : (w1.alloc (.cells #[.int .i64 6, .int .i64 (-1)] 26)).cell? ⟨w.heap.size, 1, none⟩ = some ((.slice a.A a.n a.c)) := (PA.alloc _).c1
  have t_PB0 : (w1.alloc (.cells #[.int .i64 6, .int .i64 (-1)] 26)).cell? ⟨w.heap.size + 1, 0, none⟩ = some ((.bool b.neg)) := (PB.alloc _).c0
  have t_PB1 : (w1.alloc (.cells #[.int .i64 6, .int .i64 (-1)] 26)).cell? ⟨w.heap.size + 1, 1, none⟩ = some ((.slice b.A b.n b.c)) := (PB.alloc _).c1
  go_wp2_with fail
  clear t_PA0 t_PA1 t_PB0 t_PB1
  obtain ⟨V1, hV1⟩ : ∃ V1 : World, V1 = (w1.alloc (.cells #[.int .i64 6, .int .i64 (-1)] 26)) := ⟨_, rfl⟩
  have bV1 : Below w1.heap.size w1 V1 := by rw [hV1]; (repeat (first | with_reducible exact Below.refl _ _ | with_reducible refine Below.drew ?_ | with_reducible refine below_drewN ?_ _ | with_reducible refine Below.setCell ?_ (by first | (simp; done) | (simp; omega) | omega) _ | with_reducible refine Below.alloc ?_ (by first | (simp; done) | (simp; omega) | omega) _))
  have zV1 : w1.heap.size + 1 ≤ V1.heap.size := by rw [hV1]; simp
  have F5 : Bk2 V1 (w1.heap.size) (.int .i64 6) (.int .i64 (-1)) := by rw [hV1]; exact (Bk2.newAt _ _ (by simp) _ _ _)
  rw [← hV1]
  clear hV1
  replace E : Below w.heap.size w V1 := E.trans (bV1.mono E.size)
  replace HA : LRd V1 (w.heap.size) a.A a.n a.c a.xs := HA.below bV1 (by omega)
  replace HB : LRd V1 (w.heap.size) b.A b.n b.c b.xs := HB.below bV1 (by omega)
  replace PA : Bk2 V1 (w.heap.size) (.bool a.neg) (.slice a.A a.n a.c) := PA.below bV1 PA.lt
  replace PB : Bk2 V1 (w.heap.size + 1) (.bool b.neg) (.slice b.A b.n b.c) := PB.below bV1 PB.lt
  clear bV1
  refine (idivmod_bad _ w.heap.size a b HA HB (by omega) (-1) hf).mono ?_
  rintro e w6 ⟨n6, A6, k6, c6, x6, n7, A7, k7, c7, x7, rfl, hl6, hr6, hl7, hr7, hb6⟩
  have sw6 := hb6.size
  replace E : Below w.heap.size w w6 := E.trans (hb6.mono E.size)
  replace HA : LRd w6 (w.heap.size) a.A a.n a.c a.xs := HA.below hb6 (by omega)
  replace HB : LRd w6 (w.heap.size) b.A b.n b.c b.xs := HB.below hb6 (by omega)
  replace PA : Bk2 w6 (w.heap.size) (.bool a.neg) (.slice a.A a.n a.c) := PA.below hb6 PA.lt
  replace PB : Bk2 w6 (w.heap.size + 1) (.bool b.neg) (.slice b.A b.n b.c) := PB.below hb6 PB.lt
  replace F5 : Bk2 w6 (w1.heap.size) (.int .i64 6) (.int .i64 (-1)) := F5.below hb6 F5.lt
  clear hb6
  obtain ⟨rfl, rfl⟩ := irep_nil hr6 hl6.len.out
  obtain ⟨rfl, rfl⟩ := irep_nil hr7 hl7.len.out
  clear hl6 hr6 hl7 hr7
  have t_PA0 : (((w6.alloc (.cells #[.bool false, .slice A6 0 c6] 24)).alloc (.cells #[.bool false, .slice A7 0 c7] 24)).alloc (.cells #[.int .i64 6, .int .i64 (-1)] 26)).cell? ⟨w.heap.size, 0, none⟩ = some ((.bool a.neg)) := (((PA.alloc _).alloc _).alloc _).c0
  have t_PA1 : (((w6.alloc (.cells #[.bool false, .slice A6 0 c6] 24)).alloc (.cells #[.bool false, .slice A7 0 c7] 24)).alloc (.cells #[.int .i64 6, .int .i64 (-1)] 26)).cell? ⟨w.heap.size, 1, none⟩ = some ((.slice a.A a.n a.c)) := (((PA.alloc _).alloc _).alloc _).c1
  have t_PB0 : (((w6.alloc (.cells #[.bool false, .slice A6 0 c6] 24)).alloc (.cells #[.bool false, .slice A7 0 c7] 24)).alloc (.cells #[.int .i64 6, .int .i64 (-1)] 26)).cell? ⟨w.heap.size + 1, 0, none⟩ = some ((.bool b.neg)) := (((PB.alloc _).alloc _).alloc _).c0
  have t_PB1 : (((w6.alloc (.cells #[.bool false, .slice A6 0 c6] 24)).alloc (.cells #[.bool false, .slice A7 0 c7] 24)).alloc (.cells #[.int .i64 6, .int .i64 (-1)] 26)).cell? ⟨w.heap.size + 1, 1, none⟩ = some ((.slice b.A b.n b.c)) := (((PB.alloc _).alloc _).alloc _).c1
  go_wp2_with fail
  clear t_PA0 t_PA1 t_PB0 t_PB1
  obtain ⟨V2, hV2⟩ : ∃ V2 : World, V2 = (((w6.alloc (.cells #[.bool false, .slice A6 0 c6] 24)).alloc (.cells #[.bool false, .slice A7 0 c7] 24)).alloc (.cells #[.int .i64 6, .int .i64 (-1)] 26)) := ⟨_, rfl⟩
  have bV2 : Below w6.heap.size w6 V2 := by rw [hV2]; (repeat (first | with_reducible exact Below.refl _ _ | with_reducible refine Below.drew ?_ | with_reducible refine below_drewN ?_ _ | with_reducible refine Below.setCell ?_ (by first | (simp; done) | (simp; omega) | omega) _ | with_reducible refine Below.alloc ?_ (by first | (simp; done) | (simp; omega) | omega) _))
  have zV2 : w6.heap.size + 3 ≤ V2.heap.size := by rw [hV2]; simp
  have P6 : Bk2 V2 (w6.heap.size) (.bool false) (.slice A6 0 c6) := by rw [hV2]; exact (((Bk2.newAt _ _ (by simp) _ _ _).alloc _).alloc _)
  have P7 : Bk2 V2 (w6.heap.size + 1) (.bool false) (.slice A7 0 c7) := by rw [hV2]; exact ((Bk2.newAt _ _ (by simp) _ _ _).alloc _)
  have F8 : Bk2 V2 (w6.heap.size + 2) (.int .i64 6) (.int .i64 (-1)) := by rw [hV2]; exact (Bk2.newAt _ _ (by simp) _ _ _)
  rw [← hV2]
  clear hV2
  replace E : Below w.heap.size w V2 := E.trans (bV2.mono E.size)
  replace HA : LRd V2 (w.heap.size) a.A a.n a.c a.xs := HA.below bV2 (by omega)
  replace HB : LRd V2 (w.heap.size) b.A b.n b.c b.xs := HB.below bV2 (by omega)
  replace PA : Bk2 V2 (w.heap.size) (.bool a.neg) (.slice a.A a.n a.c) := PA.below bV2 PA.lt
  replace PB : Bk2 V2 (w.heap.size + 1) (.bool b.neg) (.slice b.A b.n b.c) := PB.below bV2 PB.lt
  replace F5 : Bk2 V2 (w1.heap.size) (.int .i64 6) (.int .i64 (-1)) := F5.below bV2 F5.lt
  clear bV2
  refine (igcd_bad _ w.heap.size a b HA HB (by omega) (-1) hf).mono ?_
  rintro e w9 ⟨n9, A9, k9, c9, x9, rfl, hl9, hr9, hb9⟩
  have sw9 := hb9.size
  replace E : Below w.heap.size w w9 := E.trans (hb9.mono E.size)
  replace HA : LRd w9 (w.heap.size) a.A a.n a.c a.xs := HA.below hb9 (by omega)
  replace HB : LRd w9 (w.heap.size) b.A b.n b.c b.xs := HB.below hb9 (by omega)
  replace PA : Bk2 w9 (w.heap.size) (.bool a.neg) (.slice a.A a.n a.c) := PA.below hb9 PA.lt
  replace PB : Bk2 w9 (w.heap.size + 1) (.bool b.neg) (.slice b.A b.n b.c) := PB.below hb9 PB.lt
  replace F5 : Bk2 w9 (w1.heap.size) (.int .i64 6) (.int .i64 (-1)) := F5.below hb9 F5.lt
  replace P6 : Bk2 w9 (w6.heap.size) (.bool false) (.slice A6 0 c6) := P6.below hb9 P6.lt
  replace P7 : Bk2 w9 (w6.heap.size + 1) (.bool false) (.slice A7 0 c7) := P7.below hb9 P7.lt
  replace F8 : Bk2 w9 (w6.heap.size + 2) (.int .i64 6) (.int .i64 (-1)) := F8.below hb9 F8.lt
  clear hb9
  obtain ⟨rfl, rfl⟩ := irep_nil hr9 hl9.len.out
  clear hl9 hr9
  have t_PA0 : ((w9.alloc (.cells #[.bool false, .slice A9 0 c9] 24)).alloc (.cells #[.int .i64 6, .int .i64 (-1)] 26)).cell? ⟨w.heap.size, 0, none⟩ = some ((.bool a.neg)) := ((PA.alloc _).alloc _).c0
  have t_PA1 : ((w9.alloc (.cells #[.bool false, .slice A9 0 c9] 24)).alloc (.cells #[.int .i64 6, .int .i64 (-1)] 26)).cell? ⟨w.heap.size, 1, none⟩ = some ((.slice a.A a.n a.c)) := ((PA.alloc _).alloc _).c1
  go_wp2_with fail
  clear t_PA0 t_PA1
  obtain ⟨V3, hV3⟩ : ∃ V3 : World, V3 = ((w9.alloc (.cells #[.bool false, .slice A9 0 c9] 24)).alloc (.cells #[.int .i64 6, .int .i64 (-1)] 26)) := ⟨_, rfl⟩
  have bV3 : Below w9.heap.size w9 V3 := by rw [hV3]; (repeat (first | with_reducible exact Below.refl _ _ | with_reducible refine Below.drew ?_ | with_reducible refine below_drewN ?_ _ | with_reducible refine Below.setCell ?_ (by first | (simp; done) | (simp; omega) | omega) _ | with_reducible refine Below.alloc ?_ (by first | (simp; done) | (simp; omega) | omega) _))
  have zV3 : w9.heap.size + 2 ≤ V3.heap.size := by rw [hV3]; simp
  have P9 : Bk2 V3 (w9.heap.size) (.bool false) (.slice A9 0 c9) := by rw [hV3]; exact ((Bk2.newAt _ _ (by simp) _ _ _).alloc _)
  have F10 : Bk2 V3 (w9.heap.size + 1) (.int .i64 6) (.int .i64 (-1)) := by rw [hV3]; exact (Bk2.newAt _ _ (by simp) _ _ _)
  rw [← hV3]
  clear hV3
  replace E : Below w.heap.size w V3 := E.trans (bV3.mono E.size)
  replace HA : LRd V3 (w.heap.size) a.A a.n a.c a.xs := HA.below bV3 (by omega)
  replace HB : LRd V3 (w.heap.size) b.A b.n b.c b.xs := HB.below bV3 (by omega)
  replace PA : Bk2 V3 (w.heap.size) (.bool a.neg) (.slice a.A a.n a.c) := PA.below bV3 PA.lt
  replace PB : Bk2 V3 (w.heap.size + 1) (.bool b.neg) (.slice b.A b.n b.c) := PB.below bV3 PB.lt
  replace F5 : Bk2 V3 (w1.heap.size) (.int .i64 6) (.int .i64 (-1)) := F5.below bV3 F5.lt
  replace P6 : Bk2 V3 (w6.heap.size) (.bool false) (.slice A6 0 c6) := P6.below bV3 P6.lt
  replace P7 : Bk2 V3 (w6.heap.size + 1) (.bool false) (.slice A7 0 c7) := P7.below bV3 P7.lt
  replace F8 : Bk2 V3 (w6.heap.size + 2) (.int .i64 6) (.int .i64 (-1)) := F8.below bV3 F8.lt
  clear bV3
  refine (isqrt_bad _ w.heap.size a HA (by omega) (-1) hx1).mono ?_
  rintro e w11 ⟨n11, A11, k11, c11, x11, rfl, hl11, hr11, hb11⟩
  have sw11 := hb11.size
  replace E : Below w.heap.size w w11 := E.trans (hb11.mono E.size)
  replace HA : LRd w11 (w.heap.size) a.A a.n a.c a.xs := HA.below hb11 (by omega)
  replace HB : LRd w11 (w.heap.size) b.A b.n b.c b.xs := HB.below hb11 (by omega)
  replace PA : Bk2 w11 (w.heap.size) (.bool a.neg) (.slice a.A a.n a.c) := PA.below hb11 PA.lt
  replace PB : Bk2 w11 (w.heap.size + 1) (.bool b.neg) (.slice b.A b.n b.c) := PB.below hb11 PB.lt
  replace F5 : Bk2 w11 (w1.heap.size) (.int .i64 6) (.int .i64 (-1)) := F5.below hb11 F5.lt
  replace P6 : Bk2 w11 (w6.heap.size) (.bool false) (.slice A6 0 c6) := P6.below hb11 P6.lt
  replace P7 : Bk2 w11 (w6.heap.size + 1) (.bool false) (.slice A7 0 c7) := P7.below hb11 P7.lt
  replace F8 : Bk2 w11 (w6.heap.size + 2) (.int .i64 6) (.int .i64 (-1)) := F8.below hb11 F8.lt
  replace P9 : Bk2 w11 (w9.heap.size) (.bool false) (.slice A9 0 c9) := P9.below hb11 P9.lt
  replace F10 : Bk2 w11 (w9.heap.size + 1) (.int .i64 6) (.int .i64 (-1)) := F10.below hb11 F10.lt
  clear hb11
  obtain ⟨rfl, rfl⟩ := irep_nil hr11 hl11.len.out
  clear hl11 hr11
  go_wp2_with fail
  obtain ⟨V4, hV4⟩ : ∃ V4 : World, V4 = ((w11.alloc (.cells #[.bool false, .slice A11 0 c11] 24)).alloc (.cells #[.int .i64 6, .int .i64 (-1)] 26)) := ⟨_, rfl⟩
  have bV4 : Below w11.heap.size w11 V4 := by rw [hV4]; (repeat (first | with_reducible exact Below.refl _ _ | with_reducible refine Below.drew ?_ | with_reducible refine below_drewN ?_ _ | with_reducible refine Below.setCell ?_ (by first | (simp; done) | (simp; omega) | omega) _ | with_reducible refine Below.alloc ?_ (by first | (simp; done) | (simp; omega) | omega) _))
  have zV4 : w11.heap.size + 2 ≤ V4.heap.size := by rw [hV4]; simp
  have P11 : Bk2 V4 (w11.heap.size) (.bool false) (.slice A11 0 c11) := by rw [hV4]; exact ((Bk2.newAt _ _ (by simp) _ _ _).alloc _)
  have F12 : Bk2 V4 (w11.heap.size + 1) (.int .i64 6) (.int .i64 (-1)) := by rw [hV4]; exact (Bk2.newAt _ _ (by simp) _ _ _)
  rw [← hV4]
  clear hV4
  replace E : Below w.heap.size w V4 := E.trans (bV4.mono E.size)
  replace HA : LRd V4 (w.heap.size) a.A a.n a.c a.xs := HA.below bV4 (by omega)
  replace HB : LRd V4 (w.heap.size) b.A b.n b.c b.xs := HB.below bV4 (by omega)
  replace PA : Bk2 V4 (w.heap.size) (.bool a.neg) (.slice a.A a.n a.c) := PA.below bV4 PA.lt
  replace PB : Bk2 V4 (w.heap.size + 1) (.bool b.neg) (.slice b.A b.n b.c) := PB.below bV4 PB.lt
  replace F5 : Bk2 V4 (w1.heap.size) (.int .i64 6) (.int .i64 (-1)) := F5.below bV4 F5.lt
  replace P6 : Bk2 V4 (w6.heap.size) (.bool false) (.slice A6 0 c6) := P6.below bV4 P6.lt
  replace P7 : Bk2 V4 (w6.heap.size + 1) (.bool false) (.slice A7 0 c7) := P7.below bV4 P7.lt
  replace F8 : Bk2 V4 (w6.heap.size + 2) (.int .i64 6) (.int .i64 (-1)) := F8.below bV4 F8.lt
  replace P9 : Bk2 V4 (w9.heap.size) (.bool false) (.slice A9 0 c9) := P9.below bV4 P9.lt
  replace F10 : Bk2 V4 (w9.heap.size + 1) (.int .i64 6) (.int .i64 (-1)) := F10.below bV4 F10.lt
  clear bV4
  (with_reducible refine (counts_any _).mono ?_)
  rintro e w12 ⟨rfl, hb12⟩
  have sw12 := hb12.size
  replace E : Below w.heap.size w w12 := E.trans (hb12.mono E.size)
  replace HA : LRd w12 (w.heap.size) a.A a.n a.c a.xs := HA.below hb12 (by omega)
  replace HB : LRd w12 (w.heap.size) b.A b.n b.c b.xs := HB.below hb12 (by omega)
  replace PA : Bk2 w12 (w.heap.size) (.bool a.neg) (.slice a.A a.n a.c) := PA.below hb12 PA.lt
  replace PB : Bk2 w12 (w.heap.size + 1) (.bool b.neg) (.slice b.A b.n b.c) := PB.below hb12 PB.lt
  replace F5 : Bk2 w12 (w1.heap.size) (.int .i64 6) (.int .i64 (-1)) := F5.below hb12 F5.lt
  replace P6 : Bk2 w12 (w6.heap.size) (.bool false) (.slice A6 0 c6) := P6.below hb12 P6.lt
  replace P7 : Bk2 w12 (w6.heap.size + 1) (.bool false) (.slice A7 0 c7) := P7.below hb12 P7.lt
  replace F8 : Bk2 w12 (w6.heap.size + 2) (.int .i64 6) (.int .i64 (-1)) := F8.below hb12 F8.lt
  replace P9 : Bk2 w12 (w9.heap.size) (.bool false) (.slice A9 0 c9) := P9.below hb12 P9.lt
  replace F10 : Bk2 w12 (w9.heap.size + 1) (.int .i64 6) (.int .i64 (-1)) := F10.below hb12 F10.lt
  replace P11 : Bk2 w12 (w11.heap.size) (.bool false) (.slice A11 0 c11) := P11.below hb12 P11.lt
  replace F12 : Bk2 w12 (w11.heap.size + 1) (.int .i64 6) (.int .i64 (-1)) := F12.below hb12 F12.lt
  clear hb12
  have t_F100 : w12.cell? ⟨w9.heap.size + 1, 0, none⟩ = some ((.int .i64 6)) := F10.c0
  have t_F101 : w12.cell? ⟨w9.heap.size + 1, 1, none⟩ = some ((.int .i64 (-1))) := F10.c1
  have t_F50 : w12.cell? ⟨w1.heap.size, 0, none⟩ = some ((.int .i64 6)) := F5.c0
  have t_F51 : w12.cell? ⟨w1.heap.size, 1, none⟩ = some ((.int .i64 (-1))) := F5.c1
  go_upto_region 7 with fail
  clear t_F100 t_F101 t_F50 t_F51
  have VA : ivld a.neg a.xs = false := na
  have G0 : Below w12.heap.size w12 w12.drew := Below.drew (Below.refl _ _)
  have HS := Lib.hid (fun (u : World) (hu : Below w12.heap.size w12 u) => (⟨hu, (PA.below hu PA.lt).c0, (PA.below hu PA.lt).c1, (P11.below hu P11.lt).c0, (P11.below hu P11.lt).c1, (F12.below hu F12.lt).c0, (F12.below hu F12.lt).c1⟩ : Below w12.heap.size w12 u ∧ u.cell? ⟨w.heap.size, 0, none⟩ = some (.bool a.neg) ∧ u.cell? ⟨w.heap.size, 1, none⟩ = some (.slice a.A a.n a.c) ∧ u.cell? ⟨w11.heap.size, 0, none⟩ = some (.bool false) ∧ u.cell? ⟨w11.heap.size, 1, none⟩ = some (.slice A11 0 c11) ∧ u.cell? ⟨w11.heap.size + 1, 0, none⟩ = some (.int .i64 6) ∧ u.cell? ⟨w11.heap.size + 1, 1, none⟩ = some (.int .i64 (-1))))
  refine wp_region_held_drew (S := (fun u => Below w12.heap.size w12 u ∧ u.cell? ⟨w.heap.size, 0, none⟩ = some (.bool a.neg) ∧ u.cell? ⟨w.heap.size, 1, none⟩ = some (.slice a.A a.n a.c) ∧ u.cell? ⟨w11.heap.size, 0, none⟩ = some (.bool false) ∧ u.cell? ⟨w11.heap.size, 1, none⟩ = some (.slice A11 0 c11) ∧ u.cell? ⟨w11.heap.size + 1, 0, none⟩ = some (.int .i64 6) ∧ u.cell? ⟨w11.heap.size + 1, 1, none⟩ = some (.int .i64 (-1)))) (by kernel_rfl) (HS.out _ G0) (fun hHeld => ?_)
  refine takeW (i := 0) (v := ?_) rfl (by kernel_rfl) (by kernel_rfl) (by kernel_rfl) (fun _ _ _ h => h) (by rfl) (by assumption) ?_ ?_
  rotate_left 1
  · (intro w9 hSw; (try dsimp only at hSw); go_simp); (first | done | with_reducible rfl)
  try simp only [Act.put, List.setIfInBounds_toArray, List.set_cons_zero, List.set_cons_succ]
  refine readyW (i := 1) (by kernel_rfl) rfl (by rfl) (fun K hK => ?_)
  go_simp
  (go_at_call 17; (with_reducible refine (intOk_any _ _ a.neg a.A a.n a.c a.xs ((HA.below G0 (by omega)).more (by have := G0.size; omega)) (Nat.le_refl _)).mono ?_); rintro e u1 ⟨rfl, hB1⟩; have B1 : Below w12.heap.size w12 u1 := bnext G0 hB1; rw [VA])
  go_wp2_with fail
  refine hK.out _ _ (HS.out _ B1) (fun hHeld1 => ?_)
  clear hK K
  try simp only [Act.put, List.setIfInBounds_toArray, List.set_cons_zero, List.set_cons_succ]
  refine takeW (i := 2) (v := ?_) rfl (by kernel_rfl) (by kernel_rfl) (by kernel_rfl) (fun _ _ _ h => h) (by rfl) (by assumption) ?_ ?_
  rotate_left 1
  · (intro w9 hSw; (try dsimp only at hSw); go_simp); (first | done | with_reducible rfl)
  try simp only [Act.put, List.setIfInBounds_toArray, List.set_cons_zero, List.set_cons_succ]
  refine takeN (i := 3) rfl (by kernel_rfl) (by kernel_rfl) (by kernel_rfl) (fun _ _ _ h => h) (by rfl) (by assumption) ?_
  try simp only [Act.put, List.setIfInBounds_toArray, List.set_cons_zero, List.set_cons_succ]
  refine takeN (i := 4) rfl (by kernel_rfl) (by kernel_rfl) (by kernel_rfl) (fun _ _ _ h => h) (by rfl) (by assumption) ?_
  try simp only [Act.put, List.setIfInBounds_toArray, List.set_cons_zero, List.set_cons_succ]
  refine takeW (i := 5) (v := ?_) rfl (by kernel_rfl) (by kernel_rfl) (by kernel_rfl) (fun _ _ _ h => h) (by rfl) (by assumption) ?_ ?_
  rotate_left 1
  · (intro w9 hSw; (try dsimp only at hSw); go_simp); (first | done | with_reducible rfl)
  try simp only [Act.put, List.setIfInBounds_toArray, List.set_cons_zero, List.set_cons_succ]
  refine takeW (i := 6) (v := ?_) rfl (by kernel_rfl) (by kernel_rfl) (by kernel_rfl) (fun _ _ _ h => h) (by rfl) (by assumption) ?_ ?_
  rotate_left 1
  · (intro w9 hSw; (try dsimp only at hSw); go_simp); (first | done | with_reducible rfl)
  try simp only [Act.put, List.setIfInBounds_toArray, List.set_cons_zero, List.set_cons_succ]
  refine takeN (i := 7) rfl (by kernel_rfl) (by kernel_rfl) (by kernel_rfl) (fun _ _ _ h => h) (by rfl) (by assumption) ?_
  try simp only [Act.put, List.setIfInBounds_toArray, List.set_cons_zero, List.set_cons_succ]
  refine readyN (i := 8) (by kernel_rfl) rfl (by rfl) (by assumption) ?_
  try simp only [Act.put, List.setIfInBounds_toArray, List.set_cons_zero, List.set_cons_succ]
  refine takeN (i := 9) rfl (by kernel_rfl) (by kernel_rfl) (by kernel_rfl) (fun _ _ _ h => h) (by rfl) (by assumption) ?_
  try simp only [Act.put, List.setIfInBounds_toArray, List.set_cons_zero, List.set_cons_succ]
  refine takeN (i := 10) rfl (by kernel_rfl) (by kernel_rfl) (by kernel_rfl) (fun _ _ _ h => h) (by rfl) (by assumption) ?_
  try simp only [Act.put, List.setIfInBounds_toArray, List.set_cons_zero, List.set_cons_succ]
  refine takeN (i := 11) rfl (by kernel_rfl) (by kernel_rfl) (by kernel_rfl) (fun _ _ _ h => h) (by rfl) (by assumption) ?_
  try simp only [Act.put, List.setIfInBounds_toArray, List.set_cons_zero, List.set_cons_succ]
  refine readyN (i := 12) (by kernel_rfl) rfl (by rfl) (by assumption) ?_
  try simp only [Act.put, List.setIfInBounds_toArray, List.set_cons_zero, List.set_cons_succ]
  refine takeN (i := 13) rfl (by kernel_rfl) (by kernel_rfl) (by kernel_rfl) (fun _ _ _ h => h) (by rfl) (by assumption) ?_
  try simp only [Act.put, List.setIfInBounds_toArray, List.set_cons_zero, List.set_cons_succ]
  refine takeN (i := 14) rfl (by kernel_rfl) (by kernel_rfl) (by kernel_rfl) (fun _ _ _ h => h) (by rfl) (by assumption) ?_
  try simp only [Act.put, List.setIfInBounds_toArray, List.set_cons_zero, List.set_cons_succ]
  refine takeW (i := 15) (v := ?_) rfl (by kernel_rfl) (by kernel_rfl) (by kernel_rfl) (fun _ _ _ h => h) (by rfl) (by assumption) ?_ ?_
  rotate_left 1
  · (intro w9 hSw; (try dsimp only at hSw); go_simp); (first | done | with_reducible rfl)
  try simp only [Act.put, List.setIfInBounds_toArray, List.set_cons_zero, List.set_cons_succ]
  refine takeW (i := 16) (v := ?_) rfl (by kernel_rfl) (by kernel_rfl) (by kernel_rfl) (fun _ _ _ h => h) (by rfl) (by assumption) ?_ ?_
  rotate_left 1
  · (intro w9 hSw; (try dsimp only at hSw); go_simp); (first | done | with_reducible rfl)
  try simp only [Act.put, List.setIfInBounds_toArray, List.set_cons_zero, List.set_cons_succ]
  refine takeW (i := 17) (v := ?_) rfl (by kernel_rfl) (by kernel_rfl) (by kernel_rfl) (fun _ _ _ h => h) (by rfl) (by assumption) ?_ ?_
  rotate_left 1
  · (intro w9 hSw; (try dsimp only at hSw); go_simp); (first | done | with_reducible rfl)
  try simp only [Act.put, List.setIfInBounds_toArray, List.set_cons_zero, List.set_cons_succ]
  refine readyW (i := 18) (by kernel_rfl) rfl (by rfl) (fun K hK => ?_)
  go_simp
  (go_at_call 17; (with_reducible refine (intOk_any _ _ a.neg a.A a.n a.c a.xs ((HA.below B1 (by omega)).more (by have := B1.size; omega)) (Nat.le_refl _)).mono ?_); rintro e u4 ⟨rfl, hB4⟩; have B4 : Below w12.heap.size w12 u4 := bnext B1 hB4; rw [VA])
  go_wp2_with fail
  refine hK.out _ _ (HS.out _ B4) (fun hHeld4 => ?_)
  clear hK K
  try simp only [Act.put, List.setIfInBounds_toArray, List.set_cons_zero, List.set_cons_succ]
  refine takeW (i := 19) (v := ?_) rfl (by kernel_rfl) (by kernel_rfl) (by kernel_rfl) (fun _ _ _ h => h) (by rfl) (by assumption) ?_ ?_
  rotate_left 1
  · (intro w9 hSw; (try dsimp only at hSw); go_simp); (first | done | with_reducible rfl)
  try simp only [Act.put, List.setIfInBounds_toArray, List.set_cons_zero, List.set_cons_succ]
  refine takeW (i := 20) (v := ?_) rfl (by kernel_rfl) (by kernel_rfl) (by kernel_rfl) (fun _ _ _ h => h) (by rfl) (by assumption) ?_ ?_
  rotate_left 1
  · (intro w9 hSw; (try dsimp only at hSw); go_simp); (first | done | with_reducible rfl)
  try simp only [Act.put, List.setIfInBounds_toArray, List.set_cons_zero, List.set_cons_succ]
  refine takeW (i := 21) (v := ?_) rfl (by kernel_rfl) (by kernel_rfl) (by kernel_rfl) (fun _ _ _ h => h) (by rfl) (by assumption) ?_ ?_
  rotate_left 1
  · (intro w9 hSw; (try dsimp only at hSw); go_simp); (first | done | with_reducible rfl)
  try simp only [Act.put, List.setIfInBounds_toArray, List.set_cons_zero, List.set_cons_succ]
  refine readyW (i := 22) (by kernel_rfl) rfl (by rfl) (fun K hK => ?_)
  go_simp
  (go_at_call 25; (with_reducible refine (at_any _ _ _).mono ?_); rintro e u5 ⟨rfl, hB5⟩; have B5 : Below w12.heap.size w12 u5 := bnext B4 hB5)
  go_wp2_with fail
  refine hK.out _ _ (HS.out _ B5) (fun hHeld5 => ?_)
  clear hK K
  try simp only [Act.put, List.setIfInBounds_toArray, List.set_cons_zero, List.set_cons_succ]
  refine takeW (i := 23) (v := ?_) rfl (by kernel_rfl) (by kernel_rfl) (by kernel_rfl) (fun _ _ _ h => h) (by rfl) (by assumption) ?_ ?_
  rotate_left 1
  · (intro w9 hSw; (try dsimp only at hSw); go_simp); (first | done | with_reducible rfl)
  try simp only [Act.put, List.setIfInBounds_toArray, List.set_cons_zero, List.set_cons_succ]
  refine takeW (i := 24) (v := ?_) rfl (by kernel_rfl) (by kernel_rfl) (by kernel_rfl) (fun _ _ _ h => h) (by rfl) (by assumption) ?_ ?_
  rotate_left 1
  · (intro w9 hSw; (try dsimp only at hSw); go_simp); (first | done | with_reducible rfl)
  try simp only [Act.put, List.setIfInBounds_toArray, List.set_cons_zero, List.set_cons_succ]
  refine takeW (i := 25) (v := ?_) rfl (by kernel_rfl) (by kernel_rfl) (by kernel_rfl) (fun _ _ _ h => h) (by rfl) (by assumption) ?_ ?_
  rotate_left 1
  · (intro w9 hSw; (try dsimp only at hSw); go_simp); (first | done | with_reducible rfl)
  try simp only [Act.put, List.setIfInBounds_toArray, List.set_cons_zero, List.set_cons_succ]
  refine readyW (i := 26) (by kernel_rfl) rfl (by rfl) (fun K hK => ?_)
  go_simp
  (go_at_call 26; (with_reducible refine (noInt_any _ false A11 0 c11 (by omega)).mono ?_); rintro e u6 ⟨rfl, hB6⟩; have B6 : Below w12.heap.size w12 u6 := bnext B5 hB6; rw [show (!false && decide (0 = 0)) = true from rfl])
  go_wp2_with fail
  refine hK.out _ _ (HS.out _ B6) (fun hHeld6 => ?_)
  clear hK K
  try simp only [Act.put, List.setIfInBounds_toArray, List.set_cons_zero, List.set_cons_succ]
  refine takeW (i := 27) (v := ?_) rfl (by kernel_rfl) (by kernel_rfl) (by kernel_rfl) (fun _ _ _ h => h) (by rfl) (by assumption) ?_ ?_
  rotate_left 1
  · (intro w9 hSw; (try dsimp only at hSw); go_simp); (first | done | with_reducible rfl)
  try simp only [Act.put, List.setIfInBounds_toArray, List.set_cons_zero, List.set_cons_succ]
  refine takeW (i := 28) (v := ?_) rfl (by kernel_rfl) (by kernel_rfl) (by kernel_rfl) (fun _ _ _ h => h) (by rfl) (by assumption) ?_ ?_
  rotate_left 1
  · (intro w9 hSw; (try dsimp only at hSw); go_simp); (first | done | with_reducible rfl)
  try simp only [Act.put, List.setIfInBounds_toArray, List.set_cons_zero, List.set_cons_succ]
  refine takeW (i := 29) (v := ?_) rfl (by kernel_rfl) (by kernel_rfl) (by kernel_rfl) (fun _ _ _ h => h) (by rfl) (by assumption) ?_ ?_
  rotate_left 1
  · (intro w9 hSw; (try dsimp only at hSw); go_simp); (first | done | with_reducible rfl)
  try simp only [Act.put, List.setIfInBounds_toArray, List.set_cons_zero, List.set_cons_succ]
  refine takeW (i := 30) (v := ?_) rfl (by kernel_rfl) (by kernel_rfl) (by kernel_rfl) (fun _ _ _ h => h) (by rfl) (by assumption) ?_ ?_
  rotate_left 1
  · (intro w9 hSw; (try dsimp only at hSw); go_simp); (first | done | with_reducible rfl)
  try simp only [Act.put, List.setIfInBounds_toArray, List.set_cons_zero, List.set_cons_succ]
  refine wpAnyH_done (by kernel_rfl) ?_ _
  go_upto_region 9 with fail
  clear HS G0 B1 B4 B5 hHeld hHeld1 hHeld4 hHeld5 hHeld6
  have s13 := B6.size
  replace E : Below w.heap.size w u6 := E.trans (B6.mono E.size)
  replace HA : LRd u6 (w.heap.size) a.A a.n a.c a.xs := HA.below B6 (by omega)
  replace HB : LRd u6 (w.heap.size) b.A b.n b.c b.xs := HB.below B6 (by omega)
  replace PA : Bk2 u6 (w.heap.size) (.bool a.neg) (.slice a.A a.n a.c) := PA.below B6 PA.lt
  replace PB : Bk2 u6 (w.heap.size + 1) (.bool b.neg) (.slice b.A b.n b.c) := PB.below B6 PB.lt
  replace F5 : Bk2 u6 (w1.heap.size) (.int .i64 6) (.int .i64 (-1)) := F5.below B6 F5.lt
  replace P6 : Bk2 u6 (w6.heap.size) (.bool false) (.slice A6 0 c6) := P6.below B6 P6.lt
  replace P7 : Bk2 u6 (w6.heap.size + 1) (.bool false) (.slice A7 0 c7) := P7.below B6 P7.lt
  replace F8 : Bk2 u6 (w6.heap.size + 2) (.int .i64 6) (.int .i64 (-1)) := F8.below B6 F8.lt
  replace P9 : Bk2 u6 (w9.heap.size) (.bool false) (.slice A9 0 c9) := P9.below B6 P9.lt
  replace F10 : Bk2 u6 (w9.heap.size + 1) (.int .i64 6) (.int .i64 (-1)) := F10.below B6 F10.lt
  replace P11 : Bk2 u6 (w11.heap.size) (.bool false) (.slice A11 0 c11) := P11.below B6 P11.lt
  replace F12 : Bk2 u6 (w11.heap.size + 1) (.int .i64 6) (.int .i64 (-1)) := F12.below B6 F12.lt
  clear B6
  have G0 : Below u6.heap.size u6 u6.drew := Below.drew (Below.refl _ _)
  have HS := Lib.hid (fun (u : World) (hu : Below u6.heap.size u6 u) => (⟨hu, (PA.below hu PA.lt).c0, (PA.below hu PA.lt).c1, (F12.below hu F12.lt).c0, (F12.below hu F12.lt).c1, (P11.below hu P11.lt).c0, (P11.below hu P11.lt).c1⟩ : Below u6.heap.size u6 u ∧ u.cell? ⟨w.heap.size, 0, none⟩ = some (.bool a.neg) ∧ u.cell? ⟨w.heap.size, 1, none⟩ = some (.slice a.A a.n a.c) ∧ u.cell? ⟨w11.heap.size + 1, 0, none⟩ = some (.int .i64 6) ∧ u.cell? ⟨w11.heap.size + 1, 1, none⟩ = some (.int .i64 (-1)) ∧ u.cell? ⟨w11.heap.size, 0, none⟩ = some (.bool false) ∧ u.cell? ⟨w11.heap.size, 1, none⟩ = some (.slice A11 0 c11)))
  refine wp_region_held_drew (S := (fun u => Below u6.heap.size u6 u ∧ u.cell? ⟨w.heap.size, 0, none⟩ = some (.bool a.neg) ∧ u.cell? ⟨w.heap.size, 1, none⟩ = some (.slice a.A a.n a.c) ∧ u.cell? ⟨w11.heap.size + 1, 0, none⟩ = some (.int .i64 6) ∧ u.cell? ⟨w11.heap.size + 1, 1, none⟩ = some (.int .i64 (-1)) ∧ u.cell? ⟨w11.heap.size, 0, none⟩ = some (.bool false) ∧ u.cell? ⟨w11.heap.size, 1, none⟩ = some (.slice A11 0 c11))) (by kernel_rfl) (HS.out _ G0) (fun hHeld => ?_)
  refine takeW (i := 0) (v := ?_) rfl (by kernel_rfl) (by kernel_rfl) (by kernel_rfl) (fun _ _ _ h => h) (by rfl) (by assumption) ?_ ?_
  rotate_left 1
  · (intro w9 hSw; (try dsimp only at hSw); go_simp); (first | done | with_reducible rfl)
  try simp only [Act.put, List.setIfInBounds_toArray, List.set_cons_zero, List.set_cons_succ]
  refine readyW (i := 1) (by kernel_rfl) rfl (by rfl) (fun K hK => ?_)
  go_simp
  (go_at_call 17; (with_reducible refine (intOk_any _ _ a.neg a.A a.n a.c a.xs ((HA.below G0 (by omega)).more (by have := G0.size; omega)) (Nat.le_refl _)).mono ?_); rintro e y1 ⟨rfl, hB1⟩; have B1 : Below u6.heap.size u6 y1 := bnext G0 hB1; rw [VA])
  go_wp2_with fail
  refine hK.out _ _ (HS.out _ B1) (fun hHeld1 => ?_)
  clear hK K
  try simp only [Act.put, List.setIfInBounds_toArray, List.set_cons_zero, List.set_cons_succ]
  refine takeW (i := 2) (v := ?_) rfl (by kernel_rfl) (by kernel_rfl) (by kernel_rfl) (fun _ _ _ h => h) (by rfl) (by assumption) ?_ ?_
  rotate_left 1
  · (intro w9 hSw; (try dsimp only at hSw); go_simp); (first | done | with_reducible rfl)
  try simp only [Act.put, List.setIfInBounds_toArray, List.set_cons_zero, List.set_cons_succ]
  refine takeN (i := 3) rfl (by kernel_rfl) (by kernel_rfl) (by kernel_rfl) (fun _ _ _ h => h) (by rfl) (by assumption) ?_
  try simp only [Act.put, List.setIfInBounds_toArray, List.set_cons_zero, List.set_cons_succ]
  refine takeN (i := 4) rfl (by kernel_rfl) (by kernel_rfl) (by kernel_rfl) (fun _ _ _ h => h) (by rfl) (by assumption) ?_
  try simp only [Act.put, List.setIfInBounds_toArray, List.set_cons_zero, List.set_cons_succ]
  refine takeN (i := 5) rfl (by kernel_rfl) (by kernel_rfl) (by kernel_rfl) (fun _ _ _ h => h) (by rfl) (by assumption) ?_
  try simp only [Act.put, List.setIfInBounds_toArray, List.set_cons_zero, List.set_cons_succ]
  refine takeW (i := 6) (v := ?_) rfl (by kernel_rfl) (by kernel_rfl) (by kernel_rfl) (fun _ _ _ h => h) (by rfl) (by assumption) ?_ ?_
  rotate_left 1
  · (intro w9 hSw; (try dsimp only at hSw); go_simp); (first | done | with_reducible rfl)
  try simp only [Act.put, List.setIfInBounds_toArray, List.set_cons_zero, List.set_cons_succ]
  refine takeW (i := 7) (v := ?_) rfl (by kernel_rfl) (by kernel_rfl) (by kernel_rfl) (fun _ _ _ h => h) (by rfl) (by assumption) ?_ ?_
  rotate_left 1
  · (intro w9 hSw; (try dsimp only at hSw); go_simp); (first | done | with_reducible rfl)
  try simp only [Act.put, List.setIfInBounds_toArray, List.set_cons_zero, List.set_cons_succ]
  refine takeN (i := 8) rfl (by kernel_rfl) (by kernel_rfl) (by kernel_rfl) (fun _ _ _ h => h) (by rfl) (by assumption) ?_
  try simp only [Act.put, List.setIfInBounds_toArray, List.set_cons_zero, List.set_cons_succ]
  refine takeN (i := 9) rfl (by kernel_rfl) (by kernel_rfl) (by kernel_rfl) (fun _ _ _ h => h) (by rfl) (by assumption) ?_
  try simp only [Act.put, List.setIfInBounds_toArray, List.set_cons_zero, List.set_cons_succ]
  refine takeN (i := 10) rfl (by kernel_rfl) (by kernel_rfl) (by kernel_rfl) (fun _ _ _ h => h) (by rfl) (by assumption) ?_
  try simp only [Act.put, List.setIfInBounds_toArray, List.set_cons_zero, List.set_cons_succ]
  refine takeN (i := 11) rfl (by kernel_rfl) (by kernel_rfl) (by kernel_rfl) (fun _ _ _ h => h) (by rfl) (by assumption) ?_
  try simp only [Act.put, List.setIfInBounds_toArray, List.set_cons_zero, List.set_cons_succ]
  refine takeN (i := 12) rfl (by kernel_rfl) (by kernel_rfl) (by kernel_rfl) (fun _ _ _ h => h) (by rfl) (by assumption) ?_
  try simp only [Act.put, List.setIfInBounds_toArray, List.set_cons_zero, List.set_cons_succ]
  refine takeN (i := 13) rfl (by kernel_rfl) (by kernel_rfl) (by kernel_rfl) (fun _ _ _ h => h) (by rfl) (by assumption) ?_
  try simp only [Act.put, List.setIfInBounds_toArray, List.set_cons_zero, List.set_cons_succ]
  refine takeN (i := 14) rfl (by kernel_rfl) (by kernel_rfl) (by kernel_rfl) (fun _ _ _ h => h) (by rfl) (by assumption) ?_
  try simp only [Act.put, List.setIfInBounds_toArray, List.set_cons_zero, List.set_cons_succ]
  refine readyN (i := 15) (by kernel_rfl) rfl (by rfl) (by assumption) ?_
  try simp only [Act.put, List.setIfInBounds_toArray, List.set_cons_zero, List.set_cons_succ]
  refine readyN (i := 16) (by kernel_rfl) rfl (by rfl) (by assumption) ?_
  try simp only [Act.put, List.setIfInBounds_toArray, List.set_cons_zero, List.set_cons_succ]
  refine takeN (i := 17) rfl (by kernel_rfl) (by kernel_rfl) (by kernel_rfl) (fun _ _ _ h => h) (by rfl) (by assumption) ?_
  try simp only [Act.put, List.setIfInBounds_toArray, List.set_cons_zero, List.set_cons_succ]
  refine readyN (i := 18) (by kernel_rfl) rfl (by rfl) (by assumption) ?_
  try simp only [Act.put, List.setIfInBounds_toArray, List.set_cons_zero, List.set_cons_succ]
  refine takeN (i := 19) rfl (by kernel_rfl) (by kernel_rfl) (by kernel_rfl) (fun _ _ _ h => h) (by rfl) (by assumption) ?_
  try simp only [Act.put, List.setIfInBounds_toArray, List.set_cons_zero, List.set_cons_succ]
  refine takeN (i := 20) rfl (by kernel_rfl) (by kernel_rfl) (by kernel_rfl) (fun _ _ _ h => h) (by rfl) (by assumption) ?_
  try simp only [Act.put, List.setIfInBounds_toArray, List.set_cons_zero, List.set_cons_succ]
  refine takeW (i := 21) (v := ?_) rfl (by kernel_rfl) (by kernel_rfl) (by kernel_rfl) (fun _ _ _ h => h) (by rfl) (by assumption) ?_ ?_
  rotate_left 1
  · (intro w9 hSw; (try dsimp only at hSw); go_simp); (first | done | with_reducible rfl)
  try simp only [Act.put, List.setIfInBounds_toArray, List.set_cons_zero, List.set_cons_succ]
  refine wpAnyH_done (by kernel_rfl) ?_ _
  go_upto_region 11 with fail
  clear HS G0 hHeld hHeld1
  have s14 := B1.size
  replace E : Below w.heap.size w y1 := E.trans (B1.mono E.size)
  replace HA : LRd y1 (w.heap.size) a.A a.n a.c a.xs := HA.below B1 (by omega)
  replace HB : LRd y1 (w.heap.size) b.A b.n b.c b.xs := HB.below B1 (by omega)
  replace PA : Bk2 y1 (w.heap.size) (.bool a.neg) (.slice a.A a.n a.c) := PA.below B1 PA.lt
  replace PB : Bk2 y1 (w.heap.size + 1) (.bool b.neg) (.slice b.A b.n b.c) := PB.below B1 PB.lt
  replace F5 : Bk2 y1 (w1.heap.size) (.int .i64 6) (.int .i64 (-1)) := F5.below B1 F5.lt
  replace P6 : Bk2 y1 (w6.heap.size) (.bool false) (.slice A6 0 c6) := P6.below B1 P6.lt
  replace P7 : Bk2 y1 (w6.heap.size + 1) (.bool false) (.slice A7 0 c7) := P7.below B1 P7.lt
  replace F8 : Bk2 y1 (w6.heap.size + 2) (.int .i64 6) (.int .i64 (-1)) := F8.below B1 F8.lt
  replace P9 : Bk2 y1 (w9.heap.size) (.bool false) (.slice A9 0 c9) := P9.below B1 P9.lt
  replace F10 : Bk2 y1 (w9.heap.size + 1) (.int .i64 6) (.int .i64 (-1)) := F10.below B1 F10.lt
  replace P11 : Bk2 y1 (w11.heap.size) (.bool false) (.slice A11 0 c11) := P11.below B1 P11.lt
  replace F12 : Bk2 y1 (w11.heap.size + 1) (.int .i64 6) (.int .i64 (-1)) := F12.below B1 F12.lt
  clear B1
  have t_F50 : y1.cell? ⟨w1.heap.size, 0, none⟩ = some ((.int .i64 6)) := F5.c0
  have t_F51 : y1.cell? ⟨w1.heap.size, 1, none⟩ = some ((.int .i64 (-1))) := F5.c1
  have t_F80 : y1.cell? ⟨w6.heap.size + 2, 0, none⟩ = some ((.int .i64 6)) := F8.c0
  have t_F81 : y1.cell? ⟨w6.heap.size + 2, 1, none⟩ = some ((.int .i64 (-1))) := F8.c1
  have t_P60 : y1.cell? ⟨w6.heap.size, 0, none⟩ = some ((.bool false)) := P6.c0
  have t_P61 : y1.cell? ⟨w6.heap.size, 1, none⟩ = some ((.slice A6 0 c6)) := P6.c1
  go_wp2_with fail
  clear t_F50 t_F51 t_F80 t_F81 t_P60 t_P61
  (with_reducible refine (noInt_any _ false A6 0 c6 (by omega)).mono ?_)
  rintro e v6 ⟨rfl, hq6⟩
  have sv6 := hq6.size
  replace E : Below w.heap.size w v6 := E.trans (hq6.mono E.size)
  replace HA : LRd v6 (w.heap.size) a.A a.n a.c a.xs := HA.below hq6 (by omega)
  replace HB : LRd v6 (w.heap.size) b.A b.n b.c b.xs := HB.below hq6 (by omega)
  replace PA : Bk2 v6 (w.heap.size) (.bool a.neg) (.slice a.A a.n a.c) := PA.below hq6 PA.lt
  replace PB : Bk2 v6 (w.heap.size + 1) (.bool b.neg) (.slice b.A b.n b.c) := PB.below hq6 PB.lt
  replace F5 : Bk2 v6 (w1.heap.size) (.int .i64 6) (.int .i64 (-1)) := F5.below hq6 F5.lt
  replace P6 : Bk2 v6 (w6.heap.size) (.bool false) (.slice A6 0 c6) := P6.below hq6 P6.lt
  replace P7 : Bk2 v6 (w6.heap.size + 1) (.bool false) (.slice A7 0 c7) := P7.below hq6 P7.lt
  replace F8 : Bk2 v6 (w6.heap.size + 2) (.int .i64 6) (.int .i64 (-1)) := F8.below hq6 F8.lt
  replace P9 : Bk2 v6 (w9.heap.size) (.bool false) (.slice A9 0 c9) := P9.below hq6 P9.lt
  replace F10 : Bk2 v6 (w9.heap.size + 1) (.int .i64 6) (.int .i64 (-1)) := F10.below hq6 F10.lt
  replace P11 : Bk2 v6 (w11.heap.size) (.bool false) (.slice A11 0 c11) := P11.below hq6 P11.lt
  replace F12 : Bk2 v6 (w11.heap.size + 1) (.int .i64 6) (.int .i64 (-1)) := F12.below hq6 F12.lt
  clear hq6
  rw [show (!false && decide (0 = 0)) = true from rfl]
  have t_P70 : v6.cell? ⟨w6.heap.size + 1, 0, none⟩ = some ((.bool false)) := P7.c0
  have t_P71 : v6.cell? ⟨w6.heap.size + 1, 1, none⟩ = some ((.slice A7 0 c7)) := P7.c1
  go_wp2_with fail
  clear t_P70 t_P71
  (with_reducible refine (noInt_any _ false A7 0 c7 (by omega)).mono ?_)
  rintro e v7 ⟨rfl, hq7⟩
  have sv7 := hq7.size
  replace E : Below w.heap.size w v7 := E.trans (hq7.mono E.size)
  replace HA : LRd v7 (w.heap.size) a.A a.n a.c a.xs := HA.below hq7 (by omega)
  replace HB : LRd v7 (w.heap.size) b.A b.n b.c b.xs := HB.below hq7 (by omega)
  replace PA : Bk2 v7 (w.heap.size) (.bool a.neg) (.slice a.A a.n a.c) := PA.below hq7 PA.lt
  replace PB : Bk2 v7 (w.heap.size + 1) (.bool b.neg) (.slice b.A b.n b.c) := PB.below hq7 PB.lt
  replace F5 : Bk2 v7 (w1.heap.size) (.int .i64 6) (.int .i64 (-1)) := F5.below hq7 F5.lt
  replace P6 : Bk2 v7 (w6.heap.size) (.bool false) (.slice A6 0 c6) := P6.below hq7 P6.lt
  replace P7 : Bk2 v7 (w6.heap.size + 1) (.bool false) (.slice A7 0 c7) := P7.below hq7 P7.lt
  replace F8 : Bk2 v7 (w6.heap.size + 2) (.int .i64 6) (.int .i64 (-1)) := F8.below hq7 F8.lt
  replace P9 : Bk2 v7 (w9.heap.size) (.bool false) (.slice A9 0 c9) := P9.below hq7 P9.lt
  replace F10 : Bk2 v7 (w9.heap.size + 1) (.int .i64 6) (.int .i64 (-1)) := F10.below hq7 F10.lt
  replace P11 : Bk2 v7 (w11.heap.size) (.bool false) (.slice A11 0 c11) := P11.below hq7 P11.lt
  replace F12 : Bk2 v7 (w11.heap.size + 1) (.int .i64 6) (.int .i64 (-1)) := F12.below hq7 F12.lt
  clear hq7
  rw [show (!false && decide (0 = 0)) = true from rfl]
  have t_P90 : v7.cell? ⟨w9.heap.size, 0, none⟩ = some ((.bool false)) := P9.c0
  have t_P91 : v7.cell? ⟨w9.heap.size, 1, none⟩ = some ((.slice A9 0 c9)) := P9.c1
  go_wp2_with fail
  clear t_P90 t_P91
  (with_reducible refine (noInt_any _ false A9 0 c9 (by omega)).mono ?_)
  rintro e v9 ⟨rfl, hq9⟩
  have sv9 := hq9.size
  replace E : Below w.heap.size w v9 := E.trans (hq9.mono E.size)
  replace HA : LRd v9 (w.heap.size) a.A a.n a.c a.xs := HA.below hq9 (by omega)
  replace HB : LRd v9 (w.heap.size) b.A b.n b.c b.xs := HB.below hq9 (by omega)
  replace PA : Bk2 v9 (w.heap.size) (.bool a.neg) (.slice a.A a.n a.c) := PA.below hq9 PA.lt
  replace PB : Bk2 v9 (w.heap.size + 1) (.bool b.neg) (.slice b.A b.n b.c) := PB.below hq9 PB.lt
  replace F5 : Bk2 v9 (w1.heap.size) (.int .i64 6) (.int .i64 (-1)) := F5.below hq9 F5.lt
  replace P6 : Bk2 v9 (w6.heap.size) (.bool false) (.slice A6 0 c6) := P6.below hq9 P6.lt
  replace P7 : Bk2 v9 (w6.heap.size + 1) (.bool false) (.slice A7 0 c7) := P7.below hq9 P7.lt
  replace F8 : Bk2 v9 (w6.heap.size + 2) (.int .i64 6) (.int .i64 (-1)) := F8.below hq9 F8.lt
  replace P9 : Bk2 v9 (w9.heap.size) (.bool false) (.slice A9 0 c9) := P9.below hq9 P9.lt
  replace F10 : Bk2 v9 (w9.heap.size + 1) (.int .i64 6) (.int .i64 (-1)) := F10.below hq9 F10.lt
  replace P11 : Bk2 v9 (w11.heap.size) (.bool false) (.slice A11 0 c11) := P11.below hq9 P11.lt
  replace F12 : Bk2 v9 (w11.heap.size + 1) (.int .i64 6) (.int .i64 (-1)) := F12.below hq9 F12.lt
  clear hq9
  rw [show (!false && decide (0 = 0)) = true from rfl]
  go_wp2_with fail
  go_ret
  exact ⟨by first | rfl | (simp; done), E⟩
end Go.Proofs.Ytpidkionieaffaa
