/- IntegerDivisors: the law. -/
import Derived.Test.YtpidkionieaffaaKl
import Derived.Test.YtpidkionieaffaaKg
import Derived.Deep.RegionHeld3
namespace Go.Proofs.Ytpidkionieaffaa
open Go.RowKit
set_option maxHeartbeats 400000
set_option maxRecDepth 100000
set_option linter.unusedSimpArgs false
set_option linter.unusedVariables false

theorem val_mk (n : Bool) (A : Option Addr) (k c : Nat) (x : List Nat) : (IV.mk n A k c x).val = sval n (vb 4294967296 x) := rfl
theorem IV.abs (a : IV) : a.val.natAbs = vb 4294967296 a.xs := sval_abs _ _
theorem dv_zero {a g q r : Int} (h : FloorOf a g q r) (hg : g ∣ a) (hp : 0 < g) : r = 0 ∧ a = q * g := by
  obtain ⟨h1, h2⟩ := h
  obtain ⟨t, rfl⟩ := hg
  have e : r = (t - q) * g := by rw [Int.sub_mul, Int.mul_comm t g]; omega
  have h3 : t - q = 0 := by
    rcases (show t - q = 0 ∨ 1 ≤ t - q ∨ t - q ≤ -1 by omega) with h | h | h
    · exact h
    · have := Int.mul_le_mul_of_nonneg_right h (by omega : 0 ≤ g); omega
    · have := Int.mul_le_mul_of_nonneg_right h (by omega : 0 ≤ g); omega
  rw [h3, Int.zero_mul] at e
  omega
theorem dv_gcd {p q g : Int} {n : Nat} (hg : g = (n : Int)) (hp : 0 < n) (h : Nat.gcd (p * g).natAbs (q * g).natAbs = n) : Nat.gcd p.natAbs q.natAbs = 1 := by
  subst hg
  rw [Int.natAbs_mul, Int.natAbs_mul, Int.natAbs_natCast, Nat.gcd_mul_right] at h
  have : Nat.gcd p.natAbs q.natAbs * n = 1 * n := by rw [h, Nat.one_mul]
  exact Nat.eq_of_mul_eq_mul_right hp this
theorem dv_sub (a b : Int) : Nat.gcd (a - b).natAbs b.natAbs = Nat.gcd a.natAbs b.natAbs := by
  show Int.gcd (a - b) b = Int.gcd a b
  simp
/-- 60 limbs. -/
@[irreducible] def Top60 : Nat := 4294967296 ^ 60
theorem top60 {m : Nat} (h : m = 60) : Top60 = 4294967296 ^ m := by subst h; unfold Top60; rfl
theorem lt60 {zs : List Nat} {v k : Nat} (h : Rep 4294967296 zs v) (hl : zs.length = k) (hk : k ≤ 60) : v < Top60 := by
  obtain ⟨m, hm⟩ : ∃ m, m = 60 := ⟨_, rfl⟩
  rw [top60 hm]
  exact Nat.lt_of_lt_of_le (h.lt_pow (by decide)) (Nat.pow_le_pow_right (by decide) (by omega))
theorem sum60 {p q : Nat} (hp : p < Top60) (hq : q < Top60) : p + q < Top128 := by
  obtain ⟨m, hm⟩ : ∃ m, m = 60 := ⟨_, rfl⟩
  obtain ⟨k, hk⟩ : ∃ k, k = 128 := ⟨_, rfl⟩
  rw [top60 hm] at hp hq
  rw [top128 hk]
  have h2 : 4294967296 ^ (m + 1) ≤ 4294967296 ^ k := Nat.pow_le_pow_right (by decide) (by omega)
  rw [Nat.pow_succ] at h2
  omega
theorem t60 {p : Nat} (hp : p < Top60) : p < Top128 := by have := sum60 hp hp; omega
theorem neg_sub (a b : IV) : a.val + (IV.mk (!b.neg) b.A b.n b.c b.xs).val = a.val - b.val := by rw [neg_val]; omega
theorem field_code (x y : Int) (w : World) : (Instr.field 26 (.agg #[.int .i64 x, .int .i64 y]) 0).run Try.prog w = .ok (.int .i64 x) w := by kernel_rfl
set_option maxHeartbeats 4000000 in
theorem divs_bad (w : World) (a b : IV) (HA : a.at w w.heap.size) (HB : b.at w w.heap.size) (f2 : Int) (hf : ffault [a, b] 0 = (6, f2)) :
    Calls Try.prog 11 #[a.v, b.v] w (fun e w' => e = .returned (.bool true) ∧ Below w.heap.size w w') := by
  have HA : LRd w w.heap.size a.A a.n a.c a.xs := HA
  have HB : LRd w w.heap.size b.A b.n b.c b.xs := HB
  have E : Below w.heap.size w w := Below.refl _ _
  have hfd := field_code
  go_enter Try.func11, Try.ntmps11
  go_wp2_with fail
  obtain ⟨V0, hV0⟩ : ∃ V0 : World, V0 = ((w.alloc (.cells #[.bool a.neg, .slice a.A a.n a.c] 24)).alloc (.cells #[.bool b.neg, .slice b.A b.n b.c] 24)) := ⟨_, rfl⟩
  have bV0 : Below w.heap.size w V0 := by rw [hV0]; (repeat (first | with_reducible exact Below.refl _ _ | with_reducible refine Below.drew ?_ | with_reducible refine below_drewN ?_ _ | with_reducible refine Below.setCell ?_ (by first | (simp; done) | (simp; omega) | omega) _ | with_reducible refine Below.alloc ?_ (by first | (simp; done) | (simp; omega) | omega) _))
  have zV0 : w.heap.size + 2 ≤ V0.heap.size := by rw [hV0]; simp
  have PA : Bk2 V0 (w.heap.size) (.bool a.neg) (.slice a.A a.n a.c) := by rw [hV0]; exact ((Bk2.newAt _ _ (by simp) _ _ _).alloc _)
  have PB : Bk2 V0 (w.heap.size + 1) (.bool b.neg) (.slice b.A b.n b.c) := by rw [hV0]; exact (Bk2.newAt _ _ (by simp) _ _ _)
  rw [← hV0]
  clear hV0
  have E : Below w.heap.size w V0 := E.trans (bV0.mono E.size)
  have HA : LRd V0 (w.heap.size) a.A a.n a.c a.xs := HA.below bV0 (by omega)
  have HB : LRd V0 (w.heap.size) b.A b.n b.c b.xs := HB.below bV0 (by omega)
  clear bV0
  (with_reducible refine (counts_any _).mono ?_)
  rintro e w1 ⟨rfl, hb1⟩
  have sw1 := hb1.size
  have E : Below w.heap.size w w1 := E.trans (hb1.mono E.size)
  have HA : LRd w1 (w.heap.size) a.A a.n a.c a.xs := HA.below hb1 (by omega)
  have HB : LRd w1 (w.heap.size) b.A b.n b.c b.xs := HB.below hb1 (by omega)
  have PA : Bk2 w1 (w.heap.size) (.bool a.neg) (.slice a.A a.n a.c) := PA.below hb1 PA.lt
  have PB : Bk2 w1 (w.heap.size + 1) (.bool b.neg) (.slice b.A b.n b.c) := PB.below hb1 PB.lt
  clear hb1
  have IR := Lib.hid (irow2 w1 w.heap.size a b HA HB (by omega))
  have p_PA0 : w1.cell? ⟨w.heap.size, 0, none⟩ = some ((.bool a.neg)) := PA.c0
  have p_PA1 : w1.cell? ⟨w.heap.size, 1, none⟩ = some ((.slice a.A a.n a.c)) := PA.c1
  have p_PB0 : w1.cell? ⟨w.heap.size + 1, 0, none⟩ = some ((.bool b.neg)) := PB.c0
  have p_PB1 : w1.cell? ⟨w.heap.size + 1, 1, none⟩ = some ((.slice b.A b.n b.c)) := PB.c1
  go_wp2_with fail
  clear p_PA0 p_PA1 p_PB0 p_PB1
  obtain ⟨V1, hV1⟩ : ∃ V1 : World, V1 = (w1.alloc (.cells #[.bool a.neg, .slice a.A a.n a.c, .bool b.neg, .slice b.A b.n b.c] 24)) := ⟨_, rfl⟩
  have bV1 : Below w1.heap.size w1 V1 := by rw [hV1]; (repeat (first | with_reducible exact Below.refl _ _ | with_reducible refine Below.drew ?_ | with_reducible refine below_drewN ?_ _ | with_reducible refine Below.setCell ?_ (by first | (simp; done) | (simp; omega) | omega) _ | with_reducible refine Below.alloc ?_ (by first | (simp; done) | (simp; omega) | omega) _))
  have zV1 : w1.heap.size + 1 ≤ V1.heap.size := by rw [hV1]; simp
  have IR : Hid (IRow V1 w.heap.size w1.heap.size [a, b]) := by rw [hV1]; exact IR
  rw [← hV1]
  clear hV1
  have E : Below w.heap.size w V1 := E.trans (bV1.mono E.size)
  have HA : LRd V1 (w.heap.size) a.A a.n a.c a.xs := HA.below bV1 (by omega)
  have HB : LRd V1 (w.heap.size) b.A b.n b.c b.xs := HB.below bV1 (by omega)
  have PA : Bk2 V1 (w.heap.size) (.bool a.neg) (.slice a.A a.n a.c) := PA.below bV1 PA.lt
  have PB : Bk2 V1 (w.heap.size + 1) (.bool b.neg) (.slice b.A b.n b.c) := PB.below bV1 PB.lt
  clear bV1
  (with_reducible refine (faults_any _ w.heap.size w1.heap.size 2 [a, b] IR.out rfl (by omega) (by omega)).mono ?_)
  rintro e w2 ⟨rfl, hb2⟩
  have sw2 := hb2.size
  have E : Below w.heap.size w w2 := E.trans (hb2.mono E.size)
  have HA : LRd w2 (w.heap.size) a.A a.n a.c a.xs := HA.below hb2 (by omega)
  have HB : LRd w2 (w.heap.size) b.A b.n b.c b.xs := HB.below hb2 (by omega)
  have PA : Bk2 w2 (w.heap.size) (.bool a.neg) (.slice a.A a.n a.c) := PA.below hb2 PA.lt
  have PB : Bk2 w2 (w.heap.size + 1) (.bool b.neg) (.slice b.A b.n b.c) := PB.below hb2 PB.lt
  clear hb2
  rw [hf]
  unfold flt
  clear IR
  go_wp2_with fail
  all_goals go_ret
  all_goals exact ⟨by first | rfl | (simp; done), E⟩
set_option maxHeartbeats 4000000 in
theorem divs_long1 (w : World) (a b : IV) (HA : a.at w w.heap.size) (HB : b.at w w.heap.size) (oa : a.ok = true) (ob : b.ok = true) (hl : 60 < a.n) :
    Calls Try.prog 11 #[a.v, b.v] w (fun e w' => e = .returned (.bool true) ∧ Below w.heap.size w w') := by
  have hl' : 60 < (a.n : Int) := by omega
  have HA : LRd w w.heap.size a.A a.n a.c a.xs := HA
  have HB : LRd w w.heap.size b.A b.n b.c b.xs := HB
  have E : Below w.heap.size w w := Below.refl _ _
  have hfd := field_code
  go_enter Try.func11, Try.ntmps11
  go_wp2_with fail
  obtain ⟨V0, hV0⟩ : ∃ V0 : World, V0 = ((w.alloc (.cells #[.bool a.neg, .slice a.A a.n a.c] 24)).alloc (.cells #[.bool b.neg, .slice b.A b.n b.c] 24)) := ⟨_, rfl⟩
  have bV0 : Below w.heap.size w V0 := by rw [hV0]; (repeat (first | with_reducible exact Below.refl _ _ | with_reducible refine Below.drew ?_ | with_reducible refine below_drewN ?_ _ | with_reducible refine Below.setCell ?_ (by first | (simp; done) | (simp; omega) | omega) _ | with_reducible refine Below.alloc ?_ (by first | (simp; done) | (simp; omega) | omega) _))
  have zV0 : w.heap.size + 2 ≤ V0.heap.size := by rw [hV0]; simp
  have PA : Bk2 V0 (w.heap.size) (.bool a.neg) (.slice a.A a.n a.c) := by rw [hV0]; exact ((Bk2.newAt _ _ (by simp) _ _ _).alloc _)
  have PB : Bk2 V0 (w.heap.size + 1) (.bool b.neg) (.slice b.A b.n b.c) := by rw [hV0]; exact (Bk2.newAt _ _ (by simp) _ _ _)
  rw [← hV0]
  clear hV0
  have E : Below w.heap.size w V0 := E.trans (bV0.mono E.size)
  have HA : LRd V0 (w.heap.size) a.A a.n a.c a.xs := HA.below bV0 (by omega)
  have HB : LRd V0 (w.heap.size) b.A b.n b.c b.xs := HB.below bV0 (by omega)
  clear bV0
  (with_reducible refine (counts_any _).mono ?_)
  rintro e w1 ⟨rfl, hb1⟩
  have sw1 := hb1.size
  have E : Below w.heap.size w w1 := E.trans (hb1.mono E.size)
  have HA : LRd w1 (w.heap.size) a.A a.n a.c a.xs := HA.below hb1 (by omega)
  have HB : LRd w1 (w.heap.size) b.A b.n b.c b.xs := HB.below hb1 (by omega)
  have PA : Bk2 w1 (w.heap.size) (.bool a.neg) (.slice a.A a.n a.c) := PA.below hb1 PA.lt
  have PB : Bk2 w1 (w.heap.size + 1) (.bool b.neg) (.slice b.A b.n b.c) := PB.below hb1 PB.lt
  clear hb1
  have IR := Lib.hid (irow2 w1 w.heap.size a b HA HB (by omega))
  have p_PA0 : w1.cell? ⟨w.heap.size, 0, none⟩ = some ((.bool a.neg)) := PA.c0
  have p_PA1 : w1.cell? ⟨w.heap.size, 1, none⟩ = some ((.slice a.A a.n a.c)) := PA.c1
  have p_PB0 : w1.cell? ⟨w.heap.size + 1, 0, none⟩ = some ((.bool b.neg)) := PB.c0
  have p_PB1 : w1.cell? ⟨w.heap.size + 1, 1, none⟩ = some ((.slice b.A b.n b.c)) := PB.c1
  go_wp2_with fail
  clear p_PA0 p_PA1 p_PB0 p_PB1
  obtain ⟨V1, hV1⟩ : ∃ V1 : World, V1 = (w1.alloc (.cells #[.bool a.neg, .slice a.A a.n a.c, .bool b.neg, .slice b.A b.n b.c] 24)) := ⟨_, rfl⟩
  have bV1 : Below w1.heap.size w1 V1 := by rw [hV1]; (repeat (first | with_reducible exact Below.refl _ _ | with_reducible refine Below.drew ?_ | with_reducible refine below_drewN ?_ _ | with_reducible refine Below.setCell ?_ (by first | (simp; done) | (simp; omega) | omega) _ | with_reducible refine Below.alloc ?_ (by first | (simp; done) | (simp; omega) | omega) _))
  have zV1 : w1.heap.size + 1 ≤ V1.heap.size := by rw [hV1]; simp
  have IR : Hid (IRow V1 w.heap.size w1.heap.size [a, b]) := by rw [hV1]; exact IR
  rw [← hV1]
  clear hV1
  have E : Below w.heap.size w V1 := E.trans (bV1.mono E.size)
  have HA : LRd V1 (w.heap.size) a.A a.n a.c a.xs := HA.below bV1 (by omega)
  have HB : LRd V1 (w.heap.size) b.A b.n b.c b.xs := HB.below bV1 (by omega)
  have PA : Bk2 V1 (w.heap.size) (.bool a.neg) (.slice a.A a.n a.c) := PA.below bV1 PA.lt
  have PB : Bk2 V1 (w.heap.size + 1) (.bool b.neg) (.slice b.A b.n b.c) := PB.below bV1 PB.lt
  clear bV1
  (with_reducible refine (faults_any _ w.heap.size w1.heap.size 2 [a, b] IR.out rfl (by omega) (by omega)).mono ?_)
  rintro e w2 ⟨rfl, hb2⟩
  have sw2 := hb2.size
  have E : Below w.heap.size w w2 := E.trans (hb2.mono E.size)
  have HA : LRd w2 (w.heap.size) a.A a.n a.c a.xs := HA.below hb2 (by omega)
  have HB : LRd w2 (w.heap.size) b.A b.n b.c b.xs := HB.below hb2 (by omega)
  have PA : Bk2 w2 (w.heap.size) (.bool a.neg) (.slice a.A a.n a.c) := PA.below hb2 PA.lt
  have PB : Bk2 w2 (w.heap.size + 1) (.bool b.neg) (.slice b.A b.n b.c) := PB.below hb2 PB.lt
  clear hb2
  rw [two_ok oa ob]
  unfold flt
  clear IR
  have t0 := PA.c1
  have t1 := PB.c1
  go_wp2_with fail
  all_goals go_ret
  all_goals exact ⟨by first | rfl | (simp; done), E⟩
set_option maxHeartbeats 4000000 in
theorem divs_long2 (w : World) (a b : IV) (HA : a.at w w.heap.size) (HB : b.at w w.heap.size) (oa : a.ok = true) (ob : b.ok = true) (hk : a.n ≤ 60) (hl : 60 < b.n) :
    Calls Try.prog 11 #[a.v, b.v] w (fun e w' => e = .returned (.bool true) ∧ Below w.heap.size w w') := by
  have hl' : 60 < (b.n : Int) := by omega
  have hk' : (a.n : Int) ≤ 60 := by omega
  have HA : LRd w w.heap.size a.A a.n a.c a.xs := HA
  have HB : LRd w w.heap.size b.A b.n b.c b.xs := HB
  have E : Below w.heap.size w w := Below.refl _ _
  have hfd := field_code
  go_enter Try.func11, Try.ntmps11
  go_wp2_with fail
  obtain ⟨V0, hV0⟩ : ∃ V0 : World, V0 = ((w.alloc (.cells #[.bool a.neg, .slice a.A a.n a.c] 24)).alloc (.cells #[.bool b.neg, .slice b.A b.n b.c] 24)) := ⟨_, rfl⟩
  have bV0 : Below w.heap.size w V0 := by rw [hV0]; (repeat (first | with_reducible exact Below.refl _ _ | with_reducible refine Below.drew ?_ | with_reducible refine below_drewN ?_ _ | with_reducible refine Below.setCell ?_ (by first | (simp; done) | (simp; omega) | omega) _ | with_reducible refine Below.alloc ?_ (by first | (simp; done) | (simp; omega) | omega) _))
  have zV0 : w.heap.size + 2 ≤ V0.heap.size := by rw [hV0]; simp
  have PA : Bk2 V0 (w.heap.size) (.bool a.neg) (.slice a.A a.n a.c) := by rw [hV0]; exact ((Bk2.newAt _ _ (by simp) _ _ _).alloc _)
  have PB : Bk2 V0 (w.heap.size + 1) (.bool b.neg) (.slice b.A b.n b.c) := by rw [hV0]; exact (Bk2.newAt _ _ (by simp) _ _ _)
  rw [← hV0]
  clear hV0
  have E : Below w.heap.size w V0 := E.trans (bV0.mono E.size)
  have HA : LRd V0 (w.heap.size) a.A a.n a.c a.xs := HA.below bV0 (by omega)
  have HB : LRd V0 (w.heap.size) b.A b.n b.c b.xs := HB.below bV0 (by omega)
  clear bV0
  (with_reducible refine (counts_any _).mono ?_)
  rintro e w1 ⟨rfl, hb1⟩
  have sw1 := hb1.size
  have E : Below w.heap.size w w1 := E.trans (hb1.mono E.size)
  have HA : LRd w1 (w.heap.size) a.A a.n a.c a.xs := HA.below hb1 (by omega)
  have HB : LRd w1 (w.heap.size) b.A b.n b.c b.xs := HB.below hb1 (by omega)
  have PA : Bk2 w1 (w.heap.size) (.bool a.neg) (.slice a.A a.n a.c) := PA.below hb1 PA.lt
  have PB : Bk2 w1 (w.heap.size + 1) (.bool b.neg) (.slice b.A b.n b.c) := PB.below hb1 PB.lt
  clear hb1
  have IR := Lib.hid (irow2 w1 w.heap.size a b HA HB (by omega))
  have p_PA0 : w1.cell? ⟨w.heap.size, 0, none⟩ = some ((.bool a.neg)) := PA.c0
  have p_PA1 : w1.cell? ⟨w.heap.size, 1, none⟩ = some ((.slice a.A a.n a.c)) := PA.c1
  have p_PB0 : w1.cell? ⟨w.heap.size + 1, 0, none⟩ = some ((.bool b.neg)) := PB.c0
  have p_PB1 : w1.cell? ⟨w.heap.size + 1, 1, none⟩ = some ((.slice b.A b.n b.c)) := PB.c1
  go_wp2_with fail
  clear p_PA0 p_PA1 p_PB0 p_PB1
  obtain ⟨V1, hV1⟩ : ∃ V1 : World, V1 = (w1.alloc (.cells #[.bool a.neg, .slice a.A a.n a.c, .bool b.neg, .slice b.A b.n b.c] 24)) := ⟨_, rfl⟩
  have bV1 : Below w1.heap.size w1 V1 := by rw [hV1]; (repeat (first | with_reducible exact Below.refl _ _ | with_reducible refine Below.drew ?_ | with_reducible refine below_drewN ?_ _ | with_reducible refine Below.setCell ?_ (by first | (simp; done) | (simp; omega) | omega) _ | with_reducible refine Below.alloc ?_ (by first | (simp; done) | (simp; omega) | omega) _))
  have zV1 : w1.heap.size + 1 ≤ V1.heap.size := by rw [hV1]; simp
  have IR : Hid (IRow V1 w.heap.size w1.heap.size [a, b]) := by rw [hV1]; exact IR
  rw [← hV1]
  clear hV1
  have E : Below w.heap.size w V1 := E.trans (bV1.mono E.size)
  have HA : LRd V1 (w.heap.size) a.A a.n a.c a.xs := HA.below bV1 (by omega)
  have HB : LRd V1 (w.heap.size) b.A b.n b.c b.xs := HB.below bV1 (by omega)
  have PA : Bk2 V1 (w.heap.size) (.bool a.neg) (.slice a.A a.n a.c) := PA.below bV1 PA.lt
  have PB : Bk2 V1 (w.heap.size + 1) (.bool b.neg) (.slice b.A b.n b.c) := PB.below bV1 PB.lt
  clear bV1
  (with_reducible refine (faults_any _ w.heap.size w1.heap.size 2 [a, b] IR.out rfl (by omega) (by omega)).mono ?_)
  rintro e w2 ⟨rfl, hb2⟩
  have sw2 := hb2.size
  have E : Below w.heap.size w w2 := E.trans (hb2.mono E.size)
  have HA : LRd w2 (w.heap.size) a.A a.n a.c a.xs := HA.below hb2 (by omega)
  have HB : LRd w2 (w.heap.size) b.A b.n b.c b.xs := HB.below hb2 (by omega)
  have PA : Bk2 w2 (w.heap.size) (.bool a.neg) (.slice a.A a.n a.c) := PA.below hb2 PA.lt
  have PB : Bk2 w2 (w.heap.size + 1) (.bool b.neg) (.slice b.A b.n b.c) := PB.below hb2 PB.lt
  clear hb2
  rw [two_ok oa ob]
  unfold flt
  clear IR
  have t0 := PA.c1
  have t1 := PB.c1
  go_wp2_with fail
  all_goals go_ret
  all_goals exact ⟨by first | rfl | (simp; done), E⟩
end Go.Proofs.Ytpidkionieaffaa
