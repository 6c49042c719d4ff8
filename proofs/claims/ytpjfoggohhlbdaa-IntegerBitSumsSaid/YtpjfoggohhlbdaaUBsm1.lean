/- IntegerBitSums: the law. -/
import Derived.Test.YtpjfoggohhlbdaaUBit10
import Derived.Test.YtpjfoggohhlbdaaUg
import Derived.Test.YtpjfoggohhlbdaaUDvs1
import Derived.Deep.RegionHeld3
import Derived.Deep.DeepCutAuto
namespace Go.Proofs.Ytpjfoggohhlbdaa
open Go.RowKit
set_option maxHeartbeats 400000
set_option maxRecDepth 100000
set_option linter.unusedSimpArgs false
set_option linter.unusedVariables false

/-- z lies between -2^N and 2^N. -/
def ZR (N : Nat) (z : Int) : Prop := ∃ s, ∀ j, N ≤ j → zbit z j = s
theorem ZR.op {f : Bool → Bool → Bool} {N : Nat} {a b z : Int} (h : ZOp f a b z) (ha : ZR N a) (hb : ZR N b) : ZR N z := by
  obtain ⟨s, hs⟩ := ha
  obtain ⟨t, ht⟩ := hb
  exact ⟨f s t, fun j hj => by rw [h j, hs j hj, ht j hj]⟩
theorem ZR.not {N : Nat} {a : Int} (ha : ZR N a) : ZR N (-a - 1) := by
  obtain ⟨s, hs⟩ := ha
  exact ⟨!s, fun j hj => by rw [zbit_not, hs j hj]⟩
theorem ZR.abs {N : Nat} {z : Int} (h : ZR N z) : z.natAbs ≤ 2 ^ N := by
  obtain ⟨s, hs⟩ := h
  have key : ∀ m : Nat, (∀ j, N ≤ j → m.testBit j = false) → m < 2 ^ N := fun m hm => Nat.lt_pow_two_of_testBit m hm
  have far : ∀ m : Nat, m.testBit (N + m) = false := fun m => testBit_high (Nat.lt_of_lt_of_le Nat.lt_two_pow_self (Nat.pow_le_pow_right (by decide) (by omega)))
  cases z with
  | ofNat m =>
    have h0 : s = false := by rw [← hs (N + m) (by omega)]; exact far m
    subst h0
    exact Nat.le_of_lt (key m hs)
  | negSucc m =>
    have h0 : s = true := by rw [← hs (N + m) (by omega)]; show (!(m.testBit (N + m))) = true; rw [far m]; rfl
    subst h0
    have := key m (fun j hj => by have h1 := hs j hj; change (!(m.testBit j)) = true at h1; simpa using h1)
    show m + 1 ≤ 2 ^ N
    omega
theorem t128_lt {N : Nat} (h : N ≤ 3900) : 2 ^ N * 8 < Top128 := by
  obtain ⟨m, hm⟩ : ∃ m, m = 128 := ⟨_, rfl⟩
  rw [top128 hm]
  have e : 4294967296 ^ m = 2 ^ (32 * m) := by rw [Nat.pow_mul]
  rw [e, show (8 : Nat) = 2 ^ 3 from rfl, ← Nat.pow_add]
  exact Nat.pow_lt_pow_right (by decide) (by omega)
theorem zr_val {a : IV} (oa : a.ok = true) (hl : Lim a.xs) {N : Nat} (hn : 32 * a.xs.length ≤ N) : ZR N a.val := ⟨a.neg, fun j hj => val_high oa hl (N := a.xs.length) (Nat.le_refl _) (by omega)⟩
theorem vl_fit {w w' : World} {z : Int} {e : Ending} (h : GivesVL w z e w') (hz : z.natAbs < Top128) : GivesVF w z 0 0 e w' := by
  rcases h with ⟨_, h2⟩ | ⟨h1, _⟩
  · exact h2
  · omega
theorem shift_one (z : Int) : zshift z 1 = 2 * z := by
  unfold zshift
  rw [if_neg (by decide), Int.mul_comm]; rfl
theorem same_irep' {m n : Bool} {xs ys : List Nat} {y z : Int} (h : IRep m xs y) (k : IRep n ys z) (e0 : y = z) : (decide (m = n) && sameB xs ys) = true := by
  subst e0
  have e : m = n := by rw [h.sgn, k.sgn]
  have e2 : xs = ys := h.rep.unique (by decide) k.rep
  rw [e, e2]
  simp [sameB]
theorem mkok {m : Bool} {A : Option Addr} {k c : Nat} {xs : List Nat} {z : Int} (h : IRep m xs z) (hz : z.natAbs < Top128) : (IV.mk m A k c xs).ok = true := h.iok hz
set_option maxHeartbeats 8000000 in
theorem bsm_bad (w : World) (a b : IV) (HA : a.at w w.heap.size) (HB : b.at w w.heap.size) (f2 : Int) (hf : ffault [a, b] 0 = (6, f2)) :
    Calls Try.prog 10 #[a.v, b.v] w (fun e w' => e = .returned (.bool true) ∧ Below w.heap.size w w') := by
  replace HA : LRd w w.heap.size a.A a.n a.c a.xs := HA
  replace HB : LRd w w.heap.size b.A b.n b.c b.xs := HB
  have E : Below w.heap.size w w := Below.refl _ _
  have hfd := field_code
  go_enter Try.func10, Try.ntmps10
  go_wp2_with fail
  obtain ⟨V0, hV0⟩ : ∃ V0 : World, V0 = ((w.alloc (.cells #[.bool a.neg, .slice a.A a.n a.c] 24)).alloc (.cells #[.bool b.neg, .slice b.A b.n b.c] 24)) := ⟨_, rfl⟩
  have bV0 : Below w.heap.size w V0 := by rw [hV0]; (repeat (first | with_reducible exact Below.refl _ _ | with_reducible refine Below.drew ?_ | with_reducible refine below_drewN ?_ _ | with_reducible refine Below.setCell ?_ (by first | (simp; done) | (simp; omega) | omega) _ | with_reducible refine Below.alloc ?_ (by first | (simp; done) | (simp; omega) | omega) _))
  have zV0 : w.heap.size + 2 ≤ V0.heap.size := by rw [hV0]; simp
  have PA : Bk2 V0 (w.heap.size) (.bool a.neg) (.slice a.A a.n a.c) := by rw [hV0]; exact ((Bk2.newAt _ _ (by simp) _ _ _).alloc _)
  have PB : Bk2 V0 (w.heap.size + 1) (.bool b.neg) (.slice b.A b.n b.c) := by rw [hV0]; exact (Bk2.newAt _ _ (by simp) _ _ _)
  rw [← hV0]
  clear hV0
  replace E : Below w.heap.size w V0 := E.trans (bV0.mono E.size)
  replace HA : LRd V0 (w.heap.size) a.A a.n a.c a.xs := HA.below bV0 (by omega)
  replace HB : LRd V0 (w.heap.size) b.A b.n b.c b.xs := HB.below bV0 (by omega)
  clear bV0
  (with_reducible refine (counts_any _).mono ?_)
  rintro e w1 ⟨rfl, hb1⟩
  have sw1 := hb1.size
  replace E : Below w.heap.size w w1 := E.trans (hb1.mono E.size)
  replace HA : LRd w1 (w.heap.size) a.A a.n a.c a.xs := HA.below hb1 (by omega)
  replace HB : LRd w1 (w.heap.size) b.A b.n b.c b.xs := HB.below hb1 (by omega)
  replace PA : Bk2 w1 (w.heap.size) (.bool a.neg) (.slice a.A a.n a.c) := PA.below hb1 PA.lt
  replace PB : Bk2 w1 (w.heap.size + 1) (.bool b.neg) (.slice b.A b.n b.c) := PB.below hb1 PB.lt
  clear hb1
  have IR := Lib.hid (irow2 w1 w.heap.size a b HA HB (by omega))
  have p_PA0 : w1.cell? ⟨w.heap.size, 0, none⟩ = some ((.bool a.neg)) := PA.c0
  have p_PA1 : w1.cell? ⟨w.heap.size, 1, none⟩ = some ((.slice a.A a.n a.c)) := PA.c1
  have p_PB0 : w1.cell? ⟨w.heap.size + 1, 0, none⟩ = some ((.bool b.neg)) := PB.c0
  have p_PB1 : w1.cell? ⟨w.heap.size + 1, 1, none⟩ = some ((.slice b.A b.n b.c)) := PB.c1
  go_wp2_with fail
  clear p_PA0 p_PA1 p_PB0 p_PB1
  obtain ⟨V1, hV1⟩ : ∃ V1 : World, V1 = (w1.alloc (.cells #[.bool a.neg, .slice a.A a.n a.c, .bool b.neg, .slice b.A b.n b.c] 24)) := ⟨_, rfl⟩
  have bV1 : Below w1.heap.size w1 V1 := by rw [hV1]; (repeat (first | with_reducible exact Below.refl _ _ | with_reducible refine Below.drew ?_ | with_reducible refine below_drewN ?_ _ | with_reducible refine Below.setCell ?_ (by first | (simp; done) | (simp; omega) | omega) _ | with_reducible refine Below.alloc ?_ (by first | (simp; done) | (simp; omega) | omega) _))
  have zV1 : w1.heap.size + 1 ≤ V1.heap.size := by rw [hV1]; simp
  replace IR : Hid (IRow V1 w.heap.size w1.heap.size [a, b]) := by rw [hV1]; exact IR
  rw [← hV1]
  clear hV1
  replace E : Below w.heap.size w V1 := E.trans (bV1.mono E.size)
  replace HA : LRd V1 (w.heap.size) a.A a.n a.c a.xs := HA.below bV1 (by omega)
  replace HB : LRd V1 (w.heap.size) b.A b.n b.c b.xs := HB.below bV1 (by omega)
  replace PA : Bk2 V1 (w.heap.size) (.bool a.neg) (.slice a.A a.n a.c) := PA.below bV1 PA.lt
  replace PB : Bk2 V1 (w.heap.size + 1) (.bool b.neg) (.slice b.A b.n b.c) := PB.below bV1 PB.lt
  clear bV1
  (with_reducible refine (faults_any _ w.heap.size w1.heap.size 2 [a, b] IR.out rfl (by omega) (by omega)).mono ?_)
  rintro e w2 ⟨rfl, hb2⟩
  have sw2 := hb2.size
  replace E : Below w.heap.size w w2 := E.trans (hb2.mono E.size)
  replace HA : LRd w2 (w.heap.size) a.A a.n a.c a.xs := HA.below hb2 (by omega)
  replace HB : LRd w2 (w.heap.size) b.A b.n b.c b.xs := HB.below hb2 (by omega)
  replace PA : Bk2 w2 (w.heap.size) (.bool a.neg) (.slice a.A a.n a.c) := PA.below hb2 PA.lt
  replace PB : Bk2 w2 (w.heap.size + 1) (.bool b.neg) (.slice b.A b.n b.c) := PB.below hb2 PB.lt
  clear hb2
  rw [hf]
  unfold flt
  clear IR
  go_wp2_with fail
  all_goals go_ret
  all_goals exact ⟨by first | rfl | (simp; done), E⟩
set_option maxHeartbeats 8000000 in
theorem bsm_la (w : World) (a b : IV) (HA : a.at w w.heap.size) (HB : b.at w w.heap.size) (oa : a.ok = true) (ob : b.ok = true) (hl : 120 < a.n) :
    Calls Try.prog 10 #[a.v, b.v] w (fun e w' => e = .returned (.bool true) ∧ Below w.heap.size w w') := by
  replace HA : LRd w w.heap.size a.A a.n a.c a.xs := HA
  replace HB : LRd w w.heap.size b.A b.n b.c b.xs := HB
  have hf : ffault [a, b] 0 = (0, 0) := two_ok oa ob
  have hl' : 120 < (a.n : Int) := by omega
  have E : Below w.heap.size w w := Below.refl _ _
  have hfd := field_code
  go_enter Try.func10, Try.ntmps10
  go_wp2_with fail
  obtain ⟨V0, hV0⟩ : ∃ V0 : World, V0 = ((w.alloc (.cells #[.bool a.neg, .slice a.A a.n a.c] 24)).alloc (.cells #[.bool b.neg, .slice b.A b.n b.c] 24)) := ⟨_, rfl⟩
  have bV0 : Below w.heap.size w V0 := by rw [hV0]; (repeat (first | with_reducible exact Below.refl _ _ | with_reducible refine Below.drew ?_ | with_reducible refine below_drewN ?_ _ | with_reducible refine Below.setCell ?_ (by first | (simp; done) | (simp; omega) | omega) _ | with_reducible refine Below.alloc ?_ (by first | (simp; done) | (simp; omega) | omega) _))
  have zV0 : w.heap.size + 2 ≤ V0.heap.size := by rw [hV0]; simp
  have PA : Bk2 V0 (w.heap.size) (.bool a.neg) (.slice a.A a.n a.c) := by rw [hV0]; exact ((Bk2.newAt _ _ (by simp) _ _ _).alloc _)
  have PB : Bk2 V0 (w.heap.size + 1) (.bool b.neg) (.slice b.A b.n b.c) := by rw [hV0]; exact (Bk2.newAt _ _ (by simp) _ _ _)
  rw [← hV0]
  clear hV0
  replace E : Below w.heap.size w V0 := E.trans (bV0.mono E.size)
  replace HA : LRd V0 (w.heap.size) a.A a.n a.c a.xs := HA.below bV0 (by omega)
  replace HB : LRd V0 (w.heap.size) b.A b.n b.c b.xs := HB.below bV0 (by omega)
  clear bV0
  (with_reducible refine (counts_any _).mono ?_)
  rintro e w1 ⟨rfl, hb1⟩
  have sw1 := hb1.size
  replace E : Below w.heap.size w w1 := E.trans (hb1.mono E.size)
  replace HA : LRd w1 (w.heap.size) a.A a.n a.c a.xs := HA.below hb1 (by omega)
  replace HB : LRd w1 (w.heap.size) b.A b.n b.c b.xs := HB.below hb1 (by omega)
  replace PA : Bk2 w1 (w.heap.size) (.bool a.neg) (.slice a.A a.n a.c) := PA.below hb1 PA.lt
  replace PB : Bk2 w1 (w.heap.size + 1) (.bool b.neg) (.slice b.A b.n b.c) := PB.below hb1 PB.lt
  clear hb1
  have IR := Lib.hid (irow2 w1 w.heap.size a b HA HB (by omega))
  have p_PA0 : w1.cell? ⟨w.heap.size, 0, none⟩ = some ((.bool a.neg)) := PA.c0
  have p_PA1 : w1.cell? ⟨w.heap.size, 1, none⟩ = some ((.slice a.A a.n a.c)) := PA.c1
  have p_PB0 : w1.cell? ⟨w.heap.size + 1, 0, none⟩ = some ((.bool b.neg)) := PB.c0
  have p_PB1 : w1.cell? ⟨w.heap.size + 1, 1, none⟩ = some ((.slice b.A b.n b.c)) := PB.c1
  go_wp2_with fail
  clear p_PA0 p_PA1 p_PB0 p_PB1
  obtain ⟨V1, hV1⟩ : ∃ V1 : World, V1 = (w1.alloc (.cells #[.bool a.neg, .slice a.A a.n a.c, .bool b.neg, .slice b.A b.n b.c] 24)) := ⟨_, rfl⟩
  have bV1 : Below w1.heap.size w1 V1 := by rw [hV1]; (repeat (first | with_reducible exact Below.refl _ _ | with_reducible refine Below.drew ?_ | with_reducible refine below_drewN ?_ _ | with_reducible refine Below.setCell ?_ (by first | (simp; done) | (simp; omega) | omega) _ | with_reducible refine Below.alloc ?_ (by first | (simp; done) | (simp; omega) | omega) _))
  have zV1 : w1.heap.size + 1 ≤ V1.heap.size := by rw [hV1]; simp
  replace IR : Hid (IRow V1 w.heap.size w1.heap.size [a, b]) := by rw [hV1]; exact IR
  rw [← hV1]
  clear hV1
  replace E : Below w.heap.size w V1 := E.trans (bV1.mono E.size)
  replace HA : LRd V1 (w.heap.size) a.A a.n a.c a.xs := HA.below bV1 (by omega)
  replace HB : LRd V1 (w.heap.size) b.A b.n b.c b.xs := HB.below bV1 (by omega)
  replace PA : Bk2 V1 (w.heap.size) (.bool a.neg) (.slice a.A a.n a.c) := PA.below bV1 PA.lt
  replace PB : Bk2 V1 (w.heap.size + 1) (.bool b.neg) (.slice b.A b.n b.c) := PB.below bV1 PB.lt
  clear bV1
  (with_reducible refine (faults_any _ w.heap.size w1.heap.size 2 [a, b] IR.out rfl (by omega) (by omega)).mono ?_)
  rintro e w2 ⟨rfl, hb2⟩
  have sw2 := hb2.size
  replace E : Below w.heap.size w w2 := E.trans (hb2.mono E.size)
  replace HA : LRd w2 (w.heap.size) a.A a.n a.c a.xs := HA.below hb2 (by omega)
  replace HB : LRd w2 (w.heap.size) b.A b.n b.c b.xs := HB.below hb2 (by omega)
  replace PA : Bk2 w2 (w.heap.size) (.bool a.neg) (.slice a.A a.n a.c) := PA.below hb2 PA.lt
  replace PB : Bk2 w2 (w.heap.size + 1) (.bool b.neg) (.slice b.A b.n b.c) := PB.below hb2 PB.lt
  clear hb2
  rw [hf]
  unfold flt
  clear IR
  have t_PA1 := PA.c1
  have t_PB1 := PB.c1
  go_wp2_with fail
  all_goals go_ret
  all_goals exact ⟨by first | rfl | (simp; done), E⟩
set_option maxHeartbeats 8000000 in
theorem bsm_lb (w : World) (a b : IV) (HA : a.at w w.heap.size) (HB : b.at w w.heap.size) (oa : a.ok = true) (ob : b.ok = true) (hl0 : a.n ≤ 120) (hl : 120 < b.n) :
    Calls Try.prog 10 #[a.v, b.v] w (fun e w' => e = .returned (.bool true) ∧ Below w.heap.size w w') := by
  replace HA : LRd w w.heap.size a.A a.n a.c a.xs := HA
  replace HB : LRd w w.heap.size b.A b.n b.c b.xs := HB
  have hf : ffault [a, b] 0 = (0, 0) := two_ok oa ob
  have hl' : 120 < (b.n : Int) := by omega
  have hl1 : (a.n : Int) ≤ 120 := by omega
  have E : Below w.heap.size w w := Below.refl _ _
  have hfd := field_code
  go_enter Try.func10, Try.ntmps10
  go_wp2_with fail
  obtain ⟨V0, hV0⟩ : ∃ V0 : World, V0 = ((w.alloc (.cells #[.bool a.neg, .slice a.A a.n a.c] 24)).alloc (.cells #[.bool b.neg, .slice b.A b.n b.c] 24)) := ⟨_, rfl⟩
  have bV0 : Below w.heap.size w V0 := by rw [hV0]; (repeat (first | with_reducible exact Below.refl _ _ | with_reducible refine Below.drew ?_ | with_reducible refine below_drewN ?_ _ | with_reducible refine Below.setCell ?_ (by first | (simp; done) | (simp; omega) | omega) _ | with_reducible refine Below.alloc ?_ (by first | (simp; done) | (simp; omega) | omega) _))
  have zV0 : w.heap.size + 2 ≤ V0.heap.size := by rw [hV0]; simp
  have PA : Bk2 V0 (w.heap.size) (.bool a.neg) (.slice a.A a.n a.c) := by rw [hV0]; exact ((Bk2.newAt _ _ (by simp) _ _ _).alloc _)
  have PB : Bk2 V0 (w.heap.size + 1) (.bool b.neg) (.slice b.A b.n b.c) := by rw [hV0]; exact (Bk2.newAt _ _ (by simp) _ _ _)
  rw [← hV0]
  clear hV0
  replace E : Below w.heap.size w V0 := E.trans (bV0.mono E.size)
  replace HA : LRd V0 (w.heap.size) a.A a.n a.c a.xs := HA.below bV0 (by omega)
  replace HB : LRd V0 (w.heap.size) b.A b.n b.c b.xs := HB.below bV0 (by omega)
  clear bV0
  (with_reducible refine (counts_any _).mono ?_)
  rintro e w1 ⟨rfl, hb1⟩
  have sw1 := hb1.size
  replace E : Below w.heap.size w w1 := E.trans (hb1.mono E.size)
  replace HA : LRd w1 (w.heap.size) a.A a.n a.c a.xs := HA.below hb1 (by omega)
  replace HB : LRd w1 (w.heap.size) b.A b.n b.c b.xs := HB.below hb1 (by omega)
  replace PA : Bk2 w1 (w.heap.size) (.bool a.neg) (.slice a.A a.n a.c) := PA.below hb1 PA.lt
  replace PB : Bk2 w1 (w.heap.size + 1) (.bool b.neg) (.slice b.A b.n b.c) := PB.below hb1 PB.lt
  clear hb1
  have IR := Lib.hid (irow2 w1 w.heap.size a b HA HB (by omega))
  have p_PA0 : w1.cell? ⟨w.heap.size, 0, none⟩ = some ((.bool a.neg)) := PA.c0
  have p_PA1 : w1.cell? ⟨w.heap.size, 1, none⟩ = some ((.slice a.A a.n a.c)) := PA.c1
  have p_PB0 : w1.cell? ⟨w.heap.size + 1, 0, none⟩ = some ((.bool b.neg)) := PB.c0
  have p_PB1 : w1.cell? ⟨w.heap.size + 1, 1, none⟩ = some ((.slice b.A b.n b.c)) := PB.c1
  go_wp2_with fail
  clear p_PA0 p_PA1 p_PB0 p_PB1
  obtain ⟨V1, hV1⟩ : ∃ V1 : World, V1 = (w1.alloc (.cells #[.bool a.neg, .slice a.A a.n a.c, .bool b.neg, .slice b.A b.n b.c] 24)) := ⟨_, rfl⟩
  have bV1 : Below w1.heap.size w1 V1 := by rw [hV1]; (repeat (first | with_reducible exact Below.refl _ _ | with_reducible refine Below.drew ?_ | with_reducible refine below_drewN ?_ _ | with_reducible refine Below.setCell ?_ (by first | (simp; done) | (simp; omega) | omega) _ | with_reducible refine Below.alloc ?_ (by first | (simp; done) | (simp; omega) | omega) _))
  have zV1 : w1.heap.size + 1 ≤ V1.heap.size := by rw [hV1]; simp
  replace IR : Hid (IRow V1 w.heap.size w1.heap.size [a, b]) := by rw [hV1]; exact IR
  rw [← hV1]
  clear hV1
  replace E : Below w.heap.size w V1 := E.trans (bV1.mono E.size)
  replace HA : LRd V1 (w.heap.size) a.A a.n a.c a.xs := HA.below bV1 (by omega)
  replace HB : LRd V1 (w.heap.size) b.A b.n b.c b.xs := HB.below bV1 (by omega)
  replace PA : Bk2 V1 (w.heap.size) (.bool a.neg) (.slice a.A a.n a.c) := PA.below bV1 PA.lt
  replace PB : Bk2 V1 (w.heap.size + 1) (.bool b.neg) (.slice b.A b.n b.c) := PB.below bV1 PB.lt
  clear bV1
  (with_reducible refine (faults_any _ w.heap.size w1.heap.size 2 [a, b] IR.out rfl (by omega) (by omega)).mono ?_)
  rintro e w2 ⟨rfl, hb2⟩
  have sw2 := hb2.size
  replace E : Below w.heap.size w w2 := E.trans (hb2.mono E.size)
  replace HA : LRd w2 (w.heap.size) a.A a.n a.c a.xs := HA.below hb2 (by omega)
  replace HB : LRd w2 (w.heap.size) b.A b.n b.c b.xs := HB.below hb2 (by omega)
  replace PA : Bk2 w2 (w.heap.size) (.bool a.neg) (.slice a.A a.n a.c) := PA.below hb2 PA.lt
  replace PB : Bk2 w2 (w.heap.size + 1) (.bool b.neg) (.slice b.A b.n b.c) := PB.below hb2 PB.lt
  clear hb2
  rw [hf]
  unfold flt
  clear IR
  have t_PA1 := PA.c1
  have t_PB1 := PB.c1
  go_wp2_with fail
  all_goals go_ret
  all_goals exact ⟨by first | rfl | (simp; done), E⟩
theorem zr_fit {N : Nat} {z : Int} (h : ZR N z) (hN : N ≤ 3900) : z.natAbs < Top128 := by
  have := h.abs; have := t128_lt hN; omega
theorem zr_fit2 {N : Nat} {z : Int} (h : ZR N z) (hN : N ≤ 3900) : (2 * z).natAbs < Top128 := by
  have := h.abs; have := t128_lt hN; omega
set_option maxHeartbeats 8000000 in
theorem bsm_ok (w : World) (a b : IV) (HA : a.at w w.heap.size) (HB : b.at w w.heap.size) (oa : a.ok = true) (ob : b.ok = true) (hla : a.n ≤ 120) (hlb : b.n ≤ 120) :
    Calls Try.prog 10 #[a.v, b.v] w (fun e w' => e = .returned (.bool true) ∧ Below w.heap.size w w') := by
  replace HA : LRd w w.heap.size a.A a.n a.c a.xs := HA
  replace HB : LRd w w.heap.size b.A b.n b.c b.xs := HB
  have hf : ffault [a, b] 0 = (0, 0) := two_ok oa ob
  have hla' : (a.n : Int) ≤ 120 := by omega
  have hlb' : (b.n : Int) ≤ 120 := by omega
  obtain ⟨N, HN, hN⟩ : ∃ N, N ≤ 3900 ∧ N = 32 * 120 := ⟨_, by decide, rfl⟩
  have QA := Lib.hid (show ZR N a.val from zr_val oa HA.lim (by have := HA.len.out; omega))
  have QB := Lib.hid (show ZR N b.val from zr_val ob HB.lim (by have := HB.len.out; omega))
  have SUM := Lib.hid (show ∀ x y, ZOp (fun p q => p != q) a.val b.val x → ZOp (fun p q => p && q) a.val b.val y → x + 2 * y = a.val + b.val from fun x y hx hy => (zsum _ _ _ _ _ (Nat.le_refl _) hx hy).symm)
  have FS := Lib.hid (show (a.val + b.val).natAbs < Top128 by have := QA.out.abs; have := QB.out.abs; have := t128_lt HN; omega)
  clear hN
  have E : Below w.heap.size w w := Below.refl _ _
  have hfd := field_code
  go_enter Try.func10, Try.ntmps10
  go_wp2_with fail
  obtain ⟨V0, hV0⟩ : ∃ V0 : World, V0 = ((w.alloc (.cells #[.bool a.neg, .slice a.A a.n a.c] 24)).alloc (.cells #[.bool b.neg, .slice b.A b.n b.c] 24)) := ⟨_, rfl⟩
  have bV0 : Below w.heap.size w V0 := by rw [hV0]; (repeat (first | with_reducible exact Below.refl _ _ | with_reducible refine Below.drew ?_ | with_reducible refine below_drewN ?_ _ | with_reducible refine Below.setCell ?_ (by first | (simp; done) | (simp; omega) | omega) _ | with_reducible refine Below.alloc ?_ (by first | (simp; done) | (simp; omega) | omega) _))
  have zV0 : w.heap.size + 2 ≤ V0.heap.size := by rw [hV0]; simp
  have PA : Bk2 V0 (w.heap.size) (.bool a.neg) (.slice a.A a.n a.c) := by rw [hV0]; exact ((Bk2.newAt _ _ (by simp) _ _ _).alloc _)
  have PB : Bk2 V0 (w.heap.size + 1) (.bool b.neg) (.slice b.A b.n b.c) := by rw [hV0]; exact (Bk2.newAt _ _ (by simp) _ _ _)
  rw [← hV0]
  clear hV0
  replace E : Below w.heap.size w V0 := E.trans (bV0.mono E.size)
  replace HA : LRd V0 (w.heap.size) a.A a.n a.c a.xs := HA.below bV0 (by omega)
  replace HB : LRd V0 (w.heap.size) b.A b.n b.c b.xs := HB.below bV0 (by omega)
  clear bV0
  (with_reducible refine (counts_any _).mono ?_)
  rintro e w1 ⟨rfl, hb1⟩
  have sw1 := hb1.size
  replace E : Below w.heap.size w w1 := E.trans (hb1.mono E.size)
  replace HA : LRd w1 (w.heap.size) a.A a.n a.c a.xs := HA.below hb1 (by omega)
  replace HB : LRd w1 (w.heap.size) b.A b.n b.c b.xs := HB.below hb1 (by omega)
  replace PA : Bk2 w1 (w.heap.size) (.bool a.neg) (.slice a.A a.n a.c) := PA.below hb1 PA.lt
  replace PB : Bk2 w1 (w.heap.size + 1) (.bool b.neg) (.slice b.A b.n b.c) := PB.below hb1 PB.lt
  clear hb1
  have IR := Lib.hid (irow2 w1 w.heap.size a b HA HB (by omega))
  have p_PA0 : w1.cell? ⟨w.heap.size, 0, none⟩ = some ((.bool a.neg)) := PA.c0
  have p_PA1 : w1.cell? ⟨w.heap.size, 1, none⟩ = some ((.slice a.A a.n a.c)) := PA.c1
  have p_PB0 : w1.cell? ⟨w.heap.size + 1, 0, none⟩ = some ((.bool b.neg)) := PB.c0
  have p_PB1 : w1.cell? ⟨w.heap.size + 1, 1, none⟩ = some ((.slice b.A b.n b.c)) := PB.c1
  go_wp2_with fail
  clear p_PA0 p_PA1 p_PB0 p_PB1
  obtain ⟨V1, hV1⟩ : ∃ V1 : World, V1 = (w1.alloc (.cells #[.bool a.neg, .slice a.A a.n a.c, .bool b.neg, .slice b.A b.n b.c] 24)) := ⟨_, rfl⟩
  have bV1 : Below w1.heap.size w1 V1 := by rw [hV1]; (repeat (first | with_reducible exact Below.refl _ _ | with_reducible refine Below.drew ?_ | with_reducible refine below_drewN ?_ _ | with_reducible refine Below.setCell ?_ (by first | (simp; done) | (simp; omega) | omega) _ | with_reducible refine Below.alloc ?_ (by first | (simp; done) | (simp; omega) | omega) _))
  have zV1 : w1.heap.size + 1 ≤ V1.heap.size := by rw [hV1]; simp
  replace IR : Hid (IRow V1 w.heap.size w1.heap.size [a, b]) := by rw [hV1]; exact IR
  rw [← hV1]
  clear hV1
  replace E : Below w.heap.size w V1 := E.trans (bV1.mono E.size)
  replace HA : LRd V1 (w.heap.size) a.A a.n a.c a.xs := HA.below bV1 (by omega)
  replace HB : LRd V1 (w.heap.size) b.A b.n b.c b.xs := HB.below bV1 (by omega)
  replace PA : Bk2 V1 (w.heap.size) (.bool a.neg) (.slice a.A a.n a.c) := PA.below bV1 PA.lt
  replace PB : Bk2 V1 (w.heap.size + 1) (.bool b.neg) (.slice b.A b.n b.c) := PB.below bV1 PB.lt
  clear bV1
  (with_reducible refine (faults_any _ w.heap.size w1.heap.size 2 [a, b] IR.out rfl (by omega) (by omega)).mono ?_)
  rintro e w2 ⟨rfl, hb2⟩
  have sw2 := hb2.size
  replace E : Below w.heap.size w w2 := E.trans (hb2.mono E.size)
  replace HA : LRd w2 (w.heap.size) a.A a.n a.c a.xs := HA.below hb2 (by omega)
  replace HB : LRd w2 (w.heap.size) b.A b.n b.c b.xs := HB.below hb2 (by omega)
  replace PA : Bk2 w2 (w.heap.size) (.bool a.neg) (.slice a.A a.n a.c) := PA.below hb2 PA.lt
  replace PB : Bk2 w2 (w.heap.size + 1) (.bool b.neg) (.slice b.A b.n b.c) := PB.below hb2 PB.lt
  clear hb2
  rw [hf]
  unfold flt
  clear IR
  have t_PA0 : w2.cell? ⟨w.heap.size, 0, none⟩ = some ((.bool a.neg)) := PA.c0
  have t_PA1 : w2.cell? ⟨w.heap.size, 1, none⟩ = some ((.slice a.A a.n a.c)) := PA.c1
  have t_PB0 : w2.cell? ⟨w.heap.size + 1, 0, none⟩ = some ((.bool b.neg)) := PB.c0
  have t_PB1 : w2.cell? ⟨w.heap.size + 1, 1, none⟩ = some ((.slice b.A b.n b.c)) := PB.c1
  go_wp2_with fail
  clear t_PA0 t_PA1 t_PB0 t_PB1
  refine (ixor_ok _ w2.heap.size a b (HA.more (by omega)) (HB.more (by omega)) (Nat.le_refl _) oa ob).mono ?_
  rintro e w5 ⟨z5, hz5, hv⟩
  have Z5 := Lib.hid hz5
  clear hz5
  have Q5 := Lib.hid (ZR.op Z5.out QA.out QB.out)
  obtain ⟨m5, A5, k5, c5, x5, rfl, hl5, hr5, hb5⟩ := vl_fit hv (zr_fit Q5.out HN)
  clear hv
  have R5 := Lib.hid hr5
  have F9_5 := Lib.hid (zr_fit Q5.out HN)
  have sw5 := hb5.size
  clear hr5
  replace E : Below w.heap.size w w5 := E.trans (hb5.mono E.size)
  replace HA : LRd w5 (w.heap.size) a.A a.n a.c a.xs := HA.below hb5 (by omega)
  replace HB : LRd w5 (w.heap.size) b.A b.n b.c b.xs := HB.below hb5 (by omega)
  replace PA : Bk2 w5 (w.heap.size) (.bool a.neg) (.slice a.A a.n a.c) := PA.below hb5 PA.lt
  replace PB : Bk2 w5 (w.heap.size + 1) (.bool b.neg) (.slice b.A b.n b.c) := PB.below hb5 PB.lt
  clear hb5
  have t_PA0 : ((w5.alloc (.cells #[.bool m5, .slice A5 k5 c5] 24)).alloc (.cells #[.int .i64 0, .int .i64 0] 26)).cell? ⟨w.heap.size, 0, none⟩ = some ((.bool a.neg)) := ((PA.alloc _).alloc _).c0
  have t_PA1 : ((w5.alloc (.cells #[.bool m5, .slice A5 k5 c5] 24)).alloc (.cells #[.int .i64 0, .int .i64 0] 26)).cell? ⟨w.heap.size, 1, none⟩ = some ((.slice a.A a.n a.c)) := ((PA.alloc _).alloc _).c1
  have t_PB0 : ((w5.alloc (.cells #[.bool m5, .slice A5 k5 c5] 24)).alloc (.cells #[.int .i64 0, .int .i64 0] 26)).cell? ⟨w.heap.size + 1, 0, none⟩ = some ((.bool b.neg)) := ((PB.alloc _).alloc _).c0
  have t_PB1 : ((w5.alloc (.cells #[.bool m5, .slice A5 k5 c5] 24)).alloc (.cells #[.int .i64 0, .int .i64 0] 26)).cell? ⟨w.heap.size + 1, 1, none⟩ = some ((.slice b.A b.n b.c)) := ((PB.alloc _).alloc _).c1
  go_wp2_with fail
  clear t_PA0 t_PA1 t_PB0 t_PB1
  obtain ⟨V3, hV3⟩ : ∃ V3 : World, V3 = ((w5.alloc (.cells #[.bool m5, .slice A5 k5 c5] 24)).alloc (.cells #[.int .i64 0, .int .i64 0] 26)) := ⟨_, rfl⟩
  have bV3 : Below w5.heap.size w5 V3 := by rw [hV3]; (repeat (first | with_reducible exact Below.refl _ _ | with_reducible refine Below.drew ?_ | with_reducible refine below_drewN ?_ _ | with_reducible refine Below.setCell ?_ (by first | (simp; done) | (simp; omega) | omega) _ | with_reducible refine Below.alloc ?_ (by first | (simp; done) | (simp; omega) | omega) _))
  have zV3 : w5.heap.size + 2 ≤ V3.heap.size := by rw [hV3]; simp
  have P5 : Bk2 V3 (w5.heap.size) (.bool m5) (.slice A5 k5 c5) := by rw [hV3]; exact ((Bk2.newAt _ _ (by simp) _ _ _).alloc _)
  have F6 : Bk2 V3 (w5.heap.size + 1) (.int .i64 0) (.int .i64 0) := by rw [hV3]; exact (Bk2.newAt _ _ (by simp) _ _ _)
  rw [← hV3]
  clear hV3
  replace E : Below w.heap.size w V3 := E.trans (bV3.mono E.size)
  replace HA : LRd V3 (w.heap.size) a.A a.n a.c a.xs := HA.below bV3 (by omega)
  replace HB : LRd V3 (w.heap.size) b.A b.n b.c b.xs := HB.below bV3 (by omega)
  replace PA : Bk2 V3 (w.heap.size) (.bool a.neg) (.slice a.A a.n a.c) := PA.below bV3 PA.lt
  replace PB : Bk2 V3 (w.heap.size + 1) (.bool b.neg) (.slice b.A b.n b.c) := PB.below bV3 PB.lt
  replace hl5 : LRd V3 (w5.heap.size) A5 k5 c5 x5 := hl5.below bV3 (by omega)
  clear bV3
  refine (iand_ok _ V3.heap.size a b (HA.more (by omega)) (HB.more (by omega)) (Nat.le_refl _) oa ob).mono ?_
  rintro e w7 ⟨z7, hz7, hv⟩
  have Z7 := Lib.hid hz7
  clear hz7
  have Q7 := Lib.hid (ZR.op Z7.out QA.out QB.out)
  obtain ⟨m7, A7, k7, c7, x7, rfl, hl7, hr7, hb7⟩ := vl_fit hv (zr_fit Q7.out HN)
  clear hv
  have R7 := Lib.hid hr7
  have F9_7 := Lib.hid (zr_fit Q7.out HN)
  have sw7 := hb7.size
  clear hr7
  replace E : Below w.heap.size w w7 := E.trans (hb7.mono E.size)
  replace HA : LRd w7 (w.heap.size) a.A a.n a.c a.xs := HA.below hb7 (by omega)
  replace HB : LRd w7 (w.heap.size) b.A b.n b.c b.xs := HB.below hb7 (by omega)
  replace PA : Bk2 w7 (w.heap.size) (.bool a.neg) (.slice a.A a.n a.c) := PA.below hb7 PA.lt
  replace PB : Bk2 w7 (w.heap.size + 1) (.bool b.neg) (.slice b.A b.n b.c) := PB.below hb7 PB.lt
  replace hl5 : LRd w7 (w5.heap.size) A5 k5 c5 x5 := hl5.below hb7 (by omega)
  replace P5 : Bk2 w7 (w5.heap.size) (.bool m5) (.slice A5 k5 c5) := P5.below hb7 P5.lt
  replace F6 : Bk2 w7 (w5.heap.size + 1) (.int .i64 0) (.int .i64 0) := F6.below hb7 F6.lt
  clear hb7
  go_wp2_with fail
  obtain ⟨V4, hV4⟩ : ∃ V4 : World, V4 = ((w7.alloc (.cells #[.bool m7, .slice A7 k7 c7] 24)).alloc (.cells #[.int .i64 0, .int .i64 0] 26)) := ⟨_, rfl⟩
  have bV4 : Below w7.heap.size w7 V4 := by rw [hV4]; (repeat (first | with_reducible exact Below.refl _ _ | with_reducible refine Below.drew ?_ | with_reducible refine below_drewN ?_ _ | with_reducible refine Below.setCell ?_ (by first | (simp; done) | (simp; omega) | omega) _ | with_reducible refine Below.alloc ?_ (by first | (simp; done) | (simp; omega) | omega) _))
  have zV4 : w7.heap.size + 2 ≤ V4.heap.size := by rw [hV4]; simp
  have P7 : Bk2 V4 (w7.heap.size) (.bool m7) (.slice A7 k7 c7) := by rw [hV4]; exact ((Bk2.newAt _ _ (by simp) _ _ _).alloc _)
  have F8 : Bk2 V4 (w7.heap.size + 1) (.int .i64 0) (.int .i64 0) := by rw [hV4]; exact (Bk2.newAt _ _ (by simp) _ _ _)
  rw [← hV4]
  clear hV4
  replace E : Below w.heap.size w V4 := E.trans (bV4.mono E.size)
  replace HA : LRd V4 (w.heap.size) a.A a.n a.c a.xs := HA.below bV4 (by omega)
  replace HB : LRd V4 (w.heap.size) b.A b.n b.c b.xs := HB.below bV4 (by omega)
  replace PA : Bk2 V4 (w.heap.size) (.bool a.neg) (.slice a.A a.n a.c) := PA.below bV4 PA.lt
  replace PB : Bk2 V4 (w.heap.size + 1) (.bool b.neg) (.slice b.A b.n b.c) := PB.below bV4 PB.lt
  replace hl5 : LRd V4 (w5.heap.size) A5 k5 c5 x5 := hl5.below bV4 (by omega)
  replace P5 : Bk2 V4 (w5.heap.size) (.bool m5) (.slice A5 k5 c5) := P5.below bV4 P5.lt
  replace F6 : Bk2 V4 (w5.heap.size + 1) (.int .i64 0) (.int .i64 0) := F6.below bV4 F6.lt
  replace hl7 : LRd V4 (w7.heap.size) A7 k7 c7 x7 := hl7.below bV4 (by omega)
  clear bV4
  refine (ishift_ok _ V4.heap.size (IV.mk m7 A7 k7 c7 x7) 1 (by decide) (by decide) (hl7.more (by omega)) (Nat.le_refl _) (mkok R7.out F9_7.out)).mono ?_
  rintro e w8 hv
  rw [IRep.ival R7.out, shift_one] at hv
  have Q8 := Lib.hid (show (2 * z7).natAbs < Top128 from zr_fit2 Q7.out HN)
  clear hl7
  obtain ⟨m8, A8, k8, c8, x8, rfl, hl8, hr8, hb8⟩ := vl_fit hv (Q8.out)
  clear hv
  have R8 := Lib.hid hr8
  have F9_8 := Lib.hid (Q8.out)
  have sw8 := hb8.size
  clear hr8
  replace E : Below w.heap.size w w8 := E.trans (hb8.mono E.size)
  replace HA : LRd w8 (w.heap.size) a.A a.n a.c a.xs := HA.below hb8 (by omega)
  replace HB : LRd w8 (w.heap.size) b.A b.n b.c b.xs := HB.below hb8 (by omega)
  replace PA : Bk2 w8 (w.heap.size) (.bool a.neg) (.slice a.A a.n a.c) := PA.below hb8 PA.lt
  replace PB : Bk2 w8 (w.heap.size + 1) (.bool b.neg) (.slice b.A b.n b.c) := PB.below hb8 PB.lt
  replace hl5 : LRd w8 (w5.heap.size) A5 k5 c5 x5 := hl5.below hb8 (by omega)
  replace P5 : Bk2 w8 (w5.heap.size) (.bool m5) (.slice A5 k5 c5) := P5.below hb8 P5.lt
  replace F6 : Bk2 w8 (w5.heap.size + 1) (.int .i64 0) (.int .i64 0) := F6.below hb8 F6.lt
  replace P7 : Bk2 w8 (w7.heap.size) (.bool m7) (.slice A7 k7 c7) := P7.below hb8 P7.lt
  replace F8 : Bk2 w8 (w7.heap.size + 1) (.int .i64 0) (.int .i64 0) := F8.below hb8 F8.lt
  clear hb8
  have y_P70 : w8.cell? ⟨w7.heap.size, 0, none⟩ = some ((.bool m7)) := P7.c0
  have z_P70 : w8.frozen? ⟨w7.heap.size, 0, none⟩ = false := P7.z0
  have y_P71 : w8.cell? ⟨w7.heap.size, 1, none⟩ = some ((.slice A7 k7 c7)) := P7.c1
  have z_P71 : w8.frozen? ⟨w7.heap.size, 1, none⟩ = false := P7.z1
  have lt_P7 := P7.lt
  have t_P50 : w8.cell? ⟨w5.heap.size, 0, none⟩ = some ((.bool m5)) := P5.c0
  have t_P51 : w8.cell? ⟨w5.heap.size, 1, none⟩ = some ((.slice A5 k5 c5)) := P5.c1
  have lt_P5 := P5.lt
  go_wp2_with fail
  clear y_P70 z_P70 y_P71 z_P71 lt_P7 t_P50 t_P51 lt_P5
  obtain ⟨U5P7, hU5P7⟩ : ∃ U5P7 : World, U5P7 = ((w8.setCell ⟨w7.heap.size, 0, none⟩ (.bool m8)).setCell ⟨w7.heap.size, 1, none⟩ (.slice A8 k8 c8)) := ⟨_, rfl⟩
  have zU5P7 : U5P7.heap.size = w8.heap.size := by rw [hU5P7]; simp [World.setCell]
  replace E : Below w.heap.size w U5P7 := by rw [hU5P7]; exact (E.setCell (by first | (simp; done) | (simp; omega)) _).setCell (by first | (simp; done) | (simp; omega)) _
  replace HA : LRd U5P7 (w.heap.size) a.A a.n a.c a.xs := by rw [hU5P7]; first | exact HA.setB P7 (by simp) (by simp) _ _ | exact HA.setFar2 (by omega) _ _
  replace HB : LRd U5P7 (w.heap.size) b.A b.n b.c b.xs := by rw [hU5P7]; first | exact HB.setB P7 (by simp) (by simp) _ _ | exact HB.setFar2 (by omega) _ _
  replace PA : Bk2 U5P7 (w.heap.size) (.bool a.neg) (.slice a.A a.n a.c) := by rw [hU5P7]; exact PA.far2 (by omega) _ _
  replace PB : Bk2 U5P7 (w.heap.size + 1) (.bool b.neg) (.slice b.A b.n b.c) := by rw [hU5P7]; exact PB.far2 (by omega) _ _
  replace hl5 : LRd U5P7 (w5.heap.size) A5 k5 c5 x5 := by rw [hU5P7]; first | exact hl5.setB P7 (by simp) (by simp) _ _ | exact hl5.setFar2 (by omega) _ _
  replace P5 : Bk2 U5P7 (w5.heap.size) (.bool m5) (.slice A5 k5 c5) := by rw [hU5P7]; exact P5.far2 (by omega) _ _
  replace F6 : Bk2 U5P7 (w5.heap.size + 1) (.int .i64 0) (.int .i64 0) := by rw [hU5P7]; exact F6.far2 (by omega) _ _
  replace F8 : Bk2 U5P7 (w7.heap.size + 1) (.int .i64 0) (.int .i64 0) := by rw [hU5P7]; exact F8.far2 (by omega) _ _
  replace hl8 : LRd U5P7 (w8.heap.size) A8 k8 c8 x8 := by rw [hU5P7]; first | exact hl8.setB P7 (by simp) (by simp) _ _ | exact hl8.setFar2 (by omega) _ _
  replace P7 : Bk2 U5P7 (w7.heap.size) (.bool m8) (.slice A8 k8 c8) := by rw [hU5P7]; exact P7.set _ _
  rw [← hU5P7]
  clear hU5P7
  have zU5P7' := Nat.le_of_eq zU5P7
  replace zU5P7 := Nat.le_of_eq zU5P7.symm
  obtain ⟨V5, hV5⟩ : ∃ V5 : World, V5 = (U5P7.alloc (.cells #[.int .i64 0, .int .i64 0] 26)) := ⟨_, rfl⟩
  have bV5 : Below U5P7.heap.size U5P7 V5 := by rw [hV5]; (repeat (first | with_reducible exact Below.refl _ _ | with_reducible refine Below.drew ?_ | with_reducible refine below_drewN ?_ _ | with_reducible refine Below.setCell ?_ (by first | (simp; done) | (simp; omega) | omega) _ | with_reducible refine Below.alloc ?_ (by first | (simp; done) | (simp; omega) | omega) _))
  have zV5 : U5P7.heap.size + 1 ≤ V5.heap.size := by rw [hV5]; simp
  have F9 : Bk2 V5 (w8.heap.size) (.int .i64 0) (.int .i64 0) := by rw [hV5]; exact (Bk2.newAt _ _ (by first | omega | (simp; done) | (simp; omega)) _ _ _)
  rw [← hV5]
  clear hV5
  replace E : Below w.heap.size w V5 := E.trans (bV5.mono E.size)
  replace HA : LRd V5 (w.heap.size) a.A a.n a.c a.xs := HA.below bV5 (by omega)
  replace HB : LRd V5 (w.heap.size) b.A b.n b.c b.xs := HB.below bV5 (by omega)
  replace PA : Bk2 V5 (w.heap.size) (.bool a.neg) (.slice a.A a.n a.c) := PA.below bV5 PA.lt
  replace PB : Bk2 V5 (w.heap.size + 1) (.bool b.neg) (.slice b.A b.n b.c) := PB.below bV5 PB.lt
  replace hl5 : LRd V5 (w5.heap.size) A5 k5 c5 x5 := hl5.below bV5 (by omega)
  replace P5 : Bk2 V5 (w5.heap.size) (.bool m5) (.slice A5 k5 c5) := P5.below bV5 P5.lt
  replace F6 : Bk2 V5 (w5.heap.size + 1) (.int .i64 0) (.int .i64 0) := F6.below bV5 F6.lt
  replace P7 : Bk2 V5 (w7.heap.size) (.bool m8) (.slice A8 k8 c8) := P7.below bV5 P7.lt
  replace F8 : Bk2 V5 (w7.heap.size + 1) (.int .i64 0) (.int .i64 0) := F8.below bV5 F8.lt
  replace hl8 : LRd V5 (w8.heap.size) A8 k8 c8 x8 := hl8.below bV5 (by omega)
  clear bV5
  refine (iadd_ok _ V5.heap.size (IV.mk m5 A5 k5 c5 x5) (IV.mk m8 A8 k8 c8 x8) (hl5.more (by omega)) (hl8.more (by omega)) (Nat.le_refl _) (mkok R5.out F9_5.out) (mkok R8.out F9_8.out)).mono ?_
  rintro e w10 hv
  rw [IRep.ival R5.out, IRep.ival R8.out, SUM.out z5 z7 Z5.out Z7.out] at hv
  clear hl5 hl8
  obtain ⟨m10, A10, k10, c10, x10, rfl, hl10, hr10, hb10⟩ := vl_fit hv (FS.out)
  clear hv
  have R10 := Lib.hid hr10
  have F9_10 := Lib.hid (FS.out)
  have sw10 := hb10.size
  clear hr10
  replace E : Below w.heap.size w w10 := E.trans (hb10.mono E.size)
  replace HA : LRd w10 (w.heap.size) a.A a.n a.c a.xs := HA.below hb10 (by omega)
  replace HB : LRd w10 (w.heap.size) b.A b.n b.c b.xs := HB.below hb10 (by omega)
  replace PA : Bk2 w10 (w.heap.size) (.bool a.neg) (.slice a.A a.n a.c) := PA.below hb10 PA.lt
  replace PB : Bk2 w10 (w.heap.size + 1) (.bool b.neg) (.slice b.A b.n b.c) := PB.below hb10 PB.lt
  replace P5 : Bk2 w10 (w5.heap.size) (.bool m5) (.slice A5 k5 c5) := P5.below hb10 P5.lt
  replace F6 : Bk2 w10 (w5.heap.size + 1) (.int .i64 0) (.int .i64 0) := F6.below hb10 F6.lt
  replace P7 : Bk2 w10 (w7.heap.size) (.bool m8) (.slice A8 k8 c8) := P7.below hb10 P7.lt
  replace F8 : Bk2 w10 (w7.heap.size + 1) (.int .i64 0) (.int .i64 0) := F8.below hb10 F8.lt
  replace F9 : Bk2 w10 (w8.heap.size) (.int .i64 0) (.int .i64 0) := F9.below hb10 F9.lt
  clear hb10
  have t_PA0 : ((w10.alloc (.cells #[.bool m10, .slice A10 k10 c10] 24)).alloc (.cells #[.int .i64 0, .int .i64 0] 26)).cell? ⟨w.heap.size, 0, none⟩ = some ((.bool a.neg)) := ((PA.alloc _).alloc _).c0
  have t_PA1 : ((w10.alloc (.cells #[.bool m10, .slice A10 k10 c10] 24)).alloc (.cells #[.int .i64 0, .int .i64 0] 26)).cell? ⟨w.heap.size, 1, none⟩ = some ((.slice a.A a.n a.c)) := ((PA.alloc _).alloc _).c1
  have t_PB0 : ((w10.alloc (.cells #[.bool m10, .slice A10 k10 c10] 24)).alloc (.cells #[.int .i64 0, .int .i64 0] 26)).cell? ⟨w.heap.size + 1, 0, none⟩ = some ((.bool b.neg)) := ((PB.alloc _).alloc _).c0
  have t_PB1 : ((w10.alloc (.cells #[.bool m10, .slice A10 k10 c10] 24)).alloc (.cells #[.int .i64 0, .int .i64 0] 26)).cell? ⟨w.heap.size + 1, 1, none⟩ = some ((.slice b.A b.n b.c)) := ((PB.alloc _).alloc _).c1
  go_wp2_with fail
  clear t_PA0 t_PA1 t_PB0 t_PB1
  obtain ⟨V6, hV6⟩ : ∃ V6 : World, V6 = ((w10.alloc (.cells #[.bool m10, .slice A10 k10 c10] 24)).alloc (.cells #[.int .i64 0, .int .i64 0] 26)) := ⟨_, rfl⟩
  have bV6 : Below w10.heap.size w10 V6 := by rw [hV6]; (repeat (first | with_reducible exact Below.refl _ _ | with_reducible refine Below.drew ?_ | with_reducible refine below_drewN ?_ _ | with_reducible refine Below.setCell ?_ (by first | (simp; done) | (simp; omega) | omega) _ | with_reducible refine Below.alloc ?_ (by first | (simp; done) | (simp; omega) | omega) _))
  have zV6 : w10.heap.size + 2 ≤ V6.heap.size := by rw [hV6]; simp
  have P10 : Bk2 V6 (w10.heap.size) (.bool m10) (.slice A10 k10 c10) := by rw [hV6]; exact ((Bk2.newAt _ _ (by simp) _ _ _).alloc _)
  have F11 : Bk2 V6 (w10.heap.size + 1) (.int .i64 0) (.int .i64 0) := by rw [hV6]; exact (Bk2.newAt _ _ (by simp) _ _ _)
  rw [← hV6]
  clear hV6
  replace E : Below w.heap.size w V6 := E.trans (bV6.mono E.size)
  replace HA : LRd V6 (w.heap.size) a.A a.n a.c a.xs := HA.below bV6 (by omega)
  replace HB : LRd V6 (w.heap.size) b.A b.n b.c b.xs := HB.below bV6 (by omega)
  replace PA : Bk2 V6 (w.heap.size) (.bool a.neg) (.slice a.A a.n a.c) := PA.below bV6 PA.lt
  replace PB : Bk2 V6 (w.heap.size + 1) (.bool b.neg) (.slice b.A b.n b.c) := PB.below bV6 PB.lt
  replace P5 : Bk2 V6 (w5.heap.size) (.bool m5) (.slice A5 k5 c5) := P5.below bV6 P5.lt
  replace F6 : Bk2 V6 (w5.heap.size + 1) (.int .i64 0) (.int .i64 0) := F6.below bV6 F6.lt
  replace P7 : Bk2 V6 (w7.heap.size) (.bool m8) (.slice A8 k8 c8) := P7.below bV6 P7.lt
  replace F8 : Bk2 V6 (w7.heap.size + 1) (.int .i64 0) (.int .i64 0) := F8.below bV6 F8.lt
  replace F9 : Bk2 V6 (w8.heap.size) (.int .i64 0) (.int .i64 0) := F9.below bV6 F9.lt
  replace hl10 : LRd V6 (w10.heap.size) A10 k10 c10 x10 := hl10.below bV6 (by omega)
  clear bV6
  refine (iadd_ok _ V6.heap.size a b (HA.more (by omega)) (HB.more (by omega)) (Nat.le_refl _) oa ob).mono ?_
  rintro e w12 hv
  obtain ⟨m12, A12, k12, c12, x12, rfl, hl12, hr12, hb12⟩ := vl_fit hv (FS.out)
  clear hv
  have R12 := Lib.hid hr12
  have F9_12 := Lib.hid (FS.out)
  have sw12 := hb12.size
  clear hr12
  replace E : Below w.heap.size w w12 := E.trans (hb12.mono E.size)
  replace HA : LRd w12 (w.heap.size) a.A a.n a.c a.xs := HA.below hb12 (by omega)
  replace HB : LRd w12 (w.heap.size) b.A b.n b.c b.xs := HB.below hb12 (by omega)
  replace PA : Bk2 w12 (w.heap.size) (.bool a.neg) (.slice a.A a.n a.c) := PA.below hb12 PA.lt
  replace PB : Bk2 w12 (w.heap.size + 1) (.bool b.neg) (.slice b.A b.n b.c) := PB.below hb12 PB.lt
  replace P5 : Bk2 w12 (w5.heap.size) (.bool m5) (.slice A5 k5 c5) := P5.below hb12 P5.lt
  replace F6 : Bk2 w12 (w5.heap.size + 1) (.int .i64 0) (.int .i64 0) := F6.below hb12 F6.lt
  replace P7 : Bk2 w12 (w7.heap.size) (.bool m8) (.slice A8 k8 c8) := P7.below hb12 P7.lt
  replace F8 : Bk2 w12 (w7.heap.size + 1) (.int .i64 0) (.int .i64 0) := F8.below hb12 F8.lt
  replace F9 : Bk2 w12 (w8.heap.size) (.int .i64 0) (.int .i64 0) := F9.below hb12 F9.lt
  replace hl10 : LRd w12 (w10.heap.size) A10 k10 c10 x10 := hl10.below hb12 (by omega)
  replace P10 : Bk2 w12 (w10.heap.size) (.bool m10) (.slice A10 k10 c10) := P10.below hb12 P10.lt
  replace F11 : Bk2 w12 (w10.heap.size + 1) (.int .i64 0) (.int .i64 0) := F11.below hb12 F11.lt
  clear hb12
  have t_PA0 : ((w12.alloc (.cells #[.bool m12, .slice A12 k12 c12] 24)).alloc (.cells #[.int .i64 0, .int .i64 0] 26)).cell? ⟨w.heap.size, 0, none⟩ = some ((.bool a.neg)) := ((PA.alloc _).alloc _).c0
  have t_PA1 : ((w12.alloc (.cells #[.bool m12, .slice A12 k12 c12] 24)).alloc (.cells #[.int .i64 0, .int .i64 0] 26)).cell? ⟨w.heap.size, 1, none⟩ = some ((.slice a.A a.n a.c)) := ((PA.alloc _).alloc _).c1
  go_wp2_with fail
  clear t_PA0 t_PA1
  obtain ⟨V7, hV7⟩ : ∃ V7 : World, V7 = ((w12.alloc (.cells #[.bool m12, .slice A12 k12 c12] 24)).alloc (.cells #[.int .i64 0, .int .i64 0] 26)) := ⟨_, rfl⟩
  have bV7 : Below w12.heap.size w12 V7 := by rw [hV7]; (repeat (first | with_reducible exact Below.refl _ _ | with_reducible refine Below.drew ?_ | with_reducible refine below_drewN ?_ _ | with_reducible refine Below.setCell ?_ (by first | (simp; done) | (simp; omega) | omega) _ | with_reducible refine Below.alloc ?_ (by first | (simp; done) | (simp; omega) | omega) _))
  have zV7 : w12.heap.size + 2 ≤ V7.heap.size := by rw [hV7]; simp
  have P12 : Bk2 V7 (w12.heap.size) (.bool m12) (.slice A12 k12 c12) := by rw [hV7]; exact ((Bk2.newAt _ _ (by simp) _ _ _).alloc _)
  have F13 : Bk2 V7 (w12.heap.size + 1) (.int .i64 0) (.int .i64 0) := by rw [hV7]; exact (Bk2.newAt _ _ (by simp) _ _ _)
  rw [← hV7]
  clear hV7
  replace E : Below w.heap.size w V7 := E.trans (bV7.mono E.size)
  replace HA : LRd V7 (w.heap.size) a.A a.n a.c a.xs := HA.below bV7 (by omega)
  replace HB : LRd V7 (w.heap.size) b.A b.n b.c b.xs := HB.below bV7 (by omega)
  replace PA : Bk2 V7 (w.heap.size) (.bool a.neg) (.slice a.A a.n a.c) := PA.below bV7 PA.lt
  replace PB : Bk2 V7 (w.heap.size + 1) (.bool b.neg) (.slice b.A b.n b.c) := PB.below bV7 PB.lt
  replace P5 : Bk2 V7 (w5.heap.size) (.bool m5) (.slice A5 k5 c5) := P5.below bV7 P5.lt
  replace F6 : Bk2 V7 (w5.heap.size + 1) (.int .i64 0) (.int .i64 0) := F6.below bV7 F6.lt
  replace P7 : Bk2 V7 (w7.heap.size) (.bool m8) (.slice A8 k8 c8) := P7.below bV7 P7.lt
  replace F8 : Bk2 V7 (w7.heap.size + 1) (.int .i64 0) (.int .i64 0) := F8.below bV7 F8.lt
  replace F9 : Bk2 V7 (w8.heap.size) (.int .i64 0) (.int .i64 0) := F9.below bV7 F9.lt
  replace hl10 : LRd V7 (w10.heap.size) A10 k10 c10 x10 := hl10.below bV7 (by omega)
  replace P10 : Bk2 V7 (w10.heap.size) (.bool m10) (.slice A10 k10 c10) := P10.below bV7 P10.lt
  replace F11 : Bk2 V7 (w10.heap.size + 1) (.int .i64 0) (.int .i64 0) := F11.below bV7 F11.lt
  replace hl12 : LRd V7 (w12.heap.size) A12 k12 c12 x12 := hl12.below bV7 (by omega)
  clear bV7
  refine (inot_ok _ V7.heap.size a (HA.more (by omega)) (Nat.le_refl _) oa).mono ?_
  rintro e w14 hv
  have Q14 := Lib.hid (ZR.not QA.out)
  obtain ⟨m14, A14, k14, c14, x14, rfl, hl14, hr14, hb14⟩ := vl_fit hv (zr_fit Q14.out HN)
  clear hv
  have R14 := Lib.hid hr14
  have F9_14 := Lib.hid (zr_fit Q14.out HN)
  have sw14 := hb14.size
  clear hr14
  replace E : Below w.heap.size w w14 := E.trans (hb14.mono E.size)
  replace HA : LRd w14 (w.heap.size) a.A a.n a.c a.xs := HA.below hb14 (by omega)
  replace HB : LRd w14 (w.heap.size) b.A b.n b.c b.xs := HB.below hb14 (by omega)
  replace PA : Bk2 w14 (w.heap.size) (.bool a.neg) (.slice a.A a.n a.c) := PA.below hb14 PA.lt
  replace PB : Bk2 w14 (w.heap.size + 1) (.bool b.neg) (.slice b.A b.n b.c) := PB.below hb14 PB.lt
  replace P5 : Bk2 w14 (w5.heap.size) (.bool m5) (.slice A5 k5 c5) := P5.below hb14 P5.lt
  replace F6 : Bk2 w14 (w5.heap.size + 1) (.int .i64 0) (.int .i64 0) := F6.below hb14 F6.lt
  replace P7 : Bk2 w14 (w7.heap.size) (.bool m8) (.slice A8 k8 c8) := P7.below hb14 P7.lt
  replace F8 : Bk2 w14 (w7.heap.size + 1) (.int .i64 0) (.int .i64 0) := F8.below hb14 F8.lt
  replace F9 : Bk2 w14 (w8.heap.size) (.int .i64 0) (.int .i64 0) := F9.below hb14 F9.lt
  replace hl10 : LRd w14 (w10.heap.size) A10 k10 c10 x10 := hl10.below hb14 (by omega)
  replace P10 : Bk2 w14 (w10.heap.size) (.bool m10) (.slice A10 k10 c10) := P10.below hb14 P10.lt
  replace F11 : Bk2 w14 (w10.heap.size + 1) (.int .i64 0) (.int .i64 0) := F11.below hb14 F11.lt
  replace hl12 : LRd w14 (w12.heap.size) A12 k12 c12 x12 := hl12.below hb14 (by omega)
  replace P12 : Bk2 w14 (w12.heap.size) (.bool m12) (.slice A12 k12 c12) := P12.below hb14 P12.lt
  replace F13 : Bk2 w14 (w12.heap.size + 1) (.int .i64 0) (.int .i64 0) := F13.below hb14 F13.lt
  clear hb14
  have t_PB0 : ((w14.alloc (.cells #[.bool m14, .slice A14 k14 c14] 24)).alloc (.cells #[.int .i64 0, .int .i64 0] 26)).cell? ⟨w.heap.size + 1, 0, none⟩ = some ((.bool b.neg)) := ((PB.alloc _).alloc _).c0
  have t_PB1 : ((w14.alloc (.cells #[.bool m14, .slice A14 k14 c14] 24)).alloc (.cells #[.int .i64 0, .int .i64 0] 26)).cell? ⟨w.heap.size + 1, 1, none⟩ = some ((.slice b.A b.n b.c)) := ((PB.alloc _).alloc _).c1
  go_wp2_with fail
  clear t_PB0 t_PB1
  obtain ⟨V8, hV8⟩ : ∃ V8 : World, V8 = ((w14.alloc (.cells #[.bool m14, .slice A14 k14 c14] 24)).alloc (.cells #[.int .i64 0, .int .i64 0] 26)) := ⟨_, rfl⟩
  have bV8 : Below w14.heap.size w14 V8 := by rw [hV8]; (repeat (first | with_reducible exact Below.refl _ _ | with_reducible refine Below.drew ?_ | with_reducible refine below_drewN ?_ _ | with_reducible refine Below.setCell ?_ (by first | (simp; done) | (simp; omega) | omega) _ | with_reducible refine Below.alloc ?_ (by first | (simp; done) | (simp; omega) | omega) _))
  have zV8 : w14.heap.size + 2 ≤ V8.heap.size := by rw [hV8]; simp
  have P14 : Bk2 V8 (w14.heap.size) (.bool m14) (.slice A14 k14 c14) := by rw [hV8]; exact ((Bk2.newAt _ _ (by simp) _ _ _).alloc _)
  have F15 : Bk2 V8 (w14.heap.size + 1) (.int .i64 0) (.int .i64 0) := by rw [hV8]; exact (Bk2.newAt _ _ (by simp) _ _ _)
  rw [← hV8]
  clear hV8
  replace E : Below w.heap.size w V8 := E.trans (bV8.mono E.size)
  replace HA : LRd V8 (w.heap.size) a.A a.n a.c a.xs := HA.below bV8 (by omega)
  replace HB : LRd V8 (w.heap.size) b.A b.n b.c b.xs := HB.below bV8 (by omega)
  replace PA : Bk2 V8 (w.heap.size) (.bool a.neg) (.slice a.A a.n a.c) := PA.below bV8 PA.lt
  replace PB : Bk2 V8 (w.heap.size + 1) (.bool b.neg) (.slice b.A b.n b.c) := PB.below bV8 PB.lt
  replace P5 : Bk2 V8 (w5.heap.size) (.bool m5) (.slice A5 k5 c5) := P5.below bV8 P5.lt
  replace F6 : Bk2 V8 (w5.heap.size + 1) (.int .i64 0) (.int .i64 0) := F6.below bV8 F6.lt
  replace P7 : Bk2 V8 (w7.heap.size) (.bool m8) (.slice A8 k8 c8) := P7.below bV8 P7.lt
  replace F8 : Bk2 V8 (w7.heap.size + 1) (.int .i64 0) (.int .i64 0) := F8.below bV8 F8.lt
  replace F9 : Bk2 V8 (w8.heap.size) (.int .i64 0) (.int .i64 0) := F9.below bV8 F9.lt
  replace hl10 : LRd V8 (w10.heap.size) A10 k10 c10 x10 := hl10.below bV8 (by omega)
  replace P10 : Bk2 V8 (w10.heap.size) (.bool m10) (.slice A10 k10 c10) := P10.below bV8 P10.lt
  replace F11 : Bk2 V8 (w10.heap.size + 1) (.int .i64 0) (.int .i64 0) := F11.below bV8 F11.lt
  replace hl12 : LRd V8 (w12.heap.size) A12 k12 c12 x12 := hl12.below bV8 (by omega)
  replace P12 : Bk2 V8 (w12.heap.size) (.bool m12) (.slice A12 k12 c12) := P12.below bV8 P12.lt
  replace F13 : Bk2 V8 (w12.heap.size + 1) (.int .i64 0) (.int .i64 0) := F13.below bV8 F13.lt
  replace hl14 : LRd V8 (w14.heap.size) A14 k14 c14 x14 := hl14.below bV8 (by omega)
  clear bV8
  refine (inot_ok _ V8.heap.size b (HB.more (by omega)) (Nat.le_refl _) ob).mono ?_
  rintro e w16 hv
  have Q16 := Lib.hid (ZR.not QB.out)
  obtain ⟨m16, A16, k16, c16, x16, rfl, hl16, hr16, hb16⟩ := vl_fit hv (zr_fit Q16.out HN)
  clear hv
  have R16 := Lib.hid hr16
  have F9_16 := Lib.hid (zr_fit Q16.out HN)
  have sw16 := hb16.size
  clear hr16
  replace E : Below w.heap.size w w16 := E.trans (hb16.mono E.size)
  replace HA : LRd w16 (w.heap.size) a.A a.n a.c a.xs := HA.below hb16 (by omega)
  replace HB : LRd w16 (w.heap.size) b.A b.n b.c b.xs := HB.below hb16 (by omega)
  replace PA : Bk2 w16 (w.heap.size) (.bool a.neg) (.slice a.A a.n a.c) := PA.below hb16 PA.lt
  replace PB : Bk2 w16 (w.heap.size + 1) (.bool b.neg) (.slice b.A b.n b.c) := PB.below hb16 PB.lt
  replace P5 : Bk2 w16 (w5.heap.size) (.bool m5) (.slice A5 k5 c5) := P5.below hb16 P5.lt
  replace F6 : Bk2 w16 (w5.heap.size + 1) (.int .i64 0) (.int .i64 0) := F6.below hb16 F6.lt
  replace P7 : Bk2 w16 (w7.heap.size) (.bool m8) (.slice A8 k8 c8) := P7.below hb16 P7.lt
  replace F8 : Bk2 w16 (w7.heap.size + 1) (.int .i64 0) (.int .i64 0) := F8.below hb16 F8.lt
  replace F9 : Bk2 w16 (w8.heap.size) (.int .i64 0) (.int .i64 0) := F9.below hb16 F9.lt
  replace hl10 : LRd w16 (w10.heap.size) A10 k10 c10 x10 := hl10.below hb16 (by omega)
  replace P10 : Bk2 w16 (w10.heap.size) (.bool m10) (.slice A10 k10 c10) := P10.below hb16 P10.lt
  replace F11 : Bk2 w16 (w10.heap.size + 1) (.int .i64 0) (.int .i64 0) := F11.below hb16 F11.lt
  replace hl12 : LRd w16 (w12.heap.size) A12 k12 c12 x12 := hl12.below hb16 (by omega)
  replace P12 : Bk2 w16 (w12.heap.size) (.bool m12) (.slice A12 k12 c12) := P12.below hb16 P12.lt
  replace F13 : Bk2 w16 (w12.heap.size + 1) (.int .i64 0) (.int .i64 0) := F13.below hb16 F13.lt
  replace hl14 : LRd w16 (w14.heap.size) A14 k14 c14 x14 := hl14.below hb16 (by omega)
  replace P14 : Bk2 w16 (w14.heap.size) (.bool m14) (.slice A14 k14 c14) := P14.below hb16 P14.lt
  replace F15 : Bk2 w16 (w14.heap.size + 1) (.int .i64 0) (.int .i64 0) := F15.below hb16 F15.lt
  clear hb16
  have t_P140 : ((w16.alloc (.cells #[.bool m16, .slice A16 k16 c16] 24)).alloc (.cells #[.int .i64 0, .int .i64 0] 26)).cell? ⟨w14.heap.size, 0, none⟩ = some ((.bool m14)) := ((P14.alloc _).alloc _).c0
  have t_P141 : ((w16.alloc (.cells #[.bool m16, .slice A16 k16 c16] 24)).alloc (.cells #[.int .i64 0, .int .i64 0] 26)).cell? ⟨w14.heap.size, 1, none⟩ = some ((.slice A14 k14 c14)) := ((P14.alloc _).alloc _).c1
  go_wp2_with fail
  clear t_P140 t_P141
  obtain ⟨V9, hV9⟩ : ∃ V9 : World, V9 = ((w16.alloc (.cells #[.bool m16, .slice A16 k16 c16] 24)).alloc (.cells #[.int .i64 0, .int .i64 0] 26)) := ⟨_, rfl⟩
  have bV9 : Below w16.heap.size w16 V9 := by rw [hV9]; (repeat (first | with_reducible exact Below.refl _ _ | with_reducible refine Below.drew ?_ | with_reducible refine below_drewN ?_ _ | with_reducible refine Below.setCell ?_ (by first | (simp; done) | (simp; omega) | omega) _ | with_reducible refine Below.alloc ?_ (by first | (simp; done) | (simp; omega) | omega) _))
  have zV9 : w16.heap.size + 2 ≤ V9.heap.size := by rw [hV9]; simp
  have P16 : Bk2 V9 (w16.heap.size) (.bool m16) (.slice A16 k16 c16) := by rw [hV9]; exact ((Bk2.newAt _ _ (by simp) _ _ _).alloc _)
  have F17 : Bk2 V9 (w16.heap.size + 1) (.int .i64 0) (.int .i64 0) := by rw [hV9]; exact (Bk2.newAt _ _ (by simp) _ _ _)
  rw [← hV9]
  clear hV9
  replace E : Below w.heap.size w V9 := E.trans (bV9.mono E.size)
  replace HA : LRd V9 (w.heap.size) a.A a.n a.c a.xs := HA.below bV9 (by omega)
  replace HB : LRd V9 (w.heap.size) b.A b.n b.c b.xs := HB.below bV9 (by omega)
  replace PA : Bk2 V9 (w.heap.size) (.bool a.neg) (.slice a.A a.n a.c) := PA.below bV9 PA.lt
  replace PB : Bk2 V9 (w.heap.size + 1) (.bool b.neg) (.slice b.A b.n b.c) := PB.below bV9 PB.lt
  replace P5 : Bk2 V9 (w5.heap.size) (.bool m5) (.slice A5 k5 c5) := P5.below bV9 P5.lt
  replace F6 : Bk2 V9 (w5.heap.size + 1) (.int .i64 0) (.int .i64 0) := F6.below bV9 F6.lt
  replace P7 : Bk2 V9 (w7.heap.size) (.bool m8) (.slice A8 k8 c8) := P7.below bV9 P7.lt
  replace F8 : Bk2 V9 (w7.heap.size + 1) (.int .i64 0) (.int .i64 0) := F8.below bV9 F8.lt
  replace F9 : Bk2 V9 (w8.heap.size) (.int .i64 0) (.int .i64 0) := F9.below bV9 F9.lt
  replace hl10 : LRd V9 (w10.heap.size) A10 k10 c10 x10 := hl10.below bV9 (by omega)
  replace P10 : Bk2 V9 (w10.heap.size) (.bool m10) (.slice A10 k10 c10) := P10.below bV9 P10.lt
  replace F11 : Bk2 V9 (w10.heap.size + 1) (.int .i64 0) (.int .i64 0) := F11.below bV9 F11.lt
  replace hl12 : LRd V9 (w12.heap.size) A12 k12 c12 x12 := hl12.below bV9 (by omega)
  replace P12 : Bk2 V9 (w12.heap.size) (.bool m12) (.slice A12 k12 c12) := P12.below bV9 P12.lt
  replace F13 : Bk2 V9 (w12.heap.size + 1) (.int .i64 0) (.int .i64 0) := F13.below bV9 F13.lt
  replace hl14 : LRd V9 (w14.heap.size) A14 k14 c14 x14 := hl14.below bV9 (by omega)
  replace P14 : Bk2 V9 (w14.heap.size) (.bool m14) (.slice A14 k14 c14) := P14.below bV9 P14.lt
  replace F15 : Bk2 V9 (w14.heap.size + 1) (.int .i64 0) (.int .i64 0) := F15.below bV9 F15.lt
  replace hl16 : LRd V9 (w16.heap.size) A16 k16 c16 x16 := hl16.below bV9 (by omega)
  clear bV9
  refine (iand_ok _ V9.heap.size (IV.mk m14 A14 k14 c14 x14) (IV.mk m16 A16 k16 c16 x16) (hl14.more (by omega)) (hl16.more (by omega)) (Nat.le_refl _) (mkok R14.out F9_14.out) (mkok R16.out F9_16.out)).mono ?_
  rintro e w18 ⟨z18, hz18, hv⟩
  rw [IRep.ival R14.out, IRep.ival R16.out] at hz18
  have Z18 := Lib.hid hz18
  clear hz18
  have Q18 := Lib.hid (ZR.op Z18.out Q14.out Q16.out)
  clear hl14 hl16
  obtain ⟨m18, A18, k18, c18, x18, rfl, hl18, hr18, hb18⟩ := vl_fit hv (zr_fit Q18.out HN)
  clear hv
  have R18 := Lib.hid hr18
  have F9_18 := Lib.hid (zr_fit Q18.out HN)
  have sw18 := hb18.size
  clear hr18
  replace E : Below w.heap.size w w18 := E.trans (hb18.mono E.size)
  replace HA : LRd w18 (w.heap.size) a.A a.n a.c a.xs := HA.below hb18 (by omega)
  replace HB : LRd w18 (w.heap.size) b.A b.n b.c b.xs := HB.below hb18 (by omega)
  replace PA : Bk2 w18 (w.heap.size) (.bool a.neg) (.slice a.A a.n a.c) := PA.below hb18 PA.lt
  replace PB : Bk2 w18 (w.heap.size + 1) (.bool b.neg) (.slice b.A b.n b.c) := PB.below hb18 PB.lt
  replace P5 : Bk2 w18 (w5.heap.size) (.bool m5) (.slice A5 k5 c5) := P5.below hb18 P5.lt
  replace F6 : Bk2 w18 (w5.heap.size + 1) (.int .i64 0) (.int .i64 0) := F6.below hb18 F6.lt
  replace P7 : Bk2 w18 (w7.heap.size) (.bool m8) (.slice A8 k8 c8) := P7.below hb18 P7.lt
  replace F8 : Bk2 w18 (w7.heap.size + 1) (.int .i64 0) (.int .i64 0) := F8.below hb18 F8.lt
  replace F9 : Bk2 w18 (w8.heap.size) (.int .i64 0) (.int .i64 0) := F9.below hb18 F9.lt
  replace hl10 : LRd w18 (w10.heap.size) A10 k10 c10 x10 := hl10.below hb18 (by omega)
  replace P10 : Bk2 w18 (w10.heap.size) (.bool m10) (.slice A10 k10 c10) := P10.below hb18 P10.lt
  replace F11 : Bk2 w18 (w10.heap.size + 1) (.int .i64 0) (.int .i64 0) := F11.below hb18 F11.lt
  replace hl12 : LRd w18 (w12.heap.size) A12 k12 c12 x12 := hl12.below hb18 (by omega)
  replace P12 : Bk2 w18 (w12.heap.size) (.bool m12) (.slice A12 k12 c12) := P12.below hb18 P12.lt
  replace F13 : Bk2 w18 (w12.heap.size + 1) (.int .i64 0) (.int .i64 0) := F13.below hb18 F13.lt
  replace P14 : Bk2 w18 (w14.heap.size) (.bool m14) (.slice A14 k14 c14) := P14.below hb18 P14.lt
  replace F15 : Bk2 w18 (w14.heap.size + 1) (.int .i64 0) (.int .i64 0) := F15.below hb18 F15.lt
  replace P16 : Bk2 w18 (w16.heap.size) (.bool m16) (.slice A16 k16 c16) := P16.below hb18 P16.lt
  replace F17 : Bk2 w18 (w16.heap.size + 1) (.int .i64 0) (.int .i64 0) := F17.below hb18 F17.lt
  clear hb18
  have y_P140 : w18.cell? ⟨w14.heap.size, 0, none⟩ = some ((.bool m14)) := P14.c0
  have z_P140 : w18.frozen? ⟨w14.heap.size, 0, none⟩ = false := P14.z0
  have y_P141 : w18.cell? ⟨w14.heap.size, 1, none⟩ = some ((.slice A14 k14 c14)) := P14.c1
  have z_P141 : w18.frozen? ⟨w14.heap.size, 1, none⟩ = false := P14.z1
  have lt_P14 := P14.lt
  go_wp2_with fail
  clear y_P140 z_P140 y_P141 z_P141 lt_P14
  obtain ⟨U10P14, hU10P14⟩ : ∃ U10P14 : World, U10P14 = ((w18.setCell ⟨w14.heap.size, 0, none⟩ (.bool m18)).setCell ⟨w14.heap.size, 1, none⟩ (.slice A18 k18 c18)) := ⟨_, rfl⟩
  have zU10P14 : U10P14.heap.size = w18.heap.size := by rw [hU10P14]; simp [World.setCell]
  replace E : Below w.heap.size w U10P14 := by rw [hU10P14]; exact (E.setCell (by first | (simp; done) | (simp; omega)) _).setCell (by first | (simp; done) | (simp; omega)) _
  replace HA : LRd U10P14 (w.heap.size) a.A a.n a.c a.xs := by rw [hU10P14]; first | exact HA.setB P14 (by simp) (by simp) _ _ | exact HA.setFar2 (by omega) _ _
  replace HB : LRd U10P14 (w.heap.size) b.A b.n b.c b.xs := by rw [hU10P14]; first | exact HB.setB P14 (by simp) (by simp) _ _ | exact HB.setFar2 (by omega) _ _
  replace PA : Bk2 U10P14 (w.heap.size) (.bool a.neg) (.slice a.A a.n a.c) := by rw [hU10P14]; exact PA.far2 (by omega) _ _
  replace PB : Bk2 U10P14 (w.heap.size + 1) (.bool b.neg) (.slice b.A b.n b.c) := by rw [hU10P14]; exact PB.far2 (by omega) _ _
  replace P5 : Bk2 U10P14 (w5.heap.size) (.bool m5) (.slice A5 k5 c5) := by rw [hU10P14]; exact P5.far2 (by omega) _ _
  replace F6 : Bk2 U10P14 (w5.heap.size + 1) (.int .i64 0) (.int .i64 0) := by rw [hU10P14]; exact F6.far2 (by omega) _ _
  replace P7 : Bk2 U10P14 (w7.heap.size) (.bool m8) (.slice A8 k8 c8) := by rw [hU10P14]; exact P7.far2 (by omega) _ _
  replace F8 : Bk2 U10P14 (w7.heap.size + 1) (.int .i64 0) (.int .i64 0) := by rw [hU10P14]; exact F8.far2 (by omega) _ _
  replace F9 : Bk2 U10P14 (w8.heap.size) (.int .i64 0) (.int .i64 0) := by rw [hU10P14]; exact F9.far2 (by omega) _ _
  replace hl10 : LRd U10P14 (w10.heap.size) A10 k10 c10 x10 := by rw [hU10P14]; first | exact hl10.setB P14 (by simp) (by simp) _ _ | exact hl10.setFar2 (by omega) _ _
  replace P10 : Bk2 U10P14 (w10.heap.size) (.bool m10) (.slice A10 k10 c10) := by rw [hU10P14]; exact P10.far2 (by omega) _ _
  replace F11 : Bk2 U10P14 (w10.heap.size + 1) (.int .i64 0) (.int .i64 0) := by rw [hU10P14]; exact F11.far2 (by omega) _ _
  replace hl12 : LRd U10P14 (w12.heap.size) A12 k12 c12 x12 := by rw [hU10P14]; first | exact hl12.setB P14 (by simp) (by simp) _ _ | exact hl12.setFar2 (by omega) _ _
  replace P12 : Bk2 U10P14 (w12.heap.size) (.bool m12) (.slice A12 k12 c12) := by rw [hU10P14]; exact P12.far2 (by omega) _ _
  replace F13 : Bk2 U10P14 (w12.heap.size + 1) (.int .i64 0) (.int .i64 0) := by rw [hU10P14]; exact F13.far2 (by omega) _ _
  replace F15 : Bk2 U10P14 (w14.heap.size + 1) (.int .i64 0) (.int .i64 0) := by rw [hU10P14]; exact F15.far2 (by omega) _ _
  replace P16 : Bk2 U10P14 (w16.heap.size) (.bool m16) (.slice A16 k16 c16) := by rw [hU10P14]; exact P16.far2 (by omega) _ _
  replace F17 : Bk2 U10P14 (w16.heap.size + 1) (.int .i64 0) (.int .i64 0) := by rw [hU10P14]; exact F17.far2 (by omega) _ _
  replace hl18 : LRd U10P14 (w18.heap.size) A18 k18 c18 x18 := by rw [hU10P14]; first | exact hl18.setB P14 (by simp) (by simp) _ _ | exact hl18.setFar2 (by omega) _ _
  replace P14 : Bk2 U10P14 (w14.heap.size) (.bool m18) (.slice A18 k18 c18) := by rw [hU10P14]; exact P14.set _ _
  rw [← hU10P14]
  clear hU10P14
  have zU10P14' := Nat.le_of_eq zU10P14
  replace zU10P14 := Nat.le_of_eq zU10P14.symm
  obtain ⟨V10, hV10⟩ : ∃ V10 : World, V10 = (U10P14.alloc (.cells #[.int .i64 0, .int .i64 0] 26)) := ⟨_, rfl⟩
  have bV10 : Below U10P14.heap.size U10P14 V10 := by rw [hV10]; (repeat (first | with_reducible exact Below.refl _ _ | with_reducible refine Below.drew ?_ | with_reducible refine below_drewN ?_ _ | with_reducible refine Below.setCell ?_ (by first | (simp; done) | (simp; omega) | omega) _ | with_reducible refine Below.alloc ?_ (by first | (simp; done) | (simp; omega) | omega) _))
  have zV10 : U10P14.heap.size + 1 ≤ V10.heap.size := by rw [hV10]; simp
  have F18 : Bk2 V10 (w18.heap.size) (.int .i64 0) (.int .i64 0) := by rw [hV10]; exact (Bk2.newAt _ _ (by first | omega | (simp; done) | (simp; omega)) _ _ _)
  rw [← hV10]
  clear hV10
  replace E : Below w.heap.size w V10 := E.trans (bV10.mono E.size)
  replace HA : LRd V10 (w.heap.size) a.A a.n a.c a.xs := HA.below bV10 (by omega)
  replace HB : LRd V10 (w.heap.size) b.A b.n b.c b.xs := HB.below bV10 (by omega)
  replace PA : Bk2 V10 (w.heap.size) (.bool a.neg) (.slice a.A a.n a.c) := PA.below bV10 PA.lt
  replace PB : Bk2 V10 (w.heap.size + 1) (.bool b.neg) (.slice b.A b.n b.c) := PB.below bV10 PB.lt
  replace P5 : Bk2 V10 (w5.heap.size) (.bool m5) (.slice A5 k5 c5) := P5.below bV10 P5.lt
  replace F6 : Bk2 V10 (w5.heap.size + 1) (.int .i64 0) (.int .i64 0) := F6.below bV10 F6.lt
  replace P7 : Bk2 V10 (w7.heap.size) (.bool m8) (.slice A8 k8 c8) := P7.below bV10 P7.lt
  replace F8 : Bk2 V10 (w7.heap.size + 1) (.int .i64 0) (.int .i64 0) := F8.below bV10 F8.lt
  replace F9 : Bk2 V10 (w8.heap.size) (.int .i64 0) (.int .i64 0) := F9.below bV10 F9.lt
  replace hl10 : LRd V10 (w10.heap.size) A10 k10 c10 x10 := hl10.below bV10 (by omega)
  replace P10 : Bk2 V10 (w10.heap.size) (.bool m10) (.slice A10 k10 c10) := P10.below bV10 P10.lt
  replace F11 : Bk2 V10 (w10.heap.size + 1) (.int .i64 0) (.int .i64 0) := F11.below bV10 F11.lt
  replace hl12 : LRd V10 (w12.heap.size) A12 k12 c12 x12 := hl12.below bV10 (by omega)
  replace P12 : Bk2 V10 (w12.heap.size) (.bool m12) (.slice A12 k12 c12) := P12.below bV10 P12.lt
  replace F13 : Bk2 V10 (w12.heap.size + 1) (.int .i64 0) (.int .i64 0) := F13.below bV10 F13.lt
  replace P14 : Bk2 V10 (w14.heap.size) (.bool m18) (.slice A18 k18 c18) := P14.below bV10 P14.lt
  replace F15 : Bk2 V10 (w14.heap.size + 1) (.int .i64 0) (.int .i64 0) := F15.below bV10 F15.lt
  replace P16 : Bk2 V10 (w16.heap.size) (.bool m16) (.slice A16 k16 c16) := P16.below bV10 P16.lt
  replace F17 : Bk2 V10 (w16.heap.size + 1) (.int .i64 0) (.int .i64 0) := F17.below bV10 F17.lt
  replace hl18 : LRd V10 (w18.heap.size) A18 k18 c18 x18 := hl18.below bV10 (by omega)
  clear bV10
  refine (inot_ok _ V10.heap.size (IV.mk m18 A18 k18 c18 x18) (hl18.more (by omega)) (Nat.le_refl _) (mkok R18.out F9_18.out)).mono ?_
  rintro e w19 hv
  rw [IRep.ival R18.out] at hv
  have Q19 := Lib.hid (ZR.not Q18.out)
  clear hl18
  obtain ⟨m19, A19, k19, c19, x19, rfl, hl19, hr19, hb19⟩ := vl_fit hv (zr_fit Q19.out HN)
  clear hv
  have R19 := Lib.hid hr19
  have F9_19 := Lib.hid (zr_fit Q19.out HN)
  have sw19 := hb19.size
  clear hr19
  replace E : Below w.heap.size w w19 := E.trans (hb19.mono E.size)
  replace HA : LRd w19 (w.heap.size) a.A a.n a.c a.xs := HA.below hb19 (by omega)
  replace HB : LRd w19 (w.heap.size) b.A b.n b.c b.xs := HB.below hb19 (by omega)
  replace PA : Bk2 w19 (w.heap.size) (.bool a.neg) (.slice a.A a.n a.c) := PA.below hb19 PA.lt
  replace PB : Bk2 w19 (w.heap.size + 1) (.bool b.neg) (.slice b.A b.n b.c) := PB.below hb19 PB.lt
  replace P5 : Bk2 w19 (w5.heap.size) (.bool m5) (.slice A5 k5 c5) := P5.below hb19 P5.lt
  replace F6 : Bk2 w19 (w5.heap.size + 1) (.int .i64 0) (.int .i64 0) := F6.below hb19 F6.lt
  replace P7 : Bk2 w19 (w7.heap.size) (.bool m8) (.slice A8 k8 c8) := P7.below hb19 P7.lt
  replace F8 : Bk2 w19 (w7.heap.size + 1) (.int .i64 0) (.int .i64 0) := F8.below hb19 F8.lt
  replace F9 : Bk2 w19 (w8.heap.size) (.int .i64 0) (.int .i64 0) := F9.below hb19 F9.lt
  replace hl10 : LRd w19 (w10.heap.size) A10 k10 c10 x10 := hl10.below hb19 (by omega)
  replace P10 : Bk2 w19 (w10.heap.size) (.bool m10) (.slice A10 k10 c10) := P10.below hb19 P10.lt
  replace F11 : Bk2 w19 (w10.heap.size + 1) (.int .i64 0) (.int .i64 0) := F11.below hb19 F11.lt
  replace hl12 : LRd w19 (w12.heap.size) A12 k12 c12 x12 := hl12.below hb19 (by omega)
  replace P12 : Bk2 w19 (w12.heap.size) (.bool m12) (.slice A12 k12 c12) := P12.below hb19 P12.lt
  replace F13 : Bk2 w19 (w12.heap.size + 1) (.int .i64 0) (.int .i64 0) := F13.below hb19 F13.lt
  replace P14 : Bk2 w19 (w14.heap.size) (.bool m18) (.slice A18 k18 c18) := P14.below hb19 P14.lt
  replace F15 : Bk2 w19 (w14.heap.size + 1) (.int .i64 0) (.int .i64 0) := F15.below hb19 F15.lt
  replace P16 : Bk2 w19 (w16.heap.size) (.bool m16) (.slice A16 k16 c16) := P16.below hb19 P16.lt
  replace F17 : Bk2 w19 (w16.heap.size + 1) (.int .i64 0) (.int .i64 0) := F17.below hb19 F17.lt
  replace F18 : Bk2 w19 (w18.heap.size) (.int .i64 0) (.int .i64 0) := F18.below hb19 F18.lt
  clear hb19
  have y_P140 : w19.cell? ⟨w14.heap.size, 0, none⟩ = some ((.bool m18)) := P14.c0
  have z_P140 : w19.frozen? ⟨w14.heap.size, 0, none⟩ = false := P14.z0
  have y_P141 : w19.cell? ⟨w14.heap.size, 1, none⟩ = some ((.slice A18 k18 c18)) := P14.c1
  have z_P141 : w19.frozen? ⟨w14.heap.size, 1, none⟩ = false := P14.z1
  have lt_P14 := P14.lt
  have t_PA0 : w19.cell? ⟨w.heap.size, 0, none⟩ = some ((.bool a.neg)) := PA.c0
  have t_PA1 : w19.cell? ⟨w.heap.size, 1, none⟩ = some ((.slice a.A a.n a.c)) := PA.c1
  have lt_PA := PA.lt
  have t_PB0 : w19.cell? ⟨w.heap.size + 1, 0, none⟩ = some ((.bool b.neg)) := PB.c0
  have t_PB1 : w19.cell? ⟨w.heap.size + 1, 1, none⟩ = some ((.slice b.A b.n b.c)) := PB.c1
  have lt_PB := PB.lt
  go_wp2_with fail
  clear y_P140 z_P140 y_P141 z_P141 lt_P14 t_PA0 t_PA1 lt_PA t_PB0 t_PB1 lt_PB
  obtain ⟨U11P14, hU11P14⟩ : ∃ U11P14 : World, U11P14 = ((w19.setCell ⟨w14.heap.size, 0, none⟩ (.bool m19)).setCell ⟨w14.heap.size, 1, none⟩ (.slice A19 k19 c19)) := ⟨_, rfl⟩
  have zU11P14 : U11P14.heap.size = w19.heap.size := by rw [hU11P14]; simp [World.setCell]
  replace E : Below w.heap.size w U11P14 := by rw [hU11P14]; exact (E.setCell (by first | (simp; done) | (simp; omega)) _).setCell (by first | (simp; done) | (simp; omega)) _
  replace HA : LRd U11P14 (w.heap.size) a.A a.n a.c a.xs := by rw [hU11P14]; first | exact HA.setB P14 (by simp) (by simp) _ _ | exact HA.setFar2 (by omega) _ _
  replace HB : LRd U11P14 (w.heap.size) b.A b.n b.c b.xs := by rw [hU11P14]; first | exact HB.setB P14 (by simp) (by simp) _ _ | exact HB.setFar2 (by omega) _ _
  replace PA : Bk2 U11P14 (w.heap.size) (.bool a.neg) (.slice a.A a.n a.c) := by rw [hU11P14]; exact PA.far2 (by omega) _ _
  replace PB : Bk2 U11P14 (w.heap.size + 1) (.bool b.neg) (.slice b.A b.n b.c) := by rw [hU11P14]; exact PB.far2 (by omega) _ _
  replace P5 : Bk2 U11P14 (w5.heap.size) (.bool m5) (.slice A5 k5 c5) := by rw [hU11P14]; exact P5.far2 (by omega) _ _
  replace F6 : Bk2 U11P14 (w5.heap.size + 1) (.int .i64 0) (.int .i64 0) := by rw [hU11P14]; exact F6.far2 (by omega) _ _
  replace P7 : Bk2 U11P14 (w7.heap.size) (.bool m8) (.slice A8 k8 c8) := by rw [hU11P14]; exact P7.far2 (by omega) _ _
  replace F8 : Bk2 U11P14 (w7.heap.size + 1) (.int .i64 0) (.int .i64 0) := by rw [hU11P14]; exact F8.far2 (by omega) _ _
  replace F9 : Bk2 U11P14 (w8.heap.size) (.int .i64 0) (.int .i64 0) := by rw [hU11P14]; exact F9.far2 (by omega) _ _
  replace hl10 : LRd U11P14 (w10.heap.size) A10 k10 c10 x10 := by rw [hU11P14]; first | exact hl10.setB P14 (by simp) (by simp) _ _ | exact hl10.setFar2 (by omega) _ _
  replace P10 : Bk2 U11P14 (w10.heap.size) (.bool m10) (.slice A10 k10 c10) := by rw [hU11P14]; exact P10.far2 (by omega) _ _
  replace F11 : Bk2 U11P14 (w10.heap.size + 1) (.int .i64 0) (.int .i64 0) := by rw [hU11P14]; exact F11.far2 (by omega) _ _
  replace hl12 : LRd U11P14 (w12.heap.size) A12 k12 c12 x12 := by rw [hU11P14]; first | exact hl12.setB P14 (by simp) (by simp) _ _ | exact hl12.setFar2 (by omega) _ _
  replace P12 : Bk2 U11P14 (w12.heap.size) (.bool m12) (.slice A12 k12 c12) := by rw [hU11P14]; exact P12.far2 (by omega) _ _
  replace F13 : Bk2 U11P14 (w12.heap.size + 1) (.int .i64 0) (.int .i64 0) := by rw [hU11P14]; exact F13.far2 (by omega) _ _
  replace F15 : Bk2 U11P14 (w14.heap.size + 1) (.int .i64 0) (.int .i64 0) := by rw [hU11P14]; exact F15.far2 (by omega) _ _
  replace P16 : Bk2 U11P14 (w16.heap.size) (.bool m16) (.slice A16 k16 c16) := by rw [hU11P14]; exact P16.far2 (by omega) _ _
  replace F17 : Bk2 U11P14 (w16.heap.size + 1) (.int .i64 0) (.int .i64 0) := by rw [hU11P14]; exact F17.far2 (by omega) _ _
  replace F18 : Bk2 U11P14 (w18.heap.size) (.int .i64 0) (.int .i64 0) := by rw [hU11P14]; exact F18.far2 (by omega) _ _
  replace hl19 : LRd U11P14 (w19.heap.size) A19 k19 c19 x19 := by rw [hU11P14]; first | exact hl19.setB P14 (by simp) (by simp) _ _ | exact hl19.setFar2 (by omega) _ _
  replace P14 : Bk2 U11P14 (w14.heap.size) (.bool m19) (.slice A19 k19 c19) := by rw [hU11P14]; exact P14.set _ _
  rw [← hU11P14]
  clear hU11P14
  have zU11P14' := Nat.le_of_eq zU11P14
  replace zU11P14 := Nat.le_of_eq zU11P14.symm
  obtain ⟨V11, hV11⟩ : ∃ V11 : World, V11 = (U11P14.alloc (.cells #[.int .i64 0, .int .i64 0] 26)) := ⟨_, rfl⟩
  have bV11 : Below U11P14.heap.size U11P14 V11 := by rw [hV11]; (repeat (first | with_reducible exact Below.refl _ _ | with_reducible refine Below.drew ?_ | with_reducible refine below_drewN ?_ _ | with_reducible refine Below.setCell ?_ (by first | (simp; done) | (simp; omega) | omega) _ | with_reducible refine Below.alloc ?_ (by first | (simp; done) | (simp; omega) | omega) _))
  have zV11 : U11P14.heap.size + 1 ≤ V11.heap.size := by rw [hV11]; simp
  have F19 : Bk2 V11 (w19.heap.size) (.int .i64 0) (.int .i64 0) := by rw [hV11]; exact (Bk2.newAt _ _ (by first | omega | (simp; done) | (simp; omega)) _ _ _)
  rw [← hV11]
  clear hV11
  replace E : Below w.heap.size w V11 := E.trans (bV11.mono E.size)
  replace HA : LRd V11 (w.heap.size) a.A a.n a.c a.xs := HA.below bV11 (by omega)
  replace HB : LRd V11 (w.heap.size) b.A b.n b.c b.xs := HB.below bV11 (by omega)
  replace PA : Bk2 V11 (w.heap.size) (.bool a.neg) (.slice a.A a.n a.c) := PA.below bV11 PA.lt
  replace PB : Bk2 V11 (w.heap.size + 1) (.bool b.neg) (.slice b.A b.n b.c) := PB.below bV11 PB.lt
  replace P5 : Bk2 V11 (w5.heap.size) (.bool m5) (.slice A5 k5 c5) := P5.below bV11 P5.lt
  replace F6 : Bk2 V11 (w5.heap.size + 1) (.int .i64 0) (.int .i64 0) := F6.below bV11 F6.lt
  replace P7 : Bk2 V11 (w7.heap.size) (.bool m8) (.slice A8 k8 c8) := P7.below bV11 P7.lt
  replace F8 : Bk2 V11 (w7.heap.size + 1) (.int .i64 0) (.int .i64 0) := F8.below bV11 F8.lt
  replace F9 : Bk2 V11 (w8.heap.size) (.int .i64 0) (.int .i64 0) := F9.below bV11 F9.lt
  replace hl10 : LRd V11 (w10.heap.size) A10 k10 c10 x10 := hl10.below bV11 (by omega)
  replace P10 : Bk2 V11 (w10.heap.size) (.bool m10) (.slice A10 k10 c10) := P10.below bV11 P10.lt
  replace F11 : Bk2 V11 (w10.heap.size + 1) (.int .i64 0) (.int .i64 0) := F11.below bV11 F11.lt
  replace hl12 : LRd V11 (w12.heap.size) A12 k12 c12 x12 := hl12.below bV11 (by omega)
  replace P12 : Bk2 V11 (w12.heap.size) (.bool m12) (.slice A12 k12 c12) := P12.below bV11 P12.lt
  replace F13 : Bk2 V11 (w12.heap.size + 1) (.int .i64 0) (.int .i64 0) := F13.below bV11 F13.lt
  replace P14 : Bk2 V11 (w14.heap.size) (.bool m19) (.slice A19 k19 c19) := P14.below bV11 P14.lt
  replace F15 : Bk2 V11 (w14.heap.size + 1) (.int .i64 0) (.int .i64 0) := F15.below bV11 F15.lt
  replace P16 : Bk2 V11 (w16.heap.size) (.bool m16) (.slice A16 k16 c16) := P16.below bV11 P16.lt
  replace F17 : Bk2 V11 (w16.heap.size + 1) (.int .i64 0) (.int .i64 0) := F17.below bV11 F17.lt
  replace F18 : Bk2 V11 (w18.heap.size) (.int .i64 0) (.int .i64 0) := F18.below bV11 F18.lt
  replace hl19 : LRd V11 (w19.heap.size) A19 k19 c19 x19 := hl19.below bV11 (by omega)
  clear bV11
  refine (ior_ok _ V11.heap.size a b (HA.more (by omega)) (HB.more (by omega)) (Nat.le_refl _) oa ob).mono ?_
  rintro e w20 ⟨z20, hz20, hv⟩
  have Z20 := Lib.hid hz20
  clear hz20
  have Q20 := Lib.hid (ZR.op Z20.out QA.out QB.out)
  obtain ⟨m20, A20, k20, c20, x20, rfl, hl20, hr20, hb20⟩ := vl_fit hv (zr_fit Q20.out HN)
  clear hv
  have R20 := Lib.hid hr20
  have F9_20 := Lib.hid (zr_fit Q20.out HN)
  have sw20 := hb20.size
  clear hr20
  replace E : Below w.heap.size w w20 := E.trans (hb20.mono E.size)
  replace HA : LRd w20 (w.heap.size) a.A a.n a.c a.xs := HA.below hb20 (by omega)
  replace HB : LRd w20 (w.heap.size) b.A b.n b.c b.xs := HB.below hb20 (by omega)
  replace PA : Bk2 w20 (w.heap.size) (.bool a.neg) (.slice a.A a.n a.c) := PA.below hb20 PA.lt
  replace PB : Bk2 w20 (w.heap.size + 1) (.bool b.neg) (.slice b.A b.n b.c) := PB.below hb20 PB.lt
  replace P5 : Bk2 w20 (w5.heap.size) (.bool m5) (.slice A5 k5 c5) := P5.below hb20 P5.lt
  replace F6 : Bk2 w20 (w5.heap.size + 1) (.int .i64 0) (.int .i64 0) := F6.below hb20 F6.lt
  replace P7 : Bk2 w20 (w7.heap.size) (.bool m8) (.slice A8 k8 c8) := P7.below hb20 P7.lt
  replace F8 : Bk2 w20 (w7.heap.size + 1) (.int .i64 0) (.int .i64 0) := F8.below hb20 F8.lt
  replace F9 : Bk2 w20 (w8.heap.size) (.int .i64 0) (.int .i64 0) := F9.below hb20 F9.lt
  replace hl10 : LRd w20 (w10.heap.size) A10 k10 c10 x10 := hl10.below hb20 (by omega)
  replace P10 : Bk2 w20 (w10.heap.size) (.bool m10) (.slice A10 k10 c10) := P10.below hb20 P10.lt
  replace F11 : Bk2 w20 (w10.heap.size + 1) (.int .i64 0) (.int .i64 0) := F11.below hb20 F11.lt
  replace hl12 : LRd w20 (w12.heap.size) A12 k12 c12 x12 := hl12.below hb20 (by omega)
  replace P12 : Bk2 w20 (w12.heap.size) (.bool m12) (.slice A12 k12 c12) := P12.below hb20 P12.lt
  replace F13 : Bk2 w20 (w12.heap.size + 1) (.int .i64 0) (.int .i64 0) := F13.below hb20 F13.lt
  replace P14 : Bk2 w20 (w14.heap.size) (.bool m19) (.slice A19 k19 c19) := P14.below hb20 P14.lt
  replace F15 : Bk2 w20 (w14.heap.size + 1) (.int .i64 0) (.int .i64 0) := F15.below hb20 F15.lt
  replace P16 : Bk2 w20 (w16.heap.size) (.bool m16) (.slice A16 k16 c16) := P16.below hb20 P16.lt
  replace F17 : Bk2 w20 (w16.heap.size + 1) (.int .i64 0) (.int .i64 0) := F17.below hb20 F17.lt
  replace F18 : Bk2 w20 (w18.heap.size) (.int .i64 0) (.int .i64 0) := F18.below hb20 F18.lt
  replace hl19 : LRd w20 (w19.heap.size) A19 k19 c19 x19 := hl19.below hb20 (by omega)
  replace F19 : Bk2 w20 (w19.heap.size) (.int .i64 0) (.int .i64 0) := F19.below hb20 F19.lt
  clear hb20
  clear HA HB PA PB P5 P7 P16
  have t_F60 : ((w20.alloc (.cells #[.bool m20, .slice A20 k20 c20] 24)).alloc (.cells #[.int .i64 0, .int .i64 0] 26)).cell? ⟨w5.heap.size + 1, 0, none⟩ = some ((.int .i64 0)) := ((F6.alloc _).alloc _).c0
  have t_F61 : ((w20.alloc (.cells #[.bool m20, .slice A20 k20 c20] 24)).alloc (.cells #[.int .i64 0, .int .i64 0] 26)).cell? ⟨w5.heap.size + 1, 1, none⟩ = some ((.int .i64 0)) := ((F6.alloc _).alloc _).c1
  have t_F80 : ((w20.alloc (.cells #[.bool m20, .slice A20 k20 c20] 24)).alloc (.cells #[.int .i64 0, .int .i64 0] 26)).cell? ⟨w7.heap.size + 1, 0, none⟩ = some ((.int .i64 0)) := ((F8.alloc _).alloc _).c0
  have t_F81 : ((w20.alloc (.cells #[.bool m20, .slice A20 k20 c20] 24)).alloc (.cells #[.int .i64 0, .int .i64 0] 26)).cell? ⟨w7.heap.size + 1, 1, none⟩ = some ((.int .i64 0)) := ((F8.alloc _).alloc _).c1
  have t_F90 : ((w20.alloc (.cells #[.bool m20, .slice A20 k20 c20] 24)).alloc (.cells #[.int .i64 0, .int .i64 0] 26)).cell? ⟨w8.heap.size, 0, none⟩ = some ((.int .i64 0)) := ((F9.alloc _).alloc _).c0
  have t_F91 : ((w20.alloc (.cells #[.bool m20, .slice A20 k20 c20] 24)).alloc (.cells #[.int .i64 0, .int .i64 0] 26)).cell? ⟨w8.heap.size, 1, none⟩ = some ((.int .i64 0)) := ((F9.alloc _).alloc _).c1
  have t_F110 : ((w20.alloc (.cells #[.bool m20, .slice A20 k20 c20] 24)).alloc (.cells #[.int .i64 0, .int .i64 0] 26)).cell? ⟨w10.heap.size + 1, 0, none⟩ = some ((.int .i64 0)) := ((F11.alloc _).alloc _).c0
  have t_F111 : ((w20.alloc (.cells #[.bool m20, .slice A20 k20 c20] 24)).alloc (.cells #[.int .i64 0, .int .i64 0] 26)).cell? ⟨w10.heap.size + 1, 1, none⟩ = some ((.int .i64 0)) := ((F11.alloc _).alloc _).c1
  have t_F130 : ((w20.alloc (.cells #[.bool m20, .slice A20 k20 c20] 24)).alloc (.cells #[.int .i64 0, .int .i64 0] 26)).cell? ⟨w12.heap.size + 1, 0, none⟩ = some ((.int .i64 0)) := ((F13.alloc _).alloc _).c0
  have t_F131 : ((w20.alloc (.cells #[.bool m20, .slice A20 k20 c20] 24)).alloc (.cells #[.int .i64 0, .int .i64 0] 26)).cell? ⟨w12.heap.size + 1, 1, none⟩ = some ((.int .i64 0)) := ((F13.alloc _).alloc _).c1
  have t_F150 : ((w20.alloc (.cells #[.bool m20, .slice A20 k20 c20] 24)).alloc (.cells #[.int .i64 0, .int .i64 0] 26)).cell? ⟨w14.heap.size + 1, 0, none⟩ = some ((.int .i64 0)) := ((F15.alloc _).alloc _).c0
  have t_F151 : ((w20.alloc (.cells #[.bool m20, .slice A20 k20 c20] 24)).alloc (.cells #[.int .i64 0, .int .i64 0] 26)).cell? ⟨w14.heap.size + 1, 1, none⟩ = some ((.int .i64 0)) := ((F15.alloc _).alloc _).c1
  have t_F170 : ((w20.alloc (.cells #[.bool m20, .slice A20 k20 c20] 24)).alloc (.cells #[.int .i64 0, .int .i64 0] 26)).cell? ⟨w16.heap.size + 1, 0, none⟩ = some ((.int .i64 0)) := ((F17.alloc _).alloc _).c0
  have t_F171 : ((w20.alloc (.cells #[.bool m20, .slice A20 k20 c20] 24)).alloc (.cells #[.int .i64 0, .int .i64 0] 26)).cell? ⟨w16.heap.size + 1, 1, none⟩ = some ((.int .i64 0)) := ((F17.alloc _).alloc _).c1
  have t_F180 : ((w20.alloc (.cells #[.bool m20, .slice A20 k20 c20] 24)).alloc (.cells #[.int .i64 0, .int .i64 0] 26)).cell? ⟨w18.heap.size, 0, none⟩ = some ((.int .i64 0)) := ((F18.alloc _).alloc _).c0
  have t_F181 : ((w20.alloc (.cells #[.bool m20, .slice A20 k20 c20] 24)).alloc (.cells #[.int .i64 0, .int .i64 0] 26)).cell? ⟨w18.heap.size, 1, none⟩ = some ((.int .i64 0)) := ((F18.alloc _).alloc _).c1
  have t_F190 : ((w20.alloc (.cells #[.bool m20, .slice A20 k20 c20] 24)).alloc (.cells #[.int .i64 0, .int .i64 0] 26)).cell? ⟨w19.heap.size, 0, none⟩ = some ((.int .i64 0)) := ((F19.alloc _).alloc _).c0
  have t_F191 : ((w20.alloc (.cells #[.bool m20, .slice A20 k20 c20] 24)).alloc (.cells #[.int .i64 0, .int .i64 0] 26)).cell? ⟨w19.heap.size, 1, none⟩ = some ((.int .i64 0)) := ((F19.alloc _).alloc _).c1
  have t_P100 : ((w20.alloc (.cells #[.bool m20, .slice A20 k20 c20] 24)).alloc (.cells #[.int .i64 0, .int .i64 0] 26)).cell? ⟨w10.heap.size, 0, none⟩ = some ((.bool m10)) := ((P10.alloc _).alloc _).c0
  have t_P101 : ((w20.alloc (.cells #[.bool m20, .slice A20 k20 c20] 24)).alloc (.cells #[.int .i64 0, .int .i64 0] 26)).cell? ⟨w10.heap.size, 1, none⟩ = some ((.slice A10 k10 c10)) := ((P10.alloc _).alloc _).c1
  have t_P120 : ((w20.alloc (.cells #[.bool m20, .slice A20 k20 c20] 24)).alloc (.cells #[.int .i64 0, .int .i64 0] 26)).cell? ⟨w12.heap.size, 0, none⟩ = some ((.bool m12)) := ((P12.alloc _).alloc _).c0
  have t_P121 : ((w20.alloc (.cells #[.bool m20, .slice A20 k20 c20] 24)).alloc (.cells #[.int .i64 0, .int .i64 0] 26)).cell? ⟨w12.heap.size, 1, none⟩ = some ((.slice A12 k12 c12)) := ((P12.alloc _).alloc _).c1
  go_wp2_with fail
  clear t_F60 t_F61 t_F80 t_F81 t_F90 t_F91 t_F110 t_F111 t_F130 t_F131 t_F150 t_F151 t_F170 t_F171 t_F180 t_F181 t_F190 t_F191 t_P100 t_P101 t_P120 t_P121
  obtain ⟨V12, hV12⟩ : ∃ V12 : World, V12 = ((w20.alloc (.cells #[.bool m20, .slice A20 k20 c20] 24)).alloc (.cells #[.int .i64 0, .int .i64 0] 26)) := ⟨_, rfl⟩
  have bV12 : Below w20.heap.size w20 V12 := by rw [hV12]; (repeat (first | with_reducible exact Below.refl _ _ | with_reducible refine Below.drew ?_ | with_reducible refine below_drewN ?_ _ | with_reducible refine Below.setCell ?_ (by first | (simp; done) | (simp; omega) | omega) _ | with_reducible refine Below.alloc ?_ (by first | (simp; done) | (simp; omega) | omega) _))
  have zV12 : w20.heap.size + 2 ≤ V12.heap.size := by rw [hV12]; simp
  have P20 : Bk2 V12 (w20.heap.size) (.bool m20) (.slice A20 k20 c20) := by rw [hV12]; exact ((Bk2.newAt _ _ (by simp) _ _ _).alloc _)
  have F21 : Bk2 V12 (w20.heap.size + 1) (.int .i64 0) (.int .i64 0) := by rw [hV12]; exact (Bk2.newAt _ _ (by simp) _ _ _)
  rw [← hV12]
  clear hV12
  replace E : Below w.heap.size w V12 := E.trans (bV12.mono E.size)
  replace F6 : Bk2 V12 (w5.heap.size + 1) (.int .i64 0) (.int .i64 0) := F6.below bV12 F6.lt
  replace F8 : Bk2 V12 (w7.heap.size + 1) (.int .i64 0) (.int .i64 0) := F8.below bV12 F8.lt
  replace F9 : Bk2 V12 (w8.heap.size) (.int .i64 0) (.int .i64 0) := F9.below bV12 F9.lt
  replace hl10 : LRd V12 (w10.heap.size) A10 k10 c10 x10 := hl10.below bV12 (by omega)
  replace P10 : Bk2 V12 (w10.heap.size) (.bool m10) (.slice A10 k10 c10) := P10.below bV12 P10.lt
  replace F11 : Bk2 V12 (w10.heap.size + 1) (.int .i64 0) (.int .i64 0) := F11.below bV12 F11.lt
  replace hl12 : LRd V12 (w12.heap.size) A12 k12 c12 x12 := hl12.below bV12 (by omega)
  replace P12 : Bk2 V12 (w12.heap.size) (.bool m12) (.slice A12 k12 c12) := P12.below bV12 P12.lt
  replace F13 : Bk2 V12 (w12.heap.size + 1) (.int .i64 0) (.int .i64 0) := F13.below bV12 F13.lt
  replace P14 : Bk2 V12 (w14.heap.size) (.bool m19) (.slice A19 k19 c19) := P14.below bV12 P14.lt
  replace F15 : Bk2 V12 (w14.heap.size + 1) (.int .i64 0) (.int .i64 0) := F15.below bV12 F15.lt
  replace F17 : Bk2 V12 (w16.heap.size + 1) (.int .i64 0) (.int .i64 0) := F17.below bV12 F17.lt
  replace F18 : Bk2 V12 (w18.heap.size) (.int .i64 0) (.int .i64 0) := F18.below bV12 F18.lt
  replace hl19 : LRd V12 (w19.heap.size) A19 k19 c19 x19 := hl19.below bV12 (by omega)
  replace F19 : Bk2 V12 (w19.heap.size) (.int .i64 0) (.int .i64 0) := F19.below bV12 F19.lt
  replace hl20 : LRd V12 (w20.heap.size) A20 k20 c20 x20 := hl20.below bV12 (by omega)
  clear bV12
  (with_reducible refine (sameInts_any _ V12.heap.size m10 m12 A10 A12 k10 k12 c10 c12 x10 x12 (hl10.more (by omega)) (hl12.more (by omega)) (Nat.le_refl _)).mono ?_)
  rintro e w22 ⟨rfl, hb22⟩
  have sw22 := hb22.size
  replace E : Below w.heap.size w w22 := E.trans (hb22.mono E.size)
  replace F6 : Bk2 w22 (w5.heap.size + 1) (.int .i64 0) (.int .i64 0) := F6.below hb22 F6.lt
  replace F8 : Bk2 w22 (w7.heap.size + 1) (.int .i64 0) (.int .i64 0) := F8.below hb22 F8.lt
  replace F9 : Bk2 w22 (w8.heap.size) (.int .i64 0) (.int .i64 0) := F9.below hb22 F9.lt
  replace hl10 : LRd w22 (w10.heap.size) A10 k10 c10 x10 := hl10.below hb22 (by omega)
  replace P10 : Bk2 w22 (w10.heap.size) (.bool m10) (.slice A10 k10 c10) := P10.below hb22 P10.lt
  replace F11 : Bk2 w22 (w10.heap.size + 1) (.int .i64 0) (.int .i64 0) := F11.below hb22 F11.lt
  replace hl12 : LRd w22 (w12.heap.size) A12 k12 c12 x12 := hl12.below hb22 (by omega)
  replace P12 : Bk2 w22 (w12.heap.size) (.bool m12) (.slice A12 k12 c12) := P12.below hb22 P12.lt
  replace F13 : Bk2 w22 (w12.heap.size + 1) (.int .i64 0) (.int .i64 0) := F13.below hb22 F13.lt
  replace P14 : Bk2 w22 (w14.heap.size) (.bool m19) (.slice A19 k19 c19) := P14.below hb22 P14.lt
  replace F15 : Bk2 w22 (w14.heap.size + 1) (.int .i64 0) (.int .i64 0) := F15.below hb22 F15.lt
  replace F17 : Bk2 w22 (w16.heap.size + 1) (.int .i64 0) (.int .i64 0) := F17.below hb22 F17.lt
  replace F18 : Bk2 w22 (w18.heap.size) (.int .i64 0) (.int .i64 0) := F18.below hb22 F18.lt
  replace hl19 : LRd w22 (w19.heap.size) A19 k19 c19 x19 := hl19.below hb22 (by omega)
  replace F19 : Bk2 w22 (w19.heap.size) (.int .i64 0) (.int .i64 0) := F19.below hb22 F19.lt
  replace hl20 : LRd w22 (w20.heap.size) A20 k20 c20 x20 := hl20.below hb22 (by omega)
  replace P20 : Bk2 w22 (w20.heap.size) (.bool m20) (.slice A20 k20 c20) := P20.below hb22 P20.lt
  replace F21 : Bk2 w22 (w20.heap.size + 1) (.int .i64 0) (.int .i64 0) := F21.below hb22 F21.lt
  clear hb22
  rw [same_irep' R10.out R12.out rfl]
  clear hl10 hl12
  have t_P140 : w22.cell? ⟨w14.heap.size, 0, none⟩ = some ((.bool m19)) := P14.c0
  have t_P141 : w22.cell? ⟨w14.heap.size, 1, none⟩ = some ((.slice A19 k19 c19)) := P14.c1
  have t_P200 : w22.cell? ⟨w20.heap.size, 0, none⟩ = some ((.bool m20)) := P20.c0
  have t_P201 : w22.cell? ⟨w20.heap.size, 1, none⟩ = some ((.slice A20 k20 c20)) := P20.c1
  go_wp2_with fail
  clear t_P140 t_P141 t_P200 t_P201
  (with_reducible refine (sameInts_any _ w22.heap.size m19 m20 A19 A20 k19 k20 c19 c20 x19 x20 (hl19.more (by omega)) (hl20.more (by omega)) (Nat.le_refl _)).mono ?_)
  rintro e w23 ⟨rfl, hb23⟩
  have sw23 := hb23.size
  replace E : Below w.heap.size w w23 := E.trans (hb23.mono E.size)
  replace F6 : Bk2 w23 (w5.heap.size + 1) (.int .i64 0) (.int .i64 0) := F6.below hb23 F6.lt
  replace F8 : Bk2 w23 (w7.heap.size + 1) (.int .i64 0) (.int .i64 0) := F8.below hb23 F8.lt
  replace F9 : Bk2 w23 (w8.heap.size) (.int .i64 0) (.int .i64 0) := F9.below hb23 F9.lt
  replace P10 : Bk2 w23 (w10.heap.size) (.bool m10) (.slice A10 k10 c10) := P10.below hb23 P10.lt
  replace F11 : Bk2 w23 (w10.heap.size + 1) (.int .i64 0) (.int .i64 0) := F11.below hb23 F11.lt
  replace P12 : Bk2 w23 (w12.heap.size) (.bool m12) (.slice A12 k12 c12) := P12.below hb23 P12.lt
  replace F13 : Bk2 w23 (w12.heap.size + 1) (.int .i64 0) (.int .i64 0) := F13.below hb23 F13.lt
  replace P14 : Bk2 w23 (w14.heap.size) (.bool m19) (.slice A19 k19 c19) := P14.below hb23 P14.lt
  replace F15 : Bk2 w23 (w14.heap.size + 1) (.int .i64 0) (.int .i64 0) := F15.below hb23 F15.lt
  replace F17 : Bk2 w23 (w16.heap.size + 1) (.int .i64 0) (.int .i64 0) := F17.below hb23 F17.lt
  replace F18 : Bk2 w23 (w18.heap.size) (.int .i64 0) (.int .i64 0) := F18.below hb23 F18.lt
  replace hl19 : LRd w23 (w19.heap.size) A19 k19 c19 x19 := hl19.below hb23 (by omega)
  replace F19 : Bk2 w23 (w19.heap.size) (.int .i64 0) (.int .i64 0) := F19.below hb23 F19.lt
  replace hl20 : LRd w23 (w20.heap.size) A20 k20 c20 x20 := hl20.below hb23 (by omega)
  replace P20 : Bk2 w23 (w20.heap.size) (.bool m20) (.slice A20 k20 c20) := P20.below hb23 P20.lt
  replace F21 : Bk2 w23 (w20.heap.size + 1) (.int .i64 0) (.int .i64 0) := F21.below hb23 F21.lt
  clear hb23
  rw [same_irep' R19.out R20.out (z_or Z18.out Z20.out)]
  go_wp2_with fail
  go_ret
  exact ⟨by first | rfl | (simp; done), E⟩
theorem bitsums_any (w : World) (a b : IV) (HA : a.at w w.heap.size) (HB : b.at w w.heap.size) :
    Calls Try.prog 10 #[a.v, b.v] w (fun e w' => e = .returned (.bool true) ∧ Below w.heap.size w w') := by
  by_cases h : a.ok = true ∧ b.ok = true
  · obtain ⟨oa, ob⟩ := h
    rcases Nat.lt_or_ge 120 a.n with h1 | h1
    · exact bsm_la w a b HA HB oa ob h1
    · rcases Nat.lt_or_ge 120 b.n with h2 | h2
      · exact bsm_lb w a b HA HB oa ob h1 h2
      · exact bsm_ok w a b HA HB oa ob h1 h2
  · obtain ⟨f2, hf⟩ := two_bad h
    exact bsm_bad w a b HA HB f2 hf
end Go.Proofs.Ytpjfoggohhlbdaa
