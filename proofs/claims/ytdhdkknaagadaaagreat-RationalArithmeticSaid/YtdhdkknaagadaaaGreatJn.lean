/- The program's Mul and Sub of ratios. The program's Sub of ratios. The program's Div of ratios. The program's Add of ratios. -/
import Derived.Test.YtdhdkknaagadaaaGreatJm
import Derived.Deep.RegionHeld3
import Derived.Deep.DeepCutAuto
namespace Go.Proofs.YtdhdkknaagadaaaGreat
open Go.RowKit
set_option maxHeartbeats 400000
set_option maxRecDepth 100000
set_option linter.unusedSimpArgs false
set_option linter.unusedVariables false

theorem rrow2 (w : World) (B : Nat) (a b : RV) (ha : a.at w B) (hb : b.at w B) (hB : B ≤ w.heap.size) : RRow (w.alloc (.cells #[.bool a.num.neg, .slice a.num.A a.num.n a.num.c, .bool a.den.neg, .slice a.den.A a.den.n a.den.c, .bool b.num.neg, .slice b.num.A b.num.n b.num.c, .bool b.den.neg, .slice b.den.A b.den.n b.den.c] 26)) B w.heap.size [a, b] := by
  have ha' : a.at (w.alloc (.cells #[.bool a.num.neg, .slice a.num.A a.num.n a.num.c, .bool a.den.neg, .slice a.den.A a.den.n a.den.c, .bool b.num.neg, .slice b.num.A b.num.n b.num.c, .bool b.den.neg, .slice b.den.A b.den.n b.den.c] 26)) B := ha.below (bl1 w _) hB
  have hb' : b.at (w.alloc (.cells #[.bool a.num.neg, .slice a.num.A a.num.n a.num.c, .bool a.den.neg, .slice a.den.A a.den.n a.den.c, .bool b.num.neg, .slice b.num.A b.num.n b.num.c, .bool b.den.neg, .slice b.den.A b.den.n b.den.c] 26)) B := hb.below (bl1 w _) hB
  refine ⟨fun i hi => ?_, fun i hi => ?_, fun i hi => ?_, fun i hi => ?_, fun i hi => ?_, by simp⟩
  all_goals
    have hi' : i < 2 := hi
    rcases (show i = 0 ∨ i = 1 by omega) with rfl | rfl
    all_goals first | exact ha' | exact hb' | simp [go_sem]
theorem rtwo_ok {a b : RV} (ha : a.ok = true) (hb : b.ok = true) : rfault [a, b] 0 = (0, 0) := by
  show (if a.ok then (if b.ok then (0, 0) else _) else _) = _
  rw [if_pos ha, if_pos hb]
theorem quotient_i (w : World) (B : Nat) (m m2 : Bool) (A D : Option Addr) (n k c d : Nat) (xs ys : List Nat) (z1 z2 : Int) (HA : LRd w B A n c xs) (HB : LRd w B D k d ys) (hB : B ≤ w.heap.size) (hx : IRep m xs z1) (hy : IRep m2 ys z2) (b1 : z1.natAbs < Big) (b2 : z2.natAbs < Big) (h0 : z2 ≠ 0) :
    Calls Tryz.prog 59 #[intv m A n c, intv m2 D k d] w (GivesQuo w (decide (z1 < 0) != decide (z2 < 0)) z1.natAbs z2.natAbs) := by
  have h := quotient_any w B m m2 A D n k c d z1.natAbs z2.natAbs xs ys HA HB hB hx.rep hy.rep (big_vld hx.rep b1) (big_vld hy.rep b2) (by omega)
  rw [hx.sgn, hy.sgn] at h
  rw [hx.sgn, hy.sgn]
  exact h
/-- What is known of a valid ratio. -/
structure RVal (r : RV) (n d : Int) : Prop where
  num : IRep r.num.neg r.num.xs n
  den : IRep r.den.neg r.den.xs d
  bn : n.natAbs < Top128
  bd : d.natAbs < Top128
  pos : 0 < d
  low : Nat.gcd n.natAbs d.natAbs = 1
theorem RV.val {w : World} {B : Nat} {r : RV} (h : r.ok = true) (H : r.at w B) : RVal r r.num.val r.den.val := by
  unfold RV.ok at h
  simp only [Bool.and_eq_true, decide_eq_true_eq, Bool.not_eq_true'] at h
  obtain ⟨⟨⟨⟨h1, h2⟩, h3⟩, h4⟩, h5⟩ := h
  have lim1 := H.1.lim
  have lim2 := H.2.lim
  have lt : ∀ a : IV, a.ok = true → Lim a.xs → a.val.natAbs < Top128 := fun a oa hl => by
    show (sval a.neg (vb 4294967296 a.xs)).natAbs < _
    rw [sval_abs]
    exact lt128 (⟨hl, rfl, (vld_top (IV.vld oa).1).1⟩ : Rep 4294967296 a.xs _) rfl (IV.vld oa).2
  have e : r.den.val = ((vb 4294967296 r.den.xs : Nat) : Int) := by unfold IV.val; rw [h1]; rfl
  have hp : 0 < vb 4294967296 r.den.xs := by
    have hr : Rep 4294967296 r.den.xs (vb 4294967296 r.den.xs) := ⟨lim2, rfl, (vld_top (IV.vld h4).1).1⟩
    rcases Nat.eq_zero_or_pos (vb 4294967296 r.den.xs) with e0 | e0
    · exfalso
      have h6 := hr.length_le (m := 0) (by decide) (by omega)
      have h7 := H.2.len.out
      omega
    · exact e0
  exact ⟨IV.irep h3 lim1, IV.irep h4 lim2, lt _ h3 lim1, lt _ h4 lim2, by rw [e]; omega, by
    have e2 : r.num.val.natAbs = vb 4294967296 r.num.xs := sval_abs _ _
    have e3 : r.den.val.natAbs = vb 4294967296 r.den.xs := sval_abs _ _
    rw [e2, e3]; exact h5⟩
theorem top_sq_big {p q : Nat} (hp : p < Top128) (hq : q < Top128) : p * q * 4 < Big := by
  obtain ⟨m, hm⟩ : ∃ m, m = 128 := ⟨_, rfl⟩
  obtain ⟨k, hk⟩ : ∃ k, k = 344 := ⟨_, rfl⟩
  rw [top128 hm] at hp hq
  rw [big_pow (m := m + m + k) (by omega), Nat.pow_add, Nat.pow_add]
  have h1 : p * q ≤ 4294967296 ^ m * 4294967296 ^ m := Nat.mul_le_mul (Nat.le_of_lt hp) (Nat.le_of_lt hq)
  have h2 : 0 < 4294967296 ^ m := Nat.pow_pos (by decide)
  have h3 : 0 < 4294967296 ^ m * 4294967296 ^ m := Nat.mul_pos h2 h2
  have h4 : 4 < 4294967296 ^ k := Nat.lt_of_lt_of_le (by decide : 4 < 4294967296 ^ 1) (Nat.pow_le_pow_right (by decide) (by omega))
  exact Nat.lt_of_le_of_lt (Nat.mul_le_mul_right _ h1) (Nat.mul_lt_mul_of_pos_left h4 h3)
theorem top_big1 {p : Nat} (hp : p < Top128) : p < Big := by
  have := top_sq_big hp (show 1 < Top128 from lt_top (by decide))
  omega
/-- Which ratio and which fault a quotient gives. -/
def QuoIs (x : Bool) (p q : Nat) (z1 z2 f1 f2 : Int) : Prop :=
  (p / Nat.gcd p q < Top128 ∧ q / Nat.gcd p q < Top128 ∧ z1 = sval x (p / Nat.gcd p q) ∧ z2 = ((q / Nat.gcd p q : Nat) : Int) ∧ f1 = 0 ∧ f2 = 0) ∨
  ((Top128 ≤ p / Nat.gcd p q ∨ Top128 ≤ q / Nat.gcd p q) ∧ z1 = 0 ∧ z2 = 0 ∧ f1 = 14 ∧ f2 = -1)
theorem quo_is {w w' : World} {x : Bool} {p q : Nat} {e : Ending} (h : GivesQuo w x p q e w') : ∃ z1 z2 f1 f2, QuoIs x p q z1 z2 f1 f2 ∧ GivesRat w z1 z2 f1 f2 e w' := by
  rcases h with ⟨h1, h2, h3⟩ | ⟨h1, h3⟩
  · exact ⟨_, _, 0, 0, .inl ⟨h1, h2, rfl, rfl, rfl, rfl⟩, h3⟩
  · exact ⟨0, 0, 14, -1, .inr ⟨h1, rfl, rfl, rfl, rfl⟩, h3⟩
theorem quo_more {w w' : World} {x : Bool} {p q : Nat} {z1 z2 f1 f2 : Int} {e : Ending} (h : QuoIs x p q z1 z2 f1 f2) (k : GivesRat w z1 z2 f1 f2 e w') : GivesQuo w x p q e w' := by
  rcases h with ⟨h1, h2, rfl, rfl, rfl, rfl⟩ | ⟨h1, rfl, rfl, rfl, rfl⟩
  · exact .inl ⟨h1, h2, k⟩
  · exact .inr ⟨h1, k⟩
abbrev set6 (w : World) (g h : Nat) (a b c d e f : Value) : World := ((World.set4 w g a b c d).setCell ⟨h, 0, none⟩ e).setCell ⟨h, 1, none⟩ f
theorem lrd_six' {w : World} {A : Option Addr} {n c g h : Nat} {xs : List Nat} {i j : Int} (k : LRd w w.heap.size A n c xs) (p : Bk4 w g (.bool false) (.slice none 0 0) (.bool false) (.slice none 0 0)) (q : Bk2 w h (.int .i64 i) (.int .i64 j)) (hne : g ≠ h) (a b c' d e f : Value) : LRd (set6 w g h a b c' d e f) w.heap.size A n c xs :=
  (k.set4 p (by simp) (by simp) (by simp) (by simp) a b c' d).setB (q.far4 hne a b c' d) (by simp) (by simp) e f
theorem lrd_six {w : World} {A : Option Addr} {n c g h : Nat} {xs : List Nat} {i j : Int} (k : LRd w w.heap.size A n c xs) (p : Bk4 w g (.bool false) (.slice none 0 0) (.bool false) (.slice none 0 0)) (q : Bk2 w h (.int .i64 i) (.int .i64 j)) (hne : g ≠ h) (a b c' d e f : Value) : LRd (set6 w g h a b c' d e f) (set6 w g h a b c' d e f).heap.size A n c xs :=
  (lrd_six' k p q hne a b c' d e f).more (by simp [World.setCell])
set_option maxHeartbeats 8000000 in
theorem rmul_ok (w : World) (B : Nat) (a b : RV) (H1 : a.at w B) (H2 : b.at w B) (hB : B ≤ w.heap.size) (oa : a.ok = true) (ob : b.ok = true) :
    Calls Tryz.prog 11 #[a.v, b.v] w (GivesQuo w (decide (a.num.val * b.num.val < 0) != decide (a.den.val * b.den.val < 0)) (a.num.val * b.num.val).natAbs (a.den.val * b.den.val).natAbs) := by
  have VA := RV.val oa H1
  have VB := RV.val ob H2
  have hf := rtwo_ok oa ob
  have IA := Lib.hid VA.num
  have IC := Lib.hid VA.den
  have IB := Lib.hid VB.num
  have ID := Lib.hid VB.den
  have b1 := Lib.hid (top_big1 VA.bn)
  have b2 := Lib.hid (top_big1 VA.bd)
  have b3 := Lib.hid (top_big1 VB.bn)
  have b4 := Lib.hid (top_big1 VB.bd)
  have t1 := Lib.hid (show (a.num.val * b.den.val).natAbs * 4 < Big by rw [Int.natAbs_mul]; exact top_sq_big VA.bn VB.bd)
  have t2 := Lib.hid (show (b.num.val * a.den.val).natAbs * 4 < Big by rw [Int.natAbs_mul]; exact top_sq_big VB.bn VA.bd)
  have t3 := Lib.hid (show (a.num.val * b.num.val).natAbs * 4 < Big by rw [Int.natAbs_mul]; exact top_sq_big VA.bn VB.bn)
  have t4 := Lib.hid (show (a.den.val * b.den.val).natAbs * 4 < Big by rw [Int.natAbs_mul]; exact top_sq_big VA.bd VB.bd)
  have d0 := Lib.hid (show a.den.val * b.den.val ≠ 0 from Int.ne_of_gt (Int.mul_pos VA.pos VB.pos))
  obtain ⟨na, hna⟩ : ∃ z, z = a.num.val := ⟨_, rfl⟩
  obtain ⟨da, hda⟩ : ∃ z, z = a.den.val := ⟨_, rfl⟩
  obtain ⟨nb, hnb⟩ : ∃ z, z = b.num.val := ⟨_, rfl⟩
  obtain ⟨db, hdb⟩ : ∃ z, z = b.den.val := ⟨_, rfl⟩
  clear VA VB oa ob
  rw [← hna] at IA b1 t1 t3 ⊢
  rw [← hda] at IC b2 t2 t4 d0 ⊢
  rw [← hnb] at IB b3 t2 t3 ⊢
  rw [← hdb] at ID b4 t1 t4 d0 ⊢
  clear hna hda hnb hdb
  have bbase : Below w.heap.size w ((((w.alloc (.cells #[.bool a.num.neg, .slice a.num.A a.num.n a.num.c, .bool a.den.neg, .slice a.den.A a.den.n a.den.c] 26)).alloc (.cells #[.bool b.num.neg, .slice b.num.A b.num.n b.num.c, .bool b.den.neg, .slice b.den.A b.den.n b.den.c] 26)).alloc (.cells #[.bool false, .slice none 0 0, .bool false, .slice none 0 0] 26)).alloc (.cells #[.int .i64 0, .int .i64 0] 28)) := (((bl1 w _).alloc (by simp) _).alloc (by simp; omega) _).alloc (by simp; omega) _
  have HA : LRd w B a.num.A a.num.n a.num.c a.num.xs := H1.1
  have HC : LRd w B a.den.A a.den.n a.den.c a.den.xs := H1.2
  have HB : LRd w B b.num.A b.num.n b.num.c b.num.xs := H2.1
  have HD : LRd w B b.den.A b.den.n b.den.c b.den.xs := H2.2
  have E : Below w.heap.size w w := Below.refl _ _
  have RR := Lib.hid (rrow2 ((((w.alloc (.cells #[.bool a.num.neg, .slice a.num.A a.num.n a.num.c, .bool a.den.neg, .slice a.den.A a.den.n a.den.c] 26)).alloc (.cells #[.bool b.num.neg, .slice b.num.A b.num.n b.num.c, .bool b.den.neg, .slice b.den.A b.den.n b.den.c] 26)).alloc (.cells #[.bool false, .slice none 0 0, .bool false, .slice none 0 0] 26)).alloc (.cells #[.int .i64 0, .int .i64 0] 28)) B a b (RV.at.below H1 bbase (by omega)) (RV.at.below H2 bbase (by omega)) (by simp; omega))
  clear bbase
  go_enter Tryz.func11, Tryz.ntmps11
  go_wp2_with fail
  obtain ⟨V0, hV0⟩ : ∃ V0 : World, V0 = (((((w.alloc (.cells #[.bool a.num.neg, .slice a.num.A a.num.n a.num.c, .bool a.den.neg, .slice a.den.A a.den.n a.den.c] 26)).alloc (.cells #[.bool b.num.neg, .slice b.num.A b.num.n b.num.c, .bool b.den.neg, .slice b.den.A b.den.n b.den.c] 26)).alloc (.cells #[.bool false, .slice none 0 0, .bool false, .slice none 0 0] 26)).alloc (.cells #[.int .i64 0, .int .i64 0] 28)).alloc (.cells #[.bool a.num.neg, .slice a.num.A a.num.n a.num.c, .bool a.den.neg, .slice a.den.A a.den.n a.den.c, .bool b.num.neg, .slice b.num.A b.num.n b.num.c, .bool b.den.neg, .slice b.den.A b.den.n b.den.c] 26)) := ⟨_, rfl⟩
  have bV0 : Below w.heap.size w V0 := by rw [hV0]; (repeat (first | with_reducible exact Below.refl _ _ | with_reducible refine Below.drew ?_ | with_reducible refine below_drewN ?_ _ | with_reducible refine Below.setCell ?_ (by first | (simp; done) | (simp; omega) | omega) _ | with_reducible refine Below.alloc ?_ (by first | (simp; done) | (simp; omega) | omega) _))
  have zV0 : w.heap.size + 5 ≤ V0.heap.size := by rw [hV0]; simp
  have PA : Bk4 V0 (w.heap.size) (.bool a.num.neg) (.slice a.num.A a.num.n a.num.c) (.bool a.den.neg) (.slice a.den.A a.den.n a.den.c) := by rw [hV0]; exact (((((Bk4.newAt _ _ (by first | omega | (simp; done) | (simp; omega)) _ _ _ _ _).alloc _).alloc _).alloc _).alloc _)
  have PB : Bk4 V0 (w.heap.size + 1) (.bool b.num.neg) (.slice b.num.A b.num.n b.num.c) (.bool b.den.neg) (.slice b.den.A b.den.n b.den.c) := by rw [hV0]; exact ((((Bk4.newAt _ _ (by first | omega | (simp; done) | (simp; omega)) _ _ _ _ _).alloc _).alloc _).alloc _)
  have PR : Bk4 V0 (w.heap.size + 2) (.bool false) (.slice none 0 0) (.bool false) (.slice none 0 0) := by rw [hV0]; exact (((Bk4.newAt _ _ (by first | omega | (simp; done) | (simp; omega)) _ _ _ _ _).alloc _).alloc _)
  have PF : Bk2 V0 (w.heap.size + 3) (.int .i64 0) (.int .i64 0) := by rw [hV0]; exact ((Bk2.newAt _ _ (by first | omega | (simp; done) | (simp; omega)) _ _ _).alloc _)
  replace RR : Hid (RRow V0 B (w.heap.size + 4) [a, b]) := by have h9 := RR.out; rw [hV0]; rw [show (((((w.alloc (.cells #[.bool a.num.neg, .slice a.num.A a.num.n a.num.c, .bool a.den.neg, .slice a.den.A a.den.n a.den.c] 26)).alloc (.cells #[.bool b.num.neg, .slice b.num.A b.num.n b.num.c, .bool b.den.neg, .slice b.den.A b.den.n b.den.c] 26)).alloc (.cells #[.bool false, .slice none 0 0, .bool false, .slice none 0 0] 26)).alloc (.cells #[.int .i64 0, .int .i64 0] 28))).heap.size = w.heap.size + 4 by simp] at h9; exact h9
  rw [← hV0]
  clear hV0
  replace E := E.trans (bV0.mono E.size)
  replace HA := HA.below bV0 (by omega)
  replace HC := HC.below bV0 (by omega)
  replace HB := HB.below bV0 (by omega)
  replace HD := HD.below bV0 (by omega)
  clear bV0
  (with_reducible refine (rcheck_any _ B (w.heap.size + 4) 2 [a, b] RR.out rfl (by omega) (by omega)).mono ?_)
  rintro e w1 ⟨rfl, hb1⟩
  have sw1 := hb1.size
  replace E := E.trans (hb1.mono E.size)
  replace HA := HA.below hb1 (by omega)
  replace HC := HC.below hb1 (by omega)
  replace HB := HB.below hb1 (by omega)
  replace HD := HD.below hb1 (by omega)
  replace PA := PA.below hb1 PA.lt
  replace PB := PB.below hb1 PB.lt
  replace PR := PR.below hb1 PR.lt
  replace PF := PF.below hb1 PF.lt
  clear hb1
  rw [hf]
  clear RR
  go_upto_region 4 with fail
  obtain ⟨V1, hV1⟩ : ∃ V1 : World, V1 = (w1.alloc (.cells #[.int .i64 0, .int .i64 0] 28)) := ⟨_, rfl⟩
  have bV1 : Below w1.heap.size w1 V1 := by rw [hV1]; (repeat (first | with_reducible exact Below.refl _ _ | with_reducible refine Below.drew ?_ | with_reducible refine below_drewN ?_ _ | with_reducible refine Below.setCell ?_ (by first | (simp; done) | (simp; omega) | omega) _ | with_reducible refine Below.alloc ?_ (by first | (simp; done) | (simp; omega) | omega) _))
  have zV1 : w1.heap.size + 1 ≤ V1.heap.size := by rw [hV1]; simp
  have F6 : Bk2 V1 (w1.heap.size) (.int .i64 0) (.int .i64 0) := by rw [hV1]; exact (Bk2.newAt _ _ (by first | omega | (simp; done) | (simp; omega)) _ _ _)
  rw [← hV1]
  clear hV1
  replace E := E.trans (bV1.mono E.size)
  replace HA := HA.below bV1 (by omega)
  replace HC := HC.below bV1 (by omega)
  replace HB := HB.below bV1 (by omega)
  replace HD := HD.below bV1 (by omega)
  replace PA := PA.below bV1 PA.lt
  replace PB := PB.below bV1 PB.lt
  replace PR := PR.below bV1 PR.lt
  replace PF := PF.below bV1 PF.lt
  clear bV1
  clear F6
  have lt_PA := PA.lt
  have lt_PB := PB.lt
  have HS := Lib.hid (fun (u : World) (hu : Below (w.heap.size + 2) V1 u) => (⟨(hu.cell (p := ⟨w.heap.size, 0, none⟩) (by show w.heap.size < _; omega)).trans PA.c0, (hu.cell (p := ⟨w.heap.size, 1, none⟩) (by show w.heap.size < _; omega)).trans PA.c1, (hu.cell (p := ⟨w.heap.size, 2, none⟩) (by show w.heap.size < _; omega)).trans PA.c2, (hu.cell (p := ⟨w.heap.size, 3, none⟩) (by show w.heap.size < _; omega)).trans PA.c3, (hu.cell (p := ⟨w.heap.size + 1, 0, none⟩) (by show w.heap.size + 1 < _; omega)).trans PB.c0, (hu.cell (p := ⟨w.heap.size + 1, 1, none⟩) (by show w.heap.size + 1 < _; omega)).trans PB.c1, (hu.cell (p := ⟨w.heap.size + 1, 2, none⟩) (by show w.heap.size + 1 < _; omega)).trans PB.c2, (hu.cell (p := ⟨w.heap.size + 1, 3, none⟩) (by show w.heap.size + 1 < _; omega)).trans PB.c3⟩ : u.cell? ⟨w.heap.size, 0, none⟩ = some (.bool a.num.neg) ∧ u.cell? ⟨w.heap.size, 1, none⟩ = some (.slice a.num.A a.num.n a.num.c) ∧ u.cell? ⟨w.heap.size, 2, none⟩ = some (.bool a.den.neg) ∧ u.cell? ⟨w.heap.size, 3, none⟩ = some (.slice a.den.A a.den.n a.den.c) ∧ u.cell? ⟨w.heap.size + 1, 0, none⟩ = some (.bool b.num.neg) ∧ u.cell? ⟨w.heap.size + 1, 1, none⟩ = some (.slice b.num.A b.num.n b.num.c) ∧ u.cell? ⟨w.heap.size + 1, 2, none⟩ = some (.bool b.den.neg) ∧ u.cell? ⟨w.heap.size + 1, 3, none⟩ = some (.slice b.den.A b.den.n b.den.c)))
  have G0 : Below V1.heap.size V1 V1.drew := Below.drew (Below.refl _ _)
  have g0s := G0.size
  have G0m : Below (w.heap.size + 2) V1 V1.drew := G0.mono (by omega)
  go_region_held3 (fun u => u.cell? ⟨w.heap.size, 0, none⟩ = some (.bool a.num.neg) ∧ u.cell? ⟨w.heap.size, 1, none⟩ = some (.slice a.num.A a.num.n a.num.c) ∧ u.cell? ⟨w.heap.size, 2, none⟩ = some (.bool a.den.neg) ∧ u.cell? ⟨w.heap.size, 3, none⟩ = some (.slice a.den.A a.den.n a.den.c) ∧ u.cell? ⟨w.heap.size + 1, 0, none⟩ = some (.bool b.num.neg) ∧ u.cell? ⟨w.heap.size + 1, 1, none⟩ = some (.slice b.num.A b.num.n b.num.c) ∧ u.cell? ⟨w.heap.size + 1, 2, none⟩ = some (.bool b.den.neg) ∧ u.cell? ⟨w.heap.size + 1, 3, none⟩ = some (.slice b.den.A b.den.n b.den.c)) (first | (refine HS.out _ ?_; (repeat (first | with_reducible exact G0m | with_reducible exact BN.mono (by omega) | with_reducible exact B2.mono (by omega) | with_reducible exact B1.mono (by omega) | with_reducible exact Below.refl _ _ | with_reducible refine Below.drew ?_ | with_reducible refine below_drewN ?_ _ | with_reducible refine Below.setCell ?_ (by first | (simp; done) | (simp; omega) | omega) _)); done) | fail)
    (first
      | (go_at_call 61; (with_reducible refine (rprod_i _ V1.heap.size a.num.neg b.num.neg a.num.A b.num.A a.num.n b.num.n a.num.c b.num.c a.num.xs b.num.xs na nb ((HA.below G0 (by omega)).more (by omega)) ((HB.below G0 (by omega)).more (by omega)) (by omega) IA.out IB.out b1.out b3.out (by have := t3.out; omega)).mono ?_); rintro e u1 ⟨m1, A1, k1, e1, x1, rfl, hl1, hr1, hb1⟩; have B1 : Below V1.heap.size V1 u1 := bnext G0 hb1; have R1 := Lib.hid hr1; clear hr1; have b1s := B1.size; have c1s := hb1.size)
      | (go_at_call 61; (with_reducible refine (rprod_i _ u1.heap.size a.den.neg b.den.neg a.den.A b.den.A a.den.n b.den.n a.den.c b.den.c a.den.xs b.den.xs da db ((HC.below B1 (by omega)).more (by omega)) ((HD.below B1 (by omega)).more (by omega)) (by omega) IC.out ID.out b2.out b4.out (by have := t4.out; omega)).mono ?_); rintro e u2 ⟨m2, A2, k2, e2, x2, rfl, hl2, hr2, hb2⟩; have hl1q := hl1.below hb2 (Nat.le_refl _); have B2 : Below V1.heap.size V1 u2 := bnext B1 hb2; have R2 := Lib.hid hr2; clear hr2; have b2s := B2.size; have c2s := hb2.size)
      | (go_at_call 59; (with_reducible refine (quotient_i _ u2.heap.size m1 m2 A1 A2 k1 k2 e1 e2 x1 x2 (na * nb) (da * db) (hl1q.more (by omega)) hl2 (Nat.le_refl _) R1.out R2.out (by have := t3.out; omega) (by have := t4.out; omega) d0.out).mono ?_); rintro e u9 hq9; obtain ⟨q1, q2, g1, g2, hqi, m7, A7, k7, e7, x7, m8, A8, k8, e8, x8, rfl, hl7, hl8, hi7, hi8, hb9⟩ := quo_is hq9; clear hq9; have QQ := Lib.hid hqi; have I7 := Lib.hid hi7; have I8 := Lib.hid hi8; clear hqi hi7 hi8; have BN : Below V1.heap.size V1 u9 := bnext B2 hb9; have PRq := PR.below BN PR.lt; have PFq := PF.below BN PF.lt; obtain ⟨r0, r1, r2, r3, y0, y1, y2, y3, _⟩ := PRq; obtain ⟨f0, f1, z0, z1, _⟩ := PFq)
      | fail)
  all_goals (go_wp2_with fail)
  all_goals
    have pr2 : Bk4 u9 (w.heap.size + 2) (.bool false) (.slice none 0 0) (.bool false) (.slice none 0 0) := ⟨r0, r1, r2, r3, y0, y1, y2, y3, by have := BN.size; have := PR.lt; omega⟩
    have pf2 : Bk2 u9 (w.heap.size + 3) (.int .i64 0) (.int .i64 0) := ⟨f0, f1, z0, z1, by have := BN.size; have := PF.lt; omega⟩
    refine bodyPost_ret (v := .tuple #[ratv m7 A7 k7 e7 m8 A8 k8 e8, flt g1 g2]) (by simp [results, Tryz.results11, go_sem, r0, r1, r2, r3, f0, f1]) rfl ?_
    have EW := E.trans (BN.mono E.size)
    refine quo_more QQ.out ⟨m7, A7, k7, e7, x7, m8, A8, k8, e8, x8, rfl, ?_, ?_, I7.out, I8.out, ?_⟩
    · first | with_reducible exact lrd_six hl7 pr2 pf2 (by omega) _ _ _ _ _ _ | with_reducible exact LRd.more (LRd.drew (lrd_six' hl7 pr2 pf2 (by omega) _ _ _ _ _ _)) (by simp [World.setCell])
    · first | with_reducible exact lrd_six hl8 pr2 pf2 (by omega) _ _ _ _ _ _ | with_reducible exact LRd.more (LRd.drew (lrd_six' hl8 pr2 pf2 (by omega) _ _ _ _ _ _)) (by simp [World.setCell])
    · (repeat (first | with_reducible exact EW | with_reducible refine Below.drew ?_ | with_reducible refine below_drewN ?_ _ | with_reducible refine Below.setCell ?_ (by first | (simp; done) | (simp; omega) | omega) _))
end Go.Proofs.YtdhdkknaagadaaaGreat

namespace Go.Proofs.YtdhdkknaagadaaaGreat
open Go.RowKit
set_option maxHeartbeats 400000
set_option maxRecDepth 100000
set_option linter.unusedSimpArgs false
set_option linter.unusedVariables false

theorem rv_at {w : World} {B : Nat} {r : RV} (h : LRd w B r.num.A r.num.n r.num.c r.num.xs) (k : LRd w B r.den.A r.den.n r.den.c r.den.xs) : r.at w B := ⟨h, k⟩
set_option maxHeartbeats 8000000 in
theorem rsub_ok (w : World) (B : Nat) (a b : RV) (H1 : a.at w B) (H2 : b.at w B) (hB : B ≤ w.heap.size) (oa : a.ok = true) (ob : b.ok = true) :
    Calls Tryz.prog 10 #[a.v, b.v] w (GivesQuo w (decide (a.num.val * b.den.val - b.num.val * a.den.val < 0) != decide (a.den.val * b.den.val < 0)) (a.num.val * b.den.val - b.num.val * a.den.val).natAbs (a.den.val * b.den.val).natAbs) := by
  have VA := RV.val oa H1
  have VB := RV.val ob H2
  have hf := rtwo_ok oa ob
  have IA := Lib.hid VA.num
  have IC := Lib.hid VA.den
  have IB := Lib.hid VB.num
  have ID := Lib.hid VB.den
  have b1 := Lib.hid (top_big1 VA.bn)
  have b2 := Lib.hid (top_big1 VA.bd)
  have b3 := Lib.hid (top_big1 VB.bn)
  have b4 := Lib.hid (top_big1 VB.bd)
  have t1 := Lib.hid (show (a.num.val * b.den.val).natAbs * 4 < Big by rw [Int.natAbs_mul]; exact top_sq_big VA.bn VB.bd)
  have t2 := Lib.hid (show (b.num.val * a.den.val).natAbs * 4 < Big by rw [Int.natAbs_mul]; exact top_sq_big VB.bn VA.bd)
  have t3 := Lib.hid (show (a.num.val * b.num.val).natAbs * 4 < Big by rw [Int.natAbs_mul]; exact top_sq_big VA.bn VB.bn)
  have t4 := Lib.hid (show (a.den.val * b.den.val).natAbs * 4 < Big by rw [Int.natAbs_mul]; exact top_sq_big VA.bd VB.bd)
  have d0 := Lib.hid (show a.den.val * b.den.val ≠ 0 from Int.ne_of_gt (Int.mul_pos VA.pos VB.pos))
  obtain ⟨na, hna⟩ : ∃ z, z = a.num.val := ⟨_, rfl⟩
  obtain ⟨da, hda⟩ : ∃ z, z = a.den.val := ⟨_, rfl⟩
  obtain ⟨nb, hnb⟩ : ∃ z, z = b.num.val := ⟨_, rfl⟩
  obtain ⟨db, hdb⟩ : ∃ z, z = b.den.val := ⟨_, rfl⟩
  clear VA VB oa ob
  rw [← hna] at IA b1 t1 t3 ⊢
  rw [← hda] at IC b2 t2 t4 d0 ⊢
  rw [← hnb] at IB b3 t2 t3 ⊢
  rw [← hdb] at ID b4 t1 t4 d0 ⊢
  clear hna hda hnb hdb
  have bbase : Below w.heap.size w ((((w.alloc (.cells #[.bool a.num.neg, .slice a.num.A a.num.n a.num.c, .bool a.den.neg, .slice a.den.A a.den.n a.den.c] 26)).alloc (.cells #[.bool b.num.neg, .slice b.num.A b.num.n b.num.c, .bool b.den.neg, .slice b.den.A b.den.n b.den.c] 26)).alloc (.cells #[.bool false, .slice none 0 0, .bool false, .slice none 0 0] 26)).alloc (.cells #[.int .i64 0, .int .i64 0] 28)) := (((bl1 w _).alloc (by simp) _).alloc (by simp; omega) _).alloc (by simp; omega) _
  have HA : LRd w B a.num.A a.num.n a.num.c a.num.xs := H1.1
  have HC : LRd w B a.den.A a.den.n a.den.c a.den.xs := H1.2
  have HB : LRd w B b.num.A b.num.n b.num.c b.num.xs := H2.1
  have HD : LRd w B b.den.A b.den.n b.den.c b.den.xs := H2.2
  have E : Below w.heap.size w w := Below.refl _ _
  have RR := Lib.hid (rrow2 ((((w.alloc (.cells #[.bool a.num.neg, .slice a.num.A a.num.n a.num.c, .bool a.den.neg, .slice a.den.A a.den.n a.den.c] 26)).alloc (.cells #[.bool b.num.neg, .slice b.num.A b.num.n b.num.c, .bool b.den.neg, .slice b.den.A b.den.n b.den.c] 26)).alloc (.cells #[.bool false, .slice none 0 0, .bool false, .slice none 0 0] 26)).alloc (.cells #[.int .i64 0, .int .i64 0] 28)) B a b (RV.at.below H1 bbase (by omega)) (RV.at.below H2 bbase (by omega)) (by simp; omega))
  clear bbase
  go_enter Tryz.func10, Tryz.ntmps10
  go_wp2_with fail
  obtain ⟨V0, hV0⟩ : ∃ V0 : World, V0 = (((((w.alloc (.cells #[.bool a.num.neg, .slice a.num.A a.num.n a.num.c, .bool a.den.neg, .slice a.den.A a.den.n a.den.c] 26)).alloc (.cells #[.bool b.num.neg, .slice b.num.A b.num.n b.num.c, .bool b.den.neg, .slice b.den.A b.den.n b.den.c] 26)).alloc (.cells #[.bool false, .slice none 0 0, .bool false, .slice none 0 0] 26)).alloc (.cells #[.int .i64 0, .int .i64 0] 28)).alloc (.cells #[.bool a.num.neg, .slice a.num.A a.num.n a.num.c, .bool a.den.neg, .slice a.den.A a.den.n a.den.c, .bool b.num.neg, .slice b.num.A b.num.n b.num.c, .bool b.den.neg, .slice b.den.A b.den.n b.den.c] 26)) := ⟨_, rfl⟩
  have bV0 : Below w.heap.size w V0 := by rw [hV0]; (repeat (first | with_reducible exact Below.refl _ _ | with_reducible refine Below.drew ?_ | with_reducible refine below_drewN ?_ _ | with_reducible refine Below.setCell ?_ (by first | (simp; done) | (simp; omega) | omega) _ | with_reducible refine Below.alloc ?_ (by first | (simp; done) | (simp; omega) | omega) _))
  have zV0 : w.heap.size + 5 ≤ V0.heap.size := by rw [hV0]; simp
  have PA : Bk4 V0 (w.heap.size) (.bool a.num.neg) (.slice a.num.A a.num.n a.num.c) (.bool a.den.neg) (.slice a.den.A a.den.n a.den.c) := by rw [hV0]; exact (((((Bk4.newAt _ _ (by first | omega | (simp; done) | (simp; omega)) _ _ _ _ _).alloc _).alloc _).alloc _).alloc _)
  have PB : Bk4 V0 (w.heap.size + 1) (.bool b.num.neg) (.slice b.num.A b.num.n b.num.c) (.bool b.den.neg) (.slice b.den.A b.den.n b.den.c) := by rw [hV0]; exact ((((Bk4.newAt _ _ (by first | omega | (simp; done) | (simp; omega)) _ _ _ _ _).alloc _).alloc _).alloc _)
  have PR : Bk4 V0 (w.heap.size + 2) (.bool false) (.slice none 0 0) (.bool false) (.slice none 0 0) := by rw [hV0]; exact (((Bk4.newAt _ _ (by first | omega | (simp; done) | (simp; omega)) _ _ _ _ _).alloc _).alloc _)
  have PF : Bk2 V0 (w.heap.size + 3) (.int .i64 0) (.int .i64 0) := by rw [hV0]; exact ((Bk2.newAt _ _ (by first | omega | (simp; done) | (simp; omega)) _ _ _).alloc _)
  replace RR : Hid (RRow V0 B (w.heap.size + 4) [a, b]) := by have h9 := RR.out; rw [hV0]; rw [show (((((w.alloc (.cells #[.bool a.num.neg, .slice a.num.A a.num.n a.num.c, .bool a.den.neg, .slice a.den.A a.den.n a.den.c] 26)).alloc (.cells #[.bool b.num.neg, .slice b.num.A b.num.n b.num.c, .bool b.den.neg, .slice b.den.A b.den.n b.den.c] 26)).alloc (.cells #[.bool false, .slice none 0 0, .bool false, .slice none 0 0] 26)).alloc (.cells #[.int .i64 0, .int .i64 0] 28))).heap.size = w.heap.size + 4 by simp] at h9; exact h9
  rw [← hV0]
  clear hV0
  replace E := E.trans (bV0.mono E.size)
  replace HA := HA.below bV0 (by omega)
  replace HC := HC.below bV0 (by omega)
  replace HB := HB.below bV0 (by omega)
  replace HD := HD.below bV0 (by omega)
  clear bV0
  (with_reducible refine (rcheck_any _ B (w.heap.size + 4) 2 [a, b] RR.out rfl (by omega) (by omega)).mono ?_)
  rintro e w1 ⟨rfl, hb1⟩
  have sw1 := hb1.size
  replace E := E.trans (hb1.mono E.size)
  replace HA := HA.below hb1 (by omega)
  replace HC := HC.below hb1 (by omega)
  replace HB := HB.below hb1 (by omega)
  replace HD := HD.below hb1 (by omega)
  replace PA := PA.below hb1 PA.lt
  replace PB := PB.below hb1 PB.lt
  replace PR := PR.below hb1 PR.lt
  replace PF := PF.below hb1 PF.lt
  clear hb1
  rw [hf]
  clear RR
  go_upto_region 4 with fail
  obtain ⟨V1, hV1⟩ : ∃ V1 : World, V1 = (w1.alloc (.cells #[.int .i64 0, .int .i64 0] 28)) := ⟨_, rfl⟩
  have bV1 : Below w1.heap.size w1 V1 := by rw [hV1]; (repeat (first | with_reducible exact Below.refl _ _ | with_reducible refine Below.drew ?_ | with_reducible refine below_drewN ?_ _ | with_reducible refine Below.setCell ?_ (by first | (simp; done) | (simp; omega) | omega) _ | with_reducible refine Below.alloc ?_ (by first | (simp; done) | (simp; omega) | omega) _))
  have zV1 : w1.heap.size + 1 ≤ V1.heap.size := by rw [hV1]; simp
  have F6 : Bk2 V1 (w1.heap.size) (.int .i64 0) (.int .i64 0) := by rw [hV1]; exact (Bk2.newAt _ _ (by first | omega | (simp; done) | (simp; omega)) _ _ _)
  rw [← hV1]
  clear hV1
  replace E := E.trans (bV1.mono E.size)
  replace HA := HA.below bV1 (by omega)
  replace HC := HC.below bV1 (by omega)
  replace HB := HB.below bV1 (by omega)
  replace HD := HD.below bV1 (by omega)
  replace PA := PA.below bV1 PA.lt
  replace PB := PB.below bV1 PB.lt
  replace PR := PR.below bV1 PR.lt
  replace PF := PF.below bV1 PF.lt
  clear bV1
  clear F6
  have lt_PA := PA.lt
  have lt_PB := PB.lt
  have HS := Lib.hid (fun (u : World) (hu : Below (w.heap.size + 2) V1 u) => (⟨(hu.cell (p := ⟨w.heap.size, 0, none⟩) (by show w.heap.size < _; omega)).trans PA.c0, (hu.cell (p := ⟨w.heap.size, 1, none⟩) (by show w.heap.size < _; omega)).trans PA.c1, (hu.cell (p := ⟨w.heap.size, 2, none⟩) (by show w.heap.size < _; omega)).trans PA.c2, (hu.cell (p := ⟨w.heap.size, 3, none⟩) (by show w.heap.size < _; omega)).trans PA.c3, (hu.cell (p := ⟨w.heap.size + 1, 0, none⟩) (by show w.heap.size + 1 < _; omega)).trans PB.c0, (hu.cell (p := ⟨w.heap.size + 1, 1, none⟩) (by show w.heap.size + 1 < _; omega)).trans PB.c1, (hu.cell (p := ⟨w.heap.size + 1, 2, none⟩) (by show w.heap.size + 1 < _; omega)).trans PB.c2, (hu.cell (p := ⟨w.heap.size + 1, 3, none⟩) (by show w.heap.size + 1 < _; omega)).trans PB.c3⟩ : u.cell? ⟨w.heap.size, 0, none⟩ = some (.bool a.num.neg) ∧ u.cell? ⟨w.heap.size, 1, none⟩ = some (.slice a.num.A a.num.n a.num.c) ∧ u.cell? ⟨w.heap.size, 2, none⟩ = some (.bool a.den.neg) ∧ u.cell? ⟨w.heap.size, 3, none⟩ = some (.slice a.den.A a.den.n a.den.c) ∧ u.cell? ⟨w.heap.size + 1, 0, none⟩ = some (.bool b.num.neg) ∧ u.cell? ⟨w.heap.size + 1, 1, none⟩ = some (.slice b.num.A b.num.n b.num.c) ∧ u.cell? ⟨w.heap.size + 1, 2, none⟩ = some (.bool b.den.neg) ∧ u.cell? ⟨w.heap.size + 1, 3, none⟩ = some (.slice b.den.A b.den.n b.den.c)))
  have G0 : Below V1.heap.size V1 V1.drew := Below.drew (Below.refl _ _)
  have g0s := G0.size
  have G0m : Below (w.heap.size + 2) V1 V1.drew := G0.mono (by omega)
  go_region_held3 (fun u => u.cell? ⟨w.heap.size, 0, none⟩ = some (.bool a.num.neg) ∧ u.cell? ⟨w.heap.size, 1, none⟩ = some (.slice a.num.A a.num.n a.num.c) ∧ u.cell? ⟨w.heap.size, 2, none⟩ = some (.bool a.den.neg) ∧ u.cell? ⟨w.heap.size, 3, none⟩ = some (.slice a.den.A a.den.n a.den.c) ∧ u.cell? ⟨w.heap.size + 1, 0, none⟩ = some (.bool b.num.neg) ∧ u.cell? ⟨w.heap.size + 1, 1, none⟩ = some (.slice b.num.A b.num.n b.num.c) ∧ u.cell? ⟨w.heap.size + 1, 2, none⟩ = some (.bool b.den.neg) ∧ u.cell? ⟨w.heap.size + 1, 3, none⟩ = some (.slice b.den.A b.den.n b.den.c)) (first | (refine HS.out _ ?_; (repeat (first | with_reducible exact G0m | with_reducible exact BN.mono (by omega) | with_reducible exact B2.mono (by omega) | with_reducible exact B1.mono (by omega) | with_reducible exact Below.refl _ _ | with_reducible refine Below.drew ?_ | with_reducible refine below_drewN ?_ _ | with_reducible refine Below.setCell ?_ (by first | (simp; done) | (simp; omega) | omega) _)); done) | fail)
    (first
      | (go_at_call 60; (with_reducible refine (gap_any _ V1.heap.size a b na da nb db (rv_at ((HA.below G0 (by omega)).more (by omega)) ((HC.below G0 (by omega)).more (by omega))) (rv_at ((HB.below G0 (by omega)).more (by omega)) ((HD.below G0 (by omega)).more (by omega))) (by omega) IA IC IB ID b1 b2 b3 b4 (Lib.hid (by have := t1.out; omega)) (Lib.hid (by have := t2.out; omega)) (Lib.hid (by have := t1.out; have := t2.out; omega))).mono ?_); rintro e u1 ⟨m1, A1, k1, e1, x1, rfl, hl1, hr1, hb1⟩; have B1 : Below V1.heap.size V1 u1 := bnext G0 hb1; have R1 := Lib.hid hr1; clear hr1; have b1s := B1.size)
      | (go_at_call 61; (with_reducible refine (rprod_i _ u1.heap.size a.den.neg b.den.neg a.den.A b.den.A a.den.n b.den.n a.den.c b.den.c a.den.xs b.den.xs da db ((HC.below B1 (by omega)).more (by omega)) ((HD.below B1 (by omega)).more (by omega)) (by omega) IC.out ID.out b2.out b4.out (by have := t4.out; omega)).mono ?_); rintro e u2 ⟨m2, A2, k2, e2, x2, rfl, hl2, hr2, hb2⟩; have hl1q := hl1.below hb2 (Nat.le_refl _); have B2 : Below V1.heap.size V1 u2 := bnext B1 hb2; have R2 := Lib.hid hr2; clear hr2; have b2s := B2.size; have c2s := hb2.size)
      | (go_at_call 59; (with_reducible refine (quotient_i _ u2.heap.size m1 m2 A1 A2 k1 k2 e1 e2 x1 x2 (na * db - nb * da) (da * db) (hl1q.more (by omega)) hl2 (Nat.le_refl _) R1.out R2.out (by have := t1.out; have := t2.out; omega) (by have := t4.out; omega) d0.out).mono ?_); rintro e u9 hq9; obtain ⟨q1, q2, g1, g2, hqi, m7, A7, k7, e7, x7, m8, A8, k8, e8, x8, rfl, hl7, hl8, hi7, hi8, hb9⟩ := quo_is hq9; clear hq9; have QQ := Lib.hid hqi; have I7 := Lib.hid hi7; have I8 := Lib.hid hi8; clear hqi hi7 hi8; have BN : Below V1.heap.size V1 u9 := bnext B2 hb9; have PRq := PR.below BN PR.lt; have PFq := PF.below BN PF.lt; obtain ⟨r0, r1, r2, r3, y0, y1, y2, y3, _⟩ := PRq; obtain ⟨f0, f1, z0, z1, _⟩ := PFq)
      | fail)
  all_goals (go_wp2_with fail)
  all_goals
    have pr2 : Bk4 u9 (w.heap.size + 2) (.bool false) (.slice none 0 0) (.bool false) (.slice none 0 0) := ⟨r0, r1, r2, r3, y0, y1, y2, y3, by have := BN.size; have := PR.lt; omega⟩
    have pf2 : Bk2 u9 (w.heap.size + 3) (.int .i64 0) (.int .i64 0) := ⟨f0, f1, z0, z1, by have := BN.size; have := PF.lt; omega⟩
    refine bodyPost_ret (v := .tuple #[ratv m7 A7 k7 e7 m8 A8 k8 e8, flt g1 g2]) (by simp [results, Tryz.results10, go_sem, r0, r1, r2, r3, f0, f1]) rfl ?_
    have EW := E.trans (BN.mono E.size)
    refine quo_more QQ.out ⟨m7, A7, k7, e7, x7, m8, A8, k8, e8, x8, rfl, ?_, ?_, I7.out, I8.out, ?_⟩
    · first | with_reducible exact lrd_six hl7 pr2 pf2 (by omega) _ _ _ _ _ _ | with_reducible exact LRd.more (LRd.drew (lrd_six' hl7 pr2 pf2 (by omega) _ _ _ _ _ _)) (by simp [World.setCell])
    · first | with_reducible exact lrd_six hl8 pr2 pf2 (by omega) _ _ _ _ _ _ | with_reducible exact LRd.more (LRd.drew (lrd_six' hl8 pr2 pf2 (by omega) _ _ _ _ _ _)) (by simp [World.setCell])
    · (repeat (first | with_reducible exact EW | with_reducible refine Below.drew ?_ | with_reducible refine below_drewN ?_ _ | with_reducible refine Below.setCell ?_ (by first | (simp; done) | (simp; omega) | omega) _))
end Go.Proofs.YtdhdkknaagadaaaGreat

namespace Go.Proofs.YtdhdkknaagadaaaGreat
open Go.RowKit
set_option maxHeartbeats 400000
set_option maxRecDepth 100000
set_option linter.unusedSimpArgs false
set_option linter.unusedVariables false

theorem IRep.len0 {m : Bool} {xs : List Nat} {z : Int} (h : IRep m xs z) : xs.length = 0 ↔ z = 0 := by
  have hr := h.rep
  constructor
  · intro e
    have e1 : xs = [] := List.length_eq_zero_iff.mp e
    have e2 : vb 4294967296 xs = z.natAbs := hr.val
    rw [e1] at e2
    have e3 : vb 4294967296 [] = 0 := rfl
    omega
  · intro e
    have h6 := hr.length_le (m := 0) (by decide) (by rw [e]; exact Nat.one_pos)
    omega
set_option maxHeartbeats 8000000 in
theorem rdiv_ok (w : World) (B : Nat) (a b : RV) (H1 : a.at w B) (H2 : b.at w B) (hB : B ≤ w.heap.size) (oa : a.ok = true) (ob : b.ok = true) (hz : b.num.val ≠ 0) :
    Calls Tryz.prog 12 #[a.v, b.v] w (GivesQuo w (decide (a.num.val * b.den.val < 0) != decide (a.den.val * b.num.val < 0)) (a.num.val * b.den.val).natAbs (a.den.val * b.num.val).natAbs) := by
  have VA := RV.val oa H1
  have VB := RV.val ob H2
  have hf := rtwo_ok oa ob
  have IA := Lib.hid VA.num
  have IC := Lib.hid VA.den
  have IB := Lib.hid VB.num
  have ID := Lib.hid VB.den
  have b1 := Lib.hid (top_big1 VA.bn)
  have b2 := Lib.hid (top_big1 VA.bd)
  have b3 := Lib.hid (top_big1 VB.bn)
  have b4 := Lib.hid (top_big1 VB.bd)
  have t1 := Lib.hid (show (a.num.val * b.den.val).natAbs * 4 < Big by rw [Int.natAbs_mul]; exact top_sq_big VA.bn VB.bd)
  have t2 := Lib.hid (show (b.num.val * a.den.val).natAbs * 4 < Big by rw [Int.natAbs_mul]; exact top_sq_big VB.bn VA.bd)
  have t3 := Lib.hid (show (a.num.val * b.num.val).natAbs * 4 < Big by rw [Int.natAbs_mul]; exact top_sq_big VA.bn VB.bn)
  have t4 := Lib.hid (show (a.den.val * b.num.val).natAbs * 4 < Big by rw [Int.natAbs_mul]; exact top_sq_big VA.bd VB.bn)
  have hl0 : b.num.xs.length ≠ 0 := fun h => hz ((IRep.len0 VB.num).1 h)
  have hz9 : decide (b.num.n = 0) = false := by have h7 := H2.1.len.out; rw [decide_eq_false_iff_not]; omega
  have hDA := VA.pos
  have d0 := Lib.hid (show a.den.val * b.num.val ≠ 0 from Int.mul_ne_zero (by omega) hz)
  clear hDA
  obtain ⟨na, hna⟩ : ∃ z, z = a.num.val := ⟨_, rfl⟩
  obtain ⟨da, hda⟩ : ∃ z, z = a.den.val := ⟨_, rfl⟩
  obtain ⟨nb, hnb⟩ : ∃ z, z = b.num.val := ⟨_, rfl⟩
  obtain ⟨db, hdb⟩ : ∃ z, z = b.den.val := ⟨_, rfl⟩
  clear VA VB oa ob
  rw [← hna] at IA b1 t1 t3 ⊢
  rw [← hda] at IC b2 t2 t4 d0 ⊢
  rw [← hnb] at IB b3 t2 t3 t4 d0 hz ⊢
  rw [← hdb] at ID b4 t1 ⊢
  clear hna hda hnb hdb
  have bbase : Below w.heap.size w ((((w.alloc (.cells #[.bool a.num.neg, .slice a.num.A a.num.n a.num.c, .bool a.den.neg, .slice a.den.A a.den.n a.den.c] 26)).alloc (.cells #[.bool b.num.neg, .slice b.num.A b.num.n b.num.c, .bool b.den.neg, .slice b.den.A b.den.n b.den.c] 26)).alloc (.cells #[.bool false, .slice none 0 0, .bool false, .slice none 0 0] 26)).alloc (.cells #[.int .i64 0, .int .i64 0] 28)) := (((bl1 w _).alloc (by simp) _).alloc (by simp; omega) _).alloc (by simp; omega) _
  have HA : LRd w B a.num.A a.num.n a.num.c a.num.xs := H1.1
  have HC : LRd w B a.den.A a.den.n a.den.c a.den.xs := H1.2
  have HB : LRd w B b.num.A b.num.n b.num.c b.num.xs := H2.1
  have HD : LRd w B b.den.A b.den.n b.den.c b.den.xs := H2.2
  have E : Below w.heap.size w w := Below.refl _ _
  have RR := Lib.hid (rrow2 ((((w.alloc (.cells #[.bool a.num.neg, .slice a.num.A a.num.n a.num.c, .bool a.den.neg, .slice a.den.A a.den.n a.den.c] 26)).alloc (.cells #[.bool b.num.neg, .slice b.num.A b.num.n b.num.c, .bool b.den.neg, .slice b.den.A b.den.n b.den.c] 26)).alloc (.cells #[.bool false, .slice none 0 0, .bool false, .slice none 0 0] 26)).alloc (.cells #[.int .i64 0, .int .i64 0] 28)) B a b (RV.at.below H1 bbase (by omega)) (RV.at.below H2 bbase (by omega)) (by simp; omega))
  clear bbase
  go_enter Tryz.func12, Tryz.ntmps12
  go_wp2_with fail
  obtain ⟨V0, hV0⟩ : ∃ V0 : World, V0 = (((((w.alloc (.cells #[.bool a.num.neg, .slice a.num.A a.num.n a.num.c, .bool a.den.neg, .slice a.den.A a.den.n a.den.c] 26)).alloc (.cells #[.bool b.num.neg, .slice b.num.A b.num.n b.num.c, .bool b.den.neg, .slice b.den.A b.den.n b.den.c] 26)).alloc (.cells #[.bool false, .slice none 0 0, .bool false, .slice none 0 0] 26)).alloc (.cells #[.int .i64 0, .int .i64 0] 28)).alloc (.cells #[.bool a.num.neg, .slice a.num.A a.num.n a.num.c, .bool a.den.neg, .slice a.den.A a.den.n a.den.c, .bool b.num.neg, .slice b.num.A b.num.n b.num.c, .bool b.den.neg, .slice b.den.A b.den.n b.den.c] 26)) := ⟨_, rfl⟩
  have bV0 : Below w.heap.size w V0 := by rw [hV0]; (repeat (first | with_reducible exact Below.refl _ _ | with_reducible refine Below.drew ?_ | with_reducible refine below_drewN ?_ _ | with_reducible refine Below.setCell ?_ (by first | (simp; done) | (simp; omega) | omega) _ | with_reducible refine Below.alloc ?_ (by first | (simp; done) | (simp; omega) | omega) _))
  have zV0 : w.heap.size + 5 ≤ V0.heap.size := by rw [hV0]; simp
  have PA : Bk4 V0 (w.heap.size) (.bool a.num.neg) (.slice a.num.A a.num.n a.num.c) (.bool a.den.neg) (.slice a.den.A a.den.n a.den.c) := by rw [hV0]; exact (((((Bk4.newAt _ _ (by first | omega | (simp; done) | (simp; omega)) _ _ _ _ _).alloc _).alloc _).alloc _).alloc _)
  have PB : Bk4 V0 (w.heap.size + 1) (.bool b.num.neg) (.slice b.num.A b.num.n b.num.c) (.bool b.den.neg) (.slice b.den.A b.den.n b.den.c) := by rw [hV0]; exact ((((Bk4.newAt _ _ (by first | omega | (simp; done) | (simp; omega)) _ _ _ _ _).alloc _).alloc _).alloc _)
  have PR : Bk4 V0 (w.heap.size + 2) (.bool false) (.slice none 0 0) (.bool false) (.slice none 0 0) := by rw [hV0]; exact (((Bk4.newAt _ _ (by first | omega | (simp; done) | (simp; omega)) _ _ _ _ _).alloc _).alloc _)
  have PF : Bk2 V0 (w.heap.size + 3) (.int .i64 0) (.int .i64 0) := by rw [hV0]; exact ((Bk2.newAt _ _ (by first | omega | (simp; done) | (simp; omega)) _ _ _).alloc _)
  replace RR : Hid (RRow V0 B (w.heap.size + 4) [a, b]) := by have h9 := RR.out; rw [hV0]; rw [show (((((w.alloc (.cells #[.bool a.num.neg, .slice a.num.A a.num.n a.num.c, .bool a.den.neg, .slice a.den.A a.den.n a.den.c] 26)).alloc (.cells #[.bool b.num.neg, .slice b.num.A b.num.n b.num.c, .bool b.den.neg, .slice b.den.A b.den.n b.den.c] 26)).alloc (.cells #[.bool false, .slice none 0 0, .bool false, .slice none 0 0] 26)).alloc (.cells #[.int .i64 0, .int .i64 0] 28))).heap.size = w.heap.size + 4 by simp] at h9; exact h9
  rw [← hV0]
  clear hV0
  replace E := E.trans (bV0.mono E.size)
  replace HA := HA.below bV0 (by omega)
  replace HC := HC.below bV0 (by omega)
  replace HB := HB.below bV0 (by omega)
  replace HD := HD.below bV0 (by omega)
  clear bV0
  (with_reducible refine (rcheck_any _ B (w.heap.size + 4) 2 [a, b] RR.out rfl (by omega) (by omega)).mono ?_)
  rintro e w1 ⟨rfl, hb1⟩
  have sw1 := hb1.size
  replace E := E.trans (hb1.mono E.size)
  replace HA := HA.below hb1 (by omega)
  replace HC := HC.below hb1 (by omega)
  replace HB := HB.below hb1 (by omega)
  replace HD := HD.below hb1 (by omega)
  replace PA := PA.below hb1 PA.lt
  replace PB := PB.below hb1 PB.lt
  replace PR := PR.below hb1 PR.lt
  replace PF := PF.below hb1 PF.lt
  clear hb1
  rw [hf]
  clear RR
  have t_PB0 : (w1.alloc (.cells #[.int .i64 0, .int .i64 0] 28)).cell? ⟨w.heap.size + 1, 0, none⟩ = some ((.bool b.num.neg)) := (PB.alloc _).c0
  have t_PB1 : (w1.alloc (.cells #[.int .i64 0, .int .i64 0] 28)).cell? ⟨w.heap.size + 1, 1, none⟩ = some ((.slice b.num.A b.num.n b.num.c)) := (PB.alloc _).c1
  have t_PB2 : (w1.alloc (.cells #[.int .i64 0, .int .i64 0] 28)).cell? ⟨w.heap.size + 1, 2, none⟩ = some ((.bool b.den.neg)) := (PB.alloc _).c2
  have t_PB3 : (w1.alloc (.cells #[.int .i64 0, .int .i64 0] 28)).cell? ⟨w.heap.size + 1, 3, none⟩ = some ((.slice b.den.A b.den.n b.den.c)) := (PB.alloc _).c3
  go_wp2_with fail
  clear t_PB0 t_PB1 t_PB2 t_PB3
  obtain ⟨V1, hV1⟩ : ∃ V1 : World, V1 = (w1.alloc (.cells #[.int .i64 0, .int .i64 0] 28)) := ⟨_, rfl⟩
  have bV1 : Below w1.heap.size w1 V1 := by rw [hV1]; (repeat (first | with_reducible exact Below.refl _ _ | with_reducible refine Below.drew ?_ | with_reducible refine below_drewN ?_ _ | with_reducible refine Below.setCell ?_ (by first | (simp; done) | (simp; omega) | omega) _ | with_reducible refine Below.alloc ?_ (by first | (simp; done) | (simp; omega) | omega) _))
  have zV1 : w1.heap.size + 1 ≤ V1.heap.size := by rw [hV1]; simp
  have F6 : Bk2 V1 (w1.heap.size) (.int .i64 0) (.int .i64 0) := by rw [hV1]; exact (Bk2.newAt _ _ (by first | omega | (simp; done) | (simp; omega)) _ _ _)
  rw [← hV1]
  clear hV1
  replace E := E.trans (bV1.mono E.size)
  replace HA := HA.below bV1 (by omega)
  replace HC := HC.below bV1 (by omega)
  replace HB := HB.below bV1 (by omega)
  replace HD := HD.below bV1 (by omega)
  replace PA := PA.below bV1 PA.lt
  replace PB := PB.below bV1 PB.lt
  replace PR := PR.below bV1 PR.lt
  replace PF := PF.below bV1 PF.lt
  clear bV1
  clear F6
  (with_reducible refine (isZero_any _ b.num.neg b.num.A b.num.n b.num.c (by have := HB.cap; omega)).mono ?_)
  rintro e w2 ⟨rfl, hb2⟩
  have sw2 := hb2.size
  replace E := E.trans (hb2.mono E.size)
  replace HA := HA.below hb2 (by omega)
  replace HC := HC.below hb2 (by omega)
  replace HB := HB.below hb2 (by omega)
  replace HD := HD.below hb2 (by omega)
  replace PA := PA.below hb2 PA.lt
  replace PB := PB.below hb2 PB.lt
  replace PR := PR.below hb2 PR.lt
  replace PF := PF.below hb2 PF.lt
  clear hb2
  rw [hz9]
  clear hz9
  go_upto_region 6 with fail
  have lt_PA := PA.lt
  have lt_PB := PB.lt
  have HS := Lib.hid (fun (u : World) (hu : Below (w.heap.size + 2) w2 u) => (⟨(hu.cell (p := ⟨w.heap.size, 0, none⟩) (by show w.heap.size < _; omega)).trans PA.c0, (hu.cell (p := ⟨w.heap.size, 1, none⟩) (by show w.heap.size < _; omega)).trans PA.c1, (hu.cell (p := ⟨w.heap.size, 2, none⟩) (by show w.heap.size < _; omega)).trans PA.c2, (hu.cell (p := ⟨w.heap.size, 3, none⟩) (by show w.heap.size < _; omega)).trans PA.c3, (hu.cell (p := ⟨w.heap.size + 1, 0, none⟩) (by show w.heap.size + 1 < _; omega)).trans PB.c0, (hu.cell (p := ⟨w.heap.size + 1, 1, none⟩) (by show w.heap.size + 1 < _; omega)).trans PB.c1, (hu.cell (p := ⟨w.heap.size + 1, 2, none⟩) (by show w.heap.size + 1 < _; omega)).trans PB.c2, (hu.cell (p := ⟨w.heap.size + 1, 3, none⟩) (by show w.heap.size + 1 < _; omega)).trans PB.c3⟩ : u.cell? ⟨w.heap.size, 0, none⟩ = some (.bool a.num.neg) ∧ u.cell? ⟨w.heap.size, 1, none⟩ = some (.slice a.num.A a.num.n a.num.c) ∧ u.cell? ⟨w.heap.size, 2, none⟩ = some (.bool a.den.neg) ∧ u.cell? ⟨w.heap.size, 3, none⟩ = some (.slice a.den.A a.den.n a.den.c) ∧ u.cell? ⟨w.heap.size + 1, 0, none⟩ = some (.bool b.num.neg) ∧ u.cell? ⟨w.heap.size + 1, 1, none⟩ = some (.slice b.num.A b.num.n b.num.c) ∧ u.cell? ⟨w.heap.size + 1, 2, none⟩ = some (.bool b.den.neg) ∧ u.cell? ⟨w.heap.size + 1, 3, none⟩ = some (.slice b.den.A b.den.n b.den.c)))
  have G0 : Below w2.heap.size w2 w2.drew := Below.drew (Below.refl _ _)
  have g0s := G0.size
  have G0m : Below (w.heap.size + 2) w2 w2.drew := G0.mono (by omega)
  go_region_held3 (fun u => u.cell? ⟨w.heap.size, 0, none⟩ = some (.bool a.num.neg) ∧ u.cell? ⟨w.heap.size, 1, none⟩ = some (.slice a.num.A a.num.n a.num.c) ∧ u.cell? ⟨w.heap.size, 2, none⟩ = some (.bool a.den.neg) ∧ u.cell? ⟨w.heap.size, 3, none⟩ = some (.slice a.den.A a.den.n a.den.c) ∧ u.cell? ⟨w.heap.size + 1, 0, none⟩ = some (.bool b.num.neg) ∧ u.cell? ⟨w.heap.size + 1, 1, none⟩ = some (.slice b.num.A b.num.n b.num.c) ∧ u.cell? ⟨w.heap.size + 1, 2, none⟩ = some (.bool b.den.neg) ∧ u.cell? ⟨w.heap.size + 1, 3, none⟩ = some (.slice b.den.A b.den.n b.den.c)) (first | (refine HS.out _ ?_; (repeat (first | with_reducible exact G0m | with_reducible exact BN.mono (by omega) | with_reducible exact B2.mono (by omega) | with_reducible exact B1.mono (by omega) | with_reducible exact Below.refl _ _ | with_reducible refine Below.drew ?_ | with_reducible refine below_drewN ?_ _ | with_reducible refine Below.setCell ?_ (by first | (simp; done) | (simp; omega) | omega) _)); done) | fail)
    (first
      | (go_at_call 61; (with_reducible refine (rprod_i _ w2.heap.size a.num.neg b.den.neg a.num.A b.den.A a.num.n b.den.n a.num.c b.den.c a.num.xs b.den.xs na db ((HA.below G0 (by omega)).more (by omega)) ((HD.below G0 (by omega)).more (by omega)) (by omega) IA.out ID.out b1.out b4.out (by have := t1.out; omega)).mono ?_); rintro e u1 ⟨m1, A1, k1, e1, x1, rfl, hl1, hr1, hb1⟩; have B1 : Below w2.heap.size w2 u1 := bnext G0 hb1; have R1 := Lib.hid hr1; clear hr1; have b1s := B1.size; have c1s := hb1.size)
      | (go_at_call 61; (with_reducible refine (rprod_i _ u1.heap.size a.den.neg b.num.neg a.den.A b.num.A a.den.n b.num.n a.den.c b.num.c a.den.xs b.num.xs da nb ((HC.below B1 (by omega)).more (by omega)) ((HB.below B1 (by omega)).more (by omega)) (by omega) IC.out IB.out b2.out b3.out (by have := t4.out; omega)).mono ?_); rintro e u2 ⟨m2, A2, k2, e2, x2, rfl, hl2, hr2, hb2⟩; have hl1q := hl1.below hb2 (Nat.le_refl _); have B2 : Below w2.heap.size w2 u2 := bnext B1 hb2; have R2 := Lib.hid hr2; clear hr2; have b2s := B2.size; have c2s := hb2.size)
      | (go_at_call 59; (with_reducible refine (quotient_i _ u2.heap.size m1 m2 A1 A2 k1 k2 e1 e2 x1 x2 (na * db) (da * nb) (hl1q.more (by omega)) hl2 (Nat.le_refl _) R1.out R2.out (by have := t1.out; omega) (by have := t4.out; omega) d0.out).mono ?_); rintro e u9 hq9; obtain ⟨q1, q2, g1, g2, hqi, m7, A7, k7, e7, x7, m8, A8, k8, e8, x8, rfl, hl7, hl8, hi7, hi8, hb9⟩ := quo_is hq9; clear hq9; have QQ := Lib.hid hqi; have I7 := Lib.hid hi7; have I8 := Lib.hid hi8; clear hqi hi7 hi8; have BN : Below w2.heap.size w2 u9 := bnext B2 hb9; have PRq := PR.below BN PR.lt; have PFq := PF.below BN PF.lt; obtain ⟨r0, r1, r2, r3, y0, y1, y2, y3, _⟩ := PRq; obtain ⟨f0, f1, z0, z1, _⟩ := PFq)
      | fail)
  all_goals (go_wp2_with fail)
  all_goals
    have pr2 : Bk4 u9 (w.heap.size + 2) (.bool false) (.slice none 0 0) (.bool false) (.slice none 0 0) := ⟨r0, r1, r2, r3, y0, y1, y2, y3, by have := BN.size; have := PR.lt; omega⟩
    have pf2 : Bk2 u9 (w.heap.size + 3) (.int .i64 0) (.int .i64 0) := ⟨f0, f1, z0, z1, by have := BN.size; have := PF.lt; omega⟩
    refine bodyPost_ret (v := .tuple #[ratv m7 A7 k7 e7 m8 A8 k8 e8, flt g1 g2]) (by simp [results, Tryz.results12, go_sem, r0, r1, r2, r3, f0, f1]) rfl ?_
    have EW := E.trans (BN.mono E.size)
    refine quo_more QQ.out ⟨m7, A7, k7, e7, x7, m8, A8, k8, e8, x8, rfl, ?_, ?_, I7.out, I8.out, ?_⟩
    · first | with_reducible exact lrd_six hl7 pr2 pf2 (by omega) _ _ _ _ _ _ | with_reducible exact LRd.more (LRd.drew (lrd_six' hl7 pr2 pf2 (by omega) _ _ _ _ _ _)) (by simp [World.setCell])
    · first | with_reducible exact lrd_six hl8 pr2 pf2 (by omega) _ _ _ _ _ _ | with_reducible exact LRd.more (LRd.drew (lrd_six' hl8 pr2 pf2 (by omega) _ _ _ _ _ _)) (by simp [World.setCell])
    · (repeat (first | with_reducible exact EW | with_reducible refine Below.drew ?_ | with_reducible refine below_drewN ?_ _ | with_reducible refine Below.setCell ?_ (by first | (simp; done) | (simp; omega) | omega) _))
set_option maxHeartbeats 8000000 in
theorem rdiv_zero (w : World) (B : Nat) (a b : RV) (H1 : a.at w B) (H2 : b.at w B) (hB : B ≤ w.heap.size) (oa : a.ok = true) (ob : b.ok = true) (hz : b.num.val = 0) :
    Calls Tryz.prog 12 #[a.v, b.v] w (GivesRat w 0 0 22 (-2)) := by
  have VA := RV.val oa H1
  have VB := RV.val ob H2
  have hf := rtwo_ok oa ob
  have IA := Lib.hid VA.num
  have IC := Lib.hid VA.den
  have IB := Lib.hid VB.num
  have ID := Lib.hid VB.den
  have b1 := Lib.hid (top_big1 VA.bn)
  have b2 := Lib.hid (top_big1 VA.bd)
  have b3 := Lib.hid (top_big1 VB.bn)
  have b4 := Lib.hid (top_big1 VB.bd)
  have t1 := Lib.hid (show (a.num.val * b.den.val).natAbs * 4 < Big by rw [Int.natAbs_mul]; exact top_sq_big VA.bn VB.bd)
  have t2 := Lib.hid (show (b.num.val * a.den.val).natAbs * 4 < Big by rw [Int.natAbs_mul]; exact top_sq_big VB.bn VA.bd)
  have t3 := Lib.hid (show (a.num.val * b.num.val).natAbs * 4 < Big by rw [Int.natAbs_mul]; exact top_sq_big VA.bn VB.bn)
  have t4 := Lib.hid (show (a.den.val * b.den.val).natAbs * 4 < Big by rw [Int.natAbs_mul]; exact top_sq_big VA.bd VB.bd)
  have hl0 : b.num.xs.length = 0 := (IRep.len0 VB.num).2 hz
  have hz9 : decide (b.num.n = 0) = true := by have h7 := H2.1.len.out; rw [decide_eq_true_eq]; omega
  clear VA VB oa ob t1 t2 t3 t4 b1 b2 b3 b4 IA IB IC ID hl0
  have bbase : Below w.heap.size w ((((w.alloc (.cells #[.bool a.num.neg, .slice a.num.A a.num.n a.num.c, .bool a.den.neg, .slice a.den.A a.den.n a.den.c] 26)).alloc (.cells #[.bool b.num.neg, .slice b.num.A b.num.n b.num.c, .bool b.den.neg, .slice b.den.A b.den.n b.den.c] 26)).alloc (.cells #[.bool false, .slice none 0 0, .bool false, .slice none 0 0] 26)).alloc (.cells #[.int .i64 0, .int .i64 0] 28)) := (((bl1 w _).alloc (by simp) _).alloc (by simp; omega) _).alloc (by simp; omega) _
  have HA : LRd w B a.num.A a.num.n a.num.c a.num.xs := H1.1
  have HC : LRd w B a.den.A a.den.n a.den.c a.den.xs := H1.2
  have HB : LRd w B b.num.A b.num.n b.num.c b.num.xs := H2.1
  have HD : LRd w B b.den.A b.den.n b.den.c b.den.xs := H2.2
  have E : Below w.heap.size w w := Below.refl _ _
  have RR := Lib.hid (rrow2 ((((w.alloc (.cells #[.bool a.num.neg, .slice a.num.A a.num.n a.num.c, .bool a.den.neg, .slice a.den.A a.den.n a.den.c] 26)).alloc (.cells #[.bool b.num.neg, .slice b.num.A b.num.n b.num.c, .bool b.den.neg, .slice b.den.A b.den.n b.den.c] 26)).alloc (.cells #[.bool false, .slice none 0 0, .bool false, .slice none 0 0] 26)).alloc (.cells #[.int .i64 0, .int .i64 0] 28)) B a b (RV.at.below H1 bbase (by omega)) (RV.at.below H2 bbase (by omega)) (by simp; omega))
  clear bbase
  go_enter Tryz.func12, Tryz.ntmps12
  go_wp2_with fail
  obtain ⟨V0, hV0⟩ : ∃ V0 : World, V0 = (((((w.alloc (.cells #[.bool a.num.neg, .slice a.num.A a.num.n a.num.c, .bool a.den.neg, .slice a.den.A a.den.n a.den.c] 26)).alloc (.cells #[.bool b.num.neg, .slice b.num.A b.num.n b.num.c, .bool b.den.neg, .slice b.den.A b.den.n b.den.c] 26)).alloc (.cells #[.bool false, .slice none 0 0, .bool false, .slice none 0 0] 26)).alloc (.cells #[.int .i64 0, .int .i64 0] 28)).alloc (.cells #[.bool a.num.neg, .slice a.num.A a.num.n a.num.c, .bool a.den.neg, .slice a.den.A a.den.n a.den.c, .bool b.num.neg, .slice b.num.A b.num.n b.num.c, .bool b.den.neg, .slice b.den.A b.den.n b.den.c] 26)) := ⟨_, rfl⟩
  have bV0 : Below w.heap.size w V0 := by rw [hV0]; (repeat (first | with_reducible exact Below.refl _ _ | with_reducible refine Below.drew ?_ | with_reducible refine below_drewN ?_ _ | with_reducible refine Below.setCell ?_ (by first | (simp; done) | (simp; omega) | omega) _ | with_reducible refine Below.alloc ?_ (by first | (simp; done) | (simp; omega) | omega) _))
  have zV0 : w.heap.size + 5 ≤ V0.heap.size := by rw [hV0]; simp
  have PA : Bk4 V0 (w.heap.size) (.bool a.num.neg) (.slice a.num.A a.num.n a.num.c) (.bool a.den.neg) (.slice a.den.A a.den.n a.den.c) := by rw [hV0]; exact (((((Bk4.newAt _ _ (by first | omega | (simp; done) | (simp; omega)) _ _ _ _ _).alloc _).alloc _).alloc _).alloc _)
  have PB : Bk4 V0 (w.heap.size + 1) (.bool b.num.neg) (.slice b.num.A b.num.n b.num.c) (.bool b.den.neg) (.slice b.den.A b.den.n b.den.c) := by rw [hV0]; exact ((((Bk4.newAt _ _ (by first | omega | (simp; done) | (simp; omega)) _ _ _ _ _).alloc _).alloc _).alloc _)
  have PR : Bk4 V0 (w.heap.size + 2) (.bool false) (.slice none 0 0) (.bool false) (.slice none 0 0) := by rw [hV0]; exact (((Bk4.newAt _ _ (by first | omega | (simp; done) | (simp; omega)) _ _ _ _ _).alloc _).alloc _)
  have PF : Bk2 V0 (w.heap.size + 3) (.int .i64 0) (.int .i64 0) := by rw [hV0]; exact ((Bk2.newAt _ _ (by first | omega | (simp; done) | (simp; omega)) _ _ _).alloc _)
  replace RR : Hid (RRow V0 B (w.heap.size + 4) [a, b]) := by have h9 := RR.out; rw [hV0]; rw [show (((((w.alloc (.cells #[.bool a.num.neg, .slice a.num.A a.num.n a.num.c, .bool a.den.neg, .slice a.den.A a.den.n a.den.c] 26)).alloc (.cells #[.bool b.num.neg, .slice b.num.A b.num.n b.num.c, .bool b.den.neg, .slice b.den.A b.den.n b.den.c] 26)).alloc (.cells #[.bool false, .slice none 0 0, .bool false, .slice none 0 0] 26)).alloc (.cells #[.int .i64 0, .int .i64 0] 28))).heap.size = w.heap.size + 4 by simp] at h9; exact h9
  rw [← hV0]
  clear hV0
  replace E := E.trans (bV0.mono E.size)
  replace HA := HA.below bV0 (by omega)
  replace HC := HC.below bV0 (by omega)
  replace HB := HB.below bV0 (by omega)
  replace HD := HD.below bV0 (by omega)
  clear bV0
  (with_reducible refine (rcheck_any _ B (w.heap.size + 4) 2 [a, b] RR.out rfl (by omega) (by omega)).mono ?_)
  rintro e w1 ⟨rfl, hb1⟩
  have sw1 := hb1.size
  replace E := E.trans (hb1.mono E.size)
  replace HA := HA.below hb1 (by omega)
  replace HC := HC.below hb1 (by omega)
  replace HB := HB.below hb1 (by omega)
  replace HD := HD.below hb1 (by omega)
  replace PA := PA.below hb1 PA.lt
  replace PB := PB.below hb1 PB.lt
  replace PR := PR.below hb1 PR.lt
  replace PF := PF.below hb1 PF.lt
  clear hb1
  rw [hf]
  clear RR
  have t_PB0 : (w1.alloc (.cells #[.int .i64 0, .int .i64 0] 28)).cell? ⟨w.heap.size + 1, 0, none⟩ = some ((.bool b.num.neg)) := (PB.alloc _).c0
  have t_PB1 : (w1.alloc (.cells #[.int .i64 0, .int .i64 0] 28)).cell? ⟨w.heap.size + 1, 1, none⟩ = some ((.slice b.num.A b.num.n b.num.c)) := (PB.alloc _).c1
  have t_PB2 : (w1.alloc (.cells #[.int .i64 0, .int .i64 0] 28)).cell? ⟨w.heap.size + 1, 2, none⟩ = some ((.bool b.den.neg)) := (PB.alloc _).c2
  have t_PB3 : (w1.alloc (.cells #[.int .i64 0, .int .i64 0] 28)).cell? ⟨w.heap.size + 1, 3, none⟩ = some ((.slice b.den.A b.den.n b.den.c)) := (PB.alloc _).c3
  go_wp2_with fail
  clear t_PB0 t_PB1 t_PB2 t_PB3
  obtain ⟨V1, hV1⟩ : ∃ V1 : World, V1 = (w1.alloc (.cells #[.int .i64 0, .int .i64 0] 28)) := ⟨_, rfl⟩
  have bV1 : Below w1.heap.size w1 V1 := by rw [hV1]; (repeat (first | with_reducible exact Below.refl _ _ | with_reducible refine Below.drew ?_ | with_reducible refine below_drewN ?_ _ | with_reducible refine Below.setCell ?_ (by first | (simp; done) | (simp; omega) | omega) _ | with_reducible refine Below.alloc ?_ (by first | (simp; done) | (simp; omega) | omega) _))
  have zV1 : w1.heap.size + 1 ≤ V1.heap.size := by rw [hV1]; simp
  have F6 : Bk2 V1 (w1.heap.size) (.int .i64 0) (.int .i64 0) := by rw [hV1]; exact (Bk2.newAt _ _ (by first | omega | (simp; done) | (simp; omega)) _ _ _)
  rw [← hV1]
  clear hV1
  replace E := E.trans (bV1.mono E.size)
  replace HA := HA.below bV1 (by omega)
  replace HC := HC.below bV1 (by omega)
  replace HB := HB.below bV1 (by omega)
  replace HD := HD.below bV1 (by omega)
  replace PA := PA.below bV1 PA.lt
  replace PB := PB.below bV1 PB.lt
  replace PR := PR.below bV1 PR.lt
  replace PF := PF.below bV1 PF.lt
  clear bV1
  clear F6
  (with_reducible refine (isZero_any _ b.num.neg b.num.A b.num.n b.num.c (by have := HB.cap; omega)).mono ?_)
  rintro e w2 ⟨rfl, hb2⟩
  have sw2 := hb2.size
  replace E := E.trans (hb2.mono E.size)
  replace HA := HA.below hb2 (by omega)
  replace HC := HC.below hb2 (by omega)
  replace HB := HB.below hb2 (by omega)
  replace HD := HD.below hb2 (by omega)
  replace PA := PA.below hb2 PA.lt
  replace PB := PB.below hb2 PB.lt
  replace PR := PR.below hb2 PR.lt
  replace PF := PF.below hb2 PF.lt
  clear hb2
  rw [hz9]
  clear hz9
  have y_PR0 := PR.c0
  have z_PR0 := PR.z0
  have y_PR1 := PR.c1
  have z_PR1 := PR.z1
  have y_PR2 := PR.c2
  have z_PR2 := PR.z2
  have y_PR3 := PR.c3
  have z_PR3 := PR.z3
  have lt_PR := PR.lt
  have y_PF0 := PF.c0
  have z_PF0 := PF.z0
  have y_PF1 := PF.c1
  have z_PF1 := PF.z1
  have lt_PF := PF.lt
  go_wp2_with fail
  clear y_PR0 z_PR0 y_PR1 z_PR1 y_PR2 z_PR2 y_PR3 z_PR3 lt_PR y_PF0 z_PF0 y_PF1 z_PF1 lt_PF
  obtain ⟨U2PR, hU2PR⟩ : ∃ U2PR : World, U2PR = ((((w2.setCell ⟨w.heap.size + 2, 0, none⟩ (.bool false)).setCell ⟨w.heap.size + 2, 1, none⟩ (.slice none 0 0)).setCell ⟨w.heap.size + 2, 2, none⟩ (.bool false)).setCell ⟨w.heap.size + 2, 3, none⟩ (.slice none 0 0)) := ⟨_, rfl⟩
  have zU2PR : U2PR.heap.size = w2.heap.size := by rw [hU2PR]; simp [World.setCell]
  replace E : Below w.heap.size w U2PR := by rw [hU2PR]; exact ((((E.setCell (by first | (simp; done) | (simp; omega)) _).setCell (by first | (simp; done) | (simp; omega)) _).setCell (by first | (simp; done) | (simp; omega)) _).setCell (by first | (simp; done) | (simp; omega)) _)
  replace HA : LRd U2PR (B) a.num.A a.num.n a.num.c a.num.xs := by rw [hU2PR]; first | exact HA.set4 PR (by simp) (by simp) (by simp) (by simp) _ _ _ _ | exact HA.set4O (by omega) _ _ _ _
  replace HC : LRd U2PR (B) a.den.A a.den.n a.den.c a.den.xs := by rw [hU2PR]; first | exact HC.set4 PR (by simp) (by simp) (by simp) (by simp) _ _ _ _ | exact HC.set4O (by omega) _ _ _ _
  replace HB : LRd U2PR (B) b.num.A b.num.n b.num.c b.num.xs := by rw [hU2PR]; first | exact HB.set4 PR (by simp) (by simp) (by simp) (by simp) _ _ _ _ | exact HB.set4O (by omega) _ _ _ _
  replace HD : LRd U2PR (B) b.den.A b.den.n b.den.c b.den.xs := by rw [hU2PR]; first | exact HD.set4 PR (by simp) (by simp) (by simp) (by simp) _ _ _ _ | exact HD.set4O (by omega) _ _ _ _
  replace PA : Bk4 U2PR (w.heap.size) (.bool a.num.neg) (.slice a.num.A a.num.n a.num.c) (.bool a.den.neg) (.slice a.den.A a.den.n a.den.c) := by rw [hU2PR]; exact PA.far4 (by omega) _ _ _ _
  replace PB : Bk4 U2PR (w.heap.size + 1) (.bool b.num.neg) (.slice b.num.A b.num.n b.num.c) (.bool b.den.neg) (.slice b.den.A b.den.n b.den.c) := by rw [hU2PR]; exact PB.far4 (by omega) _ _ _ _
  replace PF : Bk2 U2PR (w.heap.size + 3) (.int .i64 0) (.int .i64 0) := by rw [hU2PR]; exact PF.far4 (by omega) _ _ _ _
  replace PR : Bk4 U2PR (w.heap.size + 2) (.bool false) (.slice none 0 0) (.bool false) (.slice none 0 0) := by rw [hU2PR]; exact PR.set _ _ _ _
  rw [← hU2PR]
  clear hU2PR
  have zU2PR' := Nat.le_of_eq zU2PR
  replace zU2PR := Nat.le_of_eq zU2PR.symm
  obtain ⟨U2PF, hU2PF⟩ : ∃ U2PF : World, U2PF = ((U2PR.setCell ⟨w.heap.size + 3, 0, none⟩ (.int .i64 22)).setCell ⟨w.heap.size + 3, 1, none⟩ (.int .i64 (-2))) := ⟨_, rfl⟩
  have zU2PF : U2PF.heap.size = U2PR.heap.size := by rw [hU2PF]; simp [World.setCell]
  replace E : Below w.heap.size w U2PF := by rw [hU2PF]; exact ((E.setCell (by first | (simp; done) | (simp; omega)) _).setCell (by first | (simp; done) | (simp; omega)) _)
  replace HA : LRd U2PF (B) a.num.A a.num.n a.num.c a.num.xs := by rw [hU2PF]; first | exact HA.setB PF (by simp) (by simp) _ _ | exact HA.setFarL (by omega) _ _
  replace HC : LRd U2PF (B) a.den.A a.den.n a.den.c a.den.xs := by rw [hU2PF]; first | exact HC.setB PF (by simp) (by simp) _ _ | exact HC.setFarL (by omega) _ _
  replace HB : LRd U2PF (B) b.num.A b.num.n b.num.c b.num.xs := by rw [hU2PF]; first | exact HB.setB PF (by simp) (by simp) _ _ | exact HB.setFarL (by omega) _ _
  replace HD : LRd U2PF (B) b.den.A b.den.n b.den.c b.den.xs := by rw [hU2PF]; first | exact HD.setB PF (by simp) (by simp) _ _ | exact HD.setFarL (by omega) _ _
  replace PA : Bk4 U2PF (w.heap.size) (.bool a.num.neg) (.slice a.num.A a.num.n a.num.c) (.bool a.den.neg) (.slice a.den.A a.den.n a.den.c) := by rw [hU2PF]; exact PA.far2 (by omega) _ _
  replace PB : Bk4 U2PF (w.heap.size + 1) (.bool b.num.neg) (.slice b.num.A b.num.n b.num.c) (.bool b.den.neg) (.slice b.den.A b.den.n b.den.c) := by rw [hU2PF]; exact PB.far2 (by omega) _ _
  replace PR : Bk4 U2PF (w.heap.size + 2) (.bool false) (.slice none 0 0) (.bool false) (.slice none 0 0) := by rw [hU2PF]; exact PR.far2 (by omega) _ _
  replace PF : Bk2 U2PF (w.heap.size + 3) (.int .i64 22) (.int .i64 (-2)) := by rw [hU2PF]; exact PF.set _ _
  rw [← hU2PF]
  clear hU2PF
  have zU2PF' := Nat.le_of_eq zU2PF
  replace zU2PF := Nat.le_of_eq zU2PF.symm
  obtain ⟨f0, f1, _, _, _⟩ := PF
  obtain ⟨r0, r1, r2, r3, _, _, _, _, _⟩ := PR
  refine bodyPost_ret (v := .tuple #[ratv false none 0 0 false none 0 0, flt 22 (-2)]) (by simp [results, Tryz.results12, go_sem, r0, r1, r2, r3, f0, f1]) rfl ⟨false, none, 0, 0, [], false, none, 0, 0, [], rfl, nil_lrd _, nil_lrd _, IRep.zero, IRep.zero, E⟩
end Go.Proofs.YtdhdkknaagadaaaGreat

namespace Go.Proofs.YtdhdkknaagadaaaGreat
open Go.RowKit
set_option maxHeartbeats 400000
set_option maxRecDepth 100000
set_option linter.unusedSimpArgs false
set_option linter.unusedVariables false

/-- The second ratio with its sign turned. -/
abbrev RV.turn (b : RV) : RV := ⟨⟨!b.num.neg && decide (0 < b.num.n), b.num.A, b.num.n, b.num.c, b.num.xs⟩, b.den⟩
def NegCell (V : World) (b : RV) (s : Value) (wx : World) : Prop :=
  ∃ g, s = .pointer (some ⟨g, 0, none⟩) ∧ Bk4 wx g (.bool (!b.num.neg && decide (0 < b.num.n))) (.slice b.num.A b.num.n b.num.c) (.bool b.den.neg) (.slice b.den.A b.den.n b.den.c) ∧ V.heap.size ≤ g ∧ Below V.heap.size V wx
theorem mq1 {w w' : World} {u v x y : Value} {t : TypeId} (h : Below (w.drew.alloc (.cells #[u, v, x, y] t)).heap.size (w.drew.alloc (.cells #[u, v, x, y] t)) w') : Bk4 w' w.heap.size u v x y :=
  (Bk4.newAt w.drew w.heap.size rfl u v x y t).below h (by simp)
set_option maxHeartbeats 8000000 in
theorem radd_i (w : World) (B : Nat) (a b : RV) (H1 : a.at w B) (H2 : b.at w B) (hB : B ≤ w.heap.size) (oa : a.ok = true) (ob : b.ok = true) :
    Calls Tryz.prog 9 #[a.v, b.v] w (GivesQuo w (decide (a.num.val * b.den.val - -b.num.val * a.den.val < 0) != decide (a.den.val * b.den.val < 0)) (a.num.val * b.den.val - -b.num.val * a.den.val).natAbs (a.den.val * b.den.val).natAbs) := by
  have VA := RV.val oa H1
  have VB := RV.val ob H2
  have hf := rtwo_ok oa ob
  have IA := Lib.hid VA.num
  have IC := Lib.hid VA.den
  have IB := Lib.hid VB.num
  have ID := Lib.hid VB.den
  have b1 := Lib.hid (top_big1 VA.bn)
  have b2 := Lib.hid (top_big1 VA.bd)
  have b3 := Lib.hid (top_big1 VB.bn)
  have b4 := Lib.hid (top_big1 VB.bd)
  have t1 := Lib.hid (show (a.num.val * b.den.val).natAbs * 4 < Big by rw [Int.natAbs_mul]; exact top_sq_big VA.bn VB.bd)
  have t2 := Lib.hid (show (b.num.val * a.den.val).natAbs * 4 < Big by rw [Int.natAbs_mul]; exact top_sq_big VB.bn VA.bd)
  have t3 := Lib.hid (show (a.num.val * b.num.val).natAbs * 4 < Big by rw [Int.natAbs_mul]; exact top_sq_big VA.bn VB.bn)
  have t4 := Lib.hid (show (a.den.val * b.den.val).natAbs * 4 < Big by rw [Int.natAbs_mul]; exact top_sq_big VA.bd VB.bd)
  have d0 := Lib.hid (show a.den.val * b.den.val ≠ 0 from Int.ne_of_gt (Int.mul_pos VA.pos VB.pos))
  obtain ⟨na, hna⟩ : ∃ z, z = a.num.val := ⟨_, rfl⟩
  obtain ⟨da, hda⟩ : ∃ z, z = a.den.val := ⟨_, rfl⟩
  obtain ⟨nb, hnb⟩ : ∃ z, z = b.num.val := ⟨_, rfl⟩
  obtain ⟨db, hdb⟩ : ∃ z, z = b.den.val := ⟨_, rfl⟩
  clear VA VB oa ob
  rw [← hna] at IA b1 t1 t3 ⊢
  rw [← hda] at IC b2 t2 t4 d0 ⊢
  rw [← hnb] at IB b3 t2 t3 ⊢
  rw [← hdb] at ID b4 t1 t4 d0 ⊢
  clear hna hda hnb hdb
  have bbase : Below w.heap.size w ((((w.alloc (.cells #[.bool a.num.neg, .slice a.num.A a.num.n a.num.c, .bool a.den.neg, .slice a.den.A a.den.n a.den.c] 26)).alloc (.cells #[.bool b.num.neg, .slice b.num.A b.num.n b.num.c, .bool b.den.neg, .slice b.den.A b.den.n b.den.c] 26)).alloc (.cells #[.bool false, .slice none 0 0, .bool false, .slice none 0 0] 26)).alloc (.cells #[.int .i64 0, .int .i64 0] 28)) := (((bl1 w _).alloc (by simp) _).alloc (by simp; omega) _).alloc (by simp; omega) _
  have HA : LRd w B a.num.A a.num.n a.num.c a.num.xs := H1.1
  have HC : LRd w B a.den.A a.den.n a.den.c a.den.xs := H1.2
  have HB : LRd w B b.num.A b.num.n b.num.c b.num.xs := H2.1
  have HD : LRd w B b.den.A b.den.n b.den.c b.den.xs := H2.2
  have E : Below w.heap.size w w := Below.refl _ _
  have RR := Lib.hid (rrow2 ((((w.alloc (.cells #[.bool a.num.neg, .slice a.num.A a.num.n a.num.c, .bool a.den.neg, .slice a.den.A a.den.n a.den.c] 26)).alloc (.cells #[.bool b.num.neg, .slice b.num.A b.num.n b.num.c, .bool b.den.neg, .slice b.den.A b.den.n b.den.c] 26)).alloc (.cells #[.bool false, .slice none 0 0, .bool false, .slice none 0 0] 26)).alloc (.cells #[.int .i64 0, .int .i64 0] 28)) B a b (RV.at.below H1 bbase (by omega)) (RV.at.below H2 bbase (by omega)) (by simp; omega))
  clear bbase
  go_enter Tryz.func9, Tryz.ntmps9
  go_wp2_with fail
  obtain ⟨V0, hV0⟩ : ∃ V0 : World, V0 = (((((w.alloc (.cells #[.bool a.num.neg, .slice a.num.A a.num.n a.num.c, .bool a.den.neg, .slice a.den.A a.den.n a.den.c] 26)).alloc (.cells #[.bool b.num.neg, .slice b.num.A b.num.n b.num.c, .bool b.den.neg, .slice b.den.A b.den.n b.den.c] 26)).alloc (.cells #[.bool false, .slice none 0 0, .bool false, .slice none 0 0] 26)).alloc (.cells #[.int .i64 0, .int .i64 0] 28)).alloc (.cells #[.bool a.num.neg, .slice a.num.A a.num.n a.num.c, .bool a.den.neg, .slice a.den.A a.den.n a.den.c, .bool b.num.neg, .slice b.num.A b.num.n b.num.c, .bool b.den.neg, .slice b.den.A b.den.n b.den.c] 26)) := ⟨_, rfl⟩
  have bV0 : Below w.heap.size w V0 := by rw [hV0]; (repeat (first | with_reducible exact Below.refl _ _ | with_reducible refine Below.drew ?_ | with_reducible refine below_drewN ?_ _ | with_reducible refine Below.setCell ?_ (by first | (simp; done) | (simp; omega) | omega) _ | with_reducible refine Below.alloc ?_ (by first | (simp; done) | (simp; omega) | omega) _))
  have zV0 : w.heap.size + 5 ≤ V0.heap.size := by rw [hV0]; simp
  have PA : Bk4 V0 (w.heap.size) (.bool a.num.neg) (.slice a.num.A a.num.n a.num.c) (.bool a.den.neg) (.slice a.den.A a.den.n a.den.c) := by rw [hV0]; exact (((((Bk4.newAt _ _ (by first | omega | (simp; done) | (simp; omega)) _ _ _ _ _).alloc _).alloc _).alloc _).alloc _)
  have PB : Bk4 V0 (w.heap.size + 1) (.bool b.num.neg) (.slice b.num.A b.num.n b.num.c) (.bool b.den.neg) (.slice b.den.A b.den.n b.den.c) := by rw [hV0]; exact ((((Bk4.newAt _ _ (by first | omega | (simp; done) | (simp; omega)) _ _ _ _ _).alloc _).alloc _).alloc _)
  have PR : Bk4 V0 (w.heap.size + 2) (.bool false) (.slice none 0 0) (.bool false) (.slice none 0 0) := by rw [hV0]; exact (((Bk4.newAt _ _ (by first | omega | (simp; done) | (simp; omega)) _ _ _ _ _).alloc _).alloc _)
  have PF : Bk2 V0 (w.heap.size + 3) (.int .i64 0) (.int .i64 0) := by rw [hV0]; exact ((Bk2.newAt _ _ (by first | omega | (simp; done) | (simp; omega)) _ _ _).alloc _)
  replace RR : Hid (RRow V0 B (w.heap.size + 4) [a, b]) := by have h9 := RR.out; rw [hV0]; rw [show (((((w.alloc (.cells #[.bool a.num.neg, .slice a.num.A a.num.n a.num.c, .bool a.den.neg, .slice a.den.A a.den.n a.den.c] 26)).alloc (.cells #[.bool b.num.neg, .slice b.num.A b.num.n b.num.c, .bool b.den.neg, .slice b.den.A b.den.n b.den.c] 26)).alloc (.cells #[.bool false, .slice none 0 0, .bool false, .slice none 0 0] 26)).alloc (.cells #[.int .i64 0, .int .i64 0] 28))).heap.size = w.heap.size + 4 by simp] at h9; exact h9
  rw [← hV0]
  clear hV0
  replace E := E.trans (bV0.mono E.size)
  replace HA := HA.below bV0 (by omega)
  replace HC := HC.below bV0 (by omega)
  replace HB := HB.below bV0 (by omega)
  replace HD := HD.below bV0 (by omega)
  clear bV0
  (with_reducible refine (rcheck_any _ B (w.heap.size + 4) 2 [a, b] RR.out rfl (by omega) (by omega)).mono ?_)
  rintro e w1 ⟨rfl, hb1⟩
  have sw1 := hb1.size
  replace E := E.trans (hb1.mono E.size)
  replace HA := HA.below hb1 (by omega)
  replace HC := HC.below hb1 (by omega)
  replace HB := HB.below hb1 (by omega)
  replace HD := HD.below hb1 (by omega)
  replace PA := PA.below hb1 PA.lt
  replace PB := PB.below hb1 PB.lt
  replace PR := PR.below hb1 PR.lt
  replace PF := PF.below hb1 PF.lt
  clear hb1
  rw [hf]
  clear RR
  go_upto_region 4 with fail
  obtain ⟨V1, hV1⟩ : ∃ V1 : World, V1 = (w1.alloc (.cells #[.int .i64 0, .int .i64 0] 28)) := ⟨_, rfl⟩
  have bV1 : Below w1.heap.size w1 V1 := by rw [hV1]; (repeat (first | with_reducible exact Below.refl _ _ | with_reducible refine Below.drew ?_ | with_reducible refine below_drewN ?_ _ | with_reducible refine Below.setCell ?_ (by first | (simp; done) | (simp; omega) | omega) _ | with_reducible refine Below.alloc ?_ (by first | (simp; done) | (simp; omega) | omega) _))
  have zV1 : w1.heap.size + 1 ≤ V1.heap.size := by rw [hV1]; simp
  have F6 : Bk2 V1 (w1.heap.size) (.int .i64 0) (.int .i64 0) := by rw [hV1]; exact (Bk2.newAt _ _ (by first | omega | (simp; done) | (simp; omega)) _ _ _)
  rw [← hV1]
  clear hV1
  replace E := E.trans (bV1.mono E.size)
  replace HA := HA.below bV1 (by omega)
  replace HC := HC.below bV1 (by omega)
  replace HB := HB.below bV1 (by omega)
  replace HD := HD.below bV1 (by omega)
  replace PA := PA.below bV1 PA.lt
  replace PB := PB.below bV1 PB.lt
  replace PR := PR.below bV1 PR.lt
  replace PF := PF.below bV1 PF.lt
  clear bV1
  clear F6
  go_cut [7] (fun s7 wx => NegCell V1 b s7 wx)
  case first =>
    as_aux_lemma =>
      have lt_PB := PB.lt
      have HS := Lib.hid (fun (u : World) (hu : Below V1.heap.size V1 u) => (⟨(hu.cell (p := ⟨w.heap.size + 1, 0, none⟩) (by show w.heap.size + 1 < _; omega)).trans PB.c0, (hu.cell (p := ⟨w.heap.size + 1, 1, none⟩) (by show w.heap.size + 1 < _; omega)).trans PB.c1, (hu.cell (p := ⟨w.heap.size + 1, 2, none⟩) (by show w.heap.size + 1 < _; omega)).trans PB.c2, (hu.cell (p := ⟨w.heap.size + 1, 3, none⟩) (by show w.heap.size + 1 < _; omega)).trans PB.c3⟩ : u.cell? ⟨w.heap.size + 1, 0, none⟩ = some (.bool b.num.neg) ∧ u.cell? ⟨w.heap.size + 1, 1, none⟩ = some (.slice b.num.A b.num.n b.num.c) ∧ u.cell? ⟨w.heap.size + 1, 2, none⟩ = some (.bool b.den.neg) ∧ u.cell? ⟨w.heap.size + 1, 3, none⟩ = some (.slice b.den.A b.den.n b.den.c)))
      have G0 : Below V1.heap.size V1 V1.drew := Below.drew (Below.refl _ _)
      go_region_held3 (fun u => u.cell? ⟨w.heap.size + 1, 0, none⟩ = some (.bool b.num.neg) ∧ u.cell? ⟨w.heap.size + 1, 1, none⟩ = some (.slice b.num.A b.num.n b.num.c) ∧ u.cell? ⟨w.heap.size + 1, 2, none⟩ = some (.bool b.den.neg) ∧ u.cell? ⟨w.heap.size + 1, 3, none⟩ = some (.slice b.den.A b.den.n b.den.c))
        (first | (refine HS.out _ ?_; (repeat (first | with_reducible exact G0 | with_reducible exact B1 | with_reducible exact Below.refl _ _ | with_reducible refine Below.drew ?_ | with_reducible refine Below.alloc ?_ (by first | (simp; done) | (have := B1.size; simp; omega)) _ | with_reducible refine Below.setCell ?_ (by first | (simp; done) | (simp; omega) | omega) _)); done) | fail)
        (first
          | (go_at_call 58; (with_reducible refine (opposite_any _ b.num.neg b.num.A b.num.n b.num.c (by have := HB.cap; omega)).mono ?_); rintro e u1 ⟨rfl, hb1⟩; have B1 : Below V1.heap.size V1 u1 := (by refine bnext ?_ hb1; (repeat (first | with_reducible exact G0 | with_reducible exact B1 | with_reducible exact Below.refl _ _ | with_reducible refine Below.drew ?_ | with_reducible refine Below.alloc ?_ (by first | (simp; done) | (have := B1.size; simp; omega)) _ | with_reducible refine Below.setCell ?_ (by first | (simp; done) | (simp; omega) | omega) _))); have b1s := B1.size; have PB1 := PB.below B1 PB.lt; (first | (have s1 := mq1 hb1; obtain ⟨_, _, _, _, _, _, _, _, _⟩ := id s1) | skip))
          | fail)
      all_goals (go_wp2_with fail)
      all_goals go_meet
      all_goals (refine ⟨_, rfl, ?_, ?_, ?_⟩)
      all_goals (first | with_reducible exact Bk4.newAt _ _ rfl _ _ _ _ _ | with_reducible exact Bk4.set s1 _ _ _ _ | with_reducible exact b1s | with_reducible exact Nat.le_refl _ | ((repeat (first | with_reducible exact G0 | with_reducible exact B1 | with_reducible exact Below.refl _ _ | with_reducible refine Below.drew ?_ | with_reducible refine Below.alloc ?_ (by first | (simp; done) | (have := B1.size; simp; omega)) _ | with_reducible refine Below.setCell ?_ (by first | (simp; done) | (simp; omega) | omega) _)); done))
  case rest =>
  obtain ⟨g, rfl, PN, hg, hbX⟩ := hcut
  replace E := E.trans (hbX.mono E.size)
  replace HA := HA.below hbX (by omega)
  replace HC := HC.below hbX (by omega)
  replace HB := HB.below hbX (by omega)
  replace HD := HD.below hbX (by omega)
  replace PA := PA.below hbX PA.lt
  replace PB := PB.below hbX PB.lt
  replace PR := PR.below hbX PR.lt
  replace PF := PF.below hbX PF.lt
  have sX := hbX.size
  clear hbX
  obtain ⟨V2, hV2⟩ : ∃ y : World, y = wc := ⟨_, rfl⟩
  subst hV2
  have lt_PN := PN.lt
  have hx := Lib.hid (Int.neg_mul nb da)
  have IB2 := Lib.hid (opp_irep IB.out HB.len.out)
  have b3n := Lib.hid (show (-nb).natAbs < Big by rw [Int.natAbs_neg]; exact b3.out)
  have t2n := Lib.hid (show (-nb * da).natAbs * 4 < Big by rw [Int.neg_mul, Int.natAbs_neg]; exact t2.out)
  have HLN := HB
  go_upto_region 5 with fail
  have lt_PA := PA.lt
  have lt_PB := PB.lt
  have HS := Lib.hid (fun (u : World) (hu : Below (w.heap.size + 2) V2 u) (hn : Bk4 u (g) (.bool (!b.num.neg && decide (0 < b.num.n))) (.slice b.num.A b.num.n b.num.c) (.bool b.den.neg) (.slice b.den.A b.den.n b.den.c)) => (⟨(hu.cell (p := ⟨w.heap.size, 0, none⟩) (by show w.heap.size < _; omega)).trans PA.c0, (hu.cell (p := ⟨w.heap.size, 1, none⟩) (by show w.heap.size < _; omega)).trans PA.c1, (hu.cell (p := ⟨w.heap.size, 2, none⟩) (by show w.heap.size < _; omega)).trans PA.c2, (hu.cell (p := ⟨w.heap.size, 3, none⟩) (by show w.heap.size < _; omega)).trans PA.c3, (hu.cell (p := ⟨w.heap.size + 1, 0, none⟩) (by show w.heap.size + 1 < _; omega)).trans PB.c0, (hu.cell (p := ⟨w.heap.size + 1, 1, none⟩) (by show w.heap.size + 1 < _; omega)).trans PB.c1, (hu.cell (p := ⟨w.heap.size + 1, 2, none⟩) (by show w.heap.size + 1 < _; omega)).trans PB.c2, (hu.cell (p := ⟨w.heap.size + 1, 3, none⟩) (by show w.heap.size + 1 < _; omega)).trans PB.c3, hn.c0, hn.c1, hn.c2, hn.c3⟩ : u.cell? ⟨w.heap.size, 0, none⟩ = some (.bool a.num.neg) ∧ u.cell? ⟨w.heap.size, 1, none⟩ = some (.slice a.num.A a.num.n a.num.c) ∧ u.cell? ⟨w.heap.size, 2, none⟩ = some (.bool a.den.neg) ∧ u.cell? ⟨w.heap.size, 3, none⟩ = some (.slice a.den.A a.den.n a.den.c) ∧ u.cell? ⟨w.heap.size + 1, 0, none⟩ = some (.bool b.num.neg) ∧ u.cell? ⟨w.heap.size + 1, 1, none⟩ = some (.slice b.num.A b.num.n b.num.c) ∧ u.cell? ⟨w.heap.size + 1, 2, none⟩ = some (.bool b.den.neg) ∧ u.cell? ⟨w.heap.size + 1, 3, none⟩ = some (.slice b.den.A b.den.n b.den.c) ∧ u.cell? ⟨g, 0, none⟩ = some (.bool (!b.num.neg && decide (0 < b.num.n))) ∧ u.cell? ⟨g, 1, none⟩ = some (.slice b.num.A b.num.n b.num.c) ∧ u.cell? ⟨g, 2, none⟩ = some (.bool b.den.neg) ∧ u.cell? ⟨g, 3, none⟩ = some (.slice b.den.A b.den.n b.den.c)))
  have G0 : Below V2.heap.size V2 V2.drew := Below.drew (Below.refl _ _)
  have g0s := G0.size
  have G0m : Below (w.heap.size + 2) V2 V2.drew := G0.mono (by omega)
  go_region_held3 (fun u => u.cell? ⟨w.heap.size, 0, none⟩ = some (.bool a.num.neg) ∧ u.cell? ⟨w.heap.size, 1, none⟩ = some (.slice a.num.A a.num.n a.num.c) ∧ u.cell? ⟨w.heap.size, 2, none⟩ = some (.bool a.den.neg) ∧ u.cell? ⟨w.heap.size, 3, none⟩ = some (.slice a.den.A a.den.n a.den.c) ∧ u.cell? ⟨w.heap.size + 1, 0, none⟩ = some (.bool b.num.neg) ∧ u.cell? ⟨w.heap.size + 1, 1, none⟩ = some (.slice b.num.A b.num.n b.num.c) ∧ u.cell? ⟨w.heap.size + 1, 2, none⟩ = some (.bool b.den.neg) ∧ u.cell? ⟨w.heap.size + 1, 3, none⟩ = some (.slice b.den.A b.den.n b.den.c) ∧ u.cell? ⟨g, 0, none⟩ = some (.bool (!b.num.neg && decide (0 < b.num.n))) ∧ u.cell? ⟨g, 1, none⟩ = some (.slice b.num.A b.num.n b.num.c) ∧ u.cell? ⟨g, 2, none⟩ = some (.bool b.den.neg) ∧ u.cell? ⟨g, 3, none⟩ = some (.slice b.den.A b.den.n b.den.c)) (first | exact HS.out _ (by (repeat (first | with_reducible exact G0m | with_reducible exact BN.mono (by omega) | with_reducible exact B2.mono (by omega) | with_reducible exact B1.mono (by omega) | with_reducible exact Below.refl _ _ | with_reducible refine Below.drew ?_ | with_reducible refine below_drewN ?_ _ | with_reducible refine Below.setCell ?_ (by first | (simp; done) | (simp; omega) | omega) _))) (by (repeat (first | with_reducible exact PN | with_reducible exact PN9 | with_reducible exact PN2 | with_reducible exact PN1 | with_reducible refine Bk4.drew ?_ | with_reducible refine Bk4.drewN ?_ _ | with_reducible refine Bk4.far4 ?_ (by omega) _ _ _ _ | with_reducible refine Bk4.far2 ?_ (by omega) _ _))) | fail)
    (first
      | (go_at_call 60; (with_reducible refine (gap_any _ V2.heap.size a (RV.turn b) na da (-nb) db (rv_at ((HA.below G0 (by omega)).more (by omega)) ((HC.below G0 (by omega)).more (by omega))) (rv_at ((HB.below G0 (by omega)).more (by omega)) ((HD.below G0 (by omega)).more (by omega))) (by omega) IA IC IB2 ID b1 b2 b3n b4 (Lib.hid (by have := t1.out; omega)) (Lib.hid (by have := t2n.out; omega)) (Lib.hid (by have := t1.out; have := t2n.out; omega))).mono ?_); rintro e u1 ⟨m1, A1, k1, e1, x1, rfl, hl1, hr1, hb1⟩; have B1 : Below V2.heap.size V2 u1 := bnext G0 hb1; have R1 := Lib.hid hr1; clear hr1; have b1s := B1.size; have PN1 := PN.below B1 PN.lt)
      | (go_at_call 61; (with_reducible refine (rprod_i _ u1.heap.size a.den.neg b.den.neg a.den.A b.den.A a.den.n b.den.n a.den.c b.den.c a.den.xs b.den.xs da db ((HC.below B1 (by omega)).more (by omega)) ((HD.below B1 (by omega)).more (by omega)) (by omega) IC.out ID.out b2.out b4.out (by have := t4.out; omega)).mono ?_); rintro e u2 ⟨m2, A2, k2, e2, x2, rfl, hl2, hr2, hb2⟩; have hl1q := hl1.below hb2 (Nat.le_refl _); have B2 : Below V2.heap.size V2 u2 := bnext B1 hb2; have R2 := Lib.hid hr2; clear hr2; have b2s := B2.size; have c2s := hb2.size; have PN2 := PN.below B2 PN.lt)
      | (go_at_call 59; (with_reducible refine (quotient_i _ u2.heap.size m1 m2 A1 A2 k1 k2 e1 e2 x1 x2 (na * db - -nb * da) (da * db) (hl1q.more (by omega)) hl2 (Nat.le_refl _) R1.out R2.out (by have := t1.out; have := t2n.out; omega) (by have := t4.out; omega) d0.out).mono ?_); rintro e u9 hq9; obtain ⟨q1, q2, g1, g2, hqi, m7, A7, k7, e7, x7, m8, A8, k8, e8, x8, rfl, hl7, hl8, hi7, hi8, hb9⟩ := quo_is hq9; clear hq9; have QQ := Lib.hid hqi; have I7 := Lib.hid hi7; have I8 := Lib.hid hi8; clear hqi hi7 hi8; have BN : Below V2.heap.size V2 u9 := bnext B2 hb9; have PRq := PR.below BN PR.lt; have PFq := PF.below BN PF.lt; obtain ⟨r0, r1, r2, r3, y0, y1, y2, y3, _⟩ := PRq; obtain ⟨f0, f1, z0, z1, _⟩ := PFq; have PN9 := PN.below BN PN.lt)
      | fail)
  all_goals (go_wp2_with fail)
  all_goals
    have pr2 : Bk4 u9 (w.heap.size + 2) (.bool false) (.slice none 0 0) (.bool false) (.slice none 0 0) := ⟨r0, r1, r2, r3, y0, y1, y2, y3, by have := BN.size; have := PR.lt; omega⟩
    have pf2 : Bk2 u9 (w.heap.size + 3) (.int .i64 0) (.int .i64 0) := ⟨f0, f1, z0, z1, by have := BN.size; have := PF.lt; omega⟩
    refine bodyPost_ret (v := .tuple #[ratv m7 A7 k7 e7 m8 A8 k8 e8, flt g1 g2]) (by simp [results, Tryz.results9, go_sem, r0, r1, r2, r3, f0, f1]) rfl ?_
    have EW := E.trans (BN.mono E.size)
    refine quo_more QQ.out ⟨m7, A7, k7, e7, x7, m8, A8, k8, e8, x8, rfl, ?_, ?_, I7.out, I8.out, ?_⟩
    · first | with_reducible exact lrd_six hl7 pr2 pf2 (by omega) _ _ _ _ _ _ | with_reducible exact LRd.more (LRd.drew (lrd_six' hl7 pr2 pf2 (by omega) _ _ _ _ _ _)) (by simp [World.setCell])
    · first | with_reducible exact lrd_six hl8 pr2 pf2 (by omega) _ _ _ _ _ _ | with_reducible exact LRd.more (LRd.drew (lrd_six' hl8 pr2 pf2 (by omega) _ _ _ _ _ _)) (by simp [World.setCell])
    · (repeat (first | with_reducible exact EW | with_reducible refine Below.drew ?_ | with_reducible refine below_drewN ?_ _ | with_reducible refine Below.setCell ?_ (by first | (simp; done) | (simp; omega) | omega) _))
theorem radd_ok (w : World) (B : Nat) (a b : RV) (H1 : a.at w B) (H2 : b.at w B) (hB : B ≤ w.heap.size) (oa : a.ok = true) (ob : b.ok = true) :
    Calls Tryz.prog 9 #[a.v, b.v] w (GivesQuo w (decide (a.num.val * b.den.val + b.num.val * a.den.val < 0) != decide (a.den.val * b.den.val < 0)) (a.num.val * b.den.val + b.num.val * a.den.val).natAbs (a.den.val * b.den.val).natAbs) := by
  have h := radd_i w B a b H1 H2 hB oa ob
  rw [show a.num.val * b.den.val - -b.num.val * a.den.val = a.num.val * b.den.val + b.num.val * a.den.val by rw [Int.neg_mul, Int.sub_neg]] at h
  exact h
end Go.Proofs.YtdhdkknaagadaaaGreat
