/- The program's Nearest. -/
import Derived.Test.YtfgkhdpdjclmkaaGreatBq
import Derived.Test.YtfgkhdpdjclmkaaGreatBp
import Derived.Test.YtfgkhdpdjclmkaaGreatBo
import Derived.Test.YtfgkhdpdjclmkaaGreatBc
import Derived.Deep.DeepCutAuto
namespace Go.Proofs.YtfgkhdpdjclmkaaGreat
open Go.RowKit
set_option maxHeartbeats 400000
set_option maxRecDepth 100000
set_option linter.unusedSimpArgs false
set_option linter.unusedVariables false

theorem near_eq {n0 d0 zm n d p0 q0 p1 q1 s : Int} (h : CvE n0 d0 zm n d p0 q0 p1 q1) (hs : s = (zm - q0) / q1) : nearZ n0 d0 zm = if (((p0 + s * p1) * d0 - n0 * (q0 + s * q1)) * q1).natAbs < ((p1 * d0 - n0 * q1) * (q0 + s * q1)).natAbs then (p0 + s * p1, q0 + s * q1) else (p1, q1) := by
  unfold nearZ nearO
  rw [h.go, hs]
theorem div_int {x y : Int} (hx : 0 ≤ x) (hy : 0 ≤ y) : ((x.natAbs / y.natAbs : Nat) : Int) = x / y := by
  rw [Int.natCast_ediv, Int.natAbs_of_nonneg hx, Int.natAbs_of_nonneg hy]
theorem irep_nat {zs : List Nat} {v k : Nat} (h : Rep 4294967296 zs v) (hl : zs.length = k) : IRep (false && decide (0 < k)) zs ((v : Nat) : Int) := irep_sg (m := false) h hl
def RmR (V : World) (z : Int) (s : Value) (wx : World) : Prop :=
  ∃ g m A k c xs, s = .pointer (some ⟨g, 0, none⟩) ∧ Bk2 wx g (.bool m) (.slice A k c) ∧ LRd wx wx.heap.size A k c xs ∧ Hid (IRep m xs z) ∧ V.heap.size ≤ g ∧ Below V.heap.size V wx
def OtR (V : World) (z1 z2 : Int) (s : Value) (wx : World) : Prop :=
  ∃ (g : Nat) (o : RV), s = .pointer (some ⟨g, 0, none⟩) ∧ Bk4 wx g (.bool o.num.neg) (.slice o.num.A o.num.n o.num.c) (.bool o.den.neg) (.slice o.den.A o.den.n o.den.c) ∧ o.at wx wx.heap.size ∧ Hid (IRep o.num.neg o.num.xs z1) ∧ Hid (IRep o.den.neg o.den.xs z2) ∧ V.heap.size ≤ g ∧ Below V.heap.size V wx
section
variable {V u : World} {z z1 z2 : Int} {m m' : Bool} {A D : Option Addr} {k c l d g B : Nat} {xs ys : List Nat}
theorem rm_a (h : LRd u u.heap.size A k c xs) (R : Hid (IRep m xs z)) (b : Below V.heap.size V u) : RmR V z (.pointer (some ⟨u.heap.size, 0, none⟩)) (u.alloc (.cells #[.bool m, .slice A k c] 24)) :=
  ⟨_, m, A, k, c, xs, rfl, Bk2.newAt _ _ rfl _ _ _, LRd.more (h.alloc (Nat.le_refl _) _) (by simp), R, b.size, b.alloc b.size _⟩
theorem rm_o (h : LRd u u.heap.size A k c xs) (R : Hid (IRep m xs z)) (b : Below V.heap.size V u) (G : Bk2 u g (.bool false) (.slice none 0 0)) (hg : V.heap.size ≤ g) : RmR V z (.pointer (some ⟨g, 0, none⟩)) ((u.setCell ⟨g, 0, none⟩ (.bool m)).setCell ⟨g, 1, none⟩ (.slice A k c)) :=
  ⟨_, m, A, k, c, xs, rfl, G.set _ _, LRd.more (h.setB G (by simp) (by simp) _ _) (by simp [World.setCell]), R, hg, (b.setCell (p := ⟨g, 0, none⟩) hg _).setCell (p := ⟨g, 1, none⟩) hg _⟩
theorem ot_a (h : LRd u u.heap.size A k c xs) (j : LRd u u.heap.size D l d ys) (R : Hid (IRep m xs z1)) (S : Hid (IRep m' ys z2)) (b : Below V.heap.size V u) : OtR V z1 z2 (.pointer (some ⟨u.heap.size, 0, none⟩)) (u.alloc (.cells #[.bool m, .slice A k c, .bool m', .slice D l d] 26)) :=
  ⟨_, ⟨⟨m, A, k, c, xs⟩, ⟨m', D, l, d, ys⟩⟩, rfl, Bk4.newAt _ _ rfl _ _ _ _ _, rv_at (r := ⟨⟨m, A, k, c, xs⟩, ⟨m', D, l, d, ys⟩⟩) (LRd.more (h.alloc (Nat.le_refl _) _) (by simp)) (LRd.more (j.alloc (Nat.le_refl _) _) (by simp)), R, S, b.size, b.alloc b.size _⟩
theorem ot_o (h : LRd u u.heap.size A k c xs) (j : LRd u u.heap.size D l d ys) (R : Hid (IRep m xs z1)) (S : Hid (IRep m' ys z2)) (b : Below V.heap.size V u) (G : Bk4 u g (.bool false) (.slice none 0 0) (.bool false) (.slice none 0 0)) (hg : V.heap.size ≤ g) : OtR V z1 z2 (.pointer (some ⟨g, 0, none⟩)) ((((u.setCell ⟨g, 0, none⟩ (.bool m)).setCell ⟨g, 1, none⟩ (.slice A k c)).setCell ⟨g, 2, none⟩ (.bool m')).setCell ⟨g, 3, none⟩ (.slice D l d)) :=
  ⟨_, ⟨⟨m, A, k, c, xs⟩, ⟨m', D, l, d, ys⟩⟩, rfl, G.set _ _ _ _, rv_at (r := ⟨⟨m, A, k, c, xs⟩, ⟨m', D, l, d, ys⟩⟩) (LRd.more (h.set4 G (by simp) (by simp) (by simp) (by simp) _ _ _ _) (by simp [World.setCell])) (LRd.more (j.set4 G (by simp) (by simp) (by simp) (by simp) _ _ _ _) (by simp [World.setCell])), R, S, hg, (((b.setCell (p := ⟨g, 0, none⟩) hg _).setCell (p := ⟨g, 1, none⟩) hg _).setCell (p := ⟨g, 2, none⟩) hg _).setCell (p := ⟨g, 3, none⟩) hg _⟩
end
theorem mq1d {w w' : World} {u v x y : Value} {t : TypeId} (h : Below (w.alloc (.cells #[u, v, x, y] t)).heap.size (w.alloc (.cells #[u, v, x, y] t)) w') : Bk4 w' w.heap.size u v x y :=
  (Bk4.newAt w w.heap.size rfl u v x y t).below h (by simp)
set_option maxHeartbeats 40000000 in
theorem nearest_any (w : World) (B : Nat) (a : RV) (mA : Option Addr) (mn mc : Nat) (mxs : List Nat) (n0 d0 zm : Int) (H1 : a.at w B) (HM : LRd w B mA mn mc mxs) (hB : B ≤ w.heap.size) (hf : rfault [a] 0 = (0, 0)) (om : Hid (ivld false mxs = true)) (hz9 : decide (mn = 0) = false) (IX : Hid (IRep a.num.neg a.num.xs n0)) (IY : Hid (IRep a.den.neg a.den.xs d0)) (IM : Hid (IRep false mxs zm)) (hd0 : 1 ≤ d0) (hm1 : 1 ≤ zm) (HBD : Hid (n0.natAbs < Top128 ∧ d0.natAbs < Top128 ∧ zm.natAbs < Top128)) :
    Calls Tryz.prog 44 #[a.v, intv false mA mn mc] w (GivesRat w (nearZ n0 d0 zm).1 (nearZ n0 d0 zm).2 0 0) := by
  have HA : LRd w B a.num.A a.num.n a.num.c a.num.xs := H1.1
  have HC : LRd w B a.den.A a.den.n a.den.c a.den.xs := H1.2
  have E : Below w.heap.size w w := Below.refl _ _
  have bbase : Below w.heap.size w ((((w.alloc (.cells #[.bool a.num.neg, .slice a.num.A a.num.n a.num.c, .bool a.den.neg, .slice a.den.A a.den.n a.den.c] 26)).alloc (.cells #[.bool false, .slice mA mn mc] 24)).alloc (.cells #[.bool false, .slice none 0 0, .bool false, .slice none 0 0] 26)).alloc (.cells #[.int .i64 0, .int .i64 0] 28)) := ((((bl1 w _).alloc (by simp) _).alloc (by simp; omega) _).alloc (by simp; omega) _)
  have RR := Lib.hid (rrow1 ((((w.alloc (.cells #[.bool a.num.neg, .slice a.num.A a.num.n a.num.c, .bool a.den.neg, .slice a.den.A a.den.n a.den.c] 26)).alloc (.cells #[.bool false, .slice mA mn mc] 24)).alloc (.cells #[.bool false, .slice none 0 0, .bool false, .slice none 0 0] 26)).alloc (.cells #[.int .i64 0, .int .i64 0] 28)) B a (RV.at.below H1 bbase (by omega)) (by simp; omega))
  clear bbase
  go_enter Tryz.func44, Tryz.ntmps44
  go_wp2_with fail
  obtain ⟨V0, hV0⟩ : ∃ V0 : World, V0 = (((((w.alloc (.cells #[.bool a.num.neg, .slice a.num.A a.num.n a.num.c, .bool a.den.neg, .slice a.den.A a.den.n a.den.c] 26)).alloc (.cells #[.bool false, .slice mA mn mc] 24)).alloc (.cells #[.bool false, .slice none 0 0, .bool false, .slice none 0 0] 26)).alloc (.cells #[.int .i64 0, .int .i64 0] 28)).alloc (.cells #[.bool a.num.neg, .slice a.num.A a.num.n a.num.c, .bool a.den.neg, .slice a.den.A a.den.n a.den.c] 26)) := ⟨_, rfl⟩
  have bV0 : Below w.heap.size w V0 := by rw [hV0]; (repeat (first | with_reducible exact Below.refl _ _ | with_reducible refine Below.alloc ?_ (by first | (simp <;> omega) | omega) _))
  have zV0 : w.heap.size + 5 ≤ V0.heap.size := by rw [hV0]; simp
  have PA : Bk4 V0 (w.heap.size) (.bool a.num.neg) (.slice a.num.A a.num.n a.num.c) (.bool a.den.neg) (.slice a.den.A a.den.n a.den.c) := by rw [hV0]; exact (((((Bk4.newAt _ _ (by first | omega | (simp; done) | (simp; omega)) _ _ _ _ _).alloc _).alloc _).alloc _).alloc _)
  have PM : Bk2 V0 (w.heap.size + 1) (.bool false) (.slice mA mn mc) := by rw [hV0]; exact ((((Bk2.newAt _ _ (by first | omega | (simp; done) | (simp; omega)) _ _ _).alloc _).alloc _).alloc _)
  have R4 : Bk4 V0 (w.heap.size + 2) (.bool false) (.slice none 0 0) (.bool false) (.slice none 0 0) := by rw [hV0]; exact (((Bk4.newAt _ _ (by first | omega | (simp; done) | (simp; omega)) _ _ _ _ _).alloc _).alloc _)
  have R5 : Bk2 V0 (w.heap.size + 3) (.int .i64 0) (.int .i64 0) := by rw [hV0]; exact ((Bk2.newAt _ _ (by first | omega | (simp; done) | (simp; omega)) _ _ _).alloc _)
  replace RR : Hid (RRow V0 B (w.heap.size + 4) [a]) := by have h9 := RR.out; rw [hV0]; rw [show (((((w.alloc (.cells #[.bool a.num.neg, .slice a.num.A a.num.n a.num.c, .bool a.den.neg, .slice a.den.A a.den.n a.den.c] 26)).alloc (.cells #[.bool false, .slice mA mn mc] 24)).alloc (.cells #[.bool false, .slice none 0 0, .bool false, .slice none 0 0] 26)).alloc (.cells #[.int .i64 0, .int .i64 0] 28))).heap.size = w.heap.size + 4 by simp] at h9; exact h9
  rw [← hV0]
  clear hV0
  replace E := E.trans (bV0.mono E.size)
  replace HA := HA.below bV0 (by omega)
  replace HC := HC.below bV0 (by omega)
  replace HM := HM.below bV0 (by omega)
  clear bV0
  (with_reducible refine (rcheck_any _ B (w.heap.size + 4) 1 [a] RR.out rfl (by omega) (by omega)).mono ?_)
  rintro e w1 ⟨rfl, hb1⟩
  have sw1 := hb1.size
  replace E := E.trans (hb1.mono E.size)
  replace HA := HA.below hb1 (by omega)
  replace HC := HC.below hb1 (by omega)
  replace HM := HM.below hb1 (by omega)
  replace PA := PA.below hb1 PA.lt
  replace PM := PM.below hb1 PM.lt
  replace R4 := R4.below hb1 R4.lt
  replace R5 := R5.below hb1 R5.lt
  clear hb1
  rw [hf]
  clear RR
  have t_PM0 : (w1.alloc (.cells #[.int .i64 0, .int .i64 0] 28)).cell? ⟨w.heap.size + 1, 0, none⟩ = some ((.bool false)) := (PM.alloc _).c0
  have t_PM1 : (w1.alloc (.cells #[.int .i64 0, .int .i64 0] 28)).cell? ⟨w.heap.size + 1, 1, none⟩ = some ((.slice mA mn mc)) := (PM.alloc _).c1
  go_wp2_with fail
  clear t_PM0 t_PM1
  obtain ⟨V1, hV1⟩ : ∃ V1 : World, V1 = (w1.alloc (.cells #[.int .i64 0, .int .i64 0] 28)) := ⟨_, rfl⟩
  have bV1 : Below w1.heap.size w1 V1 := by rw [hV1]; (repeat (first | with_reducible exact Below.refl _ _ | with_reducible refine Below.alloc ?_ (by first | (simp <;> omega) | omega) _))
  have zV1 : w1.heap.size + 1 ≤ V1.heap.size := by rw [hV1]; simp
  have F6 : Bk2 V1 (w1.heap.size) (.int .i64 0) (.int .i64 0) := by rw [hV1]; exact (Bk2.newAt _ _ (by first | omega | (simp; done) | (simp; omega)) _ _ _)
  rw [← hV1]
  clear hV1
  replace E := E.trans (bV1.mono E.size)
  replace HA := HA.below bV1 (by omega)
  replace HC := HC.below bV1 (by omega)
  replace HM := HM.below bV1 (by omega)
  replace PA := PA.below bV1 PA.lt
  replace PM := PM.below bV1 PM.lt
  replace R4 := R4.below bV1 R4.lt
  replace R5 := R5.below bV1 R5.lt
  clear bV1
  clear F6
  (with_reducible refine (ivalid_any _ B false mA mn mc mxs HM (by omega)).mono ?_)
  rintro e w2 ⟨rfl, hb2⟩
  have sw2 := hb2.size
  replace E := E.trans (hb2.mono E.size)
  replace HA := HA.below hb2 (by omega)
  replace HC := HC.below hb2 (by omega)
  replace HM := HM.below hb2 (by omega)
  replace PA := PA.below hb2 PA.lt
  replace PM := PM.below hb2 PM.lt
  replace R4 := R4.below hb2 R4.lt
  replace R5 := R5.below hb2 R5.lt
  clear hb2
  rw [om.out]
  have t_PM0 := PM.c0
  have t_PM1 := PM.c1
  go_wp2_with fail
  clear t_PM0 t_PM1
  (with_reducible refine (isZero_any _ false mA mn mc (by have := HM.cap; omega)).mono ?_)
  rintro e w3 ⟨rfl, hb3⟩
  have sw3 := hb3.size
  replace E := E.trans (hb3.mono E.size)
  replace HA := HA.below hb3 (by omega)
  replace HC := HC.below hb3 (by omega)
  replace HM := HM.below hb3 (by omega)
  replace PA := PA.below hb3 PA.lt
  replace PM := PM.below hb3 PM.lt
  replace R4 := R4.below hb3 R4.lt
  replace R5 := R5.below hb3 R5.lt
  clear hb3
  rw [hz9]
  have t_PA0 := PA.c0
  have t_PA1 := PA.c1
  have t_PA2 := PA.c2
  have t_PA3 := PA.c3
  have t_PM0 := PM.c0
  have t_PM1 := PM.c1
  go_wp2_with fail
  clear t_PA0 t_PA1 t_PA2 t_PA3 t_PM0 t_PM1
  (with_reducible refine (convergents_any _ B a (IV.mk false mA mn mc mxs) n0 d0 zm (rv_at HA HC) (iv_at (a := IV.mk false mA mn mc mxs) HM) (by omega) IX IY IM hd0 hm1 HBD).mono ?_)
  rintro e w4 ⟨p, l, n, d, p0, q0, p1, q1, rfl, HP, HL, i0, i1, i2, i3, cve, hb4⟩
  have sw4 := hb4.size
  replace E := E.trans (hb4.mono E.size)
  replace HA := HA.below hb4 (by omega)
  replace HC := HC.below hb4 (by omega)
  replace HM := HM.below hb4 (by omega)
  replace PA := PA.below hb4 PA.lt
  replace PM := PM.below hb4 PM.lt
  replace R4 := R4.below hb4 R4.lt
  replace R5 := R5.below hb4 R5.lt
  clear hb4
  have J0 := Lib.hid i0
  have J1 := Lib.hid i1
  have J2 := Lib.hid i2
  have J3 := Lib.hid i3
  have CE := Lib.hid cve
  have HP1 : LRd w4 w4.heap.size p.num.A p.num.n p.num.c p.num.xs := HP.1
  have HP2 : LRd w4 w4.heap.size p.den.A p.den.n p.den.c p.den.xs := HP.2
  have HL1 : LRd w4 w4.heap.size l.num.A l.num.n l.num.c l.num.xs := HL.1
  have HL2 : LRd w4 w4.heap.size l.den.A l.den.n l.den.c l.den.xs := HL.2
  clear i0 i1 i2 i3 cve HP HL
  go_upto_region 9 with fail
  obtain ⟨V4, hV4⟩ : ∃ V4 : World, V4 = ((w4.alloc (.cells #[.bool p.num.neg, .slice p.num.A p.num.n p.num.c, .bool p.den.neg, .slice p.den.A p.den.n p.den.c] 26)).alloc (.cells #[.bool l.num.neg, .slice l.num.A l.num.n l.num.c, .bool l.den.neg, .slice l.den.A l.den.n l.den.c] 26)) := ⟨_, rfl⟩
  have bV4 : Below w4.heap.size w4 V4 := by rw [hV4]; (repeat (first | with_reducible exact Below.refl _ _ | with_reducible refine Below.alloc ?_ (by first | (simp <;> omega) | omega) _))
  have zV4 : w4.heap.size + 2 ≤ V4.heap.size := by rw [hV4]; simp
  have P7 : Bk4 V4 (w4.heap.size) (.bool p.num.neg) (.slice p.num.A p.num.n p.num.c) (.bool p.den.neg) (.slice p.den.A p.den.n p.den.c) := by rw [hV4]; exact ((Bk4.newAt _ _ (by first | omega | (simp; done) | (simp; omega)) _ _ _ _ _).alloc _)
  have P8 : Bk4 V4 (w4.heap.size + 1) (.bool l.num.neg) (.slice l.num.A l.num.n l.num.c) (.bool l.den.neg) (.slice l.den.A l.den.n l.den.c) := by rw [hV4]; exact (Bk4.newAt _ _ (by first | omega | (simp; done) | (simp; omega)) _ _ _ _ _)
  rw [← hV4]
  clear hV4
  replace E := E.trans (bV4.mono E.size)
  replace HA := HA.below bV4 (by omega)
  replace HC := HC.below bV4 (by omega)
  replace HM := HM.below bV4 (by omega)
  replace PA := PA.below bV4 PA.lt
  replace PM := PM.below bV4 PM.lt
  replace R4 := R4.below bV4 R4.lt
  replace R5 := R5.below bV4 R5.lt
  replace HP1 := HP1.below bV4 (by omega)
  replace HP2 := HP2.below bV4 (by omega)
  replace HL1 := HL1.below bV4 (by omega)
  replace HL2 := HL2.below bV4 (by omega)
  clear bV4
  obtain ⟨sv, hsv⟩ : ∃ s, s = (zm - q0) / q1 := ⟨_, rfl⟩
  have FU := CE.out.fur hsv hd0 (Nat.le_of_lt HBD.out.1) (Nat.le_of_lt HBD.out.2.1) (Nat.le_of_lt HBD.out.2.2) top_ge4
  obtain ⟨⟨s0, s1, s2⟩, ⟨f1, f2, f3, f4, f5⟩, ⟨f6, f7, f8, f9⟩, ⟨t1, t2, t3, t4⟩, t5, t6, t7, t8⟩ := FU
  replace f1 := Lib.hid (Nat.lt_of_lt_of_le f1 top4_big)
  replace f2 := Lib.hid (Nat.lt_of_lt_of_le f2 top4_big)
  replace f3 := Lib.hid (Nat.lt_of_lt_of_le f3 top4_big)
  replace f4 := Lib.hid (Nat.lt_of_lt_of_le f4 top4_big)
  replace f5 := Lib.hid (Nat.lt_of_lt_of_le f5 top4_big)
  replace f6 := Lib.hid (Nat.lt_of_lt_of_le f6 top4_big)
  replace f7 := Lib.hid (Nat.lt_of_lt_of_le f7 top4_big)
  replace f8 := Lib.hid (Nat.lt_of_lt_of_le f8 top4_big)
  replace f9 := Lib.hid (Nat.lt_of_lt_of_le f9 top4_big)
  replace t1 := Lib.hid (Nat.lt_of_lt_of_le t1 top4_big)
  replace t2 := Lib.hid (Nat.lt_of_lt_of_le t2 top4_big)
  replace t3 := Lib.hid (Nat.lt_of_lt_of_le t3 top4_big)
  replace t4 := Lib.hid (Nat.lt_of_lt_of_le t4 top4_big)
  replace t5 := Lib.hid (Nat.lt_of_lt_of_le t5 top4_big)
  replace t6 := Lib.hid (Nat.lt_of_lt_of_le t6 top4_big)
  replace t7 := Lib.hid (Nat.lt_of_lt_of_le t7 top4_big)
  replace t8 := Lib.hid (Nat.lt_of_lt_of_le t8 top4_big)
  have SS := Lib.hid (And.intro s0 (And.intro s1 s2))
  have HSV := Lib.hid hsv
  have hq0a := Lib.hid CE.out.q0p
  have hrm := Lib.hid (show (zm.natAbs + (-q0).natAbs < Big) by have := CE.out.q0p; have := CE.out.q0m; have h1 := HBD.out.2.2; have h2 := top_sq_big h1 (show 1 < Top128 from lt_top (by decide)); omega)
  have bm := Lib.hid (show zm.natAbs < Big by have := hrm.out; omega)
  clear s0 s1 s2 hsv
  go_cut [9] (fun s9 wx => RmR V4 (zm + -q0) s9 wx)
  case first =>
    as_aux_lemma =>
      have lt_PM := PM.lt
      have lt_P7 := P7.lt
      have HS := Lib.hid (fun (u : World) (hu : Below V4.heap.size V4 u) => (⟨(hu.cell (p := ⟨w.heap.size + 1, 0, none⟩) (by show w.heap.size + 1 < _; omega)).trans PM.c0, (hu.cell (p := ⟨w.heap.size + 1, 1, none⟩) (by show w.heap.size + 1 < _; omega)).trans PM.c1, (hu.cell (p := ⟨w4.heap.size, 0, none⟩) (by show w4.heap.size < _; omega)).trans P7.c0, (hu.cell (p := ⟨w4.heap.size, 1, none⟩) (by show w4.heap.size < _; omega)).trans P7.c1, (hu.cell (p := ⟨w4.heap.size, 2, none⟩) (by show w4.heap.size < _; omega)).trans P7.c2, (hu.cell (p := ⟨w4.heap.size, 3, none⟩) (by show w4.heap.size < _; omega)).trans P7.c3⟩ : u.cell? ⟨w.heap.size + 1, 0, none⟩ = some (.bool false) ∧ u.cell? ⟨w.heap.size + 1, 1, none⟩ = some (.slice mA mn mc) ∧ u.cell? ⟨w4.heap.size, 0, none⟩ = some (.bool p.num.neg) ∧ u.cell? ⟨w4.heap.size, 1, none⟩ = some (.slice p.num.A p.num.n p.num.c) ∧ u.cell? ⟨w4.heap.size, 2, none⟩ = some (.bool p.den.neg) ∧ u.cell? ⟨w4.heap.size, 3, none⟩ = some (.slice p.den.A p.den.n p.den.c)))
      have G0 : Below V4.heap.size V4 V4.drew := Below.drew (Below.refl _ _)
      go_region_held3 (fun u => u.cell? ⟨w.heap.size + 1, 0, none⟩ = some (.bool false) ∧ u.cell? ⟨w.heap.size + 1, 1, none⟩ = some (.slice mA mn mc) ∧ u.cell? ⟨w4.heap.size, 0, none⟩ = some (.bool p.num.neg) ∧ u.cell? ⟨w4.heap.size, 1, none⟩ = some (.slice p.num.A p.num.n p.num.c) ∧ u.cell? ⟨w4.heap.size, 2, none⟩ = some (.bool p.den.neg) ∧ u.cell? ⟨w4.heap.size, 3, none⟩ = some (.slice p.den.A p.den.n p.den.c))
        (first | exact HS.out _ (by (repeat (first | with_reducible exact G0 | with_reducible exact B2 | with_reducible exact B1 | with_reducible exact Below.refl _ _ | with_reducible refine Below.drew ?_ | with_reducible refine Below.alloc ?_ (by first | (simp <;> omega) | omega) _ | with_reducible refine Below.setCell ?_ (by first | (simp <;> omega) | omega) _))) | fail)
        (first
          | (go_at_call 58; (with_reducible refine (opposite_any _ p.den.neg p.den.A p.den.n p.den.c (by have := HP2.cap; omega)).mono ?_); rintro e u1 ⟨rfl, hb1⟩; have B1 : Below V4.heap.size V4 u1 := (by refine bnext ?_ hb1; (repeat (first | with_reducible exact G0 | with_reducible exact B2 | with_reducible exact B1 | with_reducible exact Below.refl _ _ | with_reducible refine Below.drew ?_ | with_reducible refine Below.alloc ?_ (by first | (simp <;> omega) | omega) _ | with_reducible refine Below.setCell ?_ (by first | (simp <;> omega) | omega) _))); have b1s := B1.size; (first | (have n1 := al1d hb1; obtain ⟨_, _, _, _, _⟩ := id n1) | (have n1 := al1 hb1; obtain ⟨_, _, _, _, _⟩ := id n1) | skip))
          | (go_at_call 91; (with_reducible refine (rsum_i _ u1.heap.size false (!p.den.neg && decide (0 < p.den.n)) mA p.den.A mn p.den.n mc p.den.c mxs p.den.xs zm (-q0) (LRd.more (B := V4.heap.size) (LRd.below (HM.more (by omega)) (B' := V4.heap.size) (by (repeat (first | with_reducible exact G0 | with_reducible exact B2 | with_reducible exact B1 | with_reducible exact Below.refl _ _ | with_reducible refine Below.drew ?_ | with_reducible refine Below.alloc ?_ (by first | (simp <;> omega) | omega) _ | with_reducible refine Below.setCell ?_ (by first | (simp <;> omega) | omega) _))) (Nat.le_refl _)) (by first | (simp <;> omega) | omega)) (LRd.more (B := V4.heap.size) (LRd.below (HP2.more (by omega)) (B' := V4.heap.size) (by (repeat (first | with_reducible exact G0 | with_reducible exact B2 | with_reducible exact B1 | with_reducible exact Below.refl _ _ | with_reducible refine Below.drew ?_ | with_reducible refine Below.alloc ?_ (by first | (simp <;> omega) | omega) _ | with_reducible refine Below.setCell ?_ (by first | (simp <;> omega) | omega) _))) (Nat.le_refl _)) (by first | (simp <;> omega) | omega)) (by first | (simp <;> omega) | omega) IM.out (opp_irep J1.out HP2.len.out) hrm.out).mono ?_); rintro e u2 ⟨m2, A2, k2, c2, x2, rfl, hl2, hr2, hb2⟩; have B2 : Below V4.heap.size V4 u2 := (by refine bnext ?_ hb2; (repeat (first | with_reducible exact G0 | with_reducible exact B2 | with_reducible exact B1 | with_reducible exact Below.refl _ _ | with_reducible refine Below.drew ?_ | with_reducible refine Below.alloc ?_ (by first | (simp <;> omega) | omega) _ | with_reducible refine Below.setCell ?_ (by first | (simp <;> omega) | omega) _))); have R2 := Lib.hid hr2; clear hr2; have b2s := B2.size; (first | (have n2 := al1 hb2; obtain ⟨_, _, _, _, _⟩ := id n2) | (have n2 := n1.below hb2 n1.lt; obtain ⟨_, _, _, _, _⟩ := id n2) | skip))
          | fail)
      all_goals (go_wp2_with fail)
      all_goals go_meet
      all_goals first
        | with_reducible exact rm_a hl2 R2 B2
        | with_reducible exact rm_o hl2 R2 B2 (by with_reducible assumption) (by omega)
        | fail
  case rest =>
  obtain ⟨g9, m9, A9, k9, e9, x9, rfl, P9, L9, R9, hg9, hbX⟩ := hcut
  replace E := E.trans (hbX.mono E.size)
  replace HA := HA.below hbX (by omega)
  replace HC := HC.below hbX (by omega)
  replace HM := HM.below hbX (by omega)
  replace PA := PA.below hbX PA.lt
  replace PM := PM.below hbX PM.lt
  replace R4 := R4.below hbX R4.lt
  replace R5 := R5.below hbX R5.lt
  replace HP1 := HP1.below hbX (by omega)
  replace HP2 := HP2.below hbX (by omega)
  replace HL1 := HL1.below hbX (by omega)
  replace HL2 := HL2.below hbX (by omega)
  replace P7 := P7.below hbX P7.lt
  replace P8 := P8.below hbX P8.lt
  have sX := hbX.size
  clear hbX
  obtain ⟨V9, hV9⟩ : ∃ y : World, y = wc := ⟨_, rfl⟩
  subst hV9
  have t_P90 := P9.c0
  have t_P91 := P9.c1
  have t_P80 := P8.c0
  have t_P81 := P8.c1
  have t_P82 := P8.c2
  have t_P83 := P8.c3
  go_wp2_with fail
  clear t_P90 t_P91 t_P80 t_P81 t_P82 t_P83
  have vr : vld x9 = true := big_vld R9.out.rep (by have := hrm.out; omega)
  have vl : vld l.den.xs = true := big_vld J3.out.rep f2.out
  have hl0 : l.den.xs.length ≠ 0 := fun h => by have h1 := (IRep.len0 J3.out).1 h; have := CE.out.q1p; omega
  have HV := Lib.hid (And.intro vr (And.intro vl hl0))
  clear vr vl hl0
  (with_reducible refine (divmod_ok _ V9.heap.size A9 l.den.A k9 l.den.n e9 l.den.c x9 l.den.xs L9 (HL2.more (by omega)) (Nat.le_refl _) HV.out.1 HV.out.2.1).mono ?_)
  rintro e w5 hdp
  obtain ⟨Q, k5, c5, x5, D5, l5, r5, y5, rfl, hq1, hq2, hr1, hr2, hb5⟩ := hdp.elim (fun h => absurd h.1 HV.out.2.2) (fun h => h.2)
  clear hdp
  have sw5 := hb5.size
  replace E := E.trans (hb5.mono E.size)
  replace HA := HA.below hb5 (by omega)
  replace HC := HC.below hb5 (by omega)
  replace HM := HM.below hb5 (by omega)
  replace PA := PA.below hb5 PA.lt
  replace PM := PM.below hb5 PM.lt
  replace R4 := R4.below hb5 R4.lt
  replace R5 := R5.below hb5 R5.lt
  replace HP1 := HP1.below hb5 (by omega)
  replace HP2 := HP2.below hb5 (by omega)
  replace HL1 := HL1.below hb5 (by omega)
  replace HL2 := HL2.below hb5 (by omega)
  replace P7 := P7.below hb5 P7.lt
  replace P8 := P8.below hb5 P8.lt
  replace P9 := P9.below hb5 P9.lt
  replace L9 := L9.below hb5 (by omega)
  clear hb5
  rw [R9.out.rep.val, J3.out.rep.val] at hq2
  have hIS : IRep false x5 sv := by
    have h1 := irep_nat hq2 hq1.len.out
    rw [div_int (by have := CE.out.q0m; omega) (by have := CE.out.q1p; omega), ← Int.sub_eq_add_neg, ← HSV.out] at h1
    exact h1
  have IS := Lib.hid hIS
  clear hq2 hr2 hr1 hIS
  go_upto_region 11 with fail
  obtain ⟨V6, hV6⟩ : ∃ V6 : World, V6 = (w5.alloc (.cells #[.int .i64 0, .int .i64 0] 28)) := ⟨_, rfl⟩
  have bV6 : Below w5.heap.size w5 V6 := by rw [hV6]; (repeat (first | with_reducible exact Below.refl _ _ | with_reducible refine Below.alloc ?_ (by first | (simp <;> omega) | omega) _))
  have zV6 : w5.heap.size + 1 ≤ V6.heap.size := by rw [hV6]; simp
  have F12 : Bk2 V6 (w5.heap.size) (.int .i64 0) (.int .i64 0) := by rw [hV6]; exact (Bk2.newAt _ _ (by first | omega | (simp; done) | (simp; omega)) _ _ _)
  rw [← hV6]
  clear hV6
  replace E := E.trans (bV6.mono E.size)
  replace HA := HA.below bV6 (by omega)
  replace HC := HC.below bV6 (by omega)
  replace HM := HM.below bV6 (by omega)
  replace PA := PA.below bV6 PA.lt
  replace PM := PM.below bV6 PM.lt
  replace R4 := R4.below bV6 R4.lt
  replace R5 := R5.below bV6 R5.lt
  replace HP1 := HP1.below bV6 (by omega)
  replace HP2 := HP2.below bV6 (by omega)
  replace HL1 := HL1.below bV6 (by omega)
  replace HL2 := HL2.below bV6 (by omega)
  replace P7 := P7.below bV6 P7.lt
  replace P8 := P8.below bV6 P8.lt
  replace P9 := P9.below bV6 P9.lt
  replace L9 := L9.below bV6 (by omega)
  replace hq1 := hq1.below bV6 (by omega)
  clear bV6
  clear F12
  go_cut [13] (fun s9 wx => OtR V6 (p0 + sv * p1) (q0 + sv * q1) s9 wx)
  case first =>
    as_aux_lemma =>
      have lt_P7 := P7.lt
      have lt_P8 := P8.lt
      have HS := Lib.hid (fun (u : World) (hu : Below V6.heap.size V6 u) => (⟨(hu.cell (p := ⟨w4.heap.size, 0, none⟩) (by show w4.heap.size < _; omega)).trans P7.c0, (hu.cell (p := ⟨w4.heap.size, 1, none⟩) (by show w4.heap.size < _; omega)).trans P7.c1, (hu.cell (p := ⟨w4.heap.size, 2, none⟩) (by show w4.heap.size < _; omega)).trans P7.c2, (hu.cell (p := ⟨w4.heap.size, 3, none⟩) (by show w4.heap.size < _; omega)).trans P7.c3, (hu.cell (p := ⟨w4.heap.size + 1, 0, none⟩) (by show w4.heap.size + 1 < _; omega)).trans P8.c0, (hu.cell (p := ⟨w4.heap.size + 1, 1, none⟩) (by show w4.heap.size + 1 < _; omega)).trans P8.c1, (hu.cell (p := ⟨w4.heap.size + 1, 2, none⟩) (by show w4.heap.size + 1 < _; omega)).trans P8.c2, (hu.cell (p := ⟨w4.heap.size + 1, 3, none⟩) (by show w4.heap.size + 1 < _; omega)).trans P8.c3⟩ : u.cell? ⟨w4.heap.size, 0, none⟩ = some (.bool p.num.neg) ∧ u.cell? ⟨w4.heap.size, 1, none⟩ = some (.slice p.num.A p.num.n p.num.c) ∧ u.cell? ⟨w4.heap.size, 2, none⟩ = some (.bool p.den.neg) ∧ u.cell? ⟨w4.heap.size, 3, none⟩ = some (.slice p.den.A p.den.n p.den.c) ∧ u.cell? ⟨w4.heap.size + 1, 0, none⟩ = some (.bool l.num.neg) ∧ u.cell? ⟨w4.heap.size + 1, 1, none⟩ = some (.slice l.num.A l.num.n l.num.c) ∧ u.cell? ⟨w4.heap.size + 1, 2, none⟩ = some (.bool l.den.neg) ∧ u.cell? ⟨w4.heap.size + 1, 3, none⟩ = some (.slice l.den.A l.den.n l.den.c)))
      have G0 : Below V6.heap.size V6 V6.drew := Below.drew (Below.refl _ _)
      go_region_held3 (fun u => u.cell? ⟨w4.heap.size, 0, none⟩ = some (.bool p.num.neg) ∧ u.cell? ⟨w4.heap.size, 1, none⟩ = some (.slice p.num.A p.num.n p.num.c) ∧ u.cell? ⟨w4.heap.size, 2, none⟩ = some (.bool p.den.neg) ∧ u.cell? ⟨w4.heap.size, 3, none⟩ = some (.slice p.den.A p.den.n p.den.c) ∧ u.cell? ⟨w4.heap.size + 1, 0, none⟩ = some (.bool l.num.neg) ∧ u.cell? ⟨w4.heap.size + 1, 1, none⟩ = some (.slice l.num.A l.num.n l.num.c) ∧ u.cell? ⟨w4.heap.size + 1, 2, none⟩ = some (.bool l.den.neg) ∧ u.cell? ⟨w4.heap.size + 1, 3, none⟩ = some (.slice l.den.A l.den.n l.den.c))
        (first | exact HS.out _ (by (repeat (first | with_reducible exact G0 | with_reducible exact B2 | with_reducible exact B1 | with_reducible exact Below.refl _ _ | with_reducible refine Below.drew ?_ | with_reducible refine Below.alloc ?_ (by first | (simp <;> omega) | omega) _ | with_reducible refine Below.setCell ?_ (by first | (simp <;> omega) | omega) _))) | fail)
        (first
          | (go_at_call 75; (with_reducible refine (rsigned_any _ false Q k5 c5 (by have := hq1.cap; omega)).mono ?_); rintro e u1 ⟨rfl, hb1⟩; have B1 : Below V6.heap.size V6 u1 := (by refine bnext ?_ hb1; (repeat (first | with_reducible exact G0 | with_reducible exact B2 | with_reducible exact B1 | with_reducible exact Below.refl _ _ | with_reducible refine Below.drew ?_ | with_reducible refine Below.alloc ?_ (by first | (simp <;> omega) | omega) _ | with_reducible refine Below.setCell ?_ (by first | (simp <;> omega) | omega) _))); have b1s := B1.size; (first | (have n1 := mq1 hb1; obtain ⟨_, _, _, _, _, _, _, _, _⟩ := id n1) | (have n1 := mq1d hb1; obtain ⟨_, _, _, _, _, _, _, _, _⟩ := id n1) | skip))
          | (go_at_call 93; (with_reducible refine (further_any _ V6.heap.size p l (IV.mk false Q k5 c5 x5) p0 q0 p1 q1 sv (rv_at (LRd.below (HP1.more (by omega)) (B' := V6.heap.size) (by (repeat (first | with_reducible exact G0 | with_reducible exact B2 | with_reducible exact B1 | with_reducible exact Below.refl _ _ | with_reducible refine Below.drew ?_ | with_reducible refine Below.alloc ?_ (by first | (simp <;> omega) | omega) _ | with_reducible refine Below.setCell ?_ (by first | (simp <;> omega) | omega) _))) (Nat.le_refl _)) (LRd.below (HP2.more (by omega)) (B' := V6.heap.size) (by (repeat (first | with_reducible exact G0 | with_reducible exact B2 | with_reducible exact B1 | with_reducible exact Below.refl _ _ | with_reducible refine Below.drew ?_ | with_reducible refine Below.alloc ?_ (by first | (simp <;> omega) | omega) _ | with_reducible refine Below.setCell ?_ (by first | (simp <;> omega) | omega) _))) (Nat.le_refl _))) (rv_at (LRd.below (HL1.more (by omega)) (B' := V6.heap.size) (by (repeat (first | with_reducible exact G0 | with_reducible exact B2 | with_reducible exact B1 | with_reducible exact Below.refl _ _ | with_reducible refine Below.drew ?_ | with_reducible refine Below.alloc ?_ (by first | (simp <;> omega) | omega) _ | with_reducible refine Below.setCell ?_ (by first | (simp <;> omega) | omega) _))) (Nat.le_refl _)) (LRd.below (HL2.more (by omega)) (B' := V6.heap.size) (by (repeat (first | with_reducible exact G0 | with_reducible exact B2 | with_reducible exact B1 | with_reducible exact Below.refl _ _ | with_reducible refine Below.drew ?_ | with_reducible refine Below.alloc ?_ (by first | (simp <;> omega) | omega) _ | with_reducible refine Below.setCell ?_ (by first | (simp <;> omega) | omega) _))) (Nat.le_refl _))) (iv_at (a := IV.mk false Q k5 c5 x5) (LRd.below (hq1.more (by omega)) (B' := V6.heap.size) (by (repeat (first | with_reducible exact G0 | with_reducible exact B2 | with_reducible exact B1 | with_reducible exact Below.refl _ _ | with_reducible refine Below.drew ?_ | with_reducible refine Below.alloc ?_ (by first | (simp <;> omega) | omega) _ | with_reducible refine Below.setCell ?_ (by first | (simp <;> omega) | omega) _))) (Nat.le_refl _))) (by first | (simp <;> omega) | omega) J0 J1 J2 J3 IS f1 f2 f3 f4 f5).mono ?_); rintro e u2 ⟨m2, A2, k2, c2, x2, m3, A3, k3, c3, x3, rfl, hl2, hl3, hr2, hr3, hb2⟩; have B2 : Below V6.heap.size V6 u2 := (by refine bnext ?_ hb2; (repeat (first | with_reducible exact G0 | with_reducible exact B2 | with_reducible exact B1 | with_reducible exact Below.refl _ _ | with_reducible refine Below.drew ?_ | with_reducible refine Below.alloc ?_ (by first | (simp <;> omega) | omega) _ | with_reducible refine Below.setCell ?_ (by first | (simp <;> omega) | omega) _))); have R2 := Lib.hid hr2; have R3 := Lib.hid hr3; clear hr2 hr3; have b2s := B2.size; (first | (have n2 := mq1d hb2; obtain ⟨_, _, _, _, _, _, _, _, _⟩ := id n2) | (have n2 := n1.below hb2 n1.lt; obtain ⟨_, _, _, _, _, _, _, _, _⟩ := id n2) | skip))
          | fail)
      all_goals (go_wp2_with fail)
      all_goals go_meet
      all_goals first
        | with_reducible exact ot_a hl2 hl3 R2 R3 B2
        | with_reducible exact ot_o hl2 hl3 R2 R3 B2 (by with_reducible assumption) (by omega)
        | fail
  case rest =>
  obtain ⟨g13, o, rfl, P13, HO, RO1, RO2, hg13, hbX⟩ := hcut
  replace E := E.trans (hbX.mono E.size)
  replace HA := HA.below hbX (by omega)
  replace HC := HC.below hbX (by omega)
  replace HM := HM.below hbX (by omega)
  replace PA := PA.below hbX PA.lt
  replace PM := PM.below hbX PM.lt
  replace R4 := R4.below hbX R4.lt
  replace R5 := R5.below hbX R5.lt
  replace HP1 := HP1.below hbX (by omega)
  replace HP2 := HP2.below hbX (by omega)
  replace HL1 := HL1.below hbX (by omega)
  replace HL2 := HL2.below hbX (by omega)
  replace P7 := P7.below hbX P7.lt
  replace P8 := P8.below hbX P8.lt
  replace P9 := P9.below hbX P9.lt
  replace L9 := L9.below hbX (by omega)
  replace hq1 := hq1.below hbX (by omega)
  have sX2 := hbX.size
  clear hbX
  obtain ⟨V13, hV13⟩ : ∃ y : World, y = wc := ⟨_, rfl⟩
  subst hV13
  have HO1 : LRd V13 V13.heap.size o.num.A o.num.n o.num.c o.num.xs := HO.1
  have HO2 : LRd V13 V13.heap.size o.den.A o.den.n o.den.c o.den.xs := HO.2
  clear HO
  have t_P130 := P13.c0
  have t_P131 := P13.c1
  have t_P132 := P13.c2
  have t_P133 := P13.c3
  have t_P80 := P8.c0
  have t_P81 := P8.c1
  have t_P82 := P8.c2
  have t_P83 := P8.c3
  have t_PA0 := PA.c0
  have t_PA1 := PA.c1
  have t_PA2 := PA.c2
  have t_PA3 := PA.c3
  go_wp2_with fail
  clear t_P130 t_P131 t_P132 t_P133 t_P80 t_P81 t_P82 t_P83 t_PA0 t_PA1 t_PA2 t_PA3
  (with_reducible refine (closer_any _ V13.heap.size o l a (p0 + sv * p1) (q0 + sv * q1) p1 q1 n0 d0 (rv_at HO1 HO2) (rv_at (HL1.more (by omega)) (HL2.more (by omega))) (rv_at (HA.more (by omega)) (HC.more (by omega))) (Nat.le_refl _) RO1 RO2 J2 J3 IX IY f6 f7 f1 f2 f8 f9 t1 t2 t3 t4 t5 t6 t7 t8).mono ?_)
  rintro e w6 ⟨rfl, hb6⟩
  have sw6 := hb6.size
  replace E := E.trans (hb6.mono E.size)
  replace HA := HA.below hb6 (by omega)
  replace HC := HC.below hb6 (by omega)
  replace HM := HM.below hb6 (by omega)
  replace PA := PA.below hb6 PA.lt
  replace PM := PM.below hb6 PM.lt
  replace R4 := R4.below hb6 R4.lt
  replace R5 := R5.below hb6 R5.lt
  replace HP1 := HP1.below hb6 (by omega)
  replace HP2 := HP2.below hb6 (by omega)
  replace HL1 := HL1.below hb6 (by omega)
  replace HL2 := HL2.below hb6 (by omega)
  replace P7 := P7.below hb6 P7.lt
  replace P8 := P8.below hb6 P8.lt
  replace P9 := P9.below hb6 P9.lt
  replace L9 := L9.below hb6 (by omega)
  replace hq1 := hq1.below hb6 (by omega)
  replace P13 := P13.below hb6 P13.lt
  replace HO1 := HO1.below hb6 (by omega)
  replace HO2 := HO2.below hb6 (by omega)
  clear hb6
  have NQ := Lib.hid (near_eq CE.out HSV.out)
  by_cases hlt : (((p0 + sv * p1) * d0 - n0 * (q0 + sv * q1)) * q1).natAbs < ((p1 * d0 - n0 * q1) * (q0 + sv * q1)).natAbs
  · have HZ := Lib.hid (show nearZ n0 d0 zm = (p0 + sv * p1, q0 + sv * q1) by rw [NQ.out, if_pos hlt])
    rw [decide_eq_true hlt]
    clear hlt NQ
    have y_R40 := R4.c0
    have z_R40 := R4.z0
    have y_R41 := R4.c1
    have z_R41 := R4.z1
    have y_R42 := R4.c2
    have z_R42 := R4.z2
    have y_R43 := R4.c3
    have z_R43 := R4.z3
    have lt_R4 := R4.lt
    have y_R50 := R5.c0
    have z_R50 := R5.z0
    have y_R51 := R5.c1
    have z_R51 := R5.z1
    have lt_R5 := R5.lt
    have t_P130 := P13.c0
    have t_P131 := P13.c1
    have t_P132 := P13.c2
    have t_P133 := P13.c3
    have lt_P13 := P13.lt
    go_wp2_with fail
    clear y_R40 z_R40 y_R41 z_R41 y_R42 z_R42 y_R43 z_R43 lt_R4 y_R50 z_R50 y_R51 z_R51 lt_R5 t_P130 t_P131 t_P132 t_P133 lt_P13
    obtain ⟨U8R4, hU8R4⟩ : ∃ U8R4 : World, U8R4 = ((((w6.setCell ⟨w.heap.size + 2, 0, none⟩ (.bool o.num.neg)).setCell ⟨w.heap.size + 2, 1, none⟩ (.slice o.num.A o.num.n o.num.c)).setCell ⟨w.heap.size + 2, 2, none⟩ (.bool o.den.neg)).setCell ⟨w.heap.size + 2, 3, none⟩ (.slice o.den.A o.den.n o.den.c)) := ⟨_, rfl⟩
    have zU8R4 : U8R4.heap.size = w6.heap.size := by rw [hU8R4]; simp [World.setCell]
    replace E : Below w.heap.size w U8R4 := by rw [hU8R4]; exact ((((E.setCell (by first | (simp; done) | (simp; omega)) _).setCell (by first | (simp; done) | (simp; omega)) _).setCell (by first | (simp; done) | (simp; omega)) _).setCell (by first | (simp; done) | (simp; omega)) _)
    replace HA : LRd U8R4 (B) a.num.A a.num.n a.num.c a.num.xs := by rw [hU8R4]; first | exact HA.set4 R4 (by simp) (by simp) (by simp) (by simp) _ _ _ _ | exact HA.set4O (by omega) _ _ _ _
    replace HC : LRd U8R4 (B) a.den.A a.den.n a.den.c a.den.xs := by rw [hU8R4]; first | exact HC.set4 R4 (by simp) (by simp) (by simp) (by simp) _ _ _ _ | exact HC.set4O (by omega) _ _ _ _
    replace HM : LRd U8R4 (B) mA mn mc mxs := by rw [hU8R4]; first | exact HM.set4 R4 (by simp) (by simp) (by simp) (by simp) _ _ _ _ | exact HM.set4O (by omega) _ _ _ _
    replace PA : Bk4 U8R4 (w.heap.size) (.bool a.num.neg) (.slice a.num.A a.num.n a.num.c) (.bool a.den.neg) (.slice a.den.A a.den.n a.den.c) := by rw [hU8R4]; exact PA.far4 (by omega) _ _ _ _
    replace PM : Bk2 U8R4 (w.heap.size + 1) (.bool false) (.slice mA mn mc) := by rw [hU8R4]; exact PM.far4 (by omega) _ _ _ _
    replace R5 : Bk2 U8R4 (w.heap.size + 3) (.int .i64 0) (.int .i64 0) := by rw [hU8R4]; exact R5.far4 (by omega) _ _ _ _
    replace HP1 : LRd U8R4 (w4.heap.size) p.num.A p.num.n p.num.c p.num.xs := by rw [hU8R4]; first | exact HP1.set4 R4 (by simp) (by simp) (by simp) (by simp) _ _ _ _ | exact HP1.set4O (by omega) _ _ _ _
    replace HP2 : LRd U8R4 (w4.heap.size) p.den.A p.den.n p.den.c p.den.xs := by rw [hU8R4]; first | exact HP2.set4 R4 (by simp) (by simp) (by simp) (by simp) _ _ _ _ | exact HP2.set4O (by omega) _ _ _ _
    replace HL1 : LRd U8R4 (w4.heap.size) l.num.A l.num.n l.num.c l.num.xs := by rw [hU8R4]; first | exact HL1.set4 R4 (by simp) (by simp) (by simp) (by simp) _ _ _ _ | exact HL1.set4O (by omega) _ _ _ _
    replace HL2 : LRd U8R4 (w4.heap.size) l.den.A l.den.n l.den.c l.den.xs := by rw [hU8R4]; first | exact HL2.set4 R4 (by simp) (by simp) (by simp) (by simp) _ _ _ _ | exact HL2.set4O (by omega) _ _ _ _
    replace P7 : Bk4 U8R4 (w4.heap.size) (.bool p.num.neg) (.slice p.num.A p.num.n p.num.c) (.bool p.den.neg) (.slice p.den.A p.den.n p.den.c) := by rw [hU8R4]; exact P7.far4 (by omega) _ _ _ _
    replace P8 : Bk4 U8R4 (w4.heap.size + 1) (.bool l.num.neg) (.slice l.num.A l.num.n l.num.c) (.bool l.den.neg) (.slice l.den.A l.den.n l.den.c) := by rw [hU8R4]; exact P8.far4 (by omega) _ _ _ _
    replace P9 : Bk2 U8R4 (g9) (.bool m9) (.slice A9 k9 e9) := by rw [hU8R4]; exact P9.far4 (by omega) _ _ _ _
    replace L9 : LRd U8R4 (V9.heap.size) A9 k9 e9 x9 := by rw [hU8R4]; first | exact L9.set4 R4 (by simp) (by simp) (by simp) (by simp) _ _ _ _ | exact L9.set4O (by omega) _ _ _ _
    replace hq1 : LRd U8R4 (w5.heap.size) Q k5 c5 x5 := by rw [hU8R4]; first | exact hq1.set4 R4 (by simp) (by simp) (by simp) (by simp) _ _ _ _ | exact hq1.set4O (by omega) _ _ _ _
    replace P13 : Bk4 U8R4 (g13) (.bool o.num.neg) (.slice o.num.A o.num.n o.num.c) (.bool o.den.neg) (.slice o.den.A o.den.n o.den.c) := by rw [hU8R4]; exact P13.far4 (by omega) _ _ _ _
    replace HO1 : LRd U8R4 (V13.heap.size) o.num.A o.num.n o.num.c o.num.xs := by rw [hU8R4]; first | exact HO1.set4 R4 (by simp) (by simp) (by simp) (by simp) _ _ _ _ | exact HO1.set4O (by omega) _ _ _ _
    replace HO2 : LRd U8R4 (V13.heap.size) o.den.A o.den.n o.den.c o.den.xs := by rw [hU8R4]; first | exact HO2.set4 R4 (by simp) (by simp) (by simp) (by simp) _ _ _ _ | exact HO2.set4O (by omega) _ _ _ _
    replace R4 : Bk4 U8R4 (w.heap.size + 2) (.bool o.num.neg) (.slice o.num.A o.num.n o.num.c) (.bool o.den.neg) (.slice o.den.A o.den.n o.den.c) := by rw [hU8R4]; exact R4.set _ _ _ _
    rw [← hU8R4]
    clear hU8R4
    have zU8R4' := Nat.le_of_eq zU8R4
    replace zU8R4 := Nat.le_of_eq zU8R4.symm
    obtain ⟨U8R5, hU8R5⟩ : ∃ U8R5 : World, U8R5 = ((U8R4.setCell ⟨w.heap.size + 3, 0, none⟩ (.int .i64 0)).setCell ⟨w.heap.size + 3, 1, none⟩ (.int .i64 0)) := ⟨_, rfl⟩
    have zU8R5 : U8R5.heap.size = U8R4.heap.size := by rw [hU8R5]; simp [World.setCell]
    replace E : Below w.heap.size w U8R5 := by rw [hU8R5]; exact ((E.setCell (by first | (simp; done) | (simp; omega)) _).setCell (by first | (simp; done) | (simp; omega)) _)
    replace HA : LRd U8R5 (B) a.num.A a.num.n a.num.c a.num.xs := by rw [hU8R5]; first | exact HA.setB R5 (by simp) (by simp) _ _ | exact HA.setFarL (by omega) _ _
    replace HC : LRd U8R5 (B) a.den.A a.den.n a.den.c a.den.xs := by rw [hU8R5]; first | exact HC.setB R5 (by simp) (by simp) _ _ | exact HC.setFarL (by omega) _ _
    replace HM : LRd U8R5 (B) mA mn mc mxs := by rw [hU8R5]; first | exact HM.setB R5 (by simp) (by simp) _ _ | exact HM.setFarL (by omega) _ _
    replace PA : Bk4 U8R5 (w.heap.size) (.bool a.num.neg) (.slice a.num.A a.num.n a.num.c) (.bool a.den.neg) (.slice a.den.A a.den.n a.den.c) := by rw [hU8R5]; exact PA.far2 (by omega) _ _
    replace PM : Bk2 U8R5 (w.heap.size + 1) (.bool false) (.slice mA mn mc) := by rw [hU8R5]; exact PM.far2 (by omega) _ _
    replace R4 : Bk4 U8R5 (w.heap.size + 2) (.bool o.num.neg) (.slice o.num.A o.num.n o.num.c) (.bool o.den.neg) (.slice o.den.A o.den.n o.den.c) := by rw [hU8R5]; exact R4.far2 (by omega) _ _
    replace HP1 : LRd U8R5 (w4.heap.size) p.num.A p.num.n p.num.c p.num.xs := by rw [hU8R5]; first | exact HP1.setB R5 (by simp) (by simp) _ _ | exact HP1.setFarL (by omega) _ _
    replace HP2 : LRd U8R5 (w4.heap.size) p.den.A p.den.n p.den.c p.den.xs := by rw [hU8R5]; first | exact HP2.setB R5 (by simp) (by simp) _ _ | exact HP2.setFarL (by omega) _ _
    replace HL1 : LRd U8R5 (w4.heap.size) l.num.A l.num.n l.num.c l.num.xs := by rw [hU8R5]; first | exact HL1.setB R5 (by simp) (by simp) _ _ | exact HL1.setFarL (by omega) _ _
    replace HL2 : LRd U8R5 (w4.heap.size) l.den.A l.den.n l.den.c l.den.xs := by rw [hU8R5]; first | exact HL2.setB R5 (by simp) (by simp) _ _ | exact HL2.setFarL (by omega) _ _
    replace P7 : Bk4 U8R5 (w4.heap.size) (.bool p.num.neg) (.slice p.num.A p.num.n p.num.c) (.bool p.den.neg) (.slice p.den.A p.den.n p.den.c) := by rw [hU8R5]; exact P7.far2 (by omega) _ _
    replace P8 : Bk4 U8R5 (w4.heap.size + 1) (.bool l.num.neg) (.slice l.num.A l.num.n l.num.c) (.bool l.den.neg) (.slice l.den.A l.den.n l.den.c) := by rw [hU8R5]; exact P8.far2 (by omega) _ _
    replace P9 : Bk2 U8R5 (g9) (.bool m9) (.slice A9 k9 e9) := by rw [hU8R5]; exact P9.far2 (by omega) _ _
    replace L9 : LRd U8R5 (V9.heap.size) A9 k9 e9 x9 := by rw [hU8R5]; first | exact L9.setB R5 (by simp) (by simp) _ _ | exact L9.setFarL (by omega) _ _
    replace hq1 : LRd U8R5 (w5.heap.size) Q k5 c5 x5 := by rw [hU8R5]; first | exact hq1.setB R5 (by simp) (by simp) _ _ | exact hq1.setFarL (by omega) _ _
    replace P13 : Bk4 U8R5 (g13) (.bool o.num.neg) (.slice o.num.A o.num.n o.num.c) (.bool o.den.neg) (.slice o.den.A o.den.n o.den.c) := by rw [hU8R5]; exact P13.far2 (by omega) _ _
    replace HO1 : LRd U8R5 (V13.heap.size) o.num.A o.num.n o.num.c o.num.xs := by rw [hU8R5]; first | exact HO1.setB R5 (by simp) (by simp) _ _ | exact HO1.setFarL (by omega) _ _
    replace HO2 : LRd U8R5 (V13.heap.size) o.den.A o.den.n o.den.c o.den.xs := by rw [hU8R5]; first | exact HO2.setB R5 (by simp) (by simp) _ _ | exact HO2.setFarL (by omega) _ _
    replace R5 : Bk2 U8R5 (w.heap.size + 3) (.int .i64 0) (.int .i64 0) := by rw [hU8R5]; exact R5.set _ _
    rw [← hU8R5]
    clear hU8R5
    have zU8R5' := Nat.le_of_eq zU8R5
    replace zU8R5 := Nat.le_of_eq zU8R5.symm
    obtain ⟨f0, f1', _, _, _⟩ := R5
    obtain ⟨r0, r1, r2, r3, _, _, _, _, _⟩ := R4
    refine bodyPost_ret (v := .tuple #[ratv o.num.neg o.num.A o.num.n o.num.c o.den.neg o.den.A o.den.n o.den.c, flt 0 0]) (by simp [results, Tryz.results44, go_sem, r0, r1, r2, r3, f0, f1']) rfl ?_
    rw [HZ.out]
    exact ⟨o.num.neg, o.num.A, o.num.n, o.num.c, o.num.xs, o.den.neg, o.den.A, o.den.n, o.den.c, o.den.xs, rfl, HO1.more (by omega), HO2.more (by omega), RO1.out, RO2.out, E⟩
  · have HZ := Lib.hid (show nearZ n0 d0 zm = (p1, q1) by rw [NQ.out, if_neg hlt])
    rw [decide_eq_false hlt]
    clear hlt NQ
    have y_R40 := R4.c0
    have z_R40 := R4.z0
    have y_R41 := R4.c1
    have z_R41 := R4.z1
    have y_R42 := R4.c2
    have z_R42 := R4.z2
    have y_R43 := R4.c3
    have z_R43 := R4.z3
    have lt_R4 := R4.lt
    have y_R50 := R5.c0
    have z_R50 := R5.z0
    have y_R51 := R5.c1
    have z_R51 := R5.z1
    have lt_R5 := R5.lt
    have t_P80 := P8.c0
    have t_P81 := P8.c1
    have t_P82 := P8.c2
    have t_P83 := P8.c3
    have lt_P8 := P8.lt
    go_wp2_with fail
    clear y_R40 z_R40 y_R41 z_R41 y_R42 z_R42 y_R43 z_R43 lt_R4 y_R50 z_R50 y_R51 z_R51 lt_R5 t_P80 t_P81 t_P82 t_P83 lt_P8
    obtain ⟨U8R4, hU8R4⟩ : ∃ U8R4 : World, U8R4 = ((((w6.setCell ⟨w.heap.size + 2, 0, none⟩ (.bool l.num.neg)).setCell ⟨w.heap.size + 2, 1, none⟩ (.slice l.num.A l.num.n l.num.c)).setCell ⟨w.heap.size + 2, 2, none⟩ (.bool l.den.neg)).setCell ⟨w.heap.size + 2, 3, none⟩ (.slice l.den.A l.den.n l.den.c)) := ⟨_, rfl⟩
    have zU8R4 : U8R4.heap.size = w6.heap.size := by rw [hU8R4]; simp [World.setCell]
    replace E : Below w.heap.size w U8R4 := by rw [hU8R4]; exact ((((E.setCell (by first | (simp; done) | (simp; omega)) _).setCell (by first | (simp; done) | (simp; omega)) _).setCell (by first | (simp; done) | (simp; omega)) _).setCell (by first | (simp; done) | (simp; omega)) _)
    replace HA : LRd U8R4 (B) a.num.A a.num.n a.num.c a.num.xs := by rw [hU8R4]; first | exact HA.set4 R4 (by simp) (by simp) (by simp) (by simp) _ _ _ _ | exact HA.set4O (by omega) _ _ _ _
    replace HC : LRd U8R4 (B) a.den.A a.den.n a.den.c a.den.xs := by rw [hU8R4]; first | exact HC.set4 R4 (by simp) (by simp) (by simp) (by simp) _ _ _ _ | exact HC.set4O (by omega) _ _ _ _
    replace HM : LRd U8R4 (B) mA mn mc mxs := by rw [hU8R4]; first | exact HM.set4 R4 (by simp) (by simp) (by simp) (by simp) _ _ _ _ | exact HM.set4O (by omega) _ _ _ _
    replace PA : Bk4 U8R4 (w.heap.size) (.bool a.num.neg) (.slice a.num.A a.num.n a.num.c) (.bool a.den.neg) (.slice a.den.A a.den.n a.den.c) := by rw [hU8R4]; exact PA.far4 (by omega) _ _ _ _
    replace PM : Bk2 U8R4 (w.heap.size + 1) (.bool false) (.slice mA mn mc) := by rw [hU8R4]; exact PM.far4 (by omega) _ _ _ _
    replace R5 : Bk2 U8R4 (w.heap.size + 3) (.int .i64 0) (.int .i64 0) := by rw [hU8R4]; exact R5.far4 (by omega) _ _ _ _
    replace HP1 : LRd U8R4 (w4.heap.size) p.num.A p.num.n p.num.c p.num.xs := by rw [hU8R4]; first | exact HP1.set4 R4 (by simp) (by simp) (by simp) (by simp) _ _ _ _ | exact HP1.set4O (by omega) _ _ _ _
    replace HP2 : LRd U8R4 (w4.heap.size) p.den.A p.den.n p.den.c p.den.xs := by rw [hU8R4]; first | exact HP2.set4 R4 (by simp) (by simp) (by simp) (by simp) _ _ _ _ | exact HP2.set4O (by omega) _ _ _ _
    replace HL1 : LRd U8R4 (w4.heap.size) l.num.A l.num.n l.num.c l.num.xs := by rw [hU8R4]; first | exact HL1.set4 R4 (by simp) (by simp) (by simp) (by simp) _ _ _ _ | exact HL1.set4O (by omega) _ _ _ _
    replace HL2 : LRd U8R4 (w4.heap.size) l.den.A l.den.n l.den.c l.den.xs := by rw [hU8R4]; first | exact HL2.set4 R4 (by simp) (by simp) (by simp) (by simp) _ _ _ _ | exact HL2.set4O (by omega) _ _ _ _
    replace P7 : Bk4 U8R4 (w4.heap.size) (.bool p.num.neg) (.slice p.num.A p.num.n p.num.c) (.bool p.den.neg) (.slice p.den.A p.den.n p.den.c) := by rw [hU8R4]; exact P7.far4 (by omega) _ _ _ _
    replace P8 : Bk4 U8R4 (w4.heap.size + 1) (.bool l.num.neg) (.slice l.num.A l.num.n l.num.c) (.bool l.den.neg) (.slice l.den.A l.den.n l.den.c) := by rw [hU8R4]; exact P8.far4 (by omega) _ _ _ _
    replace P9 : Bk2 U8R4 (g9) (.bool m9) (.slice A9 k9 e9) := by rw [hU8R4]; exact P9.far4 (by omega) _ _ _ _
    replace L9 : LRd U8R4 (V9.heap.size) A9 k9 e9 x9 := by rw [hU8R4]; first | exact L9.set4 R4 (by simp) (by simp) (by simp) (by simp) _ _ _ _ | exact L9.set4O (by omega) _ _ _ _
    replace hq1 : LRd U8R4 (w5.heap.size) Q k5 c5 x5 := by rw [hU8R4]; first | exact hq1.set4 R4 (by simp) (by simp) (by simp) (by simp) _ _ _ _ | exact hq1.set4O (by omega) _ _ _ _
    replace P13 : Bk4 U8R4 (g13) (.bool o.num.neg) (.slice o.num.A o.num.n o.num.c) (.bool o.den.neg) (.slice o.den.A o.den.n o.den.c) := by rw [hU8R4]; exact P13.far4 (by omega) _ _ _ _
    replace HO1 : LRd U8R4 (V13.heap.size) o.num.A o.num.n o.num.c o.num.xs := by rw [hU8R4]; first | exact HO1.set4 R4 (by simp) (by simp) (by simp) (by simp) _ _ _ _ | exact HO1.set4O (by omega) _ _ _ _
    replace HO2 : LRd U8R4 (V13.heap.size) o.den.A o.den.n o.den.c o.den.xs := by rw [hU8R4]; first | exact HO2.set4 R4 (by simp) (by simp) (by simp) (by simp) _ _ _ _ | exact HO2.set4O (by omega) _ _ _ _
    replace R4 : Bk4 U8R4 (w.heap.size + 2) (.bool l.num.neg) (.slice l.num.A l.num.n l.num.c) (.bool l.den.neg) (.slice l.den.A l.den.n l.den.c) := by rw [hU8R4]; exact R4.set _ _ _ _
    rw [← hU8R4]
    clear hU8R4
    have zU8R4' := Nat.le_of_eq zU8R4
    replace zU8R4 := Nat.le_of_eq zU8R4.symm
    obtain ⟨U8R5, hU8R5⟩ : ∃ U8R5 : World, U8R5 = ((U8R4.setCell ⟨w.heap.size + 3, 0, none⟩ (.int .i64 0)).setCell ⟨w.heap.size + 3, 1, none⟩ (.int .i64 0)) := ⟨_, rfl⟩
    have zU8R5 : U8R5.heap.size = U8R4.heap.size := by rw [hU8R5]; simp [World.setCell]
    replace E : Below w.heap.size w U8R5 := by rw [hU8R5]; exact ((E.setCell (by first | (simp; done) | (simp; omega)) _).setCell (by first | (simp; done) | (simp; omega)) _)
    replace HA : LRd U8R5 (B) a.num.A a.num.n a.num.c a.num.xs := by rw [hU8R5]; first | exact HA.setB R5 (by simp) (by simp) _ _ | exact HA.setFarL (by omega) _ _
    replace HC : LRd U8R5 (B) a.den.A a.den.n a.den.c a.den.xs := by rw [hU8R5]; first | exact HC.setB R5 (by simp) (by simp) _ _ | exact HC.setFarL (by omega) _ _
    replace HM : LRd U8R5 (B) mA mn mc mxs := by rw [hU8R5]; first | exact HM.setB R5 (by simp) (by simp) _ _ | exact HM.setFarL (by omega) _ _
    replace PA : Bk4 U8R5 (w.heap.size) (.bool a.num.neg) (.slice a.num.A a.num.n a.num.c) (.bool a.den.neg) (.slice a.den.A a.den.n a.den.c) := by rw [hU8R5]; exact PA.far2 (by omega) _ _
    replace PM : Bk2 U8R5 (w.heap.size + 1) (.bool false) (.slice mA mn mc) := by rw [hU8R5]; exact PM.far2 (by omega) _ _
    replace R4 : Bk4 U8R5 (w.heap.size + 2) (.bool l.num.neg) (.slice l.num.A l.num.n l.num.c) (.bool l.den.neg) (.slice l.den.A l.den.n l.den.c) := by rw [hU8R5]; exact R4.far2 (by omega) _ _
    replace HP1 : LRd U8R5 (w4.heap.size) p.num.A p.num.n p.num.c p.num.xs := by rw [hU8R5]; first | exact HP1.setB R5 (by simp) (by simp) _ _ | exact HP1.setFarL (by omega) _ _
    replace HP2 : LRd U8R5 (w4.heap.size) p.den.A p.den.n p.den.c p.den.xs := by rw [hU8R5]; first | exact HP2.setB R5 (by simp) (by simp) _ _ | exact HP2.setFarL (by omega) _ _
    replace HL1 : LRd U8R5 (w4.heap.size) l.num.A l.num.n l.num.c l.num.xs := by rw [hU8R5]; first | exact HL1.setB R5 (by simp) (by simp) _ _ | exact HL1.setFarL (by omega) _ _
    replace HL2 : LRd U8R5 (w4.heap.size) l.den.A l.den.n l.den.c l.den.xs := by rw [hU8R5]; first | exact HL2.setB R5 (by simp) (by simp) _ _ | exact HL2.setFarL (by omega) _ _
    replace P7 : Bk4 U8R5 (w4.heap.size) (.bool p.num.neg) (.slice p.num.A p.num.n p.num.c) (.bool p.den.neg) (.slice p.den.A p.den.n p.den.c) := by rw [hU8R5]; exact P7.far2 (by omega) _ _
    replace P8 : Bk4 U8R5 (w4.heap.size + 1) (.bool l.num.neg) (.slice l.num.A l.num.n l.num.c) (.bool l.den.neg) (.slice l.den.A l.den.n l.den.c) := by rw [hU8R5]; exact P8.far2 (by omega) _ _
    replace P9 : Bk2 U8R5 (g9) (.bool m9) (.slice A9 k9 e9) := by rw [hU8R5]; exact P9.far2 (by omega) _ _
    replace L9 : LRd U8R5 (V9.heap.size) A9 k9 e9 x9 := by rw [hU8R5]; first | exact L9.setB R5 (by simp) (by simp) _ _ | exact L9.setFarL (by omega) _ _
    replace hq1 : LRd U8R5 (w5.heap.size) Q k5 c5 x5 := by rw [hU8R5]; first | exact hq1.setB R5 (by simp) (by simp) _ _ | exact hq1.setFarL (by omega) _ _
    replace P13 : Bk4 U8R5 (g13) (.bool o.num.neg) (.slice o.num.A o.num.n o.num.c) (.bool o.den.neg) (.slice o.den.A o.den.n o.den.c) := by rw [hU8R5]; exact P13.far2 (by omega) _ _
    replace HO1 : LRd U8R5 (V13.heap.size) o.num.A o.num.n o.num.c o.num.xs := by rw [hU8R5]; first | exact HO1.setB R5 (by simp) (by simp) _ _ | exact HO1.setFarL (by omega) _ _
    replace HO2 : LRd U8R5 (V13.heap.size) o.den.A o.den.n o.den.c o.den.xs := by rw [hU8R5]; first | exact HO2.setB R5 (by simp) (by simp) _ _ | exact HO2.setFarL (by omega) _ _
    replace R5 : Bk2 U8R5 (w.heap.size + 3) (.int .i64 0) (.int .i64 0) := by rw [hU8R5]; exact R5.set _ _
    rw [← hU8R5]
    clear hU8R5
    have zU8R5' := Nat.le_of_eq zU8R5
    replace zU8R5 := Nat.le_of_eq zU8R5.symm
    obtain ⟨f0, f1', _, _, _⟩ := R5
    obtain ⟨r0, r1, r2, r3, _, _, _, _, _⟩ := R4
    refine bodyPost_ret (v := .tuple #[ratv l.num.neg l.num.A l.num.n l.num.c l.den.neg l.den.A l.den.n l.den.c, flt 0 0]) (by simp [results, Tryz.results44, go_sem, r0, r1, r2, r3, f0, f1']) rfl ?_
    rw [HZ.out]
    exact ⟨l.num.neg, l.num.A, l.num.n, l.num.c, l.num.xs, l.den.neg, l.den.A, l.den.n, l.den.c, l.den.xs, rfl, HL1.more (by omega), HL2.more (by omega), J2.out, J3.out, E⟩
end Go.Proofs.YtfgkhdpdjclmkaaGreat
