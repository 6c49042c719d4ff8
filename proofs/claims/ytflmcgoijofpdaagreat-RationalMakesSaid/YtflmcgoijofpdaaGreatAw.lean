/- The reference's Lowest. The reference's Plus, Less, Abs and Order of ratios. The reference's Times, Turned and Fits of ratios. -/
import Derived.Test.YtflmcgoijofpdaaGreatAs
import Derived.Test.YtflmcgoijofpdaaGreatADivD
import Derived.Test.YtflmcgoijofpdaaGreatAInt20
import Derived.Test.YtflmcgoijofpdaaGreatAInt22
import Derived.Test.YtflmcgoijofpdaaGreatAInt21
import Derived.Deep.DeepCutAuto
import Derived.Test.YtflmcgoijofpdaaGreatAp
namespace Go.Proofs.YtflmcgoijofpdaaGreat
open Go.RowKit
set_option maxHeartbeats 400000
set_option maxRecDepth 100000
set_option linter.unusedSimpArgs false
set_option linter.unusedVariables false

/-- A ratio of the reference. -/
structure QV where
  m : Bool
  A : Option Addr
  n : Nat
  c : Nat
  xs : List Nat
  D : Option Addr
  k : Nat
  d : Nat
  ys : List Nat
abbrev QV.v (q : QV) : Value := refv q.m q.A q.n q.c q.D q.k q.d
def QV.at (w : World) (B : Nat) (q : QV) : Prop := DRd w B q.A q.n q.c q.xs ∧ DRd w B q.D q.k q.d q.ys
/-- Its numbers. -/
def QV.is (q : QV) (z1 : Int) (z2 : Nat) : Prop := ∃ v1, Rep 65536 q.xs v1 ∧ sval q.m v1 = z1 ∧ Rep 65536 q.ys z2
def GivesQ (w : World) (z1 : Int) (z2 : Nat) (e : Ending) (w' : World) : Prop := ∃ q : QV, e = .returned q.v ∧ q.at w' w'.heap.size ∧ q.is z1 z2 ∧ Below w.heap.size w w'
/-- In lowest terms. -/
def LowOf (z1 : Int) (z2 : Nat) (y1 : Int) (y2 : Nat) : Prop := y1 * (z2 : Int) = z1 * (y2 : Int) ∧ 0 < y2 ∧ Nat.gcd y1.natAbs y2 = 1 ∧ y1.natAbs ≤ z1.natAbs ∧ y2 ≤ z2
def GivesQL (w : World) (z1 : Int) (z2 : Nat) (e : Ending) (w' : World) : Prop := ∃ y1 y2, LowOf z1 z2 y1 y2 ∧ GivesQ w y1 y2 e w'
theorem GivesRR.q {w w' : World} {z1 : Int} {z2 : Int} {e : Ending} (h : GivesRR w z1 z2 e w') : GivesQ w z1 z2.natAbs e w' := by
  obtain ⟨m, A, n, c, xs, v1, D, k, d, ys, v2, rfl, h1, h2, h3, h4, h5, h6, h7⟩ := h
  exact ⟨⟨m, A, n, c, xs, D, k, d, ys⟩, rfl, ⟨h1, h2⟩, ⟨v1, h3, h5, by rw [← h6]; exact h4⟩, h7⟩
theorem low_of {m : Bool} {v1 z2 : Nat} (h2 : 0 < z2) : LowOf (sval m v1) z2 (sval m (v1 / Nat.gcd v1 z2)) (z2 / Nat.gcd v1 z2) := by
  have g0 : 0 < Nat.gcd v1 z2 := Nat.gcd_pos_of_pos_right _ h2
  obtain ⟨g, hg⟩ : ∃ g, g = Nat.gcd v1 z2 := ⟨_, rfl⟩
  rw [← hg] at g0 ⊢
  obtain ⟨P, hP⟩ : ∃ P, P = v1 / g := ⟨_, rfl⟩
  obtain ⟨Q, hQ⟩ : ∃ Q, Q = z2 / g := ⟨_, rfl⟩
  have eP : v1 = g * P := by rw [hP, hg]; exact (Nat.mul_div_cancel' (Nat.gcd_dvd_left _ _)).symm
  have eQ : z2 = g * Q := by rw [hQ, hg]; exact (Nat.mul_div_cancel' (Nat.gcd_dvd_right _ _)).symm
  have hQ0 : 0 < Q := by
    rcases Nat.eq_zero_or_pos Q with e | e
    · rw [e, Nat.mul_zero] at eQ; omega
    · exact e
  have hgcd : Nat.gcd P Q = 1 := by
    have h5 : Nat.gcd (g * P) (g * Q) = g * Nat.gcd P Q := Nat.gcd_mul_left g P Q
    rw [← eP, ← eQ, ← hg] at h5
    have h6 : g * 1 = g * Nat.gcd P Q := by rw [Nat.mul_one]; exact h5
    exact (Nat.eq_of_mul_eq_mul_left g0 h6).symm
  rw [← hP, ← hQ]
  refine ⟨?_, hQ0, by rw [sval_abs]; exact hgcd, by rw [sval_abs, sval_abs, hP]; exact Nat.div_le_self _ _, by rw [hQ]; exact Nat.div_le_self _ _⟩
  rw [eP, eQ]
  cases m
  · show ((P : Nat) : Int) * ((g * Q : Nat) : Int) = ((g * P : Nat) : Int) * (Q : Int)
    rw [Int.natCast_mul, Int.natCast_mul]; grind
  · show -((P : Nat) : Int) * ((g * Q : Nat) : Int) = -((g * P : Nat) : Int) * (Q : Int)
    rw [Int.natCast_mul, Int.natCast_mul]; grind
theorem rep_le {xs ys : List Nat} {p q k l M : Nat} (h : Rep 65536 xs p) (hl : xs.length = k) (h2 : Rep 65536 ys q) (hq : p ≤ q) (hl2 : ys.length = l) (hM : l ≤ M) : k ≤ M := by
  have h3 : q < 65536 ^ ys.length := h2.lt_pow (by decide)
  have := h.length_le (m := ys.length) (by decide) (Nat.lt_of_le_of_lt hq h3)
  omega
set_option maxHeartbeats 4000000 in
theorem lowest_v (w : World) (B : Nat) (q : QV) (v1 z2 : Nat) (H : q.at w B) (hB : B ≤ w.heap.size) (R1 : Hid (Rep 65536 q.xs v1)) (R2 : Hid (Rep 65536 q.ys z2)) (hz : Hid (0 < z2)) (hn : q.n ≤ 100000) (hk : q.k ≤ 100000) :
    Calls Tryz.prog 31 #[q.v] w (GivesQL w (sval q.m v1) z2) := by
  obtain ⟨HA, HD⟩ := H
  replace HA : DRd w B q.A q.n q.c q.xs := HA
  replace HD : DRd w B q.D q.k q.d q.ys := HD
  have LO := Lib.hid (low_of (m := q.m) (v1 := v1) hz.out)
  have E : Below w.heap.size w w := Below.refl _ _
  go_enter Tryz.func31, Tryz.ntmps31
  go_wp2_with fail
  obtain ⟨V0, hV0⟩ : ∃ V0 : World, V0 = ((w.alloc (.cells #[.bool q.m, .slice q.A q.n q.c, .slice q.D q.k q.d] 42)).alloc (.cells #[.bool false, .slice none 0 0, .slice none 0 0] 42)) := ⟨_, rfl⟩
  have bV0 : Below w.heap.size w V0 := by rw [hV0]; (repeat (first | with_reducible exact Below.refl _ _ | with_reducible refine Below.drew ?_ | with_reducible refine below_drewN ?_ _ | with_reducible refine Below.setCell ?_ (by first | (simp; done) | (simp; omega) | omega) _ | with_reducible refine Below.alloc ?_ (by first | (simp; done) | (simp; omega) | omega) _))
  have zV0 : w.heap.size + 2 ≤ V0.heap.size := by rw [hV0]; simp
  have PA : Bk3 V0 (w.heap.size) (.bool q.m) (.slice q.A q.n q.c) (.slice q.D q.k q.d) := by rw [hV0]; exact ((Bk3.newAt _ _ (by first | omega | (simp; done) | (simp; omega)) _ _ _ _).alloc _)
  have PR : Bk3 V0 (w.heap.size + 1) (.bool false) (.slice none 0 0) (.slice none 0 0) := by rw [hV0]; exact (Bk3.newAt _ _ (by first | omega | (simp; done) | (simp; omega)) _ _ _ _)
  rw [← hV0]
  clear hV0
  replace E := E.trans (bV0.mono E.size)
  replace HA := HA.below bV0 (by omega)
  replace HD := HD.below bV0 (by omega)
  clear bV0
  (with_reducible refine (common_any _ B q.A q.D q.n q.k q.c q.d 100000 v1 z2 q.xs q.ys HA HD (by omega) hn hk (by omega) R1.out R2.out).mono ?_)
  rintro e w1 ⟨A1, k1, c1, y1, rfl, hd1, hr1, hb1⟩
  have sw1 := hb1.size
  replace PA := PA.below hb1 PA.lt
  replace PR := PR.below hb1 PR.lt
  replace E := E.trans (hb1.mono E.size)
  replace HA := HA.below hb1 (by omega)
  replace HD := HD.below hb1 (by omega)
  clear hb1
  have RG := Lib.hid hr1
  clear hr1
  have hk1 : k1 ≤ 100000 := rep_le RG.out hd1.len.out R2.out (Nat.gcd_le_right _ hz.out) HD.len.out hk
  have t_PA0 := PA.c0
  have t_PA1 := PA.c1
  have t_PA2 := PA.c2
  go_wp2_with fail
  clear t_PA0 t_PA1 t_PA2
  (with_reducible refine (divideD_any _ w1.heap.size q.A A1 q.n k1 q.c c1 v1 (Nat.gcd v1 z2) q.xs y1 (HA.more (by omega)) hd1 (Nat.le_refl _) R1.out RG.out (Nat.gcd_pos_of_pos_right _ hz.out) hn hk1).mono ?_)
  rintro e w2 ⟨A2, k2, c2, y2, D2, l2, d2, u2, rfl, hd2, hr2, _, _, hb2⟩
  have sw2 := hb2.size
  replace PA := PA.below hb2 PA.lt
  replace PR := PR.below hb2 PR.lt
  replace E := E.trans (hb2.mono E.size)
  replace HA := HA.below hb2 (by omega)
  replace HD := HD.below hb2 (by omega)
  replace hd1 := hd1.below hb2 (by omega)
  clear hb2
  have RP := Lib.hid hr2
  clear hr2
  have t_PA0 := PA.c0
  have t_PA1 := PA.c1
  have t_PA2 := PA.c2
  go_wp2_with fail
  clear t_PA0 t_PA1 t_PA2
  (with_reducible refine (divideD_any _ w2.heap.size q.D A1 q.k k1 q.d c1 z2 (Nat.gcd v1 z2) q.ys y1 (HD.more (by omega)) (hd1.more (by omega)) (Nat.le_refl _) R2.out RG.out (Nat.gcd_pos_of_pos_right _ hz.out) hk hk1).mono ?_)
  rintro e w3 ⟨A3, k3, c3, y3, D3, l3, d3, u3, rfl, hd3, hr3, _, _, hb3⟩
  have sw3 := hb3.size
  replace PA := PA.below hb3 PA.lt
  replace PR := PR.below hb3 PR.lt
  replace E := E.trans (hb3.mono E.size)
  replace HA := HA.below hb3 (by omega)
  replace HD := HD.below hb3 (by omega)
  replace hd1 := hd1.below hb3 (by omega)
  replace hd2 := hd2.below hb3 (by omega)
  clear hb3
  have RQ := Lib.hid hr3
  clear hr3
  have p0 := PA.c0
  have p1 := PA.c1
  have p2 := PA.c2
  obtain ⟨r0, r1, r2, y0, y1', y2', ltr⟩ := PR
  go_wp2_with fail
  refine bodyPost_ret (v := refv q.m A2 k2 c2 A3 k3 c3) (by simp [results, Tryz.results31, go_sem, r0, r1, r2]) rfl ⟨_, _, LO.out, ⟨q.m, A2, k2, c2, y2, A3, k3, c3, y3⟩, rfl, ⟨?_, ?_⟩, ⟨_, RP.out, rfl, RQ.out⟩, ?_⟩
  · exact DRd.set3k hd2 (by omega) r0 r1 r2
  · exact DRd.set3k hd3 (by omega) r0 r1 r2
  · (repeat (first | with_reducible exact E | with_reducible refine Below.setCell ?_ (by first | (simp; done) | (simp; omega) | omega) _))
end Go.Proofs.YtflmcgoijofpdaaGreat

namespace Go.Proofs.YtflmcgoijofpdaaGreat
open Go.RowKit
set_option maxHeartbeats 400000
set_option maxRecDepth 100000
set_option linter.unusedSimpArgs false
set_option linter.unusedVariables false

@[irreducible] def TT : Nat := 65536 ^ 40000
theorem tt_eq {m : Nat} (h : m = 40000) : TT = 65536 ^ m := by subst h; unfold TT; rfl
section
variable {V u : World} {x y : Int} {B g h : Nat} {A1 A2 : Option Addr} {k1 c1 k2 c2 v1 v2 : Nat} {m1 m2 : Bool} {z1 z2 : List Nat} (h1 : DRd u u.heap.size A1 k1 c1 z1) (h2 : DRd u u.heap.size A2 k2 c2 z2) (R1 : Hid (Rep 65536 z1 v1)) (S1 : Hid (sval m1 v1 = x)) (R2 : Hid (Rep 65536 z2 v2)) (S2 : Hid (sval m2 v2 = y)) (b : Below V.heap.size V u)
include h1 h2 R1 S1 R2 S2 b
end
theorem qv_at {w : World} {B : Nat} {q : QV} (h : DRd w B q.A q.n q.c q.xs) (k : DRd w B q.D q.k q.d q.ys) : q.at w B := ⟨h, k⟩
end Go.Proofs.YtflmcgoijofpdaaGreat

namespace Go.Proofs.YtflmcgoijofpdaaGreat
open Go.RowKit
set_option maxHeartbeats 400000
set_option maxRecDepth 100000
set_option linter.unusedSimpArgs false
set_option linter.unusedVariables false

set_option maxHeartbeats 4000000 in
theorem qturned_v (w : World) (B : Nat) (p : QV) (ap p2 : Nat) (H1 : p.at w B) (hB : B ≤ w.heap.size) (Rp1 : Hid (Rep 65536 p.xs ap)) (Rp2 : Hid (Rep 65536 p.ys p2)) :
    Calls Tryz.prog 25 #[p.v] w (GivesQ w (sval p.m p2) ap) := by
  obtain ⟨HP1, HP2⟩ := H1
  replace HP1 : DRd w B p.A p.n p.c p.xs := HP1
  replace HP2 : DRd w B p.D p.k p.d p.ys := HP2
  have E : Below w.heap.size w w := Below.refl _ _
  go_enter Tryz.func25, Tryz.ntmps25
  go_wp2_with fail
  exact bodyPost_ret (v := refv p.m p.D p.k p.d p.A p.n p.c) (by simp [results, Tryz.results25, go_sem]) rfl ⟨⟨p.m, p.D, p.k, p.d, p.ys, p.A, p.n, p.c, p.xs⟩, rfl, ⟨DRd.more ((HP2.alloc hB _).alloc (by simp; omega) _) (by simp; omega), DRd.more ((HP1.alloc hB _).alloc (by simp; omega) _) (by simp; omega)⟩, ⟨p2, Rp2.out, rfl, Rp1.out⟩, (E.alloc (Nat.le_refl _) _).alloc (by simp) _⟩
set_option maxHeartbeats 4000000 in
theorem qfits_v (w : World) (q : QV) (hn : q.n ≤ 9223372036854775807) (hk : q.k ≤ 9223372036854775807) :
    Calls Tryz.prog 66 #[q.v] w (fun e w' => e = .returned (.bool (decide (q.n ≤ 256) && decide (q.k ≤ 256))) ∧ Below w.heap.size w w') := by
  by_cases h1 : q.n ≤ 256
  · by_cases h2 : q.k ≤ 256
    · have hk2 : decide ((q.k : Int) ≤ 256) = true := decide_eq_true (by omega)
      have E : Below w.heap.size w w := Below.refl _ _
      go_enter Tryz.func66, Tryz.ntmps66
      go_upto_region 1 with fail
      obtain ⟨V0, hV0⟩ : ∃ V0 : World, V0 = (w.alloc (.cells #[.bool q.m, .slice q.A q.n q.c, .slice q.D q.k q.d] 42)) := ⟨_, rfl⟩
      have bV0 : Below w.heap.size w V0 := by rw [hV0]; (repeat (first | with_reducible exact Below.refl _ _ | with_reducible refine Below.drew ?_ | with_reducible refine below_drewN ?_ _ | with_reducible refine Below.setCell ?_ (by first | (simp; done) | (simp; omega) | omega) _ | with_reducible refine Below.alloc ?_ (by first | (simp; done) | (simp; omega) | omega) _))
      have zV0 : w.heap.size + 1 ≤ V0.heap.size := by rw [hV0]; simp
      have PA : Bk3 V0 (w.heap.size) (.bool q.m) (.slice q.A q.n q.c) (.slice q.D q.k q.d) := by rw [hV0]; exact (Bk3.newAt _ _ (by first | omega | (simp; done) | (simp; omega)) _ _ _ _)
      rw [← hV0]
      clear hV0
      replace E := E.trans (bV0.mono E.size)
      clear bV0
      have t_PA0 := PA.c0
      have t_PA1 := PA.c1
      have t_PA2 := PA.c2
      go_wp2_with fail
      clear t_PA0 t_PA1 t_PA2
      (with_reducible refine (fits_any _ q.m q.A q.n q.c hn).mono ?_)
      rintro e w1 ⟨rfl, hb1⟩
      have sw1 := hb1.size
      replace PA := PA.below hb1 PA.lt
      replace E := E.trans (hb1.mono E.size)
      clear hb1
      rw [show decide (q.n ≤ 256) = true from decide_eq_true h1]
      have t_PA0 := PA.c0
      have t_PA1 := PA.c1
      have t_PA2 := PA.c2
      go_wp2_with fail
      clear t_PA0 t_PA1 t_PA2
      go_ret
      exact ⟨by first | rfl | (simp [h1, h2]; done) | (simp; omega), E⟩
    · have hk2 : decide ((q.k : Int) ≤ 256) = false := decide_eq_false (by omega)
      have E : Below w.heap.size w w := Below.refl _ _
      go_enter Tryz.func66, Tryz.ntmps66
      go_upto_region 1 with fail
      obtain ⟨V0, hV0⟩ : ∃ V0 : World, V0 = (w.alloc (.cells #[.bool q.m, .slice q.A q.n q.c, .slice q.D q.k q.d] 42)) := ⟨_, rfl⟩
      have bV0 : Below w.heap.size w V0 := by rw [hV0]; (repeat (first | with_reducible exact Below.refl _ _ | with_reducible refine Below.drew ?_ | with_reducible refine below_drewN ?_ _ | with_reducible refine Below.setCell ?_ (by first | (simp; done) | (simp; omega) | omega) _ | with_reducible refine Below.alloc ?_ (by first | (simp; done) | (simp; omega) | omega) _))
      have zV0 : w.heap.size + 1 ≤ V0.heap.size := by rw [hV0]; simp
      have PA : Bk3 V0 (w.heap.size) (.bool q.m) (.slice q.A q.n q.c) (.slice q.D q.k q.d) := by rw [hV0]; exact (Bk3.newAt _ _ (by first | omega | (simp; done) | (simp; omega)) _ _ _ _)
      rw [← hV0]
      clear hV0
      replace E := E.trans (bV0.mono E.size)
      clear bV0
      have t_PA0 := PA.c0
      have t_PA1 := PA.c1
      have t_PA2 := PA.c2
      go_wp2_with fail
      clear t_PA0 t_PA1 t_PA2
      (with_reducible refine (fits_any _ q.m q.A q.n q.c hn).mono ?_)
      rintro e w1 ⟨rfl, hb1⟩
      have sw1 := hb1.size
      replace PA := PA.below hb1 PA.lt
      replace E := E.trans (hb1.mono E.size)
      clear hb1
      rw [show decide (q.n ≤ 256) = true from decide_eq_true h1]
      have t_PA0 := PA.c0
      have t_PA1 := PA.c1
      have t_PA2 := PA.c2
      go_wp2_with fail
      clear t_PA0 t_PA1 t_PA2
      go_ret
      exact ⟨by first | rfl | (simp [h1, h2]; done) | (simp; omega), E⟩
  · have h2 : True := trivial
    have E : Below w.heap.size w w := Below.refl _ _
    go_enter Tryz.func66, Tryz.ntmps66
    go_upto_region 1 with fail
    obtain ⟨V0, hV0⟩ : ∃ V0 : World, V0 = (w.alloc (.cells #[.bool q.m, .slice q.A q.n q.c, .slice q.D q.k q.d] 42)) := ⟨_, rfl⟩
    have bV0 : Below w.heap.size w V0 := by rw [hV0]; (repeat (first | with_reducible exact Below.refl _ _ | with_reducible refine Below.drew ?_ | with_reducible refine below_drewN ?_ _ | with_reducible refine Below.setCell ?_ (by first | (simp; done) | (simp; omega) | omega) _ | with_reducible refine Below.alloc ?_ (by first | (simp; done) | (simp; omega) | omega) _))
    have zV0 : w.heap.size + 1 ≤ V0.heap.size := by rw [hV0]; simp
    have PA : Bk3 V0 (w.heap.size) (.bool q.m) (.slice q.A q.n q.c) (.slice q.D q.k q.d) := by rw [hV0]; exact (Bk3.newAt _ _ (by first | omega | (simp; done) | (simp; omega)) _ _ _ _)
    rw [← hV0]
    clear hV0
    replace E := E.trans (bV0.mono E.size)
    clear bV0
    have t_PA0 := PA.c0
    have t_PA1 := PA.c1
    have t_PA2 := PA.c2
    go_wp2_with fail
    clear t_PA0 t_PA1 t_PA2
    (with_reducible refine (fits_any _ q.m q.A q.n q.c hn).mono ?_)
    rintro e w1 ⟨rfl, hb1⟩
    have sw1 := hb1.size
    replace PA := PA.below hb1 PA.lt
    replace E := E.trans (hb1.mono E.size)
    clear hb1
    rw [show decide (q.n ≤ 256) = false from decide_eq_false h1]
    have t_PA0 := PA.c0
    have t_PA1 := PA.c1
    have t_PA2 := PA.c2
    go_wp2_with fail
    clear t_PA0 t_PA1 t_PA2
    go_ret
    exact ⟨by first | rfl | (simp [h1, h2]; done) | (simp; omega), E⟩
end Go.Proofs.YtflmcgoijofpdaaGreat
