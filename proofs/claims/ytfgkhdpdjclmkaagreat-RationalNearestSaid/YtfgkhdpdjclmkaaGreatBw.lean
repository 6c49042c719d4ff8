/- The reference's Lowest. The reference's Plus, Less, Abs and Order of ratios. The reference's Times, Turned and Fits of ratios. -/
import Derived.Test.YtfgkhdpdjclmkaaGreatBs
import Derived.Test.YtfgkhdpdjclmkaaGreatBDivD
import Derived.Test.YtfgkhdpdjclmkaaGreatBInt20
import Derived.Test.YtfgkhdpdjclmkaaGreatBInt22
import Derived.Test.YtfgkhdpdjclmkaaGreatBInt21
import Derived.Deep.DeepCutAuto
import Derived.Test.YtfgkhdpdjclmkaaGreatBp
namespace Go.Proofs.YtfgkhdpdjclmkaaGreat
open Go.RowKit
set_option maxHeartbeats 400000
set_option maxRecDepth 100000
set_option linter.unusedSimpArgs false
set_option linter.unusedVariables false

/-- A ratio of the reference. -/
structure QV where
  m : Bool
  A : Option Addr
  n : Nat
  c : Nat
  xs : List Nat
  D : Option Addr
  k : Nat
  d : Nat
  ys : List Nat
abbrev QV.v (q : QV) : Value := refv q.m q.A q.n q.c q.D q.k q.d
def QV.at (w : World) (B : Nat) (q : QV) : Prop := DRd w B q.A q.n q.c q.xs ∧ DRd w B q.D q.k q.d q.ys
/-- Its numbers. -/
def QV.is (q : QV) (z1 : Int) (z2 : Nat) : Prop := ∃ v1, Rep 65536 q.xs v1 ∧ sval q.m v1 = z1 ∧ Rep 65536 q.ys z2
def GivesQ (w : World) (z1 : Int) (z2 : Nat) (e : Ending) (w' : World) : Prop := ∃ q : QV, e = .returned q.v ∧ q.at w' w'.heap.size ∧ q.is z1 z2 ∧ Below w.heap.size w w'
/-- In lowest terms. -/
def LowOf (z1 : Int) (z2 : Nat) (y1 : Int) (y2 : Nat) : Prop := y1 * (z2 : Int) = z1 * (y2 : Int) ∧ 0 < y2 ∧ Nat.gcd y1.natAbs y2 = 1 ∧ y1.natAbs ≤ z1.natAbs ∧ y2 ≤ z2
def GivesQL (w : World) (z1 : Int) (z2 : Nat) (e : Ending) (w' : World) : Prop := ∃ y1 y2, LowOf z1 z2 y1 y2 ∧ GivesQ w y1 y2 e w'
theorem GivesRR.q {w w' : World} {z1 : Int} {z2 : Int} {e : Ending} (h : GivesRR w z1 z2 e w') : GivesQ w z1 z2.natAbs e w' := by
  obtain ⟨m, A, n, c, xs, v1, D, k, d, ys, v2, rfl, h1, h2, h3, h4, h5, h6, h7⟩ := h
  exact ⟨⟨m, A, n, c, xs, D, k, d, ys⟩, rfl, ⟨h1, h2⟩, ⟨v1, h3, h5, by rw [← h6]; exact h4⟩, h7⟩
theorem low_of {m : Bool} {v1 z2 : Nat} (h2 : 0 < z2) : LowOf (sval m v1) z2 (sval m (v1 / Nat.gcd v1 z2)) (z2 / Nat.gcd v1 z2) := by
  have g0 : 0 < Nat.gcd v1 z2 := Nat.gcd_pos_of_pos_right _ h2
  obtain ⟨g, hg⟩ : ∃ g, g = Nat.gcd v1 z2 := ⟨_, rfl⟩
  rw [← hg] at g0 ⊢
  obtain ⟨P, hP⟩ : ∃ P, P = v1 / g := ⟨_, rfl⟩
  obtain ⟨Q, hQ⟩ : ∃ Q, Q = z2 / g := ⟨_, rfl⟩
  have eP : v1 = g * P := by rw [hP, hg]; exact (Nat.mul_div_cancel' (Nat.gcd_dvd_left _ _)).symm
  have eQ : z2 = g * Q := by rw [hQ, hg]; exact (Nat.mul_div_cancel' (Nat.gcd_dvd_right _ _)).symm
  have hQ0 : 0 < Q := by
    rcases Nat.eq_zero_or_pos Q with e | e
    · rw [e, Nat.mul_zero] at eQ; omega
    · exact e
  have hgcd : Nat.gcd P Q = 1 := by
    have h5 : Nat.gcd (g * P) (g * Q) = g * Nat.gcd P Q := Nat.gcd_mul_left g P Q
    rw [← eP, ← eQ, ← hg] at h5
    have h6 : g * 1 = g * Nat.gcd P Q := by rw [Nat.mul_one]; exact h5
    exact (Nat.eq_of_mul_eq_mul_left g0 h6).symm
  rw [← hP, ← hQ]
  refine ⟨?_, hQ0, by rw [sval_abs]; exact hgcd, by rw [sval_abs, sval_abs, hP]; exact Nat.div_le_self _ _, by rw [hQ]; exact Nat.div_le_self _ _⟩
  rw [eP, eQ]
  cases m
  · show ((P : Nat) : Int) * ((g * Q : Nat) : Int) = ((g * P : Nat) : Int) * (Q : Int)
    rw [Int.natCast_mul, Int.natCast_mul]; grind
  · show -((P : Nat) : Int) * ((g * Q : Nat) : Int) = -((g * P : Nat) : Int) * (Q : Int)
    rw [Int.natCast_mul, Int.natCast_mul]; grind
theorem rep_le {xs ys : List Nat} {p q k l M : Nat} (h : Rep 65536 xs p) (hl : xs.length = k) (h2 : Rep 65536 ys q) (hq : p ≤ q) (hl2 : ys.length = l) (hM : l ≤ M) : k ≤ M := by
  have h3 : q < 65536 ^ ys.length := h2.lt_pow (by decide)
  have := h.length_le (m := ys.length) (by decide) (Nat.lt_of_le_of_lt hq h3)
  omega
set_option maxHeartbeats 4000000 in
theorem lowest_v (w : World) (B : Nat) (q : QV) (v1 z2 : Nat) (H : q.at w B) (hB : B ≤ w.heap.size) (R1 : Hid (Rep 65536 q.xs v1)) (R2 : Hid (Rep 65536 q.ys z2)) (hz : Hid (0 < z2)) (hn : q.n ≤ 100000) (hk : q.k ≤ 100000) :
    Calls Tryz.prog 31 #[q.v] w (GivesQL w (sval q.m v1) z2) := by
  obtain ⟨HA, HD⟩ := H
  replace HA : DRd w B q.A q.n q.c q.xs := HA
  replace HD : DRd w B q.D q.k q.d q.ys := HD
  have LO := Lib.hid (low_of (m := q.m) (v1 := v1) hz.out)
  have E : Below w.heap.size w w := Below.refl _ _
  go_enter Tryz.func31, Tryz.ntmps31
  go_wp2_with fail
  obtain ⟨V0, hV0⟩ : ∃ V0 : World, V0 = ((w.alloc (.cells #[.bool q.m, .slice q.A q.n q.c, .slice q.D q.k q.d] 42)).alloc (.cells #[.bool false, .slice none 0 0, .slice none 0 0] 42)) := ⟨_, rfl⟩
  have bV0 : Below w.heap.size w V0 := by rw [hV0]; (repeat (first | with_reducible exact Below.refl _ _ | with_reducible refine Below.alloc ?_ (by first | (simp <;> omega) | omega) _))
  have zV0 : w.heap.size + 2 ≤ V0.heap.size := by rw [hV0]; simp
  have PA : Bk3 V0 (w.heap.size) (.bool q.m) (.slice q.A q.n q.c) (.slice q.D q.k q.d) := by rw [hV0]; exact ((Bk3.newAt _ _ (by first | omega | (simp; done) | (simp; omega)) _ _ _ _).alloc _)
  have PR : Bk3 V0 (w.heap.size + 1) (.bool false) (.slice none 0 0) (.slice none 0 0) := by rw [hV0]; exact (Bk3.newAt _ _ (by first | omega | (simp; done) | (simp; omega)) _ _ _ _)
  rw [← hV0]
  clear hV0
  replace E := E.trans (bV0.mono E.size)
  replace HA := HA.below bV0 (by omega)
  replace HD := HD.below bV0 (by omega)
  clear bV0
  (with_reducible refine (common_any _ B q.A q.D q.n q.k q.c q.d 100000 v1 z2 q.xs q.ys HA HD (by omega) hn hk (by omega) R1.out R2.out).mono ?_)
  rintro e w1 ⟨A1, k1, c1, y1, rfl, hd1, hr1, hb1⟩
  have sw1 := hb1.size
  replace PA := PA.below hb1 PA.lt
  replace PR := PR.below hb1 PR.lt
  replace E := E.trans (hb1.mono E.size)
  replace HA := HA.below hb1 (by omega)
  replace HD := HD.below hb1 (by omega)
  clear hb1
  have RG := Lib.hid hr1
  clear hr1
  have hk1 : k1 ≤ 100000 := rep_le RG.out hd1.len.out R2.out (Nat.gcd_le_right _ hz.out) HD.len.out hk
  have t_PA0 := PA.c0
  have t_PA1 := PA.c1
  have t_PA2 := PA.c2
  go_wp2_with fail
  clear t_PA0 t_PA1 t_PA2
  (with_reducible refine (divideD_any _ w1.heap.size q.A A1 q.n k1 q.c c1 v1 (Nat.gcd v1 z2) q.xs y1 (HA.more (by omega)) hd1 (Nat.le_refl _) R1.out RG.out (Nat.gcd_pos_of_pos_right _ hz.out) hn hk1).mono ?_)
  rintro e w2 ⟨A2, k2, c2, y2, D2, l2, d2, u2, rfl, hd2, hr2, _, _, hb2⟩
  have sw2 := hb2.size
  replace PA := PA.below hb2 PA.lt
  replace PR := PR.below hb2 PR.lt
  replace E := E.trans (hb2.mono E.size)
  replace HA := HA.below hb2 (by omega)
  replace HD := HD.below hb2 (by omega)
  replace hd1 := hd1.below hb2 (by omega)
  clear hb2
  have RP := Lib.hid hr2
  clear hr2
  have t_PA0 := PA.c0
  have t_PA1 := PA.c1
  have t_PA2 := PA.c2
  go_wp2_with fail
  clear t_PA0 t_PA1 t_PA2
  (with_reducible refine (divideD_any _ w2.heap.size q.D A1 q.k k1 q.d c1 z2 (Nat.gcd v1 z2) q.ys y1 (HD.more (by omega)) (hd1.more (by omega)) (Nat.le_refl _) R2.out RG.out (Nat.gcd_pos_of_pos_right _ hz.out) hk hk1).mono ?_)
  rintro e w3 ⟨A3, k3, c3, y3, D3, l3, d3, u3, rfl, hd3, hr3, _, _, hb3⟩
  have sw3 := hb3.size
  replace PA := PA.below hb3 PA.lt
  replace PR := PR.below hb3 PR.lt
  replace E := E.trans (hb3.mono E.size)
  replace HA := HA.below hb3 (by omega)
  replace HD := HD.below hb3 (by omega)
  replace hd1 := hd1.below hb3 (by omega)
  replace hd2 := hd2.below hb3 (by omega)
  clear hb3
  have RQ := Lib.hid hr3
  clear hr3
  have p0 := PA.c0
  have p1 := PA.c1
  have p2 := PA.c2
  obtain ⟨r0, r1, r2, y0, y1', y2', ltr⟩ := PR
  go_wp2_with fail
  refine bodyPost_ret (v := refv q.m A2 k2 c2 A3 k3 c3) (by simp [results, Tryz.results31, go_sem, r0, r1, r2]) rfl ⟨_, _, LO.out, ⟨q.m, A2, k2, c2, y2, A3, k3, c3, y3⟩, rfl, ⟨?_, ?_⟩, ⟨_, RP.out, rfl, RQ.out⟩, ?_⟩
  · exact DRd.set3k hd2 (by omega) r0 r1 r2
  · exact DRd.set3k hd3 (by omega) r0 r1 r2
  · (repeat (first | with_reducible exact E | with_reducible refine Below.setCell ?_ (by first | (simp <;> omega) | omega) _))
theorem nid {w w' : World} (h : Below (w.drew.alloc (.cells #[.bool false, .slice none 0 0] 40)).heap.size (w.drew.alloc (.cells #[.bool false, .slice none 0 0] 40)) w') : Bk2 w' w.heap.size (.bool false) (.slice none 0 0) := (Bk2.newAt w.drew w.heap.size rfl _ _ _).below h (by simp)
theorem niid {w w' : World} (h : Below ((w.drew.alloc (.cells #[.bool false, .slice none 0 0] 40)).alloc (.cells #[.bool false, .slice none 0 0] 40)).heap.size ((w.drew.alloc (.cells #[.bool false, .slice none 0 0] 40)).alloc (.cells #[.bool false, .slice none 0 0] 40)) w') : Bk2 w' w.heap.size (.bool false) (.slice none 0 0) ∧ Bk2 w' (w.heap.size + 1) (.bool false) (.slice none 0 0) := ⟨((Bk2.newAt w.drew w.heap.size rfl _ _ _).alloc _).below h (by simp; omega), (Bk2.newAt _ _ (by simp) _ _ _).below h (by simp)⟩
theorem ni {w w' : World} (h : Below (w.alloc (.cells #[.bool false, .slice none 0 0] 40)).heap.size (w.alloc (.cells #[.bool false, .slice none 0 0] 40)) w') : Bk2 w' w.heap.size (.bool false) (.slice none 0 0) := (Bk2.newAt w w.heap.size rfl _ _ _).below h (by simp)
theorem nii {w w' : World} (h : Below ((w.alloc (.cells #[.bool false, .slice none 0 0] 40)).alloc (.cells #[.bool false, .slice none 0 0] 40)).heap.size ((w.alloc (.cells #[.bool false, .slice none 0 0] 40)).alloc (.cells #[.bool false, .slice none 0 0] 40)) w') : Bk2 w' w.heap.size (.bool false) (.slice none 0 0) ∧ Bk2 w' (w.heap.size + 1) (.bool false) (.slice none 0 0) := ⟨((Bk2.newAt w w.heap.size rfl _ _ _).alloc _).below h (by simp; omega), (Bk2.newAt _ _ (by simp) _ _ _).below h (by simp)⟩
theorem Bk2.far3 {w : World} {g k : Nat} {u v : Value} (h : Bk2 w g u v) (hk : k ≠ g) (a b c : Value) : Bk2 (((w.setCell ⟨k, 0, none⟩ a).setCell ⟨k, 1, none⟩ b).setCell ⟨k, 2, none⟩ c) g u v := ((h.farA (p := ⟨k, 0, none⟩) (Ne.symm hk) a).farA (p := ⟨k, 1, none⟩) (Ne.symm hk) b).farA (p := ⟨k, 2, none⟩) (Ne.symm hk) c
@[irreducible] def TT : Nat := 65536 ^ 40000
theorem tt_eq {m : Nat} (h : m = 40000) : TT = 65536 ^ m := by subst h; unfold TT; rfl
theorem tt_len {zs : List Nat} {v k : Nat} (h : Rep 65536 zs v) (hv : v < TT) (hl : zs.length = k) : k ≤ 40000 := by
  obtain ⟨m, hm⟩ : ∃ m, m = 40000 := ⟨_, rfl⟩
  rw [tt_eq hm] at hv
  have := h.length_le (m := m) (by decide) hv
  omega
theorem tt_len2 {zs : List Nat} {v k : Nat} (h : Rep 65536 zs v) (hv : v < 2 * (TT * TT)) (hl : zs.length = k) : k ≤ 100000 := by
  obtain ⟨m, hm⟩ : ∃ m, m = 40000 := ⟨_, rfl⟩
  rw [tt_eq hm, ← Nat.pow_add] at hv
  have h2 : 2 * 65536 ^ (m + m) ≤ 65536 ^ (m + m + 1) := by rw [Nat.pow_succ]; omega
  have := h.length_le (m := m + m + 1) (by decide) (Nat.lt_of_lt_of_le hv h2)
  omega
theorem tt_mul {p q : Nat} (hp : p < TT) (hq : q < TT) : p * q < TT * TT := Nat.mul_lt_mul'' hp hq
theorem imul_abs {x : Int} {y : Nat} (hx : x.natAbs < TT) (hy : y < TT) : (x * (y : Int)).natAbs < TT * TT := by
  rw [Int.natAbs_mul]
  exact tt_mul hx hy
theorem sv_len2 {m : Bool} {zs : List Nat} {v k : Nat} {z : Int} (h : Rep 65536 zs v) (hs : sval m v = z) (hz : z.natAbs < 2 * (TT * TT)) (hl : zs.length = k) : k ≤ 100000 := tt_len2 h (by rw [← sval_abs m v, hs]; exact hz) hl
def PlR (V : World) (x y : Int) (s t : Value) (wx : World) : Prop :=
  ∃ g h m1 A1 k1 c1 z1 v1 m2 A2 k2 c2 z2 v2, s = .pointer (some ⟨g, 0, none⟩) ∧ t = .pointer (some ⟨h, 0, none⟩) ∧ Bk2 wx g (.bool m1) (.slice A1 k1 c1) ∧ Bk2 wx h (.bool m2) (.slice A2 k2 c2) ∧ DRd wx wx.heap.size A1 k1 c1 z1 ∧ DRd wx wx.heap.size A2 k2 c2 z2 ∧ Hid (Rep 65536 z1 v1) ∧ Hid (sval m1 v1 = x) ∧ Hid (Rep 65536 z2 v2) ∧ Hid (sval m2 v2 = y) ∧ V.heap.size ≤ g ∧ V.heap.size ≤ h ∧ Below V.heap.size V wx
section
variable {V u : World} {x y : Int} {B g h : Nat} {A1 A2 : Option Addr} {k1 c1 k2 c2 v1 v2 : Nat} {m1 m2 : Bool} {z1 z2 : List Nat} (h1 : DRd u u.heap.size A1 k1 c1 z1) (h2 : DRd u u.heap.size A2 k2 c2 z2) (R1 : Hid (Rep 65536 z1 v1)) (S1 : Hid (sval m1 v1 = x)) (R2 : Hid (Rep 65536 z2 v2)) (S2 : Hid (sval m2 v2 = y)) (b : Below V.heap.size V u)
include h1 h2 R1 S1 R2 S2 b
theorem pl_aa : PlR V x y (.pointer (some ⟨u.heap.size, 0, none⟩)) (.pointer (some ⟨u.heap.size + 1, 0, none⟩)) ((u.alloc (.cells #[.bool m1, .slice A1 k1 c1] 40)).alloc (.cells #[.bool m2, .slice A2 k2 c2] 40)) :=
  ⟨_, _, m1, A1, k1, c1, z1, v1, m2, A2, k2, c2, z2, v2, rfl, rfl, (Bk2.newAt _ _ rfl _ _ _).alloc _, Bk2.newAt _ _ (by simp) _ _ _, DRd.more ((h1.alloc (Nat.le_refl _) _).alloc (by simp) _) (by simp; omega), DRd.more ((h2.alloc (Nat.le_refl _) _).alloc (by simp) _) (by simp; omega), R1, S1, R2, S2, b.size, by have := b.size; omega, (b.alloc b.size _).alloc (by have := b.size; simp; omega) _⟩
theorem pl_bb : PlR V x y (.pointer (some ⟨u.heap.size + 1, 0, none⟩)) (.pointer (some ⟨u.heap.size, 0, none⟩)) ((u.alloc (.cells #[.bool m2, .slice A2 k2 c2] 40)).alloc (.cells #[.bool m1, .slice A1 k1 c1] 40)) :=
  ⟨_, _, m1, A1, k1, c1, z1, v1, m2, A2, k2, c2, z2, v2, rfl, rfl, Bk2.newAt _ _ (by simp) _ _ _, (Bk2.newAt _ _ rfl _ _ _).alloc _, DRd.more ((h1.alloc (Nat.le_refl _) _).alloc (by simp) _) (by simp; omega), DRd.more ((h2.alloc (Nat.le_refl _) _).alloc (by simp) _) (by simp; omega), R1, S1, R2, S2, by have := b.size; omega, b.size, (b.alloc b.size _).alloc (by have := b.size; simp; omega) _⟩
theorem pl_oa (G : Bk2 u g (.bool false) (.slice none 0 0)) (hg : V.heap.size ≤ g) : PlR V x y (.pointer (some ⟨g, 0, none⟩)) (.pointer (some ⟨u.heap.size, 0, none⟩)) (((u.setCell ⟨g, 0, none⟩ (.bool m1)).setCell ⟨g, 1, none⟩ (.slice A1 k1 c1)).alloc (.cells #[.bool m2, .slice A2 k2 c2] 40)) :=
  ⟨_, _, m1, A1, k1, c1, z1, v1, m2, A2, k2, c2, z2, v2, rfl, rfl, (G.set _ _).alloc _, Bk2.newAt _ _ (by simp [World.setCell]) _ _ _, DRd.more ((h1.setBD G (by simp) (by simp) _ _).alloc (by simp [World.setCell]) _) (by simp [World.setCell]), DRd.more ((h2.setBD G (by simp) (by simp) _ _).alloc (by simp [World.setCell]) _) (by simp [World.setCell]), R1, S1, R2, S2, hg, b.size, ((b.setCell (p := ⟨g, 0, none⟩) hg _).setCell (p := ⟨g, 1, none⟩) hg _).alloc (by have := b.size; simp [World.setCell]; omega) _⟩
theorem pl_ao (G : Bk2 u g (.bool false) (.slice none 0 0)) (hg : V.heap.size ≤ g) : PlR V x y (.pointer (some ⟨u.heap.size, 0, none⟩)) (.pointer (some ⟨g, 0, none⟩)) (((u.setCell ⟨g, 0, none⟩ (.bool m2)).setCell ⟨g, 1, none⟩ (.slice A2 k2 c2)).alloc (.cells #[.bool m1, .slice A1 k1 c1] 40)) :=
  ⟨_, _, m1, A1, k1, c1, z1, v1, m2, A2, k2, c2, z2, v2, rfl, rfl, Bk2.newAt _ _ (by simp [World.setCell]) _ _ _, (G.set _ _).alloc _, DRd.more ((h1.setBD G (by simp) (by simp) _ _).alloc (by simp [World.setCell]) _) (by simp [World.setCell]), DRd.more ((h2.setBD G (by simp) (by simp) _ _).alloc (by simp [World.setCell]) _) (by simp [World.setCell]), R1, S1, R2, S2, b.size, hg, ((b.setCell (p := ⟨g, 0, none⟩) hg _).setCell (p := ⟨g, 1, none⟩) hg _).alloc (by have := b.size; simp [World.setCell]; omega) _⟩
theorem pl_oo (G : Bk2 u g (.bool false) (.slice none 0 0)) (H : Bk2 u h (.bool false) (.slice none 0 0)) (hg : V.heap.size ≤ g) (hh : V.heap.size ≤ h) (hne : g ≠ h) : PlR V x y (.pointer (some ⟨g, 0, none⟩)) (.pointer (some ⟨h, 0, none⟩)) ((((u.setCell ⟨g, 0, none⟩ (.bool m1)).setCell ⟨g, 1, none⟩ (.slice A1 k1 c1)).setCell ⟨h, 0, none⟩ (.bool m2)).setCell ⟨h, 1, none⟩ (.slice A2 k2 c2)) := by
  have G' := G.set (.bool m1) (.slice A1 k1 c1)
  have H' := H.far2 hne (.bool m1) (.slice A1 k1 c1)
  exact ⟨_, _, m1, A1, k1, c1, z1, v1, m2, A2, k2, c2, z2, v2, rfl, rfl, G'.far2 (Ne.symm hne) _ _, H'.set _ _, DRd.more ((h1.setBD G (by simp) (by simp) _ _).setBD H' (by simp) (by simp) _ _) (by simp [World.setCell]), DRd.more ((h2.setBD G (by simp) (by simp) _ _).setBD H' (by simp) (by simp) _ _) (by simp [World.setCell]), R1, S1, R2, S2, hg, hh, (((b.setCell (p := ⟨g, 0, none⟩) hg _).setCell (p := ⟨g, 1, none⟩) hg _).setCell (p := ⟨h, 0, none⟩) hh _).setCell (p := ⟨h, 1, none⟩) hh _⟩
end
theorem qv_at {w : World} {B : Nat} {q : QV} (h : DRd w B q.A q.n q.c q.xs) (k : DRd w B q.D q.k q.d q.ys) : q.at w B := ⟨h, k⟩
set_option maxHeartbeats 8000000 in
theorem qplus_v (w : World) (B : Nat) (p q : QV) (ap aq p2 q2 : Nat) (H1 : p.at w B) (H2 : q.at w B) (hB : B ≤ w.heap.size) (Rp1 : Hid (Rep 65536 p.xs ap)) (Rp2 : Hid (Rep 65536 p.ys p2)) (Rq1 : Hid (Rep 65536 q.xs aq)) (Rq2 : Hid (Rep 65536 q.ys q2)) (tp1 : ap < TT) (tp2 : p2 < TT) (tq1 : aq < TT) (tq2 : q2 < TT) (hpq : Hid (0 < p2 * q2)) :
    Calls Tryz.prog 20 #[p.v, q.v] w (GivesQL w ((sval p.m ap * ((q2 : Nat) : Int)) + (sval q.m aq * ((p2 : Nat) : Int))) (p2 * q2)) := by
  obtain ⟨HP1, HP2⟩ := H1
  obtain ⟨HQ1, HQ2⟩ := H2
  replace HP1 : DRd w B p.A p.n p.c p.xs := HP1
  replace HP2 : DRd w B p.D p.k p.d p.ys := HP2
  replace HQ1 : DRd w B q.A q.n q.c q.xs := HQ1
  replace HQ2 : DRd w B q.D q.k q.d q.ys := HQ2
  have n1 := tt_len Rp1.out tp1 HP1.len.out
  have n2 := tt_len Rp2.out tp2 HP2.len.out
  have n3 := tt_len Rq1.out tq1 HQ1.len.out
  have n4 := tt_len Rq2.out tq2 HQ2.len.out
  have bx := Lib.hid (show (sval p.m ap * ((q2 : Nat) : Int)).natAbs < TT * TT from imul_abs (by rw [sval_abs]; exact tp1) tq2)
  have by_ := Lib.hid (show (sval q.m aq * ((p2 : Nat) : Int)).natAbs < TT * TT from imul_abs (by rw [sval_abs]; exact tq1) tp2)
  have bpq := Lib.hid (tt_mul tp2 tq2)
  have E : Below w.heap.size w w := Below.refl _ _
  go_enter Tryz.func20, Tryz.ntmps20
  go_upto_region 1 with fail
  obtain ⟨V0, hV0⟩ : ∃ V0 : World, V0 = (((w.alloc (.cells #[.bool p.m, .slice p.A p.n p.c, .slice p.D p.k p.d] 42)).alloc (.cells #[.bool q.m, .slice q.A q.n q.c, .slice q.D q.k q.d] 42)).alloc (.cells #[.bool false, .slice none 0 0, .slice none 0 0] 42)) := ⟨_, rfl⟩
  have bV0 : Below w.heap.size w V0 := by rw [hV0]; (repeat (first | with_reducible exact Below.refl _ _ | with_reducible refine Below.alloc ?_ (by first | (simp <;> omega) | omega) _))
  have zV0 : w.heap.size + 3 ≤ V0.heap.size := by rw [hV0]; simp
  have PA : Bk3 V0 (w.heap.size) (.bool p.m) (.slice p.A p.n p.c) (.slice p.D p.k p.d) := by rw [hV0]; exact (((Bk3.newAt _ _ (by first | omega | (simp; done) | (simp; omega)) _ _ _ _).alloc _).alloc _)
  have PB : Bk3 V0 (w.heap.size + 1) (.bool q.m) (.slice q.A q.n q.c) (.slice q.D q.k q.d) := by rw [hV0]; exact ((Bk3.newAt _ _ (by first | omega | (simp; done) | (simp; omega)) _ _ _ _).alloc _)
  have PR : Bk3 V0 (w.heap.size + 2) (.bool false) (.slice none 0 0) (.slice none 0 0) := by rw [hV0]; exact (Bk3.newAt _ _ (by first | omega | (simp; done) | (simp; omega)) _ _ _ _)
  rw [← hV0]
  clear hV0
  replace E := E.trans (bV0.mono E.size)
  replace HP1 := HP1.below bV0 (by omega)
  replace HP2 := HP2.below bV0 (by omega)
  replace HQ1 := HQ1.below bV0 (by omega)
  replace HQ2 := HQ2.below bV0 (by omega)
  clear bV0
  go_cut [5, 6] (fun s5 s6 wx => PlR V0 (sval p.m ap * ((q2 : Nat) : Int)) (sval q.m aq * ((p2 : Nat) : Int)) s5 s6 wx)
  case first =>
    as_aux_lemma =>
      have lt_PA := PA.lt
      have lt_PB := PB.lt
      have HS := Lib.hid (fun (u : World) (hu : Below V0.heap.size V0 u) => (⟨(hu.cell (p := ⟨w.heap.size, 0, none⟩) (by show w.heap.size < _; omega)).trans PA.c0, (hu.cell (p := ⟨w.heap.size, 1, none⟩) (by show w.heap.size < _; omega)).trans PA.c1, (hu.cell (p := ⟨w.heap.size, 2, none⟩) (by show w.heap.size < _; omega)).trans PA.c2, (hu.cell (p := ⟨w.heap.size + 1, 0, none⟩) (by show w.heap.size + 1 < _; omega)).trans PB.c0, (hu.cell (p := ⟨w.heap.size + 1, 1, none⟩) (by show w.heap.size + 1 < _; omega)).trans PB.c1, (hu.cell (p := ⟨w.heap.size + 1, 2, none⟩) (by show w.heap.size + 1 < _; omega)).trans PB.c2⟩ : u.cell? ⟨w.heap.size, 0, none⟩ = some (.bool p.m) ∧ u.cell? ⟨w.heap.size, 1, none⟩ = some (.slice p.A p.n p.c) ∧ u.cell? ⟨w.heap.size, 2, none⟩ = some (.slice p.D p.k p.d) ∧ u.cell? ⟨w.heap.size + 1, 0, none⟩ = some (.bool q.m) ∧ u.cell? ⟨w.heap.size + 1, 1, none⟩ = some (.slice q.A q.n q.c) ∧ u.cell? ⟨w.heap.size + 1, 2, none⟩ = some (.slice q.D q.k q.d)))
      have G0 : Below V0.heap.size V0 V0.drew := Below.drew (Below.refl _ _)
      go_region_held3 (fun u => u.cell? ⟨w.heap.size, 0, none⟩ = some (.bool p.m) ∧ u.cell? ⟨w.heap.size, 1, none⟩ = some (.slice p.A p.n p.c) ∧ u.cell? ⟨w.heap.size, 2, none⟩ = some (.slice p.D p.k p.d) ∧ u.cell? ⟨w.heap.size + 1, 0, none⟩ = some (.bool q.m) ∧ u.cell? ⟨w.heap.size + 1, 1, none⟩ = some (.slice q.A q.n q.c) ∧ u.cell? ⟨w.heap.size + 1, 2, none⟩ = some (.slice q.D q.k q.d))
        (first | exact HS.out _ (by (repeat (first | with_reducible exact G0 | with_reducible exact B2 | with_reducible exact B1 | with_reducible exact Below.refl _ _ | with_reducible refine Below.drew ?_ | with_reducible refine Below.alloc ?_ (by first | (simp <;> omega) | omega) _ | with_reducible refine Below.setCell ?_ (by first | (simp <;> omega) | omega) _))) | fail)
        (first
          | (go_at_call 67; (with_reducible refine (rtimes_any _ V0.heap.size p.m false p.A q.D p.n q.k p.c q.d ap q2 p.xs q.ys (DRd.below (HP1.more (by omega)) (B' := V0.heap.size) (by (repeat (first | with_reducible exact G0 | with_reducible exact B2 | with_reducible exact B1 | with_reducible exact Below.refl _ _ | with_reducible refine Below.drew ?_ | with_reducible refine Below.alloc ?_ (by first | (simp <;> omega) | omega) _ | with_reducible refine Below.setCell ?_ (by first | (simp <;> omega) | omega) _))) (Nat.le_refl _)) (DRd.below (HQ2.more (by omega)) (B' := V0.heap.size) (by (repeat (first | with_reducible exact G0 | with_reducible exact B2 | with_reducible exact B1 | with_reducible exact Below.refl _ _ | with_reducible refine Below.drew ?_ | with_reducible refine Below.alloc ?_ (by first | (simp <;> omega) | omega) _ | with_reducible refine Below.setCell ?_ (by first | (simp <;> omega) | omega) _))) (Nat.le_refl _)) (by first | (simp <;> omega) | omega) Rp1.out Rq2.out (by omega) (by omega)).mono ?_); rintro e u1 ⟨m1, A1, k1, c1, z1, v1, rfl, hd1, hr1, hs1, hb1⟩; have B1 : Below V0.heap.size V0 u1 := (by refine bnext ?_ hb1; (repeat (first | with_reducible exact G0 | with_reducible exact B2 | with_reducible exact B1 | with_reducible exact Below.refl _ _ | with_reducible refine Below.drew ?_ | with_reducible refine Below.alloc ?_ (by first | (simp <;> omega) | omega) _ | with_reducible refine Below.setCell ?_ (by first | (simp <;> omega) | omega) _))); have b1s := B1.size; have T1 := Lib.hid hr1; have U1 := Lib.hid (show sval m1 v1 = sval p.m ap * ((q2 : Nat) : Int) from hs1); clear hr1 hs1; (first | (have t1 := niid hb1; have F1a := t1.1; have F1b := t1.2; obtain ⟨_, _, _, _, _⟩ := id F1a; obtain ⟨_, _, _, _, _⟩ := id F1b) | (have F1a := nid hb1; obtain ⟨_, _, _, _, _⟩ := id F1a) | (have t1 := nii hb1; have F1a := t1.1; have F1b := t1.2; obtain ⟨_, _, _, _, _⟩ := id F1a; obtain ⟨_, _, _, _, _⟩ := id F1b) | (have F1a := ni hb1; obtain ⟨_, _, _, _, _⟩ := id F1a) | skip))
          | (go_at_call 67; (with_reducible refine (rtimes_any _ V0.heap.size q.m false q.A p.D q.n p.k q.c p.d aq p2 q.xs p.ys (DRd.below (HQ1.more (by omega)) (B' := V0.heap.size) (by (repeat (first | with_reducible exact G0 | with_reducible exact B2 | with_reducible exact B1 | with_reducible exact Below.refl _ _ | with_reducible refine Below.drew ?_ | with_reducible refine Below.alloc ?_ (by first | (simp <;> omega) | omega) _ | with_reducible refine Below.setCell ?_ (by first | (simp <;> omega) | omega) _))) (Nat.le_refl _)) (DRd.below (HP2.more (by omega)) (B' := V0.heap.size) (by (repeat (first | with_reducible exact G0 | with_reducible exact B2 | with_reducible exact B1 | with_reducible exact Below.refl _ _ | with_reducible refine Below.drew ?_ | with_reducible refine Below.alloc ?_ (by first | (simp <;> omega) | omega) _ | with_reducible refine Below.setCell ?_ (by first | (simp <;> omega) | omega) _))) (Nat.le_refl _)) (by first | (simp <;> omega) | omega) Rq1.out Rp2.out (by omega) (by omega)).mono ?_); rintro e u2 ⟨m2, A2, k2, c2, z2, v2, rfl, hd2, hr2, hs2, hb2⟩; have B2 : Below V0.heap.size V0 u2 := (by refine bnext ?_ hb2; (repeat (first | with_reducible exact G0 | with_reducible exact B2 | with_reducible exact B1 | with_reducible exact Below.refl _ _ | with_reducible refine Below.drew ?_ | with_reducible refine Below.alloc ?_ (by first | (simp <;> omega) | omega) _ | with_reducible refine Below.setCell ?_ (by first | (simp <;> omega) | omega) _))); have b2s := B2.size; have T2 := Lib.hid hr2; have U2 := Lib.hid (show sval m2 v2 = sval q.m aq * ((p2 : Nat) : Int) from hs2); clear hr2 hs2; (first | (have t2 := niid hb2; have F2a := t2.1; have F2b := t2.2; obtain ⟨_, _, _, _, _⟩ := id F2a; obtain ⟨_, _, _, _, _⟩ := id F2b) | (have F2a := nid hb2; obtain ⟨_, _, _, _, _⟩ := id F2a) | (have t2 := nii hb2; have F2a := t2.1; have F2b := t2.2; obtain ⟨_, _, _, _, _⟩ := id F2a; obtain ⟨_, _, _, _, _⟩ := id F2b) | (have F2a := ni hb2; obtain ⟨_, _, _, _, _⟩ := id F2a) | skip); have K12 : Below u1.heap.size u1 u2 := (by refine bnext ?_ hb2; (repeat (first | with_reducible exact Below.refl _ _ | with_reducible refine Below.alloc ?_ (by first | (simp <;> omega) | omega) _))); have hd1q : DRd u2 u2.heap.size A1 k1 c1 z1 := (hd1.below K12 (Nat.le_refl _)).more K12.size; (first | (have F1a2 := F1a.below K12 F1a.lt; obtain ⟨_, _, _, _, _⟩ := id F1a2) | skip); (first | (have F1b2 := F1b.below K12 F1b.lt; obtain ⟨_, _, _, _, _⟩ := id F1b2) | skip))
          | fail)
      all_goals (go_wp2_with fail)
      all_goals go_meet
      all_goals first
        | with_reducible exact pl_aa hd1q hd2 T1 U1 T2 U2 B2
        | with_reducible exact pl_bb hd1q hd2 T1 U1 T2 U2 B2
        | with_reducible exact pl_oa hd1q hd2 T1 U1 T2 U2 B2 (by with_reducible assumption) (by omega)
        | with_reducible exact pl_ao hd1q hd2 T1 U1 T2 U2 B2 (by with_reducible assumption) (by omega)
        | with_reducible exact pl_oo hd1q hd2 T1 U1 T2 U2 B2 (by with_reducible assumption) (by with_reducible assumption) (by omega) (by omega) (by omega)
        | fail
  case rest =>
  obtain ⟨g, h, m1, A1, k1, c1, z1, v1, m2, A2, k2, c2, z2, v2, rfl, rfl, PG, PH, D1, D2, R1, S1, R2, S2, hg, hh, hbX⟩ := hcut
  replace PA := PA.below hbX PA.lt
  replace PB := PB.below hbX PB.lt
  replace PR := PR.below hbX PR.lt
  replace E := E.trans (hbX.mono E.size)
  replace HP1 := HP1.below hbX (by omega)
  replace HP2 := HP2.below hbX (by omega)
  replace HQ1 := HQ1.below hbX (by omega)
  replace HQ2 := HQ2.below hbX (by omega)
  have sX := hbX.size
  clear hbX
  obtain ⟨V2, hV2⟩ : ∃ y : World, y = wc := ⟨_, rfl⟩
  subst hV2
  have l1 := sv_len2 R1.out S1.out (by have := bx.out; omega) D1.len.out
  have l2 := sv_len2 R2.out S2.out (by have := by_.out; omega) D2.len.out
  have BS := Lib.hid (show (sval m1 v1 + sval m2 v2).natAbs < 2 * (TT * TT) by rw [S1.out, S2.out]; have := bx.out; have := by_.out; omega)
  go_upto_region 2 with fail
  have lt_PA := PA.lt
  have lt_PB := PB.lt
  have HS := Lib.hid (fun (u : World) (hu : Below (w.heap.size + 2) V2 u) => (⟨(hu.cell (p := ⟨w.heap.size, 0, none⟩) (by show w.heap.size < _; omega)).trans PA.c0, (hu.cell (p := ⟨w.heap.size, 1, none⟩) (by show w.heap.size < _; omega)).trans PA.c1, (hu.cell (p := ⟨w.heap.size, 2, none⟩) (by show w.heap.size < _; omega)).trans PA.c2, (hu.cell (p := ⟨w.heap.size + 1, 0, none⟩) (by show w.heap.size + 1 < _; omega)).trans PB.c0, (hu.cell (p := ⟨w.heap.size + 1, 1, none⟩) (by show w.heap.size + 1 < _; omega)).trans PB.c1, (hu.cell (p := ⟨w.heap.size + 1, 2, none⟩) (by show w.heap.size + 1 < _; omega)).trans PB.c2⟩ : u.cell? ⟨w.heap.size, 0, none⟩ = some (.bool p.m) ∧ u.cell? ⟨w.heap.size, 1, none⟩ = some (.slice p.A p.n p.c) ∧ u.cell? ⟨w.heap.size, 2, none⟩ = some (.slice p.D p.k p.d) ∧ u.cell? ⟨w.heap.size + 1, 0, none⟩ = some (.bool q.m) ∧ u.cell? ⟨w.heap.size + 1, 1, none⟩ = some (.slice q.A q.n q.c) ∧ u.cell? ⟨w.heap.size + 1, 2, none⟩ = some (.slice q.D q.k q.d)))
  have G0 : Below V2.heap.size V2 V2.drew := Below.drew (Below.refl _ _)
  have g0s := G0.size
  have G0m : Below (w.heap.size + 2) V2 V2.drew := G0.mono (by omega)
  have ltG := PG.lt
  have ltH := PH.lt
  have HS2 := Lib.hid (fun (u : World) (hu : Below (w.heap.size + 2) V2 u) (hG : Bk2 u g (.bool m1) (.slice A1 k1 c1)) (hH : Bk2 u h (.bool m2) (.slice A2 k2 c2)) => (by obtain ⟨a0, a1, a2, a3, a4, a5⟩ := HS.out u hu; exact ⟨a0, a1, a2, a3, a4, a5, hG.c0, hG.c1, hH.c0, hH.c1⟩ : u.cell? ⟨w.heap.size, 0, none⟩ = some (.bool p.m) ∧ u.cell? ⟨w.heap.size, 1, none⟩ = some (.slice p.A p.n p.c) ∧ u.cell? ⟨w.heap.size, 2, none⟩ = some (.slice p.D p.k p.d) ∧ u.cell? ⟨w.heap.size + 1, 0, none⟩ = some (.bool q.m) ∧ u.cell? ⟨w.heap.size + 1, 1, none⟩ = some (.slice q.A q.n q.c) ∧ u.cell? ⟨w.heap.size + 1, 2, none⟩ = some (.slice q.D q.k q.d) ∧ u.cell? ⟨g, 0, none⟩ = some (.bool m1) ∧ u.cell? ⟨g, 1, none⟩ = some (.slice A1 k1 c1) ∧ u.cell? ⟨h, 0, none⟩ = some (.bool m2) ∧ u.cell? ⟨h, 1, none⟩ = some (.slice A2 k2 c2)))
  go_region_held3 (fun u => u.cell? ⟨w.heap.size, 0, none⟩ = some (.bool p.m) ∧ u.cell? ⟨w.heap.size, 1, none⟩ = some (.slice p.A p.n p.c) ∧ u.cell? ⟨w.heap.size, 2, none⟩ = some (.slice p.D p.k p.d) ∧ u.cell? ⟨w.heap.size + 1, 0, none⟩ = some (.bool q.m) ∧ u.cell? ⟨w.heap.size + 1, 1, none⟩ = some (.slice q.A q.n q.c) ∧ u.cell? ⟨w.heap.size + 1, 2, none⟩ = some (.slice q.D q.k q.d) ∧ u.cell? ⟨g, 0, none⟩ = some (.bool m1) ∧ u.cell? ⟨g, 1, none⟩ = some (.slice A1 k1 c1) ∧ u.cell? ⟨h, 0, none⟩ = some (.bool m2) ∧ u.cell? ⟨h, 1, none⟩ = some (.slice A2 k2 c2)) (first | exact HS2.out _ (by (repeat (first | with_reducible exact G0m | with_reducible exact BN.mono (by omega) | with_reducible exact B2.mono (by omega) | with_reducible exact B1.mono (by omega) | with_reducible exact Below.refl _ _ | with_reducible refine Below.drew ?_ | with_reducible refine below_drewN ?_ _ | with_reducible refine Below.setCell ?_ (by first | (simp <;> omega) | omega) _))) (by (repeat (first | with_reducible exact PG | with_reducible exact PG.drew | with_reducible exact PG.below BN PG.lt | with_reducible exact PG.below B2 PG.lt | with_reducible exact PG.below B1 PG.lt | with_reducible refine Bk2.drew ?_ | with_reducible refine Bk2.far3 ?_ (by omega) _ _ _))) (by (repeat (first | with_reducible exact PH | with_reducible exact PH.drew | with_reducible exact PH.below BN PH.lt | with_reducible exact PH.below B2 PH.lt | with_reducible exact PH.below B1 PH.lt | with_reducible refine Bk2.drew ?_ | with_reducible refine Bk2.far3 ?_ (by omega) _ _ _))) | fail)
    (first
      | (go_at_call 41; (with_reducible refine (rplus_any _ V2.heap.size m1 m2 A1 A2 k1 k2 c1 c2 v1 v2 z1 z2 (D1.below G0 (Nat.le_refl _)) (D2.below G0 (Nat.le_refl _)) (by omega) R1.out R2.out l1 l2).mono ?_); rintro e u1 ⟨m3, A3, k3, c3, z3, v3, rfl, hd3, hr3, hs3, hb1⟩; have B1 : Below V2.heap.size V2 u1 := bnext G0 hb1; have T3 := Lib.hid hr3; have U3 := Lib.hid hs3; clear hr3 hs3; have b1s := hb1.size)
      | (go_at_call 68; (with_reducible refine (times_any _ u1.heap.size p.D q.D p.k q.k p.d q.d p.ys q.ys ((HP2.below B1 (by omega)).more (by omega)) ((HQ2.below B1 (by omega)).more (by omega)) (Nat.le_refl _) (by omega) (by omega)).mono ?_); rintro e u2 ⟨A4, k4, c4, z4, rfl, hd4, hr4, hb2⟩; have B2 : Below V2.heap.size V2 u2 := bnext B1 hb2; rw [Rp2.out.val, Rq2.out.val] at hr4; have T4 := Lib.hid hr4; clear hr4; have hd3q := hd3.below hb2 (Nat.le_refl _); have b2s := hb2.size)
      | (go_at_call 31; (with_reducible refine (lowest_v _ u2.heap.size (QV.mk m3 A3 k3 c3 z3 A4 k4 c4 z4) v3 (p2 * q2) (qv_at (q := QV.mk m3 A3 k3 c3 z3 A4 k4 c4 z4) (hd3q.more (by omega)) hd4) (Nat.le_refl _) T3 T4 hpq (sv_len2 T3.out U3.out BS.out hd3.len.out) (tt_len2 T4.out (by have := bpq.out; omega) hd4.len.out)).mono ?_); rintro e u3 ⟨y1, y2, hlo, ⟨qm, qA, qn, qc, qxs, qD, qk, qd, qys⟩, rfl, hqa, hqi, hb3⟩; have BN : Below V2.heap.size V2 u3 := bnext B2 hb3; have LO := Lib.hid hlo; have QA := Lib.hid hqa; have QI := Lib.hid hqi; clear hlo hqa hqi; have b3s := hb3.size; have PRq := PR.below BN PR.lt; obtain ⟨r0, r1, r2, y0, y1', y2', ltr⟩ := PRq)
      | fail)
  all_goals (go_wp2_with fail)
  all_goals
    have hlow : LowOf ((sval p.m ap * ((q2 : Nat) : Int)) + (sval q.m aq * ((p2 : Nat) : Int))) (p2 * q2) y1 y2 := by have h9 := LO.out; rw [show sval (QV.mk m3 A3 k3 c3 z3 A4 k4 c4 z4).m v3 = (sval p.m ap * ((q2 : Nat) : Int)) + (sval q.m aq * ((p2 : Nat) : Int)) from U3.out.trans (by rw [S1.out, S2.out])] at h9; exact h9
    refine bodyPost_ret (v := refv qm qA qn qc qD qk qd) (by simp [results, Tryz.results20, go_sem, r0, r1, r2]) rfl ⟨y1, y2, hlow, ⟨qm, qA, qn, qc, qxs, qD, qk, qd, qys⟩, rfl, ⟨?_, ?_⟩, QI.out, ?_⟩
    · first | exact DRd.set3k QA.out.1 (Nat.le_refl _) r0 r1 r2 | exact DRd.drew (DRd.set3k QA.out.1 (Nat.le_refl _) r0 r1 r2) | exact DRd.set3k (DRd.drew QA.out.1) (Nat.le_refl _) r0 r1 r2
    · first | exact DRd.set3k QA.out.2 (Nat.le_refl _) r0 r1 r2 | exact DRd.drew (DRd.set3k QA.out.2 (Nat.le_refl _) r0 r1 r2) | exact DRd.set3k (DRd.drew QA.out.2) (Nat.le_refl _) r0 r1 r2
    · (repeat (first | with_reducible exact E.trans (BN.mono E.size) | with_reducible refine Below.drew ?_ | with_reducible refine below_drewN ?_ _ | with_reducible refine Below.setCell ?_ (by first | (simp <;> omega) | omega) _))
theorem neg_lt {m n : Bool} {v a : Nat} (h : sval m v = -sval n a) (ha : a < TT) : v < TT := by
  have h1 := sval_abs m v
  have h2 := sval_abs n a
  rw [h, Int.natAbs_neg, h2] at h1
  omega
set_option maxHeartbeats 8000000 in
theorem qless_v (w : World) (B : Nat) (p q : QV) (ap aq p2 q2 : Nat) (H1 : p.at w B) (H2 : q.at w B) (hB : B ≤ w.heap.size) (Rp1 : Hid (Rep 65536 p.xs ap)) (Rp2 : Hid (Rep 65536 p.ys p2)) (Rq1 : Hid (Rep 65536 q.xs aq)) (Rq2 : Hid (Rep 65536 q.ys q2)) (tp1 : ap < TT) (tp2 : p2 < TT) (tq1 : aq < TT) (tq2 : q2 < TT) (hpq : Hid (0 < p2 * q2)) :
    Calls Tryz.prog 21 #[p.v, q.v] w (GivesQL w ((sval p.m ap * ((q2 : Nat) : Int)) - (sval q.m aq * ((p2 : Nat) : Int))) (p2 * q2)) := by
  obtain ⟨HP1, HP2⟩ := H1
  obtain ⟨HQ1, HQ2⟩ := H2
  replace HP1 : DRd w B p.A p.n p.c p.xs := HP1
  replace HP2 : DRd w B p.D p.k p.d p.ys := HP2
  replace HQ1 : DRd w B q.A q.n q.c q.xs := HQ1
  replace HQ2 : DRd w B q.D q.k q.d q.ys := HQ2
  have n1 := tt_len Rp1.out tp1 HP1.len.out
  have n2 := tt_len Rp2.out tp2 HP2.len.out
  have n3 := tt_len Rq1.out tq1 HQ1.len.out
  have n4 := tt_len Rq2.out tq2 HQ2.len.out
  have bx := Lib.hid (show (sval p.m ap * ((q2 : Nat) : Int)).natAbs < TT * TT from imul_abs (by rw [sval_abs]; exact tp1) tq2)
  have by_ := Lib.hid (show (sval q.m aq * ((p2 : Nat) : Int)).natAbs < TT * TT from imul_abs (by rw [sval_abs]; exact tq1) tp2)
  have bpq := Lib.hid (tt_mul tp2 tq2)
  have E : Below w.heap.size w w := Below.refl _ _
  go_enter Tryz.func21, Tryz.ntmps21
  go_upto_region 1 with fail
  obtain ⟨V0, hV0⟩ : ∃ V0 : World, V0 = (((w.alloc (.cells #[.bool p.m, .slice p.A p.n p.c, .slice p.D p.k p.d] 42)).alloc (.cells #[.bool q.m, .slice q.A q.n q.c, .slice q.D q.k q.d] 42)).alloc (.cells #[.bool false, .slice none 0 0, .slice none 0 0] 42)) := ⟨_, rfl⟩
  have bV0 : Below w.heap.size w V0 := by rw [hV0]; (repeat (first | with_reducible exact Below.refl _ _ | with_reducible refine Below.alloc ?_ (by first | (simp <;> omega) | omega) _))
  have zV0 : w.heap.size + 3 ≤ V0.heap.size := by rw [hV0]; simp
  have PA : Bk3 V0 (w.heap.size) (.bool p.m) (.slice p.A p.n p.c) (.slice p.D p.k p.d) := by rw [hV0]; exact (((Bk3.newAt _ _ (by first | omega | (simp; done) | (simp; omega)) _ _ _ _).alloc _).alloc _)
  have PB : Bk3 V0 (w.heap.size + 1) (.bool q.m) (.slice q.A q.n q.c) (.slice q.D q.k q.d) := by rw [hV0]; exact ((Bk3.newAt _ _ (by first | omega | (simp; done) | (simp; omega)) _ _ _ _).alloc _)
  have PR : Bk3 V0 (w.heap.size + 2) (.bool false) (.slice none 0 0) (.slice none 0 0) := by rw [hV0]; exact (Bk3.newAt _ _ (by first | omega | (simp; done) | (simp; omega)) _ _ _ _)
  rw [← hV0]
  clear hV0
  replace E := E.trans (bV0.mono E.size)
  replace HP1 := HP1.below bV0 (by omega)
  replace HP2 := HP2.below bV0 (by omega)
  replace HQ1 := HQ1.below bV0 (by omega)
  replace HQ2 := HQ2.below bV0 (by omega)
  clear bV0
  have lt_PA := PA.lt
  have lt_PB := PB.lt
  have HS := Lib.hid (fun (u : World) (hu : Below (w.heap.size + 2) V0 u) => (⟨(hu.cell (p := ⟨w.heap.size, 0, none⟩) (by show w.heap.size < _; omega)).trans PA.c0, (hu.cell (p := ⟨w.heap.size, 1, none⟩) (by show w.heap.size < _; omega)).trans PA.c1, (hu.cell (p := ⟨w.heap.size, 2, none⟩) (by show w.heap.size < _; omega)).trans PA.c2, (hu.cell (p := ⟨w.heap.size + 1, 0, none⟩) (by show w.heap.size + 1 < _; omega)).trans PB.c0, (hu.cell (p := ⟨w.heap.size + 1, 1, none⟩) (by show w.heap.size + 1 < _; omega)).trans PB.c1, (hu.cell (p := ⟨w.heap.size + 1, 2, none⟩) (by show w.heap.size + 1 < _; omega)).trans PB.c2⟩ : u.cell? ⟨w.heap.size, 0, none⟩ = some (.bool p.m) ∧ u.cell? ⟨w.heap.size, 1, none⟩ = some (.slice p.A p.n p.c) ∧ u.cell? ⟨w.heap.size, 2, none⟩ = some (.slice p.D p.k p.d) ∧ u.cell? ⟨w.heap.size + 1, 0, none⟩ = some (.bool q.m) ∧ u.cell? ⟨w.heap.size + 1, 1, none⟩ = some (.slice q.A q.n q.c) ∧ u.cell? ⟨w.heap.size + 1, 2, none⟩ = some (.slice q.D q.k q.d)))
  have G0 : Below V0.heap.size V0 V0.drew := Below.drew (Below.refl _ _)
  have g0s := G0.size
  have G0m : Below (w.heap.size + 2) V0 V0.drew := G0.mono (by omega)
  go_region_held3 (fun u => u.cell? ⟨w.heap.size, 0, none⟩ = some (.bool p.m) ∧ u.cell? ⟨w.heap.size, 1, none⟩ = some (.slice p.A p.n p.c) ∧ u.cell? ⟨w.heap.size, 2, none⟩ = some (.slice p.D p.k p.d) ∧ u.cell? ⟨w.heap.size + 1, 0, none⟩ = some (.bool q.m) ∧ u.cell? ⟨w.heap.size + 1, 1, none⟩ = some (.slice q.A q.n q.c) ∧ u.cell? ⟨w.heap.size + 1, 2, none⟩ = some (.slice q.D q.k q.d)) (first | (refine HS.out _ ?_; (repeat (first | with_reducible exact G0m | with_reducible exact BN.mono (by omega) | with_reducible exact B1.mono (by omega) | with_reducible exact Below.refl _ _ | with_reducible refine Below.drew ?_ | with_reducible refine below_drewN ?_ _ | with_reducible refine Below.setCell ?_ (by first | (simp <;> omega) | omega) _)); done) | fail)
    (first
      | (go_at_call 69; (with_reducible refine (rminus_any _ V0.heap.size q.m q.A q.n q.c aq q.xs ((HQ1.more (by omega)).below G0 (Nat.le_refl _)) Rq1.out (by omega)).mono ?_); rintro e u1 ⟨m3, A3, k3, c3, z3, v3, rfl, hd3, hr3, hs3, hb1⟩; have B1 : Below V0.heap.size V0 u1 := bnext G0 hb1; have T3 := Lib.hid hr3; have U3 := Lib.hid hs3; clear hr3 hs3; have b1s := hb1.size)
      | (go_at_call 20; (with_reducible refine (qplus_v _ u1.heap.size p (QV.mk m3 A3 k3 c3 z3 q.D q.k q.d q.ys) ap v3 p2 q2 (qv_at ((HP1.below B1 (by omega)).more (by omega)) ((HP2.below B1 (by omega)).more (by omega))) (qv_at (q := QV.mk m3 A3 k3 c3 z3 q.D q.k q.d q.ys) hd3 ((HQ2.below B1 (by omega)).more (by omega))) (Nat.le_refl _) Rp1 Rp2 T3 Rq2 tp1 tp2 (neg_lt U3.out tq1) tq2 hpq).mono ?_); rintro e u3 ⟨y1, y2, hlo, ⟨qm, qA, qn, qc, qxs, qD, qk, qd, qys⟩, rfl, hqa, hqi, hb3⟩; have BN : Below V0.heap.size V0 u3 := bnext B1 hb3; have LO := Lib.hid hlo; have QA := Lib.hid hqa; have QI := Lib.hid hqi; clear hlo hqa hqi; have b3s := hb3.size; have PRq := PR.below BN PR.lt; obtain ⟨r0, r1, r2, y0, y1', y2', ltr⟩ := PRq)
      | fail)
  all_goals (go_wp2_with fail)
  all_goals
    have hlow : LowOf ((sval p.m ap * ((q2 : Nat) : Int)) - (sval q.m aq * ((p2 : Nat) : Int))) (p2 * q2) y1 y2 := by have h9 := LO.out; rw [show sval (QV.mk m3 A3 k3 c3 z3 q.D q.k q.d q.ys).m v3 = -sval q.m aq from U3.out, Int.neg_mul, ← Int.sub_eq_add_neg] at h9; exact h9
    refine bodyPost_ret (v := refv qm qA qn qc qD qk qd) (by simp [results, Tryz.results21, go_sem, r0, r1, r2]) rfl ⟨y1, y2, hlow, ⟨qm, qA, qn, qc, qxs, qD, qk, qd, qys⟩, rfl, ⟨?_, ?_⟩, QI.out, ?_⟩
    · first | exact DRd.set3k QA.out.1 (Nat.le_refl _) r0 r1 r2 | exact DRd.drew (DRd.set3k QA.out.1 (Nat.le_refl _) r0 r1 r2) | exact DRd.set3k (DRd.drew QA.out.1) (Nat.le_refl _) r0 r1 r2
    · first | exact DRd.set3k QA.out.2 (Nat.le_refl _) r0 r1 r2 | exact DRd.drew (DRd.set3k QA.out.2 (Nat.le_refl _) r0 r1 r2) | exact DRd.set3k (DRd.drew QA.out.2) (Nat.le_refl _) r0 r1 r2
    · (repeat (first | with_reducible exact E.trans (BN.mono E.size) | with_reducible refine Below.drew ?_ | with_reducible refine below_drewN ?_ _ | with_reducible refine Below.setCell ?_ (by first | (simp <;> omega) | omega) _))
theorem ord_is {m n : Bool} {u v : Nat} {x y r : Int} (h : ICmp (sval m u) (sval n v) r) (h1 : sval m u = x) (h2 : sval n v = y) : ICmp x y r := by rw [h1, h2] at h; exact h
set_option maxHeartbeats 8000000 in
theorem qorder_v (w : World) (B : Nat) (p q : QV) (ap aq p2 q2 : Nat) (H1 : p.at w B) (H2 : q.at w B) (hB : B ≤ w.heap.size) (Rp1 : Hid (Rep 65536 p.xs ap)) (Rp2 : Hid (Rep 65536 p.ys p2)) (Rq1 : Hid (Rep 65536 q.xs aq)) (Rq2 : Hid (Rep 65536 q.ys q2)) (tp1 : ap < TT) (tp2 : p2 < TT) (tq1 : aq < TT) (tq2 : q2 < TT) :
    Calls Tryz.prog 19 #[p.v, q.v] w (OrdPost (sval p.m ap * ((q2 : Nat) : Int)) (sval q.m aq * ((p2 : Nat) : Int)) w) := by
  obtain ⟨HP1, HP2⟩ := H1
  obtain ⟨HQ1, HQ2⟩ := H2
  replace HP1 : DRd w B p.A p.n p.c p.xs := HP1
  replace HP2 : DRd w B p.D p.k p.d p.ys := HP2
  replace HQ1 : DRd w B q.A q.n q.c q.xs := HQ1
  replace HQ2 : DRd w B q.D q.k q.d q.ys := HQ2
  have n1 := tt_len Rp1.out tp1 HP1.len.out
  have n2 := tt_len Rp2.out tp2 HP2.len.out
  have n3 := tt_len Rq1.out tq1 HQ1.len.out
  have n4 := tt_len Rq2.out tq2 HQ2.len.out
  have bx := Lib.hid (show (sval p.m ap * ((q2 : Nat) : Int)).natAbs < TT * TT from imul_abs (by rw [sval_abs]; exact tp1) tq2)
  have by_ := Lib.hid (show (sval q.m aq * ((p2 : Nat) : Int)).natAbs < TT * TT from imul_abs (by rw [sval_abs]; exact tq1) tp2)
  have bpq := Lib.hid (tt_mul tp2 tq2)
  have E : Below w.heap.size w w := Below.refl _ _
  go_enter Tryz.func19, Tryz.ntmps19
  go_upto_region 1 with fail
  obtain ⟨V0, hV0⟩ : ∃ V0 : World, V0 = ((w.alloc (.cells #[.bool p.m, .slice p.A p.n p.c, .slice p.D p.k p.d] 42)).alloc (.cells #[.bool q.m, .slice q.A q.n q.c, .slice q.D q.k q.d] 42)) := ⟨_, rfl⟩
  have bV0 : Below w.heap.size w V0 := by rw [hV0]; (repeat (first | with_reducible exact Below.refl _ _ | with_reducible refine Below.alloc ?_ (by first | (simp <;> omega) | omega) _))
  have zV0 : w.heap.size + 2 ≤ V0.heap.size := by rw [hV0]; simp
  have PA : Bk3 V0 (w.heap.size) (.bool p.m) (.slice p.A p.n p.c) (.slice p.D p.k p.d) := by rw [hV0]; exact ((Bk3.newAt _ _ (by first | omega | (simp; done) | (simp; omega)) _ _ _ _).alloc _)
  have PB : Bk3 V0 (w.heap.size + 1) (.bool q.m) (.slice q.A q.n q.c) (.slice q.D q.k q.d) := by rw [hV0]; exact (Bk3.newAt _ _ (by first | omega | (simp; done) | (simp; omega)) _ _ _ _)
  rw [← hV0]
  clear hV0
  replace E := E.trans (bV0.mono E.size)
  replace HP1 := HP1.below bV0 (by omega)
  replace HP2 := HP2.below bV0 (by omega)
  replace HQ1 := HQ1.below bV0 (by omega)
  replace HQ2 := HQ2.below bV0 (by omega)
  clear bV0
  have lt_PA := PA.lt
  have lt_PB := PB.lt
  have HS := Lib.hid (fun (u : World) (hu : Below (V0.heap.size) V0 u) => (⟨(hu.cell (p := ⟨w.heap.size, 0, none⟩) (by show w.heap.size < _; omega)).trans PA.c0, (hu.cell (p := ⟨w.heap.size, 1, none⟩) (by show w.heap.size < _; omega)).trans PA.c1, (hu.cell (p := ⟨w.heap.size, 2, none⟩) (by show w.heap.size < _; omega)).trans PA.c2, (hu.cell (p := ⟨w.heap.size + 1, 0, none⟩) (by show w.heap.size + 1 < _; omega)).trans PB.c0, (hu.cell (p := ⟨w.heap.size + 1, 1, none⟩) (by show w.heap.size + 1 < _; omega)).trans PB.c1, (hu.cell (p := ⟨w.heap.size + 1, 2, none⟩) (by show w.heap.size + 1 < _; omega)).trans PB.c2⟩ : u.cell? ⟨w.heap.size, 0, none⟩ = some (.bool p.m) ∧ u.cell? ⟨w.heap.size, 1, none⟩ = some (.slice p.A p.n p.c) ∧ u.cell? ⟨w.heap.size, 2, none⟩ = some (.slice p.D p.k p.d) ∧ u.cell? ⟨w.heap.size + 1, 0, none⟩ = some (.bool q.m) ∧ u.cell? ⟨w.heap.size + 1, 1, none⟩ = some (.slice q.A q.n q.c) ∧ u.cell? ⟨w.heap.size + 1, 2, none⟩ = some (.slice q.D q.k q.d)))
  have G0 : Below V0.heap.size V0 V0.drew := Below.drew (Below.refl _ _)
  have g0s := G0.size
  have G0m : Below (V0.heap.size) V0 V0.drew := G0.mono (by omega)
  go_region_held3 (fun u => u.cell? ⟨w.heap.size, 0, none⟩ = some (.bool p.m) ∧ u.cell? ⟨w.heap.size, 1, none⟩ = some (.slice p.A p.n p.c) ∧ u.cell? ⟨w.heap.size, 2, none⟩ = some (.slice p.D p.k p.d) ∧ u.cell? ⟨w.heap.size + 1, 0, none⟩ = some (.bool q.m) ∧ u.cell? ⟨w.heap.size + 1, 1, none⟩ = some (.slice q.A q.n q.c) ∧ u.cell? ⟨w.heap.size + 1, 2, none⟩ = some (.slice q.D q.k q.d)) (first | (refine HS.out _ ?_; (repeat (first | with_reducible exact G0m | with_reducible exact BN.mono (by omega) | with_reducible exact B2.mono (by omega) | with_reducible exact B1.mono (by omega) | with_reducible exact Below.refl _ _ | with_reducible refine Below.drew ?_ | with_reducible refine below_drewN ?_ _ | with_reducible refine Below.setCell ?_ (by first | (simp <;> omega) | omega) _)); done) | fail)
    (first
      | (go_at_call 67; (with_reducible refine (rtimes_any _ V0.heap.size p.m false p.A q.D p.n q.k p.c q.d ap q2 p.xs q.ys ((HP1.more (by omega)).below G0 (Nat.le_refl _)) ((HQ2.more (by omega)).below G0 (Nat.le_refl _)) (by have := G0.size; omega) Rp1.out Rq2.out (by omega) (by omega)).mono ?_); rintro e u1 ⟨m1, A1, k1, c1, z1, v1, rfl, hd1, hr1, hs1, hb1⟩; have B1 : Below V0.heap.size V0 u1 := bnext G0 hb1; have b1s := hb1.size; have T1 := Lib.hid hr1; have U1 := Lib.hid (show sval m1 v1 = sval p.m ap * ((q2 : Nat) : Int) from hs1); clear hr1 hs1)
      | (go_at_call 67; (with_reducible refine (rtimes_any _ V0.heap.size q.m false q.A p.D q.n p.k q.c p.d aq p2 q.xs p.ys ((HQ1.more (by omega)).below B1 (Nat.le_refl _)) ((HP2.more (by omega)).below B1 (Nat.le_refl _)) (by have := B1.size; omega) Rq1.out Rp2.out (by omega) (by omega)).mono ?_); rintro e u2 ⟨m2, A2, k2, c2, z2, v2, rfl, hd2, hr2, hs2, hb2⟩; have B2 : Below V0.heap.size V0 u2 := bnext B1 hb2; have b2s := hb2.size; have T2 := Lib.hid hr2; have U2 := Lib.hid (show sval m2 v2 = sval q.m aq * ((p2 : Nat) : Int) from hs2); clear hr2 hs2; have hd1q := hd1.below hb2 (Nat.le_refl _))
      | (go_at_call 48; (with_reducible refine (rorder_any _ u2.heap.size m1 m2 A1 A2 k1 k2 c1 c2 v1 v2 z1 z2 (hd1q.more (by omega)) hd2 (Nat.le_refl _) T1.out T2.out).mono ?_); rintro e u3 ⟨r, hic, rfl, hb3⟩; have IC := Lib.hid (ord_is hic U1.out U2.out); have hr3 : r = -1 ∨ r = 0 ∨ r = 1 := (by unfold ICmp at hic; omega); clear hic; have BN : Below V0.heap.size V0 u3 := bnext B2 hb3)
      | fail)
  all_goals (go_wp2_with fail)
  all_goals go_ret
  all_goals exact ⟨_, IC.out, rfl, E.trans (BN.mono E.size)⟩
set_option maxHeartbeats 4000000 in
theorem qabs_v (w : World) (B : Nat) (p : QV) (ap p2 : Nat) (H1 : p.at w B) (hB : B ≤ w.heap.size) (Rp1 : Hid (Rep 65536 p.xs ap)) (Rp2 : Hid (Rep 65536 p.ys p2)) :
    Calls Tryz.prog 98 #[p.v] w (GivesQ w ((ap : Nat) : Int) p2) := by
  obtain ⟨HP1, HP2⟩ := H1
  replace HP1 : DRd w B p.A p.n p.c p.xs := HP1
  replace HP2 : DRd w B p.D p.k p.d p.ys := HP2
  have E : Below w.heap.size w w := Below.refl _ _
  go_enter Tryz.func98, Tryz.ntmps98
  go_wp2_with fail
  exact bodyPost_ret (v := refv false p.A p.n p.c p.D p.k p.d) (by simp [results, Tryz.results98, go_sem]) rfl ⟨⟨false, p.A, p.n, p.c, p.xs, p.D, p.k, p.d, p.ys⟩, rfl, ⟨DRd.more ((HP1.alloc hB _).alloc (by simp; omega) _) (by simp; omega), DRd.more ((HP2.alloc hB _).alloc (by simp; omega) _) (by simp; omega)⟩, ⟨ap, Rp1.out, rfl, Rp2.out⟩, (E.alloc (Nat.le_refl _) _).alloc (by simp) _⟩
set_option maxHeartbeats 4000000 in
theorem qfits_v (w : World) (q : QV) (hn : q.n ≤ 9223372036854775807) (hk : q.k ≤ 9223372036854775807) :
    Calls Tryz.prog 66 #[q.v] w (fun e w' => e = .returned (.bool (decide (q.n ≤ 256) && decide (q.k ≤ 256))) ∧ Below w.heap.size w w') := by
  by_cases h1 : q.n ≤ 256
  · by_cases h2 : q.k ≤ 256
    · have hk2 : decide ((q.k : Int) ≤ 256) = true := decide_eq_true (by omega)
      have E : Below w.heap.size w w := Below.refl _ _
      go_enter Tryz.func66, Tryz.ntmps66
      go_upto_region 1 with fail
      obtain ⟨V0, hV0⟩ : ∃ V0 : World, V0 = (w.alloc (.cells #[.bool q.m, .slice q.A q.n q.c, .slice q.D q.k q.d] 42)) := ⟨_, rfl⟩
      have bV0 : Below w.heap.size w V0 := by rw [hV0]; (repeat (first | with_reducible exact Below.refl _ _ | with_reducible refine Below.alloc ?_ (by first | (simp <;> omega) | omega) _))
      have zV0 : w.heap.size + 1 ≤ V0.heap.size := by rw [hV0]; simp
      have PA : Bk3 V0 (w.heap.size) (.bool q.m) (.slice q.A q.n q.c) (.slice q.D q.k q.d) := by rw [hV0]; exact (Bk3.newAt _ _ (by first | omega | (simp; done) | (simp; omega)) _ _ _ _)
      rw [← hV0]
      clear hV0
      replace E := E.trans (bV0.mono E.size)
      clear bV0
      have t_PA0 := PA.c0
      have t_PA1 := PA.c1
      have t_PA2 := PA.c2
      go_wp2_with fail
      clear t_PA0 t_PA1 t_PA2
      (with_reducible refine (fits_any _ q.m q.A q.n q.c hn).mono ?_)
      rintro e w1 ⟨rfl, hb1⟩
      have sw1 := hb1.size
      replace PA := PA.below hb1 PA.lt
      replace E := E.trans (hb1.mono E.size)
      clear hb1
      rw [show decide (q.n ≤ 256) = true from decide_eq_true h1]
      have t_PA0 := PA.c0
      have t_PA1 := PA.c1
      have t_PA2 := PA.c2
      go_wp2_with fail
      clear t_PA0 t_PA1 t_PA2
      go_ret
      exact ⟨by first | rfl | (simp [h1, h2]; done) | (simp; omega), E⟩
    · have hk2 : decide ((q.k : Int) ≤ 256) = false := decide_eq_false (by omega)
      have E : Below w.heap.size w w := Below.refl _ _
      go_enter Tryz.func66, Tryz.ntmps66
      go_upto_region 1 with fail
      obtain ⟨V0, hV0⟩ : ∃ V0 : World, V0 = (w.alloc (.cells #[.bool q.m, .slice q.A q.n q.c, .slice q.D q.k q.d] 42)) := ⟨_, rfl⟩
      have bV0 : Below w.heap.size w V0 := by rw [hV0]; (repeat (first | with_reducible exact Below.refl _ _ | with_reducible refine Below.alloc ?_ (by first | (simp <;> omega) | omega) _))
      have zV0 : w.heap.size + 1 ≤ V0.heap.size := by rw [hV0]; simp
      have PA : Bk3 V0 (w.heap.size) (.bool q.m) (.slice q.A q.n q.c) (.slice q.D q.k q.d) := by rw [hV0]; exact (Bk3.newAt _ _ (by first | omega | (simp; done) | (simp; omega)) _ _ _ _)
      rw [← hV0]
      clear hV0
      replace E := E.trans (bV0.mono E.size)
      clear bV0
      have t_PA0 := PA.c0
      have t_PA1 := PA.c1
      have t_PA2 := PA.c2
      go_wp2_with fail
      clear t_PA0 t_PA1 t_PA2
      (with_reducible refine (fits_any _ q.m q.A q.n q.c hn).mono ?_)
      rintro e w1 ⟨rfl, hb1⟩
      have sw1 := hb1.size
      replace PA := PA.below hb1 PA.lt
      replace E := E.trans (hb1.mono E.size)
      clear hb1
      rw [show decide (q.n ≤ 256) = true from decide_eq_true h1]
      have t_PA0 := PA.c0
      have t_PA1 := PA.c1
      have t_PA2 := PA.c2
      go_wp2_with fail
      clear t_PA0 t_PA1 t_PA2
      go_ret
      exact ⟨by first | rfl | (simp [h1, h2]; done) | (simp; omega), E⟩
  · have h2 : True := trivial
    have E : Below w.heap.size w w := Below.refl _ _
    go_enter Tryz.func66, Tryz.ntmps66
    go_upto_region 1 with fail
    obtain ⟨V0, hV0⟩ : ∃ V0 : World, V0 = (w.alloc (.cells #[.bool q.m, .slice q.A q.n q.c, .slice q.D q.k q.d] 42)) := ⟨_, rfl⟩
    have bV0 : Below w.heap.size w V0 := by rw [hV0]; (repeat (first | with_reducible exact Below.refl _ _ | with_reducible refine Below.alloc ?_ (by first | (simp <;> omega) | omega) _))
    have zV0 : w.heap.size + 1 ≤ V0.heap.size := by rw [hV0]; simp
    have PA : Bk3 V0 (w.heap.size) (.bool q.m) (.slice q.A q.n q.c) (.slice q.D q.k q.d) := by rw [hV0]; exact (Bk3.newAt _ _ (by first | omega | (simp; done) | (simp; omega)) _ _ _ _)
    rw [← hV0]
    clear hV0
    replace E := E.trans (bV0.mono E.size)
    clear bV0
    have t_PA0 := PA.c0
    have t_PA1 := PA.c1
    have t_PA2 := PA.c2
    go_wp2_with fail
    clear t_PA0 t_PA1 t_PA2
    (with_reducible refine (fits_any _ q.m q.A q.n q.c hn).mono ?_)
    rintro e w1 ⟨rfl, hb1⟩
    have sw1 := hb1.size
    replace PA := PA.below hb1 PA.lt
    replace E := E.trans (hb1.mono E.size)
    clear hb1
    rw [show decide (q.n ≤ 256) = false from decide_eq_false h1]
    have t_PA0 := PA.c0
    have t_PA1 := PA.c1
    have t_PA2 := PA.c2
    go_wp2_with fail
    clear t_PA0 t_PA1 t_PA2
    go_ret
    exact ⟨by first | rfl | (simp [h1, h2]; done) | (simp; omega), E⟩
end Go.Proofs.YtfgkhdpdjclmkaaGreat
