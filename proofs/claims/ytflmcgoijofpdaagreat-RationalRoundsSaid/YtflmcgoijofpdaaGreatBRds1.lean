/- RationalRounds: the law. -/
import Derived.Test.YtflmcgoijofpdaaGreatBRnd
import Derived.Test.YtflmcgoijofpdaaGreatBMk2
import Derived.Test.YtflmcgoijofpdaaGreatBQ4
import Derived.Deep.DeepCutAuto
import Derived.Deep.CutBlock
import Derived.Deep.QuietTactic
import Derived.BigQuiet
namespace Go.Proofs.YtflmcgoijofpdaaGreat
open Go.RowKit
set_option maxHeartbeats 400000
set_option maxRecDepth 100000
set_option linter.unusedSimpArgs false
set_option linter.unusedVariables false

theorem nq3 {w w' : World} {u v x : Value} {t : TypeId} (h : Below (w.alloc (.cells #[u, v, x] t)).heap.size (w.alloc (.cells #[u, v, x] t)) w') : Bk3 w' w.heap.size u v x := (Bk3.newAt w w.heap.size rfl _ _ _ _).below h (by simp)
theorem nq3d {w w' : World} {u v x : Value} {t : TypeId} (h : Below (w.drew.alloc (.cells #[u, v, x] t)).heap.size (w.drew.alloc (.cells #[u, v, x] t)) w') : Bk3 w' w.heap.size u v x := (Bk3.newAt w.drew w.heap.size rfl _ _ _ _).below h (by simp)
/-- What is left of a ratio, in a block of its own. -/
def LfR (V : World) (r : Int) (d : Nat) (s : Value) (wx : World) : Prop :=
  ∃ (g : Nat) (q : QV), s = .pointer (some ⟨g, 0, none⟩) ∧ Bk3 wx g (.bool q.m) (.slice q.A q.n q.c) (.slice q.D q.k q.d) ∧ q.at wx wx.heap.size ∧ Hid (q.is r d) ∧ V.heap.size ≤ g ∧ Below V.heap.size V wx
section
variable {V u : World} {q : QV} {r : Int} {d g : Nat} (H : q.at u u.heap.size) (I : Hid (q.is r d)) (b : Below V.heap.size V u)
include H I b
theorem lf_a : LfR V r d (.pointer (some ⟨u.heap.size, 0, none⟩)) (u.alloc (.cells #[.bool q.m, .slice q.A q.n q.c, .slice q.D q.k q.d] 42)) :=
  ⟨_, q, rfl, Bk3.newAt _ _ rfl _ _ _ _, QV.at.alloc H _, I, b.size, b.alloc b.size _⟩
theorem lf_o (G : Bk3 u g (.bool false) (.slice none 0 0) (.slice none 0 0)) (hg : V.heap.size ≤ g) : LfR V r d (.pointer (some ⟨g, 0, none⟩)) (((u.setCell ⟨g, 0, none⟩ (.bool q.m)).setCell ⟨g, 1, none⟩ (.slice q.A q.n q.c)).setCell ⟨g, 2, none⟩ (.slice q.D q.k q.d)) :=
  ⟨_, q, rfl, G.put _ _ _, QV.at.set3 H G _ _ _, I, hg, ((b.setCell (p := ⟨g, 0, none⟩) hg _).setCell (p := ⟨g, 1, none⟩) hg _).setCell (p := ⟨g, 2, none⟩) hg _⟩
end
theorem fl_abs {n d q r : Int} (h : FloorOf n d q r) (hd : 0 < d) : q.natAbs ≤ n.natAbs := by
  obtain ⟨h1, h2⟩ := h
  by_cases hq : 0 ≤ q
  · have h5 : q * 1 ≤ q * d := Int.mul_le_mul_of_nonneg_left (by omega) hq
    omega
  · have h6 : (-q - 1) * 1 ≤ (-q - 1) * d := Int.mul_le_mul_of_nonneg_left (by omega) (by omega)
    have h7 : (-q - 1) * d = -(q * d) - d := by grind
    rw [h7] at h6
    omega
theorem fl_rest {n d q r : Int} (h : FloorOf n d q r) (hd : 0 < d) (hg : Nat.gcd n.natAbs d.natAbs = 1) : 0 ≤ r ∧ r < d ∧ Nat.gcd r.natAbs d.natAbs = 1 ∧ q = n / d ∧ r = n % d := by
  obtain ⟨h1, h2⟩ := h
  have h3 : 0 ≤ r ∧ r < d := by omega
  have e1 : q = n / d := by rw [h1, Int.add_comm, Int.add_mul_ediv_right _ _ (by omega), Int.ediv_eq_zero_of_lt h3.1 h3.2]; omega
  have e2 : r = n % d := by rw [h1, Int.add_comm, Int.add_mul_emod_self_right, Int.emod_eq_of_lt h3.1 h3.2]
  refine ⟨h3.1, h3.2, ?_, e1, e2⟩
  apply Nat.eq_one_of_dvd_one
  rw [← hg]
  have d1 : (Nat.gcd r.natAbs d.natAbs) ∣ d.natAbs := Nat.gcd_dvd_right _ _
  have d2 : (Nat.gcd r.natAbs d.natAbs) ∣ r.natAbs := Nat.gcd_dvd_left _ _
  refine Nat.dvd_gcd ?_ d1
  have d3 : ((Nat.gcd r.natAbs d.natAbs : Nat) : Int) ∣ d := Int.ofNat_dvd_left.2 d1
  have d4 : ((Nat.gcd r.natAbs d.natAbs : Nat) : Int) ∣ r := Int.ofNat_dvd_left.2 d2
  exact Int.ofNat_dvd_left.1 (by rw [h1]; exact Int.dvd_add (Int.dvd_mul_of_dvd_right d3) d4)
theorem left_is {n d q r : Int} {p2 : Nat} {y1 : Int} {y2 : Nat} {x z : Int} (h : LowOf (x * ((1 : Nat) : Int) - z * (p2 : Int)) (p2 * 1) y1 y2) (hx : x = n) (hz : z = q) (hp : ((p2 : Nat) : Int) = d) (hf : FloorOf n d q r) (hd : 0 < d) (hg : Nat.gcd n.natAbs d.natAbs = 1) : y1 = r ∧ y2 = p2 := by
  obtain ⟨l1, l2, l3, _, _⟩ := h
  obtain ⟨k1, k2, k3, _, _⟩ := fl_rest hf hd hg
  subst hx hz hp
  have e : x * ((1 : Nat) : Int) - z * (p2 : Int) = r := by have := hf.1; simp; omega
  rw [e, Nat.mul_one] at l1
  have hh := low_uniq (n := y1) (d := (y2 : Int)) (n' := r) (d' := (p2 : Int)) (by rw [l1]) (by omega) hd (by simpa using l3) k3
  exact ⟨hh.1, by omega⟩
/-- The terms, or that there are too many. -/
def TmU (n0 d0 : Int) (w : World) (e : Ending) (w' : World) : Prop :=
  ∃ (A : Option Addr) (j c : Nat) (ts : List IV) (us zs : List Int) (N D h1 h2 : Int), e = .returned (.tuple #[.slice A j c, flt h1 h2]) ∧ TRd w' A j c ts ∧ Trs w' ts us ∧ Chain zs n0 d0 N D ∧ ((h1 = 0 ∧ h2 = 0 ∧ us = zs ∧ D = 0 ∧ j ≤ 400) ∨ (h1 = 2 ∧ h2 = -1 ∧ j = 0 ∧ zs.length = 401)) ∧ Below w.heap.size w w'
theorem terms_u (w : World) (B : Nat) (a : RV) (H1 : a.at w B) (hB : B ≤ w.heap.size) (oa : a.ok = true) (n0 d0 : Int) (IX : Hid (IRep a.num.neg a.num.xs n0)) (IY : Hid (IRep a.den.neg a.den.xs d0)) (hd0 : 1 ≤ d0) (HBD : Hid (n0.natAbs < Top128 ∧ d0.natAbs < Top128)) :
    Calls Tryz.prog 35 #[a.v] w (TmU n0 d0 w) :=
  (terms_all w B a H1 hB oa n0 d0 IX IY hd0 HBD).mono fun _ _ h => by
    rcases h with ⟨A, j, c, ts, zs, n, he, h1, h2, h3, h4, h5⟩ | ⟨he, ⟨zs, n, d, h1, h2⟩, h5⟩
    · exact ⟨A, j, c, ts, zs, zs, n, 0, 0, 0, he, h1, h2, h3, .inl ⟨rfl, rfl, rfl, rfl, h4⟩, h5⟩
    · exact ⟨none, 0, 0, [], [], zs, n, d, 2, -1, he, ⟨Nat.le_refl _, by omega, Lib.hid rfl, fun h => absurd h (by omega)⟩, Trs.nil _, h2, .inr ⟨rfl, rfl, rfl, h1⟩, h5⟩
theorem chain_at {zs : List Int} {n d N D : Int} {k : Nat} (h : Chain (zs.drop k) n d N D) (hk : k < zs.length) : 0 < d ∧ zs[k] = n / d ∧ Chain (zs.drop (k + 1)) d (n % d) N D := by
  rw [List.drop_eq_getElem_cons hk] at h
  exact h
theorem chain_end {zs : List Int} {n d N : Int} {k : Nat} (h : Chain (zs.drop k) n d N 0) (hd : d ≠ 0) : k < zs.length := by
  rcases Nat.lt_or_ge k zs.length with e | e
  · exact e
  · rw [List.drop_eq_nil_of_le e] at h
    exact absurd h.2 hd
theorem chain_zero {zs : List Int} {n N D : Int} {k : Nat} (h : Chain (zs.drop k) n 0 N D) : zs.length ≤ k := by
  rcases Nat.lt_or_ge k zs.length with e | e
  · exact absurd (chain_at h e).1 (by omega)
  · exact e
/-- The state of the reference's loop. -/
def RoRel (V : World) (g1 g2 g3 : Nat) (zs : List Int) (N D : Int) (i : Value) (wr : World) : Prop :=
  ∃ (k : Nat) (n d : Int) (p f : QV) (m : Bool) (A : Option Addr) (a c v1 : Nat), i = .int .i64 ((k : Nat) : Int) ∧ k < zs.length ∧ k ≤ 400 ∧ Bk3 wr g1 (.bool p.m) (.slice p.A p.n p.c) (.slice p.D p.k p.d) ∧ Bk2 wr g2 (.bool m) (.slice A a c) ∧ Bk3 wr g3 (.bool f.m) (.slice f.A f.n f.c) (.slice f.D f.k f.d) ∧ p.at wr wr.heap.size ∧ Hid (Rep 65536 p.xs v1) ∧ Hid (sval p.m v1 = n) ∧ Hid (Rep 65536 p.ys d.natAbs) ∧ Hid (Chain (zs.drop k) n d N D) ∧ Hid (0 < d ∧ Nat.gcd n.natAbs d.natAbs = 1 ∧ n.natAbs < Top128 ∧ d.natAbs < Top128) ∧ Below g1 V wr
theorem iz_form {a : IV} {w : World} {B : Nat} (h : IRep a.neg a.xs 0) (H : a.at w B) : a.neg = false ∧ a.n = 0 := by
  have h1 := (IRep.len0 h).2 rfl
  have h2 : a.xs.length = a.n := H.len.out
  exact ⟨h.sgn, by omega⟩
set_option maxHeartbeats 40000000 in
theorem rounds_bad (w : World) (x : RV) (f2 : Int) (HX : x.at w w.heap.size) (hf : rfault [x] 0 = (6, f2)) :
    Calls Tryz.prog 5 #[x.v] w (fun e w' => e = .returned (.bool true) ∧ Below w.heap.size w w') := by
  have Hx1 : LRd w w.heap.size x.num.A x.num.n x.num.c x.num.xs := HX.1
  have Hx2 : LRd w w.heap.size x.den.A x.den.n x.den.c x.den.xs := HX.2
  have E : Below w.heap.size w w := Below.refl _ _
  go_enter Tryz.func5, Tryz.ntmps5
  go_upto_region 1 with fail
  obtain ⟨V0, hV0⟩ : ∃ V0 : World, V0 = (w.alloc (.cells #[.bool x.num.neg, .slice x.num.A x.num.n x.num.c, .bool x.den.neg, .slice x.den.A x.den.n x.den.c] 26)) := ⟨_, rfl⟩
  have bV0 : Below w.heap.size w V0 := by rw [hV0]; (repeat (first | with_reducible exact Below.refl _ _ | with_reducible refine Below.drew ?_ | with_reducible refine below_drewN ?_ _ | with_reducible refine Below.setCell ?_ (by first | (simp; done) | (simp; omega) | omega) _ | with_reducible refine Below.alloc ?_ (by first | (simp; done) | (simp; omega) | omega) _))
  have zV0 : w.heap.size + 1 ≤ V0.heap.size := by rw [hV0]; simp
  have PA : Bk4 V0 (w.heap.size) (.bool x.num.neg) (.slice x.num.A x.num.n x.num.c) (.bool x.den.neg) (.slice x.den.A x.den.n x.den.c) := by rw [hV0]; exact (Bk4.newAt _ _ (by first | omega | (simp; done) | (simp; omega)) _ _ _ _ _)
  rw [← hV0]
  clear hV0
  replace E := E.trans (bV0.mono E.size)
  replace Hx1 := Hx1.below bV0 (by omega)
  replace Hx2 := Hx2.below bV0 (by omega)
  clear bV0
  have t_PA0 := PA.c0
  have t_PA1 := PA.c1
  have t_PA2 := PA.c2
  have t_PA3 := PA.c3
  go_wp2_with fail
  clear t_PA0 t_PA1 t_PA2 t_PA3
  (with_reducible refine (rfloor_bad _ w.heap.size x (rv_at Hx1 Hx2) (by omega) f2 hf).mono ?_)
  rintro e w1 ⟨t, y, rfl, ht, hy, i1, i2, i3, hb1⟩
  have sw1 := hb1.size
  replace E := E.trans (hb1.mono E.size)
  replace Hx1 := Hx1.below hb1 (by omega)
  replace Hx2 := Hx2.below hb1 (by omega)
  replace PA := PA.below hb1 PA.lt
  clear hb1
  obtain ⟨n1, n2⟩ := iz_form i1 ht
  obtain ⟨n3, n4, n5, n6⟩ := Zr.form ⟨i2, i3⟩ hy
  clear ht hy i1 i2 i3
  obtain ⟨tm, tA, tn, tc, txs⟩ := t
  obtain ⟨⟨ym, yA, yn, yc, yxs⟩, ⟨zm, zA, zn, zc, zxs⟩⟩ := y
  obtain rfl : tm = false := n1
  obtain rfl : tn = 0 := n2
  obtain rfl : ym = false := n3
  obtain rfl : yn = 0 := n4
  obtain rfl : zm = false := n5
  obtain rfl : zn = 0 := n6
  have t_PA0 : (((w1.alloc (.cells #[.bool false, .slice tA 0 tc] 24)).alloc (.cells #[.bool false, .slice yA 0 yc, .bool false, .slice zA 0 zc] 26)).alloc (.cells #[.int .i64 6, .int .i64 f2] 28)).cell? ⟨w.heap.size, 0, none⟩ = some ((.bool x.num.neg)) := (((PA.alloc _).alloc _).alloc _).c0
  have t_PA1 : (((w1.alloc (.cells #[.bool false, .slice tA 0 tc] 24)).alloc (.cells #[.bool false, .slice yA 0 yc, .bool false, .slice zA 0 zc] 26)).alloc (.cells #[.int .i64 6, .int .i64 f2] 28)).cell? ⟨w.heap.size, 1, none⟩ = some ((.slice x.num.A x.num.n x.num.c)) := (((PA.alloc _).alloc _).alloc _).c1
  have t_PA2 : (((w1.alloc (.cells #[.bool false, .slice tA 0 tc] 24)).alloc (.cells #[.bool false, .slice yA 0 yc, .bool false, .slice zA 0 zc] 26)).alloc (.cells #[.int .i64 6, .int .i64 f2] 28)).cell? ⟨w.heap.size, 2, none⟩ = some ((.bool x.den.neg)) := (((PA.alloc _).alloc _).alloc _).c2
  have t_PA3 : (((w1.alloc (.cells #[.bool false, .slice tA 0 tc] 24)).alloc (.cells #[.bool false, .slice yA 0 yc, .bool false, .slice zA 0 zc] 26)).alloc (.cells #[.int .i64 6, .int .i64 f2] 28)).cell? ⟨w.heap.size, 3, none⟩ = some ((.slice x.den.A x.den.n x.den.c)) := (((PA.alloc _).alloc _).alloc _).c3
  go_wp2_with fail
  clear t_PA0 t_PA1 t_PA2 t_PA3
  obtain ⟨V2, hV2⟩ : ∃ V2 : World, V2 = (((w1.alloc (.cells #[.bool false, .slice tA 0 tc] 24)).alloc (.cells #[.bool false, .slice yA 0 yc, .bool false, .slice zA 0 zc] 26)).alloc (.cells #[.int .i64 6, .int .i64 f2] 28)) := ⟨_, rfl⟩
  have bV2 : Below w1.heap.size w1 V2 := by rw [hV2]; (repeat (first | with_reducible exact Below.refl _ _ | with_reducible refine Below.drew ?_ | with_reducible refine below_drewN ?_ _ | with_reducible refine Below.setCell ?_ (by first | (simp; done) | (simp; omega) | omega) _ | with_reducible refine Below.alloc ?_ (by first | (simp; done) | (simp; omega) | omega) _))
  have zV2 : w1.heap.size + 3 ≤ V2.heap.size := by rw [hV2]; simp
  have P3 : Bk2 V2 (w1.heap.size) (.bool false) (.slice tA 0 tc) := by rw [hV2]; exact (((Bk2.newAt _ _ (by first | omega | (simp; done) | (simp; omega)) _ _ _).alloc _).alloc _)
  have P4 : Bk4 V2 (w1.heap.size + 1) (.bool false) (.slice yA 0 yc) (.bool false) (.slice zA 0 zc) := by rw [hV2]; exact ((Bk4.newAt _ _ (by first | omega | (simp; done) | (simp; omega)) _ _ _ _ _).alloc _)
  have F5 : Bk2 V2 (w1.heap.size + 2) (.int .i64 6) (.int .i64 f2) := by rw [hV2]; exact (Bk2.newAt _ _ (by first | omega | (simp; done) | (simp; omega)) _ _ _)
  rw [← hV2]
  clear hV2
  replace E := E.trans (bV2.mono E.size)
  replace Hx1 := Hx1.below bV2 (by omega)
  replace Hx2 := Hx2.below bV2 (by omega)
  replace PA := PA.below bV2 PA.lt
  clear bV2
  (with_reducible refine (rround_bad _ w.heap.size x (rv_at Hx1 Hx2) (by omega) f2 hf).mono ?_)
  rintro e w2 ⟨m6, A6, k6, c6, x6, rfl, hl6, hr6, hb2⟩
  have sw2 := hb2.size
  replace E := E.trans (hb2.mono E.size)
  replace Hx1 := Hx1.below hb2 (by omega)
  replace Hx2 := Hx2.below hb2 (by omega)
  replace PA := PA.below hb2 PA.lt
  replace P3 := P3.below hb2 P3.lt
  replace P4 := P4.below hb2 P4.lt
  replace F5 := F5.below hb2 F5.lt
  clear hb2
  obtain ⟨n1, n2⟩ := iz_form (a := IV.mk m6 A6 k6 c6 x6) hr6 hl6
  clear hr6 hl6
  obtain rfl : m6 = false := n1
  obtain rfl : k6 = 0 := n2
  have t_PA0 : ((w2.alloc (.cells #[.bool false, .slice A6 0 c6] 24)).alloc (.cells #[.int .i64 6, .int .i64 f2] 28)).cell? ⟨w.heap.size, 0, none⟩ = some ((.bool x.num.neg)) := ((PA.alloc _).alloc _).c0
  have t_PA1 : ((w2.alloc (.cells #[.bool false, .slice A6 0 c6] 24)).alloc (.cells #[.int .i64 6, .int .i64 f2] 28)).cell? ⟨w.heap.size, 1, none⟩ = some ((.slice x.num.A x.num.n x.num.c)) := ((PA.alloc _).alloc _).c1
  have t_PA2 : ((w2.alloc (.cells #[.bool false, .slice A6 0 c6] 24)).alloc (.cells #[.int .i64 6, .int .i64 f2] 28)).cell? ⟨w.heap.size, 2, none⟩ = some ((.bool x.den.neg)) := ((PA.alloc _).alloc _).c2
  have t_PA3 : ((w2.alloc (.cells #[.bool false, .slice A6 0 c6] 24)).alloc (.cells #[.int .i64 6, .int .i64 f2] 28)).cell? ⟨w.heap.size, 3, none⟩ = some ((.slice x.den.A x.den.n x.den.c)) := ((PA.alloc _).alloc _).c3
  go_wp2_with fail
  clear t_PA0 t_PA1 t_PA2 t_PA3
  obtain ⟨V3, hV3⟩ : ∃ V3 : World, V3 = ((w2.alloc (.cells #[.bool false, .slice A6 0 c6] 24)).alloc (.cells #[.int .i64 6, .int .i64 f2] 28)) := ⟨_, rfl⟩
  have bV3 : Below w2.heap.size w2 V3 := by rw [hV3]; (repeat (first | with_reducible exact Below.refl _ _ | with_reducible refine Below.drew ?_ | with_reducible refine below_drewN ?_ _ | with_reducible refine Below.setCell ?_ (by first | (simp; done) | (simp; omega) | omega) _ | with_reducible refine Below.alloc ?_ (by first | (simp; done) | (simp; omega) | omega) _))
  have zV3 : w2.heap.size + 2 ≤ V3.heap.size := by rw [hV3]; simp
  have P6 : Bk2 V3 (w2.heap.size) (.bool false) (.slice A6 0 c6) := by rw [hV3]; exact ((Bk2.newAt _ _ (by first | omega | (simp; done) | (simp; omega)) _ _ _).alloc _)
  have F7 : Bk2 V3 (w2.heap.size + 1) (.int .i64 6) (.int .i64 f2) := by rw [hV3]; exact (Bk2.newAt _ _ (by first | omega | (simp; done) | (simp; omega)) _ _ _)
  rw [← hV3]
  clear hV3
  replace E := E.trans (bV3.mono E.size)
  replace Hx1 := Hx1.below bV3 (by omega)
  replace Hx2 := Hx2.below bV3 (by omega)
  replace PA := PA.below bV3 PA.lt
  replace P3 := P3.below bV3 P3.lt
  replace P4 := P4.below bV3 P4.lt
  replace F5 := F5.below bV3 F5.lt
  clear bV3
  (with_reducible refine (terms_bad _ w.heap.size x (rv_at Hx1 Hx2) (by omega) f2 hf).mono ?_)
  rintro e w3 ⟨rfl, hb3⟩
  have sw3 := hb3.size
  replace E := E.trans (hb3.mono E.size)
  replace Hx1 := Hx1.below hb3 (by omega)
  replace Hx2 := Hx2.below hb3 (by omega)
  replace PA := PA.below hb3 PA.lt
  replace P3 := P3.below hb3 P3.lt
  replace P4 := P4.below hb3 P4.lt
  replace F5 := F5.below hb3 F5.lt
  replace P6 := P6.below hb3 P6.lt
  replace F7 := F7.below hb3 F7.lt
  clear hb3
  go_wp2_with fail
  obtain ⟨V4, hV4⟩ : ∃ V4 : World, V4 = (w3.alloc (.cells #[.int .i64 6, .int .i64 f2] 28)) := ⟨_, rfl⟩
  have bV4 : Below w3.heap.size w3 V4 := by rw [hV4]; (repeat (first | with_reducible exact Below.refl _ _ | with_reducible refine Below.drew ?_ | with_reducible refine below_drewN ?_ _ | with_reducible refine Below.setCell ?_ (by first | (simp; done) | (simp; omega) | omega) _ | with_reducible refine Below.alloc ?_ (by first | (simp; done) | (simp; omega) | omega) _))
  have zV4 : w3.heap.size + 1 ≤ V4.heap.size := by rw [hV4]; simp
  have F9 : Bk2 V4 (w3.heap.size) (.int .i64 6) (.int .i64 f2) := by rw [hV4]; exact (Bk2.newAt _ _ (by first | omega | (simp; done) | (simp; omega)) _ _ _)
  rw [← hV4]
  clear hV4
  replace E := E.trans (bV4.mono E.size)
  replace Hx1 := Hx1.below bV4 (by omega)
  replace Hx2 := Hx2.below bV4 (by omega)
  replace PA := PA.below bV4 PA.lt
  replace P3 := P3.below bV4 P3.lt
  replace P4 := P4.below bV4 P4.lt
  replace F5 := F5.below bV4 F5.lt
  replace P6 := P6.below bV4 P6.lt
  replace F7 := F7.below bV4 F7.lt
  clear bV4
  (with_reducible refine (parts_any _).mono ?_)
  rintro e w4 ⟨rfl, hb4⟩
  have sw4 := hb4.size
  replace E := E.trans (hb4.mono E.size)
  replace Hx1 := Hx1.below hb4 (by omega)
  replace Hx2 := Hx2.below hb4 (by omega)
  replace PA := PA.below hb4 PA.lt
  replace P3 := P3.below hb4 P3.lt
  replace P4 := P4.below hb4 P4.lt
  replace F5 := F5.below hb4 F5.lt
  replace P6 := P6.below hb4 P6.lt
  replace F7 := F7.below hb4 F7.lt
  replace F9 := F9.below hb4 F9.lt
  clear hb4
  have RR := Lib.hid (rrow1 w4 w.heap.size x (rv_at Hx1 Hx2) (by omega))
  have p_PA0 := PA.c0
  have p_PA1 := PA.c1
  have p_PA2 := PA.c2
  have p_PA3 := PA.c3
  go_wp2_with fail
  clear p_PA0 p_PA1 p_PA2 p_PA3
  obtain ⟨V5, hV5⟩ : ∃ V5 : World, V5 = (w4.alloc (.cells #[.bool x.num.neg, .slice x.num.A x.num.n x.num.c, .bool x.den.neg, .slice x.den.A x.den.n x.den.c] 26)) := ⟨_, rfl⟩
  have bV5 : Below w4.heap.size w4 V5 := by rw [hV5]; (repeat (first | with_reducible exact Below.refl _ _ | with_reducible refine Below.drew ?_ | with_reducible refine below_drewN ?_ _ | with_reducible refine Below.setCell ?_ (by first | (simp; done) | (simp; omega) | omega) _ | with_reducible refine Below.alloc ?_ (by first | (simp; done) | (simp; omega) | omega) _))
  have zV5 : w4.heap.size + 1 ≤ V5.heap.size := by rw [hV5]; simp
  replace RR : Hid (RRow V5 w.heap.size w4.heap.size [x]) := by rw [hV5]; exact RR
  rw [← hV5]
  clear hV5
  replace E := E.trans (bV5.mono E.size)
  replace Hx1 := Hx1.below bV5 (by omega)
  replace Hx2 := Hx2.below bV5 (by omega)
  replace PA := PA.below bV5 PA.lt
  replace P3 := P3.below bV5 P3.lt
  replace P4 := P4.below bV5 P4.lt
  replace F5 := F5.below bV5 F5.lt
  replace P6 := P6.below bV5 P6.lt
  replace F7 := F7.below bV5 F7.lt
  replace F9 := F9.below bV5 F9.lt
  clear bV5
  (with_reducible refine (ratioFaults_any _ w.heap.size w4.heap.size 1 [x] RR.out rfl (by omega) (by omega)).mono ?_)
  rintro e w5 ⟨rfl, hb5⟩
  have sw5 := hb5.size
  replace E := E.trans (hb5.mono E.size)
  replace Hx1 := Hx1.below hb5 (by omega)
  replace Hx2 := Hx2.below hb5 (by omega)
  replace PA := PA.below hb5 PA.lt
  replace P3 := P3.below hb5 P3.lt
  replace P4 := P4.below hb5 P4.lt
  replace F5 := F5.below hb5 F5.lt
  replace P6 := P6.below hb5 P6.lt
  replace F7 := F7.below hb5 F7.lt
  replace F9 := F9.below hb5 F9.lt
  clear hb5
  rw [hf]
  clear RR
  have t_F50 : (w5.alloc (.cells #[.int .i64 6, .int .i64 f2] 28)).cell? ⟨w1.heap.size + 2, 0, none⟩ = some ((.int .i64 6)) := (F5.alloc _).c0
  have t_F51 : (w5.alloc (.cells #[.int .i64 6, .int .i64 f2] 28)).cell? ⟨w1.heap.size + 2, 1, none⟩ = some ((.int .i64 f2)) := (F5.alloc _).c1
  have t_F70 : (w5.alloc (.cells #[.int .i64 6, .int .i64 f2] 28)).cell? ⟨w2.heap.size + 1, 0, none⟩ = some ((.int .i64 6)) := (F7.alloc _).c0
  have t_F71 : (w5.alloc (.cells #[.int .i64 6, .int .i64 f2] 28)).cell? ⟨w2.heap.size + 1, 1, none⟩ = some ((.int .i64 f2)) := (F7.alloc _).c1
  have t_F90 : (w5.alloc (.cells #[.int .i64 6, .int .i64 f2] 28)).cell? ⟨w3.heap.size, 0, none⟩ = some ((.int .i64 6)) := (F9.alloc _).c0
  have t_F91 : (w5.alloc (.cells #[.int .i64 6, .int .i64 f2] 28)).cell? ⟨w3.heap.size, 1, none⟩ = some ((.int .i64 f2)) := (F9.alloc _).c1
  have t_P30 : (w5.alloc (.cells #[.int .i64 6, .int .i64 f2] 28)).cell? ⟨w1.heap.size, 0, none⟩ = some ((.bool false)) := (P3.alloc _).c0
  have t_P31 : (w5.alloc (.cells #[.int .i64 6, .int .i64 f2] 28)).cell? ⟨w1.heap.size, 1, none⟩ = some ((.slice tA 0 tc)) := (P3.alloc _).c1
  go_wp2_with fail
  clear t_F50 t_F51 t_F70 t_F71 t_F90 t_F91 t_P30 t_P31
  obtain ⟨V6, hV6⟩ : ∃ V6 : World, V6 = (w5.alloc (.cells #[.int .i64 6, .int .i64 f2] 28)) := ⟨_, rfl⟩
  have bV6 : Below w5.heap.size w5 V6 := by rw [hV6]; (repeat (first | with_reducible exact Below.refl _ _ | with_reducible refine Below.drew ?_ | with_reducible refine below_drewN ?_ _ | with_reducible refine Below.setCell ?_ (by first | (simp; done) | (simp; omega) | omega) _ | with_reducible refine Below.alloc ?_ (by first | (simp; done) | (simp; omega) | omega) _))
  have zV6 : w5.heap.size + 1 ≤ V6.heap.size := by rw [hV6]; simp
  have F10 : Bk2 V6 (w5.heap.size) (.int .i64 6) (.int .i64 f2) := by rw [hV6]; exact (Bk2.newAt _ _ (by first | omega | (simp; done) | (simp; omega)) _ _ _)
  rw [← hV6]
  clear hV6
  replace E := E.trans (bV6.mono E.size)
  replace Hx1 := Hx1.below bV6 (by omega)
  replace Hx2 := Hx2.below bV6 (by omega)
  replace PA := PA.below bV6 PA.lt
  replace P3 := P3.below bV6 P3.lt
  replace P4 := P4.below bV6 P4.lt
  replace F5 := F5.below bV6 F5.lt
  replace P6 := P6.below bV6 P6.lt
  replace F7 := F7.below bV6 F7.lt
  replace F9 := F9.below bV6 F9.lt
  clear bV6
  (with_reducible refine (noInt_any _ false tA 0 tc (by omega)).mono ?_)
  rintro e w6 ⟨rfl, hb6⟩
  have sw6 := hb6.size
  replace E := E.trans (hb6.mono E.size)
  replace Hx1 := Hx1.below hb6 (by omega)
  replace Hx2 := Hx2.below hb6 (by omega)
  replace PA := PA.below hb6 PA.lt
  replace P3 := P3.below hb6 P3.lt
  replace P4 := P4.below hb6 P4.lt
  replace F5 := F5.below hb6 F5.lt
  replace P6 := P6.below hb6 P6.lt
  replace F7 := F7.below hb6 F7.lt
  replace F9 := F9.below hb6 F9.lt
  replace F10 := F10.below hb6 F10.lt
  clear hb6
  rw [show (!false && decide ((0 : Nat) = 0)) = true from rfl]
  have t_P40 := P4.c0
  have t_P41 := P4.c1
  have t_P42 := P4.c2
  have t_P43 := P4.c3
  go_wp2_with fail
  clear t_P40 t_P41 t_P42 t_P43
  (with_reducible refine (noRatio_zero _ yA zA yc zc).mono ?_)
  rintro e w7 ⟨rfl, hb7⟩
  have sw7 := hb7.size
  replace E := E.trans (hb7.mono E.size)
  replace Hx1 := Hx1.below hb7 (by omega)
  replace Hx2 := Hx2.below hb7 (by omega)
  replace PA := PA.below hb7 PA.lt
  replace P3 := P3.below hb7 P3.lt
  replace P4 := P4.below hb7 P4.lt
  replace F5 := F5.below hb7 F5.lt
  replace P6 := P6.below hb7 P6.lt
  replace F7 := F7.below hb7 F7.lt
  replace F9 := F9.below hb7 F9.lt
  replace F10 := F10.below hb7 F10.lt
  clear hb7
  have t_P60 := P6.c0
  have t_P61 := P6.c1
  go_wp2_with fail
  clear t_P60 t_P61
  (with_reducible refine (noInt_any _ false A6 0 c6 (by omega)).mono ?_)
  rintro e w8 ⟨rfl, hb8⟩
  have sw8 := hb8.size
  replace E := E.trans (hb8.mono E.size)
  replace Hx1 := Hx1.below hb8 (by omega)
  replace Hx2 := Hx2.below hb8 (by omega)
  replace PA := PA.below hb8 PA.lt
  replace P3 := P3.below hb8 P3.lt
  replace P4 := P4.below hb8 P4.lt
  replace F5 := F5.below hb8 F5.lt
  replace P6 := P6.below hb8 P6.lt
  replace F7 := F7.below hb8 F7.lt
  replace F9 := F9.below hb8 F9.lt
  replace F10 := F10.below hb8 F10.lt
  clear hb8
  rw [show (!false && decide ((0 : Nat) = 0)) = true from rfl]
  go_wp2_with fail
  go_ret
  exact ⟨rfl, E⟩
end Go.Proofs.YtflmcgoijofpdaaGreat
