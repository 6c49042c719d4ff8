/- RationalRounds: valid arguments. -/
import Derived.Test.YtflmcgoijofpdaaGreatBRds1
namespace Go.Proofs.YtflmcgoijofpdaaGreat
open Go.RowKit
set_option maxHeartbeats 400000
set_option maxRecDepth 100000
set_option linter.unusedSimpArgs false
set_option linter.unusedVariables false

theorem Bk3.far2 {w : World} {g k : Nat} {u v x : Value} (h : Bk3 w g u v x) (hk : k ≠ g) (a b : Value) : Bk3 ((w.setCell ⟨k, 0, none⟩ a).setCell ⟨k, 1, none⟩ b) g u v x := by
  obtain ⟨h0, h1, h2, z0, z1, z2, lt⟩ := h
  have hk' : ¬ g = k := fun h => hk h.symm
  constructor <;> simp [go_sem, h0, h1, h2, z0, z1, z2, lt, hk, hk']
def HfR (V : World) (r d : Int) (s : Value) (wx : World) : Prop := ∃ o : Int, s = .int .i64 o ∧ Hid ((o = -1 ∧ 2 * r < d) ∨ (o = 0 ∧ 2 * r = d) ∨ (o = 1 ∧ d < 2 * r)) ∧ Below V.heap.size V wx
def NrR (V : World) (g : Nat) (z : Int) (wx : World) : Prop := ∃ (m : Bool) (A : Option Addr) (k c : Nat) (xs : List Nat) (v : Nat), Bk2 wx g (.bool m) (.slice A k c) ∧ DRd wx wx.heap.size A k c xs ∧ Hid (Rep 65536 xs v) ∧ Hid (sval m v = z) ∧ Below g V wx
def LsR (V : World) (g : Nat) (r : Int) (d : Nat) (wx : World) : Prop := ∃ f : QV, Bk3 wx g (.bool f.m) (.slice f.A f.n f.c) (.slice f.D f.k f.d) ∧ f.at wx wx.heap.size ∧ Hid (f.is r d) ∧ Below g V wx
theorem sv_pos {m : Bool} {v b : Nat} {r d : Int} (h : sval m v = r) (hr : 0 < r) (hb : ((b : Nat) : Int) = d) : sval m b = d := by
  cases m
  · rw [sval_f]; exact hb
  · simp [sval] at h; omega
theorem half_is {r d o : Int} {m n : Bool} {u v b : Nat} (h : ICmp (sval m u * ((2 : Nat) : Int)) (sval n v * ((b : Nat) : Int)) o) (h1 : sval m u = r) (h2 : sval n v = 1) (hb : ((b : Nat) : Int) = d) : (o = -1 ∧ 2 * r < d) ∨ (o = 0 ∧ 2 * r = d) ∨ (o = 1 ∧ d < 2 * r) := by
  rw [h1, h2, hb] at h
  unfold ICmp at h
  omega
theorem one_ltt {m : Bool} {v : Nat} (h : sval m v = 1) : v < TT := lt_tt9 (by rw [← sval_abs m v, h]; exact lt_top (by decide))
theorem two_tt : 2 < TT := lt_tt9 (lt_top (by decide))
theorem one_tt : 1 < TT := lt_tt9 (lt_top (by decide))
theorem small_2 (w : World) : Calls Tryz.prog 40 #[.int .i64 2] w (GivesN w 2) := small_any w 2 (by decide)
theorem odd_zero {xs : List Nat} {m : Bool} {v k : Nat} {q : Int} (h : Rep 65536 xs v) (hs : sval m v = q) (hl : xs.length = k) (hk : k = 0) : oddB q = false := by
  have h1 := rep_nil h hl hk
  have h2 := sval_abs m v
  rw [hs, h1] at h2
  have h3 : q = 0 := by omega
  rw [h3]; rfl
theorem odd_pos {xs : List Nat} {m : Bool} {v : Nat} {q : Int} (h : Rep 65536 xs v) (hs : sval m v = q) : oddB q = decide (nth xs 0 % 2 = 1) := by
  have h1 := h.val
  have h3 : vb 65536 xs % 2 = (xs.getD 0 0) % 2 := by
    cases xs with
    | nil => rfl
    | cons x l => rw [vb_cons]; show _ = x % 2; omega
  have h2 := sval_abs m v
  rw [hs] at h2
  unfold oddB nth
  rw [Bool.eq_iff_iff, decide_eq_true_eq, decide_eq_true_eq]
  omega
theorem rnd_lt {n d q r : Int} (h : FloorOf n d q r) (hd : 0 < d) (hn : n.natAbs < Top128) : (rnd q r d).natAbs < Top128 := by
  unfold rnd
  split
  · rename_i hc
    exact (fl_room3 h hd (by omega) hn).1
  · exact Nat.lt_of_le_of_lt (fl_abs h hd) hn
set_option maxHeartbeats 40000000 in
theorem rounds_ok (w : World) (x : RV) (HX : x.at w w.heap.size) (hf : rfault [x] 0 = (0, 0)) (ox : Hid (x.ok = true)) :
    Calls Tryz.prog 5 #[x.v] w (fun e w' => e = .returned (.bool true) ∧ Below w.heap.size w w') := by
  have VX := Lib.hid (RV.val ox.out HX)
  have Hx1 : LRd w w.heap.size x.num.A x.num.n x.num.c x.num.xs := HX.1
  have Hx2 : LRd w w.heap.size x.den.A x.den.n x.den.c x.den.xs := HX.2
  have E : Below w.heap.size w w := Below.refl _ _
  go_enter Tryz.func5, Tryz.ntmps5
  go_upto_region 1 with fail
  obtain ⟨V0, hV0⟩ : ∃ V0 : World, V0 = (w.alloc (.cells #[.bool x.num.neg, .slice x.num.A x.num.n x.num.c, .bool x.den.neg, .slice x.den.A x.den.n x.den.c] 26)) := ⟨_, rfl⟩
  have bV0 : Below w.heap.size w V0 := by rw [hV0]; (repeat (first | with_reducible exact Below.refl _ _ | with_reducible refine Below.drew ?_ | with_reducible refine below_drewN ?_ _ | with_reducible refine Below.setCell ?_ (by first | (simp; done) | (simp; omega) | omega) _ | with_reducible refine Below.alloc ?_ (by first | (simp; done) | (simp; omega) | omega) _))
  have zV0 : w.heap.size + 1 ≤ V0.heap.size := by rw [hV0]; simp
  have PA : Bk4 V0 (w.heap.size) (.bool x.num.neg) (.slice x.num.A x.num.n x.num.c) (.bool x.den.neg) (.slice x.den.A x.den.n x.den.c) := by rw [hV0]; exact (Bk4.newAt _ _ (by first | omega | (simp; done) | (simp; omega)) _ _ _ _ _)
  rw [← hV0]
  clear hV0
  replace E := E.trans (bV0.mono E.size)
  replace Hx1 := Hx1.below bV0 (by omega)
  replace Hx2 := Hx2.below bV0 (by omega)
  clear bV0
  have t_PA0 := PA.c0
  have t_PA1 := PA.c1
  have t_PA2 := PA.c2
  have t_PA3 := PA.c3
  go_wp2_with fail
  clear t_PA0 t_PA1 t_PA2 t_PA3
  (with_reducible refine (rfloor_ok _ w.heap.size x (rv_at Hx1 Hx2) (by omega) ox.out).mono ?_)
  rintro e w1 ⟨q, r, hfl, t, y, rfl, ht, hy, i1, i2, i3, hb1⟩
  have sw1 := hb1.size
  replace E := E.trans (hb1.mono E.size)
  replace Hx1 := Hx1.below hb1 (by omega)
  replace Hx2 := Hx2.below hb1 (by omega)
  replace PA := PA.below hb1 PA.lt
  clear hb1
  have FL := Lib.hid hfl
  have I1 := Lib.hid i1
  have I2 := Lib.hid i2
  have I3 := Lib.hid i3
  have Ht : LRd w1 w1.heap.size t.A t.n t.c t.xs := ht
  have Hy1 : LRd w1 w1.heap.size y.num.A y.num.n y.num.c y.num.xs := hy.1
  have Hy2 : LRd w1 w1.heap.size y.den.A y.den.n y.den.c y.den.xs := hy.2
  have FR := Lib.hid (fl_rest hfl VX.out.pos VX.out.low)
  have FA := Lib.hid (Nat.lt_of_le_of_lt (fl_abs hfl VX.out.pos) VX.out.bn)
  clear hfl i1 i2 i3 ht hy
  have t_PA0 : (((w1.alloc (.cells #[.bool t.neg, .slice t.A t.n t.c] 24)).alloc (.cells #[.bool y.num.neg, .slice y.num.A y.num.n y.num.c, .bool y.den.neg, .slice y.den.A y.den.n y.den.c] 26)).alloc (.cells #[.int .i64 0, .int .i64 0] 28)).cell? ⟨w.heap.size, 0, none⟩ = some ((.bool x.num.neg)) := (((PA.alloc _).alloc _).alloc _).c0
  have t_PA1 : (((w1.alloc (.cells #[.bool t.neg, .slice t.A t.n t.c] 24)).alloc (.cells #[.bool y.num.neg, .slice y.num.A y.num.n y.num.c, .bool y.den.neg, .slice y.den.A y.den.n y.den.c] 26)).alloc (.cells #[.int .i64 0, .int .i64 0] 28)).cell? ⟨w.heap.size, 1, none⟩ = some ((.slice x.num.A x.num.n x.num.c)) := (((PA.alloc _).alloc _).alloc _).c1
  have t_PA2 : (((w1.alloc (.cells #[.bool t.neg, .slice t.A t.n t.c] 24)).alloc (.cells #[.bool y.num.neg, .slice y.num.A y.num.n y.num.c, .bool y.den.neg, .slice y.den.A y.den.n y.den.c] 26)).alloc (.cells #[.int .i64 0, .int .i64 0] 28)).cell? ⟨w.heap.size, 2, none⟩ = some ((.bool x.den.neg)) := (((PA.alloc _).alloc _).alloc _).c2
  have t_PA3 : (((w1.alloc (.cells #[.bool t.neg, .slice t.A t.n t.c] 24)).alloc (.cells #[.bool y.num.neg, .slice y.num.A y.num.n y.num.c, .bool y.den.neg, .slice y.den.A y.den.n y.den.c] 26)).alloc (.cells #[.int .i64 0, .int .i64 0] 28)).cell? ⟨w.heap.size, 3, none⟩ = some ((.slice x.den.A x.den.n x.den.c)) := (((PA.alloc _).alloc _).alloc _).c3
  go_wp2_with fail
  clear t_PA0 t_PA1 t_PA2 t_PA3
  obtain ⟨V2, hV2⟩ : ∃ V2 : World, V2 = (((w1.alloc (.cells #[.bool t.neg, .slice t.A t.n t.c] 24)).alloc (.cells #[.bool y.num.neg, .slice y.num.A y.num.n y.num.c, .bool y.den.neg, .slice y.den.A y.den.n y.den.c] 26)).alloc (.cells #[.int .i64 0, .int .i64 0] 28)) := ⟨_, rfl⟩
  have bV2 : Below w1.heap.size w1 V2 := by rw [hV2]; (repeat (first | with_reducible exact Below.refl _ _ | with_reducible refine Below.drew ?_ | with_reducible refine below_drewN ?_ _ | with_reducible refine Below.setCell ?_ (by first | (simp; done) | (simp; omega) | omega) _ | with_reducible refine Below.alloc ?_ (by first | (simp; done) | (simp; omega) | omega) _))
  have zV2 : w1.heap.size + 3 ≤ V2.heap.size := by rw [hV2]; simp
  have P3 : Bk2 V2 (w1.heap.size) (.bool t.neg) (.slice t.A t.n t.c) := by rw [hV2]; exact (((Bk2.newAt _ _ (by first | omega | (simp; done) | (simp; omega)) _ _ _).alloc _).alloc _)
  have P4 : Bk4 V2 (w1.heap.size + 1) (.bool y.num.neg) (.slice y.num.A y.num.n y.num.c) (.bool y.den.neg) (.slice y.den.A y.den.n y.den.c) := by rw [hV2]; exact ((Bk4.newAt _ _ (by first | omega | (simp; done) | (simp; omega)) _ _ _ _ _).alloc _)
  have F5 : Bk2 V2 (w1.heap.size + 2) (.int .i64 0) (.int .i64 0) := by rw [hV2]; exact (Bk2.newAt _ _ (by first | omega | (simp; done) | (simp; omega)) _ _ _)
  rw [← hV2]
  clear hV2
  replace E := E.trans (bV2.mono E.size)
  replace Hx1 := Hx1.below bV2 (by omega)
  replace Hx2 := Hx2.below bV2 (by omega)
  replace PA := PA.below bV2 PA.lt
  replace Ht := Ht.below bV2 (by omega)
  replace Hy1 := Hy1.below bV2 (by omega)
  replace Hy2 := Hy2.below bV2 (by omega)
  clear bV2
  (with_reducible refine (rround_ok _ w.heap.size x (rv_at Hx1 Hx2) (by omega) ox.out).mono ?_)
  rintro e w2 ⟨q', r', hfl, m6, A6, k6, c6, x6, rfl, hl6, hr6, hb2⟩
  have sw2 := hb2.size
  replace E := E.trans (hb2.mono E.size)
  replace Hx1 := Hx1.below hb2 (by omega)
  replace Hx2 := Hx2.below hb2 (by omega)
  replace PA := PA.below hb2 PA.lt
  replace Ht := Ht.below hb2 (by omega)
  replace Hy1 := Hy1.below hb2 (by omega)
  replace Hy2 := Hy2.below hb2 (by omega)
  replace P3 := P3.below hb2 P3.lt
  replace P4 := P4.below hb2 P4.lt
  replace F5 := F5.below hb2 F5.lt
  clear hb2
  have I6 := Lib.hid (show IRep m6 x6 (rnd q r x.den.val) by obtain ⟨e1, e2⟩ := FloorOf.uniq FL.out hfl; rw [e1, e2]; exact hr6)
  clear hr6 hfl
  have t_PA0 : ((w2.alloc (.cells #[.bool m6, .slice A6 k6 c6] 24)).alloc (.cells #[.int .i64 0, .int .i64 0] 28)).cell? ⟨w.heap.size, 0, none⟩ = some ((.bool x.num.neg)) := ((PA.alloc _).alloc _).c0
  have t_PA1 : ((w2.alloc (.cells #[.bool m6, .slice A6 k6 c6] 24)).alloc (.cells #[.int .i64 0, .int .i64 0] 28)).cell? ⟨w.heap.size, 1, none⟩ = some ((.slice x.num.A x.num.n x.num.c)) := ((PA.alloc _).alloc _).c1
  have t_PA2 : ((w2.alloc (.cells #[.bool m6, .slice A6 k6 c6] 24)).alloc (.cells #[.int .i64 0, .int .i64 0] 28)).cell? ⟨w.heap.size, 2, none⟩ = some ((.bool x.den.neg)) := ((PA.alloc _).alloc _).c2
  have t_PA3 : ((w2.alloc (.cells #[.bool m6, .slice A6 k6 c6] 24)).alloc (.cells #[.int .i64 0, .int .i64 0] 28)).cell? ⟨w.heap.size, 3, none⟩ = some ((.slice x.den.A x.den.n x.den.c)) := ((PA.alloc _).alloc _).c3
  go_wp2_with fail
  clear t_PA0 t_PA1 t_PA2 t_PA3
  obtain ⟨V3, hV3⟩ : ∃ V3 : World, V3 = ((w2.alloc (.cells #[.bool m6, .slice A6 k6 c6] 24)).alloc (.cells #[.int .i64 0, .int .i64 0] 28)) := ⟨_, rfl⟩
  have bV3 : Below w2.heap.size w2 V3 := by rw [hV3]; (repeat (first | with_reducible exact Below.refl _ _ | with_reducible refine Below.drew ?_ | with_reducible refine below_drewN ?_ _ | with_reducible refine Below.setCell ?_ (by first | (simp; done) | (simp; omega) | omega) _ | with_reducible refine Below.alloc ?_ (by first | (simp; done) | (simp; omega) | omega) _))
  have zV3 : w2.heap.size + 2 ≤ V3.heap.size := by rw [hV3]; simp
  have P6 : Bk2 V3 (w2.heap.size) (.bool m6) (.slice A6 k6 c6) := by rw [hV3]; exact ((Bk2.newAt _ _ (by first | omega | (simp; done) | (simp; omega)) _ _ _).alloc _)
  have F7 : Bk2 V3 (w2.heap.size + 1) (.int .i64 0) (.int .i64 0) := by rw [hV3]; exact (Bk2.newAt _ _ (by first | omega | (simp; done) | (simp; omega)) _ _ _)
  rw [← hV3]
  clear hV3
  replace E := E.trans (bV3.mono E.size)
  replace Hx1 := Hx1.below bV3 (by omega)
  replace Hx2 := Hx2.below bV3 (by omega)
  replace PA := PA.below bV3 PA.lt
  replace Ht := Ht.below bV3 (by omega)
  replace Hy1 := Hy1.below bV3 (by omega)
  replace Hy2 := Hy2.below bV3 (by omega)
  replace P3 := P3.below bV3 P3.lt
  replace P4 := P4.below bV3 P4.lt
  replace F5 := F5.below bV3 F5.lt
  replace hl6 := hl6.below bV3 (by omega)
  clear bV3
  (with_reducible refine (terms_u _ w.heap.size x (rv_at Hx1 Hx2) (by omega) ox.out x.num.val x.den.val (Lib.hid VX.out.num) (Lib.hid VX.out.den) (by have := VX.out.pos; omega) (Lib.hid ⟨VX.out.bn, VX.out.bd⟩)).mono ?_)
  rintro e w3 ⟨A8, j, c8, ts, us, zs, N, D, h1, h2, rfl, TD, HZ, hch, hcs, hb3⟩
  have sw3 := hb3.size
  replace E := E.trans (hb3.mono E.size)
  replace Hx1 := Hx1.below hb3 (by omega)
  replace Hx2 := Hx2.below hb3 (by omega)
  replace PA := PA.below hb3 PA.lt
  replace Ht := Ht.below hb3 (by omega)
  replace Hy1 := Hy1.below hb3 (by omega)
  replace Hy2 := Hy2.below hb3 (by omega)
  replace P3 := P3.below hb3 P3.lt
  replace P4 := P4.below hb3 P4.lt
  replace F5 := F5.below hb3 F5.lt
  replace hl6 := hl6.below hb3 (by omega)
  replace P6 := P6.below hb3 P6.lt
  replace F7 := F7.below hb3 F7.lt
  clear hb3
  have CH := Lib.hid hch
  have CS := Lib.hid hcs
  have hlt := Lib.hid TD.2.2.1.out
  have hlz := Lib.hid HZ.1
  have hjc := TD.1
  have hc8 := TD.2.1
  clear hch hcs
  go_wp2_with fail
  obtain ⟨V4, hV4⟩ : ∃ V4 : World, V4 = (w3.alloc (.cells #[.int .i64 h1, .int .i64 h2] 28)) := ⟨_, rfl⟩
  have bV4 : Below w3.heap.size w3 V4 := by rw [hV4]; (repeat (first | with_reducible exact Below.refl _ _ | with_reducible refine Below.drew ?_ | with_reducible refine below_drewN ?_ _ | with_reducible refine Below.setCell ?_ (by first | (simp; done) | (simp; omega) | omega) _ | with_reducible refine Below.alloc ?_ (by first | (simp; done) | (simp; omega) | omega) _))
  have zV4 : w3.heap.size + 1 ≤ V4.heap.size := by rw [hV4]; simp
  have F9 : Bk2 V4 (w3.heap.size) (.int .i64 h1) (.int .i64 h2) := by rw [hV4]; exact (Bk2.newAt _ _ (by first | omega | (simp; done) | (simp; omega)) _ _ _)
  rw [← hV4]
  clear hV4
  replace TD : TRd V4 A8 j c8 ts := TD.below bV4 (Nat.le_refl _)
  replace HZ : Trs V4 ts us := HZ.go (fun H => (H.below bV4 (Nat.le_refl _)).more bV4.size)
  replace E := E.trans (bV4.mono E.size)
  replace Hx1 := Hx1.below bV4 (by omega)
  replace Hx2 := Hx2.below bV4 (by omega)
  replace PA := PA.below bV4 PA.lt
  replace Ht := Ht.below bV4 (by omega)
  replace Hy1 := Hy1.below bV4 (by omega)
  replace Hy2 := Hy2.below bV4 (by omega)
  replace P3 := P3.below bV4 P3.lt
  replace P4 := P4.below bV4 P4.lt
  replace F5 := F5.below bV4 F5.lt
  replace hl6 := hl6.below bV4 (by omega)
  replace P6 := P6.below bV4 P6.lt
  replace F7 := F7.below bV4 F7.lt
  clear bV4
  (with_reducible refine (parts_any _).mono ?_)
  rintro e w4 ⟨rfl, hb4⟩
  have sw4 := hb4.size
  replace TD : TRd w4 A8 j c8 ts := TD.below hb4 (Nat.le_refl _)
  replace HZ : Trs w4 ts us := HZ.go (fun H => (H.below hb4 (Nat.le_refl _)).more hb4.size)
  replace E := E.trans (hb4.mono E.size)
  replace Hx1 := Hx1.below hb4 (by omega)
  replace Hx2 := Hx2.below hb4 (by omega)
  replace PA := PA.below hb4 PA.lt
  replace Ht := Ht.below hb4 (by omega)
  replace Hy1 := Hy1.below hb4 (by omega)
  replace Hy2 := Hy2.below hb4 (by omega)
  replace P3 := P3.below hb4 P3.lt
  replace P4 := P4.below hb4 P4.lt
  replace F5 := F5.below hb4 F5.lt
  replace hl6 := hl6.below hb4 (by omega)
  replace P6 := P6.below hb4 P6.lt
  replace F7 := F7.below hb4 F7.lt
  replace F9 := F9.below hb4 F9.lt
  clear hb4
  have RR := Lib.hid (rrow1 w4 w.heap.size x (rv_at Hx1 Hx2) (by omega))
  have p_PA0 := PA.c0
  have p_PA1 := PA.c1
  have p_PA2 := PA.c2
  have p_PA3 := PA.c3
  go_wp2_with fail
  clear p_PA0 p_PA1 p_PA2 p_PA3
  obtain ⟨V5, hV5⟩ : ∃ V5 : World, V5 = (w4.alloc (.cells #[.bool x.num.neg, .slice x.num.A x.num.n x.num.c, .bool x.den.neg, .slice x.den.A x.den.n x.den.c] 26)) := ⟨_, rfl⟩
  have bV5 : Below w4.heap.size w4 V5 := by rw [hV5]; (repeat (first | with_reducible exact Below.refl _ _ | with_reducible refine Below.drew ?_ | with_reducible refine below_drewN ?_ _ | with_reducible refine Below.setCell ?_ (by first | (simp; done) | (simp; omega) | omega) _ | with_reducible refine Below.alloc ?_ (by first | (simp; done) | (simp; omega) | omega) _))
  have zV5 : w4.heap.size + 1 ≤ V5.heap.size := by rw [hV5]; simp
  replace RR : Hid (RRow V5 w.heap.size w4.heap.size [x]) := by rw [hV5]; exact RR
  rw [← hV5]
  clear hV5
  replace TD : TRd V5 A8 j c8 ts := TD.below bV5 (Nat.le_refl _)
  replace HZ : Trs V5 ts us := HZ.go (fun H => (H.below bV5 (Nat.le_refl _)).more bV5.size)
  replace E := E.trans (bV5.mono E.size)
  replace Hx1 := Hx1.below bV5 (by omega)
  replace Hx2 := Hx2.below bV5 (by omega)
  replace PA := PA.below bV5 PA.lt
  replace Ht := Ht.below bV5 (by omega)
  replace Hy1 := Hy1.below bV5 (by omega)
  replace Hy2 := Hy2.below bV5 (by omega)
  replace P3 := P3.below bV5 P3.lt
  replace P4 := P4.below bV5 P4.lt
  replace F5 := F5.below bV5 F5.lt
  replace hl6 := hl6.below bV5 (by omega)
  replace P6 := P6.below bV5 P6.lt
  replace F7 := F7.below bV5 F7.lt
  replace F9 := F9.below bV5 F9.lt
  clear bV5
  (with_reducible refine (ratioFaults_any _ w.heap.size w4.heap.size 1 [x] RR.out rfl (by omega) (by omega)).mono ?_)
  rintro e w5 ⟨rfl, hb5⟩
  have sw5 := hb5.size
  replace TD : TRd w5 A8 j c8 ts := TD.below hb5 (Nat.le_refl _)
  replace HZ : Trs w5 ts us := HZ.go (fun H => (H.below hb5 (Nat.le_refl _)).more hb5.size)
  replace E := E.trans (hb5.mono E.size)
  replace Hx1 := Hx1.below hb5 (by omega)
  replace Hx2 := Hx2.below hb5 (by omega)
  replace PA := PA.below hb5 PA.lt
  replace Ht := Ht.below hb5 (by omega)
  replace Hy1 := Hy1.below hb5 (by omega)
  replace Hy2 := Hy2.below hb5 (by omega)
  replace P3 := P3.below hb5 P3.lt
  replace P4 := P4.below hb5 P4.lt
  replace F5 := F5.below hb5 F5.lt
  replace hl6 := hl6.below hb5 (by omega)
  replace P6 := P6.below hb5 P6.lt
  replace F7 := F7.below hb5 F7.lt
  replace F9 := F9.below hb5 F9.lt
  clear hb5
  rw [hf]
  clear RR
  have t_PA0 : (w5.alloc (.cells #[.int .i64 0, .int .i64 0] 28)).cell? ⟨w.heap.size, 0, none⟩ = some ((.bool x.num.neg)) := (PA.alloc _).c0
  have t_PA1 : (w5.alloc (.cells #[.int .i64 0, .int .i64 0] 28)).cell? ⟨w.heap.size, 1, none⟩ = some ((.slice x.num.A x.num.n x.num.c)) := (PA.alloc _).c1
  have t_PA2 : (w5.alloc (.cells #[.int .i64 0, .int .i64 0] 28)).cell? ⟨w.heap.size, 2, none⟩ = some ((.bool x.den.neg)) := (PA.alloc _).c2
  have t_PA3 : (w5.alloc (.cells #[.int .i64 0, .int .i64 0] 28)).cell? ⟨w.heap.size, 3, none⟩ = some ((.slice x.den.A x.den.n x.den.c)) := (PA.alloc _).c3
  go_wp2_with fail
  clear t_PA0 t_PA1 t_PA2 t_PA3
  obtain ⟨V6, hV6⟩ : ∃ V6 : World, V6 = (w5.alloc (.cells #[.int .i64 0, .int .i64 0] 28)) := ⟨_, rfl⟩
  have bV6 : Below w5.heap.size w5 V6 := by rw [hV6]; (repeat (first | with_reducible exact Below.refl _ _ | with_reducible refine Below.drew ?_ | with_reducible refine below_drewN ?_ _ | with_reducible refine Below.setCell ?_ (by first | (simp; done) | (simp; omega) | omega) _ | with_reducible refine Below.alloc ?_ (by first | (simp; done) | (simp; omega) | omega) _))
  have zV6 : w5.heap.size + 1 ≤ V6.heap.size := by rw [hV6]; simp
  have F10 : Bk2 V6 (w5.heap.size) (.int .i64 0) (.int .i64 0) := by rw [hV6]; exact (Bk2.newAt _ _ (by first | omega | (simp; done) | (simp; omega)) _ _ _)
  rw [← hV6]
  clear hV6
  replace TD : TRd V6 A8 j c8 ts := TD.below bV6 (Nat.le_refl _)
  replace HZ : Trs V6 ts us := HZ.go (fun H => (H.below bV6 (Nat.le_refl _)).more bV6.size)
  replace E := E.trans (bV6.mono E.size)
  replace Hx1 := Hx1.below bV6 (by omega)
  replace Hx2 := Hx2.below bV6 (by omega)
  replace PA := PA.below bV6 PA.lt
  replace Ht := Ht.below bV6 (by omega)
  replace Hy1 := Hy1.below bV6 (by omega)
  replace Hy2 := Hy2.below bV6 (by omega)
  replace P3 := P3.below bV6 P3.lt
  replace P4 := P4.below bV6 P4.lt
  replace F5 := F5.below bV6 F5.lt
  replace hl6 := hl6.below bV6 (by omega)
  replace P6 := P6.below bV6 P6.lt
  replace F7 := F7.below bV6 F7.lt
  replace F9 := F9.below bV6 F9.lt
  clear bV6
  clear F10
  (with_reducible refine (ratioOf_any _ w.heap.size x (rv_at Hx1 Hx2) (by omega) ox.out).mono ?_)
  rintro e w10 hq
  obtain ⟨p, rfl, hq', hi, hb10⟩ := GivesRR.q hq
  clear hq
  have s10 := hb10.size
  replace TD : TRd w10 A8 j c8 ts := TD.below hb10 (Nat.le_refl _)
  replace HZ : Trs w10 ts us := HZ.go (fun H => (H.below hb10 (Nat.le_refl _)).more hb10.size)
  replace E := E.trans (hb10.mono E.size)
  replace Hx1 := Hx1.below hb10 (by omega)
  replace Hx2 := Hx2.below hb10 (by omega)
  replace PA := PA.below hb10 PA.lt
  replace Ht := Ht.below hb10 (by omega)
  replace Hy1 := Hy1.below hb10 (by omega)
  replace Hy2 := Hy2.below hb10 (by omega)
  replace P3 := P3.below hb10 P3.lt
  replace P4 := P4.below hb10 P4.lt
  replace F5 := F5.below hb10 F5.lt
  replace hl6 := hl6.below hb10 (by omega)
  replace P6 := P6.below hb10 P6.lt
  replace F7 := F7.below hb10 F7.lt
  replace F9 := F9.below hb10 F9.lt
  clear hb10
  obtain ⟨v1, i1, i2, i3⟩ := hi
  have R1 := Lib.hid i1
  have S1 := Lib.hid i2
  have R2 := Lib.hid i3
  clear i1 i2 i3
  have Hp1 : DRd w10 w10.heap.size p.A p.n p.c p.xs := hq'.1
  have Hp2 : DRd w10 w10.heap.size p.D p.k p.d p.ys := hq'.2
  clear hq'
  have dn := Lib.hid (show ((x.den.val.natAbs : Nat) : Int) = x.den.val by have := VX.out.pos; omega)
  have dp := Lib.hid (show 0 < x.den.val.natAbs by have := VX.out.pos; omega)
  have tp1 := Lib.hid (show v1 < TT from lt_tt9 (by rw [← sval_abs p.m v1, S1.out]; exact VX.out.bn))
  have tp2 := Lib.hid (show x.den.val.natAbs < TT from lt_tt9 VX.out.bd)
  have T10 := Lib.hid (And.intro TD HZ)
  have B10 : Below (w10.heap.size) w10 w10 := Below.refl _ _
  clear TD HZ
  clear PA Hx1 Hx2
  go_wp2_with fail
  obtain ⟨V7, hV7⟩ : ∃ V7 : World, V7 = (w10.alloc (.cells #[.bool p.m, .slice p.A p.n p.c, .slice p.D p.k p.d] 42)) := ⟨_, rfl⟩
  have bV7 : Below w10.heap.size w10 V7 := by rw [hV7]; (repeat (first | with_reducible exact Below.refl _ _ | with_reducible refine Below.drew ?_ | with_reducible refine below_drewN ?_ _ | with_reducible refine Below.setCell ?_ (by first | (simp; done) | (simp; omega) | omega) _ | with_reducible refine Below.alloc ?_ (by first | (simp; done) | (simp; omega) | omega) _))
  have zV7 : w10.heap.size + 1 ≤ V7.heap.size := by rw [hV7]; simp
  have P11 : Bk3 V7 (w10.heap.size) (.bool p.m) (.slice p.A p.n p.c) (.slice p.D p.k p.d) := by rw [hV7]; exact (Bk3.newAt _ _ (by first | omega | (simp; done) | (simp; omega)) _ _ _ _)
  rw [← hV7]
  clear hV7
  replace B10 : Below (w10.heap.size) w10 V7 := B10.trans (bV7.mono (by omega))
  replace E := E.trans (bV7.mono E.size)
  replace Ht := Ht.below bV7 (by omega)
  replace Hy1 := Hy1.below bV7 (by omega)
  replace Hy2 := Hy2.below bV7 (by omega)
  replace P3 := P3.below bV7 P3.lt
  replace P4 := P4.below bV7 P4.lt
  replace F5 := F5.below bV7 F5.lt
  replace hl6 := hl6.below bV7 (by omega)
  replace P6 := P6.below bV7 P6.lt
  replace F7 := F7.below bV7 F7.lt
  replace F9 := F9.below bV7 F9.lt
  replace Hp1 := Hp1.below bV7 (by omega)
  replace Hp2 := Hp2.below bV7 (by omega)
  clear bV7
  (with_reducible refine (qfloor_v _ w10.heap.size p v1 x.den.val.natAbs (qv_at Hp1 Hp2) (by omega) R1 R2 dp.out tp1.out tp2.out).mono ?_)
  rintro e w11 ⟨q2, r2, hf2, m2, A2, k2, c2, x2, v2, rfl, hd2, hr2, hs2, hb11⟩
  have sw11 := hb11.size
  replace B10 : Below (w10.heap.size) w10 w11 := B10.trans (hb11.mono (by omega))
  replace P11 := P11.below hb11 P11.lt
  replace E := E.trans (hb11.mono E.size)
  replace Ht := Ht.below hb11 (by omega)
  replace Hy1 := Hy1.below hb11 (by omega)
  replace Hy2 := Hy2.below hb11 (by omega)
  replace P3 := P3.below hb11 P3.lt
  replace P4 := P4.below hb11 P4.lt
  replace F5 := F5.below hb11 F5.lt
  replace hl6 := hl6.below hb11 (by omega)
  replace P6 := P6.below hb11 P6.lt
  replace F7 := F7.below hb11 F7.lt
  replace F9 := F9.below hb11 F9.lt
  replace Hp1 := Hp1.below hb11 (by omega)
  replace Hp2 := Hp2.below hb11 (by omega)
  clear hb11
  have R3 := Lib.hid hr2
  have S3 := Lib.hid (show sval m2 v2 = q by rw [hs2]; rw [S1.out, sval_f, dn.out] at hf2; exact (FloorOf.uniq hf2 FL.out).1)
  clear hr2 hs2 hf2
  have t_P110 : (w11.alloc (.cells #[.bool m2, .slice A2 k2 c2] 40)).cell? ⟨w10.heap.size, 0, none⟩ = some ((.bool p.m)) := (P11.alloc _).c0
  have t_P111 : (w11.alloc (.cells #[.bool m2, .slice A2 k2 c2] 40)).cell? ⟨w10.heap.size, 1, none⟩ = some ((.slice p.A p.n p.c)) := (P11.alloc _).c1
  have t_P112 : (w11.alloc (.cells #[.bool m2, .slice A2 k2 c2] 40)).cell? ⟨w10.heap.size, 2, none⟩ = some ((.slice p.D p.k p.d)) := (P11.alloc _).c2
  go_upto_region 11 with fail
  clear t_P110 t_P111 t_P112
  obtain ⟨V8, hV8⟩ : ∃ V8 : World, V8 = (w11.alloc (.cells #[.bool m2, .slice A2 k2 c2] 40)) := ⟨_, rfl⟩
  have bV8 : Below w11.heap.size w11 V8 := by rw [hV8]; (repeat (first | with_reducible exact Below.refl _ _ | with_reducible refine Below.drew ?_ | with_reducible refine below_drewN ?_ _ | with_reducible refine Below.setCell ?_ (by first | (simp; done) | (simp; omega) | omega) _ | with_reducible refine Below.alloc ?_ (by first | (simp; done) | (simp; omega) | omega) _))
  have zV8 : w11.heap.size + 1 ≤ V8.heap.size := by rw [hV8]; simp
  have P12 : Bk2 V8 (w11.heap.size) (.bool m2) (.slice A2 k2 c2) := by rw [hV8]; exact (Bk2.newAt _ _ (by first | omega | (simp; done) | (simp; omega)) _ _ _)
  rw [← hV8]
  clear hV8
  replace B10 : Below (w10.heap.size) w10 V8 := B10.trans (bV8.mono (by omega))
  replace P11 := P11.below bV8 P11.lt
  replace E := E.trans (bV8.mono E.size)
  replace Ht := Ht.below bV8 (by omega)
  replace Hy1 := Hy1.below bV8 (by omega)
  replace Hy2 := Hy2.below bV8 (by omega)
  replace P3 := P3.below bV8 P3.lt
  replace P4 := P4.below bV8 P4.lt
  replace F5 := F5.below bV8 F5.lt
  replace hl6 := hl6.below bV8 (by omega)
  replace P6 := P6.below bV8 P6.lt
  replace F7 := F7.below bV8 F7.lt
  replace F9 := F9.below bV8 F9.lt
  replace Hp1 := Hp1.below bV8 (by omega)
  replace Hp2 := Hp2.below bV8 (by omega)
  replace hd2 := hd2.below bV8 (by omega)
  clear bV8
  have tv2 := Lib.hid (show v2 < TT from lt_tt9 (by rw [← sval_abs m2 v2, S3.out]; exact FA.out))
  go_cut [13] (fun s13 wx => LfR V8 r x.den.val.natAbs s13 wx)
  case first =>
    as_aux_lemma =>
      have lt_P11 := P11.lt
      have lt_P12 := P12.lt
      have HS := Lib.hid (fun (u : World) (hu : Below V8.heap.size V8 u) => (⟨(hu.cell (p := ⟨w10.heap.size, 0, none⟩) (by show w10.heap.size < _; omega)).trans P11.c0, (hu.cell (p := ⟨w10.heap.size, 1, none⟩) (by show w10.heap.size < _; omega)).trans P11.c1, (hu.cell (p := ⟨w10.heap.size, 2, none⟩) (by show w10.heap.size < _; omega)).trans P11.c2, (hu.cell (p := ⟨w11.heap.size, 0, none⟩) (by show w11.heap.size < _; omega)).trans P12.c0, (hu.cell (p := ⟨w11.heap.size, 1, none⟩) (by show w11.heap.size < _; omega)).trans P12.c1⟩ : u.cell? ⟨w10.heap.size, 0, none⟩ = some (.bool p.m) ∧ u.cell? ⟨w10.heap.size, 1, none⟩ = some (.slice p.A p.n p.c) ∧ u.cell? ⟨w10.heap.size, 2, none⟩ = some (.slice p.D p.k p.d) ∧ u.cell? ⟨w11.heap.size, 0, none⟩ = some (.bool m2) ∧ u.cell? ⟨w11.heap.size, 1, none⟩ = some (.slice A2 k2 c2)))
      have G0 : Below V8.heap.size V8 V8.drew := Below.drew (Below.refl _ _)
      clear E Ht Hy1 Hy2 hl6 P3 P4 F5 P6 F7 F9
      go_region_held3 (fun u => u.cell? ⟨w10.heap.size, 0, none⟩ = some (.bool p.m) ∧ u.cell? ⟨w10.heap.size, 1, none⟩ = some (.slice p.A p.n p.c) ∧ u.cell? ⟨w10.heap.size, 2, none⟩ = some (.slice p.D p.k p.d) ∧ u.cell? ⟨w11.heap.size, 0, none⟩ = some (.bool m2) ∧ u.cell? ⟨w11.heap.size, 1, none⟩ = some (.slice A2 k2 c2))
        (first | exact HS.out _ (by (repeat (first | with_reducible exact G0 | with_reducible exact B2 | with_reducible exact B1 | with_reducible exact Below.refl _ _ | with_reducible refine Below.drew ?_ | with_reducible refine Below.alloc ?_ (by first | (simp; done) | (simp; omega) | omega) _ | with_reducible refine Below.setCell ?_ (by first | (simp; done) | (simp; omega) | omega) _))) | fail)
        (first
          | (go_at_call 38; (with_reducible refine (qwhole_v _ V8.heap.size m2 A2 k2 c2 v2 x2 (DRd.more (B := V8.heap.size) (DRd.below (hd2.more (by omega)) (B' := V8.heap.size) (by (repeat (first | with_reducible exact G0 | with_reducible exact B2 | with_reducible exact B1 | with_reducible exact Below.refl _ _ | with_reducible refine Below.drew ?_ | with_reducible refine Below.alloc ?_ (by first | (simp; done) | (simp; omega) | omega) _ | with_reducible refine Below.setCell ?_ (by first | (simp; done) | (simp; omega) | omega) _))) (Nat.le_refl _)) (by first | (simp; done) | (simp; omega) | omega)) (by first | (simp; done) | (simp; omega) | omega) R3).mono ?_); rintro e u1 ⟨f1, rfl, hf1, ⟨vf, g1, g2, g3⟩, hb1⟩; have B1 : Below V8.heap.size V8 u1 := (by refine bnext ?_ hb1; (repeat (first | with_reducible exact G0 | with_reducible exact B2 | with_reducible exact B1 | with_reducible exact Below.refl _ _ | with_reducible refine Below.drew ?_ | with_reducible refine Below.alloc ?_ (by first | (simp; done) | (simp; omega) | omega) _ | with_reducible refine Below.setCell ?_ (by first | (simp; done) | (simp; omega) | omega) _))); have b1s := B1.size; have RF := Lib.hid g1; have SF := Lib.hid g2; have RG := Lib.hid g3; have A1x : DRd u1 u1.heap.size f1.A f1.n f1.c f1.xs := hf1.1; have A1y : DRd u1 u1.heap.size f1.D f1.k f1.d f1.ys := hf1.2; have WF := Lib.hid (show vf < TT from by have h8 := sval_abs f1.m vf; rw [SF.out, sval_abs] at h8; rw [← h8]; exact tv2.out); clear g1 g2 g3 hf1; (first | (have Q1 := nq3d hb1; obtain ⟨_, _, _, _, _, _, _⟩ := id Q1) | (have Q1 := nq3 hb1; obtain ⟨_, _, _, _, _, _, _⟩ := id Q1) | skip))
          | (go_at_call 21; (with_reducible refine (qless_v _ u1.heap.size p f1 v1 vf x.den.val.natAbs 1 (qv_at (DRd.more (B := V8.heap.size) (DRd.below (Hp1.more (by omega)) (B' := V8.heap.size) (by (repeat (first | with_reducible exact G0 | with_reducible exact B2 | with_reducible exact B1 | with_reducible exact Below.refl _ _ | with_reducible refine Below.drew ?_ | with_reducible refine Below.alloc ?_ (by first | (simp; done) | (simp; omega) | omega) _ | with_reducible refine Below.setCell ?_ (by first | (simp; done) | (simp; omega) | omega) _))) (Nat.le_refl _)) (by first | (simp; done) | (simp; omega) | omega)) (DRd.more (B := V8.heap.size) (DRd.below (Hp2.more (by omega)) (B' := V8.heap.size) (by (repeat (first | with_reducible exact G0 | with_reducible exact B2 | with_reducible exact B1 | with_reducible exact Below.refl _ _ | with_reducible refine Below.drew ?_ | with_reducible refine Below.alloc ?_ (by first | (simp; done) | (simp; omega) | omega) _ | with_reducible refine Below.setCell ?_ (by first | (simp; done) | (simp; omega) | omega) _))) (Nat.le_refl _)) (by first | (simp; done) | (simp; omega) | omega))) (qv_at (DRd.below A1x (B' := u1.heap.size) (by (repeat (first | with_reducible exact Below.refl _ _ | with_reducible refine Below.drew ?_ | with_reducible refine Below.alloc ?_ (by first | (simp; done) | (simp; omega) | omega) _))) (Nat.le_refl _)) (DRd.below A1y (B' := u1.heap.size) (by (repeat (first | with_reducible exact Below.refl _ _ | with_reducible refine Below.drew ?_ | with_reducible refine Below.alloc ?_ (by first | (simp; done) | (simp; omega) | omega) _))) (Nat.le_refl _))) (by first | (simp; done) | (simp; omega) | omega) R1 R2 RF RG tp1.out tp2.out WF.out one_tt (Lib.hid (Nat.mul_pos dp.out (by decide)))).mono ?_); rintro e u2 ⟨y1, y2, hlo, f2, rfl, hf2, hi2, hb2⟩; have L2 := Lib.hid (show LowOf _ _ y1 y2 from (by rw [SF.out] at hlo; exact hlo)); have B2 : Below V8.heap.size V8 u2 := (by refine bnext ?_ hb2; (repeat (first | with_reducible exact G0 | with_reducible exact B2 | with_reducible exact B1 | with_reducible exact Below.refl _ _ | with_reducible refine Below.drew ?_ | with_reducible refine Below.alloc ?_ (by first | (simp; done) | (simp; omega) | omega) _ | with_reducible refine Below.setCell ?_ (by first | (simp; done) | (simp; omega) | omega) _))); have b2s := B2.size; have LI := Lib.hid (left_is L2.out S1.out S3.out dn.out FL.out VX.out.pos VX.out.low); have A3 : f2.at u2 u2.heap.size := hf2; have I3' := Lib.hid (show f2.is r x.den.val.natAbs from by have h9 := hi2; rw [LI.out.1, LI.out.2] at h9; exact h9); clear hlo hi2 hf2; have K2 : Below u1.heap.size u1 u2 := (by refine bnext ?_ hb2; (repeat (first | with_reducible exact Below.refl _ _ | with_reducible refine Below.drew ?_ | with_reducible refine Below.alloc ?_ (by first | (simp; done) | (simp; omega) | omega) _))); (first | (have Q2 := nq3d hb2; obtain ⟨_, _, _, _, _, _, _⟩ := id Q2) | (have Q2 := nq3 hb2; obtain ⟨_, _, _, _, _, _, _⟩ := id Q2) | skip); (first | (have Q2o := Q1.below K2 Q1.lt; obtain ⟨_, _, _, _, _, _, _⟩ := id Q2o) | skip))
          | fail)
      all_goals (go_wp2_with fail)
      all_goals go_meet
      all_goals first
        | with_reducible exact lf_a A3 I3' B2
        | with_reducible exact lf_o A3 I3' B2 (by with_reducible assumption) (by omega)
        | fail
  case rest =>
  obtain ⟨g13, f, rfl, P13, hf, FI, hg13, hbX⟩ := hcut
  replace B10 : Below (w10.heap.size) w10 wc := B10.trans (hbX.mono (by omega))
  replace P11 := P11.below hbX P11.lt
  replace E := E.trans (hbX.mono E.size)
  replace Ht := Ht.below hbX (by omega)
  replace Hy1 := Hy1.below hbX (by omega)
  replace Hy2 := Hy2.below hbX (by omega)
  replace P3 := P3.below hbX P3.lt
  replace P4 := P4.below hbX P4.lt
  replace F5 := F5.below hbX F5.lt
  replace hl6 := hl6.below hbX (by omega)
  replace P6 := P6.below hbX P6.lt
  replace F7 := F7.below hbX F7.lt
  replace F9 := F9.below hbX F9.lt
  replace Hp1 := Hp1.below hbX (by omega)
  replace Hp2 := Hp2.below hbX (by omega)
  replace hd2 := hd2.below hbX (by omega)
  replace P12 := P12.below hbX P12.lt
  have sX1 := hbX.size
  clear hbX
  obtain ⟨Vc1, hVc⟩ : ∃ y : World, y = wc := ⟨_, rfl⟩
  subst hVc
  have Hf1 : DRd Vc1 Vc1.heap.size f.A f.n f.c f.xs := hf.1
  have Hf2 : DRd Vc1 Vc1.heap.size f.D f.k f.d f.ys := hf.2
  clear hf
  obtain ⟨v3, i1, i2, i3⟩ := FI.out
  have R4 := Lib.hid i1
  have S4 := Lib.hid i2
  have R5 := Lib.hid i3
  clear i1 i2 i3 FI
  have tv3 := Lib.hid (show v3 < TT from lt_tt9 (by rw [← sval_abs f.m v3, S4.out]; have := FR.out; have := VX.out.bd; omega))
  have lt13 := P13.lt
  have p_P120 := P12.c0
  have p_P121 := P12.c1
  go_upto_region 13 with fail
  clear p_P120 p_P121
  obtain ⟨V9, hV9⟩ : ∃ V9 : World, V9 = (Vc1.alloc (.cells #[.bool m2, .slice A2 k2 c2] 40)) := ⟨_, rfl⟩
  have bV9 : Below Vc1.heap.size Vc1 V9 := by rw [hV9]; (repeat (first | with_reducible exact Below.refl _ _ | with_reducible refine Below.drew ?_ | with_reducible refine below_drewN ?_ _ | with_reducible refine Below.setCell ?_ (by first | (simp; done) | (simp; omega) | omega) _ | with_reducible refine Below.alloc ?_ (by first | (simp; done) | (simp; omega) | omega) _))
  have zV9 : Vc1.heap.size + 1 ≤ V9.heap.size := by rw [hV9]; simp
  have P14 : Bk2 V9 (Vc1.heap.size) (.bool m2) (.slice A2 k2 c2) := by rw [hV9]; exact (Bk2.newAt _ _ (by first | omega | (simp; done) | (simp; omega)) _ _ _)
  rw [← hV9]
  clear hV9
  replace B10 : Below (w10.heap.size) w10 V9 := B10.trans (bV9.mono (by omega))
  replace P11 := P11.below bV9 P11.lt
  replace P13 := P13.below bV9 P13.lt
  replace E := E.trans (bV9.mono E.size)
  replace Ht := Ht.below bV9 (by omega)
  replace Hy1 := Hy1.below bV9 (by omega)
  replace Hy2 := Hy2.below bV9 (by omega)
  replace P3 := P3.below bV9 P3.lt
  replace P4 := P4.below bV9 P4.lt
  replace F5 := F5.below bV9 F5.lt
  replace hl6 := hl6.below bV9 (by omega)
  replace P6 := P6.below bV9 P6.lt
  replace F7 := F7.below bV9 F7.lt
  replace F9 := F9.below bV9 F9.lt
  replace Hp1 := Hp1.below bV9 (by omega)
  replace Hp2 := Hp2.below bV9 (by omega)
  replace hd2 := hd2.below bV9 (by omega)
  replace P12 := P12.below bV9 P12.lt
  replace Hf1 := Hf1.below bV9 (by omega)
  replace Hf2 := Hf2.below bV9 (by omega)
  clear bV9
  go_cut [15] (fun s wx => HfR V9 r x.den.val s wx)
  case first =>
    as_aux_lemma =>
      have lt_P13 := P13.lt
      have HS := Lib.hid (fun (u : World) (hu : Below (V9.heap.size) V9 u) => (⟨(hu.cell (p := ⟨g13, 0, none⟩) (by show g13 < _; omega)).trans P13.c0, (hu.cell (p := ⟨g13, 1, none⟩) (by show g13 < _; omega)).trans P13.c1, (hu.cell (p := ⟨g13, 2, none⟩) (by show g13 < _; omega)).trans P13.c2⟩ : u.cell? ⟨g13, 0, none⟩ = some (.bool f.m) ∧ u.cell? ⟨g13, 1, none⟩ = some (.slice f.A f.n f.c) ∧ u.cell? ⟨g13, 2, none⟩ = some (.slice f.D f.k f.d)))
      have G0 : Below V9.heap.size V9 V9.drew := Below.drew (Below.refl _ _)
      have g0s := G0.size
      have G0m : Below (V9.heap.size) V9 V9.drew := G0.mono (by omega)
      go_region_held3 (fun u => u.cell? ⟨g13, 0, none⟩ = some (.bool f.m) ∧ u.cell? ⟨g13, 1, none⟩ = some (.slice f.A f.n f.c) ∧ u.cell? ⟨g13, 2, none⟩ = some (.slice f.D f.k f.d)) (first | (refine HS.out _ ?_; (repeat (first | with_reducible exact G0m | with_reducible exact BN.mono (by omega) | with_reducible exact B2.mono (by omega) | with_reducible exact B1.mono (by omega) | with_reducible exact Below.refl _ _ | with_reducible refine Below.drew ?_ | with_reducible refine below_drewN ?_ _ | with_reducible refine Below.setCell ?_ (by first | (simp; done) | (simp; omega) | omega) _)); done) | fail)
        (first
          | (go_at_call 39; (with_reducible refine (number_any _ (1) (by decide) (by decide)).mono ?_); rintro e u1 ⟨m5, A5, k5, c5, y5, v5, rfl, hd5, hr5, hv5, hb5⟩; have B1 : Below V9.heap.size V9 u1 := bnext G0 hb5; have b1s := B1.size; have R6 := Lib.hid hr5; have T6 := Lib.hid hv5; clear hr5 hv5)
          | (go_at_call 40; (with_reducible refine (small_2 _).mono ?_); rintro e u2 ⟨A7, k7, c7, y7, rfl, hd7, hr7, hb7⟩; have B2 : Below V9.heap.size V9 u2 := bnext B1 hb7; have b2s := B2.size; have R7 := Lib.hid hr7; clear hr7; have hd5q := (hd5.below hb7 (Nat.le_refl _)).more hb7.size)
          | (go_at_call 19; (with_reducible refine (qorder_v _ u2.heap.size f (QV.mk m5 A5 k5 c5 y5 A7 k7 c7 y7) v3 v5 x.den.val.natAbs 2 (qv_at (DRd.below Hf1 B2 (by omega) |>.more (by omega)) (DRd.below Hf2 B2 (by omega) |>.more (by omega))) (qv_at (q := QV.mk m5 A5 k5 c5 y5 A7 k7 c7 y7) hd5q hd7) (Nat.le_refl _) R4 R5 R6 R7 tv3.out tp2.out (one_ltt T6.out) two_tt).mono ?_); rintro e u3 ⟨o, hic, rfl, hb8⟩; have BN : Below V9.heap.size V9 u3 := bnext B2 hb8; have IC := Lib.hid (half_is hic S4.out T6.out dn.out); clear hic)
          | fail)
      all_goals (go_wp2_with fail)
      all_goals go_meet
      all_goals exact ⟨o, rfl, IC, BN⟩
  case rest =>
  obtain ⟨o, rfl, IC, hbX⟩ := hcut
  replace B10 : Below (w10.heap.size) w10 wc := B10.trans (hbX.mono (by omega))
  replace P11 := P11.below hbX P11.lt
  replace P13 := P13.below hbX P13.lt
  replace E := E.trans (hbX.mono E.size)
  replace Ht := Ht.below hbX (by omega)
  replace Hy1 := Hy1.below hbX (by omega)
  replace Hy2 := Hy2.below hbX (by omega)
  replace P3 := P3.below hbX P3.lt
  replace P4 := P4.below hbX P4.lt
  replace F5 := F5.below hbX F5.lt
  replace hl6 := hl6.below hbX (by omega)
  replace P6 := P6.below hbX P6.lt
  replace F7 := F7.below hbX F7.lt
  replace F9 := F9.below hbX F9.lt
  replace Hp1 := Hp1.below hbX (by omega)
  replace Hp2 := Hp2.below hbX (by omega)
  replace hd2 := hd2.below hbX (by omega)
  replace P12 := P12.below hbX P12.lt
  replace Hf1 := Hf1.below hbX (by omega)
  replace Hf2 := Hf2.below hbX (by omega)
  replace P14 := P14.below hbX P14.lt
  have sX2 := hbX.size
  clear hbX
  obtain ⟨Vc2, hVc⟩ : ∃ y : World, y = wc := ⟨_, rfl⟩
  subst hVc
  go_upto_region 14 with fail
  obtain ⟨up, hup⟩ : ∃ y : Bool, y = decide (x.den.val < 2 * r ∨ (2 * r = x.den.val ∧ oddB q = true)) := ⟨_, rfl⟩
  have UP := Lib.hid hup
  clear hup
  go_cut [104] (fun s wx => s = .bool up ∧ Below Vc2.heap.size Vc2 wx)
  case first =>
    as_aux_lemma =>
      have hn2 := hd2.len.out
      have HN2 := Lib.hid hn2
      clear hn2
      rcases IC.out with ⟨rfl, hc⟩ | ⟨rfl, hc⟩ | ⟨rfl, hc⟩
      · obtain rfl : up = false := by rw [UP.out]; exact decide_eq_false (by omega)
        clear hc
        have t_P120 := P12.c0
        have t_P121 := P12.c1
        go_wp2_with fail
        clear t_P120 t_P121
        go_meet
        exact ⟨rfl, Below.refl _ _⟩
      · have HCC := Lib.hid hc
        clear hc
        rcases Nat.eq_zero_or_pos k2 with hk | hk
        · obtain rfl : up = false := by rw [UP.out]; exact decide_eq_false (by have h0 := odd_zero R3.out S3.out HN2.out hk; rw [h0]; have := HCC.out; intro h; rcases h with h | ⟨_, h⟩; omega; cases h)
          have hk2 : decide (0 < k2) = false := decide_eq_false (by omega)
          have hk3 : decide ((0 : Int) < (k2 : Int)) = false := decide_eq_false (by omega)
          subst hk
          have t_P120 := P12.c0
          have t_P121 := P12.c1
          go_wp2_with fail
          clear t_P120 t_P121
          go_meet
          exact ⟨rfl, Below.refl _ _⟩
        · have hk2 : decide (0 < k2) = true := decide_eq_true hk
          have hk3 : decide ((0 : Int) < (k2 : Int)) = true := decide_eq_true (by omega)
          have HO := Lib.hid (odd_pos R3.out S3.out)
          obtain ⟨b, off, hA, hb, hcl⟩ := hd2.rd hk
          have g1 : Vc2.cell? ⟨b, off, none⟩ = some (.int .i64 (nth x2 0)) := hcl 0 hk
          clear hcl
          rw [hA] at P12
          have a1 := nth_nn x2 0
          have a2 := Dig.nth hd2.lim 0
          have hpa : nth x2 0 % 2 = 0 ∨ nth x2 0 % 2 = 1 := by omega
          rcases hpa with hpa | hpa
          · obtain rfl : up = false := by
              rw [UP.out]
              have h0 : oddB q = false := by rw [HO.out, hpa]; rfl
              rw [h0]
              have := HCC.out
              first | exact decide_eq_true (.inr ⟨this, rfl⟩) | exact decide_eq_false (by intro h; rcases h with h | ⟨_, h⟩; omega; cases h)
            have hq2 : (nth x2 0 % 2 == 1) = false := by rw [hpa]; rfl
            clear hpa
            have t_P120 := P12.c0
            have t_P121 := P12.c1
            go_wp2_with fail
            clear t_P120 t_P121
            go_meet
            exact ⟨rfl, Below.refl _ _⟩
          · obtain rfl : up = true := by
              rw [UP.out]
              have h0 : oddB q = true := by rw [HO.out, hpa]; rfl
              rw [h0]
              have := HCC.out
              first | exact decide_eq_true (.inr ⟨this, rfl⟩) | exact decide_eq_false (by intro h; rcases h with h | ⟨_, h⟩; omega; cases h)
            have hq2 : (nth x2 0 % 2 == 1) = true := by rw [hpa]; rfl
            clear hpa
            have t_P120 := P12.c0
            have t_P121 := P12.c1
            go_wp2_with fail
            clear t_P120 t_P121
            go_meet
            exact ⟨rfl, Below.refl _ _⟩
      · obtain rfl : up = true := by rw [UP.out]; exact decide_eq_true (.inl hc)
        clear hc
        have t_P120 := P12.c0
        have t_P121 := P12.c1
        go_wp2_with fail
        clear t_P120 t_P121
        go_meet
        exact ⟨rfl, Below.refl _ _⟩
  case rest =>
  obtain ⟨rfl, hbX⟩ := hcut
  replace B10 : Below (w10.heap.size) w10 wc := B10.trans (hbX.mono (by omega))
  replace P11 := P11.below hbX P11.lt
  replace P13 := P13.below hbX P13.lt
  replace E := E.trans (hbX.mono E.size)
  replace Ht := Ht.below hbX (by omega)
  replace Hy1 := Hy1.below hbX (by omega)
  replace Hy2 := Hy2.below hbX (by omega)
  replace P3 := P3.below hbX P3.lt
  replace P4 := P4.below hbX P4.lt
  replace F5 := F5.below hbX F5.lt
  replace hl6 := hl6.below hbX (by omega)
  replace P6 := P6.below hbX P6.lt
  replace F7 := F7.below hbX F7.lt
  replace F9 := F9.below hbX F9.lt
  replace Hp1 := Hp1.below hbX (by omega)
  replace Hp2 := Hp2.below hbX (by omega)
  replace hd2 := hd2.below hbX (by omega)
  replace P12 := P12.below hbX P12.lt
  replace Hf1 := Hf1.below hbX (by omega)
  replace Hf2 := Hf2.below hbX (by omega)
  replace P14 := P14.below hbX P14.lt
  have sX3 := hbX.size
  clear hbX
  obtain ⟨Vc3, hVc⟩ : ∃ y : World, y = wc := ⟨_, rfl⟩
  subst hVc
  go_upto_if 104 with fail
  go_cut [] (fun wx => NrR Vc3 (Vc1.heap.size) (rnd q r x.den.val) wx)
  case first =>
    as_aux_lemma =>
      cases up
      · have hrd : rnd q r x.den.val = q := rnd_lo (of_decide_eq_false UP.out.symm)
        go_wp2_with fail
        go_meet
        exact ⟨m2, A2, k2, c2, x2, v2, P14, hd2.more (by omega), R3, Lib.hid (by rw [hrd]; exact S3.out), Below.refl _ _⟩
      · have hrd : rnd q r x.den.val = q + 1 := rnd_up (of_decide_eq_true UP.out.symm)
        have RD := Lib.hid hrd
        clear hrd
        go_upto_region 15 with fail
        have lt14 := P14.lt
        have lt_P12 := P12.lt
        have HS := Lib.hid (fun (u : World) (hu : Below (Vc1.heap.size) Vc3 u) => (⟨(hu.cell (p := ⟨w11.heap.size, 0, none⟩) (by show w11.heap.size < _; omega)).trans P12.c0, (hu.cell (p := ⟨w11.heap.size, 1, none⟩) (by show w11.heap.size < _; omega)).trans P12.c1⟩ : u.cell? ⟨w11.heap.size, 0, none⟩ = some (.bool m2) ∧ u.cell? ⟨w11.heap.size, 1, none⟩ = some (.slice A2 k2 c2)))
        have G0 : Below Vc3.heap.size Vc3 Vc3.drew := Below.drew (Below.refl _ _)
        have g0s := G0.size
        have G0m : Below (Vc1.heap.size) Vc3 Vc3.drew := G0.mono (by omega)
        go_region_held3 (fun u => u.cell? ⟨w11.heap.size, 0, none⟩ = some (.bool m2) ∧ u.cell? ⟨w11.heap.size, 1, none⟩ = some (.slice A2 k2 c2)) (first | (refine HS.out _ ?_; (repeat (first | with_reducible exact G0m | with_reducible exact BN.mono (by omega) | with_reducible exact B1.mono (by omega) | with_reducible exact Below.refl _ _ | with_reducible refine Below.drew ?_ | with_reducible refine below_drewN ?_ _ | with_reducible refine Below.setCell ?_ (by first | (simp; done) | (simp; omega) | omega) _)); done) | fail)
          (first
            | (go_at_call 39; (with_reducible refine (number_any _ (1) (by decide) (by decide)).mono ?_); rintro e u1 ⟨m5, A5, k5, c5, y5, v5, rfl, hd5, hr5, hv5, hb5⟩; have B1 : Below Vc3.heap.size Vc3 u1 := bnext G0 hb5; have b1s := B1.size; have R6 := Lib.hid hr5; have T6 := Lib.hid hv5; clear hr5 hv5)
            | (go_at_call 41; (with_reducible refine (rplus_any _ u1.heap.size m2 m5 A2 A5 k2 k5 c2 c5 v2 v5 x2 y5 (DRd.below hd2 B1 (by omega) |>.more (by omega)) hd5 (Nat.le_refl _) R3.out R6.out (Nat.le_trans (tt_len R3.out tv2.out hd2.len.out) (by decide)) (Nat.le_trans (tt_len R6.out (one_ltt T6.out) hd5.len.out) (by decide))).mono ?_); rintro e u2 ⟨m9, A9, k9, c9, x9, v9, rfl, hd9, hr9, hs9, hb9⟩; have BN : Below Vc3.heap.size Vc3 u2 := bnext B1 hb9; have b2s := BN.size; have R9 := Lib.hid hr9; have S9 := Lib.hid (show sval m9 v9 = rnd q r x.den.val by rw [hs9, S3.out, T6.out, RD.out]); clear hr9 hs9; have P14q := P14.below BN P14.lt; obtain ⟨_, _, _, _, _⟩ := id P14q)
            | fail)
        all_goals (go_wp2_with fail)
        all_goals go_meet
        all_goals exact ⟨m9, A9, k9, c9, x9, v9, P14q.set _ _, DRd.more (hd9.setBD P14q (by simp) (by simp) _ _) (by simp [World.setCell]), R9, S9, ((show Below (Vc1.heap.size) Vc3 u2 from BN.mono (by omega)).setCell (p := ⟨Vc1.heap.size, 0, none⟩) (Nat.le_refl _) _).setCell (p := ⟨Vc1.heap.size, 1, none⟩) (Nat.le_refl _) _⟩
  case rest =>
  obtain ⟨m9, A9, k9, c9, x9, v9, P14', hd9, R9, S9, hbX⟩ := hcut
  clear P14
  replace E : Below w.heap.size w wc := E.trans (hbX.mono (by omega))
  replace Ht := Ht.below hbX (by omega)
  replace Hy1 := Hy1.below hbX (by omega)
  replace Hy2 := Hy2.below hbX (by omega)
  replace P3 := P3.below hbX (by omega)
  replace P4 := P4.below hbX (by omega)
  replace F5 := F5.below hbX (by omega)
  replace hl6 := hl6.below hbX (by omega)
  replace P6 := P6.below hbX (by omega)
  replace F7 := F7.below hbX (by omega)
  replace F9 := F9.below hbX (by omega)
  replace Hp1 := Hp1.below hbX (by omega)
  replace Hp2 := Hp2.below hbX (by omega)
  replace B10 : Below (w10.heap.size) w10 wc := B10.trans (hbX.mono (by omega))
  replace P11 := P11.below hbX (by omega)
  replace hd2 := hd2.below hbX (by omega)
  replace P12 := P12.below hbX (by omega)
  replace P13 := P13.below hbX (by omega)
  replace Hf1 := Hf1.below hbX (by omega)
  replace Hf2 := Hf2.below hbX (by omega)
  have P14 := P14'
  clear P14'
  have sX4 := hbX.size
  clear hbX
  obtain ⟨Vc4, hVc⟩ : ∃ y : World, y = wc := ⟨_, rfl⟩
  subst hVc
  have l9 : k9 ≤ 100000 := Nat.le_trans (tt_len R9.out (lt_tt9 (by rw [← sval_abs m9 v9, S9.out]; exact rnd_lt FL.out VX.out.pos VX.out.bn)) hd9.len.out) (by decide)
  have l2 : k2 ≤ 100000 := Nat.le_trans (tt_len R3.out tv2.out hd2.len.out) (by decide)
  have lf1 : f.n ≤ 100000 := Nat.le_trans (tt_len R4.out tv3.out Hf1.len.out) (by decide)
  have lf2 : f.k ≤ 100000 := Nat.le_trans (tt_len R5.out tp2.out Hf2.len.out) (by decide)
  have t_F50 := F5.c0
  have t_F51 := F5.c1
  have t_F70 := F7.c0
  have t_F71 := F7.c1
  have t_P30 := P3.c0
  have t_P31 := P3.c1
  have t_P120 := P12.c0
  have t_P121 := P12.c1
  go_wp2_with fail
  clear t_F50 t_F51 t_F70 t_F71 t_P30 t_P31 t_P120 t_P121
  (with_reducible refine (sameInt_any _ Vc4.heap.size t.neg m2 t.A A2 t.n k2 t.c c2 v2 q t.xs x2 (Ht.more (by omega)) (hd2.more (by omega)) (Nat.le_refl _) I1.out R3.out S3.out l2).mono ?_)
  rintro e w20 ⟨rfl, hb20⟩
  have sw20 := hb20.size
  replace B10 : Below (w10.heap.size) w10 w20 := B10.trans (hb20.mono (by omega))
  replace P11 := P11.below hb20 P11.lt
  replace P13 := P13.below hb20 P13.lt
  replace E := E.trans (hb20.mono E.size)
  replace Ht := Ht.below hb20 (by omega)
  replace Hy1 := Hy1.below hb20 (by omega)
  replace Hy2 := Hy2.below hb20 (by omega)
  replace P3 := P3.below hb20 P3.lt
  replace P4 := P4.below hb20 P4.lt
  replace F5 := F5.below hb20 F5.lt
  replace hl6 := hl6.below hb20 (by omega)
  replace P6 := P6.below hb20 P6.lt
  replace F7 := F7.below hb20 F7.lt
  replace F9 := F9.below hb20 F9.lt
  replace Hp1 := Hp1.below hb20 (by omega)
  replace Hp2 := Hp2.below hb20 (by omega)
  replace hd2 := hd2.below hb20 (by omega)
  replace P12 := P12.below hb20 P12.lt
  replace Hf1 := Hf1.below hb20 (by omega)
  replace Hf2 := Hf2.below hb20 (by omega)
  replace P14 := P14.below hb20 P14.lt
  replace hd9 := hd9.below hb20 (by omega)
  clear hb20
  have t_P40 := P4.c0
  have t_P41 := P4.c1
  have t_P42 := P4.c2
  have t_P43 := P4.c3
  have t_P130 := P13.c0
  have t_P131 := P13.c1
  have t_P132 := P13.c2
  go_wp2_with fail
  clear t_P40 t_P41 t_P42 t_P43 t_P130 t_P131 t_P132
  (with_reducible refine (sameRatio_any _ w20.heap.size y f.m f.A f.D f.n f.c f.k f.d v3 x.den.val.natAbs r x.den.val f.xs f.ys (rv_at (Hy1.more (by omega)) (Hy2.more (by omega))) (Hf1.more (by omega)) (Hf2.more (by omega)) (Nat.le_refl _) I2 I3 R4 R5 S4 (Lib.hid (by rw [sval_f]; exact dn.out)) lf1 lf2).mono ?_)
  rintro e w21 ⟨rfl, hb21⟩
  have sw21 := hb21.size
  replace B10 : Below (w10.heap.size) w10 w21 := B10.trans (hb21.mono (by omega))
  replace P11 := P11.below hb21 P11.lt
  replace P13 := P13.below hb21 P13.lt
  replace E := E.trans (hb21.mono E.size)
  replace Ht := Ht.below hb21 (by omega)
  replace Hy1 := Hy1.below hb21 (by omega)
  replace Hy2 := Hy2.below hb21 (by omega)
  replace P3 := P3.below hb21 P3.lt
  replace P4 := P4.below hb21 P4.lt
  replace F5 := F5.below hb21 F5.lt
  replace hl6 := hl6.below hb21 (by omega)
  replace P6 := P6.below hb21 P6.lt
  replace F7 := F7.below hb21 F7.lt
  replace F9 := F9.below hb21 F9.lt
  replace Hp1 := Hp1.below hb21 (by omega)
  replace Hp2 := Hp2.below hb21 (by omega)
  replace hd2 := hd2.below hb21 (by omega)
  replace P12 := P12.below hb21 P12.lt
  replace Hf1 := Hf1.below hb21 (by omega)
  replace Hf2 := Hf2.below hb21 (by omega)
  replace P14 := P14.below hb21 P14.lt
  replace hd9 := hd9.below hb21 (by omega)
  clear hb21
  have t_P60 := P6.c0
  have t_P61 := P6.c1
  have t_P140 := P14.c0
  have t_P141 := P14.c1
  go_wp2_with fail
  clear t_P60 t_P61 t_P140 t_P141
  (with_reducible refine (sameInt_any _ w21.heap.size m6 m9 A6 A9 k6 k9 c6 c9 v9 (rnd q r x.den.val) x6 x9 (hl6.more (by omega)) (hd9.more (by omega)) (Nat.le_refl _) I6.out R9.out S9.out l9).mono ?_)
  rintro e w22 ⟨rfl, hb22⟩
  have sw22 := hb22.size
  replace B10 : Below (w10.heap.size) w10 w22 := B10.trans (hb22.mono (by omega))
  replace P11 := P11.below hb22 P11.lt
  replace P13 := P13.below hb22 P13.lt
  replace E := E.trans (hb22.mono E.size)
  replace Ht := Ht.below hb22 (by omega)
  replace Hy1 := Hy1.below hb22 (by omega)
  replace Hy2 := Hy2.below hb22 (by omega)
  replace P3 := P3.below hb22 P3.lt
  replace P4 := P4.below hb22 P4.lt
  replace F5 := F5.below hb22 F5.lt
  replace hl6 := hl6.below hb22 (by omega)
  replace P6 := P6.below hb22 P6.lt
  replace F7 := F7.below hb22 F7.lt
  replace F9 := F9.below hb22 F9.lt
  replace Hp1 := Hp1.below hb22 (by omega)
  replace Hp2 := Hp2.below hb22 (by omega)
  replace hd2 := hd2.below hb22 (by omega)
  replace P12 := P12.below hb22 P12.lt
  replace Hf1 := Hf1.below hb22 (by omega)
  replace Hf2 := Hf2.below hb22 (by omega)
  replace P14 := P14.below hb22 P14.lt
  replace hd9 := hd9.below hb22 (by omega)
  clear hb22
  clear F5 F7 P3 P4 P6 P14 hl6 Ht Hy1 Hy2 hd9 Hf1 Hf2 hd2
  go_wp2_with fail
  have lt11 := P11.lt
  have lt12 := P12.lt
  have EV := Lib.hid (And.intro E (And.intro F9 B10))
  have Hp12 : p.at w22 w22.heap.size := qv_at (Hp1.more (by omega)) (Hp2.more (by omega))
  have P11s := Lib.hid P11
  have P12s := Lib.hid P12
  have P13s := Lib.hid P13
  have lt13' := P13.lt
  clear E F9 B10 P11 P12 P13 Hp1 Hp2
  go_loopw [16] (fun i wr => RoRel w22 (w10.heap.size) (w11.heap.size) g13 zs N D i wr) (fun i _ => (400 - intOf i).toNat)
  case atStart =>
    refine ⟨0, x.num.val, x.den.val, p, f, m2, A2, k2, c2, v1, rfl, ?_, by omega, P11s.out, P12s.out, P13s.out, Hp12, R1, S1, R2, Lib.hid (by rw [List.drop_zero]; exact CH.out), Lib.hid ⟨VX.out.pos, VX.out.low, VX.out.bn, VX.out.bd⟩, Below.refl _ _⟩
    rcases CS.out with ⟨_, _, _, hD, _⟩ | ⟨_, _, _, h⟩
    · have h1 := CH.out
      rw [hD] at h1
      exact chain_end (k := 0) (by rw [List.drop_zero]; exact h1) (by have := VX.out.pos; omega)
    · omega
  case round =>
    clear P11s P12s P13s Hp12 R1 S1 R2 R3 S3 R4 S4 R5 R9 S9 tp1 tp2 tv2 tv3 lf1 lf2 l2 l9 dn dp FL FR FA UP IC I1 I2 I3 I6
    obtain ⟨k, n, d, pp, ff, mm, AA, aa, cc, vv, rfl, hkz, hk4, P11, P12, P13, hp, R1, S1, R2, CK, BK, E0⟩ := hrel
    have Hp1 : DRd wr wr.heap.size pp.A pp.n pp.c pp.xs := hp.1
    have Hp2 : DRd wr wr.heap.size pp.D pp.k pp.d pp.ys := hp.2
    clear hp
    have zE := E0.size
    have EW : Below w.heap.size w wr := EV.out.1.trans (E0.mono (by omega))
    have F9 : Bk2 wr (w3.heap.size) (.int .i64 h1) (.int .i64 h2) := EV.out.2.1.below E0 (by omega)
    have B10 : Below (w10.heap.size) w10 wr := EV.out.2.2.trans (E0.mono (by omega))
    have dn := Lib.hid (show ((d.natAbs : Nat) : Int) = d by have := BK.out.1; omega)
    have dp := Lib.hid (show 0 < d.natAbs by have := BK.out.1; omega)
    have tp1 := Lib.hid (show vv < TT from lt_tt9 (by rw [← sval_abs pp.m vv, S1.out]; exact BK.out.2.2.1))
    have tp2 := Lib.hid (show d.natAbs < TT from lt_tt9 BK.out.2.2.2)
    have lt13 := P13.lt
    by_cases hk : k = 400
    · as_aux_lemma =>
        rcases CS.out with ⟨_, _, hus, hD, hj⟩ | ⟨e1, e2, hj, hz⟩
        · exfalso
          have h3 := hlz.out
          have h4 := hlt.out
          rw [hus] at h3
          omega
        subst e1 e2 hj hk
        go_upto_region 21 with fail
        have lt_F9 := F9.lt
        have HS := Lib.hid (fun (u : World) (hu : Below (wr.heap.size) wr u) => (⟨(hu.cell (p := ⟨w3.heap.size, 0, none⟩) (by show w3.heap.size < _; omega)).trans F9.c0, (hu.cell (p := ⟨w3.heap.size, 1, none⟩) (by show w3.heap.size < _; omega)).trans F9.c1⟩ : u.cell? ⟨w3.heap.size, 0, none⟩ = some (.int .i64 2) ∧ u.cell? ⟨w3.heap.size, 1, none⟩ = some (.int .i64 (-1))))
        have G0 : Below wr.heap.size wr wr.drew := Below.drew (Below.refl _ _)
        have g0s := G0.size
        have G0m : Below (wr.heap.size) wr wr.drew := G0.mono (by omega)
        go_region_held3 (fun u => u.cell? ⟨w3.heap.size, 0, none⟩ = some (.int .i64 2) ∧ u.cell? ⟨w3.heap.size, 1, none⟩ = some (.int .i64 (-1))) (first | (refine HS.out _ ?_; (repeat (first | with_reducible exact G0m | with_reducible exact BN.mono (by omega) | with_reducible exact Below.refl _ _ | with_reducible refine Below.drew ?_ | with_reducible refine below_drewN ?_ _ | with_reducible refine Below.setCell ?_ (by first | (simp; done) | (simp; omega) | omega) _)); done) | fail)
          (first
            | (go_at_call 24; (with_reducible refine (at_any _ _ _).mono ?_); rintro e u1 ⟨rfl, hb1⟩; have BN : Below wr.heap.size wr u1 := bnext G0 hb1)
            | fail)
        all_goals (go_wp2_with fail)
        all_goals go_ret
        all_goals exact ⟨rfl, EW.trans (BN.mono EW.size)⟩
    · have hk5 : k < 400 := by omega
      have e4 : ((k : Int) == 400) = false := beq_eq_false_iff_ne.2 (by omega)
      clear hk
      have t_P110 := P11.c0
      have t_P111 := P11.c1
      have t_P112 := P11.c2
      go_wp2_with fail
      clear t_P110 t_P111 t_P112
      clear e4
      (with_reducible refine (qfloor_v _ wr.heap.size pp vv d.natAbs (qv_at Hp1 Hp2) (Nat.le_refl _) R1 R2 dp.out tp1.out tp2.out).mono ?_)
      rintro e w31 ⟨q, r, hf2, m2, A2, k2, c2, x2, v2, rfl, hd2, hr2, hs2, hb11⟩
      have sw31 := hb11.size
      replace E0 : Below (w10.heap.size) w22 w31 := E0.trans (hb11.mono (by omega))
      replace B10 : Below (w10.heap.size) w10 w31 := B10.trans (hb11.mono (by omega))
      replace P11 := P11.below hb11 P11.lt
      replace P13 := P13.below hb11 P13.lt
      replace EW := EW.trans (hb11.mono EW.size)
      replace P12 := P12.below hb11 P12.lt
      replace Hp1 := Hp1.below hb11 (by omega)
      replace Hp2 := Hp2.below hb11 (by omega)
      replace F9 := F9.below hb11 F9.lt
      clear hb11
      have FL := Lib.hid (show FloorOf n d q r by rw [S1.out, sval_f, dn.out] at hf2; exact hf2)
      have FR := Lib.hid (fl_rest FL.out BK.out.1 BK.out.2.1)
      have R3 := Lib.hid hr2
      have S3 := Lib.hid (show sval m2 v2 = q from hs2)
      have tv2 := Lib.hid (show v2 < TT from lt_tt9 (by rw [← sval_abs m2 v2, S3.out]; exact Nat.lt_of_le_of_lt (fl_abs FL.out BK.out.1) BK.out.2.2.1))
      clear hr2 hs2 hf2
      have y_P120 := P12.c0
      have z_P120 := P12.z0
      have y_P121 := P12.c1
      have z_P121 := P12.z1
      have lt_P12 := P12.lt
      go_upto_region 23 with fail
      clear y_P120 z_P120 y_P121 z_P121 lt_P12
      obtain ⟨U1P12, hU1P12⟩ : ∃ U1P12 : World, U1P12 = ((w31.setCell ⟨w11.heap.size, 0, none⟩ (.bool m2)).setCell ⟨w11.heap.size, 1, none⟩ (.slice A2 k2 c2)) := ⟨_, rfl⟩
      have zU1P12 : U1P12.heap.size = w31.heap.size := by rw [hU1P12]; simp [World.setCell]
      replace E0 : Below (w10.heap.size) w22 U1P12 := by rw [hU1P12]; exact ((E0.setCell (by first | (simp; done) | (simp; omega)) _).setCell (by first | (simp; done) | (simp; omega)) _)
      replace EW : Below w.heap.size w U1P12 := by rw [hU1P12]; exact ((EW.setCell (by first | (simp; done) | (simp; omega)) _).setCell (by first | (simp; done) | (simp; omega)) _)
      replace B10 : Below (w10.heap.size) w10 U1P12 := by rw [hU1P12]; exact ((B10.setCell (by first | (simp; done) | (simp; omega)) _).setCell (by first | (simp; done) | (simp; omega)) _)
      replace Hp1 : DRd U1P12 (wr.heap.size) pp.A pp.n pp.c pp.xs := by rw [hU1P12]; first | exact Hp1.setFar2 (by omega) _ _ | exact Hp1.setBD P12 (by simp) (by simp) _ _
      replace Hp2 : DRd U1P12 (wr.heap.size) pp.D pp.k pp.d pp.ys := by rw [hU1P12]; first | exact Hp2.setFar2 (by omega) _ _ | exact Hp2.setBD P12 (by simp) (by simp) _ _
      replace F9 : Bk2 U1P12 (w3.heap.size) (.int .i64 h1) (.int .i64 h2) := by rw [hU1P12]; exact F9.far2 (by omega) _ _
      replace hd2 : DRd U1P12 (w31.heap.size) A2 k2 c2 x2 := by rw [hU1P12]; first | exact hd2.setFar2 (by omega) _ _ | exact hd2.setBD P12 (by simp) (by simp) _ _
      replace P12 : Bk2 U1P12 (w11.heap.size) (.bool m2) (.slice A2 k2 c2) := by rw [hU1P12]; exact P12.set _ _
      replace P11 : Bk3 U1P12 (w10.heap.size) (.bool pp.m) (.slice pp.A pp.n pp.c) (.slice pp.D pp.k pp.d) := by rw [hU1P12]; exact P11.far2 (by omega) _ _
      replace P13 : Bk3 U1P12 (g13) (.bool ff.m) (.slice ff.A ff.n ff.c) (.slice ff.D ff.k ff.d) := by rw [hU1P12]; exact P13.far2 (by omega) _ _
      rw [← hU1P12]
      clear hU1P12
      have zU1P12' := Nat.le_of_eq zU1P12
      replace zU1P12 := Nat.le_of_eq zU1P12.symm
      have l2 : k2 ≤ 100000 := Nat.le_trans (tt_len R3.out tv2.out hd2.len.out) (by decide)
      go_cut [165] (fun s wx => s = .bool false ∧ Below U1P12.heap.size U1P12 wx)
      case first =>
        as_aux_lemma =>
          rcases CS.out with ⟨e1, e2, hus, hD, hj⟩ | ⟨e1, e2, hj, hz⟩
          · subst e1 e2
            have hzl := hlz.out
            have htl := hlt.out
            rw [hus] at hzl
            have hkj : k < j := by omega
            obtain ⟨gr, eA, hg, hcell⟩ := T10.out.1.2.2.2 (by omega)
            subst eA
            have hgk := hcell k (by omega)
            have htr := T10.out.2.2 k (by omega) (by rw [hus]; exact hkz)
            obtain ⟨tt, htt⟩ : ∃ t, t = ts[k]'(by omega) := ⟨_, rfl⟩
            rw [← htt] at hgk htr
            have IT := Lib.hid (show IRep tt.neg tt.xs q by have h9 := htr.2; have h8 := (chain_at CK.out hkz).2.1; rw [FR.out.2.2.2.1, ← h8]; simp only [hus] at h9; exact h9)
            have HT : LRd U1P12 (w10.heap.size) tt.A tt.n tt.c tt.xs := LRd.below htr.1 B10 (Nat.le_refl _)
            have q0 : U1P12.cell? ⟨gr, k * 2, none⟩ = some (.bool tt.neg) := (B10.cell (p := ⟨gr, k * 2, none⟩) hg).trans hgk.1
            have q1 : U1P12.cell? ⟨gr, k * 2 + 1, none⟩ = some (.slice tt.A tt.n tt.c) := (B10.cell (p := ⟨gr, k * 2 + 1, none⟩) hg).trans hgk.2
            have hgc : gr < U1P12.heap.size := by have := B10.size; omega
            have zB := B10.size
            have hw3 : (0 : Int) ≤ (k : Int) := by omega
            have hw4 : (k : Int) < (j : Int) := by omega
            have hw6 : decide ((k : Int) < (j : Int)) = true := decide_eq_true hw4
            have hw8 : decide ((j : Int) ≤ (k : Int)) = false := decide_eq_false (by omega)
            have hw9 : decide (j ≤ k) = false := decide_eq_false (by omega)
            have hw7 : (k : Int).toNat = k := by omega
            clear hus hD hj hzl htl hcell hgk htr htt
            have lt_F9 := F9.lt
            have lt_P12 := P12.lt
            have HS := Lib.hid (fun (u : World) (hu : Below U1P12.heap.size U1P12 u) => (⟨(hu.cell (p := ⟨w3.heap.size, 0, none⟩) (by show w3.heap.size < _; omega)).trans F9.c0, (hu.cell (p := ⟨w3.heap.size, 1, none⟩) (by show w3.heap.size < _; omega)).trans F9.c1, (hu.cell (p := ⟨w11.heap.size, 0, none⟩) (by show w11.heap.size < _; omega)).trans P12.c0, (hu.cell (p := ⟨w11.heap.size, 1, none⟩) (by show w11.heap.size < _; omega)).trans P12.c1, (hu.cell (p := ⟨gr, k * 2, none⟩) (by show gr < _; omega)).trans q0, (hu.cell (p := ⟨gr, k * 2 + 1, none⟩) (by show gr < _; omega)).trans q1⟩ : u.cell? ⟨w3.heap.size, 0, none⟩ = some (.int .i64 0) ∧ u.cell? ⟨w3.heap.size, 1, none⟩ = some (.int .i64 0) ∧ u.cell? ⟨w11.heap.size, 0, none⟩ = some (.bool m2) ∧ u.cell? ⟨w11.heap.size, 1, none⟩ = some (.slice A2 k2 c2) ∧ u.cell? ⟨gr, k * 2, none⟩ = some (.bool tt.neg) ∧ u.cell? ⟨gr, k * 2 + 1, none⟩ = some (.slice tt.A tt.n tt.c)))
            have G0 : Below U1P12.heap.size U1P12 U1P12.drew := Below.drew (Below.refl _ _)
            have g0s := G0.size
            have G0m : Below U1P12.heap.size U1P12 U1P12.drew := G0
            clear q0 q1
            go_region_held3 (fun u => u.cell? ⟨w3.heap.size, 0, none⟩ = some (.int .i64 0) ∧ u.cell? ⟨w3.heap.size, 1, none⟩ = some (.int .i64 0) ∧ u.cell? ⟨w11.heap.size, 0, none⟩ = some (.bool m2) ∧ u.cell? ⟨w11.heap.size, 1, none⟩ = some (.slice A2 k2 c2) ∧ u.cell? ⟨gr, k * 2, none⟩ = some (.bool tt.neg) ∧ u.cell? ⟨gr, k * 2 + 1, none⟩ = some (.slice tt.A tt.n tt.c)) (first | (refine HS.out _ ?_; (repeat (first | with_reducible exact G0m | with_reducible exact BN.mono (by omega) | with_reducible exact Below.refl _ _ | with_reducible refine Below.drew ?_ | with_reducible refine below_drewN ?_ _ | with_reducible refine Below.setCell ?_ (by first | (simp; done) | (simp; omega) | omega) _)); done) | fail)
              (first
                | (go_at_call 42; (with_reducible refine (sameInt_any _ U1P12.heap.size tt.neg m2 tt.A A2 tt.n k2 tt.c c2 v2 q tt.xs x2 ((HT.below G0 (by omega)).more (by omega)) ((hd2.below G0 (by omega)).more (by omega)) (Nat.le_refl _) IT.out R3.out S3.out l2).mono ?_); rintro e u1 ⟨rfl, hb1⟩; have BN : Below U1P12.heap.size U1P12 u1 := bnext G0 hb1)
                | fail)
            all_goals (go_wp2_with fail)
            all_goals go_meet
            all_goals exact ⟨rfl, BN⟩
          · subst e1 e2
            clear hj hz
            obtain ⟨f0, f1, _, _, _⟩ := F9
            have f2 : ((2 : Int) == 0) = false := rfl
            clear P12 hd2 B10
            go_quiet (fail)
            all_goals (go_wp2_with fail)
            all_goals go_meet
            all_goals exact ⟨rfl, by (repeat (first | exact Below.refl _ _ | refine below_drewN ?_ _ | refine Below.drew ?_))⟩
      case rest =>
      obtain ⟨rfl, hbX⟩ := hcut
      replace E0 : Below (w10.heap.size) w22 wc := E0.trans (hbX.mono (by omega))
      replace B10 : Below (w10.heap.size) w10 wc := B10.trans (hbX.mono (by omega))
      replace P11 := P11.below hbX P11.lt
      replace P13 := P13.below hbX P13.lt
      replace EW := EW.trans (hbX.mono EW.size)
      replace P12 := P12.below hbX P12.lt
      replace Hp1 := Hp1.below hbX (by omega)
      replace Hp2 := Hp2.below hbX (by omega)
      replace F9 := F9.below hbX F9.lt
      replace hd2 := hd2.below hbX (by omega)
      have sY1 := hbX.size
      clear hbX
      obtain ⟨Vd1, hVd⟩ : ∃ y : World, y = wc := ⟨_, rfl⟩
      subst hVd
      go_upto_region 25 with fail
      go_cut [] (fun wx => LsR Vd1 g13 r d.natAbs wx)
      case first =>
        as_aux_lemma =>
          have lt_P11 := P11.lt
          have lt_P12 := P12.lt
          have HS := Lib.hid (fun (u : World) (hu : Below (g13) Vd1 u) => (⟨(hu.cell (p := ⟨w10.heap.size, 0, none⟩) (by show w10.heap.size < _; omega)).trans P11.c0, (hu.cell (p := ⟨w10.heap.size, 1, none⟩) (by show w10.heap.size < _; omega)).trans P11.c1, (hu.cell (p := ⟨w10.heap.size, 2, none⟩) (by show w10.heap.size < _; omega)).trans P11.c2, (hu.cell (p := ⟨w11.heap.size, 0, none⟩) (by show w11.heap.size < _; omega)).trans P12.c0, (hu.cell (p := ⟨w11.heap.size, 1, none⟩) (by show w11.heap.size < _; omega)).trans P12.c1⟩ : u.cell? ⟨w10.heap.size, 0, none⟩ = some (.bool pp.m) ∧ u.cell? ⟨w10.heap.size, 1, none⟩ = some (.slice pp.A pp.n pp.c) ∧ u.cell? ⟨w10.heap.size, 2, none⟩ = some (.slice pp.D pp.k pp.d) ∧ u.cell? ⟨w11.heap.size, 0, none⟩ = some (.bool m2) ∧ u.cell? ⟨w11.heap.size, 1, none⟩ = some (.slice A2 k2 c2)))
          have G0 : Below Vd1.heap.size Vd1 Vd1.drew := Below.drew (Below.refl _ _)
          have g0s := G0.size
          have G0m : Below (g13) Vd1 Vd1.drew := G0.mono (by omega)
          have lt13q := P13.lt
          go_region_held3 (fun u => u.cell? ⟨w10.heap.size, 0, none⟩ = some (.bool pp.m) ∧ u.cell? ⟨w10.heap.size, 1, none⟩ = some (.slice pp.A pp.n pp.c) ∧ u.cell? ⟨w10.heap.size, 2, none⟩ = some (.slice pp.D pp.k pp.d) ∧ u.cell? ⟨w11.heap.size, 0, none⟩ = some (.bool m2) ∧ u.cell? ⟨w11.heap.size, 1, none⟩ = some (.slice A2 k2 c2)) (first | (refine HS.out _ ?_; (repeat (first | with_reducible exact G0m | with_reducible exact BN.mono (by omega) | with_reducible exact B2.mono (by omega) | with_reducible exact B1.mono (by omega) | with_reducible exact Below.refl _ _ | with_reducible refine Below.drew ?_ | with_reducible refine below_drewN ?_ _ | with_reducible refine Below.setCell ?_ (by first | (simp; done) | (simp; omega) | omega) _)); done) | fail)
            (first
              | (go_at_call 38; (with_reducible refine (qwhole_v _ Vd1.heap.size m2 A2 k2 c2 v2 x2 (DRd.more (B := Vd1.heap.size) (DRd.below (hd2.more (by omega)) (B' := Vd1.heap.size) (by (repeat (first | with_reducible exact G0 | with_reducible exact B2 | with_reducible exact B1 | with_reducible exact Below.refl _ _ | with_reducible refine Below.drew ?_ | with_reducible refine Below.alloc ?_ (by first | (simp; done) | (simp; omega) | omega) _))) (Nat.le_refl _)) (by first | (simp; done) | (simp; omega) | omega)) (by first | (simp; done) | (simp; omega) | omega) R3).mono ?_); rintro e u1 ⟨f1, rfl, hf1, ⟨vf, g1, g2, g3⟩, hb1⟩; have B1 : Below Vd1.heap.size Vd1 u1 := (by refine bnext ?_ hb1; (repeat (first | with_reducible exact G0 | with_reducible exact B2 | with_reducible exact B1 | with_reducible exact Below.refl _ _ | with_reducible refine Below.drew ?_ | with_reducible refine Below.alloc ?_ (by first | (simp; done) | (simp; omega) | omega) _))); have b1s := B1.size; have RF := Lib.hid g1; have SF := Lib.hid g2; have RG := Lib.hid g3; have A1x : DRd u1 u1.heap.size f1.A f1.n f1.c f1.xs := hf1.1; have A1y : DRd u1 u1.heap.size f1.D f1.k f1.d f1.ys := hf1.2; have WF := Lib.hid (show vf < TT from by have h8 := sval_abs f1.m vf; rw [SF.out, sval_abs] at h8; rw [← h8]; exact tv2.out); clear g1 g2 g3 hf1)
              | (go_at_call 21; (with_reducible refine (qless_v _ u1.heap.size pp f1 vv vf d.natAbs 1 (qv_at (DRd.more (B := Vd1.heap.size) (DRd.below (Hp1.more (by omega)) (B' := Vd1.heap.size) (by (repeat (first | with_reducible exact G0 | with_reducible exact B2 | with_reducible exact B1 | with_reducible exact Below.refl _ _ | with_reducible refine Below.drew ?_ | with_reducible refine Below.alloc ?_ (by first | (simp; done) | (simp; omega) | omega) _))) (Nat.le_refl _)) (by first | (simp; done) | (simp; omega) | omega)) (DRd.more (B := Vd1.heap.size) (DRd.below (Hp2.more (by omega)) (B' := Vd1.heap.size) (by (repeat (first | with_reducible exact G0 | with_reducible exact B2 | with_reducible exact B1 | with_reducible exact Below.refl _ _ | with_reducible refine Below.drew ?_ | with_reducible refine Below.alloc ?_ (by first | (simp; done) | (simp; omega) | omega) _))) (Nat.le_refl _)) (by first | (simp; done) | (simp; omega) | omega))) (qv_at (DRd.below A1x (B' := u1.heap.size) (by (repeat (first | with_reducible exact Below.refl _ _ | with_reducible refine Below.drew ?_))) (Nat.le_refl _)) (DRd.below A1y (B' := u1.heap.size) (by (repeat (first | with_reducible exact Below.refl _ _ | with_reducible refine Below.drew ?_))) (Nat.le_refl _))) (by first | (simp; done) | (simp; omega) | omega) R1 R2 RF RG tp1.out tp2.out WF.out one_tt (Lib.hid (Nat.mul_pos dp.out (by decide)))).mono ?_); rintro e u2 ⟨y1, y2, hlo, f2, rfl, hf2, hi2, hb2⟩; have L2 := Lib.hid (show LowOf _ _ y1 y2 from (by rw [SF.out] at hlo; exact hlo)); have B2 : Below Vd1.heap.size Vd1 u2 := (by refine bnext ?_ hb2; (repeat (first | with_reducible exact G0 | with_reducible exact B2 | with_reducible exact B1 | with_reducible exact Below.refl _ _ | with_reducible refine Below.drew ?_ | with_reducible refine Below.alloc ?_ (by first | (simp; done) | (simp; omega) | omega) _))); have b2s := B2.size; have LI := Lib.hid (left_is L2.out S1.out S3.out dn.out FL.out BK.out.1 BK.out.2.1); have BN := B2; have A3 : f2.at u2 u2.heap.size := hf2; have I3' := Lib.hid (show f2.is r d.natAbs from by have h9 := hi2; rw [LI.out.1, LI.out.2] at h9; exact h9); clear hlo hi2 hf2; have P13q := P13.below BN P13.lt; obtain ⟨_, _, _, _, _, _, _⟩ := id P13q)
              | fail)
          all_goals (go_wp2_with fail)
          all_goals go_meet
          all_goals exact ⟨f2, P13q.put _ _ _, QV.at.set3 A3 P13q _ _ _, I3', (((show Below g13 Vd1 u2 from BN.mono (by omega)).setCell (p := ⟨g13, 0, none⟩) (Nat.le_refl _) _).setCell (p := ⟨g13, 1, none⟩) (Nat.le_refl _) _).setCell (p := ⟨g13, 2, none⟩) (Nat.le_refl _) _⟩
      case rest =>
      obtain ⟨f, P13', hf, FI, hbX⟩ := hcut
      clear P13 hd2 Hp1 Hp2
      replace E0 : Below (w10.heap.size) w22 wc := E0.trans (hbX.mono (by omega))
      replace EW : Below w.heap.size w wc := EW.trans (hbX.mono (by omega))
      replace B10 : Below (w10.heap.size) w10 wc := B10.trans (hbX.mono (by omega))
      replace P12 := P12.below hbX (by omega)
      replace F9 := F9.below hbX (by omega)
      replace P11 := P11.below hbX (by omega)
      have P13 := P13'
      clear P13'
      have sY2 := hbX.size
      clear hbX
      obtain ⟨v3, i1, i2, i3⟩ := FI.out
      have R4 := Lib.hid i1
      have S4 := Lib.hid i2
      have R5 := Lib.hid i3
      clear i1 i2 i3 FI
      obtain ⟨Vd2, hVd⟩ : ∃ y : World, y = wc := ⟨_, rfl⟩
      subst hVd
      have Hf1 : DRd Vd2 Vd2.heap.size f.A f.n f.c f.xs := hf.1
      have Hf2 : DRd Vd2 Vd2.heap.size f.D f.k f.d f.ys := hf.2
      clear hf
      have hv3 : v3 = r.natAbs := by rw [← sval_abs f.m v3, S4.out]
      have HV3 := Lib.hid hv3
      clear hv3
      by_cases hr0 : r = 0
      · as_aux_lemma =>
          have hfn : f.n = 0 := by
            have h1 := R4.out
            rw [HV3.out, hr0] at h1
            have h2 := h1.zero_nil (by decide)
            have h3 := Hf1.len.out
            rw [h2] at h3
            exact h3.symm
          rcases CS.out with ⟨e1, e2, hus, hD, hj⟩ | ⟨e1, e2, hj, hz⟩
          rotate_left
          · exfalso
            have h1 := (chain_at CK.out hkz).2.2
            rw [← FR.out.2.2.2.2, hr0] at h1
            have := chain_zero h1
            omega
          subst e1 e2
          have hjk : j = k + 1 := by
            have h1 := (chain_at CK.out hkz).2.2
            rw [← FR.out.2.2.2.2, hr0] at h1
            have h2 := chain_zero h1
            have h3 := hlz.out
            have h4 := hlt.out
            rw [hus] at h3
            omega
          rw [hfn] at P13
          have e5 : ((j : Int) == (k : Int) + 1) = true := beq_iff_eq.2 (by omega)
          have HJK := Lib.hid hjk
          clear hjk hfn hus hD hj hr0
          have t_P130 := P13.c0
          have t_P131 := P13.c1
          have t_P132 := P13.c2
          have t_F90 := F9.c0
          have t_F91 := F9.c1
          go_wp2_with fail
          clear t_P130 t_P131 t_P132 t_F90 t_F91
          go_ret
          exact ⟨rfl, EW⟩
      · as_aux_lemma =>
          have CKN := Lib.hid (show Chain (zs.drop (k + 1)) d r N D by have h1 := (chain_at CK.out hkz).2.2; rw [← FR.out.2.2.2.2] at h1; exact h1)
          have BKN := Lib.hid (show 0 < r ∧ Nat.gcd d.natAbs r.natAbs = 1 ∧ d.natAbs < Top128 ∧ r.natAbs < Top128 from ⟨by have := FR.out.1; omega, by rw [Nat.gcd_comm]; exact FR.out.2.2.1, BK.out.2.2.2, by have := BK.out.2.2.2; have := FR.out.1; have := FR.out.2.1; omega⟩)
          have HK1 := Lib.hid (show k + 1 < zs.length by
            rcases CS.out with ⟨_, _, _, hD, _⟩ | ⟨_, _, _, hz⟩
            · have h1 := CKN.out
              rw [hD] at h1
              exact chain_end h1 hr0
            · omega)
          have hfn : 0 < f.n := by
            rcases Nat.eq_zero_or_pos f.n with e | e
            · exfalso
              have h1 := rep_nil R4.out Hf1.len.out e
              have h2 := HV3.out
              omega
            · exact e
          clear hr0
          have e5 : ((f.n : Int) == 0) = false := beq_eq_false_iff_ne.2 (by omega)
          have t_P130 := P13.c0
          have t_P131 := P13.c1
          have t_P132 := P13.c2
          go_wp2_with fail
          clear t_P130 t_P131 t_P132
          clear e5
          (with_reducible refine (qturned_v _ Vd2.heap.size f v3 d.natAbs (qv_at Hf1 Hf2) (by omega) R4 R5).mono ?_)
          rintro e w41 ⟨p2, rfl, hp2, hi2, hb41⟩
          have sw41 := hb41.size
          replace E0 : Below (w10.heap.size) w22 w41 := E0.trans (hb41.mono (by omega))
          replace B10 : Below (w10.heap.size) w10 w41 := B10.trans (hb41.mono (by omega))
          replace P11 := P11.below hb41 P11.lt
          replace P13 := P13.below hb41 P13.lt
          replace EW := EW.trans (hb41.mono EW.size)
          replace P12 := P12.below hb41 P12.lt
          replace F9 := F9.below hb41 F9.lt
          replace Hf1 := Hf1.below hb41 (by omega)
          replace Hf2 := Hf2.below hb41 (by omega)
          clear hb41
          obtain ⟨v5, i1, i2, i3⟩ := hi2
          have R6 := Lib.hid i1
          have S6 := Lib.hid (show sval p2.m v5 = d by rw [i2]; exact sv_pos S4.out BKN.out.1 dn.out)
          have R7 := Lib.hid (show Rep 65536 p2.ys r.natAbs by rw [← HV3.out]; exact i3)
          clear i1 i2 i3
          have Hq1 : DRd w41 w41.heap.size p2.A p2.n p2.c p2.xs := hp2.1
          have Hq2 : DRd w41 w41.heap.size p2.D p2.k p2.d p2.ys := hp2.2
          clear hp2
          clear Hf1 Hf2
          have y_P110 := P11.c0
          have z_P110 := P11.z0
          have y_P111 := P11.c1
          have z_P111 := P11.z1
          have y_P112 := P11.c2
          have z_P112 := P11.z2
          have lt_P11 := P11.lt
          go_wp2_with fail
          clear y_P110 z_P110 y_P111 z_P111 y_P112 z_P112 lt_P11
          obtain ⟨U3P11, hU3P11⟩ : ∃ U3P11 : World, U3P11 = (((w41.setCell ⟨w10.heap.size, 0, none⟩ (.bool p2.m)).setCell ⟨w10.heap.size, 1, none⟩ (.slice p2.A p2.n p2.c)).setCell ⟨w10.heap.size, 2, none⟩ (.slice p2.D p2.k p2.d)) := ⟨_, rfl⟩
          have zU3P11 : U3P11.heap.size = w41.heap.size := by rw [hU3P11]; simp [World.setCell]
          replace E0 : Below (w10.heap.size) w22 U3P11 := by rw [hU3P11]; exact (((E0.setCell (by first | (simp; done) | (simp; omega)) _).setCell (by first | (simp; done) | (simp; omega)) _).setCell (by first | (simp; done) | (simp; omega)) _)
          replace EW : Below w.heap.size w U3P11 := by rw [hU3P11]; exact (((EW.setCell (by first | (simp; done) | (simp; omega)) _).setCell (by first | (simp; done) | (simp; omega)) _).setCell (by first | (simp; done) | (simp; omega)) _)
          replace B10 : Below (w10.heap.size) w10 U3P11 := by rw [hU3P11]; exact (((B10.setCell (by first | (simp; done) | (simp; omega)) _).setCell (by first | (simp; done) | (simp; omega)) _).setCell (by first | (simp; done) | (simp; omega)) _)
          replace P12 : Bk2 U3P11 (w11.heap.size) (.bool m2) (.slice A2 k2 c2) := by rw [hU3P11]; exact P12.far3 (by omega) _ _ _
          replace F9 : Bk2 U3P11 (w3.heap.size) (.int .i64 h1) (.int .i64 h2) := by rw [hU3P11]; exact F9.far3 (by omega) _ _ _
          replace P13 : Bk3 U3P11 (g13) (.bool f.m) (.slice f.A f.n f.c) (.slice f.D f.k f.d) := by rw [hU3P11]; exact P13.far33 (by omega) _ _ _
          replace Hq1 : DRd U3P11 (w41.heap.size) p2.A p2.n p2.c p2.xs := by rw [hU3P11]; first | exact Hq1.set3 (by omega) _ _ _ | exact DRd.more (DRd.set3k Hq1 (Nat.le_refl _) P11.c0 P11.c1 P11.c2) (by simp [World.setCell])
          replace Hq2 : DRd U3P11 (w41.heap.size) p2.D p2.k p2.d p2.ys := by rw [hU3P11]; first | exact Hq2.set3 (by omega) _ _ _ | exact DRd.more (DRd.set3k Hq2 (Nat.le_refl _) P11.c0 P11.c1 P11.c2) (by simp [World.setCell])
          replace P11 : Bk3 U3P11 (w10.heap.size) (.bool p2.m) (.slice p2.A p2.n p2.c) (.slice p2.D p2.k p2.d) := by rw [hU3P11]; exact P11.put _ _ _
          rw [← hU3P11]
          clear hU3P11
          have zU3P11' := Nat.le_of_eq zU3P11
          replace zU3P11 := Nat.le_of_eq zU3P11.symm
          go_roundw
          case rel =>
            first | exact ⟨k + 1, d, r, p2, f, m2, A2, k2, c2, v5, by first | rfl | go_num, HK1.out, by omega, P11, P12, P13, qv_at (Hq1.more (by omega)) (Hq2.more (by omega)), R6, S6, R7, CKN, BKN, E0⟩ | ((repeat apply Exists.intro); exact ⟨⟨k + 1, d, r, p2, f, m2, A2, k2, c2, v5, by first | rfl | go_num, HK1.out, by omega, P11, P12, P13, qv_at (Hq1.more (by omega)) (Hq2.more (by omega)), R6, S6, R7, CKN, BKN, E0⟩, rfl⟩)
          case measure => first | (simp [intOf]; done) | (simp [intOf]; omega)
theorem rounds_any (w : World) (x : RV) (HX : x.at w w.heap.size) :
    Calls Tryz.prog 5 #[x.v] w (fun e w' => e = .returned (.bool true) ∧ Below w.heap.size w w') := by
  cases ox : x.ok
  · exact rounds_bad w x (-1) HX (rf1 ox)
  · exact rounds_ok w x HX (rf0 ox) (Lib.hid ox)
end Go.Proofs.YtflmcgoijofpdaaGreat
