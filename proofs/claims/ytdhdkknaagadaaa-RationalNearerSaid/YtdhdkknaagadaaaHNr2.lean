/- RationalNearer: the law. -/
import Derived.Test.YtdhdkknaagadaaaHNr1
import Derived.Deep.DeepCutAuto
namespace Go.Proofs.Ytdhdkknaagadaaa
open Go.RowKit
set_option maxHeartbeats 400000
set_option maxRecDepth 100000
set_option linter.unusedSimpArgs false
set_option linter.unusedVariables false

theorem lt_top2 {v : Nat} (h : v < 4294967296 * 4294967296) : v < Top128 := by
  obtain ⟨m, hm⟩ : ∃ m, m = 60 := ⟨_, rfl⟩
  have := tn_mul (a := 0) (by rw [tn_eq hm]; exact Nat.pow_pos (by decide)) (Nat.le_of_lt h)
  omega
theorem less_is {b c : Nat} {n0 yn y1 : Int} {y2 : Nat} {m n : Bool} {u v : Nat} (h : LowOf (sval m u * ((c : Nat) : Int) - sval n v * ((b : Nat) : Int)) (b * c) y1 y2) (h1 : sval m u = n0) (h2 : sval n v = yn) : LowOf (n0 * (c : Int) - yn * (b : Int)) (b * c) y1 y2 := by rw [h1, h2] at h; exact h
theorem abs_is {m n : Bool} {u v : Nat} {z : Int} (h : sval m u = ((v : Nat) : Int)) (h2 : sval n v = z) : sval m u = ((z.natAbs : Nat) : Int) := by rw [h, ← h2, sval_abs]
theorem low_bd {n0 yn y1 : Int} {b c y2 v : Nat} {m : Bool} (L : LowOf (n0 * (c : Int) - yn * (b : Int)) (b * c) y1 y2) (hv : sval m v = ((y1.natAbs : Nat) : Int)) (hb : b < Top128) (hc : c < Top128) (hn : n0.natAbs < Top128) (hy : yn.natAbs < Top128) : v < TT ∧ y2 < TT := by
  obtain ⟨_, _, _, h4, h5⟩ := L
  have h1 : (n0 * (c : Int)).natAbs < Top128 * Top128 := by rw [Int.natAbs_mul]; exact Nat.mul_lt_mul'' hn hc
  have h2 : (yn * (b : Int)).natAbs < Top128 * Top128 := by rw [Int.natAbs_mul]; exact Nat.mul_lt_mul'' hy hb
  have h3 : b * c < Top128 * Top128 := Nat.mul_lt_mul'' hb hc
  have h6 := top_tt
  have h7 := sval_abs m v
  rw [hv] at h7
  omega
theorem ord_le {r : Int} (h : r ≤ 0) : decide (r ≤ 0) = true := decide_eq_true h
theorem icmp_le {x y r : Int} (h : ICmp x y r) (hxy : x ≤ y) : r ≤ 0 := by unfold ICmp at h; omega
theorem nearer1 {n0 d0 m mm yn yd zn zd r ga za : Int} {gw zw gv v3 : Nat} {mg m3 : Bool} (h : ICmp (sval m3 v3 * ((gw : Nat) : Int)) (sval mg gv * ((zw : Nat) : Int)) r) (hz : sval m3 v3 = ((za.natAbs : Nat) : Int)) (hg : sval mg gv = ((ga.natAbs : Nat) : Int)) (LZ : LowOf (n0 * (zd.natAbs : Int) - zn * (d0.natAbs : Int)) (d0.natAbs * zd.natAbs) za zw) (LY : LowOf (n0 * (yd.natAbs : Int) - yn * (d0.natAbs : Int)) (d0.natAbs * yd.natAbs) ga gw) (NY : Near n0 d0 m yn yd) (NZ : Near n0 d0 (m + mm) zn zd) (hd : 1 ≤ d0) (hmm : 0 ≤ mm) : r ≤ 0 := by
  refine icmp_le h ?_
  rw [hz, hg]
  have ed : ((d0.natAbs : Nat) : Int) = d0 := by omega
  have ey : ((yd.natAbs : Nat) : Int) = yd := by have := NY.pos; omega
  have ez : ((zd.natAbs : Nat) : Int) = zd := by have := NZ.pos; omega
  have l1 := LY.1
  have l2 := LZ.1
  rw [ey, ed] at l1
  rw [ez, ed] at l2
  have k1 := low_dist (b := d0.natAbs * yd.natAbs) (by rw [Int.natCast_mul, ed, ey]) l1
  have k2 := low_dist (b := d0.natAbs * zd.natAbs) (by rw [Int.natCast_mul, ed, ez]) l2
  exact nearer_le hd NY.pos NZ.pos (by omega) (by omega) (NZ.best yn yd NY.pos (by have := NY.le; omega)) k1 k2
theorem half1 {n0 d0 m yn yd r ga : Int} {gw gv v5 : Nat} {mg m5 : Bool} (h : ICmp (sval mg gv * ((2 * m.natAbs : Nat) : Int)) (sval m5 v5 * ((gw : Nat) : Int)) r) (hg : sval mg gv = ((ga.natAbs : Nat) : Int)) (h5 : sval m5 v5 = 1) (LY : LowOf (n0 * (yd.natAbs : Int) - yn * (d0.natAbs : Int)) (d0.natAbs * yd.natAbs) ga gw) (NY : Near n0 d0 m yn yd) (hd : 1 ≤ d0) (hm : 1 ≤ m) : r ≤ 0 := by
  refine icmp_le h ?_
  rw [hg, h5, Int.one_mul]
  have ed : ((d0.natAbs : Nat) : Int) = d0 := by omega
  have ey : ((yd.natAbs : Nat) : Int) = yd := by have := NY.pos; omega
  have em : ((2 * m.natAbs : Nat) : Int) = 2 * m := by omega
  have l1 := LY.1
  rw [ey, ed] at l1
  rw [em]
  have k1 := low_dist (b := d0.natAbs * yd.natAbs) (by rw [Int.natCast_mul, ed, ey]) l1
  obtain ⟨p, hp⟩ := half_unit n0 d0 m hd
  exact half_le hd NY.pos hm (by omega) (NY.best p m hm (Int.le_refl _)) hp k1
theorem one_lt {m : Bool} {v : Nat} (h : sval m v = 1) : v < TT := by
  have h1 := sval_abs m v
  rw [h] at h1
  have : v = 1 := by omega
  subst this
  exact lt_tt (lt_top (by decide))
set_option maxHeartbeats 40000000 in
theorem nr_bad (w : World) (x : RV) (i j : Int) (HX : x.at w w.heap.size) (hi1 : -9223372036854775808 ≤ i) (hi2 : i ≤ 9223372036854775807) (hj1 : -9223372036854775808 ≤ j) (hj2 : j ≤ 9223372036854775807) (ox : Hid (x.ok = false)) :
    Calls Try.prog 5 #[x.v, .int .i64 i, .int .i64 j] w (fun e w' => e = .returned (.bool true) ∧ Below w.heap.size w w') := by
  have Hx1 : LRd w w.heap.size x.num.A x.num.n x.num.c x.num.xs := HX.1
  have Hx2 : LRd w w.heap.size x.den.A x.den.n x.den.c x.den.xs := HX.2
  have E : Below w.heap.size w w := Below.refl _ _
  have hfi := field_int
  go_enter Try.func5, Try.ntmps5
  go_wp2_with fail
  obtain ⟨V0, hV0⟩ : ∃ V0 : World, V0 = (w.alloc (.cells #[.bool x.num.neg, .slice x.num.A x.num.n x.num.c, .bool x.den.neg, .slice x.den.A x.den.n x.den.c] 26)) := ⟨_, rfl⟩
  have bV0 : Below w.heap.size w V0 := by rw [hV0]; (repeat (first | with_reducible exact Below.refl _ _ | with_reducible refine Below.drew ?_ | with_reducible refine below_drewN ?_ _ | with_reducible refine Below.setCell ?_ (by first | (simp; done) | (simp; omega) | omega) _ | with_reducible refine Below.alloc ?_ (by first | (simp; done) | (simp; omega) | omega) _))
  have zV0 : w.heap.size + 1 ≤ V0.heap.size := by rw [hV0]; simp
  have PA : Bk4 V0 (w.heap.size) (.bool x.num.neg) (.slice x.num.A x.num.n x.num.c) (.bool x.den.neg) (.slice x.den.A x.den.n x.den.c) := by rw [hV0]; exact (Bk4.newAt _ _ (by first | omega | (simp; done) | (simp; omega)) _ _ _ _ _)
  rw [← hV0]
  clear hV0
  replace E : Below w.heap.size w V0 := E.trans (bV0.mono E.size)
  replace Hx1 : LRd V0 (w.heap.size) x.num.A x.num.n x.num.c x.num.xs := Hx1.below bV0 (by omega)
  replace Hx2 : LRd V0 (w.heap.size) x.den.A x.den.n x.den.c x.den.xs := Hx2.below bV0 (by omega)
  clear bV0
  (with_reducible refine (parts_any _).mono ?_)
  rintro e w1 ⟨rfl, hb1⟩
  have sw1 := hb1.size
  replace E : Below w.heap.size w w1 := E.trans (hb1.mono E.size)
  replace Hx1 : LRd w1 (w.heap.size) x.num.A x.num.n x.num.c x.num.xs := Hx1.below hb1 (by omega)
  replace Hx2 : LRd w1 (w.heap.size) x.den.A x.den.n x.den.c x.den.xs := Hx2.below hb1 (by omega)
  replace PA : Bk4 w1 (w.heap.size) (.bool x.num.neg) (.slice x.num.A x.num.n x.num.c) (.bool x.den.neg) (.slice x.den.A x.den.n x.den.c) := PA.below hb1 PA.lt
  clear hb1
  have t_PA0 : w1.cell? ⟨w.heap.size, 0, none⟩ = some ((.bool x.num.neg)) := PA.c0
  have t_PA1 : w1.cell? ⟨w.heap.size, 1, none⟩ = some ((.slice x.num.A x.num.n x.num.c)) := PA.c1
  have t_PA2 : w1.cell? ⟨w.heap.size, 2, none⟩ = some ((.bool x.den.neg)) := PA.c2
  have t_PA3 : w1.cell? ⟨w.heap.size, 3, none⟩ = some ((.slice x.den.A x.den.n x.den.c)) := PA.c3
  go_wp2_with fail
  clear t_PA0 t_PA1 t_PA2 t_PA3
  (with_reducible refine (rok_any _ w.heap.size x (rv_at Hx1 Hx2) (by omega)).mono ?_)
  rintro e w2 ⟨rfl, hb2⟩
  have sw2 := hb2.size
  replace E : Below w.heap.size w w2 := E.trans (hb2.mono E.size)
  replace Hx1 : LRd w2 (w.heap.size) x.num.A x.num.n x.num.c x.num.xs := Hx1.below hb2 (by omega)
  replace Hx2 : LRd w2 (w.heap.size) x.den.A x.den.n x.den.c x.den.xs := Hx2.below hb2 (by omega)
  replace PA : Bk4 w2 (w.heap.size) (.bool x.num.neg) (.slice x.num.A x.num.n x.num.c) (.bool x.den.neg) (.slice x.den.A x.den.n x.den.c) := PA.below hb2 PA.lt
  clear hb2
  rw [ox.out]
  have t_PA0 : w2.cell? ⟨w.heap.size, 0, none⟩ = some ((.bool x.num.neg)) := PA.c0
  have t_PA1 : w2.cell? ⟨w.heap.size, 1, none⟩ = some ((.slice x.num.A x.num.n x.num.c)) := PA.c1
  have t_PA2 : w2.cell? ⟨w.heap.size, 2, none⟩ = some ((.bool x.den.neg)) := PA.c2
  have t_PA3 : w2.cell? ⟨w.heap.size, 3, none⟩ = some ((.slice x.den.A x.den.n x.den.c)) := PA.c3
  go_wp2_with fail
  clear t_PA0 t_PA1 t_PA2 t_PA3
  all_goals go_ret
  all_goals exact ⟨rfl, E⟩
set_option maxHeartbeats 40000000 in
theorem nr_g1 (w : World) (x : RV) (i j : Int) (HX : x.at w w.heap.size) (hi1 : -9223372036854775808 ≤ i) (hi2 : i ≤ 9223372036854775807) (hj1 : -9223372036854775808 ≤ j) (hj2 : j ≤ 9223372036854775807) (ox : Hid (x.ok = true))  (g1 : decide ((60 : Int) < (x.num.n : Int)) = true) :
    Calls Try.prog 5 #[x.v, .int .i64 i, .int .i64 j] w (fun e w' => e = .returned (.bool true) ∧ Below w.heap.size w w') := by
  have Hx1 : LRd w w.heap.size x.num.A x.num.n x.num.c x.num.xs := HX.1
  have Hx2 : LRd w w.heap.size x.den.A x.den.n x.den.c x.den.xs := HX.2
  have E : Below w.heap.size w w := Below.refl _ _
  have hfi := field_int
  go_enter Try.func5, Try.ntmps5
  go_wp2_with fail
  obtain ⟨V0, hV0⟩ : ∃ V0 : World, V0 = (w.alloc (.cells #[.bool x.num.neg, .slice x.num.A x.num.n x.num.c, .bool x.den.neg, .slice x.den.A x.den.n x.den.c] 26)) := ⟨_, rfl⟩
  have bV0 : Below w.heap.size w V0 := by rw [hV0]; (repeat (first | with_reducible exact Below.refl _ _ | with_reducible refine Below.drew ?_ | with_reducible refine below_drewN ?_ _ | with_reducible refine Below.setCell ?_ (by first | (simp; done) | (simp; omega) | omega) _ | with_reducible refine Below.alloc ?_ (by first | (simp; done) | (simp; omega) | omega) _))
  have zV0 : w.heap.size + 1 ≤ V0.heap.size := by rw [hV0]; simp
  have PA : Bk4 V0 (w.heap.size) (.bool x.num.neg) (.slice x.num.A x.num.n x.num.c) (.bool x.den.neg) (.slice x.den.A x.den.n x.den.c) := by rw [hV0]; exact (Bk4.newAt _ _ (by first | omega | (simp; done) | (simp; omega)) _ _ _ _ _)
  rw [← hV0]
  clear hV0
  replace E : Below w.heap.size w V0 := E.trans (bV0.mono E.size)
  replace Hx1 : LRd V0 (w.heap.size) x.num.A x.num.n x.num.c x.num.xs := Hx1.below bV0 (by omega)
  replace Hx2 : LRd V0 (w.heap.size) x.den.A x.den.n x.den.c x.den.xs := Hx2.below bV0 (by omega)
  clear bV0
  (with_reducible refine (parts_any _).mono ?_)
  rintro e w1 ⟨rfl, hb1⟩
  have sw1 := hb1.size
  replace E : Below w.heap.size w w1 := E.trans (hb1.mono E.size)
  replace Hx1 : LRd w1 (w.heap.size) x.num.A x.num.n x.num.c x.num.xs := Hx1.below hb1 (by omega)
  replace Hx2 : LRd w1 (w.heap.size) x.den.A x.den.n x.den.c x.den.xs := Hx2.below hb1 (by omega)
  replace PA : Bk4 w1 (w.heap.size) (.bool x.num.neg) (.slice x.num.A x.num.n x.num.c) (.bool x.den.neg) (.slice x.den.A x.den.n x.den.c) := PA.below hb1 PA.lt
  clear hb1
  have t_PA0 : w1.cell? ⟨w.heap.size, 0, none⟩ = some ((.bool x.num.neg)) := PA.c0
  have t_PA1 : w1.cell? ⟨w.heap.size, 1, none⟩ = some ((.slice x.num.A x.num.n x.num.c)) := PA.c1
  have t_PA2 : w1.cell? ⟨w.heap.size, 2, none⟩ = some ((.bool x.den.neg)) := PA.c2
  have t_PA3 : w1.cell? ⟨w.heap.size, 3, none⟩ = some ((.slice x.den.A x.den.n x.den.c)) := PA.c3
  go_wp2_with fail
  clear t_PA0 t_PA1 t_PA2 t_PA3
  (with_reducible refine (rok_any _ w.heap.size x (rv_at Hx1 Hx2) (by omega)).mono ?_)
  rintro e w2 ⟨rfl, hb2⟩
  have sw2 := hb2.size
  replace E : Below w.heap.size w w2 := E.trans (hb2.mono E.size)
  replace Hx1 : LRd w2 (w.heap.size) x.num.A x.num.n x.num.c x.num.xs := Hx1.below hb2 (by omega)
  replace Hx2 : LRd w2 (w.heap.size) x.den.A x.den.n x.den.c x.den.xs := Hx2.below hb2 (by omega)
  replace PA : Bk4 w2 (w.heap.size) (.bool x.num.neg) (.slice x.num.A x.num.n x.num.c) (.bool x.den.neg) (.slice x.den.A x.den.n x.den.c) := PA.below hb2 PA.lt
  clear hb2
  rw [ox.out]
  have t_PA0 : w2.cell? ⟨w.heap.size, 0, none⟩ = some ((.bool x.num.neg)) := PA.c0
  have t_PA1 : w2.cell? ⟨w.heap.size, 1, none⟩ = some ((.slice x.num.A x.num.n x.num.c)) := PA.c1
  have t_PA2 : w2.cell? ⟨w.heap.size, 2, none⟩ = some ((.bool x.den.neg)) := PA.c2
  have t_PA3 : w2.cell? ⟨w.heap.size, 3, none⟩ = some ((.slice x.den.A x.den.n x.den.c)) := PA.c3
  go_wp2_with fail
  clear t_PA0 t_PA1 t_PA2 t_PA3
  all_goals go_ret
  all_goals exact ⟨rfl, E⟩
set_option maxHeartbeats 40000000 in
theorem nr_g2 (w : World) (x : RV) (i j : Int) (HX : x.at w w.heap.size) (hi1 : -9223372036854775808 ≤ i) (hi2 : i ≤ 9223372036854775807) (hj1 : -9223372036854775808 ≤ j) (hj2 : j ≤ 9223372036854775807) (ox : Hid (x.ok = true)) (g1 : decide ((60 : Int) < (x.num.n : Int)) = false) (g2 : decide ((60 : Int) < (x.den.n : Int)) = true) :
    Calls Try.prog 5 #[x.v, .int .i64 i, .int .i64 j] w (fun e w' => e = .returned (.bool true) ∧ Below w.heap.size w w') := by
  have Hx1 : LRd w w.heap.size x.num.A x.num.n x.num.c x.num.xs := HX.1
  have Hx2 : LRd w w.heap.size x.den.A x.den.n x.den.c x.den.xs := HX.2
  have E : Below w.heap.size w w := Below.refl _ _
  have hfi := field_int
  go_enter Try.func5, Try.ntmps5
  go_wp2_with fail
  obtain ⟨V0, hV0⟩ : ∃ V0 : World, V0 = (w.alloc (.cells #[.bool x.num.neg, .slice x.num.A x.num.n x.num.c, .bool x.den.neg, .slice x.den.A x.den.n x.den.c] 26)) := ⟨_, rfl⟩
  have bV0 : Below w.heap.size w V0 := by rw [hV0]; (repeat (first | with_reducible exact Below.refl _ _ | with_reducible refine Below.drew ?_ | with_reducible refine below_drewN ?_ _ | with_reducible refine Below.setCell ?_ (by first | (simp; done) | (simp; omega) | omega) _ | with_reducible refine Below.alloc ?_ (by first | (simp; done) | (simp; omega) | omega) _))
  have zV0 : w.heap.size + 1 ≤ V0.heap.size := by rw [hV0]; simp
  have PA : Bk4 V0 (w.heap.size) (.bool x.num.neg) (.slice x.num.A x.num.n x.num.c) (.bool x.den.neg) (.slice x.den.A x.den.n x.den.c) := by rw [hV0]; exact (Bk4.newAt _ _ (by first | omega | (simp; done) | (simp; omega)) _ _ _ _ _)
  rw [← hV0]
  clear hV0
  replace E : Below w.heap.size w V0 := E.trans (bV0.mono E.size)
  replace Hx1 : LRd V0 (w.heap.size) x.num.A x.num.n x.num.c x.num.xs := Hx1.below bV0 (by omega)
  replace Hx2 : LRd V0 (w.heap.size) x.den.A x.den.n x.den.c x.den.xs := Hx2.below bV0 (by omega)
  clear bV0
  (with_reducible refine (parts_any _).mono ?_)
  rintro e w1 ⟨rfl, hb1⟩
  have sw1 := hb1.size
  replace E : Below w.heap.size w w1 := E.trans (hb1.mono E.size)
  replace Hx1 : LRd w1 (w.heap.size) x.num.A x.num.n x.num.c x.num.xs := Hx1.below hb1 (by omega)
  replace Hx2 : LRd w1 (w.heap.size) x.den.A x.den.n x.den.c x.den.xs := Hx2.below hb1 (by omega)
  replace PA : Bk4 w1 (w.heap.size) (.bool x.num.neg) (.slice x.num.A x.num.n x.num.c) (.bool x.den.neg) (.slice x.den.A x.den.n x.den.c) := PA.below hb1 PA.lt
  clear hb1
  have t_PA0 : w1.cell? ⟨w.heap.size, 0, none⟩ = some ((.bool x.num.neg)) := PA.c0
  have t_PA1 : w1.cell? ⟨w.heap.size, 1, none⟩ = some ((.slice x.num.A x.num.n x.num.c)) := PA.c1
  have t_PA2 : w1.cell? ⟨w.heap.size, 2, none⟩ = some ((.bool x.den.neg)) := PA.c2
  have t_PA3 : w1.cell? ⟨w.heap.size, 3, none⟩ = some ((.slice x.den.A x.den.n x.den.c)) := PA.c3
  go_wp2_with fail
  clear t_PA0 t_PA1 t_PA2 t_PA3
  (with_reducible refine (rok_any _ w.heap.size x (rv_at Hx1 Hx2) (by omega)).mono ?_)
  rintro e w2 ⟨rfl, hb2⟩
  have sw2 := hb2.size
  replace E : Below w.heap.size w w2 := E.trans (hb2.mono E.size)
  replace Hx1 : LRd w2 (w.heap.size) x.num.A x.num.n x.num.c x.num.xs := Hx1.below hb2 (by omega)
  replace Hx2 : LRd w2 (w.heap.size) x.den.A x.den.n x.den.c x.den.xs := Hx2.below hb2 (by omega)
  replace PA : Bk4 w2 (w.heap.size) (.bool x.num.neg) (.slice x.num.A x.num.n x.num.c) (.bool x.den.neg) (.slice x.den.A x.den.n x.den.c) := PA.below hb2 PA.lt
  clear hb2
  rw [ox.out]
  have t_PA0 : w2.cell? ⟨w.heap.size, 0, none⟩ = some ((.bool x.num.neg)) := PA.c0
  have t_PA1 : w2.cell? ⟨w.heap.size, 1, none⟩ = some ((.slice x.num.A x.num.n x.num.c)) := PA.c1
  have t_PA2 : w2.cell? ⟨w.heap.size, 2, none⟩ = some ((.bool x.den.neg)) := PA.c2
  have t_PA3 : w2.cell? ⟨w.heap.size, 3, none⟩ = some ((.slice x.den.A x.den.n x.den.c)) := PA.c3
  go_wp2_with fail
  clear t_PA0 t_PA1 t_PA2 t_PA3
  all_goals go_ret
  all_goals exact ⟨rfl, E⟩
set_option maxHeartbeats 40000000 in
theorem nr_g3 (w : World) (x : RV) (i j : Int) (HX : x.at w w.heap.size) (hi1 : -9223372036854775808 ≤ i) (hi2 : i ≤ 9223372036854775807) (hj1 : -9223372036854775808 ≤ j) (hj2 : j ≤ 9223372036854775807) (ox : Hid (x.ok = true)) (g1 : decide ((60 : Int) < (x.num.n : Int)) = false) (g2 : decide ((60 : Int) < (x.den.n : Int)) = false) (g3 : decide (i < 1) = true) :
    Calls Try.prog 5 #[x.v, .int .i64 i, .int .i64 j] w (fun e w' => e = .returned (.bool true) ∧ Below w.heap.size w w') := by
  have Hx1 : LRd w w.heap.size x.num.A x.num.n x.num.c x.num.xs := HX.1
  have Hx2 : LRd w w.heap.size x.den.A x.den.n x.den.c x.den.xs := HX.2
  have E : Below w.heap.size w w := Below.refl _ _
  have hfi := field_int
  go_enter Try.func5, Try.ntmps5
  go_wp2_with fail
  obtain ⟨V0, hV0⟩ : ∃ V0 : World, V0 = (w.alloc (.cells #[.bool x.num.neg, .slice x.num.A x.num.n x.num.c, .bool x.den.neg, .slice x.den.A x.den.n x.den.c] 26)) := ⟨_, rfl⟩
  have bV0 : Below w.heap.size w V0 := by rw [hV0]; (repeat (first | with_reducible exact Below.refl _ _ | with_reducible refine Below.drew ?_ | with_reducible refine below_drewN ?_ _ | with_reducible refine Below.setCell ?_ (by first | (simp; done) | (simp; omega) | omega) _ | with_reducible refine Below.alloc ?_ (by first | (simp; done) | (simp; omega) | omega) _))
  have zV0 : w.heap.size + 1 ≤ V0.heap.size := by rw [hV0]; simp
  have PA : Bk4 V0 (w.heap.size) (.bool x.num.neg) (.slice x.num.A x.num.n x.num.c) (.bool x.den.neg) (.slice x.den.A x.den.n x.den.c) := by rw [hV0]; exact (Bk4.newAt _ _ (by first | omega | (simp; done) | (simp; omega)) _ _ _ _ _)
  rw [← hV0]
  clear hV0
  replace E : Below w.heap.size w V0 := E.trans (bV0.mono E.size)
  replace Hx1 : LRd V0 (w.heap.size) x.num.A x.num.n x.num.c x.num.xs := Hx1.below bV0 (by omega)
  replace Hx2 : LRd V0 (w.heap.size) x.den.A x.den.n x.den.c x.den.xs := Hx2.below bV0 (by omega)
  clear bV0
  (with_reducible refine (parts_any _).mono ?_)
  rintro e w1 ⟨rfl, hb1⟩
  have sw1 := hb1.size
  replace E : Below w.heap.size w w1 := E.trans (hb1.mono E.size)
  replace Hx1 : LRd w1 (w.heap.size) x.num.A x.num.n x.num.c x.num.xs := Hx1.below hb1 (by omega)
  replace Hx2 : LRd w1 (w.heap.size) x.den.A x.den.n x.den.c x.den.xs := Hx2.below hb1 (by omega)
  replace PA : Bk4 w1 (w.heap.size) (.bool x.num.neg) (.slice x.num.A x.num.n x.num.c) (.bool x.den.neg) (.slice x.den.A x.den.n x.den.c) := PA.below hb1 PA.lt
  clear hb1
  have t_PA0 : w1.cell? ⟨w.heap.size, 0, none⟩ = some ((.bool x.num.neg)) := PA.c0
  have t_PA1 : w1.cell? ⟨w.heap.size, 1, none⟩ = some ((.slice x.num.A x.num.n x.num.c)) := PA.c1
  have t_PA2 : w1.cell? ⟨w.heap.size, 2, none⟩ = some ((.bool x.den.neg)) := PA.c2
  have t_PA3 : w1.cell? ⟨w.heap.size, 3, none⟩ = some ((.slice x.den.A x.den.n x.den.c)) := PA.c3
  go_wp2_with fail
  clear t_PA0 t_PA1 t_PA2 t_PA3
  (with_reducible refine (rok_any _ w.heap.size x (rv_at Hx1 Hx2) (by omega)).mono ?_)
  rintro e w2 ⟨rfl, hb2⟩
  have sw2 := hb2.size
  replace E : Below w.heap.size w w2 := E.trans (hb2.mono E.size)
  replace Hx1 : LRd w2 (w.heap.size) x.num.A x.num.n x.num.c x.num.xs := Hx1.below hb2 (by omega)
  replace Hx2 : LRd w2 (w.heap.size) x.den.A x.den.n x.den.c x.den.xs := Hx2.below hb2 (by omega)
  replace PA : Bk4 w2 (w.heap.size) (.bool x.num.neg) (.slice x.num.A x.num.n x.num.c) (.bool x.den.neg) (.slice x.den.A x.den.n x.den.c) := PA.below hb2 PA.lt
  clear hb2
  rw [ox.out]
  have t_PA0 : w2.cell? ⟨w.heap.size, 0, none⟩ = some ((.bool x.num.neg)) := PA.c0
  have t_PA1 : w2.cell? ⟨w.heap.size, 1, none⟩ = some ((.slice x.num.A x.num.n x.num.c)) := PA.c1
  have t_PA2 : w2.cell? ⟨w.heap.size, 2, none⟩ = some ((.bool x.den.neg)) := PA.c2
  have t_PA3 : w2.cell? ⟨w.heap.size, 3, none⟩ = some ((.slice x.den.A x.den.n x.den.c)) := PA.c3
  go_wp2_with fail
  clear t_PA0 t_PA1 t_PA2 t_PA3
  all_goals go_ret
  all_goals exact ⟨rfl, E⟩
set_option maxHeartbeats 40000000 in
theorem nr_g4 (w : World) (x : RV) (i j : Int) (HX : x.at w w.heap.size) (hi1 : -9223372036854775808 ≤ i) (hi2 : i ≤ 9223372036854775807) (hj1 : -9223372036854775808 ≤ j) (hj2 : j ≤ 9223372036854775807) (ox : Hid (x.ok = true)) (g1 : decide ((60 : Int) < (x.num.n : Int)) = false) (g2 : decide ((60 : Int) < (x.den.n : Int)) = false) (g3 : decide (i < 1) = false) (g4 : decide (j < 0) = true) :
    Calls Try.prog 5 #[x.v, .int .i64 i, .int .i64 j] w (fun e w' => e = .returned (.bool true) ∧ Below w.heap.size w w') := by
  have Hx1 : LRd w w.heap.size x.num.A x.num.n x.num.c x.num.xs := HX.1
  have Hx2 : LRd w w.heap.size x.den.A x.den.n x.den.c x.den.xs := HX.2
  have E : Below w.heap.size w w := Below.refl _ _
  have hfi := field_int
  go_enter Try.func5, Try.ntmps5
  go_wp2_with fail
  obtain ⟨V0, hV0⟩ : ∃ V0 : World, V0 = (w.alloc (.cells #[.bool x.num.neg, .slice x.num.A x.num.n x.num.c, .bool x.den.neg, .slice x.den.A x.den.n x.den.c] 26)) := ⟨_, rfl⟩
  have bV0 : Below w.heap.size w V0 := by rw [hV0]; (repeat (first | with_reducible exact Below.refl _ _ | with_reducible refine Below.drew ?_ | with_reducible refine below_drewN ?_ _ | with_reducible refine Below.setCell ?_ (by first | (simp; done) | (simp; omega) | omega) _ | with_reducible refine Below.alloc ?_ (by first | (simp; done) | (simp; omega) | omega) _))
  have zV0 : w.heap.size + 1 ≤ V0.heap.size := by rw [hV0]; simp
  have PA : Bk4 V0 (w.heap.size) (.bool x.num.neg) (.slice x.num.A x.num.n x.num.c) (.bool x.den.neg) (.slice x.den.A x.den.n x.den.c) := by rw [hV0]; exact (Bk4.newAt _ _ (by first | omega | (simp; done) | (simp; omega)) _ _ _ _ _)
  rw [← hV0]
  clear hV0
  replace E : Below w.heap.size w V0 := E.trans (bV0.mono E.size)
  replace Hx1 : LRd V0 (w.heap.size) x.num.A x.num.n x.num.c x.num.xs := Hx1.below bV0 (by omega)
  replace Hx2 : LRd V0 (w.heap.size) x.den.A x.den.n x.den.c x.den.xs := Hx2.below bV0 (by omega)
  clear bV0
  (with_reducible refine (parts_any _).mono ?_)
  rintro e w1 ⟨rfl, hb1⟩
  have sw1 := hb1.size
  replace E : Below w.heap.size w w1 := E.trans (hb1.mono E.size)
  replace Hx1 : LRd w1 (w.heap.size) x.num.A x.num.n x.num.c x.num.xs := Hx1.below hb1 (by omega)
  replace Hx2 : LRd w1 (w.heap.size) x.den.A x.den.n x.den.c x.den.xs := Hx2.below hb1 (by omega)
  replace PA : Bk4 w1 (w.heap.size) (.bool x.num.neg) (.slice x.num.A x.num.n x.num.c) (.bool x.den.neg) (.slice x.den.A x.den.n x.den.c) := PA.below hb1 PA.lt
  clear hb1
  have t_PA0 : w1.cell? ⟨w.heap.size, 0, none⟩ = some ((.bool x.num.neg)) := PA.c0
  have t_PA1 : w1.cell? ⟨w.heap.size, 1, none⟩ = some ((.slice x.num.A x.num.n x.num.c)) := PA.c1
  have t_PA2 : w1.cell? ⟨w.heap.size, 2, none⟩ = some ((.bool x.den.neg)) := PA.c2
  have t_PA3 : w1.cell? ⟨w.heap.size, 3, none⟩ = some ((.slice x.den.A x.den.n x.den.c)) := PA.c3
  go_wp2_with fail
  clear t_PA0 t_PA1 t_PA2 t_PA3
  (with_reducible refine (rok_any _ w.heap.size x (rv_at Hx1 Hx2) (by omega)).mono ?_)
  rintro e w2 ⟨rfl, hb2⟩
  have sw2 := hb2.size
  replace E : Below w.heap.size w w2 := E.trans (hb2.mono E.size)
  replace Hx1 : LRd w2 (w.heap.size) x.num.A x.num.n x.num.c x.num.xs := Hx1.below hb2 (by omega)
  replace Hx2 : LRd w2 (w.heap.size) x.den.A x.den.n x.den.c x.den.xs := Hx2.below hb2 (by omega)
  replace PA : Bk4 w2 (w.heap.size) (.bool x.num.neg) (.slice x.num.A x.num.n x.num.c) (.bool x.den.neg) (.slice x.den.A x.den.n x.den.c) := PA.below hb2 PA.lt
  clear hb2
  rw [ox.out]
  have t_PA0 : w2.cell? ⟨w.heap.size, 0, none⟩ = some ((.bool x.num.neg)) := PA.c0
  have t_PA1 : w2.cell? ⟨w.heap.size, 1, none⟩ = some ((.slice x.num.A x.num.n x.num.c)) := PA.c1
  have t_PA2 : w2.cell? ⟨w.heap.size, 2, none⟩ = some ((.bool x.den.neg)) := PA.c2
  have t_PA3 : w2.cell? ⟨w.heap.size, 3, none⟩ = some ((.slice x.den.A x.den.n x.den.c)) := PA.c3
  go_wp2_with fail
  clear t_PA0 t_PA1 t_PA2 t_PA3
  all_goals go_ret
  all_goals exact ⟨rfl, E⟩
set_option maxHeartbeats 40000000 in
theorem nr_g5 (w : World) (x : RV) (i j : Int) (HX : x.at w w.heap.size) (hi1 : -9223372036854775808 ≤ i) (hi2 : i ≤ 9223372036854775807) (hj1 : -9223372036854775808 ≤ j) (hj2 : j ≤ 9223372036854775807) (ox : Hid (x.ok = true)) (g1 : decide ((60 : Int) < (x.num.n : Int)) = false) (g2 : decide ((60 : Int) < (x.den.n : Int)) = false) (g3 : decide (i < 1) = false) (g4 : decide (j < 0) = false) (g5 : decide ((1152921504606846976 : Int) < i) = true) :
    Calls Try.prog 5 #[x.v, .int .i64 i, .int .i64 j] w (fun e w' => e = .returned (.bool true) ∧ Below w.heap.size w w') := by
  have Hx1 : LRd w w.heap.size x.num.A x.num.n x.num.c x.num.xs := HX.1
  have Hx2 : LRd w w.heap.size x.den.A x.den.n x.den.c x.den.xs := HX.2
  have E : Below w.heap.size w w := Below.refl _ _
  have hfi := field_int
  go_enter Try.func5, Try.ntmps5
  go_wp2_with fail
  obtain ⟨V0, hV0⟩ : ∃ V0 : World, V0 = (w.alloc (.cells #[.bool x.num.neg, .slice x.num.A x.num.n x.num.c, .bool x.den.neg, .slice x.den.A x.den.n x.den.c] 26)) := ⟨_, rfl⟩
  have bV0 : Below w.heap.size w V0 := by rw [hV0]; (repeat (first | with_reducible exact Below.refl _ _ | with_reducible refine Below.drew ?_ | with_reducible refine below_drewN ?_ _ | with_reducible refine Below.setCell ?_ (by first | (simp; done) | (simp; omega) | omega) _ | with_reducible refine Below.alloc ?_ (by first | (simp; done) | (simp; omega) | omega) _))
  have zV0 : w.heap.size + 1 ≤ V0.heap.size := by rw [hV0]; simp
  have PA : Bk4 V0 (w.heap.size) (.bool x.num.neg) (.slice x.num.A x.num.n x.num.c) (.bool x.den.neg) (.slice x.den.A x.den.n x.den.c) := by rw [hV0]; exact (Bk4.newAt _ _ (by first | omega | (simp; done) | (simp; omega)) _ _ _ _ _)
  rw [← hV0]
  clear hV0
  replace E : Below w.heap.size w V0 := E.trans (bV0.mono E.size)
  replace Hx1 : LRd V0 (w.heap.size) x.num.A x.num.n x.num.c x.num.xs := Hx1.below bV0 (by omega)
  replace Hx2 : LRd V0 (w.heap.size) x.den.A x.den.n x.den.c x.den.xs := Hx2.below bV0 (by omega)
  clear bV0
  (with_reducible refine (parts_any _).mono ?_)
  rintro e w1 ⟨rfl, hb1⟩
  have sw1 := hb1.size
  replace E : Below w.heap.size w w1 := E.trans (hb1.mono E.size)
  replace Hx1 : LRd w1 (w.heap.size) x.num.A x.num.n x.num.c x.num.xs := Hx1.below hb1 (by omega)
  replace Hx2 : LRd w1 (w.heap.size) x.den.A x.den.n x.den.c x.den.xs := Hx2.below hb1 (by omega)
  replace PA : Bk4 w1 (w.heap.size) (.bool x.num.neg) (.slice x.num.A x.num.n x.num.c) (.bool x.den.neg) (.slice x.den.A x.den.n x.den.c) := PA.below hb1 PA.lt
  clear hb1
  have t_PA0 : w1.cell? ⟨w.heap.size, 0, none⟩ = some ((.bool x.num.neg)) := PA.c0
  have t_PA1 : w1.cell? ⟨w.heap.size, 1, none⟩ = some ((.slice x.num.A x.num.n x.num.c)) := PA.c1
  have t_PA2 : w1.cell? ⟨w.heap.size, 2, none⟩ = some ((.bool x.den.neg)) := PA.c2
  have t_PA3 : w1.cell? ⟨w.heap.size, 3, none⟩ = some ((.slice x.den.A x.den.n x.den.c)) := PA.c3
  go_wp2_with fail
  clear t_PA0 t_PA1 t_PA2 t_PA3
  (with_reducible refine (rok_any _ w.heap.size x (rv_at Hx1 Hx2) (by omega)).mono ?_)
  rintro e w2 ⟨rfl, hb2⟩
  have sw2 := hb2.size
  replace E : Below w.heap.size w w2 := E.trans (hb2.mono E.size)
  replace Hx1 : LRd w2 (w.heap.size) x.num.A x.num.n x.num.c x.num.xs := Hx1.below hb2 (by omega)
  replace Hx2 : LRd w2 (w.heap.size) x.den.A x.den.n x.den.c x.den.xs := Hx2.below hb2 (by omega)
  replace PA : Bk4 w2 (w.heap.size) (.bool x.num.neg) (.slice x.num.A x.num.n x.num.c) (.bool x.den.neg) (.slice x.den.A x.den.n x.den.c) := PA.below hb2 PA.lt
  clear hb2
  rw [ox.out]
  have t_PA0 : w2.cell? ⟨w.heap.size, 0, none⟩ = some ((.bool x.num.neg)) := PA.c0
  have t_PA1 : w2.cell? ⟨w.heap.size, 1, none⟩ = some ((.slice x.num.A x.num.n x.num.c)) := PA.c1
  have t_PA2 : w2.cell? ⟨w.heap.size, 2, none⟩ = some ((.bool x.den.neg)) := PA.c2
  have t_PA3 : w2.cell? ⟨w.heap.size, 3, none⟩ = some ((.slice x.den.A x.den.n x.den.c)) := PA.c3
  go_wp2_with fail
  clear t_PA0 t_PA1 t_PA2 t_PA3
  all_goals go_ret
  all_goals exact ⟨rfl, E⟩
set_option maxHeartbeats 40000000 in
theorem nr_g6 (w : World) (x : RV) (i j : Int) (HX : x.at w w.heap.size) (hi1 : -9223372036854775808 ≤ i) (hi2 : i ≤ 9223372036854775807) (hj1 : -9223372036854775808 ≤ j) (hj2 : j ≤ 9223372036854775807) (ox : Hid (x.ok = true)) (g1 : decide ((60 : Int) < (x.num.n : Int)) = false) (g2 : decide ((60 : Int) < (x.den.n : Int)) = false) (g3 : decide (i < 1) = false) (g4 : decide (j < 0) = false) (g5 : decide ((1152921504606846976 : Int) < i) = false) (g6 : decide ((1152921504606846976 : Int) < j) = true) :
    Calls Try.prog 5 #[x.v, .int .i64 i, .int .i64 j] w (fun e w' => e = .returned (.bool true) ∧ Below w.heap.size w w') := by
  have Hx1 : LRd w w.heap.size x.num.A x.num.n x.num.c x.num.xs := HX.1
  have Hx2 : LRd w w.heap.size x.den.A x.den.n x.den.c x.den.xs := HX.2
  have E : Below w.heap.size w w := Below.refl _ _
  have hfi := field_int
  go_enter Try.func5, Try.ntmps5
  go_wp2_with fail
  obtain ⟨V0, hV0⟩ : ∃ V0 : World, V0 = (w.alloc (.cells #[.bool x.num.neg, .slice x.num.A x.num.n x.num.c, .bool x.den.neg, .slice x.den.A x.den.n x.den.c] 26)) := ⟨_, rfl⟩
  have bV0 : Below w.heap.size w V0 := by rw [hV0]; (repeat (first | with_reducible exact Below.refl _ _ | with_reducible refine Below.drew ?_ | with_reducible refine below_drewN ?_ _ | with_reducible refine Below.setCell ?_ (by first | (simp; done) | (simp; omega) | omega) _ | with_reducible refine Below.alloc ?_ (by first | (simp; done) | (simp; omega) | omega) _))
  have zV0 : w.heap.size + 1 ≤ V0.heap.size := by rw [hV0]; simp
  have PA : Bk4 V0 (w.heap.size) (.bool x.num.neg) (.slice x.num.A x.num.n x.num.c) (.bool x.den.neg) (.slice x.den.A x.den.n x.den.c) := by rw [hV0]; exact (Bk4.newAt _ _ (by first | omega | (simp; done) | (simp; omega)) _ _ _ _ _)
  rw [← hV0]
  clear hV0
  replace E : Below w.heap.size w V0 := E.trans (bV0.mono E.size)
  replace Hx1 : LRd V0 (w.heap.size) x.num.A x.num.n x.num.c x.num.xs := Hx1.below bV0 (by omega)
  replace Hx2 : LRd V0 (w.heap.size) x.den.A x.den.n x.den.c x.den.xs := Hx2.below bV0 (by omega)
  clear bV0
  (with_reducible refine (parts_any _).mono ?_)
  rintro e w1 ⟨rfl, hb1⟩
  have sw1 := hb1.size
  replace E : Below w.heap.size w w1 := E.trans (hb1.mono E.size)
  replace Hx1 : LRd w1 (w.heap.size) x.num.A x.num.n x.num.c x.num.xs := Hx1.below hb1 (by omega)
  replace Hx2 : LRd w1 (w.heap.size) x.den.A x.den.n x.den.c x.den.xs := Hx2.below hb1 (by omega)
  replace PA : Bk4 w1 (w.heap.size) (.bool x.num.neg) (.slice x.num.A x.num.n x.num.c) (.bool x.den.neg) (.slice x.den.A x.den.n x.den.c) := PA.below hb1 PA.lt
  clear hb1
  have t_PA0 : w1.cell? ⟨w.heap.size, 0, none⟩ = some ((.bool x.num.neg)) := PA.c0
  have t_PA1 : w1.cell? ⟨w.heap.size, 1, none⟩ = some ((.slice x.num.A x.num.n x.num.c)) := PA.c1
  have t_PA2 : w1.cell? ⟨w.heap.size, 2, none⟩ = some ((.bool x.den.neg)) := PA.c2
  have t_PA3 : w1.cell? ⟨w.heap.size, 3, none⟩ = some ((.slice x.den.A x.den.n x.den.c)) := PA.c3
  go_wp2_with fail
  clear t_PA0 t_PA1 t_PA2 t_PA3
  (with_reducible refine (rok_any _ w.heap.size x (rv_at Hx1 Hx2) (by omega)).mono ?_)
  rintro e w2 ⟨rfl, hb2⟩
  have sw2 := hb2.size
  replace E : Below w.heap.size w w2 := E.trans (hb2.mono E.size)
  replace Hx1 : LRd w2 (w.heap.size) x.num.A x.num.n x.num.c x.num.xs := Hx1.below hb2 (by omega)
  replace Hx2 : LRd w2 (w.heap.size) x.den.A x.den.n x.den.c x.den.xs := Hx2.below hb2 (by omega)
  replace PA : Bk4 w2 (w.heap.size) (.bool x.num.neg) (.slice x.num.A x.num.n x.num.c) (.bool x.den.neg) (.slice x.den.A x.den.n x.den.c) := PA.below hb2 PA.lt
  clear hb2
  rw [ox.out]
  have t_PA0 : w2.cell? ⟨w.heap.size, 0, none⟩ = some ((.bool x.num.neg)) := PA.c0
  have t_PA1 : w2.cell? ⟨w.heap.size, 1, none⟩ = some ((.slice x.num.A x.num.n x.num.c)) := PA.c1
  have t_PA2 : w2.cell? ⟨w.heap.size, 2, none⟩ = some ((.bool x.den.neg)) := PA.c2
  have t_PA3 : w2.cell? ⟨w.heap.size, 3, none⟩ = some ((.slice x.den.A x.den.n x.den.c)) := PA.c3
  go_wp2_with fail
  clear t_PA0 t_PA1 t_PA2 t_PA3
  all_goals go_ret
  all_goals exact ⟨rfl, E⟩
set_option maxHeartbeats 40000000 in
theorem nr_ok (w : World) (x : RV) (i j : Int) (HX : x.at w w.heap.size) (hi1 : -9223372036854775808 ≤ i) (hi2 : i ≤ 9223372036854775807) (hj1 : -9223372036854775808 ≤ j) (hj2 : j ≤ 9223372036854775807) (ox : Hid (x.ok = true)) (g1 : decide ((60 : Int) < (x.num.n : Int)) = false) (g2 : decide ((60 : Int) < (x.den.n : Int)) = false) (g3 : decide (i < 1) = false) (g4 : decide (j < 0) = false) (g5 : decide ((1152921504606846976 : Int) < i) = false) (g6 : decide ((1152921504606846976 : Int) < j) = false) (n0 d0 : Int) (IX : Hid (IRep x.num.neg x.num.xs n0)) (IY : Hid (IRep x.den.neg x.den.xs d0)) (hd0 : 1 ≤ d0) (HB : Hid (n0.natAbs < Top128 ∧ d0.natAbs < Top128)) (HT : Hid (n0.natAbs < Tn)) (k1 : 1 ≤ i) (k2 : i ≤ 1152921504606846976) (k3 : 0 ≤ j) (k4 : j ≤ 1152921504606846976) :
    Calls Try.prog 5 #[x.v, .int .i64 i, .int .i64 j] w (fun e w' => e = .returned (.bool true) ∧ Below w.heap.size w w') := by
  have Hx1 : LRd w w.heap.size x.num.A x.num.n x.num.c x.num.xs := HX.1
  have Hx2 : LRd w w.heap.size x.den.A x.den.n x.den.c x.den.xs := HX.2
  have E : Below w.heap.size w w := Below.refl _ _
  have hfi := field_int
  go_enter Try.func5, Try.ntmps5
  go_wp2_with fail
  obtain ⟨V0, hV0⟩ : ∃ V0 : World, V0 = (w.alloc (.cells #[.bool x.num.neg, .slice x.num.A x.num.n x.num.c, .bool x.den.neg, .slice x.den.A x.den.n x.den.c] 26)) := ⟨_, rfl⟩
  have bV0 : Below w.heap.size w V0 := by rw [hV0]; (repeat (first | with_reducible exact Below.refl _ _ | with_reducible refine Below.drew ?_ | with_reducible refine below_drewN ?_ _ | with_reducible refine Below.setCell ?_ (by first | (simp; done) | (simp; omega) | omega) _ | with_reducible refine Below.alloc ?_ (by first | (simp; done) | (simp; omega) | omega) _))
  have zV0 : w.heap.size + 1 ≤ V0.heap.size := by rw [hV0]; simp
  have PA : Bk4 V0 (w.heap.size) (.bool x.num.neg) (.slice x.num.A x.num.n x.num.c) (.bool x.den.neg) (.slice x.den.A x.den.n x.den.c) := by rw [hV0]; exact (Bk4.newAt _ _ (by first | omega | (simp; done) | (simp; omega)) _ _ _ _ _)
  rw [← hV0]
  clear hV0
  replace E : Below w.heap.size w V0 := E.trans (bV0.mono E.size)
  replace Hx1 : LRd V0 (w.heap.size) x.num.A x.num.n x.num.c x.num.xs := Hx1.below bV0 (by omega)
  replace Hx2 : LRd V0 (w.heap.size) x.den.A x.den.n x.den.c x.den.xs := Hx2.below bV0 (by omega)
  clear bV0
  (with_reducible refine (parts_any _).mono ?_)
  rintro e w1 ⟨rfl, hb1⟩
  have sw1 := hb1.size
  replace E : Below w.heap.size w w1 := E.trans (hb1.mono E.size)
  replace Hx1 : LRd w1 (w.heap.size) x.num.A x.num.n x.num.c x.num.xs := Hx1.below hb1 (by omega)
  replace Hx2 : LRd w1 (w.heap.size) x.den.A x.den.n x.den.c x.den.xs := Hx2.below hb1 (by omega)
  replace PA : Bk4 w1 (w.heap.size) (.bool x.num.neg) (.slice x.num.A x.num.n x.num.c) (.bool x.den.neg) (.slice x.den.A x.den.n x.den.c) := PA.below hb1 PA.lt
  clear hb1
  have t_PA0 : w1.cell? ⟨w.heap.size, 0, none⟩ = some ((.bool x.num.neg)) := PA.c0
  have t_PA1 : w1.cell? ⟨w.heap.size, 1, none⟩ = some ((.slice x.num.A x.num.n x.num.c)) := PA.c1
  have t_PA2 : w1.cell? ⟨w.heap.size, 2, none⟩ = some ((.bool x.den.neg)) := PA.c2
  have t_PA3 : w1.cell? ⟨w.heap.size, 3, none⟩ = some ((.slice x.den.A x.den.n x.den.c)) := PA.c3
  go_wp2_with fail
  clear t_PA0 t_PA1 t_PA2 t_PA3
  (with_reducible refine (rok_any _ w.heap.size x (rv_at Hx1 Hx2) (by omega)).mono ?_)
  rintro e w2 ⟨rfl, hb2⟩
  have sw2 := hb2.size
  replace E : Below w.heap.size w w2 := E.trans (hb2.mono E.size)
  replace Hx1 : LRd w2 (w.heap.size) x.num.A x.num.n x.num.c x.num.xs := Hx1.below hb2 (by omega)
  replace Hx2 : LRd w2 (w.heap.size) x.den.A x.den.n x.den.c x.den.xs := Hx2.below hb2 (by omega)
  replace PA : Bk4 w2 (w.heap.size) (.bool x.num.neg) (.slice x.num.A x.num.n x.num.c) (.bool x.den.neg) (.slice x.den.A x.den.n x.den.c) := PA.below hb2 PA.lt
  clear hb2
  rw [ox.out]
  have t_PA0 : w2.cell? ⟨w.heap.size, 0, none⟩ = some ((.bool x.num.neg)) := PA.c0
  have t_PA1 : w2.cell? ⟨w.heap.size, 1, none⟩ = some ((.slice x.num.A x.num.n x.num.c)) := PA.c1
  have t_PA2 : w2.cell? ⟨w.heap.size, 2, none⟩ = some ((.bool x.den.neg)) := PA.c2
  have t_PA3 : w2.cell? ⟨w.heap.size, 3, none⟩ = some ((.slice x.den.A x.den.n x.den.c)) := PA.c3
  go_upto_region 5 with fail
  clear t_PA0 t_PA1 t_PA2 t_PA3
  have hf := rone_ok ox.out
  have HBD := Lib.hid (show n0.natAbs < Top128 ∧ d0.natAbs < Top128 ∧ i.natAbs < Top128 from ⟨HB.out.1, HB.out.2, lt_top2 (by omega)⟩)
  have HBE := Lib.hid (show n0.natAbs < Top128 ∧ d0.natAbs < Top128 ∧ (i + j).natAbs < Top128 from ⟨HB.out.1, HB.out.2, lt_top2 (by omega)⟩)
  have hm1 := Lib.hid (show 1 ≤ i by omega)
  have hm2 := Lib.hid (show 1 ≤ i + j by omega)
  have NR := Lib.hid (And.intro (near_is (n0 := n0) hd0 hm1.out) (near_is (n0 := n0) hd0 hm2.out))
  go_cut [7, 8] (fun s5 s6 wx => PtG w2 (nearZ n0 d0 (i)).1 (nearZ n0 d0 (i)).2 s5 s6 wx)
  case first =>
    as_aux_lemma =>
      have lt_PA := PA.lt
      have HS := Lib.hid (fun (u : World) (hu : Below w2.heap.size w2 u) => (⟨(hu.cell (p := ⟨w.heap.size, 0, none⟩) (by show w.heap.size < _; omega)).trans PA.c0, (hu.cell (p := ⟨w.heap.size, 1, none⟩) (by show w.heap.size < _; omega)).trans PA.c1, (hu.cell (p := ⟨w.heap.size, 2, none⟩) (by show w.heap.size < _; omega)).trans PA.c2, (hu.cell (p := ⟨w.heap.size, 3, none⟩) (by show w.heap.size < _; omega)).trans PA.c3⟩ : u.cell? ⟨w.heap.size, 0, none⟩ = some (.bool x.num.neg) ∧ u.cell? ⟨w.heap.size, 1, none⟩ = some (.slice x.num.A x.num.n x.num.c) ∧ u.cell? ⟨w.heap.size, 2, none⟩ = some (.bool x.den.neg) ∧ u.cell? ⟨w.heap.size, 3, none⟩ = some (.slice x.den.A x.den.n x.den.c)))
      have G0 : Below w2.heap.size w2 w2.drew := Below.drew (Below.refl _ _)
      have hb6 := Lib.hid (show -9223372036854775808 ≤ i ∧ i ≤ 9223372036854775807 from ⟨by omega, by omega⟩)
    
      clear hi1 hi2 hj1 hj2 hfi E NR
      go_region_held3 (fun u => u.cell? ⟨w.heap.size, 0, none⟩ = some (.bool x.num.neg) ∧ u.cell? ⟨w.heap.size, 1, none⟩ = some (.slice x.num.A x.num.n x.num.c) ∧ u.cell? ⟨w.heap.size, 2, none⟩ = some (.bool x.den.neg) ∧ u.cell? ⟨w.heap.size, 3, none⟩ = some (.slice x.den.A x.den.n x.den.c))
        (first | exact HS.out _ (by (repeat (first | with_reducible exact G0 | with_reducible exact B2 | with_reducible exact B1 | with_reducible exact Below.refl _ _ | with_reducible refine Below.drew ?_ | with_reducible refine Below.alloc ?_ (by first | (simp; done) | (simp; omega) | omega) _ | with_reducible refine Below.setCell ?_ (by first | (simp; done) | (simp; omega) | omega) _))) | fail)
        (first
          | (go_at_call 18; (with_reducible refine (iof_any _ (i) hb6.out.1 hb6.out.2).mono ?_); rintro e u1 ⟨n1, D1, l1, d1, y1, rfl, hm1', hs1, hb1⟩; have B1 : Below w2.heap.size w2 u1 := (by refine bnext ?_ hb1; (repeat (first | with_reducible exact G0 | with_reducible exact B2 | with_reducible exact B1 | with_reducible exact Below.refl _ _ | with_reducible refine Below.drew ?_ | with_reducible refine Below.alloc ?_ (by first | (simp; done) | (simp; omega) | omega) _ | with_reducible refine Below.setCell ?_ (by first | (simp; done) | (simp; omega) | omega) _))); have b1s := B1.size; have J1 := Lib.hid hs1; clear hs1; (first | (have t1 := nqfd hb1; have Q1 := t1.1; have F1n := t1.2; obtain ⟨_, _, _, _, _, _, _, _, _⟩ := id Q1; obtain ⟨_, _, _, _, _⟩ := id F1n) | (have t1 := nfqd hb1; have Q1 := t1.2; have F1n := t1.1; obtain ⟨_, _, _, _, _, _, _, _, _⟩ := id Q1; obtain ⟨_, _, _, _, _⟩ := id F1n) | (have Q1 := nqd hb1; obtain ⟨_, _, _, _, _, _, _, _, _⟩ := id Q1) | (have F1n := nfd hb1; obtain ⟨_, _, _, _, _⟩ := id F1n) | (have t1 := nqf hb1; have Q1 := t1.1; have F1n := t1.2; obtain ⟨_, _, _, _, _, _, _, _, _⟩ := id Q1; obtain ⟨_, _, _, _, _⟩ := id F1n) | (have t1 := nfq hb1; have Q1 := t1.2; have F1n := t1.1; obtain ⟨_, _, _, _, _, _, _, _, _⟩ := id Q1; obtain ⟨_, _, _, _, _⟩ := id F1n) | (have Q1 := nq hb1; obtain ⟨_, _, _, _, _, _, _, _, _⟩ := id Q1) | (have F1n := nf hb1; obtain ⟨_, _, _, _, _⟩ := id F1n) | skip))
          | (go_at_call 20; (with_reducible refine (nearI _ u1.heap.size x n1 D1 l1 d1 y1 n0 d0 (i) (rv_at (LRd.more (B := w2.heap.size) (LRd.below (Hx1.more (by omega)) (B' := w2.heap.size) (by (repeat (first | with_reducible exact G0 | with_reducible exact B2 | with_reducible exact B1 | with_reducible exact Below.refl _ _ | with_reducible refine Below.drew ?_ | with_reducible refine Below.alloc ?_ (by first | (simp; done) | (simp; omega) | omega) _ | with_reducible refine Below.setCell ?_ (by first | (simp; done) | (simp; omega) | omega) _))) (Nat.le_refl _)) (by omega)) (LRd.more (B := w2.heap.size) (LRd.below (Hx2.more (by omega)) (B' := w2.heap.size) (by (repeat (first | with_reducible exact G0 | with_reducible exact B2 | with_reducible exact B1 | with_reducible exact Below.refl _ _ | with_reducible refine Below.drew ?_ | with_reducible refine Below.alloc ?_ (by first | (simp; done) | (simp; omega) | omega) _ | with_reducible refine Below.setCell ?_ (by first | (simp; done) | (simp; omega) | omega) _))) (Nat.le_refl _)) (by omega))) (by first | (simp; done) | (simp; omega) | omega) (LRd.below hm1' (B' := u1.heap.size) (by (repeat (first | with_reducible exact Below.refl _ _ | with_reducible refine Below.alloc ?_ (by first | (simp; done) | (simp; omega) | omega) _))) (Nat.le_refl _)) hf IX IY J1 hd0 hm1 HBD).mono ?_); rintro e u2 ⟨z, rfl, HZ2, i2, i7, hb2⟩; have I2 := Lib.hid i2; have I7 := Lib.hid i7; clear i2 i7; have K12 : Below u1.heap.size u1 u2 := (by refine bnext ?_ hb2; (repeat (first | with_reducible exact Below.refl _ _ | with_reducible refine Below.alloc ?_ (by first | (simp; done) | (simp; omega) | omega) _))); have B2 : Below w2.heap.size w2 u2 := bnext B1 K12; have b2s := B2.size; (first | (have t2 := nqfd hb2; have Q2 := t2.1; have F2n := t2.2; obtain ⟨_, _, _, _, _, _, _, _, _⟩ := id Q2; obtain ⟨_, _, _, _, _⟩ := id F2n) | (have t2 := nfqd hb2; have Q2 := t2.2; have F2n := t2.1; obtain ⟨_, _, _, _, _, _, _, _, _⟩ := id Q2; obtain ⟨_, _, _, _, _⟩ := id F2n) | (have Q2 := nqd hb2; obtain ⟨_, _, _, _, _, _, _, _, _⟩ := id Q2) | (have F2n := nfd hb2; obtain ⟨_, _, _, _, _⟩ := id F2n) | (have t2 := nqf hb2; have Q2 := t2.1; have F2n := t2.2; obtain ⟨_, _, _, _, _, _, _, _, _⟩ := id Q2; obtain ⟨_, _, _, _, _⟩ := id F2n) | (have t2 := nfq hb2; have Q2 := t2.2; have F2n := t2.1; obtain ⟨_, _, _, _, _, _, _, _, _⟩ := id Q2; obtain ⟨_, _, _, _, _⟩ := id F2n) | (have Q2 := nq hb2; obtain ⟨_, _, _, _, _, _, _, _, _⟩ := id Q2) | (have F2n := nf hb2; obtain ⟨_, _, _, _, _⟩ := id F2n) | skip); (first | (have Q2o := Q1.below K12 Q1.lt; obtain ⟨_, _, _, _, _, _, _, _, _⟩ := id Q2o) | skip); (first | (have F2o := F1n.below K12 F1n.lt; obtain ⟨_, _, _, _, _⟩ := id F2o) | skip))
          | fail)
      all_goals (go_wp2_with fail)
      all_goals go_meet
      all_goals first
        | with_reducible exact pg_aa HZ2 I2 I7 B2
        | with_reducible exact pg_bb HZ2 I2 I7 B2
        | with_reducible exact pg_oa HZ2 I2 I7 B2 (by with_reducible assumption) (by omega)
        | with_reducible exact pg_ao HZ2 I2 I7 B2 (by with_reducible assumption) (by omega)
        | with_reducible exact pg_oo HZ2 I2 I7 B2 (by with_reducible assumption) (by with_reducible assumption) (by omega) (by omega) (by omega)
        | fail
  case rest =>
  obtain ⟨g7, g8, y, rfl, rfl, P7, F8, Hy, Ny, Dy, hg7, hg8, hneg7, hbX⟩ := hcut
  replace E : Below w.heap.size w wc := E.trans (hbX.mono E.size)
  replace Hx1 : LRd wc (w.heap.size) x.num.A x.num.n x.num.c x.num.xs := Hx1.below hbX (by omega)
  replace Hx2 : LRd wc (w.heap.size) x.den.A x.den.n x.den.c x.den.xs := Hx2.below hbX (by omega)
  replace PA : Bk4 wc (w.heap.size) (.bool x.num.neg) (.slice x.num.A x.num.n x.num.c) (.bool x.den.neg) (.slice x.den.A x.den.n x.den.c) := PA.below hbX PA.lt
  have sVy := hbX.size
  clear hbX
  obtain ⟨Vy, hVy⟩ : ∃ y : World, y = wc := ⟨_, rfl⟩
  subst hVy
  have Hy1 : LRd Vy Vy.heap.size y.num.A y.num.n y.num.c y.num.xs := Hy.1
  have Hy2 : LRd Vy Vy.heap.size y.den.A y.den.n y.den.c y.den.xs := Hy.2
  clear Hy
  go_upto_region 6 with fail
  go_cut [9, 10] (fun s5 s6 wx => PtG Vy (nearZ n0 d0 (i + j)).1 (nearZ n0 d0 (i + j)).2 s5 s6 wx)
  case first =>
    as_aux_lemma =>
      have lt_PA := PA.lt
      have HS := Lib.hid (fun (u : World) (hu : Below Vy.heap.size Vy u) => (⟨(hu.cell (p := ⟨w.heap.size, 0, none⟩) (by show w.heap.size < _; omega)).trans PA.c0, (hu.cell (p := ⟨w.heap.size, 1, none⟩) (by show w.heap.size < _; omega)).trans PA.c1, (hu.cell (p := ⟨w.heap.size, 2, none⟩) (by show w.heap.size < _; omega)).trans PA.c2, (hu.cell (p := ⟨w.heap.size, 3, none⟩) (by show w.heap.size < _; omega)).trans PA.c3⟩ : u.cell? ⟨w.heap.size, 0, none⟩ = some (.bool x.num.neg) ∧ u.cell? ⟨w.heap.size, 1, none⟩ = some (.slice x.num.A x.num.n x.num.c) ∧ u.cell? ⟨w.heap.size, 2, none⟩ = some (.bool x.den.neg) ∧ u.cell? ⟨w.heap.size, 3, none⟩ = some (.slice x.den.A x.den.n x.den.c)))
      have G0 : Below Vy.heap.size Vy Vy.drew := Below.drew (Below.refl _ _)
      have hb6 := Lib.hid (show -9223372036854775808 ≤ i + j ∧ i + j ≤ 9223372036854775807 from ⟨by omega, by omega⟩)
      have hw : IntKind.i64.wrap (i + j) = i + j := IntWalk.i64_in _ (by omega)
      clear P7 F8 Hy1 Hy2 Ny Dy
      clear hi1 hi2 hj1 hj2 hfi E NR
      go_region_held3 (fun u => u.cell? ⟨w.heap.size, 0, none⟩ = some (.bool x.num.neg) ∧ u.cell? ⟨w.heap.size, 1, none⟩ = some (.slice x.num.A x.num.n x.num.c) ∧ u.cell? ⟨w.heap.size, 2, none⟩ = some (.bool x.den.neg) ∧ u.cell? ⟨w.heap.size, 3, none⟩ = some (.slice x.den.A x.den.n x.den.c))
        (first | exact HS.out _ (by (repeat (first | with_reducible exact G0 | with_reducible exact B2 | with_reducible exact B1 | with_reducible exact Below.refl _ _ | with_reducible refine Below.drew ?_ | with_reducible refine Below.alloc ?_ (by first | (simp; done) | (simp; omega) | omega) _ | with_reducible refine Below.setCell ?_ (by first | (simp; done) | (simp; omega) | omega) _))) | fail)
        (first
          | (go_at_call 18; (with_reducible refine (iof_any _ (i + j) hb6.out.1 hb6.out.2).mono ?_); rintro e u1 ⟨n1, D1, l1, d1, y1, rfl, hm1', hs1, hb1⟩; have B1 : Below Vy.heap.size Vy u1 := (by refine bnext ?_ hb1; (repeat (first | with_reducible exact G0 | with_reducible exact B2 | with_reducible exact B1 | with_reducible exact Below.refl _ _ | with_reducible refine Below.drew ?_ | with_reducible refine Below.alloc ?_ (by first | (simp; done) | (simp; omega) | omega) _ | with_reducible refine Below.setCell ?_ (by first | (simp; done) | (simp; omega) | omega) _))); have b1s := B1.size; have J1 := Lib.hid hs1; clear hs1; (first | (have t1 := nqfd hb1; have Q1 := t1.1; have F1n := t1.2; obtain ⟨_, _, _, _, _, _, _, _, _⟩ := id Q1; obtain ⟨_, _, _, _, _⟩ := id F1n) | (have t1 := nfqd hb1; have Q1 := t1.2; have F1n := t1.1; obtain ⟨_, _, _, _, _, _, _, _, _⟩ := id Q1; obtain ⟨_, _, _, _, _⟩ := id F1n) | (have Q1 := nqd hb1; obtain ⟨_, _, _, _, _, _, _, _, _⟩ := id Q1) | (have F1n := nfd hb1; obtain ⟨_, _, _, _, _⟩ := id F1n) | (have t1 := nqf hb1; have Q1 := t1.1; have F1n := t1.2; obtain ⟨_, _, _, _, _, _, _, _, _⟩ := id Q1; obtain ⟨_, _, _, _, _⟩ := id F1n) | (have t1 := nfq hb1; have Q1 := t1.2; have F1n := t1.1; obtain ⟨_, _, _, _, _, _, _, _, _⟩ := id Q1; obtain ⟨_, _, _, _, _⟩ := id F1n) | (have Q1 := nq hb1; obtain ⟨_, _, _, _, _, _, _, _, _⟩ := id Q1) | (have F1n := nf hb1; obtain ⟨_, _, _, _, _⟩ := id F1n) | skip))
          | (go_at_call 20; (with_reducible refine (nearI _ u1.heap.size x n1 D1 l1 d1 y1 n0 d0 (i + j) (rv_at (LRd.more (B := Vy.heap.size) (LRd.below (Hx1.more (by omega)) (B' := Vy.heap.size) (by (repeat (first | with_reducible exact G0 | with_reducible exact B2 | with_reducible exact B1 | with_reducible exact Below.refl _ _ | with_reducible refine Below.drew ?_ | with_reducible refine Below.alloc ?_ (by first | (simp; done) | (simp; omega) | omega) _ | with_reducible refine Below.setCell ?_ (by first | (simp; done) | (simp; omega) | omega) _))) (Nat.le_refl _)) (by omega)) (LRd.more (B := Vy.heap.size) (LRd.below (Hx2.more (by omega)) (B' := Vy.heap.size) (by (repeat (first | with_reducible exact G0 | with_reducible exact B2 | with_reducible exact B1 | with_reducible exact Below.refl _ _ | with_reducible refine Below.drew ?_ | with_reducible refine Below.alloc ?_ (by first | (simp; done) | (simp; omega) | omega) _ | with_reducible refine Below.setCell ?_ (by first | (simp; done) | (simp; omega) | omega) _))) (Nat.le_refl _)) (by omega))) (by first | (simp; done) | (simp; omega) | omega) (LRd.below hm1' (B' := u1.heap.size) (by (repeat (first | with_reducible exact Below.refl _ _ | with_reducible refine Below.alloc ?_ (by first | (simp; done) | (simp; omega) | omega) _))) (Nat.le_refl _)) hf IX IY J1 hd0 hm2 HBE).mono ?_); rintro e u2 ⟨z, rfl, HZ2, i2, i7, hb2⟩; have I2 := Lib.hid i2; have I7 := Lib.hid i7; clear i2 i7; have K12 : Below u1.heap.size u1 u2 := (by refine bnext ?_ hb2; (repeat (first | with_reducible exact Below.refl _ _ | with_reducible refine Below.alloc ?_ (by first | (simp; done) | (simp; omega) | omega) _))); have B2 : Below Vy.heap.size Vy u2 := bnext B1 K12; have b2s := B2.size; (first | (have t2 := nqfd hb2; have Q2 := t2.1; have F2n := t2.2; obtain ⟨_, _, _, _, _, _, _, _, _⟩ := id Q2; obtain ⟨_, _, _, _, _⟩ := id F2n) | (have t2 := nfqd hb2; have Q2 := t2.2; have F2n := t2.1; obtain ⟨_, _, _, _, _, _, _, _, _⟩ := id Q2; obtain ⟨_, _, _, _, _⟩ := id F2n) | (have Q2 := nqd hb2; obtain ⟨_, _, _, _, _, _, _, _, _⟩ := id Q2) | (have F2n := nfd hb2; obtain ⟨_, _, _, _, _⟩ := id F2n) | (have t2 := nqf hb2; have Q2 := t2.1; have F2n := t2.2; obtain ⟨_, _, _, _, _, _, _, _, _⟩ := id Q2; obtain ⟨_, _, _, _, _⟩ := id F2n) | (have t2 := nfq hb2; have Q2 := t2.2; have F2n := t2.1; obtain ⟨_, _, _, _, _, _, _, _, _⟩ := id Q2; obtain ⟨_, _, _, _, _⟩ := id F2n) | (have Q2 := nq hb2; obtain ⟨_, _, _, _, _, _, _, _, _⟩ := id Q2) | (have F2n := nf hb2; obtain ⟨_, _, _, _, _⟩ := id F2n) | skip); (first | (have Q2o := Q1.below K12 Q1.lt; obtain ⟨_, _, _, _, _, _, _, _, _⟩ := id Q2o) | skip); (first | (have F2o := F1n.below K12 F1n.lt; obtain ⟨_, _, _, _, _⟩ := id F2o) | skip))
          | fail)
      all_goals (go_wp2_with fail)
      all_goals go_meet
      all_goals first
        | with_reducible exact pg_aa HZ2 I2 I7 B2
        | with_reducible exact pg_bb HZ2 I2 I7 B2
        | with_reducible exact pg_oa HZ2 I2 I7 B2 (by with_reducible assumption) (by omega)
        | with_reducible exact pg_ao HZ2 I2 I7 B2 (by with_reducible assumption) (by omega)
        | with_reducible exact pg_oo HZ2 I2 I7 B2 (by with_reducible assumption) (by with_reducible assumption) (by omega) (by omega) (by omega)
        | fail
  case rest =>
  obtain ⟨g9, g10, z, rfl, rfl, P9, F10, Hz, Nz, Dz, hg9, hg10, hneg9, hbX⟩ := hcut
  replace E : Below w.heap.size w wc := E.trans (hbX.mono E.size)
  replace Hx1 : LRd wc (w.heap.size) x.num.A x.num.n x.num.c x.num.xs := Hx1.below hbX (by omega)
  replace Hx2 : LRd wc (w.heap.size) x.den.A x.den.n x.den.c x.den.xs := Hx2.below hbX (by omega)
  replace PA : Bk4 wc (w.heap.size) (.bool x.num.neg) (.slice x.num.A x.num.n x.num.c) (.bool x.den.neg) (.slice x.den.A x.den.n x.den.c) := PA.below hbX PA.lt
  replace P7 : Bk4 wc (g7) (.bool y.num.neg) (.slice y.num.A y.num.n y.num.c) (.bool y.den.neg) (.slice y.den.A y.den.n y.den.c) := P7.below hbX P7.lt
  replace F8 : Bk2 wc (g8) (.int .i64 0) (.int .i64 0) := F8.below hbX F8.lt
  replace Hy1 : LRd wc (Vy.heap.size) y.num.A y.num.n y.num.c y.num.xs := Hy1.below hbX (by omega)
  replace Hy2 : LRd wc (Vy.heap.size) y.den.A y.den.n y.den.c y.den.xs := Hy2.below hbX (by omega)
  have sVz := hbX.size
  clear hbX
  obtain ⟨Vz, hVz⟩ : ∃ y : World, y = wc := ⟨_, rfl⟩
  subst hVz
  have Hz1 : LRd Vz Vz.heap.size z.num.A z.num.n z.num.c z.num.xs := Hz.1
  have Hz2 : LRd Vz Vz.heap.size z.den.A z.den.n z.den.c z.den.xs := Hz.2
  clear Hz
  generalize hy : nearZ n0 d0 i = yy at NR Ny Dy
  generalize hz : nearZ n0 d0 (i + j) = zz at NR Nz Dz
  clear hy hz
  obtain ⟨yn, yd⟩ := yy
  obtain ⟨zn, zd⟩ := zz
  replace Ny : Hid (IRep y.num.neg y.num.xs yn) := Ny
  replace Dy : Hid (IRep y.den.neg y.den.xs yd) := Dy
  replace Nz : Hid (IRep z.num.neg z.num.xs zn) := Nz
  replace Dz : Hid (IRep z.den.neg z.den.xs zd) := Dz
  replace NR : Hid (Near n0 d0 i yn yd ∧ Near n0 d0 (i + j) zn zd) := NR
  have ty := Lib.hid (show yn.natAbs < Top128 ∧ yd.natAbs < Top128 from ⟨Nat.lt_of_le_of_lt (NR.out.1.num hd0 hm1.out) (tn_mul HT.out (by have := NR.out.1.le; have := NR.out.1.pos; omega)), lt_top2 (by have := NR.out.1.le; have := NR.out.1.pos; omega)⟩)
  have tz := Lib.hid (show zn.natAbs < Top128 ∧ zd.natAbs < Top128 from ⟨Nat.lt_of_le_of_lt (NR.out.2.num hd0 hm2.out) (tn_mul HT.out (by have := NR.out.2.le; have := NR.out.2.pos; omega)), lt_top2 (by have := NR.out.2.le; have := NR.out.2.pos; omega)⟩)
  have oy := Lib.hid (rv_ok Ny.out Dy.out Hy2.len.out ty.out.1 ty.out.2 (by have := NR.out.1.pos; omega) NR.out.1.low)
  have oz := Lib.hid (rv_ok Nz.out Dz.out Hz2.len.out tz.out.1 tz.out.2 (by have := NR.out.2.pos; omega) NR.out.2.low)
  have vx := Lib.hid (rv_vals IX.out IY.out)
  have vy := Lib.hid (rv_vals Ny.out Dy.out)
  have vz := Lib.hid (rv_vals Nz.out Dz.out)
  have t_F80 : Vz.cell? ⟨g8, 0, none⟩ = some ((.int .i64 0)) := F8.c0
  have t_F81 : Vz.cell? ⟨g8, 1, none⟩ = some ((.int .i64 0)) := F8.c1
  have t_F100 : Vz.cell? ⟨g10, 0, none⟩ = some ((.int .i64 0)) := F10.c0
  have t_F101 : Vz.cell? ⟨g10, 1, none⟩ = some ((.int .i64 0)) := F10.c1
  have t_P70 : Vz.cell? ⟨g7, 0, none⟩ = some ((.bool y.num.neg)) := P7.c0
  have t_P71 : Vz.cell? ⟨g7, 1, none⟩ = some ((.slice y.num.A y.num.n y.num.c)) := P7.c1
  have t_P72 : Vz.cell? ⟨g7, 2, none⟩ = some ((.bool y.den.neg)) := P7.c2
  have t_P73 : Vz.cell? ⟨g7, 3, none⟩ = some ((.slice y.den.A y.den.n y.den.c)) := P7.c3
  go_wp2_with fail
  clear t_F80 t_F81 t_F100 t_F101 t_P70 t_P71 t_P72 t_P73
  (with_reducible refine (rok_any _ Vz.heap.size y (rv_at (Hy1.more (by omega)) (Hy2.more (by omega))) (Nat.le_refl _)).mono ?_)
  rintro e w7 ⟨rfl, hb7⟩
  have sw7 := hb7.size
  replace E : Below w.heap.size w w7 := E.trans (hb7.mono E.size)
  replace Hx1 : LRd w7 (w.heap.size) x.num.A x.num.n x.num.c x.num.xs := Hx1.below hb7 (by omega)
  replace Hx2 : LRd w7 (w.heap.size) x.den.A x.den.n x.den.c x.den.xs := Hx2.below hb7 (by omega)
  replace PA : Bk4 w7 (w.heap.size) (.bool x.num.neg) (.slice x.num.A x.num.n x.num.c) (.bool x.den.neg) (.slice x.den.A x.den.n x.den.c) := PA.below hb7 PA.lt
  replace P7 : Bk4 w7 (g7) (.bool y.num.neg) (.slice y.num.A y.num.n y.num.c) (.bool y.den.neg) (.slice y.den.A y.den.n y.den.c) := P7.below hb7 P7.lt
  replace F8 : Bk2 w7 (g8) (.int .i64 0) (.int .i64 0) := F8.below hb7 F8.lt
  replace Hy1 : LRd w7 (Vy.heap.size) y.num.A y.num.n y.num.c y.num.xs := Hy1.below hb7 (by omega)
  replace Hy2 : LRd w7 (Vy.heap.size) y.den.A y.den.n y.den.c y.den.xs := Hy2.below hb7 (by omega)
  replace P9 : Bk4 w7 (g9) (.bool z.num.neg) (.slice z.num.A z.num.n z.num.c) (.bool z.den.neg) (.slice z.den.A z.den.n z.den.c) := P9.below hb7 P9.lt
  replace F10 : Bk2 w7 (g10) (.int .i64 0) (.int .i64 0) := F10.below hb7 F10.lt
  replace Hz1 : LRd w7 (Vz.heap.size) z.num.A z.num.n z.num.c z.num.xs := Hz1.below hb7 (by omega)
  replace Hz2 : LRd w7 (Vz.heap.size) z.den.A z.den.n z.den.c z.den.xs := Hz2.below hb7 (by omega)
  clear hb7
  rw [oy.out]
  have t_P90 : w7.cell? ⟨g9, 0, none⟩ = some ((.bool z.num.neg)) := P9.c0
  have t_P91 : w7.cell? ⟨g9, 1, none⟩ = some ((.slice z.num.A z.num.n z.num.c)) := P9.c1
  have t_P92 : w7.cell? ⟨g9, 2, none⟩ = some ((.bool z.den.neg)) := P9.c2
  have t_P93 : w7.cell? ⟨g9, 3, none⟩ = some ((.slice z.den.A z.den.n z.den.c)) := P9.c3
  have t_F100 : w7.cell? ⟨g10, 0, none⟩ = some ((.int .i64 0)) := F10.c0
  have t_F101 : w7.cell? ⟨g10, 1, none⟩ = some ((.int .i64 0)) := F10.c1
  go_wp2_with fail
  clear t_P90 t_P91 t_P92 t_P93 t_F100 t_F101
  (with_reducible refine (rok_any _ Vz.heap.size z (rv_at (Hz1.more (by omega)) (Hz2.more (by omega))) (by omega)).mono ?_)
  rintro e w8 ⟨rfl, hb8⟩
  have sw8 := hb8.size
  replace E : Below w.heap.size w w8 := E.trans (hb8.mono E.size)
  replace Hx1 : LRd w8 (w.heap.size) x.num.A x.num.n x.num.c x.num.xs := Hx1.below hb8 (by omega)
  replace Hx2 : LRd w8 (w.heap.size) x.den.A x.den.n x.den.c x.den.xs := Hx2.below hb8 (by omega)
  replace PA : Bk4 w8 (w.heap.size) (.bool x.num.neg) (.slice x.num.A x.num.n x.num.c) (.bool x.den.neg) (.slice x.den.A x.den.n x.den.c) := PA.below hb8 PA.lt
  replace P7 : Bk4 w8 (g7) (.bool y.num.neg) (.slice y.num.A y.num.n y.num.c) (.bool y.den.neg) (.slice y.den.A y.den.n y.den.c) := P7.below hb8 P7.lt
  replace F8 : Bk2 w8 (g8) (.int .i64 0) (.int .i64 0) := F8.below hb8 F8.lt
  replace Hy1 : LRd w8 (Vy.heap.size) y.num.A y.num.n y.num.c y.num.xs := Hy1.below hb8 (by omega)
  replace Hy2 : LRd w8 (Vy.heap.size) y.den.A y.den.n y.den.c y.den.xs := Hy2.below hb8 (by omega)
  replace P9 : Bk4 w8 (g9) (.bool z.num.neg) (.slice z.num.A z.num.n z.num.c) (.bool z.den.neg) (.slice z.den.A z.den.n z.den.c) := P9.below hb8 P9.lt
  replace F10 : Bk2 w8 (g10) (.int .i64 0) (.int .i64 0) := F10.below hb8 F10.lt
  replace Hz1 : LRd w8 (Vz.heap.size) z.num.A z.num.n z.num.c z.num.xs := Hz1.below hb8 (by omega)
  replace Hz2 : LRd w8 (Vz.heap.size) z.den.A z.den.n z.den.c z.den.xs := Hz2.below hb8 (by omega)
  clear hb8
  rw [oz.out]
  have t_PA0 : w8.cell? ⟨w.heap.size, 0, none⟩ = some ((.bool x.num.neg)) := PA.c0
  have t_PA1 : w8.cell? ⟨w.heap.size, 1, none⟩ = some ((.slice x.num.A x.num.n x.num.c)) := PA.c1
  have t_PA2 : w8.cell? ⟨w.heap.size, 2, none⟩ = some ((.bool x.den.neg)) := PA.c2
  have t_PA3 : w8.cell? ⟨w.heap.size, 3, none⟩ = some ((.slice x.den.A x.den.n x.den.c)) := PA.c3
  go_wp2_with fail
  clear t_PA0 t_PA1 t_PA2 t_PA3
  (with_reducible refine (ratioOf_any _ w8.heap.size x (rv_at (Hx1.more (by omega)) (Hx2.more (by omega))) (Nat.le_refl _) ox.out).mono ?_)
  rintro e w9 hq
  obtain ⟨p, rfl, hpa, ⟨pv, hp1, hps, hp2⟩, hb9⟩ := GivesRR.q hq
  clear hq
  have sw9 := hb9.size
  replace E : Below w.heap.size w w9 := E.trans (hb9.mono E.size)
  replace Hx1 : LRd w9 (w.heap.size) x.num.A x.num.n x.num.c x.num.xs := Hx1.below hb9 (by omega)
  replace Hx2 : LRd w9 (w.heap.size) x.den.A x.den.n x.den.c x.den.xs := Hx2.below hb9 (by omega)
  replace PA : Bk4 w9 (w.heap.size) (.bool x.num.neg) (.slice x.num.A x.num.n x.num.c) (.bool x.den.neg) (.slice x.den.A x.den.n x.den.c) := PA.below hb9 PA.lt
  replace P7 : Bk4 w9 (g7) (.bool y.num.neg) (.slice y.num.A y.num.n y.num.c) (.bool y.den.neg) (.slice y.den.A y.den.n y.den.c) := P7.below hb9 P7.lt
  replace F8 : Bk2 w9 (g8) (.int .i64 0) (.int .i64 0) := F8.below hb9 F8.lt
  replace Hy1 : LRd w9 (Vy.heap.size) y.num.A y.num.n y.num.c y.num.xs := Hy1.below hb9 (by omega)
  replace Hy2 : LRd w9 (Vy.heap.size) y.den.A y.den.n y.den.c y.den.xs := Hy2.below hb9 (by omega)
  replace P9 : Bk4 w9 (g9) (.bool z.num.neg) (.slice z.num.A z.num.n z.num.c) (.bool z.den.neg) (.slice z.den.A z.den.n z.den.c) := P9.below hb9 P9.lt
  replace F10 : Bk2 w9 (g10) (.int .i64 0) (.int .i64 0) := F10.below hb9 F10.lt
  replace Hz1 : LRd w9 (Vz.heap.size) z.num.A z.num.n z.num.c z.num.xs := Hz1.below hb9 (by omega)
  replace Hz2 : LRd w9 (Vz.heap.size) z.den.A z.den.n z.den.c z.den.xs := Hz2.below hb9 (by omega)
  clear hb9
  have Rp1 := Lib.hid hp1
  have Rp2 := Lib.hid hp2
  have Sp := Lib.hid (show sval p.m pv = n0 from by rw [hps]; exact vx.out.1)
  have e2 := Lib.hid (show x.den.val.natAbs = d0.natAbs from by rw [vx.out.2])
  rw [e2.out] at Rp2
  have HP1 : DRd w9 w9.heap.size p.A p.n p.c p.xs := hpa.1
  have HP2 : DRd w9 w9.heap.size p.D p.k p.d p.ys := hpa.2
  clear hp1 hp2 hps hpa e2
  go_upto_region 10 with fail
  obtain ⟨V6, hV6⟩ : ∃ V6 : World, V6 = (w9.alloc (.cells #[.bool p.m, .slice p.A p.n p.c, .slice p.D p.k p.d] 40)) := ⟨_, rfl⟩
  have bV6 : Below w9.heap.size w9 V6 := by rw [hV6]; (repeat (first | with_reducible exact Below.refl _ _ | with_reducible refine Below.drew ?_ | with_reducible refine below_drewN ?_ _ | with_reducible refine Below.setCell ?_ (by first | (simp; done) | (simp; omega) | omega) _ | with_reducible refine Below.alloc ?_ (by first | (simp; done) | (simp; omega) | omega) _))
  have zV6 : w9.heap.size + 1 ≤ V6.heap.size := by rw [hV6]; simp
  have P11 : Bk3 V6 (w9.heap.size) (.bool p.m) (.slice p.A p.n p.c) (.slice p.D p.k p.d) := by rw [hV6]; exact (Bk3.newAt _ _ (by first | omega | (simp; done) | (simp; omega)) _ _ _ _)
  rw [← hV6]
  clear hV6
  replace E : Below w.heap.size w V6 := E.trans (bV6.mono E.size)
  replace Hx1 : LRd V6 (w.heap.size) x.num.A x.num.n x.num.c x.num.xs := Hx1.below bV6 (by omega)
  replace Hx2 : LRd V6 (w.heap.size) x.den.A x.den.n x.den.c x.den.xs := Hx2.below bV6 (by omega)
  replace PA : Bk4 V6 (w.heap.size) (.bool x.num.neg) (.slice x.num.A x.num.n x.num.c) (.bool x.den.neg) (.slice x.den.A x.den.n x.den.c) := PA.below bV6 PA.lt
  replace P7 : Bk4 V6 (g7) (.bool y.num.neg) (.slice y.num.A y.num.n y.num.c) (.bool y.den.neg) (.slice y.den.A y.den.n y.den.c) := P7.below bV6 P7.lt
  replace F8 : Bk2 V6 (g8) (.int .i64 0) (.int .i64 0) := F8.below bV6 F8.lt
  replace Hy1 : LRd V6 (Vy.heap.size) y.num.A y.num.n y.num.c y.num.xs := Hy1.below bV6 (by omega)
  replace Hy2 : LRd V6 (Vy.heap.size) y.den.A y.den.n y.den.c y.den.xs := Hy2.below bV6 (by omega)
  replace P9 : Bk4 V6 (g9) (.bool z.num.neg) (.slice z.num.A z.num.n z.num.c) (.bool z.den.neg) (.slice z.den.A z.den.n z.den.c) := P9.below bV6 P9.lt
  replace F10 : Bk2 V6 (g10) (.int .i64 0) (.int .i64 0) := F10.below bV6 F10.lt
  replace Hz1 : LRd V6 (Vz.heap.size) z.num.A z.num.n z.num.c z.num.xs := Hz1.below bV6 (by omega)
  replace Hz2 : LRd V6 (Vz.heap.size) z.den.A z.den.n z.den.c z.den.xs := Hz2.below bV6 (by omega)
  replace HP1 : DRd V6 (w9.heap.size) p.A p.n p.c p.xs := HP1.below bV6 (by omega)
  replace HP2 : DRd V6 (w9.heap.size) p.D p.k p.d p.ys := HP2.below bV6 (by omega)
  clear bV6
  have tp1 := Lib.hid (show pv < TT from lt_tt (by rw [← sval_abs p.m pv, Sp.out]; exact HB.out.1))
  have tp2 := Lib.hid (show d0.natAbs < TT from lt_tt HB.out.2)
  have dp2 := Lib.hid (show 0 < d0.natAbs by omega)
  have dyp := Lib.hid (show 0 < yd.natAbs by have := NR.out.1.pos; omega)
  have dzp := Lib.hid (show 0 < zd.natAbs by have := NR.out.2.pos; omega)
  go_cut [12] (fun s12 wx => QtR V6 (n0 * (yd.natAbs : Int) - yn * (d0.natAbs : Int)) (d0.natAbs * yd.natAbs) s12 wx)
  case first =>
    as_aux_lemma =>
      have lt_P11 := P11.lt
      have lt_P7 := P7.lt
      have HS := Lib.hid (fun (u : World) (hu : Below V6.heap.size V6 u) => (⟨(hu.cell (p := ⟨w9.heap.size, 0, none⟩) (by show w9.heap.size < _; omega)).trans P11.c0, (hu.cell (p := ⟨w9.heap.size, 1, none⟩) (by show w9.heap.size < _; omega)).trans P11.c1, (hu.cell (p := ⟨w9.heap.size, 2, none⟩) (by show w9.heap.size < _; omega)).trans P11.c2, (hu.cell (p := ⟨g7, 0, none⟩) (by show g7 < _; omega)).trans P7.c0, (hu.cell (p := ⟨g7, 1, none⟩) (by show g7 < _; omega)).trans P7.c1, (hu.cell (p := ⟨g7, 2, none⟩) (by show g7 < _; omega)).trans P7.c2, (hu.cell (p := ⟨g7, 3, none⟩) (by show g7 < _; omega)).trans P7.c3⟩ : u.cell? ⟨w9.heap.size, 0, none⟩ = some (.bool p.m) ∧ u.cell? ⟨w9.heap.size, 1, none⟩ = some (.slice p.A p.n p.c) ∧ u.cell? ⟨w9.heap.size, 2, none⟩ = some (.slice p.D p.k p.d) ∧ u.cell? ⟨g7, 0, none⟩ = some (.bool y.num.neg) ∧ u.cell? ⟨g7, 1, none⟩ = some (.slice y.num.A y.num.n y.num.c) ∧ u.cell? ⟨g7, 2, none⟩ = some (.bool y.den.neg) ∧ u.cell? ⟨g7, 3, none⟩ = some (.slice y.den.A y.den.n y.den.c)))
      have G0 : Below V6.heap.size V6 V6.drew := Below.drew (Below.refl _ _)
      clear hfi NR E
      go_region_held3 (fun u => u.cell? ⟨w9.heap.size, 0, none⟩ = some (.bool p.m) ∧ u.cell? ⟨w9.heap.size, 1, none⟩ = some (.slice p.A p.n p.c) ∧ u.cell? ⟨w9.heap.size, 2, none⟩ = some (.slice p.D p.k p.d) ∧ u.cell? ⟨g7, 0, none⟩ = some (.bool y.num.neg) ∧ u.cell? ⟨g7, 1, none⟩ = some (.slice y.num.A y.num.n y.num.c) ∧ u.cell? ⟨g7, 2, none⟩ = some (.bool y.den.neg) ∧ u.cell? ⟨g7, 3, none⟩ = some (.slice y.den.A y.den.n y.den.c))
        (first | exact HS.out _ (by (repeat (first | with_reducible exact G0 | with_reducible exact B9 | with_reducible exact B8 | with_reducible exact B7 | with_reducible exact B6 | with_reducible exact B5 | with_reducible exact B4 | with_reducible exact B3 | with_reducible exact B2 | with_reducible exact B1 | with_reducible exact Below.refl _ _ | with_reducible refine Below.drew ?_ | with_reducible refine Below.alloc ?_ (by first | (simp; done) | (simp; omega) | omega) _ | with_reducible refine Below.setCell ?_ (by first | (simp; done) | (simp; omega) | omega) _))) | fail)
        (first
          | (go_at_call 12; (with_reducible refine (ratioOf_any _ V6.heap.size y (rv_at (LRd.more (B := V6.heap.size) (LRd.below (Hy1.more (by omega)) (B' := V6.heap.size) (by (repeat (first | with_reducible exact G0 | with_reducible exact B9 | with_reducible exact B8 | with_reducible exact B7 | with_reducible exact B6 | with_reducible exact B5 | with_reducible exact B4 | with_reducible exact B3 | with_reducible exact B2 | with_reducible exact B1 | with_reducible exact Below.refl _ _ | with_reducible refine Below.drew ?_ | with_reducible refine Below.alloc ?_ (by first | (simp; done) | (simp; omega) | omega) _ | with_reducible refine Below.setCell ?_ (by first | (simp; done) | (simp; omega) | omega) _))) (Nat.le_refl _)) (by first | (simp; done) | (simp; omega) | omega)) (LRd.more (B := V6.heap.size) (LRd.below (Hy2.more (by omega)) (B' := V6.heap.size) (by (repeat (first | with_reducible exact G0 | with_reducible exact B9 | with_reducible exact B8 | with_reducible exact B7 | with_reducible exact B6 | with_reducible exact B5 | with_reducible exact B4 | with_reducible exact B3 | with_reducible exact B2 | with_reducible exact B1 | with_reducible exact Below.refl _ _ | with_reducible refine Below.drew ?_ | with_reducible refine Below.alloc ?_ (by first | (simp; done) | (simp; omega) | omega) _ | with_reducible refine Below.setCell ?_ (by first | (simp; done) | (simp; omega) | omega) _))) (Nat.le_refl _)) (by first | (simp; done) | (simp; omega) | omega))) (by first | (simp; done) | (simp; omega) | omega) oy.out).mono ?_); rintro e u1 hq; obtain ⟨q1, rfl, ha1, ⟨v1, h1, h2, h3⟩, hb1⟩ := GivesRR.q hq; clear hq; have R1 := Lib.hid h1; have T1 := Lib.hid (show sval q1.m v1 = yn from by rw [h2]; exact vy.out.1); have e3 := Lib.hid (show y.den.val.natAbs = yd.natAbs from by rw [vy.out.2]); rw [e3.out] at h3; have S1 := Lib.hid h3; have A1x : DRd u1 u1.heap.size q1.A q1.n q1.c q1.xs := ha1.1; have A1y : DRd u1 u1.heap.size q1.D q1.k q1.d q1.ys := ha1.2; have W1 := Lib.hid (show v1 < TT from lt_tt (by rw [← sval_abs q1.m v1, T1.out]; exact ty.out.1)); clear h1 h2 h3 ha1 e3; have B1 : Below V6.heap.size V6 u1 := (by refine bnext ?_ hb1; (repeat (first | with_reducible exact G0 | with_reducible exact B9 | with_reducible exact B8 | with_reducible exact B7 | with_reducible exact B6 | with_reducible exact B5 | with_reducible exact B4 | with_reducible exact B3 | with_reducible exact B2 | with_reducible exact B1 | with_reducible exact Below.refl _ _ | with_reducible refine Below.drew ?_ | with_reducible refine Below.alloc ?_ (by first | (simp; done) | (simp; omega) | omega) _ | with_reducible refine Below.setCell ?_ (by first | (simp; done) | (simp; omega) | omega) _))); have b1s := B1.size; (first | (have Q1 := nq3d hb1; obtain ⟨_, _, _, _, _, _, _⟩ := id Q1) | (have Q1 := nq3 hb1; obtain ⟨_, _, _, _, _, _, _⟩ := id Q1) | skip))
          | (go_at_call 21; (with_reducible refine (qless_v _ u1.heap.size p q1 pv v1 d0.natAbs yd.natAbs (qv_at (DRd.more (B := V6.heap.size) (DRd.below (HP1.more (by omega)) (B' := V6.heap.size) (by (repeat (first | with_reducible exact G0 | with_reducible exact B9 | with_reducible exact B8 | with_reducible exact B7 | with_reducible exact B6 | with_reducible exact B5 | with_reducible exact B4 | with_reducible exact B3 | with_reducible exact B2 | with_reducible exact B1 | with_reducible exact Below.refl _ _ | with_reducible refine Below.drew ?_ | with_reducible refine Below.alloc ?_ (by first | (simp; done) | (simp; omega) | omega) _ | with_reducible refine Below.setCell ?_ (by first | (simp; done) | (simp; omega) | omega) _))) (Nat.le_refl _)) (by first | (simp; done) | (simp; omega) | omega)) (DRd.more (B := V6.heap.size) (DRd.below (HP2.more (by omega)) (B' := V6.heap.size) (by (repeat (first | with_reducible exact G0 | with_reducible exact B9 | with_reducible exact B8 | with_reducible exact B7 | with_reducible exact B6 | with_reducible exact B5 | with_reducible exact B4 | with_reducible exact B3 | with_reducible exact B2 | with_reducible exact B1 | with_reducible exact Below.refl _ _ | with_reducible refine Below.drew ?_ | with_reducible refine Below.alloc ?_ (by first | (simp; done) | (simp; omega) | omega) _ | with_reducible refine Below.setCell ?_ (by first | (simp; done) | (simp; omega) | omega) _))) (Nat.le_refl _)) (by first | (simp; done) | (simp; omega) | omega))) (qv_at (DRd.below A1x (B' := u1.heap.size) (by (repeat (first | with_reducible exact Below.refl _ _ | with_reducible refine Below.alloc ?_ (by first | (simp; done) | (simp; omega) | omega) _))) (Nat.le_refl _)) (DRd.below A1y (B' := u1.heap.size) (by (repeat (first | with_reducible exact Below.refl _ _ | with_reducible refine Below.alloc ?_ (by first | (simp; done) | (simp; omega) | omega) _))) (Nat.le_refl _))) (by first | (simp; done) | (simp; omega) | omega) Rp1 Rp2 R1 S1 tp1.out tp2.out W1.out (lt_tt ty.out.2) (Lib.hid (Nat.mul_pos dp2.out dyp.out))).mono ?_); rintro e u2 ⟨yv2, yw2, hlo, q2, rfl, ha2, ⟨v2, h1, h2, h3⟩, hb2⟩; have L2 := Lib.hid (less_is hlo Sp.out T1.out); have R2 := Lib.hid h1; have T2 := Lib.hid h2; have S2 := Lib.hid h3; have A2x : DRd u2 u2.heap.size q2.A q2.n q2.c q2.xs := ha2.1; have A2y : DRd u2 u2.heap.size q2.D q2.k q2.d q2.ys := ha2.2; clear hlo h1 h2 h3 ha2; have B2 : Below V6.heap.size V6 u2 := (by refine bnext ?_ hb2; (repeat (first | with_reducible exact G0 | with_reducible exact B9 | with_reducible exact B8 | with_reducible exact B7 | with_reducible exact B6 | with_reducible exact B5 | with_reducible exact B4 | with_reducible exact B3 | with_reducible exact B2 | with_reducible exact B1 | with_reducible exact Below.refl _ _ | with_reducible refine Below.drew ?_ | with_reducible refine Below.alloc ?_ (by first | (simp; done) | (simp; omega) | omega) _ | with_reducible refine Below.setCell ?_ (by first | (simp; done) | (simp; omega) | omega) _))); have b2s := B2.size; have K2 : Below u1.heap.size u1 u2 := (by refine bnext ?_ hb2; (repeat (first | with_reducible exact Below.refl _ _ | with_reducible refine Below.alloc ?_ (by first | (simp; done) | (simp; omega) | omega) _))); (first | (have Q2 := nq3d hb2; obtain ⟨_, _, _, _, _, _, _⟩ := id Q2) | (have Q2 := nq3 hb2; obtain ⟨_, _, _, _, _, _, _⟩ := id Q2) | skip); (first | (have Q2o := Q1.below K2 Q1.lt; obtain ⟨_, _, _, _, _, _, _⟩ := id Q2o) | skip))
          | (go_at_call 22; (with_reducible refine (qabs_v _ u2.heap.size q2 v2 yw2 (qv_at (DRd.below A2x (B' := u2.heap.size) (by (repeat (first | with_reducible exact Below.refl _ _ | with_reducible refine Below.alloc ?_ (by first | (simp; done) | (simp; omega) | omega) _))) (Nat.le_refl _)) (DRd.below A2y (B' := u2.heap.size) (by (repeat (first | with_reducible exact Below.refl _ _ | with_reducible refine Below.alloc ?_ (by first | (simp; done) | (simp; omega) | omega) _))) (Nat.le_refl _))) (by first | (simp; done) | (simp; omega) | omega) R2 S2).mono ?_); rintro e u3 ⟨q3, rfl, ha3, ⟨v3, h1, h2, h3⟩, hb3⟩; have R3 := Lib.hid h1; have T3 := Lib.hid (abs_is h2 T2.out); have S3 := Lib.hid h3; have A3 : q3.at u3 u3.heap.size := ha3; clear h1 h2 h3 ha3; have B3 : Below V6.heap.size V6 u3 := (by refine bnext ?_ hb3; (repeat (first | with_reducible exact G0 | with_reducible exact B9 | with_reducible exact B8 | with_reducible exact B7 | with_reducible exact B6 | with_reducible exact B5 | with_reducible exact B4 | with_reducible exact B3 | with_reducible exact B2 | with_reducible exact B1 | with_reducible exact Below.refl _ _ | with_reducible refine Below.drew ?_ | with_reducible refine Below.alloc ?_ (by first | (simp; done) | (simp; omega) | omega) _ | with_reducible refine Below.setCell ?_ (by first | (simp; done) | (simp; omega) | omega) _))); have b3s := B3.size; have K3 : Below u2.heap.size u2 u3 := (by refine bnext ?_ hb3; (repeat (first | with_reducible exact Below.refl _ _ | with_reducible refine Below.alloc ?_ (by first | (simp; done) | (simp; omega) | omega) _))); (first | (have Q3 := nq3d hb3; obtain ⟨_, _, _, _, _, _, _⟩ := id Q3) | (have Q3 := nq3 hb3; obtain ⟨_, _, _, _, _, _, _⟩ := id Q3) | skip); (first | (have Q3o := Q2.below K3 Q2.lt; obtain ⟨_, _, _, _, _, _, _⟩ := id Q3o) | skip); (first | (have Q3p := Q2o.below K3 Q2o.lt; obtain ⟨_, _, _, _, _, _, _⟩ := id Q3p) | skip))
          | fail)
      all_goals (go_wp2_with fail)
      all_goals go_meet
      all_goals first
        | with_reducible exact qt_a A3 R3 T3 S3 L2 B3
        | with_reducible exact qt_o A3 R3 T3 S3 L2 B3 (by with_reducible assumption) (by omega)
        | fail
  case rest =>
  obtain ⟨g12, qg, gv, gw, ga, rfl, P12, HG, RG, SG, RW, LG, hg12, hbX⟩ := hcut
  replace P11 : Bk3 wc (w9.heap.size) (.bool p.m) (.slice p.A p.n p.c) (.slice p.D p.k p.d) := P11.below hbX P11.lt
  replace E : Below w.heap.size w wc := E.trans (hbX.mono E.size)
  replace Hx1 : LRd wc (w.heap.size) x.num.A x.num.n x.num.c x.num.xs := Hx1.below hbX (by omega)
  replace Hx2 : LRd wc (w.heap.size) x.den.A x.den.n x.den.c x.den.xs := Hx2.below hbX (by omega)
  replace PA : Bk4 wc (w.heap.size) (.bool x.num.neg) (.slice x.num.A x.num.n x.num.c) (.bool x.den.neg) (.slice x.den.A x.den.n x.den.c) := PA.below hbX PA.lt
  replace P7 : Bk4 wc (g7) (.bool y.num.neg) (.slice y.num.A y.num.n y.num.c) (.bool y.den.neg) (.slice y.den.A y.den.n y.den.c) := P7.below hbX P7.lt
  replace F8 : Bk2 wc (g8) (.int .i64 0) (.int .i64 0) := F8.below hbX F8.lt
  replace Hy1 : LRd wc (Vy.heap.size) y.num.A y.num.n y.num.c y.num.xs := Hy1.below hbX (by omega)
  replace Hy2 : LRd wc (Vy.heap.size) y.den.A y.den.n y.den.c y.den.xs := Hy2.below hbX (by omega)
  replace P9 : Bk4 wc (g9) (.bool z.num.neg) (.slice z.num.A z.num.n z.num.c) (.bool z.den.neg) (.slice z.den.A z.den.n z.den.c) := P9.below hbX P9.lt
  replace F10 : Bk2 wc (g10) (.int .i64 0) (.int .i64 0) := F10.below hbX F10.lt
  replace Hz1 : LRd wc (Vz.heap.size) z.num.A z.num.n z.num.c z.num.xs := Hz1.below hbX (by omega)
  replace Hz2 : LRd wc (Vz.heap.size) z.den.A z.den.n z.den.c z.den.xs := Hz2.below hbX (by omega)
  replace HP1 : DRd wc (w9.heap.size) p.A p.n p.c p.xs := HP1.below hbX (by omega)
  replace HP2 : DRd wc (w9.heap.size) p.D p.k p.d p.ys := HP2.below hbX (by omega)
  have sV12 := hbX.size
  clear hbX
  obtain ⟨Vc, hVc⟩ : ∃ y : World, y = wc := ⟨_, rfl⟩
  subst hVc
  have HG1 : DRd Vc Vc.heap.size qg.A qg.n qg.c qg.xs := HG.1
  have HG2 : DRd Vc Vc.heap.size qg.D qg.k qg.d qg.ys := HG.2
  clear HG
  have gb := Lib.hid (low_bd LG.out SG.out HB.out.2 ty.out.2 HB.out.1 ty.out.1)
  go_upto_region 11 with fail
  have lt_P11 := P11.lt
  have lt_P12 := P12.lt
  have lt_P9 := P9.lt
  have HS := Lib.hid (fun (u : World) (hu : Below (Vc.heap.size) Vc u) => (⟨(hu.cell (p := ⟨w9.heap.size, 0, none⟩) (by show w9.heap.size < _; omega)).trans P11.c0, (hu.cell (p := ⟨w9.heap.size, 1, none⟩) (by show w9.heap.size < _; omega)).trans P11.c1, (hu.cell (p := ⟨w9.heap.size, 2, none⟩) (by show w9.heap.size < _; omega)).trans P11.c2, (hu.cell (p := ⟨g12, 0, none⟩) (by show g12 < _; omega)).trans P12.c0, (hu.cell (p := ⟨g12, 1, none⟩) (by show g12 < _; omega)).trans P12.c1, (hu.cell (p := ⟨g12, 2, none⟩) (by show g12 < _; omega)).trans P12.c2, (hu.cell (p := ⟨g9, 0, none⟩) (by show g9 < _; omega)).trans P9.c0, (hu.cell (p := ⟨g9, 1, none⟩) (by show g9 < _; omega)).trans P9.c1, (hu.cell (p := ⟨g9, 2, none⟩) (by show g9 < _; omega)).trans P9.c2, (hu.cell (p := ⟨g9, 3, none⟩) (by show g9 < _; omega)).trans P9.c3⟩ : u.cell? ⟨w9.heap.size, 0, none⟩ = some (.bool p.m) ∧ u.cell? ⟨w9.heap.size, 1, none⟩ = some (.slice p.A p.n p.c) ∧ u.cell? ⟨w9.heap.size, 2, none⟩ = some (.slice p.D p.k p.d) ∧ u.cell? ⟨g12, 0, none⟩ = some (.bool qg.m) ∧ u.cell? ⟨g12, 1, none⟩ = some (.slice qg.A qg.n qg.c) ∧ u.cell? ⟨g12, 2, none⟩ = some (.slice qg.D qg.k qg.d) ∧ u.cell? ⟨g9, 0, none⟩ = some (.bool z.num.neg) ∧ u.cell? ⟨g9, 1, none⟩ = some (.slice z.num.A z.num.n z.num.c) ∧ u.cell? ⟨g9, 2, none⟩ = some (.bool z.den.neg) ∧ u.cell? ⟨g9, 3, none⟩ = some (.slice z.den.A z.den.n z.den.c)))
  have G0 : Below Vc.heap.size Vc Vc.drew := Below.drew (Below.refl _ _)
  have g0s := G0.size
  have G0m : Below (Vc.heap.size) Vc Vc.drew := G0.mono (by omega)
  go_region_held3 (fun u => u.cell? ⟨w9.heap.size, 0, none⟩ = some (.bool p.m) ∧ u.cell? ⟨w9.heap.size, 1, none⟩ = some (.slice p.A p.n p.c) ∧ u.cell? ⟨w9.heap.size, 2, none⟩ = some (.slice p.D p.k p.d) ∧ u.cell? ⟨g12, 0, none⟩ = some (.bool qg.m) ∧ u.cell? ⟨g12, 1, none⟩ = some (.slice qg.A qg.n qg.c) ∧ u.cell? ⟨g12, 2, none⟩ = some (.slice qg.D qg.k qg.d) ∧ u.cell? ⟨g9, 0, none⟩ = some (.bool z.num.neg) ∧ u.cell? ⟨g9, 1, none⟩ = some (.slice z.num.A z.num.n z.num.c) ∧ u.cell? ⟨g9, 2, none⟩ = some (.bool z.den.neg) ∧ u.cell? ⟨g9, 3, none⟩ = some (.slice z.den.A z.den.n z.den.c)) (first | (refine HS.out _ ?_; (repeat (first | with_reducible exact G0m | with_reducible exact BN.mono (by omega) | with_reducible exact B7.mono (by omega) | with_reducible exact B6.mono (by omega) | with_reducible exact B5.mono (by omega) | with_reducible exact B4.mono (by omega) | with_reducible exact B3.mono (by omega) | with_reducible exact B2.mono (by omega) | with_reducible exact B1.mono (by omega) | with_reducible exact Below.refl _ _ | with_reducible refine Below.drew ?_ | with_reducible refine below_drewN ?_ _ | with_reducible refine Below.setCell ?_ (by first | (simp; done) | (simp; omega) | omega) _)); done) | fail)
    (first
      | (go_at_call 12; (with_reducible refine (ratioOf_any _ Vc.heap.size z (rv_at (LRd.more (B := Vc.heap.size) (LRd.below (Hz1.more (by omega)) (B' := Vc.heap.size) (by (repeat (first | with_reducible exact G0 | with_reducible exact B9 | with_reducible exact B8 | with_reducible exact B7 | with_reducible exact B6 | with_reducible exact B5 | with_reducible exact B4 | with_reducible exact B3 | with_reducible exact B2 | with_reducible exact B1 | with_reducible exact Below.refl _ _ | with_reducible refine Below.drew ?_ | with_reducible refine Below.alloc ?_ (by first | (simp; done) | (simp; omega) | omega) _ | with_reducible refine Below.setCell ?_ (by first | (simp; done) | (simp; omega) | omega) _))) (Nat.le_refl _)) (by first | (simp; done) | (simp; omega) | omega)) (LRd.more (B := Vc.heap.size) (LRd.below (Hz2.more (by omega)) (B' := Vc.heap.size) (by (repeat (first | with_reducible exact G0 | with_reducible exact B9 | with_reducible exact B8 | with_reducible exact B7 | with_reducible exact B6 | with_reducible exact B5 | with_reducible exact B4 | with_reducible exact B3 | with_reducible exact B2 | with_reducible exact B1 | with_reducible exact Below.refl _ _ | with_reducible refine Below.drew ?_ | with_reducible refine Below.alloc ?_ (by first | (simp; done) | (simp; omega) | omega) _ | with_reducible refine Below.setCell ?_ (by first | (simp; done) | (simp; omega) | omega) _))) (Nat.le_refl _)) (by first | (simp; done) | (simp; omega) | omega))) (by first | (simp; done) | (simp; omega) | omega) oz.out).mono ?_); rintro e u1 hq; obtain ⟨q1, rfl, ha1, ⟨v1, h1, h2, h3⟩, hb1⟩ := GivesRR.q hq; clear hq; have R1 := Lib.hid h1; have T1 := Lib.hid (show sval q1.m v1 = zn from by rw [h2]; exact vz.out.1); have e3 := Lib.hid (show z.den.val.natAbs = zd.natAbs from by rw [vz.out.2]); rw [e3.out] at h3; have S1 := Lib.hid h3; have A1x : DRd u1 u1.heap.size q1.A q1.n q1.c q1.xs := ha1.1; have A1y : DRd u1 u1.heap.size q1.D q1.k q1.d q1.ys := ha1.2; have W1 := Lib.hid (show v1 < TT from lt_tt (by rw [← sval_abs q1.m v1, T1.out]; exact tz.out.1)); clear h1 h2 h3 ha1 e3; have B1 : Below Vc.heap.size Vc u1 := (by refine bnext ?_ hb1; (repeat (first | with_reducible exact G0 | with_reducible exact B9 | with_reducible exact B8 | with_reducible exact B7 | with_reducible exact B6 | with_reducible exact B5 | with_reducible exact B4 | with_reducible exact B3 | with_reducible exact B2 | with_reducible exact B1 | with_reducible exact Below.refl _ _ | with_reducible refine Below.drew ?_ | with_reducible refine Below.alloc ?_ (by first | (simp; done) | (simp; omega) | omega) _ | with_reducible refine Below.setCell ?_ (by first | (simp; done) | (simp; omega) | omega) _))); have b1s := B1.size)
      | (go_at_call 21; (with_reducible refine (qless_v _ u1.heap.size p q1 pv v1 d0.natAbs zd.natAbs (qv_at (DRd.more (B := Vc.heap.size) (DRd.below (HP1.more (by omega)) (B' := Vc.heap.size) (by (repeat (first | with_reducible exact G0 | with_reducible exact B9 | with_reducible exact B8 | with_reducible exact B7 | with_reducible exact B6 | with_reducible exact B5 | with_reducible exact B4 | with_reducible exact B3 | with_reducible exact B2 | with_reducible exact B1 | with_reducible exact Below.refl _ _ | with_reducible refine Below.drew ?_ | with_reducible refine Below.alloc ?_ (by first | (simp; done) | (simp; omega) | omega) _ | with_reducible refine Below.setCell ?_ (by first | (simp; done) | (simp; omega) | omega) _))) (Nat.le_refl _)) (by first | (simp; done) | (simp; omega) | omega)) (DRd.more (B := Vc.heap.size) (DRd.below (HP2.more (by omega)) (B' := Vc.heap.size) (by (repeat (first | with_reducible exact G0 | with_reducible exact B9 | with_reducible exact B8 | with_reducible exact B7 | with_reducible exact B6 | with_reducible exact B5 | with_reducible exact B4 | with_reducible exact B3 | with_reducible exact B2 | with_reducible exact B1 | with_reducible exact Below.refl _ _ | with_reducible refine Below.drew ?_ | with_reducible refine Below.alloc ?_ (by first | (simp; done) | (simp; omega) | omega) _ | with_reducible refine Below.setCell ?_ (by first | (simp; done) | (simp; omega) | omega) _))) (Nat.le_refl _)) (by first | (simp; done) | (simp; omega) | omega))) (qv_at (DRd.below A1x (B' := u1.heap.size) (by (repeat (first | with_reducible exact Below.refl _ _ | with_reducible refine Below.alloc ?_ (by first | (simp; done) | (simp; omega) | omega) _))) (Nat.le_refl _)) (DRd.below A1y (B' := u1.heap.size) (by (repeat (first | with_reducible exact Below.refl _ _ | with_reducible refine Below.alloc ?_ (by first | (simp; done) | (simp; omega) | omega) _))) (Nat.le_refl _))) (by first | (simp; done) | (simp; omega) | omega) Rp1 Rp2 R1 S1 tp1.out tp2.out W1.out (lt_tt tz.out.2) (Lib.hid (Nat.mul_pos dp2.out dzp.out))).mono ?_); rintro e u2 ⟨yv2, yw2, hlo, q2, rfl, ha2, ⟨v2, h1, h2, h3⟩, hb2⟩; have L2 := Lib.hid (less_is hlo Sp.out T1.out); have R2 := Lib.hid h1; have T2 := Lib.hid h2; have S2 := Lib.hid h3; have A2x : DRd u2 u2.heap.size q2.A q2.n q2.c q2.xs := ha2.1; have A2y : DRd u2 u2.heap.size q2.D q2.k q2.d q2.ys := ha2.2; clear hlo h1 h2 h3 ha2; have B2 : Below Vc.heap.size Vc u2 := (by refine bnext ?_ hb2; (repeat (first | with_reducible exact G0 | with_reducible exact B9 | with_reducible exact B8 | with_reducible exact B7 | with_reducible exact B6 | with_reducible exact B5 | with_reducible exact B4 | with_reducible exact B3 | with_reducible exact B2 | with_reducible exact B1 | with_reducible exact Below.refl _ _ | with_reducible refine Below.drew ?_ | with_reducible refine Below.alloc ?_ (by first | (simp; done) | (simp; omega) | omega) _ | with_reducible refine Below.setCell ?_ (by first | (simp; done) | (simp; omega) | omega) _))); have b2s := B2.size; have K2 : Below u1.heap.size u1 u2 := (by refine bnext ?_ hb2; (repeat (first | with_reducible exact Below.refl _ _ | with_reducible refine Below.alloc ?_ (by first | (simp; done) | (simp; omega) | omega) _))))
      | (go_at_call 22; (with_reducible refine (qabs_v _ u2.heap.size q2 v2 yw2 (qv_at (DRd.below A2x (B' := u2.heap.size) (by (repeat (first | with_reducible exact Below.refl _ _ | with_reducible refine Below.alloc ?_ (by first | (simp; done) | (simp; omega) | omega) _))) (Nat.le_refl _)) (DRd.below A2y (B' := u2.heap.size) (by (repeat (first | with_reducible exact Below.refl _ _ | with_reducible refine Below.alloc ?_ (by first | (simp; done) | (simp; omega) | omega) _))) (Nat.le_refl _))) (by first | (simp; done) | (simp; omega) | omega) R2 S2).mono ?_); rintro e u3 ⟨q3, rfl, ha3, ⟨v3, h1, h2, h3⟩, hb3⟩; have R3 := Lib.hid h1; have T3 := Lib.hid (abs_is h2 T2.out); have S3 := Lib.hid h3; have A3 : q3.at u3 u3.heap.size := ha3; clear h1 h2 h3 ha3; have B3 : Below Vc.heap.size Vc u3 := (by refine bnext ?_ hb3; (repeat (first | with_reducible exact G0 | with_reducible exact B9 | with_reducible exact B8 | with_reducible exact B7 | with_reducible exact B6 | with_reducible exact B5 | with_reducible exact B4 | with_reducible exact B3 | with_reducible exact B2 | with_reducible exact B1 | with_reducible exact Below.refl _ _ | with_reducible refine Below.drew ?_ | with_reducible refine Below.alloc ?_ (by first | (simp; done) | (simp; omega) | omega) _ | with_reducible refine Below.setCell ?_ (by first | (simp; done) | (simp; omega) | omega) _))); have b3s := B3.size; have K3 : Below u2.heap.size u2 u3 := (by refine bnext ?_ hb3; (repeat (first | with_reducible exact Below.refl _ _ | with_reducible refine Below.alloc ?_ (by first | (simp; done) | (simp; omega) | omega) _))))
      | (go_at_call 23; (with_reducible refine (qorder_v _ u3.heap.size q3 qg v3 gv yw2 gw A3 (qv_at (DRd.below HG1 B3 (Nat.le_refl _) |>.more (by omega)) (DRd.below HG2 B3 (Nat.le_refl _) |>.more (by omega))) (Nat.le_refl _) R3 S3 RG RW (low_bd L2.out T3.out HB.out.2 tz.out.2 HB.out.1 tz.out.1).1 (low_bd L2.out T3.out HB.out.2 tz.out.2 HB.out.1 tz.out.1).2 gb.out.1 gb.out.2).mono ?_); rintro e u4 ⟨r, hic, rfl, hb4⟩; have B4 : Below Vc.heap.size Vc u4 := bnext B3 hb4; have b4s := B4.size; have hle := ord_le (nearer1 hic T3.out SG.out L2.out LG.out NR.out.1 NR.out.2 hd0 k3); clear hic)
      | (go_at_call 24; (with_reducible refine (number_any _ (1) (by decide) (by decide)).mono ?_); rintro e u5 ⟨m5, A5, k5, c5, y5, v5, rfl, hd5, hr5, hv5, hb5⟩; have B5 : Below Vc.heap.size Vc u5 := bnext B4 hb5; have b5s := B5.size; have R5 := Lib.hid hr5; have T5 := Lib.hid hv5; clear hr5 hv5)
      | (go_at_call 24; (with_reducible refine (number_any _ i hi1 hi2).mono ?_); rintro e u6 ⟨m6, A6, k6, c6, y6, v6, rfl, hd6, hr6, hv6, hb6⟩; have B6 : Below Vc.heap.size Vc u6 := bnext B5 hb6; have b6s := B6.size; have R6 := Lib.hid hr6; have T6 := Lib.hid (show v6 = i.natAbs by rw [← hv6, sval_abs]); clear hr6 hv6; have hd5q := (hd5.below hb6 (Nat.le_refl _)).more hb6.size)
      | (go_at_call 25; (with_reducible refine (double_any _ u6.heap.size A6 k6 c6 false y6 hd6 (Nat.le_refl _) (by have h1 := tt_len R6.out (by rw [T6.out]; exact lt_tt (lt_top2 (by omega))) hd6.len.out; omega)).mono ?_); rintro e u7 ⟨A7, k7, c7, y7, rfl, hd7, hr7, hb7⟩; have B7 : Below Vc.heap.size Vc u7 := bnext B6 hb7; have b7s := B7.size; have R7 := Lib.hid (show Rep 65536 y7 (2 * i.natAbs) from by have h1 := hr7; rw [R6.out.val, T6.out] at h1; exact h1); clear hr7; have hd5r := (hd5q.below hb7 (Nat.le_refl _)).more hb7.size)
      | (go_at_call 23; (with_reducible refine (qorder_v _ u7.heap.size qg (QV.mk m5 A5 k5 c5 y5 A7 k7 c7 y7) gv v5 gw (2 * i.natAbs) (qv_at (DRd.below HG1 B7 (Nat.le_refl _) |>.more (by omega)) (DRd.below HG2 B7 (Nat.le_refl _) |>.more (by omega))) (qv_at (q := QV.mk m5 A5 k5 c5 y5 A7 k7 c7 y7) hd5r hd7) (Nat.le_refl _) RG RW R5 R7 gb.out.1 gb.out.2 (one_lt T5.out) (lt_tt (lt_top2 (by omega)))).mono ?_); rintro e u8 ⟨r8, hic8, rfl, hb8⟩; have BN : Below Vc.heap.size Vc u8 := bnext B7 hb8; have hle8 := ord_le (half1 hic8 SG.out T5.out LG.out NR.out.1 hd0 hm1.out); clear hic8)
      | fail)
  all_goals (go_wp2_with fail)
  all_goals go_ret
  all_goals first | exact ⟨rfl, E.trans (BN.mono E.size)⟩ | (rw [hle8]; exact ⟨rfl, E.trans (BN.mono E.size)⟩) | (exfalso; simp_all; done)
theorem nr_any (w : World) (x : RV) (i j : Int) (HX : x.at w w.heap.size) (hi1 : -9223372036854775808 ≤ i) (hi2 : i ≤ 9223372036854775807) (hj1 : -9223372036854775808 ≤ j) (hj2 : j ≤ 9223372036854775807) :
    Calls Try.prog 5 #[x.v, .int .i64 i, .int .i64 j] w (fun e w' => e = .returned (.bool true) ∧ Below w.heap.size w w') := by
  by_cases ox : x.ok = true
  · have oX := Lib.hid ox
    by_cases g1 : (60 : Int) < (x.num.n : Int)
    · exact nr_g1 w x i j HX hi1 hi2 hj1 hj2 oX  (decide_eq_true g1)
    by_cases g2 : (60 : Int) < (x.den.n : Int)
    · exact nr_g2 w x i j HX hi1 hi2 hj1 hj2 oX (decide_eq_false g1) (decide_eq_true g2)
    by_cases g3 : i < 1
    · exact nr_g3 w x i j HX hi1 hi2 hj1 hj2 oX (decide_eq_false g1) (decide_eq_false g2) (decide_eq_true g3)
    by_cases g4 : j < 0
    · exact nr_g4 w x i j HX hi1 hi2 hj1 hj2 oX (decide_eq_false g1) (decide_eq_false g2) (decide_eq_false g3) (decide_eq_true g4)
    by_cases g5 : (1152921504606846976 : Int) < i
    · exact nr_g5 w x i j HX hi1 hi2 hj1 hj2 oX (decide_eq_false g1) (decide_eq_false g2) (decide_eq_false g3) (decide_eq_false g4) (decide_eq_true g5)
    by_cases g6 : (1152921504606846976 : Int) < j
    · exact nr_g6 w x i j HX hi1 hi2 hj1 hj2 oX (decide_eq_false g1) (decide_eq_false g2) (decide_eq_false g3) (decide_eq_false g4) (decide_eq_false g5) (decide_eq_true g6)
    have V := RV.val ox HX
    exact nr_ok w x i j HX hi1 hi2 hj1 hj2 oX (decide_eq_false g1) (decide_eq_false g2) (decide_eq_false g3) (decide_eq_false g4) (decide_eq_false g5) (decide_eq_false g6) _ _ (Lib.hid V.num) (Lib.hid V.den) (by have := V.pos; omega) (Lib.hid ⟨V.bn, V.bd⟩) (Lib.hid (lt_tn V.num HX.1.len.out (by omega))) (by omega) (by omega) (by omega) (by omega)
  · exact nr_bad w x i j HX hi1 hi2 hj1 hj2 (Lib.hid (by simpa using ox))
end Go.Proofs.Ytdhdkknaagadaaa
