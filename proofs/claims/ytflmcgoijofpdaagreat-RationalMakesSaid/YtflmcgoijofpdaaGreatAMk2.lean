/- RationalMakes: the law. -/
import Derived.Test.YtflmcgoijofpdaaGreatAMk1
import Derived.Deep.DeepCutAuto
import Derived.Deep.CutBlock
namespace Go.Proofs.YtflmcgoijofpdaaGreat
open Go.RowKit
set_option maxHeartbeats 400000
set_option maxRecDepth 100000
set_option linter.unusedSimpArgs false
set_option linter.unusedVariables false

theorem noint_eq {b : IV} {w : World} {B : Nat} (ob : b.ok = true) (H : b.at w B) : (!b.neg && decide (b.n = 0)) = decide (b.val = 0) := by
  have I := IV.irep ob H.lim
  have h1 := IRep.len0 I
  have h2 : b.xs.length = b.n := H.len.out
  by_cases hz : b.val = 0
  · have h3 := I.sgn
    rw [hz] at h3
    rw [h3, decide_eq_true (show b.n = 0 by have := h1.2 hz; omega), decide_eq_true hz]; rfl
  · rw [decide_eq_false (show ¬ b.n = 0 by intro h; exact hz (h1.1 (by omega))), decide_eq_false hz, Bool.and_false]
theorem ff_bad {a b : IV} {f2 : Int} (h : ffault [a, b] 0 = (6, f2)) : (a.ok && b.ok) = false := by
  rcases ff2_cases a b with _ | ⟨_, _, h3⟩
  · cases oa : a.ok
    · rfl
    · cases ob : b.ok
      · rfl
      · exfalso
        have h4 : (if a.ok then (if b.ok then ((0, 0) : Int × Int) else (6, -1 - ((0 + 1 : Nat) : Int))) else (6, -1 - ((0 : Nat) : Int))) = (6, f2) := h
        rw [if_pos oa, if_pos ob] at h4
        cases h4
  · rw [h3] at h; cases h
theorem ff_ok {a b : IV} (oa : a.ok = true) (ob : b.ok = true) : ffault [a, b] 0 = (0, 0) := by
  show (if a.ok then (if b.ok then ((0, 0) : Int × Int) else (6, -1 - ((0 + 1 : Nat) : Int))) else (6, -1 - ((0 : Nat) : Int))) = (0, 0)
  rw [if_pos oa, if_pos ob]
theorem rf0 {x : RV} (h : x.ok = true) : rfault [x] 0 = (0, 0) := by
  show (if x.ok then _ else _) = _
  rw [if_pos h]; rfl
/-- The fault that the quotient has by its arguments. -/
def mf (a b : IV) : Int × Int := if a.ok && b.ok && decide (b.val = 0) then (22, -2) else ffault [a, b] 0
theorem mf_bad {a b : IV} {f2 : Int} (h : ffault [a, b] 0 = (6, f2)) : mf a b = (6, f2) := by
  unfold mf; rw [ff_bad h, Bool.false_and, if_neg (by decide)]; exact h
theorem mf_zero {a b : IV} (oa : a.ok = true) (ob : b.ok = true) (hz : b.val = 0) : mf a b = (22, -2) := by
  unfold mf; rw [oa, ob, decide_eq_true hz]; rfl
theorem mf_ok {a b : IV} (oa : a.ok = true) (ob : b.ok = true) (hz : b.val ≠ 0) : mf a b = (0, 0) := by
  unfold mf; rw [ff_ok oa ob, oa, ob, decide_eq_false hz]; rfl
theorem pf_bad {x : RV} {z : Int} (h : x.ok = false) : pf x z = (6, -1) := if_pos h
theorem pf_range {x : RV} {z : Int} (h : x.ok = true) (hz : z < -10000 ∨ 10000 < z) : pf x z = (4, -2) := by
  unfold pf; rw [if_neg (by rw [h]; decide), if_pos hz]
theorem pf_zero {x : RV} {z : Int} (h : x.ok = true) (h0 : -10000 ≤ z) (h1 : z < 0) (hn : x.num.val = 0) : pf x z = (22, -1) := by
  unfold pf; rw [if_neg (by rw [h]; decide), if_neg (by omega), if_pos ⟨h1, hn⟩]
theorem pf_ok {x : RV} {z : Int} (h : x.ok = true) (h0 : -10000 ≤ z) (h1 : z ≤ 10000) (hn : z < 0 → x.num.val ≠ 0) : pf x z = (0, 0) := by
  unfold pf; rw [if_neg (by rw [h]; decide), if_neg (by omega), if_neg (fun g => hn g.1 g.2)]
theorem raised_fit (w : World) (B : Nat) (m : Bool) (A : Option Addr) (k c p n : Nat) (xs : List Nat) (y : Int) (H : DRd w B A k c xs) (hB : B ≤ w.heap.size) (hx : Hid (Rep 65536 xs p)) (hk : k ≤ 100000) (hn : n ≤ 10000) (hy : sval m p = y) (ht : (y ^ n).natAbs < Top128) :
    Calls Tryz.prog 32 #[intv m A k c, .int .i64 (n : Int)] w (fun e w' => ∃ m A k c zs v, e = .returned (.tuple #[intv m A k c, .bool true]) ∧ DRd w' w'.heap.size A k c zs ∧ Rep 65536 zs v ∧ sval m v = y ^ n ∧ Below w.heap.size w w') := by
  subst hy
  exact (raised_any w B m A k c p n xs H hB hx.out hk hn).mono fun _ _ h => by
    rcases h with ⟨m, A, k, c, zs, v, h1, h2, h3, h4, h5, h6⟩ | ⟨_, h, _⟩
    · exact ⟨m, A, k, c, zs, v, h1, h2, h3, h4, h6⟩
    · omega
theorem raised_big (w : World) (B : Nat) (m : Bool) (A : Option Addr) (k c p n : Nat) (xs : List Nat) (y : Int) (H : DRd w B A k c xs) (hB : B ≤ w.heap.size) (hx : Hid (Rep 65536 xs p)) (hk : k ≤ 100000) (hn : n ≤ 10000) (hy : sval m p = y) (ht : Top128 ≤ (y ^ n).natAbs) :
    Calls Tryz.prog 32 #[intv m A k c, .int .i64 (n : Int)] w (fun e w' => e = .returned (.tuple #[intv false none 0 0, .bool false]) ∧ Below w.heap.size w w') := by
  subst hy
  exact (raised_any w B m A k c p n xs H hB hx.out hk hn).mono fun _ _ h => by
    rcases h with ⟨m, A, k, c, zs, v, h1, h2, h3, h4, h5, h6⟩ | ⟨h, _, h2⟩
    · omega
    · exact ⟨h, h2⟩
theorem turned_sgn {n : Int} {m : Bool} {v d : Nat} {x : RV} (hs : sval m v = n) (hn : n ≠ 0) (hx : x.num.neg = decide (n < 0)) : sval m d = sval x.num.neg d := by
  rw [hx]
  cases m
  · rw [decide_eq_false (show ¬ n < 0 by simp [sval] at hs; omega)]
  · rw [decide_eq_true (show n < 0 by simp [sval] at hs; omega)]
/-- The base of the power as the law has it. -/
def PbR (V : World) (g : Nat) (x : RV) (z : Int) (i : Value) (wx : World) : Prop :=
  ∃ (q : QV) (y2 : Nat), i = .int .i64 ((z.natAbs : Nat) : Int) ∧ Bk3 wx g (.bool q.m) (.slice q.A q.n q.c) (.slice q.D q.k q.d) ∧ q.at wx wx.heap.size ∧ Hid (q.is (pbx x z) y2) ∧ Hid (((y2 : Nat) : Int) = pby x z) ∧ Below g V wx
theorem pbr_mk {V wx : World} {g : Nat} {x : RV} {z : Int} {i : Value} {q : QV} {y2 : Nat} (h1 : i = .int .i64 ((z.natAbs : Nat) : Int)) (h2 : Bk3 wx g (.bool q.m) (.slice q.A q.n q.c) (.slice q.D q.k q.d)) (h3 : q.at wx wx.heap.size) (h4 : q.is (pbx x z) y2) (h5 : ((y2 : Nat) : Int) = pby x z) (h6 : Below g V wx) : PbR V g x z i wx := ⟨q, y2, h1, h2, h3, Lib.hid h4, Lib.hid h5, h6⟩
def FbR (V : World) (g : Nat) (t1 t2 : Int) (wx : World) : Prop := Bk2 wx g (.int .i64 t1) (.int .i64 t2) ∧ Below g V wx
theorem sval_f (v : Nat) : sval false v = ((v : Nat) : Int) := by unfold sval; simp
theorem pbx_lt {x : RV} {z : Int} (h : RVal x x.num.val x.den.val) : (pbx x z).natAbs < Top128 := by
  unfold pbx; split
  · rw [sval_abs]; exact h.bd
  · exact h.bn
theorem pby_lt {x : RV} {z : Int} (h : RVal x x.num.val x.den.val) : (pby x z).natAbs < Top128 := by
  unfold pby; split
  · rw [sval_abs]; exact h.bn
  · exact h.bd
theorem mk_pos {m : Bool} {v : Nat} {z : Int} (h : sval m v = z) (hz : z ≠ 0) : 0 < v := by
  have := sval_abs m v
  rw [h] at this
  omega
theorem mk_len {zs : List Nat} {v k : Nat} (h : Rep 65536 zs v) (hv : v < Top128) (hl : zs.length = k) : k ≤ 100000 := by have := repD_len128 h hv hl; omega
theorem mk_la {a : IV} (h : a.val.natAbs < Top128) : vb 4294967296 a.xs < Top128 := by
  have h1 : (sval a.neg (vb 4294967296 a.xs)).natAbs < Top128 := h
  rw [sval_abs] at h1; exact h1
theorem mk_lb {m : Bool} {v : Nat} {z : Int} (h : sval m v = z) (hz : z.natAbs < Top128) : v < Top128 := by rw [← sval_abs m v, h]; exact hz
set_option maxHeartbeats 40000000 in
theorem makes_any (w : World) (a b : IV) (x : RV) (z : Int) (HA : a.at w w.heap.size) (HB : b.at w w.heap.size) (HX : x.at w w.heap.size) (hz0 : -9223372036854775808 ≤ z) (hz1 : z ≤ 9223372036854775807) :
    Calls Tryz.prog 4 #[a.v, b.v, x.v, .int .i64 z] w (fun e w' => e = .returned (.bool true) ∧ Below w.heap.size w w') := by
  have Ha : LRd w w.heap.size a.A a.n a.c a.xs := HA
  have Hb : LRd w w.heap.size b.A b.n b.c b.xs := HB
  have Hx1 : LRd w w.heap.size x.num.A x.num.n x.num.c x.num.xs := HX.1
  have Hx2 : LRd w w.heap.size x.den.A x.den.n x.den.c x.den.xs := HX.2
  have E : Below w.heap.size w w := Below.refl _ _
  go_enter Tryz.func4, Tryz.ntmps4
  go_upto_region 1 with fail
  obtain ⟨V0, hV0⟩ : ∃ V0 : World, V0 = (((w.alloc (.cells #[.bool a.neg, .slice a.A a.n a.c] 24)).alloc (.cells #[.bool b.neg, .slice b.A b.n b.c] 24)).alloc (.cells #[.bool x.num.neg, .slice x.num.A x.num.n x.num.c, .bool x.den.neg, .slice x.den.A x.den.n x.den.c] 26)) := ⟨_, rfl⟩
  have bV0 : Below w.heap.size w V0 := by rw [hV0]; (repeat (first | with_reducible exact Below.refl _ _ | with_reducible refine Below.drew ?_ | with_reducible refine below_drewN ?_ _ | with_reducible refine Below.setCell ?_ (by first | (simp; done) | (simp; omega) | omega) _ | with_reducible refine Below.alloc ?_ (by first | (simp; done) | (simp; omega) | omega) _))
  have zV0 : w.heap.size + 3 ≤ V0.heap.size := by rw [hV0]; simp
  have PA : Bk2 V0 (w.heap.size) (.bool a.neg) (.slice a.A a.n a.c) := by rw [hV0]; exact (((Bk2.newAt _ _ (by first | omega | (simp; done) | (simp; omega)) _ _ _).alloc _).alloc _)
  have PB : Bk2 V0 (w.heap.size + 1) (.bool b.neg) (.slice b.A b.n b.c) := by rw [hV0]; exact ((Bk2.newAt _ _ (by first | omega | (simp; done) | (simp; omega)) _ _ _).alloc _)
  have PX : Bk4 V0 (w.heap.size + 2) (.bool x.num.neg) (.slice x.num.A x.num.n x.num.c) (.bool x.den.neg) (.slice x.den.A x.den.n x.den.c) := by rw [hV0]; exact (Bk4.newAt _ _ (by first | omega | (simp; done) | (simp; omega)) _ _ _ _ _)
  rw [← hV0]
  clear hV0
  replace E := E.trans (bV0.mono E.size)
  replace Ha := Ha.below bV0 (by omega)
  replace Hb := Hb.below bV0 (by omega)
  replace Hx1 := Hx1.below bV0 (by omega)
  replace Hx2 := Hx2.below bV0 (by omega)
  clear bV0
  have t_PA0 := PA.c0
  have t_PA1 := PA.c1
  have t_PB0 := PB.c0
  have t_PB1 := PB.c1
  go_wp2_with fail
  clear t_PA0 t_PA1 t_PB0 t_PB1
  (with_reducible refine (rmake_u _ w.heap.size a b (iv_at Ha) (iv_at Hb) (by omega)).mono ?_)
  rintro e w2 ⟨r1, f1, e1, rfl, hr1, hz1, hb2⟩
  have sw2 := hb2.size
  replace E := E.trans (hb2.mono E.size)
  replace Ha := Ha.below hb2 (by omega)
  replace Hb := Hb.below hb2 (by omega)
  replace Hx1 := Hx1.below hb2 (by omega)
  replace Hx2 := Hx2.below hb2 (by omega)
  replace PA := PA.below hb2 PA.lt
  replace PB := PB.below hb2 PB.lt
  replace PX := PX.below hb2 PX.lt
  clear hb2
  have Z1 := Lib.hid hz1
  have Hr11 : LRd w2 w2.heap.size r1.num.A r1.num.n r1.num.c r1.num.xs := hr1.1
  have Hr12 : LRd w2 w2.heap.size r1.den.A r1.den.n r1.den.c r1.den.xs := hr1.2
  clear hz1 hr1
  have t_PX0 : ((w2.alloc (.cells #[.bool r1.num.neg, .slice r1.num.A r1.num.n r1.num.c, .bool r1.den.neg, .slice r1.den.A r1.den.n r1.den.c] 26)).alloc (.cells #[.int .i64 f1, .int .i64 e1] 28)).cell? ⟨w.heap.size + 2, 0, none⟩ = some ((.bool x.num.neg)) := ((PX.alloc _).alloc _).c0
  have t_PX1 : ((w2.alloc (.cells #[.bool r1.num.neg, .slice r1.num.A r1.num.n r1.num.c, .bool r1.den.neg, .slice r1.den.A r1.den.n r1.den.c] 26)).alloc (.cells #[.int .i64 f1, .int .i64 e1] 28)).cell? ⟨w.heap.size + 2, 1, none⟩ = some ((.slice x.num.A x.num.n x.num.c)) := ((PX.alloc _).alloc _).c1
  have t_PX2 : ((w2.alloc (.cells #[.bool r1.num.neg, .slice r1.num.A r1.num.n r1.num.c, .bool r1.den.neg, .slice r1.den.A r1.den.n r1.den.c] 26)).alloc (.cells #[.int .i64 f1, .int .i64 e1] 28)).cell? ⟨w.heap.size + 2, 2, none⟩ = some ((.bool x.den.neg)) := ((PX.alloc _).alloc _).c2
  have t_PX3 : ((w2.alloc (.cells #[.bool r1.num.neg, .slice r1.num.A r1.num.n r1.num.c, .bool r1.den.neg, .slice r1.den.A r1.den.n r1.den.c] 26)).alloc (.cells #[.int .i64 f1, .int .i64 e1] 28)).cell? ⟨w.heap.size + 2, 3, none⟩ = some ((.slice x.den.A x.den.n x.den.c)) := ((PX.alloc _).alloc _).c3
  go_wp2_with fail
  clear t_PX0 t_PX1 t_PX2 t_PX3
  obtain ⟨V2, hV2⟩ : ∃ V2 : World, V2 = ((w2.alloc (.cells #[.bool r1.num.neg, .slice r1.num.A r1.num.n r1.num.c, .bool r1.den.neg, .slice r1.den.A r1.den.n r1.den.c] 26)).alloc (.cells #[.int .i64 f1, .int .i64 e1] 28)) := ⟨_, rfl⟩
  have bV2 : Below w2.heap.size w2 V2 := by rw [hV2]; (repeat (first | with_reducible exact Below.refl _ _ | with_reducible refine Below.drew ?_ | with_reducible refine below_drewN ?_ _ | with_reducible refine Below.setCell ?_ (by first | (simp; done) | (simp; omega) | omega) _ | with_reducible refine Below.alloc ?_ (by first | (simp; done) | (simp; omega) | omega) _))
  have zV2 : w2.heap.size + 2 ≤ V2.heap.size := by rw [hV2]; simp
  have R1 : Bk4 V2 (w2.heap.size) (.bool r1.num.neg) (.slice r1.num.A r1.num.n r1.num.c) (.bool r1.den.neg) (.slice r1.den.A r1.den.n r1.den.c) := by rw [hV2]; exact ((Bk4.newAt _ _ (by first | omega | (simp; done) | (simp; omega)) _ _ _ _ _).alloc _)
  have F1 : Bk2 V2 (w2.heap.size + 1) (.int .i64 f1) (.int .i64 e1) := by rw [hV2]; exact (Bk2.newAt _ _ (by first | omega | (simp; done) | (simp; omega)) _ _ _)
  rw [← hV2]
  clear hV2
  replace E := E.trans (bV2.mono E.size)
  replace Ha := Ha.below bV2 (by omega)
  replace Hb := Hb.below bV2 (by omega)
  replace Hx1 := Hx1.below bV2 (by omega)
  replace Hx2 := Hx2.below bV2 (by omega)
  replace PA := PA.below bV2 PA.lt
  replace PB := PB.below bV2 PB.lt
  replace PX := PX.below bV2 PX.lt
  replace Hr11 := Hr11.below bV2 (by omega)
  replace Hr12 := Hr12.below bV2 (by omega)
  clear bV2
  (with_reducible refine (pow_u _ w.heap.size x z (rv_at Hx1 Hx2) (by omega)).mono ?_)
  rintro e w3 ⟨r2, f2, e2, rfl, hr2, hz2, hb3⟩
  have sw3 := hb3.size
  replace E := E.trans (hb3.mono E.size)
  replace Ha := Ha.below hb3 (by omega)
  replace Hb := Hb.below hb3 (by omega)
  replace Hx1 := Hx1.below hb3 (by omega)
  replace Hx2 := Hx2.below hb3 (by omega)
  replace PA := PA.below hb3 PA.lt
  replace PB := PB.below hb3 PB.lt
  replace PX := PX.below hb3 PX.lt
  replace Hr11 := Hr11.below hb3 (by omega)
  replace Hr12 := Hr12.below hb3 (by omega)
  replace R1 := R1.below hb3 R1.lt
  replace F1 := F1.below hb3 F1.lt
  clear hb3
  have Z2 := Lib.hid hz2
  have Hr21 : LRd w3 w3.heap.size r2.num.A r2.num.n r2.num.c r2.num.xs := hr2.1
  have Hr22 : LRd w3 w3.heap.size r2.den.A r2.den.n r2.den.c r2.den.xs := hr2.2
  clear hz2 hr2
  go_wp2_with fail
  obtain ⟨V3, hV3⟩ : ∃ V3 : World, V3 = ((w3.alloc (.cells #[.bool r2.num.neg, .slice r2.num.A r2.num.n r2.num.c, .bool r2.den.neg, .slice r2.den.A r2.den.n r2.den.c] 26)).alloc (.cells #[.int .i64 f2, .int .i64 e2] 28)) := ⟨_, rfl⟩
  have bV3 : Below w3.heap.size w3 V3 := by rw [hV3]; (repeat (first | with_reducible exact Below.refl _ _ | with_reducible refine Below.drew ?_ | with_reducible refine below_drewN ?_ _ | with_reducible refine Below.setCell ?_ (by first | (simp; done) | (simp; omega) | omega) _ | with_reducible refine Below.alloc ?_ (by first | (simp; done) | (simp; omega) | omega) _))
  have zV3 : w3.heap.size + 2 ≤ V3.heap.size := by rw [hV3]; simp
  have R2 : Bk4 V3 (w3.heap.size) (.bool r2.num.neg) (.slice r2.num.A r2.num.n r2.num.c) (.bool r2.den.neg) (.slice r2.den.A r2.den.n r2.den.c) := by rw [hV3]; exact ((Bk4.newAt _ _ (by first | omega | (simp; done) | (simp; omega)) _ _ _ _ _).alloc _)
  have F2 : Bk2 V3 (w3.heap.size + 1) (.int .i64 f2) (.int .i64 e2) := by rw [hV3]; exact (Bk2.newAt _ _ (by first | omega | (simp; done) | (simp; omega)) _ _ _)
  rw [← hV3]
  clear hV3
  replace E := E.trans (bV3.mono E.size)
  replace Ha := Ha.below bV3 (by omega)
  replace Hb := Hb.below bV3 (by omega)
  replace Hx1 := Hx1.below bV3 (by omega)
  replace Hx2 := Hx2.below bV3 (by omega)
  replace PA := PA.below bV3 PA.lt
  replace PB := PB.below bV3 PB.lt
  replace PX := PX.below bV3 PX.lt
  replace Hr11 := Hr11.below bV3 (by omega)
  replace Hr12 := Hr12.below bV3 (by omega)
  replace R1 := R1.below bV3 R1.lt
  replace F1 := F1.below bV3 F1.lt
  replace Hr21 := Hr21.below bV3 (by omega)
  replace Hr22 := Hr22.below bV3 (by omega)
  clear bV3
  (with_reducible refine (parts_any _).mono ?_)
  rintro e w4 ⟨rfl, hb4⟩
  have sw4 := hb4.size
  replace E := E.trans (hb4.mono E.size)
  replace Ha := Ha.below hb4 (by omega)
  replace Hb := Hb.below hb4 (by omega)
  replace Hx1 := Hx1.below hb4 (by omega)
  replace Hx2 := Hx2.below hb4 (by omega)
  replace PA := PA.below hb4 PA.lt
  replace PB := PB.below hb4 PB.lt
  replace PX := PX.below hb4 PX.lt
  replace Hr11 := Hr11.below hb4 (by omega)
  replace Hr12 := Hr12.below hb4 (by omega)
  replace R1 := R1.below hb4 R1.lt
  replace F1 := F1.below hb4 F1.lt
  replace Hr21 := Hr21.below hb4 (by omega)
  replace Hr22 := Hr22.below hb4 (by omega)
  replace R2 := R2.below hb4 R2.lt
  replace F2 := F2.below hb4 F2.lt
  clear hb4
  have RR := Lib.hid (irow2 w4 w.heap.size a b (iv_at Ha) (iv_at Hb) (by omega))
  have p_PA0 := PA.c0
  have p_PA1 := PA.c1
  have p_PB0 := PB.c0
  have p_PB1 := PB.c1
  go_wp2_with fail
  clear p_PA0 p_PA1 p_PB0 p_PB1
  obtain ⟨V4, hV4⟩ : ∃ V4 : World, V4 = (w4.alloc (.cells #[.bool a.neg, .slice a.A a.n a.c, .bool b.neg, .slice b.A b.n b.c] 24)) := ⟨_, rfl⟩
  have bV4 : Below w4.heap.size w4 V4 := by rw [hV4]; (repeat (first | with_reducible exact Below.refl _ _ | with_reducible refine Below.drew ?_ | with_reducible refine below_drewN ?_ _ | with_reducible refine Below.setCell ?_ (by first | (simp; done) | (simp; omega) | omega) _ | with_reducible refine Below.alloc ?_ (by first | (simp; done) | (simp; omega) | omega) _))
  have zV4 : w4.heap.size + 1 ≤ V4.heap.size := by rw [hV4]; simp
  replace RR : Hid (IRow V4 w.heap.size w4.heap.size [a, b]) := by rw [hV4]; exact RR
  rw [← hV4]
  clear hV4
  replace E := E.trans (bV4.mono E.size)
  replace Ha := Ha.below bV4 (by omega)
  replace Hb := Hb.below bV4 (by omega)
  replace Hx1 := Hx1.below bV4 (by omega)
  replace Hx2 := Hx2.below bV4 (by omega)
  replace PA := PA.below bV4 PA.lt
  replace PB := PB.below bV4 PB.lt
  replace PX := PX.below bV4 PX.lt
  replace Hr11 := Hr11.below bV4 (by omega)
  replace Hr12 := Hr12.below bV4 (by omega)
  replace R1 := R1.below bV4 R1.lt
  replace F1 := F1.below bV4 F1.lt
  replace Hr21 := Hr21.below bV4 (by omega)
  replace Hr22 := Hr22.below bV4 (by omega)
  replace R2 := R2.below bV4 R2.lt
  replace F2 := F2.below bV4 F2.lt
  clear bV4
  (with_reducible refine (faults_any _ w.heap.size w4.heap.size 2 [a, b] RR.out rfl (by omega) (by omega)).mono ?_)
  rintro e w5 ⟨rfl, hb5⟩
  have sw5 := hb5.size
  replace E := E.trans (hb5.mono E.size)
  replace Ha := Ha.below hb5 (by omega)
  replace Hb := Hb.below hb5 (by omega)
  replace Hx1 := Hx1.below hb5 (by omega)
  replace Hx2 := Hx2.below hb5 (by omega)
  replace PA := PA.below hb5 PA.lt
  replace PB := PB.below hb5 PB.lt
  replace PX := PX.below hb5 PX.lt
  replace Hr11 := Hr11.below hb5 (by omega)
  replace Hr12 := Hr12.below hb5 (by omega)
  replace R1 := R1.below hb5 R1.lt
  replace F1 := F1.below hb5 F1.lt
  replace Hr21 := Hr21.below hb5 (by omega)
  replace Hr22 := Hr22.below hb5 (by omega)
  replace R2 := R2.below hb5 R2.lt
  replace F2 := F2.below hb5 F2.lt
  clear hb5
  clear RR
  obtain ⟨p1, hp1⟩ : ∃ y, y = (ffault [a, b] 0).1 := ⟨_, rfl⟩
  have FF1 := Lib.hid hp1
  obtain ⟨p2, hp2⟩ : ∃ y, y = (ffault [a, b] 0).2 := ⟨_, rfl⟩
  have FF2 := Lib.hid hp2
  rw [← hp1, ← hp2]
  clear hp1 hp2
  go_upto_region 6 with fail
  obtain ⟨V5, hV5⟩ : ∃ V5 : World, V5 = (w5.alloc (.cells #[.int .i64 p1, .int .i64 p2] 28)) := ⟨_, rfl⟩
  have bV5 : Below w5.heap.size w5 V5 := by rw [hV5]; (repeat (first | with_reducible exact Below.refl _ _ | with_reducible refine Below.drew ?_ | with_reducible refine below_drewN ?_ _ | with_reducible refine Below.setCell ?_ (by first | (simp; done) | (simp; omega) | omega) _ | with_reducible refine Below.alloc ?_ (by first | (simp; done) | (simp; omega) | omega) _))
  have zV5 : w5.heap.size + 1 ≤ V5.heap.size := by rw [hV5]; simp
  have P13 : Bk2 V5 (w5.heap.size) (.int .i64 p1) (.int .i64 p2) := by rw [hV5]; exact (Bk2.newAt _ _ (by first | omega | (simp; done) | (simp; omega)) _ _ _)
  rw [← hV5]
  clear hV5
  replace E := E.trans (bV5.mono E.size)
  replace Ha := Ha.below bV5 (by omega)
  replace Hb := Hb.below bV5 (by omega)
  replace Hx1 := Hx1.below bV5 (by omega)
  replace Hx2 := Hx2.below bV5 (by omega)
  replace PA := PA.below bV5 PA.lt
  replace PB := PB.below bV5 PB.lt
  replace PX := PX.below bV5 PX.lt
  replace Hr11 := Hr11.below bV5 (by omega)
  replace Hr12 := Hr12.below bV5 (by omega)
  replace R1 := R1.below bV5 R1.lt
  replace F1 := F1.below bV5 F1.lt
  replace Hr21 := Hr21.below bV5 (by omega)
  replace Hr22 := Hr22.below bV5 (by omega)
  replace R2 := R2.below bV5 R2.lt
  replace F2 := F2.below bV5 F2.lt
  clear bV5
  obtain ⟨nz, hnz⟩ : ∃ y, y = (a.ok && b.ok && decide (b.val = 0)) := ⟨_, rfl⟩
  have NZ := Lib.hid hnz
  clear hnz
  obtain ⟨q1, hq1⟩ : ∃ y, y = (mf a b).1 := ⟨_, rfl⟩
  have MF1 := Lib.hid hq1
  obtain ⟨q2, hq2⟩ : ∃ y, y = (mf a b).2 := ⟨_, rfl⟩
  have MF2 := Lib.hid hq2
  clear hq1 hq2
  obtain ⟨t1, ht1⟩ : ∃ y, y = (pf x z).1 := ⟨_, rfl⟩
  have PF1 := Lib.hid ht1
  obtain ⟨t2, ht2⟩ : ∃ y, y = (pf x z).2 := ⟨_, rfl⟩
  have PF2 := Lib.hid ht2
  clear ht1 ht2
  go_cut [44] (fun s wx => s = .bool nz ∧ Below V5.heap.size V5 wx)
  case first =>
    as_aux_lemma =>
      rcases ff2_cases a b with ⟨f9, h9⟩ | ⟨oa, ob, h9⟩
      · obtain rfl : nz = false := by rw [NZ.out, ff_bad h9, Bool.false_and]
        obtain rfl : p1 = 6 := by rw [FF1.out, h9]
        have t_P130 := P13.c0
        have t_P131 := P13.c1
        go_wp2_with fail
        clear t_P130 t_P131
        go_meet
        exact ⟨rfl, Below.refl _ _⟩
      · obtain rfl : p1 = 0 := by rw [FF1.out, h9]
        have hnz9 : (!b.neg && decide (b.n = 0)) = nz := by rw [noint_eq ob (iv_at Hb), NZ.out, oa, ob]; rfl
        clear h9 oa ob
        have HN9 := Lib.hid hnz9
        clear hnz9
        have t_P130 := P13.c0
        have t_P131 := P13.c1
        have t_PB0 := PB.c0
        have t_PB1 := PB.c1
        go_wp2_with fail
        clear t_P130 t_P131 t_PB0 t_PB1
        (with_reducible refine (noInt_any _ b.neg b.A b.n b.c (by have := Hb.cap; omega)).mono ?_)
        rintro e w6 ⟨rfl, hb6⟩
        have sw6 := hb6.size
        replace PB := PB.below hb6 PB.lt
        replace P13 := P13.below hb6 P13.lt

        rw [HN9.out]
        go_wp2_with fail
        go_meet
        exact ⟨rfl, hb6⟩
  case rest =>
  obtain ⟨rfl, hbX⟩ := hcut
  replace E := E.trans (hbX.mono E.size)
  replace Ha := Ha.below hbX (by omega)
  replace Hb := Hb.below hbX (by omega)
  replace Hx1 := Hx1.below hbX (by omega)
  replace Hx2 := Hx2.below hbX (by omega)
  replace PA := PA.below hbX PA.lt
  replace PB := PB.below hbX PB.lt
  replace PX := PX.below hbX PX.lt
  replace Hr11 := Hr11.below hbX (by omega)
  replace Hr12 := Hr12.below hbX (by omega)
  replace R1 := R1.below hbX R1.lt
  replace F1 := F1.below hbX F1.lt
  replace Hr21 := Hr21.below hbX (by omega)
  replace Hr22 := Hr22.below hbX (by omega)
  replace R2 := R2.below hbX R2.lt
  replace F2 := F2.below hbX F2.lt
  replace P13 := P13.below hbX P13.lt
  have sX1 := hbX.size
  clear hbX
  obtain ⟨Vc1, hVc⟩ : ∃ y : World, y = wc := ⟨_, rfl⟩
  subst hVc
  go_upto_if 44 with fail
  go_cut [] (fun wx => FbR Vc1 (w5.heap.size) q1 q2 wx)
  case first =>
    as_aux_lemma =>
      cases nz
      · obtain rfl : q1 = p1 := by rw [MF1.out, FF1.out]; unfold mf; rw [← NZ.out, if_neg (by decide)]
        obtain rfl : q2 = p2 := by rw [MF2.out, FF2.out]; unfold mf; rw [← NZ.out, if_neg (by decide)]
        go_wp2_with fail
        go_meet
        exact ⟨P13, Below.refl _ _⟩
      · obtain rfl : q1 = 22 := by rw [MF1.out]; unfold mf; rw [← NZ.out, if_pos rfl]
        obtain rfl : q2 = -2 := by rw [MF2.out]; unfold mf; rw [← NZ.out, if_pos rfl]
        have E0 : Below (w5.heap.size) Vc1 Vc1 := Below.refl _ _
        go_wp2_with fail
        (with_reducible refine (at_any _ _ _).mono ?_)
        rintro e w7 ⟨rfl, hb7⟩
        have sw7 := hb7.size
        replace E0 : Below (w5.heap.size) Vc1 w7 := E0.trans (hb7.mono (by omega))
        replace P13 := P13.below hb7 P13.lt
        clear hb7
        have y_P130 := P13.c0
        have z_P130 := P13.z0
        have y_P131 := P13.c1
        have z_P131 := P13.z1
        have lt_P13 := P13.lt
        go_wp2_with fail
        clear y_P130 z_P130 y_P131 z_P131 lt_P13
        obtain ⟨U7P13, hU7P13⟩ : ∃ U7P13 : World, U7P13 = ((w7.setCell ⟨w5.heap.size, 0, none⟩ (.int .i64 22)).setCell ⟨w5.heap.size, 1, none⟩ (.int .i64 (-2))) := ⟨_, rfl⟩
        have zU7P13 : U7P13.heap.size = w7.heap.size := by rw [hU7P13]; simp [World.setCell]
        replace E0 : Below (w5.heap.size) Vc1 U7P13 := by rw [hU7P13]; exact ((E0.setCell (by first | (simp; done) | (simp; omega)) _).setCell (by first | (simp; done) | (simp; omega)) _)
        replace P13 : Bk2 U7P13 (w5.heap.size) (.int .i64 22) (.int .i64 (-2)) := by rw [hU7P13]; exact P13.set _ _
        rw [← hU7P13]
        clear hU7P13
        have zU7P13' := Nat.le_of_eq zU7P13
        replace zU7P13 := Nat.le_of_eq zU7P13.symm
        go_meet
        exact ⟨P13, E0⟩
  case rest =>
  obtain ⟨P13', hbX⟩ := hcut
  clear P13
  replace E : Below w.heap.size w wc := E.trans (hbX.mono (by omega))
  replace Ha := Ha.below hbX (by omega)
  replace Hb := Hb.below hbX (by omega)
  replace Hx1 := Hx1.below hbX (by omega)
  replace Hx2 := Hx2.below hbX (by omega)
  replace PA := PA.below hbX (by omega)
  replace PB := PB.below hbX (by omega)
  replace PX := PX.below hbX (by omega)
  replace Hr11 := Hr11.below hbX (by omega)
  replace Hr12 := Hr12.below hbX (by omega)
  replace R1 := R1.below hbX (by omega)
  replace F1 := F1.below hbX (by omega)
  replace Hr21 := Hr21.below hbX (by omega)
  replace Hr22 := Hr22.below hbX (by omega)
  replace R2 := R2.below hbX (by omega)
  replace F2 := F2.below hbX (by omega)
  have P13 := P13'
  clear P13'
  have sX2 := hbX.size
  clear hbX
  obtain ⟨Vc2, hVc⟩ : ∃ y : World, y = wc := ⟨_, rfl⟩
  subst hVc
  have t_P130 := P13.c0
  have t_P131 := P13.c1
  go_upto_if 48 with fail
  clear t_P130 t_P131
  go_cut [] (fun wx => Below Vc2.heap.size Vc2 wx)
  case first =>
    as_aux_lemma =>
      rcases Z1.out with ⟨h9, rfl, hzr⟩ | ⟨oa, ob, hz, rfl, rfl, hzr⟩ | ⟨oa, ob, hz, hZ⟩
      · obtain rfl : q1 = 6 := by rw [MF1.out, mf_bad h9]
        obtain rfl : q2 = e1 := by rw [MF2.out, mf_bad h9]
        obtain ⟨n1, n2, n3, n4⟩ := hzr.form (rv_at Hr11 Hr12)
        rw [n1, n2, n3, n4] at R1
        clear n1 n2 n3 n4 hzr
        have E0 : Below Vc2.heap.size Vc2 Vc2 := Below.refl _ _
        have t_R10 := R1.c0
        have t_R11 := R1.c1
        have t_R12 := R1.c2
        have t_R13 := R1.c3
        have t_F10 := F1.c0
        have t_F11 := F1.c1
        have t_P130 := P13.c0
        have t_P131 := P13.c1
        go_wp2_with fail
        clear t_R10 t_R11 t_R12 t_R13 t_F10 t_F11 t_P130 t_P131
        (with_reducible refine (gives_f6 _ r1.num.A r1.den.A r1.num.c r1.den.c (QV.mk false none 0 0 [] none 0 0 []) q2).mono ?_)
        rintro e w8 ⟨rfl, hb8⟩
        have sw8 := hb8.size
        replace E0 : Below (Vc2.heap.size) Vc2 w8 := E0.trans (hb8.mono (by omega))
        replace R1 := R1.below hb8 R1.lt
        replace F1 := F1.below hb8 F1.lt
        replace P13 := P13.below hb8 P13.lt
        clear hb8
        go_wp2_with fail
        go_meet
        exact E0
      · obtain rfl : q1 = 22 := by rw [MF1.out, mf_zero oa ob hz]
        obtain rfl : q2 = -2 := by rw [MF2.out, mf_zero oa ob hz]
        obtain ⟨n1, n2, n3, n4⟩ := hzr.form (rv_at Hr11 Hr12)
        rw [n1, n2, n3, n4] at R1
        clear n1 n2 n3 n4 hzr
        have E0 : Below Vc2.heap.size Vc2 Vc2 := Below.refl _ _
        have t_R10 := R1.c0
        have t_R11 := R1.c1
        have t_R12 := R1.c2
        have t_R13 := R1.c3
        have t_F10 := F1.c0
        have t_F11 := F1.c1
        have t_P130 := P13.c0
        have t_P131 := P13.c1
        go_wp2_with fail
        clear t_R10 t_R11 t_R12 t_R13 t_F10 t_F11 t_P130 t_P131
        (with_reducible refine (gives_f22 _ r1.num.A r1.den.A r1.num.c r1.den.c (QV.mk false none 0 0 [] none 0 0 []) (-2)).mono ?_)
        rintro e w8 ⟨rfl, hb8⟩
        have sw8 := hb8.size
        replace E0 : Below (Vc2.heap.size) Vc2 w8 := E0.trans (hb8.mono (by omega))
        replace R1 := R1.below hb8 R1.lt
        replace F1 := F1.below hb8 F1.lt
        replace P13 := P13.below hb8 P13.lt
        clear hb8
        go_wp2_with fail
        go_meet
        exact E0
      · obtain rfl : q1 = 0 := by rw [MF1.out, mf_ok oa ob hz]
        obtain rfl : q2 = 0 := by rw [MF2.out, mf_ok oa ob hz]
        have HZ := Lib.hid hz
        have ZR := Lib.hid hZ
        have OA := Lib.hid oa
        have OB := Lib.hid ob
        clear hz hZ oa ob
        have VB := Lib.hid (IV.irep OB.out Hb.lim)
        have la := Lib.hid (IV.lt128 OA.out Ha.lim)
        have lb := Lib.hid (IV.lt128 OB.out Hb.lim)
        have na5 : a.n ≤ 100000 := by have l1 := (IV.vld OA.out).2; have l3 := Ha.len.out; omega
        have nb5 : b.n ≤ 100000 := by have l1 := (IV.vld OB.out).2; have l3 := Hb.len.out; omega
        have E0 : Below Vc2.heap.size Vc2 Vc2 := Below.refl _ _
        have t_PB0 := PB.c0
        have t_PB1 := PB.c1
        go_wp2_with fail
        clear t_PB0 t_PB1
        (with_reducible refine (intOf_any _ w.heap.size b.neg b.A b.n b.c b.xs Hb (by omega) nb5).mono ?_)
        rintro e w6 ⟨mb, Ab, kb, cb, xb, vb', rfl, hdb, hrb, hsb, hb6⟩
        have sw6 := hb6.size
        replace E0 : Below (Vc2.heap.size) Vc2 w6 := E0.trans (hb6.mono (by omega))
        replace R1 := R1.below hb6 R1.lt
        replace F1 := F1.below hb6 F1.lt
        replace P13 := P13.below hb6 P13.lt
        replace PA := PA.below hb6 PA.lt
        replace PB := PB.below hb6 PB.lt
        replace Ha := Ha.below hb6 (by omega)
        replace Hb := Hb.below hb6 (by omega)
        replace Hr11 := Hr11.below hb6 (by omega)
        replace Hr12 := Hr12.below hb6 (by omega)
        clear hb6
        have RB := Lib.hid hrb
        have SB := Lib.hid (show sval mb vb' = b.val from hsb)
        clear hrb hsb
        go_upto_region 12 with fail
        obtain ⟨V8, hV8⟩ : ∃ V8 : World, V8 = (w6.alloc (.cells #[.bool mb, .slice Ab kb cb] 40)) := ⟨_, rfl⟩
        have bV8 : Below w6.heap.size w6 V8 := by rw [hV8]; (repeat (first | with_reducible exact Below.refl _ _ | with_reducible refine Below.drew ?_ | with_reducible refine below_drewN ?_ _ | with_reducible refine Below.setCell ?_ (by first | (simp; done) | (simp; omega) | omega) _ | with_reducible refine Below.alloc ?_ (by first | (simp; done) | (simp; omega) | omega) _))
        have zV8 : w6.heap.size + 1 ≤ V8.heap.size := by rw [hV8]; simp
        have P14 : Bk2 V8 (w6.heap.size) (.bool mb) (.slice Ab kb cb) := by rw [hV8]; exact (Bk2.newAt _ _ (by first | omega | (simp; done) | (simp; omega)) _ _ _)
        rw [← hV8]
        clear hV8
        replace E0 : Below (Vc2.heap.size) Vc2 V8 := E0.trans (bV8.mono (by omega))
        replace R1 := R1.below bV8 R1.lt
        replace F1 := F1.below bV8 F1.lt
        replace P13 := P13.below bV8 P13.lt
        replace PA := PA.below bV8 PA.lt
        replace PB := PB.below bV8 PB.lt
        replace Ha := Ha.below bV8 (by omega)
        replace Hb := Hb.below bV8 (by omega)
        replace Hr11 := Hr11.below bV8 (by omega)
        replace Hr12 := Hr12.below bV8 (by omega)
        replace hdb := hdb.below bV8 (by omega)
        clear bV8
        have lt_PA := PA.lt
        have lt_R1 := R1.lt
        have lt_F1 := F1.lt
        have lt_P13 := P13.lt
        have lt_P14 := P14.lt
        have HS := Lib.hid (fun (u : World) (hu : Below (V8.heap.size) V8 u) => (⟨(hu.cell (p := ⟨w.heap.size, 0, none⟩) (by show w.heap.size < _; omega)).trans PA.c0, (hu.cell (p := ⟨w.heap.size, 1, none⟩) (by show w.heap.size < _; omega)).trans PA.c1, (hu.cell (p := ⟨w2.heap.size, 0, none⟩) (by show w2.heap.size < _; omega)).trans R1.c0, (hu.cell (p := ⟨w2.heap.size, 1, none⟩) (by show w2.heap.size < _; omega)).trans R1.c1, (hu.cell (p := ⟨w2.heap.size, 2, none⟩) (by show w2.heap.size < _; omega)).trans R1.c2, (hu.cell (p := ⟨w2.heap.size, 3, none⟩) (by show w2.heap.size < _; omega)).trans R1.c3, (hu.cell (p := ⟨w2.heap.size + 1, 0, none⟩) (by show w2.heap.size + 1 < _; omega)).trans F1.c0, (hu.cell (p := ⟨w2.heap.size + 1, 1, none⟩) (by show w2.heap.size + 1 < _; omega)).trans F1.c1, (hu.cell (p := ⟨w5.heap.size, 0, none⟩) (by show w5.heap.size < _; omega)).trans P13.c0, (hu.cell (p := ⟨w5.heap.size, 1, none⟩) (by show w5.heap.size < _; omega)).trans P13.c1, (hu.cell (p := ⟨w6.heap.size, 0, none⟩) (by show w6.heap.size < _; omega)).trans P14.c0, (hu.cell (p := ⟨w6.heap.size, 1, none⟩) (by show w6.heap.size < _; omega)).trans P14.c1⟩ : u.cell? ⟨w.heap.size, 0, none⟩ = some (.bool a.neg) ∧ u.cell? ⟨w.heap.size, 1, none⟩ = some (.slice a.A a.n a.c) ∧ u.cell? ⟨w2.heap.size, 0, none⟩ = some (.bool r1.num.neg) ∧ u.cell? ⟨w2.heap.size, 1, none⟩ = some (.slice r1.num.A r1.num.n r1.num.c) ∧ u.cell? ⟨w2.heap.size, 2, none⟩ = some (.bool r1.den.neg) ∧ u.cell? ⟨w2.heap.size, 3, none⟩ = some (.slice r1.den.A r1.den.n r1.den.c) ∧ u.cell? ⟨w2.heap.size + 1, 0, none⟩ = some (.int .i64 f1) ∧ u.cell? ⟨w2.heap.size + 1, 1, none⟩ = some (.int .i64 e1) ∧ u.cell? ⟨w5.heap.size, 0, none⟩ = some (.int .i64 0) ∧ u.cell? ⟨w5.heap.size, 1, none⟩ = some (.int .i64 0) ∧ u.cell? ⟨w6.heap.size, 0, none⟩ = some (.bool mb) ∧ u.cell? ⟨w6.heap.size, 1, none⟩ = some (.slice Ab kb cb)))
        have G0 : Below V8.heap.size V8 V8.drew := Below.drew (Below.refl _ _)
        have g0s := G0.size
        have G0m : Below (V8.heap.size) V8 V8.drew := G0.mono (by omega)
        go_region_held3 (fun u => u.cell? ⟨w.heap.size, 0, none⟩ = some (.bool a.neg) ∧ u.cell? ⟨w.heap.size, 1, none⟩ = some (.slice a.A a.n a.c) ∧ u.cell? ⟨w2.heap.size, 0, none⟩ = some (.bool r1.num.neg) ∧ u.cell? ⟨w2.heap.size, 1, none⟩ = some (.slice r1.num.A r1.num.n r1.num.c) ∧ u.cell? ⟨w2.heap.size, 2, none⟩ = some (.bool r1.den.neg) ∧ u.cell? ⟨w2.heap.size, 3, none⟩ = some (.slice r1.den.A r1.den.n r1.den.c) ∧ u.cell? ⟨w2.heap.size + 1, 0, none⟩ = some (.int .i64 f1) ∧ u.cell? ⟨w2.heap.size + 1, 1, none⟩ = some (.int .i64 e1) ∧ u.cell? ⟨w5.heap.size, 0, none⟩ = some (.int .i64 0) ∧ u.cell? ⟨w5.heap.size, 1, none⟩ = some (.int .i64 0) ∧ u.cell? ⟨w6.heap.size, 0, none⟩ = some (.bool mb) ∧ u.cell? ⟨w6.heap.size, 1, none⟩ = some (.slice Ab kb cb)) (first | (refine HS.out _ ?_; (repeat (first | with_reducible exact G0m | with_reducible exact BN.mono (by omega) | with_reducible exact B2.mono (by omega) | with_reducible exact B1.mono (by omega) | with_reducible exact Below.refl _ _ | with_reducible refine Below.drew ?_ | with_reducible refine below_drewN ?_ _ | with_reducible refine Below.setCell ?_ (by first | (simp; done) | (simp; omega) | omega) _)); done) | fail)
          (first
            | (go_at_call 30; (with_reducible refine (of_any _ w.heap.size a.A a.n a.c a.xs (Ha.below G0 (by omega)) (by omega) (by omega)).mono ?_); rintro e u1 ⟨A1, k1, c1, z1, rfl, hd1, hr1, hb1⟩; have B1 : Below V8.heap.size V8 u1 := bnext G0 hb1; have b1s := B1.size; have T1 := Lib.hid hr1; clear hr1; have hdb1 := hdb.below B1 (by omega))
            | (go_at_call 31; (with_reducible refine (lowest_v _ u1.heap.size (QV.mk (!(a.neg == mb)) A1 k1 c1 z1 Ab kb cb xb) (vb 4294967296 a.xs) vb' (qv_at (q := QV.mk (a.neg != mb) A1 k1 c1 z1 Ab kb cb xb) hd1 (hdb1.more (by omega))) (Nat.le_refl _) T1 RB (Lib.hid (mk_pos SB.out HZ.out)) (mk_len T1.out (mk_la la.out) hd1.len.out) (mk_len RB.out (mk_lb SB.out lb.out) hdb.len.out)).mono ?_); rintro e u2 ⟨y1, y2, hlo, q, rfl, hq, hi, hb2⟩; have B2 : Below V8.heap.size V8 u2 := bnext B1 hb2; have b2s := B2.size; have LM := Lib.hid (low_make (a := a.val) (b := b.val) (n1 := a.neg) (n2 := mb) hlo (rfl : sval a.neg (vb 4294967296 a.xs) = a.val) SB.out); have QI := Lib.hid hi; clear hlo hi)
            | (go_at_call 17; (with_reducible refine (gives_z _ u2.heap.size r1 f1 e1 a.val b.val q y1 y2 (rv_at ((Hr11.below B2 (by omega)).more (by omega)) ((Hr12.below B2 (by omega)).more (by omega))) hq (Nat.le_refl _) ZR QI LM HZ.out).mono ?_); rintro e u3 ⟨rfl, hb3⟩; have BN : Below V8.heap.size V8 u3 := bnext B2 hb3)
            | fail)
        all_goals (go_wp2_with fail)
        all_goals go_meet
        all_goals exact E0.trans (BN.mono E0.size)
  case rest =>
  replace E := E.trans (hcut.mono E.size)
  replace Ha := Ha.below hcut (by omega)
  replace Hb := Hb.below hcut (by omega)
  replace Hx1 := Hx1.below hcut (by omega)
  replace Hx2 := Hx2.below hcut (by omega)
  replace PA := PA.below hcut PA.lt
  replace PB := PB.below hcut PB.lt
  replace PX := PX.below hcut PX.lt
  replace Hr11 := Hr11.below hcut (by omega)
  replace Hr12 := Hr12.below hcut (by omega)
  replace R1 := R1.below hcut R1.lt
  replace F1 := F1.below hcut F1.lt
  replace Hr21 := Hr21.below hcut (by omega)
  replace Hr22 := Hr22.below hcut (by omega)
  replace R2 := R2.below hcut R2.lt
  replace F2 := F2.below hcut F2.lt
  replace P13 := P13.below hcut P13.lt
  have sX3 := hcut.size
  clear hcut
  obtain ⟨Vc3, hVc⟩ : ∃ y : World, y = wc := ⟨_, rfl⟩
  subst hVc
  clear R1 F1 Hr11 Hr12 PA PB Ha Hb
  have RR := Lib.hid (rrow1 Vc3 w.heap.size x (rv_at Hx1 Hx2) (by omega))
  have p_PX0 := PX.c0
  have p_PX1 := PX.c1
  have p_PX2 := PX.c2
  have p_PX3 := PX.c3
  go_wp2_with fail
  clear p_PX0 p_PX1 p_PX2 p_PX3
  obtain ⟨V7, hV7⟩ : ∃ V7 : World, V7 = (Vc3.alloc (.cells #[.bool x.num.neg, .slice x.num.A x.num.n x.num.c, .bool x.den.neg, .slice x.den.A x.den.n x.den.c] 26)) := ⟨_, rfl⟩
  have bV7 : Below Vc3.heap.size Vc3 V7 := by rw [hV7]; (repeat (first | with_reducible exact Below.refl _ _ | with_reducible refine Below.drew ?_ | with_reducible refine below_drewN ?_ _ | with_reducible refine Below.setCell ?_ (by first | (simp; done) | (simp; omega) | omega) _ | with_reducible refine Below.alloc ?_ (by first | (simp; done) | (simp; omega) | omega) _))
  have zV7 : Vc3.heap.size + 1 ≤ V7.heap.size := by rw [hV7]; simp
  replace RR : Hid (RRow V7 w.heap.size Vc3.heap.size [x]) := by rw [hV7]; exact RR
  rw [← hV7]
  clear hV7
  replace E := E.trans (bV7.mono E.size)
  replace Hx1 := Hx1.below bV7 (by omega)
  replace Hx2 := Hx2.below bV7 (by omega)
  replace PX := PX.below bV7 PX.lt
  replace Hr21 := Hr21.below bV7 (by omega)
  replace Hr22 := Hr22.below bV7 (by omega)
  replace R2 := R2.below bV7 R2.lt
  replace F2 := F2.below bV7 F2.lt
  replace P13 := P13.below bV7 P13.lt
  clear bV7
  (with_reducible refine (ratioFaults_any _ w.heap.size Vc3.heap.size 1 [x] RR.out rfl (by omega) (by omega)).mono ?_)
  rintro e w9 ⟨rfl, hb9⟩
  have sw9 := hb9.size
  replace E := E.trans (hb9.mono E.size)
  replace Hx1 := Hx1.below hb9 (by omega)
  replace Hx2 := Hx2.below hb9 (by omega)
  replace PX := PX.below hb9 PX.lt
  replace Hr21 := Hr21.below hb9 (by omega)
  replace Hr22 := Hr22.below hb9 (by omega)
  replace R2 := R2.below hb9 R2.lt
  replace F2 := F2.below hb9 F2.lt
  replace P13 := P13.below hb9 P13.lt
  clear hb9
  clear RR
  obtain ⟨s1, hs1⟩ : ∃ y, y = (rfault [x] 0).1 := ⟨_, rfl⟩
  have SF1 := Lib.hid hs1
  obtain ⟨s2, hs2⟩ : ∃ y, y = (rfault [x] 0).2 := ⟨_, rfl⟩
  have SF2 := Lib.hid hs2
  rw [← hs1, ← hs2]
  clear hs1 hs2
  have y_P130 := P13.c0
  have z_P130 := P13.z0
  have y_P131 := P13.c1
  have z_P131 := P13.z1
  have lt_P13 := P13.lt
  go_upto_block 0 with fail
  clear y_P130 z_P130 y_P131 z_P131 lt_P13
  obtain ⟨U8P13, hU8P13⟩ : ∃ U8P13 : World, U8P13 = ((w9.setCell ⟨w5.heap.size, 0, none⟩ (.int .i64 s1)).setCell ⟨w5.heap.size, 1, none⟩ (.int .i64 s2)) := ⟨_, rfl⟩
  have zU8P13 : U8P13.heap.size = w9.heap.size := by rw [hU8P13]; simp [World.setCell]
  replace E : Below w.heap.size w U8P13 := by rw [hU8P13]; exact ((E.setCell (by first | (simp; done) | (simp; omega)) _).setCell (by first | (simp; done) | (simp; omega)) _)
  replace Hx1 : LRd U8P13 (w.heap.size) x.num.A x.num.n x.num.c x.num.xs := by rw [hU8P13]; first | exact Hx1.setB P13 (by simp) (by simp) _ _ | exact Hx1.setFarL (by omega) _ _
  replace Hx2 : LRd U8P13 (w.heap.size) x.den.A x.den.n x.den.c x.den.xs := by rw [hU8P13]; first | exact Hx2.setB P13 (by simp) (by simp) _ _ | exact Hx2.setFarL (by omega) _ _
  replace PX : Bk4 U8P13 (w.heap.size + 2) (.bool x.num.neg) (.slice x.num.A x.num.n x.num.c) (.bool x.den.neg) (.slice x.den.A x.den.n x.den.c) := by rw [hU8P13]; exact PX.far2 (by omega) _ _
  replace Hr21 : LRd U8P13 (w3.heap.size) r2.num.A r2.num.n r2.num.c r2.num.xs := by rw [hU8P13]; first | exact Hr21.setB P13 (by simp) (by simp) _ _ | exact Hr21.setFarL (by omega) _ _
  replace Hr22 : LRd U8P13 (w3.heap.size) r2.den.A r2.den.n r2.den.c r2.den.xs := by rw [hU8P13]; first | exact Hr22.setB P13 (by simp) (by simp) _ _ | exact Hr22.setFarL (by omega) _ _
  replace R2 : Bk4 U8P13 (w3.heap.size) (.bool r2.num.neg) (.slice r2.num.A r2.num.n r2.num.c) (.bool r2.den.neg) (.slice r2.den.A r2.den.n r2.den.c) := by rw [hU8P13]; exact R2.far2 (by omega) _ _
  replace F2 : Bk2 U8P13 (w3.heap.size + 1) (.int .i64 f2) (.int .i64 e2) := by rw [hU8P13]; exact F2.far2 (by omega) _ _
  replace P13 : Bk2 U8P13 (w5.heap.size) (.int .i64 s1) (.int .i64 s2) := by rw [hU8P13]; exact P13.set _ _
  rw [← hU8P13]
  clear hU8P13
  have zU8P13' := Nat.le_of_eq zU8P13
  replace zU8P13 := Nat.le_of_eq zU8P13.symm
  go_cut [] (fun wx => FbR U8P13 (w5.heap.size) t1 t2 wx)
  case first =>
    as_aux_lemma =>
      rcases Z2.out with ⟨ox, rfl, rfl, _⟩ | ⟨ox, hr, rfl, rfl, _⟩ | ⟨ox, h0, h1, hn, rfl, rfl, _⟩ | ⟨ox, h0, h1, hn, _⟩
      · obtain rfl : s1 = 6 := by rw [SF1.out, rf1 ox]
        obtain rfl : s2 = -1 := by rw [SF2.out, rf1 ox]
        obtain rfl : t1 = 6 := by rw [PF1.out, pf_bad ox]
        obtain rfl : t2 = -1 := by rw [PF2.out, pf_bad ox]
        have E0 : Below (w5.heap.size) U8P13 U8P13 := Below.refl _ _
        have t_P130 := P13.c0
        have t_P131 := P13.c1
        go_wp2_with fail
        clear t_P130 t_P131
        all_goals go_meet
        all_goals exact ⟨P13, E0⟩
      · obtain rfl : s1 = 0 := by rw [SF1.out, rf0 ox]
        obtain rfl : s2 = 0 := by rw [SF2.out, rf0 ox]
        obtain rfl : t1 = 4 := by rw [PF1.out, pf_range ox hr]
        obtain rfl : t2 = -2 := by rw [PF2.out, pf_range ox hr]
        have E0 : Below (w5.heap.size) U8P13 U8P13 := Below.refl _ _
        rcases hr with hr | hr
        · have k1 : decide (z < -10000) = true := decide_eq_true hr
          have t_P130 := P13.c0
          have t_P131 := P13.c1
          go_wp2_with fail
          clear t_P130 t_P131
          (with_reducible refine (at_any _ _ _).mono ?_)
          rintro e w7 ⟨rfl, hb7⟩
          have sw7 := hb7.size
          replace E0 : Below (w5.heap.size) U8P13 w7 := E0.trans (hb7.mono (by omega))
          replace P13 := P13.below hb7 P13.lt
          replace PX := PX.below hb7 PX.lt
          replace Hx1 := Hx1.below hb7 (by omega)
          replace Hx2 := Hx2.below hb7 (by omega)
          clear hb7
          have y_P130 := P13.c0
          have z_P130 := P13.z0
          have y_P131 := P13.c1
          have z_P131 := P13.z1
          have lt_P13 := P13.lt
          go_wp2_with fail
          clear y_P130 z_P130 y_P131 z_P131 lt_P13
          obtain ⟨U10P13, hU10P13⟩ : ∃ U10P13 : World, U10P13 = ((w7.setCell ⟨w5.heap.size, 0, none⟩ (.int .i64 4)).setCell ⟨w5.heap.size, 1, none⟩ (.int .i64 (-2))) := ⟨_, rfl⟩
          have zU10P13 : U10P13.heap.size = w7.heap.size := by rw [hU10P13]; simp [World.setCell]
          replace PX : Bk4 U10P13 (w.heap.size + 2) (.bool x.num.neg) (.slice x.num.A x.num.n x.num.c) (.bool x.den.neg) (.slice x.den.A x.den.n x.den.c) := by rw [hU10P13]; exact PX.far2 (by omega) _ _
          replace Hx1 : LRd U10P13 (w.heap.size) x.num.A x.num.n x.num.c x.num.xs := by rw [hU10P13]; first | exact Hx1.setB P13 (by simp) (by simp) _ _ | exact Hx1.setFarL (by omega) _ _
          replace Hx2 : LRd U10P13 (w.heap.size) x.den.A x.den.n x.den.c x.den.xs := by rw [hU10P13]; first | exact Hx2.setB P13 (by simp) (by simp) _ _ | exact Hx2.setFarL (by omega) _ _
          replace E0 : Below (w5.heap.size) U8P13 U10P13 := by rw [hU10P13]; exact ((E0.setCell (by first | (simp; done) | (simp; omega)) _).setCell (by first | (simp; done) | (simp; omega)) _)
          replace P13 : Bk2 U10P13 (w5.heap.size) (.int .i64 4) (.int .i64 (-2)) := by rw [hU10P13]; exact P13.set _ _
          rw [← hU10P13]
          clear hU10P13
          have zU10P13' := Nat.le_of_eq zU10P13
          replace zU10P13 := Nat.le_of_eq zU10P13.symm
          go_meet
          exact ⟨P13, E0⟩
        · have k1 : decide (z < -10000) = false := decide_eq_false (by omega)
          have k2 : decide (10000 < z) = true := decide_eq_true hr
          have t_P130 := P13.c0
          have t_P131 := P13.c1
          go_wp2_with fail
          clear t_P130 t_P131
          (with_reducible refine (at_any _ _ _).mono ?_)
          rintro e w7 ⟨rfl, hb7⟩
          have sw7 := hb7.size
          replace E0 : Below (w5.heap.size) U8P13 w7 := E0.trans (hb7.mono (by omega))
          replace P13 := P13.below hb7 P13.lt
          replace PX := PX.below hb7 PX.lt
          replace Hx1 := Hx1.below hb7 (by omega)
          replace Hx2 := Hx2.below hb7 (by omega)
          clear hb7
          have y_P130 := P13.c0
          have z_P130 := P13.z0
          have y_P131 := P13.c1
          have z_P131 := P13.z1
          have lt_P13 := P13.lt
          go_wp2_with fail
          clear y_P130 z_P130 y_P131 z_P131 lt_P13
          obtain ⟨U10P13, hU10P13⟩ : ∃ U10P13 : World, U10P13 = ((w7.setCell ⟨w5.heap.size, 0, none⟩ (.int .i64 4)).setCell ⟨w5.heap.size, 1, none⟩ (.int .i64 (-2))) := ⟨_, rfl⟩
          have zU10P13 : U10P13.heap.size = w7.heap.size := by rw [hU10P13]; simp [World.setCell]
          replace PX : Bk4 U10P13 (w.heap.size + 2) (.bool x.num.neg) (.slice x.num.A x.num.n x.num.c) (.bool x.den.neg) (.slice x.den.A x.den.n x.den.c) := by rw [hU10P13]; exact PX.far2 (by omega) _ _
          replace Hx1 : LRd U10P13 (w.heap.size) x.num.A x.num.n x.num.c x.num.xs := by rw [hU10P13]; first | exact Hx1.setB P13 (by simp) (by simp) _ _ | exact Hx1.setFarL (by omega) _ _
          replace Hx2 : LRd U10P13 (w.heap.size) x.den.A x.den.n x.den.c x.den.xs := by rw [hU10P13]; first | exact Hx2.setB P13 (by simp) (by simp) _ _ | exact Hx2.setFarL (by omega) _ _
          replace E0 : Below (w5.heap.size) U8P13 U10P13 := by rw [hU10P13]; exact ((E0.setCell (by first | (simp; done) | (simp; omega)) _).setCell (by first | (simp; done) | (simp; omega)) _)
          replace P13 : Bk2 U10P13 (w5.heap.size) (.int .i64 4) (.int .i64 (-2)) := by rw [hU10P13]; exact P13.set _ _
          rw [← hU10P13]
          clear hU10P13
          have zU10P13' := Nat.le_of_eq zU10P13
          replace zU10P13 := Nat.le_of_eq zU10P13.symm
          go_meet
          exact ⟨P13, E0⟩
      · obtain rfl : s1 = 0 := by rw [SF1.out, rf0 ox]
        obtain rfl : s2 = 0 := by rw [SF2.out, rf0 ox]
        obtain rfl : t1 = 22 := by rw [PF1.out, pf_zero ox h0 h1 hn]
        obtain rfl : t2 = -1 := by rw [PF2.out, pf_zero ox h0 h1 hn]
        have E0 : Below (w5.heap.size) U8P13 U8P13 := Below.refl _ _
        have k1 : decide (z < -10000) = false := decide_eq_false (by omega)
        have k2 : decide (10000 < z) = false := decide_eq_false (by omega)
        have k3 : decide (z < 0) = true := decide_eq_true (by omega)
        have HN := Lib.hid (show (!x.num.neg && decide (x.num.n = 0)) = true by rw [noint_eq (RV.okn ox) (iv_at Hx1)]; exact decide_eq_true hn)
        clear hn
        have t_P130 := P13.c0
        have t_P131 := P13.c1
        have t_PX0 := PX.c0
        have t_PX1 := PX.c1
        have t_PX2 := PX.c2
        have t_PX3 := PX.c3
        go_wp2_with fail
        clear t_P130 t_P131 t_PX0 t_PX1 t_PX2 t_PX3
        (with_reducible refine (noInt_any _ x.num.neg x.num.A x.num.n x.num.c (by have := Hx1.cap; omega)).mono ?_)
        rintro e w6 ⟨rfl, hb6⟩
        have sw6 := hb6.size
        replace E0 : Below (w5.heap.size) U8P13 w6 := E0.trans (hb6.mono (by omega))
        replace P13 := P13.below hb6 P13.lt
        replace PX := PX.below hb6 PX.lt
        replace Hx1 := Hx1.below hb6 (by omega)
        replace Hx2 := Hx2.below hb6 (by omega)
        clear hb6
        rw [HN.out]
        go_wp2_with fail
        (with_reducible refine (at_any _ _ _).mono ?_)
        rintro e w7 ⟨rfl, hb7⟩
        have sw7 := hb7.size
        replace E0 : Below (w5.heap.size) U8P13 w7 := E0.trans (hb7.mono (by omega))
        replace P13 := P13.below hb7 P13.lt
        replace PX := PX.below hb7 PX.lt
        replace Hx1 := Hx1.below hb7 (by omega)
        replace Hx2 := Hx2.below hb7 (by omega)
        clear hb7
        have y_P130 := P13.c0
        have z_P130 := P13.z0
        have y_P131 := P13.c1
        have z_P131 := P13.z1
        have lt_P13 := P13.lt
        go_wp2_with fail
        clear y_P130 z_P130 y_P131 z_P131 lt_P13
        obtain ⟨U11P13, hU11P13⟩ : ∃ U11P13 : World, U11P13 = ((w7.setCell ⟨w5.heap.size, 0, none⟩ (.int .i64 22)).setCell ⟨w5.heap.size, 1, none⟩ (.int .i64 (-1))) := ⟨_, rfl⟩
        have zU11P13 : U11P13.heap.size = w7.heap.size := by rw [hU11P13]; simp [World.setCell]
        replace PX : Bk4 U11P13 (w.heap.size + 2) (.bool x.num.neg) (.slice x.num.A x.num.n x.num.c) (.bool x.den.neg) (.slice x.den.A x.den.n x.den.c) := by rw [hU11P13]; exact PX.far2 (by omega) _ _
        replace Hx1 : LRd U11P13 (w.heap.size) x.num.A x.num.n x.num.c x.num.xs := by rw [hU11P13]; first | exact Hx1.setB P13 (by simp) (by simp) _ _ | exact Hx1.setFarL (by omega) _ _
        replace Hx2 : LRd U11P13 (w.heap.size) x.den.A x.den.n x.den.c x.den.xs := by rw [hU11P13]; first | exact Hx2.setB P13 (by simp) (by simp) _ _ | exact Hx2.setFarL (by omega) _ _
        replace E0 : Below (w5.heap.size) U8P13 U11P13 := by rw [hU11P13]; exact ((E0.setCell (by first | (simp; done) | (simp; omega)) _).setCell (by first | (simp; done) | (simp; omega)) _)
        replace P13 : Bk2 U11P13 (w5.heap.size) (.int .i64 22) (.int .i64 (-1)) := by rw [hU11P13]; exact P13.set _ _
        rw [← hU11P13]
        clear hU11P13
        have zU11P13' := Nat.le_of_eq zU11P13
        replace zU11P13 := Nat.le_of_eq zU11P13.symm
        all_goals go_meet
        all_goals exact ⟨P13, E0⟩
      · obtain rfl : s1 = 0 := by rw [SF1.out, rf0 ox]
        obtain rfl : s2 = 0 := by rw [SF2.out, rf0 ox]
        obtain rfl : t1 = 0 := by rw [PF1.out, pf_ok ox h0 h1 hn]
        obtain rfl : t2 = 0 := by rw [PF2.out, pf_ok ox h0 h1 hn]
        have E0 : Below (w5.heap.size) U8P13 U8P13 := Below.refl _ _
        by_cases hz : z < 0
        · have k1 : decide (z < -10000) = false := decide_eq_false (by omega)
          have k2 : decide (10000 < z) = false := decide_eq_false (by omega)
          have k3 : decide (z < 0) = true := decide_eq_true (by omega)
          have HN := Lib.hid (show (!x.num.neg && decide (x.num.n = 0)) = false by rw [noint_eq (RV.okn ox) (iv_at Hx1)]; exact decide_eq_false (hn hz))
          clear hn
          have t_P130 := P13.c0
          have t_P131 := P13.c1
          have t_PX0 := PX.c0
          have t_PX1 := PX.c1
          have t_PX2 := PX.c2
          have t_PX3 := PX.c3
          go_wp2_with fail
          clear t_P130 t_P131 t_PX0 t_PX1 t_PX2 t_PX3
          (with_reducible refine (noInt_any _ x.num.neg x.num.A x.num.n x.num.c (by have := Hx1.cap; omega)).mono ?_)
          rintro e w6 ⟨rfl, hb6⟩
          have sw6 := hb6.size
          replace E0 : Below (w5.heap.size) U8P13 w6 := E0.trans (hb6.mono (by omega))
          replace P13 := P13.below hb6 P13.lt
          replace PX := PX.below hb6 PX.lt
          replace Hx1 := Hx1.below hb6 (by omega)
          replace Hx2 := Hx2.below hb6 (by omega)
          clear hb6
          rw [HN.out]
          go_wp2_with fail
          go_meet
          exact ⟨P13, E0⟩
        · clear hn
          have k1 : decide (z < -10000) = false := decide_eq_false (by omega)
          have k2 : decide (10000 < z) = false := decide_eq_false (by omega)
          have k3 : decide (z < 0) = false := decide_eq_false hz
          have t_P130 := P13.c0
          have t_P131 := P13.c1
          go_wp2_with fail
          clear t_P130 t_P131
          go_meet
          exact ⟨P13, E0⟩
  case rest =>
  obtain ⟨P13', hbX⟩ := hcut
  clear P13
  replace E : Below w.heap.size w wc := E.trans (hbX.mono (by omega))
  replace Hx1 := Hx1.below hbX (by omega)
  replace Hx2 := Hx2.below hbX (by omega)
  replace PX := PX.below hbX (by omega)
  replace Hr21 := Hr21.below hbX (by omega)
  replace Hr22 := Hr22.below hbX (by omega)
  replace R2 := R2.below hbX (by omega)
  replace F2 := F2.below hbX (by omega)
  have P13 := P13'
  clear P13'
  have sX4 := hbX.size
  clear hbX
  obtain ⟨Vc4, hVc⟩ : ∃ y : World, y = wc := ⟨_, rfl⟩
  subst hVc
  rcases Z2.out with ⟨ox, rfl, rfl, hzr⟩ | ⟨ox, hr, rfl, rfl, hzr⟩ | ⟨ox, h0, h1, hn, rfl, rfl, hzr⟩ | ⟨ox, h0, h1, hn, hZ⟩
  · as_aux_lemma =>
      obtain rfl : t1 = 6 := by rw [PF1.out, pf_bad ox]
      obtain rfl : t2 = -1 := by rw [PF2.out, pf_bad ox]
      obtain ⟨n1, n2, n3, n4⟩ := hzr.form (rv_at Hr21 Hr22)
      rw [n1, n2, n3, n4] at R2
      clear n1 n2 n3 n4 hzr
      have t_R20 := R2.c0
      have t_R21 := R2.c1
      have t_R22 := R2.c2
      have t_R23 := R2.c3
      have t_F20 := F2.c0
      have t_F21 := F2.c1
      have t_P130 := P13.c0
      have t_P131 := P13.c1
      go_wp2_with fail
      clear t_R20 t_R21 t_R22 t_R23 t_F20 t_F21 t_P130 t_P131
      (with_reducible refine (gives_f6 _ r2.num.A r2.den.A r2.num.c r2.den.c (QV.mk false none 0 0 [] none 0 0 []) (-1)).mono ?_)
      rintro e w8 ⟨rfl, hb8⟩
      have sw8 := hb8.size
      replace R2 := R2.below hb8 R2.lt
      replace F2 := F2.below hb8 F2.lt
      replace P13 := P13.below hb8 P13.lt
      replace E := E.trans (hb8.mono E.size)
      clear hb8
      go_wp2_with fail
      go_ret
      exact ⟨rfl, E⟩
  · as_aux_lemma =>
      obtain rfl : t1 = 4 := by rw [PF1.out, pf_range ox hr]
      obtain rfl : t2 = -2 := by rw [PF2.out, pf_range ox hr]
      clear hr
      obtain ⟨n1, n2, n3, n4⟩ := hzr.form (rv_at Hr21 Hr22)
      rw [n1, n2, n3, n4] at R2
      clear n1 n2 n3 n4 hzr
      have t_R20 := R2.c0
      have t_R21 := R2.c1
      have t_R22 := R2.c2
      have t_R23 := R2.c3
      have t_F20 := F2.c0
      have t_F21 := F2.c1
      have t_P130 := P13.c0
      have t_P131 := P13.c1
      go_wp2_with fail
      clear t_R20 t_R21 t_R22 t_R23 t_F20 t_F21 t_P130 t_P131
      (with_reducible refine (gives_f4 _ r2.num.A r2.den.A r2.num.c r2.den.c (QV.mk false none 0 0 [] none 0 0 []) (-2)).mono ?_)
      rintro e w8 ⟨rfl, hb8⟩
      have sw8 := hb8.size
      replace R2 := R2.below hb8 R2.lt
      replace F2 := F2.below hb8 F2.lt
      replace P13 := P13.below hb8 P13.lt
      replace E := E.trans (hb8.mono E.size)
      clear hb8
      go_wp2_with fail
      go_ret
      exact ⟨rfl, E⟩
  · as_aux_lemma =>
      obtain rfl : t1 = 22 := by rw [PF1.out, pf_zero ox h0 h1 hn]
      obtain rfl : t2 = -1 := by rw [PF2.out, pf_zero ox h0 h1 hn]
      clear hn
      obtain ⟨n1, n2, n3, n4⟩ := hzr.form (rv_at Hr21 Hr22)
      rw [n1, n2, n3, n4] at R2
      clear n1 n2 n3 n4 hzr
      have t_R20 := R2.c0
      have t_R21 := R2.c1
      have t_R22 := R2.c2
      have t_R23 := R2.c3
      have t_F20 := F2.c0
      have t_F21 := F2.c1
      have t_P130 := P13.c0
      have t_P131 := P13.c1
      go_wp2_with fail
      clear t_R20 t_R21 t_R22 t_R23 t_F20 t_F21 t_P130 t_P131
      (with_reducible refine (gives_f22 _ r2.num.A r2.den.A r2.num.c r2.den.c (QV.mk false none 0 0 [] none 0 0 []) (-1)).mono ?_)
      rintro e w8 ⟨rfl, hb8⟩
      have sw8 := hb8.size
      replace R2 := R2.below hb8 R2.lt
      replace F2 := F2.below hb8 F2.lt
      replace P13 := P13.below hb8 P13.lt
      replace E := E.trans (hb8.mono E.size)
      clear hb8
      go_wp2_with fail
      go_ret
      exact ⟨rfl, E⟩
  · obtain rfl : t1 = 0 := by rw [PF1.out, pf_ok ox h0 h1 hn]
    obtain rfl : t2 = 0 := by rw [PF2.out, pf_ok ox h0 h1 hn]
    have HN := Lib.hid hn
    have ZP := Lib.hid hZ
    have OX := Lib.hid ox
    clear hn hZ ox
    have t_P130 := P13.c0
    have t_P131 := P13.c1
    have t_PX0 := PX.c0
    have t_PX1 := PX.c1
    have t_PX2 := PX.c2
    have t_PX3 := PX.c3
    go_wp2_with fail
    clear t_P130 t_P131 t_PX0 t_PX1 t_PX2 t_PX3
    (with_reducible refine (ratioOf_any _ w.heap.size x (rv_at Hx1 Hx2) (by omega) OX.out).mono ?_)
    rintro e w10 hq
    obtain ⟨q, rfl, hq', hi, hb10⟩ := GivesRR.q hq
    clear hq
    have s10 := hb10.size
    replace E := E.trans (hb10.mono E.size)
    replace Hx1 := Hx1.below hb10 (by omega)
    replace Hx2 := Hx2.below hb10 (by omega)
    replace PX := PX.below hb10 PX.lt
    replace Hr21 := Hr21.below hb10 (by omega)
    replace Hr22 := Hr22.below hb10 (by omega)
    replace R2 := R2.below hb10 R2.lt
    replace F2 := F2.below hb10 F2.lt
    replace P13 := P13.below hb10 P13.lt
    clear hb10
    obtain ⟨v1, i1, i2, i3⟩ := hi
    have I1 := Lib.hid i1
    have I2 := Lib.hid i2
    have I3 := Lib.hid i3
    clear i1 i2 i3
    have Hq1 : DRd w10 w10.heap.size q.A q.n q.c q.xs := hq'.1
    have Hq2 : DRd w10 w10.heap.size q.D q.k q.d q.ys := hq'.2
    clear hq'
    have VX := Lib.hid (RV.val OX.out (rv_at Hx1 Hx2))
    clear P13 PX
    go_upto_if 110 with fail
    obtain ⟨V10, hV10⟩ : ∃ V10 : World, V10 = (w10.alloc (.cells #[.bool q.m, .slice q.A q.n q.c, .slice q.D q.k q.d] 42)) := ⟨_, rfl⟩
    have bV10 : Below w10.heap.size w10 V10 := by rw [hV10]; (repeat (first | with_reducible exact Below.refl _ _ | with_reducible refine Below.drew ?_ | with_reducible refine below_drewN ?_ _ | with_reducible refine Below.setCell ?_ (by first | (simp; done) | (simp; omega) | omega) _ | with_reducible refine Below.alloc ?_ (by first | (simp; done) | (simp; omega) | omega) _))
    have zV10 : w10.heap.size + 1 ≤ V10.heap.size := by rw [hV10]; simp
    have P15 : Bk3 V10 (w10.heap.size) (.bool q.m) (.slice q.A q.n q.c) (.slice q.D q.k q.d) := by rw [hV10]; exact (Bk3.newAt _ _ (by first | omega | (simp; done) | (simp; omega)) _ _ _ _)
    rw [← hV10]
    clear hV10
    replace E := E.trans (bV10.mono E.size)
    replace Hx1 := Hx1.below bV10 (by omega)
    replace Hx2 := Hx2.below bV10 (by omega)
    replace Hr21 := Hr21.below bV10 (by omega)
    replace Hr22 := Hr22.below bV10 (by omega)
    replace R2 := R2.below bV10 R2.lt
    replace F2 := F2.below bV10 F2.lt
    replace Hq1 := Hq1.below bV10 (by omega)
    replace Hq2 := Hq2.below bV10 (by omega)
    clear bV10
    go_cut [3] (fun s wx => PbR V10 (w10.heap.size) x z s wx)
    case first =>
      as_aux_lemma =>
        have E0 : Below (w10.heap.size) V10 V10 := Below.refl _ _
        by_cases hz : z < 0
        · have k3 : decide (z < 0) = true := decide_eq_true hz
          have t_P150 := P15.c0
          have t_P151 := P15.c1
          have t_P152 := P15.c2
          go_wp2_with fail
          clear t_P150 t_P151 t_P152
          (with_reducible refine (qturned_v _ w10.heap.size q v1 x.den.val.natAbs (qv_at Hq1 Hq2) (by omega) I1 I3).mono ?_)
          rintro e w11 ⟨p, rfl, hp, hi, hb11⟩
          have sw11 := hb11.size
          replace E0 : Below (w10.heap.size) V10 w11 := E0.trans (hb11.mono (by omega))
          replace P15 := P15.below hb11 P15.lt
          replace Hq1 := Hq1.below hb11 (by omega)
          replace Hq2 := Hq2.below hb11 (by omega)
          clear hb11
          have Hp1 : DRd w11 w11.heap.size p.A p.n p.c p.xs := hp.1
          have Hp2 : DRd w11 w11.heap.size p.D p.k p.d p.ys := hp.2
          clear hp
          have PI := Lib.hid hi
          clear hi
          clear Hq1 Hq2
          have y_P150 := P15.c0
          have z_P150 := P15.z0
          have y_P151 := P15.c1
          have z_P151 := P15.z1
          have y_P152 := P15.c2
          have z_P152 := P15.z2
          have lt_P15 := P15.lt
          go_wp2_with fail
          clear y_P150 z_P150 y_P151 z_P151 y_P152 z_P152 lt_P15
          obtain ⟨U12P15, hU12P15⟩ : ∃ U12P15 : World, U12P15 = (((w11.setCell ⟨w10.heap.size, 0, none⟩ (.bool p.m)).setCell ⟨w10.heap.size, 1, none⟩ (.slice p.A p.n p.c)).setCell ⟨w10.heap.size, 2, none⟩ (.slice p.D p.k p.d)) := ⟨_, rfl⟩
          have zU12P15 : U12P15.heap.size = w11.heap.size := by rw [hU12P15]; simp [World.setCell]
          replace E0 : Below (w10.heap.size) V10 U12P15 := by rw [hU12P15]; exact (((E0.setCell (by first | (simp; done) | (simp; omega)) _).setCell (by first | (simp; done) | (simp; omega)) _).setCell (by first | (simp; done) | (simp; omega)) _)
          replace Hp1 : DRd U12P15 (w11.heap.size) p.A p.n p.c p.xs := by rw [hU12P15]; first | exact Hp1.set3 (by omega) _ _ _ | exact DRd.more (DRd.set3k Hp1 (Nat.le_refl _) P15.c0 P15.c1 P15.c2) (by simp [World.setCell])
          replace Hp2 : DRd U12P15 (w11.heap.size) p.D p.k p.d p.ys := by rw [hU12P15]; first | exact Hp2.set3 (by omega) _ _ _ | exact DRd.more (DRd.set3k Hp2 (Nat.le_refl _) P15.c0 P15.c1 P15.c2) (by simp [World.setCell])
          replace P15 : Bk3 U12P15 (w10.heap.size) (.bool p.m) (.slice p.A p.n p.c) (.slice p.D p.k p.d) := by rw [hU12P15]; exact P15.put _ _ _
          rw [← hU12P15]
          clear hU12P15
          have zU12P15' := Nat.le_of_eq zU12P15
          replace zU12P15 := Nat.le_of_eq zU12P15.symm
          go_meet
          refine pbr_mk (q := p) (y2 := v1) ?_ P15 (qv_at (Hp1.more (by omega)) (Hp2.more (by omega))) ?_ ?_ E0
          · rw [show ((z.natAbs : Nat) : Int) = -z by omega]
          · have h1 := PI.out
            have ex : pbx x z = sval x.num.neg x.den.val.natAbs := if_pos hz
            rw [ex, ← turned_sgn I2.out (HN.out hz) VX.out.num.sgn]
            exact h1
          · have ey : pby x z = sval false x.num.val.natAbs := if_pos hz
            rw [ey, ← I2.out, sval_abs]; rfl
        · have k3 : decide (z < 0) = false := decide_eq_false hz
          go_wp2_with fail
          go_meet
          refine pbr_mk (q := q) (y2 := x.den.val.natAbs) ?_ P15 (qv_at (Hq1.more (by omega)) (Hq2.more (by omega))) ?_ ?_ E0
          · rw [show ((z.natAbs : Nat) : Int) = z by omega]
          · have ex : pbx x z = x.num.val := if_neg (by omega)
            rw [ex]
            exact ⟨v1, I1.out, I2.out, I3.out⟩
          · have ey : pby x z = x.den.val := if_neg (by omega)
            rw [ey]
            have := VX.out.pos
            omega
    case rest =>
    clear P15 Hq1 Hq2 I1 I2 I3
    obtain ⟨p, y2, rfl, P15, hp, hi, hy, hbX⟩ := hcut
    replace E : Below w.heap.size w wc := E.trans (hbX.mono (by omega))
    replace Hx1 := Hx1.below hbX (by omega)
    replace Hx2 := Hx2.below hbX (by omega)
    replace Hr21 := Hr21.below hbX (by omega)
    replace Hr22 := Hr22.below hbX (by omega)
    replace R2 := R2.below hbX (by omega)
    replace F2 := F2.below hbX (by omega)
    have sX5 := hbX.size
    clear hbX
    obtain ⟨v1, i1, i2, i3⟩ := hi.out
    clear hi
    have I1 := Lib.hid i1
    have I2 := Lib.hid i2
    have I3 := Lib.hid i3
    clear i1 i2 i3
    obtain ⟨Vc5, hVc⟩ : ∃ y : World, y = wc := ⟨_, rfl⟩
    subst hVc
    have Hp1 : DRd Vc5 Vc5.heap.size p.A p.n p.c p.xs := hp.1
    have Hp2 : DRd Vc5 Vc5.heap.size p.D p.k p.d p.ys := hp.2
    clear hp
    have lx := Lib.hid (pbx_lt VX.out (z := z))
    have ly := Lib.hid (pby_lt VX.out (z := z))
    have np5 : p.n ≤ 100000 := by have h1 := repD_len128 I1.out (by rw [← sval_abs p.m v1, I2.out]; exact lx.out) Hp1.len.out; omega
    have nk5 : p.k ≤ 100000 := by have h1 := repD_len128 I3.out (by have h2 := ly.out; rw [← hy.out] at h2; exact h2) Hp2.len.out; omega
    have ze : z.natAbs ≤ 10000 := by omega
    obtain ⟨n, hn⟩ : ∃ n, n = z.natAbs := ⟨_, rfl⟩
    rw [← hn] at ze ZP ⊢
    clear hn
    obtain ⟨X, hX⟩ : ∃ y, y = pbx x z := ⟨_, rfl⟩
    obtain ⟨Y, hY⟩ : ∃ y, y = pby x z := ⟨_, rfl⟩
    rw [← hX, ← hY] at ZP
    rw [← hX] at I2
    rw [← hY] at hy
    clear hX hY lx ly
    by_cases h1 : (X ^ n).natAbs < Top128
    · by_cases h2 : (Y ^ n).natAbs < Top128
      · as_aux_lemma =>
          have T1 := Lib.hid h1
          clear h1
          have T2 := Lib.hid h2
          clear h2
          have t_P150 := P15.c0
          have t_P151 := P15.c1
          have t_P152 := P15.c2
          go_wp2_with fail
          clear t_P150 t_P151 t_P152
          (with_reducible refine (raised_fit _ Vc5.heap.size p.m p.A p.n p.c v1 n p.xs X Hp1 (by omega) I1 np5 ze I2.out T1.out).mono ?_)
          rintro e w6 ⟨m6, A6, k6, c6, x6, v6, rfl, hd6, hr6, hs6, hb6⟩
          have sw6 := hb6.size
          replace P15 := P15.below hb6 P15.lt
          replace E := E.trans (hb6.mono E.size)
          replace Hx1 := Hx1.below hb6 (by omega)
          replace Hx2 := Hx2.below hb6 (by omega)
          replace Hr21 := Hr21.below hb6 (by omega)
          replace Hr22 := Hr22.below hb6 (by omega)
          replace R2 := R2.below hb6 R2.lt
          replace F2 := F2.below hb6 F2.lt
          replace Hp1 := Hp1.below hb6 (by omega)
          replace Hp2 := Hp2.below hb6 (by omega)
          clear hb6
          have R6 := Lib.hid hr6
          have S6 := Lib.hid hs6
          clear hr6 hs6
          have t_P150 : (w6.alloc (.cells #[.bool m6, .slice A6 k6 c6] 40)).cell? ⟨w10.heap.size, 0, none⟩ = some ((.bool p.m)) := (P15.alloc _).c0
          have t_P151 : (w6.alloc (.cells #[.bool m6, .slice A6 k6 c6] 40)).cell? ⟨w10.heap.size, 1, none⟩ = some ((.slice p.A p.n p.c)) := (P15.alloc _).c1
          have t_P152 : (w6.alloc (.cells #[.bool m6, .slice A6 k6 c6] 40)).cell? ⟨w10.heap.size, 2, none⟩ = some ((.slice p.D p.k p.d)) := (P15.alloc _).c2
          go_wp2_with fail
          clear t_P150 t_P151 t_P152
          obtain ⟨V12, hV12⟩ : ∃ V12 : World, V12 = (w6.alloc (.cells #[.bool m6, .slice A6 k6 c6] 40)) := ⟨_, rfl⟩
          have bV12 : Below w6.heap.size w6 V12 := by rw [hV12]; (repeat (first | with_reducible exact Below.refl _ _ | with_reducible refine Below.drew ?_ | with_reducible refine below_drewN ?_ _ | with_reducible refine Below.setCell ?_ (by first | (simp; done) | (simp; omega) | omega) _ | with_reducible refine Below.alloc ?_ (by first | (simp; done) | (simp; omega) | omega) _))
          have zV12 : w6.heap.size + 1 ≤ V12.heap.size := by rw [hV12]; simp
          have P16 : Bk2 V12 (w6.heap.size) (.bool m6) (.slice A6 k6 c6) := by rw [hV12]; exact (Bk2.newAt _ _ (by first | omega | (simp; done) | (simp; omega)) _ _ _)
          rw [← hV12]
          clear hV12
          replace P15 := P15.below bV12 P15.lt
          replace E := E.trans (bV12.mono E.size)
          replace Hx1 := Hx1.below bV12 (by omega)
          replace Hx2 := Hx2.below bV12 (by omega)
          replace Hr21 := Hr21.below bV12 (by omega)
          replace Hr22 := Hr22.below bV12 (by omega)
          replace R2 := R2.below bV12 R2.lt
          replace F2 := F2.below bV12 F2.lt
          replace Hp1 := Hp1.below bV12 (by omega)
          replace Hp2 := Hp2.below bV12 (by omega)
          replace hd6 := hd6.below bV12 (by omega)
          clear bV12
          (with_reducible refine (raised_fit _ Vc5.heap.size false p.D p.k p.d y2 n p.ys Y Hp2 (by omega) I3 nk5 ze (by rw [sval_f]; exact hy.out) T2.out).mono ?_)
          rintro e w7 ⟨m7, A7, k7, c7, x7, v7, rfl, hd7, hr7, hs7, hb7⟩
          have sw7 := hb7.size
          replace P15 := P15.below hb7 P15.lt
          replace E := E.trans (hb7.mono E.size)
          replace Hx1 := Hx1.below hb7 (by omega)
          replace Hx2 := Hx2.below hb7 (by omega)
          replace Hr21 := Hr21.below hb7 (by omega)
          replace Hr22 := Hr22.below hb7 (by omega)
          replace R2 := R2.below hb7 R2.lt
          replace F2 := F2.below hb7 F2.lt
          replace Hp1 := Hp1.below hb7 (by omega)
          replace Hp2 := Hp2.below hb7 (by omega)
          replace hd6 := hd6.below hb7 (by omega)
          replace P16 := P16.below hb7 P16.lt
          clear hb7
          have R7 := Lib.hid hr7
          have S7 := Lib.hid hs7
          clear hr7 hs7
          obtain ⟨_, _, rfl, rfl, J1, J2⟩ | ⟨ht, _⟩ := ZP.out
          rotate_left
          · exfalso; have := T1.out; have := T2.out; omega
          have J1' := Lib.hid J1
          have J2' := Lib.hid J2
          clear J1 J2
          have t_R20 : (w7.alloc (.cells #[.bool m7, .slice A7 k7 c7] 40)).cell? ⟨w3.heap.size, 0, none⟩ = some ((.bool r2.num.neg)) := (R2.alloc _).c0
          have t_R21 : (w7.alloc (.cells #[.bool m7, .slice A7 k7 c7] 40)).cell? ⟨w3.heap.size, 1, none⟩ = some ((.slice r2.num.A r2.num.n r2.num.c)) := (R2.alloc _).c1
          have t_R22 : (w7.alloc (.cells #[.bool m7, .slice A7 k7 c7] 40)).cell? ⟨w3.heap.size, 2, none⟩ = some ((.bool r2.den.neg)) := (R2.alloc _).c2
          have t_R23 : (w7.alloc (.cells #[.bool m7, .slice A7 k7 c7] 40)).cell? ⟨w3.heap.size, 3, none⟩ = some ((.slice r2.den.A r2.den.n r2.den.c)) := (R2.alloc _).c3
          have t_F20 : (w7.alloc (.cells #[.bool m7, .slice A7 k7 c7] 40)).cell? ⟨w3.heap.size + 1, 0, none⟩ = some ((.int .i64 0)) := (F2.alloc _).c0
          have t_F21 : (w7.alloc (.cells #[.bool m7, .slice A7 k7 c7] 40)).cell? ⟨w3.heap.size + 1, 1, none⟩ = some ((.int .i64 0)) := (F2.alloc _).c1
          have t_P160 : (w7.alloc (.cells #[.bool m7, .slice A7 k7 c7] 40)).cell? ⟨w6.heap.size, 0, none⟩ = some ((.bool m6)) := (P16.alloc _).c0
          have t_P161 : (w7.alloc (.cells #[.bool m7, .slice A7 k7 c7] 40)).cell? ⟨w6.heap.size, 1, none⟩ = some ((.slice A6 k6 c6)) := (P16.alloc _).c1
          go_wp2_with fail
          clear t_R20 t_R21 t_R22 t_R23 t_F20 t_F21 t_P160 t_P161
          obtain ⟨V13, hV13⟩ : ∃ V13 : World, V13 = (w7.alloc (.cells #[.bool m7, .slice A7 k7 c7] 40)) := ⟨_, rfl⟩
          have bV13 : Below w7.heap.size w7 V13 := by rw [hV13]; (repeat (first | with_reducible exact Below.refl _ _ | with_reducible refine Below.drew ?_ | with_reducible refine below_drewN ?_ _ | with_reducible refine Below.setCell ?_ (by first | (simp; done) | (simp; omega) | omega) _ | with_reducible refine Below.alloc ?_ (by first | (simp; done) | (simp; omega) | omega) _))
          have zV13 : w7.heap.size + 1 ≤ V13.heap.size := by rw [hV13]; simp
          have P18 : Bk2 V13 (w7.heap.size) (.bool m7) (.slice A7 k7 c7) := by rw [hV13]; exact (Bk2.newAt _ _ (by first | omega | (simp; done) | (simp; omega)) _ _ _)
          rw [← hV13]
          clear hV13
          replace P15 := P15.below bV13 P15.lt
          replace E := E.trans (bV13.mono E.size)
          replace Hx1 := Hx1.below bV13 (by omega)
          replace Hx2 := Hx2.below bV13 (by omega)
          replace Hr21 := Hr21.below bV13 (by omega)
          replace Hr22 := Hr22.below bV13 (by omega)
          replace R2 := R2.below bV13 R2.lt
          replace F2 := F2.below bV13 F2.lt
          replace Hp1 := Hp1.below bV13 (by omega)
          replace Hp2 := Hp2.below bV13 (by omega)
          replace hd6 := hd6.below bV13 (by omega)
          replace P16 := P16.below bV13 P16.lt
          replace hd7 := hd7.below bV13 (by omega)
          clear bV13
          have SD := Lib.hid (show sval false v7 = Y ^ n by
              have h5 : 0 ≤ Y ^ n := Int.pow_nonneg (by rw [← hy.out]; omega)
              have h6 := sval_abs m7 v7
              rw [S7.out] at h6
              show ((v7 : Nat) : Int) = _
              omega)
          have l6 : k6 ≤ 256 := repD_len128 R6.out (by rw [← sval_abs m6 v6, S6.out]; exact T1.out) hd6.len.out
          have l7 : k7 ≤ 256 := repD_len128 R7.out (by rw [← sval_abs m7 v7, S7.out]; exact T2.out) hd7.len.out
          (with_reducible refine (gives_ok _ w7.heap.size r2 (QV.mk m6 A6 k6 c6 x6 A7 k7 c7 x7) v6 v7 (X ^ n) (Y ^ n) (rv_at (Hr21.more (by omega)) (Hr22.more (by omega))) (qv_at (q := QV.mk m6 A6 k6 c6 x6 A7 k7 c7 x7) (hd6.more (by omega)) hd7) (by omega) J1' J2' R6 R7 S6 SD l6 l7).mono ?_)
          rintro e w8 ⟨rfl, hb8⟩
          have sw8 := hb8.size
          replace P15 := P15.below hb8 P15.lt
          replace E := E.trans (hb8.mono E.size)
          replace Hx1 := Hx1.below hb8 (by omega)
          replace Hx2 := Hx2.below hb8 (by omega)
          replace Hr21 := Hr21.below hb8 (by omega)
          replace Hr22 := Hr22.below hb8 (by omega)
          replace R2 := R2.below hb8 R2.lt
          replace F2 := F2.below hb8 F2.lt
          replace Hp1 := Hp1.below hb8 (by omega)
          replace Hp2 := Hp2.below hb8 (by omega)
          replace hd6 := hd6.below hb8 (by omega)
          replace P16 := P16.below hb8 P16.lt
          replace hd7 := hd7.below hb8 (by omega)
          replace P18 := P18.below hb8 P18.lt
          clear hb8
          go_wp2_with fail
          go_ret
          exact ⟨rfl, E⟩
      · as_aux_lemma =>
          have T1 := Lib.hid h1
          clear h1
          have T2 := Lib.hid h2
          clear h2
          have t_P150 := P15.c0
          have t_P151 := P15.c1
          have t_P152 := P15.c2
          go_wp2_with fail
          clear t_P150 t_P151 t_P152
          (with_reducible refine (raised_fit _ Vc5.heap.size p.m p.A p.n p.c v1 n p.xs X Hp1 (by omega) I1 np5 ze I2.out T1.out).mono ?_)
          rintro e w6 ⟨m6, A6, k6, c6, x6, v6, rfl, hd6, hr6, hs6, hb6⟩
          have sw6 := hb6.size
          replace P15 := P15.below hb6 P15.lt
          replace E := E.trans (hb6.mono E.size)
          replace Hx1 := Hx1.below hb6 (by omega)
          replace Hx2 := Hx2.below hb6 (by omega)
          replace Hr21 := Hr21.below hb6 (by omega)
          replace Hr22 := Hr22.below hb6 (by omega)
          replace R2 := R2.below hb6 R2.lt
          replace F2 := F2.below hb6 F2.lt
          replace Hp1 := Hp1.below hb6 (by omega)
          replace Hp2 := Hp2.below hb6 (by omega)
          clear hb6
          have R6 := Lib.hid hr6
          have S6 := Lib.hid hs6
          clear hr6 hs6
          have t_P150 : (w6.alloc (.cells #[.bool m6, .slice A6 k6 c6] 40)).cell? ⟨w10.heap.size, 0, none⟩ = some ((.bool p.m)) := (P15.alloc _).c0
          have t_P151 : (w6.alloc (.cells #[.bool m6, .slice A6 k6 c6] 40)).cell? ⟨w10.heap.size, 1, none⟩ = some ((.slice p.A p.n p.c)) := (P15.alloc _).c1
          have t_P152 : (w6.alloc (.cells #[.bool m6, .slice A6 k6 c6] 40)).cell? ⟨w10.heap.size, 2, none⟩ = some ((.slice p.D p.k p.d)) := (P15.alloc _).c2
          go_wp2_with fail
          clear t_P150 t_P151 t_P152
          obtain ⟨V12, hV12⟩ : ∃ V12 : World, V12 = (w6.alloc (.cells #[.bool m6, .slice A6 k6 c6] 40)) := ⟨_, rfl⟩
          have bV12 : Below w6.heap.size w6 V12 := by rw [hV12]; (repeat (first | with_reducible exact Below.refl _ _ | with_reducible refine Below.drew ?_ | with_reducible refine below_drewN ?_ _ | with_reducible refine Below.setCell ?_ (by first | (simp; done) | (simp; omega) | omega) _ | with_reducible refine Below.alloc ?_ (by first | (simp; done) | (simp; omega) | omega) _))
          have zV12 : w6.heap.size + 1 ≤ V12.heap.size := by rw [hV12]; simp
          have P16 : Bk2 V12 (w6.heap.size) (.bool m6) (.slice A6 k6 c6) := by rw [hV12]; exact (Bk2.newAt _ _ (by first | omega | (simp; done) | (simp; omega)) _ _ _)
          rw [← hV12]
          clear hV12
          replace P15 := P15.below bV12 P15.lt
          replace E := E.trans (bV12.mono E.size)
          replace Hx1 := Hx1.below bV12 (by omega)
          replace Hx2 := Hx2.below bV12 (by omega)
          replace Hr21 := Hr21.below bV12 (by omega)
          replace Hr22 := Hr22.below bV12 (by omega)
          replace R2 := R2.below bV12 R2.lt
          replace F2 := F2.below bV12 F2.lt
          replace Hp1 := Hp1.below bV12 (by omega)
          replace Hp2 := Hp2.below bV12 (by omega)
          replace hd6 := hd6.below bV12 (by omega)
          clear bV12
          (with_reducible refine (raised_big _ Vc5.heap.size false p.D p.k p.d y2 n p.ys Y Hp2 (by omega) I3 nk5 ze (by rw [sval_f]; exact hy.out) (by have := T2.out; omega)).mono ?_)
          rintro e w7 ⟨rfl, hb7⟩
          have sw7 := hb7.size
          replace P15 := P15.below hb7 P15.lt
          replace E := E.trans (hb7.mono E.size)
          replace Hx1 := Hx1.below hb7 (by omega)
          replace Hx2 := Hx2.below hb7 (by omega)
          replace Hr21 := Hr21.below hb7 (by omega)
          replace Hr22 := Hr22.below hb7 (by omega)
          replace R2 := R2.below hb7 R2.lt
          replace F2 := F2.below hb7 F2.lt
          replace Hp1 := Hp1.below hb7 (by omega)
          replace Hp2 := Hp2.below hb7 (by omega)
          replace hd6 := hd6.below hb7 (by omega)
          replace P16 := P16.below hb7 P16.lt
          clear hb7
          obtain ⟨ht, ht2, _⟩ | ⟨_, rfl, rfl, hzr⟩ := ZP.out
          · exfalso; have := T1.out; have := T2.out; omega
          obtain ⟨n1, n2, n3, n4⟩ := hzr.form (rv_at Hr21 Hr22)
          rw [n1, n2, n3, n4] at R2
          clear n1 n2 n3 n4 hzr
          go_upto_region 28 with fail
          obtain ⟨V13, hV13⟩ : ∃ V13 : World, V13 = (w7.alloc (.cells #[.bool false, .slice none 0 0] 40)) := ⟨_, rfl⟩
          have bV13 : Below w7.heap.size w7 V13 := by rw [hV13]; (repeat (first | with_reducible exact Below.refl _ _ | with_reducible refine Below.drew ?_ | with_reducible refine below_drewN ?_ _ | with_reducible refine Below.setCell ?_ (by first | (simp; done) | (simp; omega) | omega) _ | with_reducible refine Below.alloc ?_ (by first | (simp; done) | (simp; omega) | omega) _))
          have zV13 : w7.heap.size + 1 ≤ V13.heap.size := by rw [hV13]; simp
          have P18 : Bk2 V13 (w7.heap.size) (.bool false) (.slice none 0 0) := by rw [hV13]; exact (Bk2.newAt _ _ (by first | omega | (simp; done) | (simp; omega)) _ _ _)
          rw [← hV13]
          clear hV13
          replace P15 := P15.below bV13 P15.lt
          replace E := E.trans (bV13.mono E.size)
          replace Hx1 := Hx1.below bV13 (by omega)
          replace Hx2 := Hx2.below bV13 (by omega)
          replace Hr21 := Hr21.below bV13 (by omega)
          replace Hr22 := Hr22.below bV13 (by omega)
          replace R2 := R2.below bV13 R2.lt
          replace F2 := F2.below bV13 F2.lt
          replace Hp1 := Hp1.below bV13 (by omega)
          replace Hp2 := Hp2.below bV13 (by omega)
          replace hd6 := hd6.below bV13 (by omega)
          replace P16 := P16.below bV13 P16.lt
          clear bV13
          have lt_R2 := R2.lt
          have lt_F2 := F2.lt
          have HS := Lib.hid (fun (u : World) (hu : Below (V13.heap.size) V13 u) => (⟨(hu.cell (p := ⟨w3.heap.size, 0, none⟩) (by show w3.heap.size < _; omega)).trans R2.c0, (hu.cell (p := ⟨w3.heap.size, 1, none⟩) (by show w3.heap.size < _; omega)).trans R2.c1, (hu.cell (p := ⟨w3.heap.size, 2, none⟩) (by show w3.heap.size < _; omega)).trans R2.c2, (hu.cell (p := ⟨w3.heap.size, 3, none⟩) (by show w3.heap.size < _; omega)).trans R2.c3, (hu.cell (p := ⟨w3.heap.size + 1, 0, none⟩) (by show w3.heap.size + 1 < _; omega)).trans F2.c0, (hu.cell (p := ⟨w3.heap.size + 1, 1, none⟩) (by show w3.heap.size + 1 < _; omega)).trans F2.c1⟩ : u.cell? ⟨w3.heap.size, 0, none⟩ = some (.bool false) ∧ u.cell? ⟨w3.heap.size, 1, none⟩ = some (.slice r2.num.A 0 r2.num.c) ∧ u.cell? ⟨w3.heap.size, 2, none⟩ = some (.bool false) ∧ u.cell? ⟨w3.heap.size, 3, none⟩ = some (.slice r2.den.A 0 r2.den.c) ∧ u.cell? ⟨w3.heap.size + 1, 0, none⟩ = some (.int .i64 14) ∧ u.cell? ⟨w3.heap.size + 1, 1, none⟩ = some (.int .i64 (-1))))
          have G0 : Below V13.heap.size V13 V13.drew := Below.drew (Below.refl _ _)
          have g0s := G0.size
          have G0m : Below (V13.heap.size) V13 V13.drew := G0.mono (by omega)
          go_region_held3 (fun u => u.cell? ⟨w3.heap.size, 0, none⟩ = some (.bool false) ∧ u.cell? ⟨w3.heap.size, 1, none⟩ = some (.slice r2.num.A 0 r2.num.c) ∧ u.cell? ⟨w3.heap.size, 2, none⟩ = some (.bool false) ∧ u.cell? ⟨w3.heap.size, 3, none⟩ = some (.slice r2.den.A 0 r2.den.c) ∧ u.cell? ⟨w3.heap.size + 1, 0, none⟩ = some (.int .i64 14) ∧ u.cell? ⟨w3.heap.size + 1, 1, none⟩ = some (.int .i64 (-1))) (first | (refine HS.out _ ?_; (repeat (first | with_reducible exact G0m | with_reducible exact BN.mono (by omega) | with_reducible exact B1.mono (by omega) | with_reducible exact Below.refl _ _ | with_reducible refine Below.drew ?_ | with_reducible refine below_drewN ?_ _ | with_reducible refine Below.setCell ?_ (by first | (simp; done) | (simp; omega) | omega) _)); done) | fail)
            (first
              | (go_at_call 24; (with_reducible refine (at_any _ _ _).mono ?_); rintro e u1 ⟨rfl, hb1⟩; have B1 : Below V13.heap.size V13 u1 := bnext G0 hb1; have b1s := B1.size)
              | (go_at_call 17; (with_reducible refine (gives_f14 _ r2.num.A r2.den.A r2.num.c r2.den.c (QV.mk false none 0 0 [] none 0 0 []) (-1)).mono ?_); rintro e u2 ⟨rfl, hb2⟩; have BN : Below V13.heap.size V13 u2 := bnext B1 hb2)
              | fail)
          all_goals (go_wp2_with fail)
          all_goals go_ret
          all_goals exact ⟨rfl, E.trans (BN.mono E.size)⟩
    · by_cases h2 : (Y ^ n).natAbs < Top128
      · as_aux_lemma =>
          have T1 := Lib.hid h1
          clear h1
          have T2 := Lib.hid h2
          clear h2
          have t_P150 := P15.c0
          have t_P151 := P15.c1
          have t_P152 := P15.c2
          go_wp2_with fail
          clear t_P150 t_P151 t_P152
          (with_reducible refine (raised_big _ Vc5.heap.size p.m p.A p.n p.c v1 n p.xs X Hp1 (by omega) I1 np5 ze I2.out (by have := T1.out; omega)).mono ?_)
          rintro e w6 ⟨rfl, hb6⟩
          have sw6 := hb6.size
          replace P15 := P15.below hb6 P15.lt
          replace E := E.trans (hb6.mono E.size)
          replace Hx1 := Hx1.below hb6 (by omega)
          replace Hx2 := Hx2.below hb6 (by omega)
          replace Hr21 := Hr21.below hb6 (by omega)
          replace Hr22 := Hr22.below hb6 (by omega)
          replace R2 := R2.below hb6 R2.lt
          replace F2 := F2.below hb6 F2.lt
          replace Hp1 := Hp1.below hb6 (by omega)
          replace Hp2 := Hp2.below hb6 (by omega)
          clear hb6
          have t_P150 : (w6.alloc (.cells #[.bool false, .slice none 0 0] 40)).cell? ⟨w10.heap.size, 0, none⟩ = some ((.bool p.m)) := (P15.alloc _).c0
          have t_P151 : (w6.alloc (.cells #[.bool false, .slice none 0 0] 40)).cell? ⟨w10.heap.size, 1, none⟩ = some ((.slice p.A p.n p.c)) := (P15.alloc _).c1
          have t_P152 : (w6.alloc (.cells #[.bool false, .slice none 0 0] 40)).cell? ⟨w10.heap.size, 2, none⟩ = some ((.slice p.D p.k p.d)) := (P15.alloc _).c2
          go_wp2_with fail
          clear t_P150 t_P151 t_P152
          obtain ⟨V12, hV12⟩ : ∃ V12 : World, V12 = (w6.alloc (.cells #[.bool false, .slice none 0 0] 40)) := ⟨_, rfl⟩
          have bV12 : Below w6.heap.size w6 V12 := by rw [hV12]; (repeat (first | with_reducible exact Below.refl _ _ | with_reducible refine Below.drew ?_ | with_reducible refine below_drewN ?_ _ | with_reducible refine Below.setCell ?_ (by first | (simp; done) | (simp; omega) | omega) _ | with_reducible refine Below.alloc ?_ (by first | (simp; done) | (simp; omega) | omega) _))
          have zV12 : w6.heap.size + 1 ≤ V12.heap.size := by rw [hV12]; simp
          have P16 : Bk2 V12 (w6.heap.size) (.bool false) (.slice none 0 0) := by rw [hV12]; exact (Bk2.newAt _ _ (by first | omega | (simp; done) | (simp; omega)) _ _ _)
          rw [← hV12]
          clear hV12
          replace P15 := P15.below bV12 P15.lt
          replace E := E.trans (bV12.mono E.size)
          replace Hx1 := Hx1.below bV12 (by omega)
          replace Hx2 := Hx2.below bV12 (by omega)
          replace Hr21 := Hr21.below bV12 (by omega)
          replace Hr22 := Hr22.below bV12 (by omega)
          replace R2 := R2.below bV12 R2.lt
          replace F2 := F2.below bV12 F2.lt
          replace Hp1 := Hp1.below bV12 (by omega)
          replace Hp2 := Hp2.below bV12 (by omega)
          clear bV12
          (with_reducible refine (raised_fit _ Vc5.heap.size false p.D p.k p.d y2 n p.ys Y Hp2 (by omega) I3 nk5 ze (by rw [sval_f]; exact hy.out) T2.out).mono ?_)
          rintro e w7 ⟨m7, A7, k7, c7, x7, v7, rfl, hd7, hr7, hs7, hb7⟩
          have sw7 := hb7.size
          replace P15 := P15.below hb7 P15.lt
          replace E := E.trans (hb7.mono E.size)
          replace Hx1 := Hx1.below hb7 (by omega)
          replace Hx2 := Hx2.below hb7 (by omega)
          replace Hr21 := Hr21.below hb7 (by omega)
          replace Hr22 := Hr22.below hb7 (by omega)
          replace R2 := R2.below hb7 R2.lt
          replace F2 := F2.below hb7 F2.lt
          replace Hp1 := Hp1.below hb7 (by omega)
          replace Hp2 := Hp2.below hb7 (by omega)
          replace P16 := P16.below hb7 P16.lt
          clear hb7
          have R7 := Lib.hid hr7
          have S7 := Lib.hid hs7
          clear hr7 hs7
          obtain ⟨ht, ht2, _⟩ | ⟨_, rfl, rfl, hzr⟩ := ZP.out
          · exfalso; have := T1.out; have := T2.out; omega
          obtain ⟨n1, n2, n3, n4⟩ := hzr.form (rv_at Hr21 Hr22)
          rw [n1, n2, n3, n4] at R2
          clear n1 n2 n3 n4 hzr
          go_upto_region 28 with fail
          obtain ⟨V13, hV13⟩ : ∃ V13 : World, V13 = (w7.alloc (.cells #[.bool m7, .slice A7 k7 c7] 40)) := ⟨_, rfl⟩
          have bV13 : Below w7.heap.size w7 V13 := by rw [hV13]; (repeat (first | with_reducible exact Below.refl _ _ | with_reducible refine Below.drew ?_ | with_reducible refine below_drewN ?_ _ | with_reducible refine Below.setCell ?_ (by first | (simp; done) | (simp; omega) | omega) _ | with_reducible refine Below.alloc ?_ (by first | (simp; done) | (simp; omega) | omega) _))
          have zV13 : w7.heap.size + 1 ≤ V13.heap.size := by rw [hV13]; simp
          have P18 : Bk2 V13 (w7.heap.size) (.bool m7) (.slice A7 k7 c7) := by rw [hV13]; exact (Bk2.newAt _ _ (by first | omega | (simp; done) | (simp; omega)) _ _ _)
          rw [← hV13]
          clear hV13
          replace P15 := P15.below bV13 P15.lt
          replace E := E.trans (bV13.mono E.size)
          replace Hx1 := Hx1.below bV13 (by omega)
          replace Hx2 := Hx2.below bV13 (by omega)
          replace Hr21 := Hr21.below bV13 (by omega)
          replace Hr22 := Hr22.below bV13 (by omega)
          replace R2 := R2.below bV13 R2.lt
          replace F2 := F2.below bV13 F2.lt
          replace Hp1 := Hp1.below bV13 (by omega)
          replace Hp2 := Hp2.below bV13 (by omega)
          replace P16 := P16.below bV13 P16.lt
          replace hd7 := hd7.below bV13 (by omega)
          clear bV13
          have lt_R2 := R2.lt
          have lt_F2 := F2.lt
          have HS := Lib.hid (fun (u : World) (hu : Below (V13.heap.size) V13 u) => (⟨(hu.cell (p := ⟨w3.heap.size, 0, none⟩) (by show w3.heap.size < _; omega)).trans R2.c0, (hu.cell (p := ⟨w3.heap.size, 1, none⟩) (by show w3.heap.size < _; omega)).trans R2.c1, (hu.cell (p := ⟨w3.heap.size, 2, none⟩) (by show w3.heap.size < _; omega)).trans R2.c2, (hu.cell (p := ⟨w3.heap.size, 3, none⟩) (by show w3.heap.size < _; omega)).trans R2.c3, (hu.cell (p := ⟨w3.heap.size + 1, 0, none⟩) (by show w3.heap.size + 1 < _; omega)).trans F2.c0, (hu.cell (p := ⟨w3.heap.size + 1, 1, none⟩) (by show w3.heap.size + 1 < _; omega)).trans F2.c1⟩ : u.cell? ⟨w3.heap.size, 0, none⟩ = some (.bool false) ∧ u.cell? ⟨w3.heap.size, 1, none⟩ = some (.slice r2.num.A 0 r2.num.c) ∧ u.cell? ⟨w3.heap.size, 2, none⟩ = some (.bool false) ∧ u.cell? ⟨w3.heap.size, 3, none⟩ = some (.slice r2.den.A 0 r2.den.c) ∧ u.cell? ⟨w3.heap.size + 1, 0, none⟩ = some (.int .i64 14) ∧ u.cell? ⟨w3.heap.size + 1, 1, none⟩ = some (.int .i64 (-1))))
          have G0 : Below V13.heap.size V13 V13.drew := Below.drew (Below.refl _ _)
          have g0s := G0.size
          have G0m : Below (V13.heap.size) V13 V13.drew := G0.mono (by omega)
          go_region_held3 (fun u => u.cell? ⟨w3.heap.size, 0, none⟩ = some (.bool false) ∧ u.cell? ⟨w3.heap.size, 1, none⟩ = some (.slice r2.num.A 0 r2.num.c) ∧ u.cell? ⟨w3.heap.size, 2, none⟩ = some (.bool false) ∧ u.cell? ⟨w3.heap.size, 3, none⟩ = some (.slice r2.den.A 0 r2.den.c) ∧ u.cell? ⟨w3.heap.size + 1, 0, none⟩ = some (.int .i64 14) ∧ u.cell? ⟨w3.heap.size + 1, 1, none⟩ = some (.int .i64 (-1))) (first | (refine HS.out _ ?_; (repeat (first | with_reducible exact G0m | with_reducible exact BN.mono (by omega) | with_reducible exact B1.mono (by omega) | with_reducible exact Below.refl _ _ | with_reducible refine Below.drew ?_ | with_reducible refine below_drewN ?_ _ | with_reducible refine Below.setCell ?_ (by first | (simp; done) | (simp; omega) | omega) _)); done) | fail)
            (first
              | (go_at_call 24; (with_reducible refine (at_any _ _ _).mono ?_); rintro e u1 ⟨rfl, hb1⟩; have B1 : Below V13.heap.size V13 u1 := bnext G0 hb1; have b1s := B1.size)
              | (go_at_call 17; (with_reducible refine (gives_f14 _ r2.num.A r2.den.A r2.num.c r2.den.c (QV.mk false none 0 0 [] none 0 0 []) (-1)).mono ?_); rintro e u2 ⟨rfl, hb2⟩; have BN : Below V13.heap.size V13 u2 := bnext B1 hb2)
              | fail)
          all_goals (go_wp2_with fail)
          all_goals go_ret
          all_goals exact ⟨rfl, E.trans (BN.mono E.size)⟩
      · as_aux_lemma =>
          have T1 := Lib.hid h1
          clear h1
          have T2 := Lib.hid h2
          clear h2
          have t_P150 := P15.c0
          have t_P151 := P15.c1
          have t_P152 := P15.c2
          go_wp2_with fail
          clear t_P150 t_P151 t_P152
          (with_reducible refine (raised_big _ Vc5.heap.size p.m p.A p.n p.c v1 n p.xs X Hp1 (by omega) I1 np5 ze I2.out (by have := T1.out; omega)).mono ?_)
          rintro e w6 ⟨rfl, hb6⟩
          have sw6 := hb6.size
          replace P15 := P15.below hb6 P15.lt
          replace E := E.trans (hb6.mono E.size)
          replace Hx1 := Hx1.below hb6 (by omega)
          replace Hx2 := Hx2.below hb6 (by omega)
          replace Hr21 := Hr21.below hb6 (by omega)
          replace Hr22 := Hr22.below hb6 (by omega)
          replace R2 := R2.below hb6 R2.lt
          replace F2 := F2.below hb6 F2.lt
          replace Hp1 := Hp1.below hb6 (by omega)
          replace Hp2 := Hp2.below hb6 (by omega)
          clear hb6
          have t_P150 : (w6.alloc (.cells #[.bool false, .slice none 0 0] 40)).cell? ⟨w10.heap.size, 0, none⟩ = some ((.bool p.m)) := (P15.alloc _).c0
          have t_P151 : (w6.alloc (.cells #[.bool false, .slice none 0 0] 40)).cell? ⟨w10.heap.size, 1, none⟩ = some ((.slice p.A p.n p.c)) := (P15.alloc _).c1
          have t_P152 : (w6.alloc (.cells #[.bool false, .slice none 0 0] 40)).cell? ⟨w10.heap.size, 2, none⟩ = some ((.slice p.D p.k p.d)) := (P15.alloc _).c2
          go_wp2_with fail
          clear t_P150 t_P151 t_P152
          obtain ⟨V12, hV12⟩ : ∃ V12 : World, V12 = (w6.alloc (.cells #[.bool false, .slice none 0 0] 40)) := ⟨_, rfl⟩
          have bV12 : Below w6.heap.size w6 V12 := by rw [hV12]; (repeat (first | with_reducible exact Below.refl _ _ | with_reducible refine Below.drew ?_ | with_reducible refine below_drewN ?_ _ | with_reducible refine Below.setCell ?_ (by first | (simp; done) | (simp; omega) | omega) _ | with_reducible refine Below.alloc ?_ (by first | (simp; done) | (simp; omega) | omega) _))
          have zV12 : w6.heap.size + 1 ≤ V12.heap.size := by rw [hV12]; simp
          have P16 : Bk2 V12 (w6.heap.size) (.bool false) (.slice none 0 0) := by rw [hV12]; exact (Bk2.newAt _ _ (by first | omega | (simp; done) | (simp; omega)) _ _ _)
          rw [← hV12]
          clear hV12
          replace P15 := P15.below bV12 P15.lt
          replace E := E.trans (bV12.mono E.size)
          replace Hx1 := Hx1.below bV12 (by omega)
          replace Hx2 := Hx2.below bV12 (by omega)
          replace Hr21 := Hr21.below bV12 (by omega)
          replace Hr22 := Hr22.below bV12 (by omega)
          replace R2 := R2.below bV12 R2.lt
          replace F2 := F2.below bV12 F2.lt
          replace Hp1 := Hp1.below bV12 (by omega)
          replace Hp2 := Hp2.below bV12 (by omega)
          clear bV12
          (with_reducible refine (raised_big _ Vc5.heap.size false p.D p.k p.d y2 n p.ys Y Hp2 (by omega) I3 nk5 ze (by rw [sval_f]; exact hy.out) (by have := T2.out; omega)).mono ?_)
          rintro e w7 ⟨rfl, hb7⟩
          have sw7 := hb7.size
          replace P15 := P15.below hb7 P15.lt
          replace E := E.trans (hb7.mono E.size)
          replace Hx1 := Hx1.below hb7 (by omega)
          replace Hx2 := Hx2.below hb7 (by omega)
          replace Hr21 := Hr21.below hb7 (by omega)
          replace Hr22 := Hr22.below hb7 (by omega)
          replace R2 := R2.below hb7 R2.lt
          replace F2 := F2.below hb7 F2.lt
          replace Hp1 := Hp1.below hb7 (by omega)
          replace Hp2 := Hp2.below hb7 (by omega)
          replace P16 := P16.below hb7 P16.lt
          clear hb7
          obtain ⟨ht, ht2, _⟩ | ⟨_, rfl, rfl, hzr⟩ := ZP.out
          · exfalso; have := T1.out; have := T2.out; omega
          obtain ⟨n1, n2, n3, n4⟩ := hzr.form (rv_at Hr21 Hr22)
          rw [n1, n2, n3, n4] at R2
          clear n1 n2 n3 n4 hzr
          go_upto_region 28 with fail
          obtain ⟨V13, hV13⟩ : ∃ V13 : World, V13 = (w7.alloc (.cells #[.bool false, .slice none 0 0] 40)) := ⟨_, rfl⟩
          have bV13 : Below w7.heap.size w7 V13 := by rw [hV13]; (repeat (first | with_reducible exact Below.refl _ _ | with_reducible refine Below.drew ?_ | with_reducible refine below_drewN ?_ _ | with_reducible refine Below.setCell ?_ (by first | (simp; done) | (simp; omega) | omega) _ | with_reducible refine Below.alloc ?_ (by first | (simp; done) | (simp; omega) | omega) _))
          have zV13 : w7.heap.size + 1 ≤ V13.heap.size := by rw [hV13]; simp
          have P18 : Bk2 V13 (w7.heap.size) (.bool false) (.slice none 0 0) := by rw [hV13]; exact (Bk2.newAt _ _ (by first | omega | (simp; done) | (simp; omega)) _ _ _)
          rw [← hV13]
          clear hV13
          replace P15 := P15.below bV13 P15.lt
          replace E := E.trans (bV13.mono E.size)
          replace Hx1 := Hx1.below bV13 (by omega)
          replace Hx2 := Hx2.below bV13 (by omega)
          replace Hr21 := Hr21.below bV13 (by omega)
          replace Hr22 := Hr22.below bV13 (by omega)
          replace R2 := R2.below bV13 R2.lt
          replace F2 := F2.below bV13 F2.lt
          replace Hp1 := Hp1.below bV13 (by omega)
          replace Hp2 := Hp2.below bV13 (by omega)
          replace P16 := P16.below bV13 P16.lt
          clear bV13
          have lt_R2 := R2.lt
          have lt_F2 := F2.lt
          have HS := Lib.hid (fun (u : World) (hu : Below (V13.heap.size) V13 u) => (⟨(hu.cell (p := ⟨w3.heap.size, 0, none⟩) (by show w3.heap.size < _; omega)).trans R2.c0, (hu.cell (p := ⟨w3.heap.size, 1, none⟩) (by show w3.heap.size < _; omega)).trans R2.c1, (hu.cell (p := ⟨w3.heap.size, 2, none⟩) (by show w3.heap.size < _; omega)).trans R2.c2, (hu.cell (p := ⟨w3.heap.size, 3, none⟩) (by show w3.heap.size < _; omega)).trans R2.c3, (hu.cell (p := ⟨w3.heap.size + 1, 0, none⟩) (by show w3.heap.size + 1 < _; omega)).trans F2.c0, (hu.cell (p := ⟨w3.heap.size + 1, 1, none⟩) (by show w3.heap.size + 1 < _; omega)).trans F2.c1⟩ : u.cell? ⟨w3.heap.size, 0, none⟩ = some (.bool false) ∧ u.cell? ⟨w3.heap.size, 1, none⟩ = some (.slice r2.num.A 0 r2.num.c) ∧ u.cell? ⟨w3.heap.size, 2, none⟩ = some (.bool false) ∧ u.cell? ⟨w3.heap.size, 3, none⟩ = some (.slice r2.den.A 0 r2.den.c) ∧ u.cell? ⟨w3.heap.size + 1, 0, none⟩ = some (.int .i64 14) ∧ u.cell? ⟨w3.heap.size + 1, 1, none⟩ = some (.int .i64 (-1))))
          have G0 : Below V13.heap.size V13 V13.drew := Below.drew (Below.refl _ _)
          have g0s := G0.size
          have G0m : Below (V13.heap.size) V13 V13.drew := G0.mono (by omega)
          go_region_held3 (fun u => u.cell? ⟨w3.heap.size, 0, none⟩ = some (.bool false) ∧ u.cell? ⟨w3.heap.size, 1, none⟩ = some (.slice r2.num.A 0 r2.num.c) ∧ u.cell? ⟨w3.heap.size, 2, none⟩ = some (.bool false) ∧ u.cell? ⟨w3.heap.size, 3, none⟩ = some (.slice r2.den.A 0 r2.den.c) ∧ u.cell? ⟨w3.heap.size + 1, 0, none⟩ = some (.int .i64 14) ∧ u.cell? ⟨w3.heap.size + 1, 1, none⟩ = some (.int .i64 (-1))) (first | (refine HS.out _ ?_; (repeat (first | with_reducible exact G0m | with_reducible exact BN.mono (by omega) | with_reducible exact B1.mono (by omega) | with_reducible exact Below.refl _ _ | with_reducible refine Below.drew ?_ | with_reducible refine below_drewN ?_ _ | with_reducible refine Below.setCell ?_ (by first | (simp; done) | (simp; omega) | omega) _)); done) | fail)
            (first
              | (go_at_call 24; (with_reducible refine (at_any _ _ _).mono ?_); rintro e u1 ⟨rfl, hb1⟩; have B1 : Below V13.heap.size V13 u1 := bnext G0 hb1; have b1s := B1.size)
              | (go_at_call 17; (with_reducible refine (gives_f14 _ r2.num.A r2.den.A r2.num.c r2.den.c (QV.mk false none 0 0 [] none 0 0 []) (-1)).mono ?_); rintro e u2 ⟨rfl, hb2⟩; have BN : Below V13.heap.size V13 u2 := bnext B1 hb2)
              | fail)
          all_goals (go_wp2_with fail)
          all_goals go_ret
          all_goals exact ⟨rfl, E.trans (BN.mono E.size)⟩
end Go.Proofs.YtflmcgoijofpdaaGreat
