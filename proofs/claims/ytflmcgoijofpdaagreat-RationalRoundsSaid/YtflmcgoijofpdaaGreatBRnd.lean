/- The program's Round of ratios. -/
import Derived.Test.YtflmcgoijofpdaaGreatBFlr
import Derived.Test.YtflmcgoijofpdaaGreatBi
import Derived.Test.YtflmcgoijofpdaaGreatBg
import Derived.Test.YtflmcgoijofpdaaGreatBc
import Derived.Test.YtflmcgoijofpdaaGreatBl
namespace Go.Proofs.YtflmcgoijofpdaaGreat
open Go.RowKit
set_option maxHeartbeats 400000
set_option maxRecDepth 100000
set_option linter.unusedSimpArgs false
set_option linter.unusedVariables false

theorem shift_one (w : World) (B : Nat) (A : Option Addr) (n c : Nat) (xs : List Nat) (h : LRd w B A n c xs) (hB : B ≤ w.heap.size) (hx : vld xs = true) (hn : n ≤ 128) :
    Calls Tryz.prog 77 #[.slice A n c, .int .i64 1] w (GivesF w (vb 4294967296 xs * 2) 0 0) := by
  have hl := h.len.out
  have hlim := h.lim
  refine (shift_ok w B A n c 1 xs h hB hx (by omega)).mono fun e w' ⟨v, u1, u2, hv, g⟩ => ?_
  have hb := nbits_le hlim
  rcases hv with ⟨h1, rfl, rfl, rfl⟩ | ⟨_, h1, _⟩ | ⟨_, _, h1, _⟩ | ⟨_, _, _, rfl, rfl, rfl⟩
  · have h0 : nbits xs = 0 := by omega
    have e0 : xs.length = 0 := by
      rcases Nat.eq_zero_or_pos xs.length with e | e
      · exact e
      · exfalso
        obtain ⟨m, hm⟩ : ∃ m, xs.length = m + 1 := ⟨xs.length - 1, by omega⟩
        have h2 := nbits_top hm
        have h3 := vld_mid hm (by omega)
        rw [hx] at h3
        have h4 : nth xs m ≠ 0 := by simpa using h3.symm
        have h5 := nth_nn xs m
        have h6 := hlim.nth m
        have h7 := bitLen_pos (x := (nth xs m).toNat) (by omega) (by omega)
        omega
    rw [List.length_eq_zero_iff.1 e0] at *
    exact g
  · omega
  · omega
  · exact g
theorem vb_par (xs : List Nat) : vb 4294967296 xs % 2 = (xs.getD 0 0) % 2 := by
  cases xs with
  | nil => rfl
  | cons x l => rw [vb_cons]; show _ = x % 2; omega
def oddB (z : Int) : Bool := decide (z % 2 = 1)
set_option maxHeartbeats 4000000 in
theorem isOdd_any (w : World) (B : Nat) (a : IV) (z : Int) (HA0 : a.at w B) (hB : B ≤ w.heap.size) (I : Hid (IRep a.neg a.xs z)) :
    Calls Tryz.prog 79 #[a.v] w (fun e w' => e = .returned (.bool (oddB z)) ∧ Below w.heap.size w w') := by
  have HA : LRd w B a.A a.n a.c a.xs := HA0
  have hl := HA.len.out
  by_cases h0 : a.n = 0
  · have HR := Lib.hid (show oddB z = false by have h1 := (IRep.len0 I.out).1 (by omega); rw [h1]; rfl)
    have h1 : a.n = 0 := h0
    have H0 := Lib.hid h1
    clear h0 h1 hl
    have E : Below w.heap.size w w := Below.refl _ _
    go_enter Tryz.func79, Tryz.ntmps79
    go_upto_region 1 with fail
    obtain ⟨V0, hV0⟩ : ∃ V0 : World, V0 = (w.alloc (.cells #[.bool a.neg, .slice a.A a.n a.c] 24)) := ⟨_, rfl⟩
    have bV0 : Below w.heap.size w V0 := by rw [hV0]; (repeat (first | with_reducible exact Below.refl _ _ | with_reducible refine Below.drew ?_ | with_reducible refine below_drewN ?_ _ | with_reducible refine Below.setCell ?_ (by first | (simp; done) | (simp; omega) | omega) _ | with_reducible refine Below.alloc ?_ (by first | (simp; done) | (simp; omega) | omega) _))
    have zV0 : w.heap.size + 1 ≤ V0.heap.size := by rw [hV0]; simp
    have PA : Bk2 V0 (w.heap.size) (.bool a.neg) (.slice a.A a.n a.c) := by rw [hV0]; exact (Bk2.newAt _ _ (by first | omega | (simp; done) | (simp; omega)) _ _ _)
    rw [← hV0]
    clear hV0
    replace E := E.trans (bV0.mono E.size)
    replace HA := HA.below bV0 (by omega)
    clear bV0
    have t_PA0 := PA.c0
    have t_PA1 := PA.c1
    go_wp2_with fail
    clear t_PA0 t_PA1
    (with_reducible refine (isZero_any _ a.neg a.A a.n a.c (by have := HA.cap; omega)).mono ?_)
    rintro e w1 ⟨rfl, hb1⟩
    have sw1 := hb1.size
    replace E := E.trans (hb1.mono E.size)
    replace HA := HA.below hb1 (by omega)
    replace PA := PA.below hb1 PA.lt
    clear hb1
    rw [show decide (a.n = 0) = true from decide_eq_true H0.out]
    have t_PA0 := PA.c0
    have t_PA1 := PA.c1
    go_wp2_with fail
    clear t_PA0 t_PA1
    go_ret
    exact ⟨by rw [HR.out]; rfl, E⟩
  · have HR := Lib.hid (show oddB z = decide (nth a.xs 0 % 2 = 1) by
      have h1 := I.out.rep.val
      have h2 := vb_par a.xs
      unfold oddB nth
      rw [Bool.eq_iff_iff, decide_eq_true_eq, decide_eq_true_eq]
      omega)
    have h1 : a.n ≠ 0 := h0
    have H0 := Lib.hid h1
    clear h0 h1 hl
    have E : Below w.heap.size w w := Below.refl _ _
    go_enter Tryz.func79, Tryz.ntmps79
    go_upto_region 1 with fail
    obtain ⟨V0, hV0⟩ : ∃ V0 : World, V0 = (w.alloc (.cells #[.bool a.neg, .slice a.A a.n a.c] 24)) := ⟨_, rfl⟩
    have bV0 : Below w.heap.size w V0 := by rw [hV0]; (repeat (first | with_reducible exact Below.refl _ _ | with_reducible refine Below.drew ?_ | with_reducible refine below_drewN ?_ _ | with_reducible refine Below.setCell ?_ (by first | (simp; done) | (simp; omega) | omega) _ | with_reducible refine Below.alloc ?_ (by first | (simp; done) | (simp; omega) | omega) _))
    have zV0 : w.heap.size + 1 ≤ V0.heap.size := by rw [hV0]; simp
    have PA : Bk2 V0 (w.heap.size) (.bool a.neg) (.slice a.A a.n a.c) := by rw [hV0]; exact (Bk2.newAt _ _ (by first | omega | (simp; done) | (simp; omega)) _ _ _)
    rw [← hV0]
    clear hV0
    replace E := E.trans (bV0.mono E.size)
    replace HA := HA.below bV0 (by omega)
    clear bV0
    have t_PA0 := PA.c0
    have t_PA1 := PA.c1
    go_wp2_with fail
    clear t_PA0 t_PA1
    (with_reducible refine (isZero_any _ a.neg a.A a.n a.c (by have := HA.cap; omega)).mono ?_)
    rintro e w1 ⟨rfl, hb1⟩
    have sw1 := hb1.size
    replace E := E.trans (hb1.mono E.size)
    replace HA := HA.below hb1 (by omega)
    replace PA := PA.below hb1 PA.lt
    clear hb1
    rw [show decide (a.n = 0) = false from decide_eq_false H0.out]
    obtain ⟨b, off, hA, hb, hc⟩ := HA.rd (by have := H0.out; omega)
    have hp : 0 < a.n := (by have := H0.out; omega)
    have g1 : w1.cell? ⟨b, off, none⟩ = some (.int .u32 (nth a.xs 0)) := hc 0 hp
    clear hc
    rw [hA] at PA
    have a1 := nth_nn a.xs 0
    have a2 := HA.lim.nth 0
    have t_PA0 := PA.c0
    have t_PA1 := PA.c1
    go_wp2_with fail
    clear t_PA0 t_PA1
    go_ret
    refine ⟨?_, E⟩
    rw [HR.out]
    first | rfl | skip
set_option maxHeartbeats 4000000 in
theorem rround_bad (w : World) (B : Nat) (a : RV) (H1 : a.at w B) (hB : B ≤ w.heap.size) (f2 : Int) (hf : rfault [a] 0 = (6, f2)) :
    Calls Tryz.prog 34 #[a.v] w (GivesVF w 0 6 f2) := by
  have HA : LRd w B a.num.A a.num.n a.num.c a.num.xs := H1.1
  have HC : LRd w B a.den.A a.den.n a.den.c a.den.xs := H1.2
  have E : Below w.heap.size w w := Below.refl _ _
  go_enter Tryz.func34, Tryz.ntmps34
  go_upto_region 1 with fail
  obtain ⟨V0, hV0⟩ : ∃ V0 : World, V0 = (((w.alloc (.cells #[.bool a.num.neg, .slice a.num.A a.num.n a.num.c, .bool a.den.neg, .slice a.den.A a.den.n a.den.c] 26)).alloc (.cells #[.bool false, .slice none 0 0] 24)).alloc (.cells #[.int .i64 0, .int .i64 0] 28)) := ⟨_, rfl⟩
  have bV0 : Below w.heap.size w V0 := by rw [hV0]; (repeat (first | with_reducible exact Below.refl _ _ | with_reducible refine Below.drew ?_ | with_reducible refine below_drewN ?_ _ | with_reducible refine Below.setCell ?_ (by first | (simp; done) | (simp; omega) | omega) _ | with_reducible refine Below.alloc ?_ (by first | (simp; done) | (simp; omega) | omega) _))
  have zV0 : w.heap.size + 3 ≤ V0.heap.size := by rw [hV0]; simp
  have PA : Bk4 V0 (w.heap.size) (.bool a.num.neg) (.slice a.num.A a.num.n a.num.c) (.bool a.den.neg) (.slice a.den.A a.den.n a.den.c) := by rw [hV0]; exact (((Bk4.newAt _ _ (by first | omega | (simp; done) | (simp; omega)) _ _ _ _ _).alloc _).alloc _)
  have PI : Bk2 V0 (w.heap.size + 1) (.bool false) (.slice none 0 0) := by rw [hV0]; exact ((Bk2.newAt _ _ (by first | omega | (simp; done) | (simp; omega)) _ _ _).alloc _)
  have PF : Bk2 V0 (w.heap.size + 2) (.int .i64 0) (.int .i64 0) := by rw [hV0]; exact (Bk2.newAt _ _ (by first | omega | (simp; done) | (simp; omega)) _ _ _)
  rw [← hV0]
  clear hV0
  replace E := E.trans (bV0.mono E.size)
  replace HA := HA.below bV0 (by omega)
  replace HC := HC.below bV0 (by omega)
  clear bV0
  have t_PA0 := PA.c0
  have t_PA1 := PA.c1
  have t_PA2 := PA.c2
  have t_PA3 := PA.c3
  go_wp2_with fail
  clear t_PA0 t_PA1 t_PA2 t_PA3
  (with_reducible refine (rfloor_bad _ B a (rv_at HA HC) (by omega) f2 hf).mono ?_)
  rintro e w1 ⟨t, x, rfl, ht, hx, i1, i2, i3, hb1⟩
  have sw1 := hb1.size
  replace E := E.trans (hb1.mono E.size)
  replace HA := HA.below hb1 (by omega)
  replace HC := HC.below hb1 (by omega)
  replace PA := PA.below hb1 PA.lt
  replace PI := PI.below hb1 PI.lt
  replace PF := PF.below hb1 PF.lt
  clear hb1
  clear ht hx i1 i2 i3
  go_upto_region 3 with fail
  obtain ⟨V2, hV2⟩ : ∃ V2 : World, V2 = (((w1.alloc (.cells #[.bool t.neg, .slice t.A t.n t.c] 24)).alloc (.cells #[.bool x.num.neg, .slice x.num.A x.num.n x.num.c, .bool x.den.neg, .slice x.den.A x.den.n x.den.c] 26)).alloc (.cells #[.int .i64 6, .int .i64 f2] 28)) := ⟨_, rfl⟩
  have bV2 : Below w1.heap.size w1 V2 := by rw [hV2]; (repeat (first | with_reducible exact Below.refl _ _ | with_reducible refine Below.drew ?_ | with_reducible refine below_drewN ?_ _ | with_reducible refine Below.setCell ?_ (by first | (simp; done) | (simp; omega) | omega) _ | with_reducible refine Below.alloc ?_ (by first | (simp; done) | (simp; omega) | omega) _))
  have zV2 : w1.heap.size + 3 ≤ V2.heap.size := by rw [hV2]; simp
  have P4 : Bk2 V2 (w1.heap.size) (.bool t.neg) (.slice t.A t.n t.c) := by rw [hV2]; exact (((Bk2.newAt _ _ (by first | omega | (simp; done) | (simp; omega)) _ _ _).alloc _).alloc _)
  have P5 : Bk4 V2 (w1.heap.size + 1) (.bool x.num.neg) (.slice x.num.A x.num.n x.num.c) (.bool x.den.neg) (.slice x.den.A x.den.n x.den.c) := by rw [hV2]; exact ((Bk4.newAt _ _ (by first | omega | (simp; done) | (simp; omega)) _ _ _ _ _).alloc _)
  have F6 : Bk2 V2 (w1.heap.size + 2) (.int .i64 6) (.int .i64 f2) := by rw [hV2]; exact (Bk2.newAt _ _ (by first | omega | (simp; done) | (simp; omega)) _ _ _)
  rw [← hV2]
  clear hV2
  replace E := E.trans (bV2.mono E.size)
  replace HA := HA.below bV2 (by omega)
  replace HC := HC.below bV2 (by omega)
  replace PA := PA.below bV2 PA.lt
  replace PI := PI.below bV2 PI.lt
  replace PF := PF.below bV2 PF.lt
  clear bV2
  have lt6 := F6.lt
  have ltI := PI.lt
  have ltF := PF.lt
  obtain ⟨_, _, _, _, _⟩ := F6
  obtain ⟨f0, f1, z0, z1, _⟩ := PF
  obtain ⟨i0, i1, y4, y5, _⟩ := PI
  go_region
  go_wp2_with fail
  refine bodyPost_ret (v := .tuple #[intv false none 0 0, flt 6 f2]) (by simp [results, Tryz.results34, go_sem, i0, i1, f0, f1]) rfl ⟨false, none, 0, 0, [], rfl, nil_lrd _, IRep.zero, ?_⟩
  (repeat (first | with_reducible exact E | with_reducible refine Below.drew ?_ | with_reducible refine below_drewN ?_ _ | with_reducible refine Below.setCell ?_ (by first | (simp; done) | (simp; omega) | omega) _))
/-- The nearest integer: of two the even one. -/
def rnd (q r d : Int) : Int := if d < 2 * r ∨ (2 * r = d ∧ oddB q = true) then q + 1 else q
theorem rnd_up {q r d : Int} (h : d < 2 * r ∨ (2 * r = d ∧ oddB q = true)) : rnd q r d = q + 1 := if_pos h
theorem rnd_lo {q r d : Int} (h : ¬ (d < 2 * r ∨ (2 * r = d ∧ oddB q = true))) : rnd q r d = q := if_neg h
theorem fl_room3 {n d q r : Int} (h : FloorOf n d q r) (hd : 0 < d) (hr : d ≤ 2 * r) (hn : n.natAbs < Top128) : (q + 1).natAbs < Top128 ∧ q.natAbs < Top128 ∧ (1 : Int).natAbs < Top128 := by
  have h4 : 1 < Top128 := lt_top (by decide)
  obtain ⟨h1, h2⟩ := h
  have h3 : 2 ≤ d := by omega
  by_cases hq : 0 ≤ q
  · have h5 : q * 2 ≤ q * d := Int.mul_le_mul_of_nonneg_left h3 hq
    refine ⟨?_, ?_, h4⟩ <;> omega
  · have h6 : (-q - 1) * 2 ≤ (-q - 1) * d := Int.mul_le_mul_of_nonneg_left h3 (by omega)
    have h7 : (-q - 1) * d = -(q * d) - d := by grind
    rw [h7] at h6
    refine ⟨?_, ?_, h4⟩ <;> omega
theorem dbl_big {r : Nat} (h : r < Top128) : r * 2 < Big := by
  have h1 := top_sq_big h (show 2 < Top128 from lt_top (by decide))
  omega
theorem iadd_fit (w : World) (B : Nat) (a b : IV) (x y : Int) (ha : a.at w B) (hb : b.at w B) (hB : B ≤ w.heap.size) (I : Hid (IRep a.neg a.xs x)) (J : Hid (IRep b.neg b.xs y)) (hz : (x + y).natAbs < Top128 ∧ x.natAbs < Top128 ∧ y.natAbs < Top128) :
    Calls Tryz.prog 80 #[a.v, b.v] w (GivesVF w (x + y) 0 0) := by
  have e1 : a.val = x := IRep.ival (A := a.A) (n := a.n) (c := a.c) I.out
  have e2 : b.val = y := IRep.ival (A := b.A) (n := b.n) (c := b.c) J.out
  have h := iadd_ok w B a b ha hb hB (I.out.iok hz.2.1) (J.out.iok hz.2.2)
  rw [e1, e2] at h
  exact h.mono fun _ _ g => by rcases g with ⟨_, g⟩ | ⟨g, _⟩; exact g; have := hz.1; omega
section
variable {u : World} {B n c g1 g2 g3 : Nat} {A : Option Addr} {xs : List Nat} {b b2 : Bool} {D D2 : Option Addr} {m k m2 k2 : Nat} {i j : Int} (h : LRd u B A n c xs) (P : Bk2 u g1 (.bool b) (.slice D m k)) (R : Bk2 u g2 (.bool b2) (.slice D2 m2 k2)) (F : Bk2 u g3 (.int .i64 i) (.int .i64 j)) (h12 : g1 ≠ g2) (h13 : g1 ≠ g3) (h23 : g2 ≠ g3) (x1 x2 y1 y2 z1 z2 : Value)
include h P R F h12 h13 h23
theorem keep3 : LRd ((((((u.setCell ⟨g1, 0, none⟩ x1).setCell ⟨g1, 1, none⟩ x2).setCell ⟨g2, 0, none⟩ y1).setCell ⟨g2, 1, none⟩ y2).setCell ⟨g3, 0, none⟩ z1).setCell ⟨g3, 1, none⟩ z2) B A n c xs := by
  have h1 := h.setB P (by simp) (by simp) x1 x2
  have R1 := R.far2 (g' := g1) (by omega) x1 x2
  have h2 := h1.setB R1 (by simp) (by simp) y1 y2
  have F1 := (F.far2 (g' := g1) (by omega) x1 x2).far2 (g' := g2) (by omega) y1 y2
  exact h2.setB F1 (by simp) (by simp) z1 z2
theorem keep3d : LRd (((((((u.setCell ⟨g1, 0, none⟩ x1).setCell ⟨g1, 1, none⟩ x2).drew).setCell ⟨g2, 0, none⟩ y1).setCell ⟨g2, 1, none⟩ y2).setCell ⟨g3, 0, none⟩ z1).setCell ⟨g3, 1, none⟩ z2) B A n c xs := by
  have h1 := (h.setB P (by simp) (by simp) x1 x2).drew
  have R1 := (R.far2 (g' := g1) (by omega) x1 x2).drew
  have h2 := h1.setB R1 (by simp) (by simp) y1 y2
  have F1 := ((F.far2 (g' := g1) (by omega) x1 x2).drew).far2 (g' := g2) (by omega) y1 y2
  exact h2.setB F1 (by simp) (by simp) z1 z2
end
set_option maxHeartbeats 8000000 in
theorem rround_ok (w : World) (B : Nat) (a : RV) (H1 : a.at w B) (hB : B ≤ w.heap.size) (oa : a.ok = true) :
    Calls Tryz.prog 34 #[a.v] w (fun e w' => ∃ q r, FloorOf a.num.val a.den.val q r ∧ GivesVF w (rnd q r a.den.val) 0 0 e w') := by
  have VA := RV.val oa H1
  have hp := Lib.hid VA.pos
  have hd := Lib.hid VA.bd
  have hn := Lib.hid VA.bn
  clear VA
  have HA : LRd w B a.num.A a.num.n a.num.c a.num.xs := H1.1
  have HC : LRd w B a.den.A a.den.n a.den.c a.den.xs := H1.2
  have E : Below w.heap.size w w := Below.refl _ _
  go_enter Tryz.func34, Tryz.ntmps34
  go_upto_region 1 with fail
  obtain ⟨V0, hV0⟩ : ∃ V0 : World, V0 = (((w.alloc (.cells #[.bool a.num.neg, .slice a.num.A a.num.n a.num.c, .bool a.den.neg, .slice a.den.A a.den.n a.den.c] 26)).alloc (.cells #[.bool false, .slice none 0 0] 24)).alloc (.cells #[.int .i64 0, .int .i64 0] 28)) := ⟨_, rfl⟩
  have bV0 : Below w.heap.size w V0 := by rw [hV0]; (repeat (first | with_reducible exact Below.refl _ _ | with_reducible refine Below.drew ?_ | with_reducible refine below_drewN ?_ _ | with_reducible refine Below.setCell ?_ (by first | (simp; done) | (simp; omega) | omega) _ | with_reducible refine Below.alloc ?_ (by first | (simp; done) | (simp; omega) | omega) _))
  have zV0 : w.heap.size + 3 ≤ V0.heap.size := by rw [hV0]; simp
  have PA : Bk4 V0 (w.heap.size) (.bool a.num.neg) (.slice a.num.A a.num.n a.num.c) (.bool a.den.neg) (.slice a.den.A a.den.n a.den.c) := by rw [hV0]; exact (((Bk4.newAt _ _ (by first | omega | (simp; done) | (simp; omega)) _ _ _ _ _).alloc _).alloc _)
  have PI : Bk2 V0 (w.heap.size + 1) (.bool false) (.slice none 0 0) := by rw [hV0]; exact ((Bk2.newAt _ _ (by first | omega | (simp; done) | (simp; omega)) _ _ _).alloc _)
  have PF : Bk2 V0 (w.heap.size + 2) (.int .i64 0) (.int .i64 0) := by rw [hV0]; exact (Bk2.newAt _ _ (by first | omega | (simp; done) | (simp; omega)) _ _ _)
  rw [← hV0]
  clear hV0
  replace E := E.trans (bV0.mono E.size)
  replace HA := HA.below bV0 (by omega)
  replace HC := HC.below bV0 (by omega)
  clear bV0
  have t_PA0 := PA.c0
  have t_PA1 := PA.c1
  have t_PA2 := PA.c2
  have t_PA3 := PA.c3
  go_wp2_with fail
  clear t_PA0 t_PA1 t_PA2 t_PA3
  (with_reducible refine (rfloor_ok _ B a (rv_at HA HC) (by omega) oa).mono ?_)
  rintro e w1 ⟨q, r, hfl, t, x, rfl, ht, hx, i1, i2, i3, hb1⟩
  have sw1 := hb1.size
  replace E := E.trans (hb1.mono E.size)
  replace HA := HA.below hb1 (by omega)
  replace HC := HC.below hb1 (by omega)
  replace PA := PA.below hb1 PA.lt
  replace PI := PI.below hb1 PI.lt
  replace PF := PF.below hb1 PF.lt
  clear hb1
  have FL := Lib.hid hfl
  have I1 := Lib.hid i1
  have I2 := Lib.hid i2
  have I3 := Lib.hid i3
  have Ht : LRd w1 w1.heap.size t.A t.n t.c t.xs := ht
  have Hs1 : LRd w1 w1.heap.size x.num.A x.num.n x.num.c x.num.xs := hx.1
  have Hs2 : LRd w1 w1.heap.size x.den.A x.den.n x.den.c x.den.xs := hx.2
  have hr0 : 0 ≤ r ∧ r < a.den.val := by rcases hfl.2 with g | g; exact g; have := hp.out; omega
  have HR0 := Lib.hid hr0
  have rT := Lib.hid (show r.natAbs < Top128 by have := hd.out; omega)
  have vx := Lib.hid (rep_v128 i2.rep rT.out)
  have vd := Lib.hid (rep_v128 i3.rep hd.out)
  have nx : x.num.n ≤ 128 := by have h8 := irep_len i2 rT.out; have h9 := Hs1.len.out; omega
  clear hfl i1 i2 i3 ht hx hr0
  go_wp2_with fail
  obtain ⟨V2, hV2⟩ : ∃ V2 : World, V2 = (((w1.alloc (.cells #[.bool t.neg, .slice t.A t.n t.c] 24)).alloc (.cells #[.bool x.num.neg, .slice x.num.A x.num.n x.num.c, .bool x.den.neg, .slice x.den.A x.den.n x.den.c] 26)).alloc (.cells #[.int .i64 0, .int .i64 0] 28)) := ⟨_, rfl⟩
  have bV2 : Below w1.heap.size w1 V2 := by rw [hV2]; (repeat (first | with_reducible exact Below.refl _ _ | with_reducible refine Below.drew ?_ | with_reducible refine below_drewN ?_ _ | with_reducible refine Below.setCell ?_ (by first | (simp; done) | (simp; omega) | omega) _ | with_reducible refine Below.alloc ?_ (by first | (simp; done) | (simp; omega) | omega) _))
  have zV2 : w1.heap.size + 3 ≤ V2.heap.size := by rw [hV2]; simp
  have P4 : Bk2 V2 (w1.heap.size) (.bool t.neg) (.slice t.A t.n t.c) := by rw [hV2]; exact (((Bk2.newAt _ _ (by first | omega | (simp; done) | (simp; omega)) _ _ _).alloc _).alloc _)
  have P5 : Bk4 V2 (w1.heap.size + 1) (.bool x.num.neg) (.slice x.num.A x.num.n x.num.c) (.bool x.den.neg) (.slice x.den.A x.den.n x.den.c) := by rw [hV2]; exact ((Bk4.newAt _ _ (by first | omega | (simp; done) | (simp; omega)) _ _ _ _ _).alloc _)
  have F6 : Bk2 V2 (w1.heap.size + 2) (.int .i64 0) (.int .i64 0) := by rw [hV2]; exact (Bk2.newAt _ _ (by first | omega | (simp; done) | (simp; omega)) _ _ _)
  rw [← hV2]
  clear hV2
  replace E := E.trans (bV2.mono E.size)
  replace HA := HA.below bV2 (by omega)
  replace HC := HC.below bV2 (by omega)
  replace PA := PA.below bV2 PA.lt
  replace PI := PI.below bV2 PI.lt
  replace PF := PF.below bV2 PF.lt
  replace Ht := Ht.below bV2 (by omega)
  replace Hs1 := Hs1.below bV2 (by omega)
  replace Hs2 := Hs2.below bV2 (by omega)
  clear bV2
  clear F6 PA HA HC
  (with_reducible refine (shift_one _ w1.heap.size x.num.A x.num.n x.num.c x.num.xs Hs1 (by omega) vx.out nx).mono ?_)
  rintro e w2 ⟨A2, k2, c2, z2, rfl, hl2, hr2, hb2⟩
  have sw2 := hb2.size
  replace E := E.trans (hb2.mono E.size)
  replace PI := PI.below hb2 PI.lt
  replace PF := PF.below hb2 PF.lt
  replace Ht := Ht.below hb2 (by omega)
  replace Hs1 := Hs1.below hb2 (by omega)
  replace Hs2 := Hs2.below hb2 (by omega)
  replace P4 := P4.below hb2 P4.lt
  replace P5 := P5.below hb2 P5.lt
  clear hb2
  have V2 := Lib.hid (show vb 4294967296 z2 = 2 * r.natAbs by rw [hr2.val, I2.out.rep.val, Nat.mul_comm])
  have v2 := Lib.hid (big_vld hr2 (by rw [I2.out.rep.val]; exact dbl_big rT.out))
  clear hr2
  have t_P50 : (w2.alloc (.cells #[.int .i64 0, .int .i64 0] 28)).cell? ⟨w1.heap.size + 1, 0, none⟩ = some ((.bool x.num.neg)) := (P5.alloc _).c0
  have t_P51 : (w2.alloc (.cells #[.int .i64 0, .int .i64 0] 28)).cell? ⟨w1.heap.size + 1, 1, none⟩ = some ((.slice x.num.A x.num.n x.num.c)) := (P5.alloc _).c1
  have t_P52 : (w2.alloc (.cells #[.int .i64 0, .int .i64 0] 28)).cell? ⟨w1.heap.size + 1, 2, none⟩ = some ((.bool x.den.neg)) := (P5.alloc _).c2
  have t_P53 : (w2.alloc (.cells #[.int .i64 0, .int .i64 0] 28)).cell? ⟨w1.heap.size + 1, 3, none⟩ = some ((.slice x.den.A x.den.n x.den.c)) := (P5.alloc _).c3
  go_wp2_with fail
  clear t_P50 t_P51 t_P52 t_P53
  obtain ⟨V3, hV3⟩ : ∃ V3 : World, V3 = (w2.alloc (.cells #[.int .i64 0, .int .i64 0] 28)) := ⟨_, rfl⟩
  have bV3 : Below w2.heap.size w2 V3 := by rw [hV3]; (repeat (first | with_reducible exact Below.refl _ _ | with_reducible refine Below.drew ?_ | with_reducible refine below_drewN ?_ _ | with_reducible refine Below.setCell ?_ (by first | (simp; done) | (simp; omega) | omega) _ | with_reducible refine Below.alloc ?_ (by first | (simp; done) | (simp; omega) | omega) _))
  have zV3 : w2.heap.size + 1 ≤ V3.heap.size := by rw [hV3]; simp
  have F8 : Bk2 V3 (w2.heap.size) (.int .i64 0) (.int .i64 0) := by rw [hV3]; exact (Bk2.newAt _ _ (by first | omega | (simp; done) | (simp; omega)) _ _ _)
  rw [← hV3]
  clear hV3
  replace E := E.trans (bV3.mono E.size)
  replace PI := PI.below bV3 PI.lt
  replace PF := PF.below bV3 PF.lt
  replace Ht := Ht.below bV3 (by omega)
  replace Hs1 := Hs1.below bV3 (by omega)
  replace Hs2 := Hs2.below bV3 (by omega)
  replace P4 := P4.below bV3 P4.lt
  replace P5 := P5.below bV3 P5.lt
  replace hl2 := hl2.below bV3 (by omega)
  clear bV3
  clear F8
  (with_reducible refine (cmp_ok _ w2.heap.size A2 x.den.A k2 x.den.n c2 x.den.c z2 x.den.xs hl2 (Hs2.more (by omega)) (by omega) v2.out vd.out).mono ?_)
  rintro e w3 ⟨o, hcv, rfl, hb3⟩
  have sw3 := hb3.size
  replace E := E.trans (hb3.mono E.size)
  replace PI := PI.below hb3 PI.lt
  replace PF := PF.below hb3 PF.lt
  replace Ht := Ht.below hb3 (by omega)
  replace Hs1 := Hs1.below hb3 (by omega)
  replace Hs2 := Hs2.below hb3 (by omega)
  replace P4 := P4.below hb3 P4.lt
  replace P5 := P5.below hb3 P5.lt
  replace hl2 := hl2.below hb3 (by omega)
  clear hb3
  clear hl2 Hs1 Hs2 P5
  have CV := Lib.hid (show (o = 1 ∧ a.den.val < 2 * r) ∨ (o = 0 ∧ 2 * r = a.den.val) ∨ (o = -1 ∧ 2 * r < a.den.val) by
      have h1 := I3.out.rep.val
      have h2 := V2.out
      have h3 := HR0.out
      have h4 := hp.out
      unfold CmpV at hcv
      rw [h1, h2] at hcv
      omega)
  clear hcv
  rcases CV.out with ⟨rfl, hc⟩ | ⟨rfl, hc⟩ | ⟨rfl, hc⟩
  · have RU := Lib.hid (show a.den.val < 2 * r ∨ (2 * r = a.den.val ∧ oddB q = true) from Or.inl hc)
    have RQ := Lib.hid (fl_room3 FL.out hp.out (by omega) hn.out)
    clear hc
    have t_P40 : (w3.alloc (.cells #[.int .i64 0, .int .i64 0] 28)).cell? ⟨w1.heap.size, 0, none⟩ = some ((.bool t.neg)) := (P4.alloc _).c0
    have t_P41 : (w3.alloc (.cells #[.int .i64 0, .int .i64 0] 28)).cell? ⟨w1.heap.size, 1, none⟩ = some ((.slice t.A t.n t.c)) := (P4.alloc _).c1
    go_upto_region 7 with fail
    clear t_P40 t_P41
    obtain ⟨V4, hV4⟩ : ∃ V4 : World, V4 = (w3.alloc (.cells #[.int .i64 0, .int .i64 0] 28)) := ⟨_, rfl⟩
    have bV4 : Below w3.heap.size w3 V4 := by rw [hV4]; (repeat (first | with_reducible exact Below.refl _ _ | with_reducible refine Below.drew ?_ | with_reducible refine below_drewN ?_ _ | with_reducible refine Below.setCell ?_ (by first | (simp; done) | (simp; omega) | omega) _ | with_reducible refine Below.alloc ?_ (by first | (simp; done) | (simp; omega) | omega) _))
    have zV4 : w3.heap.size + 1 ≤ V4.heap.size := by rw [hV4]; simp
    have F10 : Bk2 V4 (w3.heap.size) (.int .i64 0) (.int .i64 0) := by rw [hV4]; exact (Bk2.newAt _ _ (by first | omega | (simp; done) | (simp; omega)) _ _ _)
    rw [← hV4]
    clear hV4
    replace E := E.trans (bV4.mono E.size)
    replace PI := PI.below bV4 PI.lt
    replace PF := PF.below bV4 PF.lt
    replace Ht := Ht.below bV4 (by omega)
    replace P4 := P4.below bV4 P4.lt
    clear bV4
    clear F10
    have G0 : Below V4.heap.size V4 V4.drew := Below.drew (Below.refl _ _)
    obtain ⟨_, _, _, _, _⟩ := id P4
    go_region_with (first
      | (go_at_call 63; (with_reducible refine (iof_any _ 1 (by decide) (by decide)).mono ?_); rintro e u1 ⟨m5, A5, k5, c5, x5, rfl, hl5, hr5, hb5⟩; have B1 : Below V4.heap.size V4 u1 := bnext G0 hb5; have b1s := B1.size; have R5 := Lib.hid hr5; clear hr5; obtain ⟨_, _, _, _, _⟩ := P4.below B1 P4.lt)
      | (go_at_call 80; (with_reducible refine (iadd_fit _ u1.heap.size t (IV.mk m5 A5 k5 c5 x5) q 1 (iv_at ((Ht.below B1 (by omega)).more (by omega))) (iv_at (a := IV.mk m5 A5 k5 c5 x5) hl5) (Nat.le_refl _) I1 R5 RQ.out).mono ?_); rintro e u2 ⟨m6, A6, k6, c6, x6, rfl, hl6, hr6, hb6⟩; have BN : Below V4.heap.size V4 u2 := bnext B1 hb6; have b2s := BN.size; have R6 := Lib.hid hr6; clear hr6; have P4q := P4.below BN P4.lt; have PIq := PI.below BN PI.lt; have PFq := PF.below BN PF.lt; obtain ⟨p0, p1, x0, x1, _⟩ := id P4q; obtain ⟨i0, i1, y4, y5, _⟩ := id PIq; obtain ⟨f0, f1, z0, z1, _⟩ := id PFq)
      | fail)
    all_goals (go_wp2_with fail)
    all_goals
      refine bodyPost_ret (v := .tuple #[intv m6 A6 k6 c6, flt 0 0]) (by simp [results, Tryz.results34, go_sem, i0, i1, f0, f1]) rfl ⟨q, r, FL.out, m6, A6, k6, c6, x6, rfl, ?_, by rw [rnd_up RU.out]; exact R6.out, ?_⟩
      · first
          | with_reducible exact LRd.more (keep3 hl6 P4q PIq PFq (by omega) (by omega) (by omega) _ _ _ _ _ _) (by simp [World.setCell])
          | with_reducible exact LRd.more (keep3d hl6 P4q PIq PFq (by omega) (by omega) (by omega) _ _ _ _ _ _) (by simp [World.setCell])
      · (repeat (first | with_reducible exact E.trans (BN.mono E.size) | with_reducible refine Below.drew ?_ | with_reducible refine below_drewN ?_ _ | with_reducible refine Below.setCell ?_ (by first | (simp; done) | (simp; omega) | omega) _))
  · have HCC := Lib.hid hc
    clear hc
    have t_P40 : (w3.alloc (.cells #[.int .i64 0, .int .i64 0] 28)).cell? ⟨w1.heap.size, 0, none⟩ = some ((.bool t.neg)) := (P4.alloc _).c0
    have t_P41 : (w3.alloc (.cells #[.int .i64 0, .int .i64 0] 28)).cell? ⟨w1.heap.size, 1, none⟩ = some ((.slice t.A t.n t.c)) := (P4.alloc _).c1
    go_wp2_with fail
    clear t_P40 t_P41
    obtain ⟨V4, hV4⟩ : ∃ V4 : World, V4 = (w3.alloc (.cells #[.int .i64 0, .int .i64 0] 28)) := ⟨_, rfl⟩
    have bV4 : Below w3.heap.size w3 V4 := by rw [hV4]; (repeat (first | with_reducible exact Below.refl _ _ | with_reducible refine Below.drew ?_ | with_reducible refine below_drewN ?_ _ | with_reducible refine Below.setCell ?_ (by first | (simp; done) | (simp; omega) | omega) _ | with_reducible refine Below.alloc ?_ (by first | (simp; done) | (simp; omega) | omega) _))
    have zV4 : w3.heap.size + 1 ≤ V4.heap.size := by rw [hV4]; simp
    have F10 : Bk2 V4 (w3.heap.size) (.int .i64 0) (.int .i64 0) := by rw [hV4]; exact (Bk2.newAt _ _ (by first | omega | (simp; done) | (simp; omega)) _ _ _)
    rw [← hV4]
    clear hV4
    replace E := E.trans (bV4.mono E.size)
    replace PI := PI.below bV4 PI.lt
    replace PF := PF.below bV4 PF.lt
    replace Ht := Ht.below bV4 (by omega)
    replace P4 := P4.below bV4 P4.lt
    clear bV4
    clear F10
    (with_reducible refine (isOdd_any _ w1.heap.size t q (iv_at Ht) (by omega) I1).mono ?_)
    rintro e w4 ⟨rfl, hb4⟩
    have sw4 := hb4.size
    replace E := E.trans (hb4.mono E.size)
    replace PI := PI.below hb4 PI.lt
    replace PF := PF.below hb4 PF.lt
    replace Ht := Ht.below hb4 (by omega)
    replace P4 := P4.below hb4 P4.lt
    clear hb4
    cases ho : oddB q
    · have RL := Lib.hid (show ¬ (a.den.val < 2 * r ∨ (2 * r = a.den.val ∧ oddB q = true)) by have := HCC.out; rw [ho]; intro h; rcases h with h | ⟨_, h⟩; omega; cases h)
      clear ho
      go_upto_region 8 with fail
      have y_PI0 := PI.c0
      have z_PI0 := PI.z0
      have y_PI1 := PI.c1
      have z_PI1 := PI.z1
      have lt_PI := PI.lt
      have y_PF0 := PF.c0
      have z_PF0 := PF.z0
      have y_PF1 := PF.c1
      have z_PF1 := PF.z1
      have lt_PF := PF.lt
      have t_P40 := P4.c0
      have t_P41 := P4.c1
      have lt_P4 := P4.lt
      go_wp2_with fail
      clear y_PI0 z_PI0 y_PI1 z_PI1 lt_PI y_PF0 z_PF0 y_PF1 z_PF1 lt_PF t_P40 t_P41 lt_P4
      obtain ⟨U6PI, hU6PI⟩ : ∃ U6PI : World, U6PI = ((w4.setCell ⟨w.heap.size + 1, 0, none⟩ (.bool t.neg)).setCell ⟨w.heap.size + 1, 1, none⟩ (.slice t.A t.n t.c)) := ⟨_, rfl⟩
      have zU6PI : U6PI.heap.size = w4.heap.size := by rw [hU6PI]; simp [World.setCell]
      replace E : Below w.heap.size w U6PI := by rw [hU6PI]; exact ((E.setCell (by first | (simp; done) | (simp; omega)) _).setCell (by first | (simp; done) | (simp; omega)) _)
      replace PF : Bk2 U6PI (w.heap.size + 2) (.int .i64 0) (.int .i64 0) := by rw [hU6PI]; exact PF.far2 (by omega) _ _
      replace Ht : LRd U6PI (w1.heap.size) t.A t.n t.c t.xs := by rw [hU6PI]; first | exact Ht.setB PI (by simp) (by simp) _ _ | exact Ht.setFarL (by omega) _ _
      replace P4 : Bk2 U6PI (w1.heap.size) (.bool t.neg) (.slice t.A t.n t.c) := by rw [hU6PI]; exact P4.far2 (by omega) _ _
      replace PI : Bk2 U6PI (w.heap.size + 1) (.bool t.neg) (.slice t.A t.n t.c) := by rw [hU6PI]; exact PI.set _ _
      rw [← hU6PI]
      clear hU6PI
      have zU6PI' := Nat.le_of_eq zU6PI
      replace zU6PI := Nat.le_of_eq zU6PI.symm
      obtain ⟨U6PF, hU6PF⟩ : ∃ U6PF : World, U6PF = ((U6PI.setCell ⟨w.heap.size + 2, 0, none⟩ (.int .i64 0)).setCell ⟨w.heap.size + 2, 1, none⟩ (.int .i64 0)) := ⟨_, rfl⟩
      have zU6PF : U6PF.heap.size = U6PI.heap.size := by rw [hU6PF]; simp [World.setCell]
      replace E : Below w.heap.size w U6PF := by rw [hU6PF]; exact ((E.setCell (by first | (simp; done) | (simp; omega)) _).setCell (by first | (simp; done) | (simp; omega)) _)
      replace PI : Bk2 U6PF (w.heap.size + 1) (.bool t.neg) (.slice t.A t.n t.c) := by rw [hU6PF]; exact PI.far2 (by omega) _ _
      replace Ht : LRd U6PF (w1.heap.size) t.A t.n t.c t.xs := by rw [hU6PF]; first | exact Ht.setB PF (by simp) (by simp) _ _ | exact Ht.setFarL (by omega) _ _
      replace P4 : Bk2 U6PF (w1.heap.size) (.bool t.neg) (.slice t.A t.n t.c) := by rw [hU6PF]; exact P4.far2 (by omega) _ _
      replace PF : Bk2 U6PF (w.heap.size + 2) (.int .i64 0) (.int .i64 0) := by rw [hU6PF]; exact PF.set _ _
      rw [← hU6PF]
      clear hU6PF
      have zU6PF' := Nat.le_of_eq zU6PF
      replace zU6PF := Nat.le_of_eq zU6PF.symm
      obtain ⟨f0, f1, _, _, _⟩ := PF
      obtain ⟨i0, i1, _, _, _⟩ := PI
      refine bodyPost_ret (v := .tuple #[intv t.neg t.A t.n t.c, flt 0 0]) (by simp [results, Tryz.results34, go_sem, i0, i1, f0, f1]) rfl ⟨q, r, FL.out, t.neg, t.A, t.n, t.c, t.xs, rfl, Ht.more (by omega), ?_, E⟩
      rw [rnd_lo RL.out]; exact I1.out
    · have RU := Lib.hid (show a.den.val < 2 * r ∨ (2 * r = a.den.val ∧ oddB q = true) from Or.inr ⟨HCC.out, ho⟩)
      have RQ := Lib.hid (fl_room3 FL.out hp.out (by have := HCC.out; omega) hn.out)
      clear ho
      go_upto_region 7 with fail
      have G0 : Below w4.heap.size w4 w4.drew := Below.drew (Below.refl _ _)
      obtain ⟨_, _, _, _, _⟩ := id P4
      go_region_with (first
        | (go_at_call 63; (with_reducible refine (iof_any _ 1 (by decide) (by decide)).mono ?_); rintro e u1 ⟨m5, A5, k5, c5, x5, rfl, hl5, hr5, hb5⟩; have B1 : Below w4.heap.size w4 u1 := bnext G0 hb5; have b1s := B1.size; have R5 := Lib.hid hr5; clear hr5; obtain ⟨_, _, _, _, _⟩ := P4.below B1 P4.lt)
        | (go_at_call 80; (with_reducible refine (iadd_fit _ u1.heap.size t (IV.mk m5 A5 k5 c5 x5) q 1 (iv_at ((Ht.below B1 (by omega)).more (by omega))) (iv_at (a := IV.mk m5 A5 k5 c5 x5) hl5) (Nat.le_refl _) I1 R5 RQ.out).mono ?_); rintro e u2 ⟨m6, A6, k6, c6, x6, rfl, hl6, hr6, hb6⟩; have BN : Below w4.heap.size w4 u2 := bnext B1 hb6; have b2s := BN.size; have R6 := Lib.hid hr6; clear hr6; have P4q := P4.below BN P4.lt; have PIq := PI.below BN PI.lt; have PFq := PF.below BN PF.lt; obtain ⟨p0, p1, x0, x1, _⟩ := id P4q; obtain ⟨i0, i1, y4, y5, _⟩ := id PIq; obtain ⟨f0, f1, z0, z1, _⟩ := id PFq)
        | fail)
      all_goals (go_wp2_with fail)
      all_goals
        refine bodyPost_ret (v := .tuple #[intv m6 A6 k6 c6, flt 0 0]) (by simp [results, Tryz.results34, go_sem, i0, i1, f0, f1]) rfl ⟨q, r, FL.out, m6, A6, k6, c6, x6, rfl, ?_, by rw [rnd_up RU.out]; exact R6.out, ?_⟩
        · first
            | with_reducible exact LRd.more (keep3 hl6 P4q PIq PFq (by omega) (by omega) (by omega) _ _ _ _ _ _) (by simp [World.setCell])
            | with_reducible exact LRd.more (keep3d hl6 P4q PIq PFq (by omega) (by omega) (by omega) _ _ _ _ _ _) (by simp [World.setCell])
        · (repeat (first | with_reducible exact E.trans (BN.mono E.size) | with_reducible refine Below.drew ?_ | with_reducible refine below_drewN ?_ _ | with_reducible refine Below.setCell ?_ (by first | (simp; done) | (simp; omega) | omega) _))
  · have RL := Lib.hid (show ¬ (a.den.val < 2 * r ∨ (2 * r = a.den.val ∧ oddB q = true)) by intro h; omega)
    clear hc
    have hxx := True.intro
    have t_P40 : (w3.alloc (.cells #[.int .i64 0, .int .i64 0] 28)).cell? ⟨w1.heap.size, 0, none⟩ = some ((.bool t.neg)) := (P4.alloc _).c0
    have t_P41 : (w3.alloc (.cells #[.int .i64 0, .int .i64 0] 28)).cell? ⟨w1.heap.size, 1, none⟩ = some ((.slice t.A t.n t.c)) := (P4.alloc _).c1
    go_upto_region 8 with fail
    clear t_P40 t_P41
    obtain ⟨V4, hV4⟩ : ∃ V4 : World, V4 = (w3.alloc (.cells #[.int .i64 0, .int .i64 0] 28)) := ⟨_, rfl⟩
    have bV4 : Below w3.heap.size w3 V4 := by rw [hV4]; (repeat (first | with_reducible exact Below.refl _ _ | with_reducible refine Below.drew ?_ | with_reducible refine below_drewN ?_ _ | with_reducible refine Below.setCell ?_ (by first | (simp; done) | (simp; omega) | omega) _ | with_reducible refine Below.alloc ?_ (by first | (simp; done) | (simp; omega) | omega) _))
    have zV4 : w3.heap.size + 1 ≤ V4.heap.size := by rw [hV4]; simp
    have F10 : Bk2 V4 (w3.heap.size) (.int .i64 0) (.int .i64 0) := by rw [hV4]; exact (Bk2.newAt _ _ (by first | omega | (simp; done) | (simp; omega)) _ _ _)
    rw [← hV4]
    clear hV4
    replace E := E.trans (bV4.mono E.size)
    replace PI := PI.below bV4 PI.lt
    replace PF := PF.below bV4 PF.lt
    replace Ht := Ht.below bV4 (by omega)
    replace P4 := P4.below bV4 P4.lt
    clear bV4
    clear F10
    have y_PI0 := PI.c0
    have z_PI0 := PI.z0
    have y_PI1 := PI.c1
    have z_PI1 := PI.z1
    have lt_PI := PI.lt
    have y_PF0 := PF.c0
    have z_PF0 := PF.z0
    have y_PF1 := PF.c1
    have z_PF1 := PF.z1
    have lt_PF := PF.lt
    have t_P40 := P4.c0
    have t_P41 := P4.c1
    have lt_P4 := P4.lt
    go_wp2_with fail
    clear y_PI0 z_PI0 y_PI1 z_PI1 lt_PI y_PF0 z_PF0 y_PF1 z_PF1 lt_PF t_P40 t_P41 lt_P4
    obtain ⟨U5PI, hU5PI⟩ : ∃ U5PI : World, U5PI = ((V4.setCell ⟨w.heap.size + 1, 0, none⟩ (.bool t.neg)).setCell ⟨w.heap.size + 1, 1, none⟩ (.slice t.A t.n t.c)) := ⟨_, rfl⟩
    have zU5PI : U5PI.heap.size = V4.heap.size := by rw [hU5PI]; simp [World.setCell]
    replace E : Below w.heap.size w U5PI := by rw [hU5PI]; exact ((E.setCell (by first | (simp; done) | (simp; omega)) _).setCell (by first | (simp; done) | (simp; omega)) _)
    replace PF : Bk2 U5PI (w.heap.size + 2) (.int .i64 0) (.int .i64 0) := by rw [hU5PI]; exact PF.far2 (by omega) _ _
    replace Ht : LRd U5PI (w1.heap.size) t.A t.n t.c t.xs := by rw [hU5PI]; first | exact Ht.setB PI (by simp) (by simp) _ _ | exact Ht.setFarL (by omega) _ _
    replace P4 : Bk2 U5PI (w1.heap.size) (.bool t.neg) (.slice t.A t.n t.c) := by rw [hU5PI]; exact P4.far2 (by omega) _ _
    replace PI : Bk2 U5PI (w.heap.size + 1) (.bool t.neg) (.slice t.A t.n t.c) := by rw [hU5PI]; exact PI.set _ _
    rw [← hU5PI]
    clear hU5PI
    have zU5PI' := Nat.le_of_eq zU5PI
    replace zU5PI := Nat.le_of_eq zU5PI.symm
    obtain ⟨U5PF, hU5PF⟩ : ∃ U5PF : World, U5PF = ((U5PI.setCell ⟨w.heap.size + 2, 0, none⟩ (.int .i64 0)).setCell ⟨w.heap.size + 2, 1, none⟩ (.int .i64 0)) := ⟨_, rfl⟩
    have zU5PF : U5PF.heap.size = U5PI.heap.size := by rw [hU5PF]; simp [World.setCell]
    replace E : Below w.heap.size w U5PF := by rw [hU5PF]; exact ((E.setCell (by first | (simp; done) | (simp; omega)) _).setCell (by first | (simp; done) | (simp; omega)) _)
    replace PI : Bk2 U5PF (w.heap.size + 1) (.bool t.neg) (.slice t.A t.n t.c) := by rw [hU5PF]; exact PI.far2 (by omega) _ _
    replace Ht : LRd U5PF (w1.heap.size) t.A t.n t.c t.xs := by rw [hU5PF]; first | exact Ht.setB PF (by simp) (by simp) _ _ | exact Ht.setFarL (by omega) _ _
    replace P4 : Bk2 U5PF (w1.heap.size) (.bool t.neg) (.slice t.A t.n t.c) := by rw [hU5PF]; exact P4.far2 (by omega) _ _
    replace PF : Bk2 U5PF (w.heap.size + 2) (.int .i64 0) (.int .i64 0) := by rw [hU5PF]; exact PF.set _ _
    rw [← hU5PF]
    clear hU5PF
    have zU5PF' := Nat.le_of_eq zU5PF
    replace zU5PF := Nat.le_of_eq zU5PF.symm
    obtain ⟨f0, f1, _, _, _⟩ := PF
    obtain ⟨i0, i1, _, _, _⟩ := PI
    refine bodyPost_ret (v := .tuple #[intv t.neg t.A t.n t.c, flt 0 0]) (by simp [results, Tryz.results34, go_sem, i0, i1, f0, f1]) rfl ⟨q, r, FL.out, t.neg, t.A, t.n, t.c, t.xs, rfl, Ht.more (by omega), ?_, E⟩
    rw [rnd_lo RL.out]; exact I1.out
end Go.Proofs.YtflmcgoijofpdaaGreat
