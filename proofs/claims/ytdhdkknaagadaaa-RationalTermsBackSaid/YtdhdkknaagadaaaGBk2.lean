/- RationalTermsBack: the law. -/
import Derived.Test.YtdhdkknaagadaaaGv
import Derived.Deep.DeepCutAuto
namespace Go.Proofs.Ytdhdkknaagadaaa
open Go.RowKit
set_option maxHeartbeats 400000
set_option maxRecDepth 100000
set_option linter.unusedSimpArgs false
set_option linter.unusedVariables false

theorem term_top {zs : List Int} {n0 d0 n d : Int} (hd0 : 1 ≤ d0) (h1 : n0.natAbs < Top128) (h2 : d0.natAbs < Top128) (hc : Chain zs n0 d0 n d) {i : Nat} (h : i < zs.length) : (zs[i]).natAbs < Top128 := by
  have e : zs = zs.take (i + 1) ++ zs.drop (i + 1) := (List.take_append_drop _ _).symm
  rw [e] at hc
  obtain ⟨a, b, h3, _⟩ := (Chain.split _ _ _ _ _ _).1 hc
  obtain ⟨a', b', h4, h5, h6, _⟩ := Chain.step h h3
  have h7 := Chain.bd _ _ _ _ _ (by omega) h4
  rw [h6]
  have := Int.natAbs_ediv_le_natAbs a' b'
  omega
/-- The quotient of 1 by a ratio. -/
theorem div1 (w : World) (B : Nat) (o y : RV) (a b : Int) (Ho : o.at w B) (Hy : y.at w B) (hB : B ≤ w.heap.size) (IO : Hid (IRep o.num.neg o.num.xs 1)) (JO : Hid (IRep o.den.neg o.den.xs 1)) (IA : Hid (IRep y.num.neg y.num.xs a)) (IB : Hid (IRep y.den.neg y.den.xs b)) (ha : 0 < a) (hb : 0 < b) (ta : a.natAbs < Top128) (tb : b.natAbs < Top128) (hg : Nat.gcd a.natAbs b.natAbs = 1) :
    Calls Try.prog 15 #[o.v, y.v] w (fun e w' => ∃ z : RV, e = .returned (.tuple #[z.v, flt 0 0]) ∧ z.at w' w'.heap.size ∧ IRep z.num.neg z.num.xs b ∧ IRep z.den.neg z.den.xs a ∧ Below w.heap.size w w') := by
  have oo := rv_ok IO.out JO.out Ho.2.len.out (lt_top (by decide)) (lt_top (by decide)) (by decide) (by decide)
  have oy := rv_ok IA.out IB.out Hy.2.len.out ta tb hb hg
  have vo := rv_vals IO.out JO.out
  have vy := rv_vals IA.out IB.out
  have h := rdiv_x w B o y Ho Hy hB oo oy (by rw [vy.1]; omega) (by rw [vo.1, vy.2, Int.one_mul]; exact tb) (by rw [vo.2, vy.1, Int.one_mul]; exact ta)
  rw [vo.1, vo.2, vy.1, vy.2, Int.one_mul, Int.one_mul] at h
  refine h.mono fun e w' ⟨x, he, hx, ox, cx, px, _, _, hbb⟩ => ?_
  have U := low_uniq (n' := b) (d' := a) cx px ha (rv_low ox hx) (by rw [Nat.gcd_comm]; exact hg)
  have V := RV.val ox hx
  exact ⟨x, he, hx, by rw [← U.1]; exact V.num, by rw [← U.2]; exact V.den, hbb⟩
/-- A term and what is left. -/
theorem add1 (w : World) (B : Nat) (u z : RV) (l a b p : Int) (Hu : u.at w B) (Hz : z.at w B) (hB : B ≤ w.heap.size) (IU : Hid (IRep u.num.neg u.num.xs l)) (JU : Hid (IRep u.den.neg u.den.xs 1)) (IZ : Hid (IRep z.num.neg z.num.xs b)) (JZ : Hid (IRep z.den.neg z.den.xs a)) (ha : 0 < a) (hp : l * a + b = p) (tp : p.natAbs < Top128) (ta : a.natAbs < Top128) (hg : Nat.gcd p.natAbs a.natAbs = 1) (tl : l.natAbs < Top128) (tb : b.natAbs < Top128) :
    Calls Try.prog 8 #[u.v, z.v] w (fun e w' => ∃ y : RV, e = .returned (.tuple #[y.v, flt 0 0]) ∧ y.at w' w'.heap.size ∧ IRep y.num.neg y.num.xs p ∧ IRep y.den.neg y.den.xs a ∧ Below w.heap.size w w') := by
  have ou := rv_ok IU.out JU.out Hu.2.len.out tl (lt_top (by decide)) (by decide) (by simp)
  have hg2 : Nat.gcd b.natAbs a.natAbs = 1 := by
    have h1 : Int.gcd p a = Int.gcd b a := by rw [← hp]; simp
    exact h1.symm.trans hg
  have oz := rv_ok IZ.out JZ.out Hz.2.len.out tb ta ha hg2
  have vu := rv_vals IU.out JU.out
  have vz := rv_vals IZ.out JZ.out
  have e1 : u.num.val * z.den.val + z.num.val * u.den.val = p := by rw [vu.1, vu.2, vz.1, vz.2, Int.mul_one]; exact hp
  have e2 : u.den.val * z.den.val = a := by rw [vu.2, vz.2, Int.one_mul]
  have h := radd_x w B u z Hu Hz hB ou oz (by rw [e1]; exact tp) (by rw [e2]; exact ta)
  rw [e1, e2] at h
  refine h.mono fun e w' ⟨x, he, hx, ox, cx, px, _, _, hbb⟩ => ?_
  have U := low_uniq (n' := p) (d' := a) cx px ha (rv_low ox hx) hg
  have V := RV.val ox hx
  exact ⟨x, he, hx, by rw [← U.1]; exact V.num, by rw [← U.2]; exact V.den, hbb⟩
theorem gcd_step {p q : Int} (h : Nat.gcd p.natAbs q.natAbs = 1) : Nat.gcd q.natAbs (p % q).natAbs = 1 := by
  have h2 : Int.gcd q (p % q) = Int.gcd p q := by rw [Int.gcd_comm p q, Int.emod_def]; simp
  exact h2.trans h
theorem TDcell {w : World} {j c g : Nat} {A : Option Addr} {ts : List IV} (eA : A = some ⟨g, 0, none⟩) (h : TRd w A j c ts) {i : Nat} (hi : i < ts.length) : g < w.heap.size ∧ w.cell? ⟨g, i * 2, none⟩ = some (.bool (ts[i]).neg) ∧ w.cell? ⟨g, i * 2 + 1, none⟩ = some (.slice (ts[i]).A (ts[i]).n (ts[i]).c) := by
  have h0 := h.2.2.1.out
  obtain ⟨g', e, h1, h2⟩ := h.2.2.2 (by omega)
  rw [eA] at e
  injection e with e
  injection e with e
  subst e
  exact ⟨h1, h2 i hi⟩
def BkRel (V : World) (g5 g6 : Nat) (zs : List Int) (n0 d0 : Int) (i : Value) (wr : World) : Prop :=
  ∃ (k : Nat) (y : RV) (a b : Int), i = .int .i64 ((k : Int) - 1) ∧ k < zs.length ∧ Bk4 wr g5 (.bool y.num.neg) (.slice y.num.A y.num.n y.num.c) (.bool y.den.neg) (.slice y.den.A y.den.n y.den.c) ∧ Bk2 wr g6 (.int .i64 0) (.int .i64 0) ∧ LRd wr wr.heap.size y.num.A y.num.n y.num.c y.num.xs ∧ LRd wr wr.heap.size y.den.A y.den.n y.den.c y.den.xs ∧ Hid (IRep y.num.neg y.num.xs a) ∧ Hid (IRep y.den.neg y.den.xs b) ∧ Hid (Chain (zs.take k) n0 d0 a b) ∧ Hid (0 < b) ∧ Below V.heap.size V wr
theorem cmp_1 {a : IV} {n : Bool} {D : Option Addr} {l d : Nat} {ys : List Nat} {la r : Int} (h : ICmp a.val (IV.mk n D l d ys).val r) (I : IRep a.neg a.xs la) (J : IRep n ys 1) : ICmp la 1 r := by
  have e1 : a.val = la := I.ival (A := a.A) (n := a.n) (c := a.c)
  have e2 : (IV.mk n D l d ys).val = 1 := J.ival
  rw [e1, e2] at h
  exact h
set_option maxHeartbeats 4000000 in
theorem back_bad (w : World) (x : RV) (HX : x.at w w.heap.size) (f2 : Int) (hf : rfault [x] 0 = (6, f2)) :
    Calls Try.prog 4 #[x.v] w (fun e w' => e = .returned (.bool true) ∧ Below w.heap.size w w') := by
  have Hx1 : LRd w w.heap.size x.num.A x.num.n x.num.c x.num.xs := HX.1
  have Hx2 : LRd w w.heap.size x.den.A x.den.n x.den.c x.den.xs := HX.2
  have E : Below w.heap.size w w := Below.refl _ _
  go_enter Try.func4, Try.ntmps4
  go_wp2_with fail
  obtain ⟨V0, hV0⟩ : ∃ V0 : World, V0 = (w.alloc (.cells #[.bool x.num.neg, .slice x.num.A x.num.n x.num.c, .bool x.den.neg, .slice x.den.A x.den.n x.den.c] 26)) := ⟨_, rfl⟩
  have bV0 : Below w.heap.size w V0 := by rw [hV0]; (repeat (first | with_reducible exact Below.refl _ _ | with_reducible refine Below.drew ?_ | with_reducible refine below_drewN ?_ _ | with_reducible refine Below.setCell ?_ (by first | (simp; done) | (simp; omega) | omega) _ | with_reducible refine Below.alloc ?_ (by first | (simp; done) | (simp; omega) | omega) _))
  have zV0 : w.heap.size + 1 ≤ V0.heap.size := by rw [hV0]; simp
  have PA : Bk4 V0 (w.heap.size) (.bool x.num.neg) (.slice x.num.A x.num.n x.num.c) (.bool x.den.neg) (.slice x.den.A x.den.n x.den.c) := by rw [hV0]; exact (Bk4.newAt _ _ (by first | omega | (simp; done) | (simp; omega)) _ _ _ _ _)
  rw [← hV0]
  clear hV0
  replace E : Below w.heap.size w V0 := E.trans (bV0.mono E.size)
  replace Hx1 : LRd V0 (w.heap.size) x.num.A x.num.n x.num.c x.num.xs := Hx1.below bV0 (by omega)
  replace Hx2 : LRd V0 (w.heap.size) x.den.A x.den.n x.den.c x.den.xs := Hx2.below bV0 (by omega)
  clear bV0
  (with_reducible refine (terms_bad _ w.heap.size x (rv_at Hx1 Hx2) (by omega) f2 hf).mono ?_)
  rintro e w1 ⟨rfl, hb1⟩
  have sw1 := hb1.size
  replace E : Below w.heap.size w w1 := E.trans (hb1.mono E.size)
  replace Hx1 : LRd w1 (w.heap.size) x.num.A x.num.n x.num.c x.num.xs := Hx1.below hb1 (by omega)
  replace Hx2 : LRd w1 (w.heap.size) x.den.A x.den.n x.den.c x.den.xs := Hx2.below hb1 (by omega)
  replace PA : Bk4 w1 (w.heap.size) (.bool x.num.neg) (.slice x.num.A x.num.n x.num.c) (.bool x.den.neg) (.slice x.den.A x.den.n x.den.c) := PA.below hb1 PA.lt
  clear hb1
  go_wp2_with fail
  obtain ⟨V1, hV1⟩ : ∃ V1 : World, V1 = (w1.alloc (.cells #[.int .i64 6, .int .i64 f2] 29)) := ⟨_, rfl⟩
  have bV1 : Below w1.heap.size w1 V1 := by rw [hV1]; (repeat (first | with_reducible exact Below.refl _ _ | with_reducible refine Below.drew ?_ | with_reducible refine below_drewN ?_ _ | with_reducible refine Below.setCell ?_ (by first | (simp; done) | (simp; omega) | omega) _ | with_reducible refine Below.alloc ?_ (by first | (simp; done) | (simp; omega) | omega) _))
  have zV1 : w1.heap.size + 1 ≤ V1.heap.size := by rw [hV1]; simp
  have F4 : Bk2 V1 (w1.heap.size) (.int .i64 6) (.int .i64 f2) := by rw [hV1]; exact (Bk2.newAt _ _ (by first | omega | (simp; done) | (simp; omega)) _ _ _)
  rw [← hV1]
  clear hV1
  replace E : Below w.heap.size w V1 := E.trans (bV1.mono E.size)
  replace Hx1 : LRd V1 (w.heap.size) x.num.A x.num.n x.num.c x.num.xs := Hx1.below bV1 (by omega)
  replace Hx2 : LRd V1 (w.heap.size) x.den.A x.den.n x.den.c x.den.xs := Hx2.below bV1 (by omega)
  replace PA : Bk4 V1 (w.heap.size) (.bool x.num.neg) (.slice x.num.A x.num.n x.num.c) (.bool x.den.neg) (.slice x.den.A x.den.n x.den.c) := PA.below bV1 PA.lt
  clear bV1
  (with_reducible refine (parts_any _).mono ?_)
  rintro e w2 ⟨rfl, hb2⟩
  have sw2 := hb2.size
  replace E : Below w.heap.size w w2 := E.trans (hb2.mono E.size)
  replace Hx1 : LRd w2 (w.heap.size) x.num.A x.num.n x.num.c x.num.xs := Hx1.below hb2 (by omega)
  replace Hx2 : LRd w2 (w.heap.size) x.den.A x.den.n x.den.c x.den.xs := Hx2.below hb2 (by omega)
  replace PA : Bk4 w2 (w.heap.size) (.bool x.num.neg) (.slice x.num.A x.num.n x.num.c) (.bool x.den.neg) (.slice x.den.A x.den.n x.den.c) := PA.below hb2 PA.lt
  replace F4 : Bk2 w2 (w1.heap.size) (.int .i64 6) (.int .i64 f2) := F4.below hb2 F4.lt
  clear hb2
  have t_F40 : w2.cell? ⟨w1.heap.size, 0, none⟩ = some ((.int .i64 6)) := F4.c0
  have t_F41 : w2.cell? ⟨w1.heap.size, 1, none⟩ = some ((.int .i64 f2)) := F4.c1
  go_wp2_with fail
  clear t_F40 t_F41
  go_ret
  exact ⟨rfl, E⟩
set_option maxHeartbeats 40000000 in
theorem back_ok (w : World) (x : RV) (HX : x.at w w.heap.size) (ox : Hid (x.ok = true)) (n0 d0 : Int) (IX : Hid (IRep x.num.neg x.num.xs n0)) (IY : Hid (IRep x.den.neg x.den.xs d0)) (hd0 : 1 ≤ d0) (HBD : Hid (n0.natAbs < Top128 ∧ d0.natAbs < Top128)) (hlow : Hid (Nat.gcd n0.natAbs d0.natAbs = 1)) :
    Calls Try.prog 4 #[x.v] w (fun e w' => e = .returned (.bool true) ∧ Below w.heap.size w w') := by
  have Hx1 : LRd w w.heap.size x.num.A x.num.n x.num.c x.num.xs := HX.1
  have Hx2 : LRd w w.heap.size x.den.A x.den.n x.den.c x.den.xs := HX.2
  have E : Below w.heap.size w w := Below.refl _ _
  go_enter Try.func4, Try.ntmps4
  go_wp2_with fail
  obtain ⟨V0, hV0⟩ : ∃ V0 : World, V0 = (w.alloc (.cells #[.bool x.num.neg, .slice x.num.A x.num.n x.num.c, .bool x.den.neg, .slice x.den.A x.den.n x.den.c] 26)) := ⟨_, rfl⟩
  have bV0 : Below w.heap.size w V0 := by rw [hV0]; (repeat (first | with_reducible exact Below.refl _ _ | with_reducible refine Below.drew ?_ | with_reducible refine below_drewN ?_ _ | with_reducible refine Below.setCell ?_ (by first | (simp; done) | (simp; omega) | omega) _ | with_reducible refine Below.alloc ?_ (by first | (simp; done) | (simp; omega) | omega) _))
  have zV0 : w.heap.size + 1 ≤ V0.heap.size := by rw [hV0]; simp
  have PA : Bk4 V0 (w.heap.size) (.bool x.num.neg) (.slice x.num.A x.num.n x.num.c) (.bool x.den.neg) (.slice x.den.A x.den.n x.den.c) := by rw [hV0]; exact (Bk4.newAt _ _ (by first | omega | (simp; done) | (simp; omega)) _ _ _ _ _)
  rw [← hV0]
  clear hV0
  replace E : Below w.heap.size w V0 := E.trans (bV0.mono E.size)
  replace Hx1 : LRd V0 (w.heap.size) x.num.A x.num.n x.num.c x.num.xs := Hx1.below bV0 (by omega)
  replace Hx2 : LRd V0 (w.heap.size) x.den.A x.den.n x.den.c x.den.xs := Hx2.below bV0 (by omega)
  clear bV0
  (with_reducible refine (terms_ok _ w.heap.size x (rv_at Hx1 Hx2) (by omega) ox.out n0 d0 IX IY hd0 HBD).mono ?_)
  rintro e w1 hT
  rcases hT with ⟨A, j, c, ts, zs, nE, rfl, TD, HZ, hch, hj4, hb1⟩ | ⟨rfl, hb1⟩
  · 
    have sw1 := hb1.size
    replace E : Below w.heap.size w w1 := E.trans (hb1.mono E.size)
    replace Hx1 : LRd w1 (w.heap.size) x.num.A x.num.n x.num.c x.num.xs := Hx1.below hb1 (by omega)
    replace Hx2 : LRd w1 (w.heap.size) x.den.A x.den.n x.den.c x.den.xs := Hx2.below hb1 (by omega)
    replace PA : Bk4 w1 (w.heap.size) (.bool x.num.neg) (.slice x.num.A x.num.n x.num.c) (.bool x.den.neg) (.slice x.den.A x.den.n x.den.c) := PA.below hb1 PA.lt
    clear hb1
    have CH := Lib.hid hch
    have hlt := Lib.hid TD.2.2.1.out
    have hlz := Lib.hid HZ.1
    have hj0 : 0 < j := by
      rcases Nat.eq_zero_or_pos j with e | e
      · exfalso
        have h1 := hlt.out
        have h2 := hlz.out
        have h3 : zs = [] := List.eq_nil_of_length_eq_zero (by omega)
        rw [h3] at hch
        have := hch.2
        omega
      · exact e
    clear hch
    obtain ⟨m, hm⟩ : ∃ m, j = m + 1 := ⟨j - 1, by omega⟩
    have HM := Lib.hid hm
    clear hm
    have hbeq : ((j : Int) == 0) = false := beq_eq_false_iff_ne.2 (by omega)
    have hcap := TD.1
    have hcap2 := TD.2.1
    go_wp2_with fail
    obtain ⟨V1, hV1⟩ : ∃ V1 : World, V1 = (w1.alloc (.cells #[.int .i64 0, .int .i64 0] 29)) := ⟨_, rfl⟩
    have bV1 : Below w1.heap.size w1 V1 := by rw [hV1]; (repeat (first | with_reducible exact Below.refl _ _ | with_reducible refine Below.drew ?_ | with_reducible refine below_drewN ?_ _ | with_reducible refine Below.setCell ?_ (by first | (simp; done) | (simp; omega) | omega) _ | with_reducible refine Below.alloc ?_ (by first | (simp; done) | (simp; omega) | omega) _))
    have zV1 : w1.heap.size + 1 ≤ V1.heap.size := by rw [hV1]; simp
    have F4 : Bk2 V1 (w1.heap.size) (.int .i64 0) (.int .i64 0) := by rw [hV1]; exact (Bk2.newAt _ _ (by first | omega | (simp; done) | (simp; omega)) _ _ _)
    rw [← hV1]
    clear hV1
    replace TD : TRd V1 A j c ts := TD.below bV1 (Nat.le_refl _)
    replace HZ : Trs V1 ts zs := HZ.go (fun H => (H.below bV1 (Nat.le_refl _)).more bV1.size)
    replace E : Below w.heap.size w V1 := E.trans (bV1.mono E.size)
    replace Hx1 : LRd V1 (w.heap.size) x.num.A x.num.n x.num.c x.num.xs := Hx1.below bV1 (by omega)
    replace Hx2 : LRd V1 (w.heap.size) x.den.A x.den.n x.den.c x.den.xs := Hx2.below bV1 (by omega)
    replace PA : Bk4 V1 (w.heap.size) (.bool x.num.neg) (.slice x.num.A x.num.n x.num.c) (.bool x.den.neg) (.slice x.den.A x.den.n x.den.c) := PA.below bV1 PA.lt
    clear bV1
    (with_reducible refine (parts_any _).mono ?_)
    rintro e w2 ⟨rfl, hb2⟩
    have sw2 := hb2.size
    replace TD : TRd w2 A j c ts := TD.below hb2 (Nat.le_refl _)
    replace HZ : Trs w2 ts zs := HZ.go (fun H => (H.below hb2 (Nat.le_refl _)).more hb2.size)
    replace E : Below w.heap.size w w2 := E.trans (hb2.mono E.size)
    replace Hx1 : LRd w2 (w.heap.size) x.num.A x.num.n x.num.c x.num.xs := Hx1.below hb2 (by omega)
    replace Hx2 : LRd w2 (w.heap.size) x.den.A x.den.n x.den.c x.den.xs := Hx2.below hb2 (by omega)
    replace PA : Bk4 w2 (w.heap.size) (.bool x.num.neg) (.slice x.num.A x.num.n x.num.c) (.bool x.den.neg) (.slice x.den.A x.den.n x.den.c) := PA.below hb2 PA.lt
    replace F4 : Bk2 w2 (w1.heap.size) (.int .i64 0) (.int .i64 0) := F4.below hb2 F4.lt
    clear hb2
    have t_F40 : w2.cell? ⟨w1.heap.size, 0, none⟩ = some ((.int .i64 0)) := F4.c0
    have t_F41 : w2.cell? ⟨w1.heap.size, 1, none⟩ = some ((.int .i64 0)) := F4.c1
    go_upto_region 8 with fail
    clear t_F40 t_F41
    clear F4
    have ctop := Lib.hid (fun (i : Nat) (h : i < zs.length) => term_top hd0 HBD.out.1 HBD.out.2 CH.out h)
    obtain ⟨g, eA, hg, hcell⟩ := TD.2.2.2 hj0
    subst eA
    obtain ⟨t, ht⟩ : ∃ t, t = ts[m]'(by have := hlt.out; have := HM.out; omega) := ⟨_, rfl⟩
    obtain ⟨la, hla⟩ : ∃ z, z = zs[m]'(by have := hlt.out; have := HM.out; have := hlz.out; omega) := ⟨_, rfl⟩
    have hcl := hcell m (by have := hlt.out; have := HM.out; omega)
    have htr := HZ.2 m (by have := hlt.out; have := HM.out; omega) (by have := hlt.out; have := HM.out; have := hlz.out; omega)
    rw [← ht] at hcl htr
    rw [← hla] at htr
    have HT1 : LRd w2 w2.heap.size t.A t.n t.c t.xs := htr.1
    have IT := Lib.hid htr.2
    have HLA := Lib.hid hla
    have q0 : w2.cell? ⟨g, m * 2, none⟩ = some (.bool t.neg) := hcl.1
    have q1 : w2.cell? ⟨g, m * 2 + 1, none⟩ = some (.slice t.A t.n t.c) := hcl.2
    clear hcell hcl htr ht hla
    have hla1 := Lib.hid (show la.natAbs < Top128 by rw [HLA.out]; exact ctop.out _ _)
    go_cut [5, 6] (fun s5 s6 wx => PtG w2 la 1 s5 s6 wx)
    case first =>
      as_aux_lemma =>
        have HS := Lib.hid (fun (u : World) (hu : Below w2.heap.size w2 u) => (⟨(hu.cell (p := ⟨g, m * 2, none⟩) (by show g < _; omega)).trans q0, (hu.cell (p := ⟨g, m * 2 + 1, none⟩) (by show g < _; omega)).trans q1⟩ : u.cell? ⟨g, m * 2, none⟩ = some (.bool t.neg) ∧ u.cell? ⟨g, m * 2 + 1, none⟩ = some (.slice t.A t.n t.c)))
        have G0 : Below w2.heap.size w2 w2.drew := Below.drew (Below.refl _ _)
        have hw0 : IntKind.i64.wrap (m : Int) = (m : Int) := IntWalk.i64_in _ (by have := HM.out; omega)
        have hw1 : IntKind.i64.wrap ((j : Int) - 1) = (m : Int) := by rw [IntWalk.i64_in _ (by omega)]; have := HM.out; omega
        have hw2 : (j : Int) - 1 = (m : Int) := by have := HM.out; omega
        have hw3 : (0 : Int) ≤ (m : Int) := by omega
        have hw4 : (m : Int) < (j : Int) := by have := HM.out; omega
        have hw5 : m < j := by have := HM.out; omega
        have hw6 : decide ((m : Int) < (j : Int)) = true := decide_eq_true hw4
        have hw7 : (m : Int).toNat = m := by omega
        clear PA E Hx1 Hx2 TD HZ CH ctop IX IY HBD hlow ox hlt hlz hcap HLA
        go_region_held3 (fun u => u.cell? ⟨g, m * 2, none⟩ = some (.bool t.neg) ∧ u.cell? ⟨g, m * 2 + 1, none⟩ = some (.slice t.A t.n t.c))
          (first | exact HS.out _ (by (repeat (first | with_reducible exact G0 | with_reducible exact B2 | with_reducible exact B1 | with_reducible exact Below.refl _ _ | with_reducible refine Below.drew ?_ | with_reducible refine Below.alloc ?_ (by first | (simp; done) | (simp; omega) | omega) _ | with_reducible refine Below.setCell ?_ (by first | (simp; done) | (simp; omega) | omega) _))) | fail)
          (first
            | (go_at_call 18; (with_reducible refine (iof_any _ (1) (by decide) (by decide)).mono ?_); rintro e u1 ⟨n1, D1, l1, d1, y1, rfl, hm1, hs1, hb1⟩; have B1 : Below w2.heap.size w2 u1 := (by refine bnext ?_ hb1; (repeat (first | with_reducible exact G0 | with_reducible exact B2 | with_reducible exact B1 | with_reducible exact Below.refl _ _ | with_reducible refine Below.drew ?_ | with_reducible refine Below.alloc ?_ (by first | (simp; done) | (simp; omega) | omega) _ | with_reducible refine Below.setCell ?_ (by first | (simp; done) | (simp; omega) | omega) _))); have b1s := B1.size; have J1 := Lib.hid hs1; clear hs1; (first | (have t1 := nqfd hb1; have Q1 := t1.1; have F1n := t1.2; obtain ⟨_, _, _, _, _, _, _, _, _⟩ := id Q1; obtain ⟨_, _, _, _, _⟩ := id F1n) | (have t1 := nfqd hb1; have Q1 := t1.2; have F1n := t1.1; obtain ⟨_, _, _, _, _, _, _, _, _⟩ := id Q1; obtain ⟨_, _, _, _, _⟩ := id F1n) | (have Q1 := nqd hb1; obtain ⟨_, _, _, _, _, _, _, _, _⟩ := id Q1) | (have F1n := nfd hb1; obtain ⟨_, _, _, _, _⟩ := id F1n) | (have t1 := nqf hb1; have Q1 := t1.1; have F1n := t1.2; obtain ⟨_, _, _, _, _, _, _, _, _⟩ := id Q1; obtain ⟨_, _, _, _, _⟩ := id F1n) | (have t1 := nfq hb1; have Q1 := t1.2; have F1n := t1.1; obtain ⟨_, _, _, _, _, _, _, _, _⟩ := id Q1; obtain ⟨_, _, _, _, _⟩ := id F1n) | (have Q1 := nq hb1; obtain ⟨_, _, _, _, _, _, _, _, _⟩ := id Q1) | (have F1n := nf hb1; obtain ⟨_, _, _, _, _⟩ := id F1n) | skip))
            | (go_at_call 17; (with_reducible refine (make1 _ u1.heap.size t la n1 D1 l1 d1 y1 (LRd.more (B := w2.heap.size) (LRd.below HT1 (B' := w2.heap.size) (by (repeat (first | with_reducible exact G0 | with_reducible exact B2 | with_reducible exact B1 | with_reducible exact Below.refl _ _ | with_reducible refine Below.drew ?_ | with_reducible refine Below.alloc ?_ (by first | (simp; done) | (simp; omega) | omega) _ | with_reducible refine Below.setCell ?_ (by first | (simp; done) | (simp; omega) | omega) _))) (Nat.le_refl _)) (by omega)) (LRd.below hm1 (B' := u1.heap.size) (by (repeat (first | with_reducible exact Below.refl _ _ | with_reducible refine Below.alloc ?_ (by first | (simp; done) | (simp; omega) | omega) _))) (Nat.le_refl _)) (by first | (simp; done) | (simp; omega) | omega) IT J1 hla1).mono ?_); rintro e u2 ⟨z, rfl, HZ2, i2, i7, hb2⟩; have I2 := Lib.hid i2; have I7 := Lib.hid i7; clear i2 i7; have K12 : Below u1.heap.size u1 u2 := (by refine bnext ?_ hb2; (repeat (first | with_reducible exact Below.refl _ _ | with_reducible refine Below.alloc ?_ (by first | (simp; done) | (simp; omega) | omega) _))); have B2 : Below w2.heap.size w2 u2 := bnext B1 K12; have b2s := B2.size; (first | (have t2 := nqfd hb2; have Q2 := t2.1; have F2n := t2.2; obtain ⟨_, _, _, _, _, _, _, _, _⟩ := id Q2; obtain ⟨_, _, _, _, _⟩ := id F2n) | (have t2 := nfqd hb2; have Q2 := t2.2; have F2n := t2.1; obtain ⟨_, _, _, _, _, _, _, _, _⟩ := id Q2; obtain ⟨_, _, _, _, _⟩ := id F2n) | (have Q2 := nqd hb2; obtain ⟨_, _, _, _, _, _, _, _, _⟩ := id Q2) | (have F2n := nfd hb2; obtain ⟨_, _, _, _, _⟩ := id F2n) | (have t2 := nqf hb2; have Q2 := t2.1; have F2n := t2.2; obtain ⟨_, _, _, _, _, _, _, _, _⟩ := id Q2; obtain ⟨_, _, _, _, _⟩ := id F2n) | (have t2 := nfq hb2; have Q2 := t2.2; have F2n := t2.1; obtain ⟨_, _, _, _, _, _, _, _, _⟩ := id Q2; obtain ⟨_, _, _, _, _⟩ := id F2n) | (have Q2 := nq hb2; obtain ⟨_, _, _, _, _, _, _, _, _⟩ := id Q2) | (have F2n := nf hb2; obtain ⟨_, _, _, _, _⟩ := id F2n) | skip); (first | (have Q2o := Q1.below K12 Q1.lt; obtain ⟨_, _, _, _, _, _, _, _, _⟩ := id Q2o) | skip); (first | (have F2o := F1n.below K12 F1n.lt; obtain ⟨_, _, _, _, _⟩ := id F2o) | skip))
            | fail)
        all_goals (go_wp2_with fail)
        all_goals go_meet
        all_goals first
          | with_reducible exact pg_aa HZ2 I2 I7 B2
          | with_reducible exact pg_bb HZ2 I2 I7 B2
          | with_reducible exact pg_oa HZ2 I2 I7 B2 (by with_reducible assumption) (by omega)
          | with_reducible exact pg_ao HZ2 I2 I7 B2 (by with_reducible assumption) (by omega)
          | with_reducible exact pg_oo HZ2 I2 I7 B2 (by with_reducible assumption) (by with_reducible assumption) (by omega) (by omega) (by omega)
          | fail
    case rest =>
    obtain ⟨g5, g6, y, rfl, rfl, P5, F6, HY, NY, DY, hg5, hg6, h56, hbX⟩ := hcut
    obtain ⟨V9, hV9⟩ : ∃ y : World, y = wc := ⟨_, rfl⟩
    subst hV9
    have BV := hbX
    have sBV := BV.size
    clear hbX
    have q0 : V9.cell? ⟨g, m * 2, none⟩ = some (.bool t.neg) := (BV.cell (p := ⟨g, m * 2, none⟩) (by show g < _; omega)).trans q0
    have q1 : V9.cell? ⟨g, m * 2 + 1, none⟩ = some (.slice t.A t.n t.c) := (BV.cell (p := ⟨g, m * 2 + 1, none⟩) (by show g < _; omega)).trans q1
    have HT1 : LRd V9 V9.heap.size t.A t.n t.c t.xs := (HT1.below BV (Nat.le_refl _)).more sBV
    have HK := Lib.hid (And.intro E (And.intro PA (And.intro Hx1 (And.intro Hx2 (And.intro TD HZ)))))
    clear E PA Hx1 Hx2 TD HZ
    have hg9 : g < V9.heap.size := by omega
    go_upto_region 9 with fail
    have otk := Lib.hid (show t.ok = true from IT.out.iok hla1.out)
    go_cut [7, 8] (fun s5 s6 wx => CmG V9 la s5 s6 wx)
    case first =>
      as_aux_lemma =>
        have HS := Lib.hid (fun (u : World) (hu : Below V9.heap.size V9 u) => (⟨(hu.cell (p := ⟨g, m * 2, none⟩) (by show g < _; omega)).trans q0, (hu.cell (p := ⟨g, m * 2 + 1, none⟩) (by show g < _; omega)).trans q1⟩ : u.cell? ⟨g, m * 2, none⟩ = some (.bool t.neg) ∧ u.cell? ⟨g, m * 2 + 1, none⟩ = some (.slice t.A t.n t.c)))
        have G0 : Below V9.heap.size V9 V9.drew := Below.drew (Below.refl _ _)
        have hw0 : IntKind.i64.wrap (m : Int) = (m : Int) := IntWalk.i64_in _ (by have := HM.out; omega)
        have hw1 : IntKind.i64.wrap ((j : Int) - 1) = (m : Int) := by rw [IntWalk.i64_in _ (by omega)]; have := HM.out; omega
        have hw2 : (j : Int) - 1 = (m : Int) := by have := HM.out; omega
        have hw3 : (0 : Int) ≤ (m : Int) := by omega
        have hw4 : (m : Int) < (j : Int) := by have := HM.out; omega
        have hw5 : m < j := by have := HM.out; omega
        have hw6 : decide ((m : Int) < (j : Int)) = true := decide_eq_true hw4
        have hw7 : (m : Int).toNat = m := by omega
        clear HK CH ctop IX IY HBD hlow ox hlt hlz hcap HLA P5 F6 HY NY DY
        go_region_held3 (fun u => u.cell? ⟨g, m * 2, none⟩ = some (.bool t.neg) ∧ u.cell? ⟨g, m * 2 + 1, none⟩ = some (.slice t.A t.n t.c))
          (first | exact HS.out _ (by (repeat (first | with_reducible exact G0 | with_reducible exact B2 | with_reducible exact B1 | with_reducible exact Below.refl _ _ | with_reducible refine Below.drew ?_ | with_reducible refine Below.alloc ?_ (by first | (simp; done) | (simp; omega) | omega) _ | with_reducible refine Below.setCell ?_ (by first | (simp; done) | (simp; omega) | omega) _))) | fail)
          (first
            | (go_at_call 18; (with_reducible refine (iof_any _ (1) (by decide) (by decide)).mono ?_); rintro e u1 ⟨n1, D1, l1, d1, y1, rfl, hm1, hs1, hb1⟩; have B1 : Below V9.heap.size V9 u1 := (by refine bnext ?_ hb1; (repeat (first | with_reducible exact G0 | with_reducible exact B2 | with_reducible exact B1 | with_reducible exact Below.refl _ _ | with_reducible refine Below.drew ?_ | with_reducible refine Below.alloc ?_ (by first | (simp; done) | (simp; omega) | omega) _ | with_reducible refine Below.setCell ?_ (by first | (simp; done) | (simp; omega) | omega) _))); have b1s := B1.size; have J1 := Lib.hid hs1; clear hs1; (first | (have F1n := nfd hb1; obtain ⟨_, _, _, _, _⟩ := id F1n) | (have F1n := nf hb1; obtain ⟨_, _, _, _, _⟩ := id F1n) | skip))
            | (go_at_call 19; (with_reducible refine (icmp_ok _ u1.heap.size t (IV.mk n1 D1 l1 d1 y1) (iv_at (LRd.more (B := V9.heap.size) (LRd.below HT1 (B' := V9.heap.size) (by (repeat (first | with_reducible exact G0 | with_reducible exact B2 | with_reducible exact B1 | with_reducible exact Below.refl _ _ | with_reducible refine Below.drew ?_ | with_reducible refine Below.alloc ?_ (by first | (simp; done) | (simp; omega) | omega) _ | with_reducible refine Below.setCell ?_ (by first | (simp; done) | (simp; omega) | omega) _))) (Nat.le_refl _)) (by omega))) (iv_at (a := IV.mk n1 D1 l1 d1 y1) (LRd.below hm1 (B' := u1.heap.size) (by (repeat (first | with_reducible exact Below.refl _ _ | with_reducible refine Below.alloc ?_ (by first | (simp; done) | (simp; omega) | omega) _))) (Nat.le_refl _))) (by first | (simp; done) | (simp; omega) | omega) otk.out (irep_ok J1.out (lt_top (by decide)))).mono ?_); rintro e u2 ⟨r, hic, rfl, hb2⟩; have I2 := Lib.hid (cmp_1 hic IT.out J1.out); clear hic; have hr3 : r = -1 ∨ r = 0 ∨ r = 1 := (by have h9 := I2.out; unfold ICmp at h9; omega); have K12 : Below u1.heap.size u1 u2 := (by refine bnext ?_ hb2; (repeat (first | with_reducible exact Below.refl _ _ | with_reducible refine Below.alloc ?_ (by first | (simp; done) | (simp; omega) | omega) _))); have B2 : Below V9.heap.size V9 u2 := bnext B1 K12; have b2s := B2.size; (first | (have F2n := nf hb2; obtain ⟨_, _, _, _, _⟩ := id F2n) | (have F2n := F1n.below K12 F1n.lt; obtain ⟨_, _, _, _, _⟩ := id F2n) | skip))
            | fail)
        all_goals (go_wp2_with fail)
        all_goals go_meet
        all_goals first
          | with_reducible exact cg_a I2 B2
          | with_reducible exact cg_o I2 B2 (by with_reducible assumption) (by omega)
          | fail
    case rest =>
    obtain ⟨r, g8, rfl, rfl, RC, F8, hg8, hbX⟩ := hcut
    obtain ⟨Va, hVa⟩ : ∃ y : World, y = wc := ⟨_, rfl⟩
    subst hVa
    replace P5 := P5.below hbX P5.lt
    replace F6 := F6.below hbX F6.lt
    have HY1 : LRd Va Va.heap.size y.num.A y.num.n y.num.c y.num.xs := (LRd.below HY.1 hbX (Nat.le_refl _)).more hbX.size
    have HY2 : LRd Va Va.heap.size y.den.A y.den.n y.den.c y.den.xs := (LRd.below HY.2 hbX (Nat.le_refl _)).more hbX.size
    replace BV := BV.trans (hbX.mono sBV)
    have sBa := BV.size
    clear hbX HY HT1 q0 q1 sBV
    have LS := Lib.hid (Chain.last CH.out (m := m) (by have := hlt.out; have := HM.out; have := hlz.out; omega) (by have := hlt.out; have := HM.out; have := hlz.out; omega) hlow.out)
    have hrr : 1 < j → r = 1 := fun h => by
      have h1 := LS.out.2 (by have := HM.out; omega)
      have h2 := HLA.out
      have h3 := RC.out
      unfold ICmp at h3
      omega
    have c80 : Va.cell? ⟨g8, 0, none⟩ = some (.int .i64 0) := F8.c0
    have JJ := Lib.hid (show j = m + 1 from HM.out)
    have hgo : (j : Int) - 2 = (m : Int) - 1 := by have := HM.out; omega
    go_upto_region 10 with fail
    go_cut [65] (fun s65 wx => s65 = .bool false ∧ wx = Va)
    case first =>
      as_aux_lemma =>
        clear HK CH ctop IX IY HBD hlow ox hlt hlz hcap HLA P5 F6 HY1 HY2 NY DY LS BV
        by_cases hj1 : 1 < j
        · obtain rfl := hrr hj1
          have e1 : decide ((1 : Int) < (j : Int)) = true := decide_eq_true (by omega)
          clear hrr hj1 RC
          go_wp2_with fail
          all_goals go_meet
          all_goals exact ⟨rfl, rfl⟩
        · have e1 : decide ((1 : Int) < (j : Int)) = false := decide_eq_false (by omega)
          clear hrr hj1 RC
          go_wp2_with fail
          all_goals go_meet
          all_goals exact ⟨rfl, rfl⟩
    case rest =>
    obtain ⟨rfl, rfl⟩ := hcut
    clear hrr c80 F8 RC
    go_wp2_with fail
    go_loopw [9] (fun i wr => BkRel w2 g5 g6 zs n0 d0 i wr) (fun i _ => (intOf i + 1).toNat)
    case atStart => exact ⟨m, y, la, 1, rfl, by have := hlt.out; have := HM.out; have := hlz.out; omega, P5, F6, HY1, HY2, NY, DY, Lib.hid (by have h1 := LS.out.1; rw [← HLA.out] at h1; exact h1), Lib.hid (by omega), BV⟩
    case round =>
      clear P5 F6 HY1 HY2 NY DY LS BV hgo HLA IT hla1 otk
      obtain ⟨k, y, a, b, rfl, hkz, P5, F6, HY1, HY2, NY, DY, CK, hb0, E⟩ := hrel
      have sE := E.size
      rcases Nat.eq_zero_or_pos k with h0 | h0
      · subst h0
        rw [show ((0 : Nat) : Int) - 1 = -1 from rfl]
        obtain ⟨rfl, rfl⟩ := CK.out
        have E0 := E
        have PA := HK.out.2.1.below E HK.out.2.1.lt
        have Hx1 := (HK.out.2.2.1.below E (by omega)).more (B' := wr.heap.size) (by omega)
        have Hx2 := (HK.out.2.2.2.1.below E (by omega)).more (B' := wr.heap.size) (by omega)
        have EW : Below w.heap.size w wr := HK.out.1.trans (E.mono HK.out.1.size)
        have baa := Lib.hid (show x.num.val.natAbs < Top128 ∧ x.den.val.natAbs < Top128 from ⟨(RV.val ox.out HX).bn, (RV.val ox.out HX).bd⟩)
        have vx := rv_vals IX.out IY.out
        have NYx := Lib.hid (show IRep y.num.neg y.num.xs x.num.val by rw [vx.1]; exact NY.out)
        have DYx := Lib.hid (show IRep y.den.neg y.den.xs x.den.val by rw [vx.2]; exact DY.out)
        clear vx E
        go_upto_region 21 with fail
        have lt_PA := PA.lt
        have lt_P5 := P5.lt
        have lt_F6 := F6.lt
        have HS := Lib.hid (fun (u : World) (hu : Below (wr.heap.size) wr u) => (⟨(hu.cell (p := ⟨w.heap.size, 0, none⟩) (by show w.heap.size < _; omega)).trans PA.c0, (hu.cell (p := ⟨w.heap.size, 1, none⟩) (by show w.heap.size < _; omega)).trans PA.c1, (hu.cell (p := ⟨w.heap.size, 2, none⟩) (by show w.heap.size < _; omega)).trans PA.c2, (hu.cell (p := ⟨w.heap.size, 3, none⟩) (by show w.heap.size < _; omega)).trans PA.c3, (hu.cell (p := ⟨g5, 0, none⟩) (by show g5 < _; omega)).trans P5.c0, (hu.cell (p := ⟨g5, 1, none⟩) (by show g5 < _; omega)).trans P5.c1, (hu.cell (p := ⟨g5, 2, none⟩) (by show g5 < _; omega)).trans P5.c2, (hu.cell (p := ⟨g5, 3, none⟩) (by show g5 < _; omega)).trans P5.c3, (hu.cell (p := ⟨g6, 0, none⟩) (by show g6 < _; omega)).trans F6.c0, (hu.cell (p := ⟨g6, 1, none⟩) (by show g6 < _; omega)).trans F6.c1⟩ : u.cell? ⟨w.heap.size, 0, none⟩ = some (.bool x.num.neg) ∧ u.cell? ⟨w.heap.size, 1, none⟩ = some (.slice x.num.A x.num.n x.num.c) ∧ u.cell? ⟨w.heap.size, 2, none⟩ = some (.bool x.den.neg) ∧ u.cell? ⟨w.heap.size, 3, none⟩ = some (.slice x.den.A x.den.n x.den.c) ∧ u.cell? ⟨g5, 0, none⟩ = some (.bool y.num.neg) ∧ u.cell? ⟨g5, 1, none⟩ = some (.slice y.num.A y.num.n y.num.c) ∧ u.cell? ⟨g5, 2, none⟩ = some (.bool y.den.neg) ∧ u.cell? ⟨g5, 3, none⟩ = some (.slice y.den.A y.den.n y.den.c) ∧ u.cell? ⟨g6, 0, none⟩ = some (.int .i64 0) ∧ u.cell? ⟨g6, 1, none⟩ = some (.int .i64 0)))
        have G0 : Below wr.heap.size wr wr.drew := Below.drew (Below.refl _ _)
        have g0s := G0.size
        have G0m : Below (wr.heap.size) wr wr.drew := G0.mono (by omega)
        go_region_held3 (fun u => u.cell? ⟨w.heap.size, 0, none⟩ = some (.bool x.num.neg) ∧ u.cell? ⟨w.heap.size, 1, none⟩ = some (.slice x.num.A x.num.n x.num.c) ∧ u.cell? ⟨w.heap.size, 2, none⟩ = some (.bool x.den.neg) ∧ u.cell? ⟨w.heap.size, 3, none⟩ = some (.slice x.den.A x.den.n x.den.c) ∧ u.cell? ⟨g5, 0, none⟩ = some (.bool y.num.neg) ∧ u.cell? ⟨g5, 1, none⟩ = some (.slice y.num.A y.num.n y.num.c) ∧ u.cell? ⟨g5, 2, none⟩ = some (.bool y.den.neg) ∧ u.cell? ⟨g5, 3, none⟩ = some (.slice y.den.A y.den.n y.den.c) ∧ u.cell? ⟨g6, 0, none⟩ = some (.int .i64 0) ∧ u.cell? ⟨g6, 1, none⟩ = some (.int .i64 0)) (first | (refine HS.out _ ?_; (repeat (first | with_reducible exact G0m | with_reducible exact BN.mono (by omega) | with_reducible exact B4.mono (by omega) | with_reducible exact B3.mono (by omega) | with_reducible exact B2.mono (by omega) | with_reducible exact B1.mono (by omega) | with_reducible exact Below.refl _ _ | with_reducible refine Below.drew ?_ | with_reducible refine below_drewN ?_ _ | with_reducible refine Below.setCell ?_ (by first | (simp; done) | (simp; omega) | omega) _)); done) | fail)
          (first
            | (go_at_call 13; (with_reducible refine (rok_any _ wr.heap.size x (rv_at ((Hx1.below G0 (by omega)).more (by omega)) ((Hx2.below G0 (by omega)).more (by omega))) (by omega)).mono ?_); rintro e u3 ⟨rfl, hb3⟩; have B3 : Below wr.heap.size wr u3 := bnext G0 hb3; rw [ox.out]; have b3s := B3.size)
            | (go_at_call 12; (with_reducible refine (ratioOf_any _ wr.heap.size x (rv_at ((Hx1.below B3 (by omega)).more (by omega)) ((Hx2.below B3 (by omega)).more (by omega))) (by have := B3.size; omega) ox.out).mono ?_); rintro e u4 ⟨n4, A4, k4, e4, z4, v4, D4, l4, d4, y4, t4, rfl, hd4, hg4, hr4, hs4, hv4, hw4, hb4⟩; have B4 : Below wr.heap.size wr u4 := bnext B3 hb4; have R4 := Lib.hid hr4; have S4 := Lib.hid hs4; have T4 := Lib.hid hv4; have U4 := Lib.hid (show sval false t4 = x.den.val from hw4); clear hr4 hs4 hv4 hw4; have b4s := B4.size)
            | (go_at_call 11; (with_reducible refine (sameRatio_any _ u4.heap.size y n4 A4 D4 k4 e4 l4 d4 v4 t4 x.num.val x.den.val z4 y4 (rv_at ((HY1.below B4 (by omega)).more (by omega)) ((HY2.below B4 (by omega)).more (by omega))) hd4 hg4 (Nat.le_refl _) NYx DYx R4 S4 T4 U4 (ref_len R4.out T4.out hd4.len.out baa.out.1) (ref_len (m := false) S4.out U4.out hg4.len.out baa.out.2)).mono ?_); rintro e u5 ⟨rfl, hb5⟩; have BN : Below wr.heap.size wr u5 := bnext B4 hb5; have b5s := BN.size)
            | fail)
        all_goals (go_wp2_with fail)
        all_goals go_ret
        all_goals exact ⟨rfl, EW.trans (BN.mono EW.size)⟩
      · obtain ⟨k, rfl⟩ : ∃ i, k = i + 1 := ⟨k - 1, by omega⟩
        have ei : ((k + 1 : Nat) : Int) - 1 = (k : Int) := by omega
        rw [ei]
        clear ei h0
        have hk4 : k < 400 := by have := hlt.out; have := hlz.out; omega
        have hkj : k < j := by have := hlt.out; have := hlz.out; omega
        obtain ⟨a2, b2, CK2, hb2, hl2, rfl, rfl⟩ := Chain.step (by omega) CK.out
        have CKH := Lib.hid CK2
        have HB2 := Lib.hid hb2
        have HL2 := Lib.hid hl2
        have BD2 := Lib.hid (Chain.bd _ _ _ _ _ (by omega) CK2)
        have LO2 := Lib.hid (Chain.low _ _ _ _ _ CK2)
        clear CK2 hb2 hl2 CK
        have t_F60 : wr.cell? ⟨g6, 0, none⟩ = some ((.int .i64 0)) := F6.c0
        have t_F61 : wr.cell? ⟨g6, 1, none⟩ = some ((.int .i64 0)) := F6.c1
        go_wp2_with fail
        clear t_F60 t_F61
        (with_reducible refine (iof_any _ (1) (by decide) (by decide)).mono ?_)
        rintro e w11 ⟨m11, A11, k11, c11, x11, rfl, hl11, hr11, hc11⟩
        have sw11 := hc11.size
        replace E : Below w2.heap.size w2 w11 := E.trans (hc11.mono E.size)
        replace P5 : Bk4 w11 (g5) (.bool y.num.neg) (.slice y.num.A y.num.n y.num.c) (.bool y.den.neg) (.slice y.den.A y.den.n y.den.c) := P5.below hc11 P5.lt
        replace F6 : Bk2 w11 (g6) (.int .i64 0) (.int .i64 0) := F6.below hc11 F6.lt
        replace HY1 : LRd w11 (wr.heap.size) y.num.A y.num.n y.num.c y.num.xs := HY1.below hc11 (by omega)
        replace HY2 : LRd w11 (wr.heap.size) y.den.A y.den.n y.den.c y.den.xs := HY2.below hc11 (by omega)
        clear hc11
        have I11 := Lib.hid hr11
        clear hr11
        go_wp2_with fail
        (with_reducible refine (iof_any _ (1) (by decide) (by decide)).mono ?_)
        rintro e w12 ⟨m12, A12, k12, c12, x12, rfl, hl12, hr12, hc12⟩
        have sw12 := hc12.size
        replace E : Below w2.heap.size w2 w12 := E.trans (hc12.mono E.size)
        replace P5 : Bk4 w12 (g5) (.bool y.num.neg) (.slice y.num.A y.num.n y.num.c) (.bool y.den.neg) (.slice y.den.A y.den.n y.den.c) := P5.below hc12 P5.lt
        replace F6 : Bk2 w12 (g6) (.int .i64 0) (.int .i64 0) := F6.below hc12 F6.lt
        replace HY1 : LRd w12 (wr.heap.size) y.num.A y.num.n y.num.c y.num.xs := HY1.below hc12 (by omega)
        replace HY2 : LRd w12 (wr.heap.size) y.den.A y.den.n y.den.c y.den.xs := HY2.below hc12 (by omega)
        replace hl11 : LRd w12 (w11.heap.size) A11 k11 c11 x11 := hl11.below hc12 (by omega)
        clear hc12
        have I12 := Lib.hid hr12
        clear hr12
        go_wp2_with fail
        (with_reducible refine (make1 _ w12.heap.size (IV.mk m11 A11 k11 c11 x11) 1 m12 A12 k12 c12 x12 (hl11.more (by omega)) hl12 (Nat.le_refl _) I11 I12 (Lib.hid (lt_top (by decide)))).mono ?_)
        rintro e w13 ⟨o, rfl, ho, no, do', hc13⟩
        have sw13 := hc13.size
        replace E : Below w2.heap.size w2 w13 := E.trans (hc13.mono E.size)
        replace P5 : Bk4 w13 (g5) (.bool y.num.neg) (.slice y.num.A y.num.n y.num.c) (.bool y.den.neg) (.slice y.den.A y.den.n y.den.c) := P5.below hc13 P5.lt
        replace F6 : Bk2 w13 (g6) (.int .i64 0) (.int .i64 0) := F6.below hc13 F6.lt
        replace HY1 : LRd w13 (wr.heap.size) y.num.A y.num.n y.num.c y.num.xs := HY1.below hc13 (by omega)
        replace HY2 : LRd w13 (wr.heap.size) y.den.A y.den.n y.den.c y.den.xs := HY2.below hc13 (by omega)
        replace hl11 : LRd w13 (w11.heap.size) A11 k11 c11 x11 := hl11.below hc13 (by omega)
        replace hl12 : LRd w13 (w12.heap.size) A12 k12 c12 x12 := hl12.below hc13 (by omega)
        clear hc13
        skip
        have No := Lib.hid no
        have Do := Lib.hid do'
        have Ho1 : LRd w13 w13.heap.size o.num.A o.num.n o.num.c o.num.xs := ho.1
        have Ho2 : LRd w13 w13.heap.size o.den.A o.den.n o.den.c o.den.xs := ho.2
        clear no do' ho
        clear hl11 hl12
        have t_P50 : ((w13.alloc (.cells #[.bool o.num.neg, .slice o.num.A o.num.n o.num.c, .bool o.den.neg, .slice o.den.A o.den.n o.den.c] 26)).alloc (.cells #[.int .i64 0, .int .i64 0] 29)).cell? ⟨g5, 0, none⟩ = some ((.bool y.num.neg)) := ((P5.alloc _).alloc _).c0
        have t_P51 : ((w13.alloc (.cells #[.bool o.num.neg, .slice o.num.A o.num.n o.num.c, .bool o.den.neg, .slice o.den.A o.den.n o.den.c] 26)).alloc (.cells #[.int .i64 0, .int .i64 0] 29)).cell? ⟨g5, 1, none⟩ = some ((.slice y.num.A y.num.n y.num.c)) := ((P5.alloc _).alloc _).c1
        have t_P52 : ((w13.alloc (.cells #[.bool o.num.neg, .slice o.num.A o.num.n o.num.c, .bool o.den.neg, .slice o.den.A o.den.n o.den.c] 26)).alloc (.cells #[.int .i64 0, .int .i64 0] 29)).cell? ⟨g5, 2, none⟩ = some ((.bool y.den.neg)) := ((P5.alloc _).alloc _).c2
        have t_P53 : ((w13.alloc (.cells #[.bool o.num.neg, .slice o.num.A o.num.n o.num.c, .bool o.den.neg, .slice o.den.A o.den.n o.den.c] 26)).alloc (.cells #[.int .i64 0, .int .i64 0] 29)).cell? ⟨g5, 3, none⟩ = some ((.slice y.den.A y.den.n y.den.c)) := ((P5.alloc _).alloc _).c3
        go_wp2_with fail
        clear t_P50 t_P51 t_P52 t_P53
        obtain ⟨V3, hV3⟩ : ∃ V3 : World, V3 = ((w13.alloc (.cells #[.bool o.num.neg, .slice o.num.A o.num.n o.num.c, .bool o.den.neg, .slice o.den.A o.den.n o.den.c] 26)).alloc (.cells #[.int .i64 0, .int .i64 0] 29)) := ⟨_, rfl⟩
        have bV3 : Below w13.heap.size w13 V3 := by rw [hV3]; (repeat (first | with_reducible exact Below.refl _ _ | with_reducible refine Below.drew ?_ | with_reducible refine below_drewN ?_ _ | with_reducible refine Below.setCell ?_ (by first | (simp; done) | (simp; omega) | omega) _ | with_reducible refine Below.alloc ?_ (by first | (simp; done) | (simp; omega) | omega) _))
        have zV3 : w13.heap.size + 2 ≤ V3.heap.size := by rw [hV3]; simp
        have P10 : Bk4 V3 (w13.heap.size) (.bool o.num.neg) (.slice o.num.A o.num.n o.num.c) (.bool o.den.neg) (.slice o.den.A o.den.n o.den.c) := by rw [hV3]; exact ((Bk4.newAt _ _ (by first | omega | (simp; done) | (simp; omega)) _ _ _ _ _).alloc _)
        have F11 : Bk2 V3 (w13.heap.size + 1) (.int .i64 0) (.int .i64 0) := by rw [hV3]; exact (Bk2.newAt _ _ (by first | omega | (simp; done) | (simp; omega)) _ _ _)
        rw [← hV3]
        clear hV3
        replace E : Below w2.heap.size w2 V3 := E.trans (bV3.mono E.size)
        replace P5 : Bk4 V3 (g5) (.bool y.num.neg) (.slice y.num.A y.num.n y.num.c) (.bool y.den.neg) (.slice y.den.A y.den.n y.den.c) := P5.below bV3 P5.lt
        replace F6 : Bk2 V3 (g6) (.int .i64 0) (.int .i64 0) := F6.below bV3 F6.lt
        replace HY1 : LRd V3 (wr.heap.size) y.num.A y.num.n y.num.c y.num.xs := HY1.below bV3 (by omega)
        replace HY2 : LRd V3 (wr.heap.size) y.den.A y.den.n y.den.c y.den.xs := HY2.below bV3 (by omega)
        replace Ho1 : LRd V3 (w13.heap.size) o.num.A o.num.n o.num.c o.num.xs := Ho1.below bV3 (by omega)
        replace Ho2 : LRd V3 (w13.heap.size) o.den.A o.den.n o.den.c o.den.xs := Ho2.below bV3 (by omega)
        clear bV3
        (with_reducible refine (div1 _ V3.heap.size o y a (a2 % a) (rv_at (Ho1.more (by omega)) (Ho2.more (by omega))) (rv_at (HY1.more (by omega)) (HY2.more (by omega))) (Nat.le_refl _) No Do NY DY HB2.out hb0.out (by have := BD2.out; have := HBD.out; omega) (by have := BD2.out; have := HBD.out; have := hb0.out; have := HB2.out; have := Int.emod_lt_of_pos a2 HB2.out; omega) (gcd_step (by have h1 := LO2.out; rw [hlow.out] at h1; exact h1))).mono ?_)
        rintro e w14 ⟨z, rfl, hz, nz, dz, hc14⟩
        have sw14 := hc14.size
        replace E : Below w2.heap.size w2 w14 := E.trans (hc14.mono E.size)
        replace P5 : Bk4 w14 (g5) (.bool y.num.neg) (.slice y.num.A y.num.n y.num.c) (.bool y.den.neg) (.slice y.den.A y.den.n y.den.c) := P5.below hc14 P5.lt
        replace F6 : Bk2 w14 (g6) (.int .i64 0) (.int .i64 0) := F6.below hc14 F6.lt
        replace HY1 : LRd w14 (wr.heap.size) y.num.A y.num.n y.num.c y.num.xs := HY1.below hc14 (by omega)
        replace HY2 : LRd w14 (wr.heap.size) y.den.A y.den.n y.den.c y.den.xs := HY2.below hc14 (by omega)
        replace Ho1 : LRd w14 (w13.heap.size) o.num.A o.num.n o.num.c o.num.xs := Ho1.below hc14 (by omega)
        replace Ho2 : LRd w14 (w13.heap.size) o.den.A o.den.n o.den.c o.den.xs := Ho2.below hc14 (by omega)
        replace P10 : Bk4 w14 (w13.heap.size) (.bool o.num.neg) (.slice o.num.A o.num.n o.num.c) (.bool o.den.neg) (.slice o.den.A o.den.n o.den.c) := P10.below hc14 P10.lt
        replace F11 : Bk2 w14 (w13.heap.size + 1) (.int .i64 0) (.int .i64 0) := F11.below hc14 F11.lt
        clear hc14
        have Nz := Lib.hid nz
        have Dz := Lib.hid dz
        have Hz1 : LRd w14 w14.heap.size z.num.A z.num.n z.num.c z.num.xs := hz.1
        have Hz2 : LRd w14 w14.heap.size z.den.A z.den.n z.den.c z.den.xs := hz.2
        clear nz dz hz
        go_upto_region 17 with fail
        obtain ⟨V4, hV4⟩ : ∃ V4 : World, V4 = ((w14.alloc (.cells #[.bool z.num.neg, .slice z.num.A z.num.n z.num.c, .bool z.den.neg, .slice z.den.A z.den.n z.den.c] 26)).alloc (.cells #[.int .i64 0, .int .i64 0] 29)) := ⟨_, rfl⟩
        have bV4 : Below w14.heap.size w14 V4 := by rw [hV4]; (repeat (first | with_reducible exact Below.refl _ _ | with_reducible refine Below.drew ?_ | with_reducible refine below_drewN ?_ _ | with_reducible refine Below.setCell ?_ (by first | (simp; done) | (simp; omega) | omega) _ | with_reducible refine Below.alloc ?_ (by first | (simp; done) | (simp; omega) | omega) _))
        have zV4 : w14.heap.size + 2 ≤ V4.heap.size := by rw [hV4]; simp
        have P12 : Bk4 V4 (w14.heap.size) (.bool z.num.neg) (.slice z.num.A z.num.n z.num.c) (.bool z.den.neg) (.slice z.den.A z.den.n z.den.c) := by rw [hV4]; exact ((Bk4.newAt _ _ (by first | omega | (simp; done) | (simp; omega)) _ _ _ _ _).alloc _)
        have F13 : Bk2 V4 (w14.heap.size + 1) (.int .i64 0) (.int .i64 0) := by rw [hV4]; exact (Bk2.newAt _ _ (by first | omega | (simp; done) | (simp; omega)) _ _ _)
        rw [← hV4]
        clear hV4
        replace E : Below w2.heap.size w2 V4 := E.trans (bV4.mono E.size)
        replace P5 : Bk4 V4 (g5) (.bool y.num.neg) (.slice y.num.A y.num.n y.num.c) (.bool y.den.neg) (.slice y.den.A y.den.n y.den.c) := P5.below bV4 P5.lt
        replace F6 : Bk2 V4 (g6) (.int .i64 0) (.int .i64 0) := F6.below bV4 F6.lt
        replace HY1 : LRd V4 (wr.heap.size) y.num.A y.num.n y.num.c y.num.xs := HY1.below bV4 (by omega)
        replace HY2 : LRd V4 (wr.heap.size) y.den.A y.den.n y.den.c y.den.xs := HY2.below bV4 (by omega)
        replace Ho1 : LRd V4 (w13.heap.size) o.num.A o.num.n o.num.c o.num.xs := Ho1.below bV4 (by omega)
        replace Ho2 : LRd V4 (w13.heap.size) o.den.A o.den.n o.den.c o.den.xs := Ho2.below bV4 (by omega)
        replace P10 : Bk4 V4 (w13.heap.size) (.bool o.num.neg) (.slice o.num.A o.num.n o.num.c) (.bool o.den.neg) (.slice o.den.A o.den.n o.den.c) := P10.below bV4 P10.lt
        replace F11 : Bk2 V4 (w13.heap.size + 1) (.int .i64 0) (.int .i64 0) := F11.below bV4 F11.lt
        replace Hz1 : LRd V4 (w14.heap.size) z.num.A z.num.n z.num.c z.num.xs := Hz1.below bV4 (by omega)
        replace Hz2 : LRd V4 (w14.heap.size) z.den.A z.den.n z.den.c z.den.xs := Hz2.below bV4 (by omega)
        clear bV4
        clear HY1 HY2 Ho1 Ho2 P10
        have TD := HK.out.2.2.2.2.1.below E (Nat.le_refl _)
        have HZ : Trs V4 ts zs := HK.out.2.2.2.2.2.go (fun H => (H.below E (Nat.le_refl _)).more E.size)
        have hcl := TDcell rfl TD (i := k) (by have := hlt.out; omega)
        obtain ⟨tt, htt⟩ : ∃ t, t = ts[k]'(by have := hlt.out; omega) := ⟨_, rfl⟩
        obtain ⟨lb, hlb⟩ : ∃ z, z = zs[k]'(by omega) := ⟨_, rfl⟩
        have htr := HZ.2 k (by have := hlt.out; omega) (by omega)
        rw [← htt] at hcl htr
        rw [← hlb] at htr
        have HT1 : LRd V4 V4.heap.size tt.A tt.n tt.c tt.xs := htr.1
        have IT := Lib.hid htr.2
        have HLB := Lib.hid hlb
        have q0 : V4.cell? ⟨g, k * 2, none⟩ = some (.bool tt.neg) := hcl.2.1
        have q1 : V4.cell? ⟨g, k * 2 + 1, none⟩ = some (.slice tt.A tt.n tt.c) := hcl.2.2
        have hg17 : g < V4.heap.size := hcl.1
        have hla1 := Lib.hid (show lb.natAbs < Top128 by rw [HLB.out]; exact ctop.out _ _)
        clear hcl htr htt hlb TD HZ
        go_cut [14, 15] (fun s5 s6 wx => PtG V4 lb 1 s5 s6 wx)
        case first =>
          as_aux_lemma =>
            have HS := Lib.hid (fun (u : World) (hu : Below V4.heap.size V4 u) => (⟨(hu.cell (p := ⟨g, k * 2, none⟩) (by show g < _; omega)).trans q0, (hu.cell (p := ⟨g, k * 2 + 1, none⟩) (by show g < _; omega)).trans q1⟩ : u.cell? ⟨g, k * 2, none⟩ = some (.bool tt.neg) ∧ u.cell? ⟨g, k * 2 + 1, none⟩ = some (.slice tt.A tt.n tt.c)))
            have G0 : Below V4.heap.size V4 V4.drew := Below.drew (Below.refl _ _)
            have hw3 : (0 : Int) ≤ (k : Int) := by omega
            have hw4 : (k : Int) < (j : Int) := by omega
            have hw6 : decide ((k : Int) < (j : Int)) = true := decide_eq_true hw4
            have hw7 : (k : Int).toNat = k := by omega
            clear HK CH ctop IX IY HBD hlow ox hlt hlz hcap P5 F6 NY DY E P12 F11 F13 Hz1 Hz2 No Do Nz Dz CKH HB2 HL2 BD2 LO2 HLB
            go_region_held3 (fun u => u.cell? ⟨g, k * 2, none⟩ = some (.bool tt.neg) ∧ u.cell? ⟨g, k * 2 + 1, none⟩ = some (.slice tt.A tt.n tt.c))
              (first | exact HS.out _ (by (repeat (first | with_reducible exact G0 | with_reducible exact B2 | with_reducible exact B1 | with_reducible exact Below.refl _ _ | with_reducible refine Below.drew ?_ | with_reducible refine Below.alloc ?_ (by first | (simp; done) | (simp; omega) | omega) _ | with_reducible refine Below.setCell ?_ (by first | (simp; done) | (simp; omega) | omega) _))) | fail)
              (first
                | (go_at_call 18; (with_reducible refine (iof_any _ (1) (by decide) (by decide)).mono ?_); rintro e u1 ⟨n1, D1, l1, d1, y1, rfl, hm1, hs1, hb1⟩; have B1 : Below V4.heap.size V4 u1 := (by refine bnext ?_ hb1; (repeat (first | with_reducible exact G0 | with_reducible exact B2 | with_reducible exact B1 | with_reducible exact Below.refl _ _ | with_reducible refine Below.drew ?_ | with_reducible refine Below.alloc ?_ (by first | (simp; done) | (simp; omega) | omega) _ | with_reducible refine Below.setCell ?_ (by first | (simp; done) | (simp; omega) | omega) _))); have b1s := B1.size; have J1 := Lib.hid hs1; clear hs1; (first | (have t1 := nqfd hb1; have Q1 := t1.1; have F1n := t1.2; obtain ⟨_, _, _, _, _, _, _, _, _⟩ := id Q1; obtain ⟨_, _, _, _, _⟩ := id F1n) | (have t1 := nfqd hb1; have Q1 := t1.2; have F1n := t1.1; obtain ⟨_, _, _, _, _, _, _, _, _⟩ := id Q1; obtain ⟨_, _, _, _, _⟩ := id F1n) | (have Q1 := nqd hb1; obtain ⟨_, _, _, _, _, _, _, _, _⟩ := id Q1) | (have F1n := nfd hb1; obtain ⟨_, _, _, _, _⟩ := id F1n) | (have t1 := nqf hb1; have Q1 := t1.1; have F1n := t1.2; obtain ⟨_, _, _, _, _, _, _, _, _⟩ := id Q1; obtain ⟨_, _, _, _, _⟩ := id F1n) | (have t1 := nfq hb1; have Q1 := t1.2; have F1n := t1.1; obtain ⟨_, _, _, _, _, _, _, _, _⟩ := id Q1; obtain ⟨_, _, _, _, _⟩ := id F1n) | (have Q1 := nq hb1; obtain ⟨_, _, _, _, _, _, _, _, _⟩ := id Q1) | (have F1n := nf hb1; obtain ⟨_, _, _, _, _⟩ := id F1n) | skip))
                | (go_at_call 17; (with_reducible refine (make1 _ u1.heap.size tt lb n1 D1 l1 d1 y1 (LRd.more (B := V4.heap.size) (LRd.below HT1 (B' := V4.heap.size) (by (repeat (first | with_reducible exact G0 | with_reducible exact B2 | with_reducible exact B1 | with_reducible exact Below.refl _ _ | with_reducible refine Below.drew ?_ | with_reducible refine Below.alloc ?_ (by first | (simp; done) | (simp; omega) | omega) _ | with_reducible refine Below.setCell ?_ (by first | (simp; done) | (simp; omega) | omega) _))) (Nat.le_refl _)) (by omega)) (LRd.below hm1 (B' := u1.heap.size) (by (repeat (first | with_reducible exact Below.refl _ _ | with_reducible refine Below.alloc ?_ (by first | (simp; done) | (simp; omega) | omega) _))) (Nat.le_refl _)) (by first | (simp; done) | (simp; omega) | omega) IT J1 hla1).mono ?_); rintro e u2 ⟨z, rfl, HZ2, i2, i7, hb2⟩; have I2 := Lib.hid i2; have I7 := Lib.hid i7; clear i2 i7; have K12 : Below u1.heap.size u1 u2 := (by refine bnext ?_ hb2; (repeat (first | with_reducible exact Below.refl _ _ | with_reducible refine Below.alloc ?_ (by first | (simp; done) | (simp; omega) | omega) _))); have B2 : Below V4.heap.size V4 u2 := bnext B1 K12; have b2s := B2.size; (first | (have t2 := nqfd hb2; have Q2 := t2.1; have F2n := t2.2; obtain ⟨_, _, _, _, _, _, _, _, _⟩ := id Q2; obtain ⟨_, _, _, _, _⟩ := id F2n) | (have t2 := nfqd hb2; have Q2 := t2.2; have F2n := t2.1; obtain ⟨_, _, _, _, _, _, _, _, _⟩ := id Q2; obtain ⟨_, _, _, _, _⟩ := id F2n) | (have Q2 := nqd hb2; obtain ⟨_, _, _, _, _, _, _, _, _⟩ := id Q2) | (have F2n := nfd hb2; obtain ⟨_, _, _, _, _⟩ := id F2n) | (have t2 := nqf hb2; have Q2 := t2.1; have F2n := t2.2; obtain ⟨_, _, _, _, _, _, _, _, _⟩ := id Q2; obtain ⟨_, _, _, _, _⟩ := id F2n) | (have t2 := nfq hb2; have Q2 := t2.2; have F2n := t2.1; obtain ⟨_, _, _, _, _, _, _, _, _⟩ := id Q2; obtain ⟨_, _, _, _, _⟩ := id F2n) | (have Q2 := nq hb2; obtain ⟨_, _, _, _, _, _, _, _, _⟩ := id Q2) | (have F2n := nf hb2; obtain ⟨_, _, _, _, _⟩ := id F2n) | skip); (first | (have Q2o := Q1.below K12 Q1.lt; obtain ⟨_, _, _, _, _, _, _, _, _⟩ := id Q2o) | skip); (first | (have F2o := F1n.below K12 F1n.lt; obtain ⟨_, _, _, _, _⟩ := id F2o) | skip))
                | fail)
            all_goals (go_wp2_with fail)
            all_goals go_meet
            all_goals first
              | with_reducible exact pg_aa HZ2 I2 I7 B2
              | with_reducible exact pg_bb HZ2 I2 I7 B2
              | with_reducible exact pg_oa HZ2 I2 I7 B2 (by with_reducible assumption) (by omega)
              | with_reducible exact pg_ao HZ2 I2 I7 B2 (by with_reducible assumption) (by omega)
              | with_reducible exact pg_oo HZ2 I2 I7 B2 (by with_reducible assumption) (by with_reducible assumption) (by omega) (by omega) (by omega)
              | fail
        case rest =>
        obtain ⟨g14, g15, v, rfl, rfl, P14, F15, HV, NV, DV, hg14, hg15, h1415, hbX⟩ := hcut
        replace E : Below w2.heap.size w2 wc := E.trans (hbX.mono E.size)
        replace P5 : Bk4 wc (g5) (.bool y.num.neg) (.slice y.num.A y.num.n y.num.c) (.bool y.den.neg) (.slice y.den.A y.den.n y.den.c) := P5.below hbX P5.lt
        replace F6 : Bk2 wc (g6) (.int .i64 0) (.int .i64 0) := F6.below hbX F6.lt
        replace F11 : Bk2 wc (w13.heap.size + 1) (.int .i64 0) (.int .i64 0) := F11.below hbX F11.lt
        replace Hz1 : LRd wc (w14.heap.size) z.num.A z.num.n z.num.c z.num.xs := Hz1.below hbX (by omega)
        replace Hz2 : LRd wc (w14.heap.size) z.den.A z.den.n z.den.c z.den.xs := Hz2.below hbX (by omega)
        replace P12 : Bk4 wc (w14.heap.size) (.bool z.num.neg) (.slice z.num.A z.num.n z.num.c) (.bool z.den.neg) (.slice z.den.A z.den.n z.den.c) := P12.below hbX P12.lt
        replace F13 : Bk2 wc (w14.heap.size + 1) (.int .i64 0) (.int .i64 0) := F13.below hbX F13.lt
        have sX := hbX.size
        clear hbX q0 q1 HT1
        obtain ⟨Vb, hVb⟩ : ∃ y : World, y = wc := ⟨_, rfl⟩
        subst hVb
        have HV1 : LRd Vb Vb.heap.size v.num.A v.num.n v.num.c v.num.xs := HV.1
        have HV2 : LRd Vb Vb.heap.size v.den.A v.den.n v.den.c v.den.xs := HV.2
        clear HV
        have t_F110 : Vb.cell? ⟨w13.heap.size + 1, 0, none⟩ = some ((.int .i64 0)) := F11.c0
        have t_F111 : Vb.cell? ⟨w13.heap.size + 1, 1, none⟩ = some ((.int .i64 0)) := F11.c1
        have t_F130 : Vb.cell? ⟨w14.heap.size + 1, 0, none⟩ = some ((.int .i64 0)) := F13.c0
        have t_F131 : Vb.cell? ⟨w14.heap.size + 1, 1, none⟩ = some ((.int .i64 0)) := F13.c1
        have t_F150 : Vb.cell? ⟨g15, 0, none⟩ = some ((.int .i64 0)) := F15.c0
        have t_F151 : Vb.cell? ⟨g15, 1, none⟩ = some ((.int .i64 0)) := F15.c1
        have t_P140 : Vb.cell? ⟨g14, 0, none⟩ = some ((.bool v.num.neg)) := P14.c0
        have t_P141 : Vb.cell? ⟨g14, 1, none⟩ = some ((.slice v.num.A v.num.n v.num.c)) := P14.c1
        have t_P142 : Vb.cell? ⟨g14, 2, none⟩ = some ((.bool v.den.neg)) := P14.c2
        have t_P143 : Vb.cell? ⟨g14, 3, none⟩ = some ((.slice v.den.A v.den.n v.den.c)) := P14.c3
        have t_P120 : Vb.cell? ⟨w14.heap.size, 0, none⟩ = some ((.bool z.num.neg)) := P12.c0
        have t_P121 : Vb.cell? ⟨w14.heap.size, 1, none⟩ = some ((.slice z.num.A z.num.n z.num.c)) := P12.c1
        have t_P122 : Vb.cell? ⟨w14.heap.size, 2, none⟩ = some ((.bool z.den.neg)) := P12.c2
        have t_P123 : Vb.cell? ⟨w14.heap.size, 3, none⟩ = some ((.slice z.den.A z.den.n z.den.c)) := P12.c3
        go_wp2_with fail
        clear t_F110 t_F111 t_F130 t_F131 t_F150 t_F151 t_P140 t_P141 t_P142 t_P143 t_P120 t_P121 t_P122 t_P123
        (with_reducible refine (add1 _ Vb.heap.size v z lb a (a2 % a) a2 (rv_at HV1 HV2) (rv_at (Hz1.more (by omega)) (Hz2.more (by omega))) (Nat.le_refl _) NV DV Nz Dz HB2.out (by rw [HLB.out, HL2.out, Int.mul_comm]; exact (Int.mul_ediv_add_emod a2 a)) (by have := BD2.out; have := HBD.out; omega) (by have := BD2.out; have := HBD.out; omega) (by have h1 := LO2.out; rw [hlow.out] at h1; exact h1) hla1.out (by have := hb0.out; have := Int.emod_lt_of_pos a2 HB2.out; have := BD2.out; have := HBD.out; omega)).mono ?_)
        rintro e w16 ⟨s, rfl, hs, ns, ds, hc16⟩
        have sw16 := hc16.size
        replace E : Below w2.heap.size w2 w16 := E.trans (hc16.mono E.size)
        replace P5 : Bk4 w16 (g5) (.bool y.num.neg) (.slice y.num.A y.num.n y.num.c) (.bool y.den.neg) (.slice y.den.A y.den.n y.den.c) := P5.below hc16 P5.lt
        replace F6 : Bk2 w16 (g6) (.int .i64 0) (.int .i64 0) := F6.below hc16 F6.lt
        replace F11 : Bk2 w16 (w13.heap.size + 1) (.int .i64 0) (.int .i64 0) := F11.below hc16 F11.lt
        replace Hz1 : LRd w16 (w14.heap.size) z.num.A z.num.n z.num.c z.num.xs := Hz1.below hc16 (by omega)
        replace Hz2 : LRd w16 (w14.heap.size) z.den.A z.den.n z.den.c z.den.xs := Hz2.below hc16 (by omega)
        replace P12 : Bk4 w16 (w14.heap.size) (.bool z.num.neg) (.slice z.num.A z.num.n z.num.c) (.bool z.den.neg) (.slice z.den.A z.den.n z.den.c) := P12.below hc16 P12.lt
        replace F13 : Bk2 w16 (w14.heap.size + 1) (.int .i64 0) (.int .i64 0) := F13.below hc16 F13.lt
        replace HV1 : LRd w16 (Vb.heap.size) v.num.A v.num.n v.num.c v.num.xs := HV1.below hc16 (by omega)
        replace HV2 : LRd w16 (Vb.heap.size) v.den.A v.den.n v.den.c v.den.xs := HV2.below hc16 (by omega)
        replace P14 : Bk4 w16 (g14) (.bool v.num.neg) (.slice v.num.A v.num.n v.num.c) (.bool v.den.neg) (.slice v.den.A v.den.n v.den.c) := P14.below hc16 P14.lt
        replace F15 : Bk2 w16 (g15) (.int .i64 0) (.int .i64 0) := F15.below hc16 F15.lt
        clear hc16
        have Ns := Lib.hid ns
        have Ds := Lib.hid ds
        have Hs1 : LRd w16 w16.heap.size s.num.A s.num.n s.num.c s.num.xs := hs.1
        have Hs2 : LRd w16 w16.heap.size s.den.A s.den.n s.den.c s.den.xs := hs.2
        clear ns ds hs
        clear HV1 HV2 Hz1 Hz2 P14 F15 P12 F13 F11
        have y_P50 : w16.cell? ⟨g5, 0, none⟩ = some ((.bool y.num.neg)) := P5.c0
        have z_P50 : w16.frozen? ⟨g5, 0, none⟩ = false := P5.z0
        have y_P51 : w16.cell? ⟨g5, 1, none⟩ = some ((.slice y.num.A y.num.n y.num.c)) := P5.c1
        have z_P51 : w16.frozen? ⟨g5, 1, none⟩ = false := P5.z1
        have y_P52 : w16.cell? ⟨g5, 2, none⟩ = some ((.bool y.den.neg)) := P5.c2
        have z_P52 : w16.frozen? ⟨g5, 2, none⟩ = false := P5.z2
        have y_P53 : w16.cell? ⟨g5, 3, none⟩ = some ((.slice y.den.A y.den.n y.den.c)) := P5.c3
        have z_P53 : w16.frozen? ⟨g5, 3, none⟩ = false := P5.z3
        have lt_P5 := P5.lt
        have y_F60 : w16.cell? ⟨g6, 0, none⟩ = some ((.int .i64 0)) := F6.c0
        have z_F60 : w16.frozen? ⟨g6, 0, none⟩ = false := F6.z0
        have y_F61 : w16.cell? ⟨g6, 1, none⟩ = some ((.int .i64 0)) := F6.c1
        have z_F61 : w16.frozen? ⟨g6, 1, none⟩ = false := F6.z1
        have lt_F6 := F6.lt
        go_wp2_with fail
        clear y_P50 z_P50 y_P51 z_P51 y_P52 z_P52 y_P53 z_P53 lt_P5 y_F60 z_F60 y_F61 z_F61 lt_F6
        obtain ⟨U6P5, hU6P5⟩ : ∃ U6P5 : World, U6P5 = ((((w16.setCell ⟨g5, 0, none⟩ (.bool s.num.neg)).setCell ⟨g5, 1, none⟩ (.slice s.num.A s.num.n s.num.c)).setCell ⟨g5, 2, none⟩ (.bool s.den.neg)).setCell ⟨g5, 3, none⟩ (.slice s.den.A s.den.n s.den.c)) := ⟨_, rfl⟩
        have zU6P5 : U6P5.heap.size = w16.heap.size := by rw [hU6P5]; simp [World.setCell]
        replace E : Below w2.heap.size w2 U6P5 := by rw [hU6P5]; exact ((((E.setCell (by first | (simp; done) | (simp; omega)) _).setCell (by first | (simp; done) | (simp; omega)) _).setCell (by first | (simp; done) | (simp; omega)) _).setCell (by first | (simp; done) | (simp; omega)) _)
        replace F6 : Bk2 U6P5 (g6) (.int .i64 0) (.int .i64 0) := by rw [hU6P5]; exact F6.far4 (by omega) _ _ _ _
        replace Hs1 : LRd U6P5 (w16.heap.size) s.num.A s.num.n s.num.c s.num.xs := by rw [hU6P5]; first | exact Hs1.set4 P5 (by simp) (by simp) (by simp) (by simp) _ _ _ _ | exact Hs1.set4O (by omega) _ _ _ _
        replace Hs2 : LRd U6P5 (w16.heap.size) s.den.A s.den.n s.den.c s.den.xs := by rw [hU6P5]; first | exact Hs2.set4 P5 (by simp) (by simp) (by simp) (by simp) _ _ _ _ | exact Hs2.set4O (by omega) _ _ _ _
        replace P5 : Bk4 U6P5 (g5) (.bool s.num.neg) (.slice s.num.A s.num.n s.num.c) (.bool s.den.neg) (.slice s.den.A s.den.n s.den.c) := by rw [hU6P5]; exact P5.set _ _ _ _
        rw [← hU6P5]
        clear hU6P5
        have zU6P5' := Nat.le_of_eq zU6P5
        replace zU6P5 := Nat.le_of_eq zU6P5.symm
        obtain ⟨U6F6, hU6F6⟩ : ∃ U6F6 : World, U6F6 = ((U6P5.setCell ⟨g6, 0, none⟩ (.int .i64 0)).setCell ⟨g6, 1, none⟩ (.int .i64 0)) := ⟨_, rfl⟩
        have zU6F6 : U6F6.heap.size = U6P5.heap.size := by rw [hU6F6]; simp [World.setCell]
        replace E : Below w2.heap.size w2 U6F6 := by rw [hU6F6]; exact ((E.setCell (by first | (simp; done) | (simp; omega)) _).setCell (by first | (simp; done) | (simp; omega)) _)
        replace P5 : Bk4 U6F6 (g5) (.bool s.num.neg) (.slice s.num.A s.num.n s.num.c) (.bool s.den.neg) (.slice s.den.A s.den.n s.den.c) := by rw [hU6F6]; exact P5.far2 (by omega) _ _
        replace Hs1 : LRd U6F6 (w16.heap.size) s.num.A s.num.n s.num.c s.num.xs := by rw [hU6F6]; first | exact Hs1.setB F6 (by simp) (by simp) _ _ | exact Hs1.setFarL (by omega) _ _
        replace Hs2 : LRd U6F6 (w16.heap.size) s.den.A s.den.n s.den.c s.den.xs := by rw [hU6F6]; first | exact Hs2.setB F6 (by simp) (by simp) _ _ | exact Hs2.setFarL (by omega) _ _
        replace F6 : Bk2 U6F6 (g6) (.int .i64 0) (.int .i64 0) := by rw [hU6F6]; exact F6.set _ _
        rw [← hU6F6]
        clear hU6F6
        have zU6F6' := Nat.le_of_eq zU6F6
        replace zU6F6 := Nat.le_of_eq zU6F6.symm
        go_roundw
        case rel =>
          first | exact ⟨k, s, a2, a, by first | rfl | go_num, by omega, P5, F6, Hs1.more (by omega), Hs2.more (by omega), Ns, Ds, CKH, HB2, E⟩ | ((repeat apply Exists.intro); exact ⟨⟨k, s, a2, a, by first | rfl | go_num, by omega, P5, F6, Hs1.more (by omega), Hs2.more (by omega), Ns, Ds, CKH, HB2, E⟩, rfl⟩)
        case measure => first | (simp [intOf]; done) | (simp [intOf]; omega)

  · 
    have sw1 := hb1.size
    replace E : Below w.heap.size w w1 := E.trans (hb1.mono E.size)
    replace Hx1 : LRd w1 (w.heap.size) x.num.A x.num.n x.num.c x.num.xs := Hx1.below hb1 (by omega)
    replace Hx2 : LRd w1 (w.heap.size) x.den.A x.den.n x.den.c x.den.xs := Hx2.below hb1 (by omega)
    replace PA : Bk4 w1 (w.heap.size) (.bool x.num.neg) (.slice x.num.A x.num.n x.num.c) (.bool x.den.neg) (.slice x.den.A x.den.n x.den.c) := PA.below hb1 PA.lt
    clear hb1
    go_wp2_with fail
    obtain ⟨V1, hV1⟩ : ∃ V1 : World, V1 = (w1.alloc (.cells #[.int .i64 2, .int .i64 (-1)] 29)) := ⟨_, rfl⟩
    have bV1 : Below w1.heap.size w1 V1 := by rw [hV1]; (repeat (first | with_reducible exact Below.refl _ _ | with_reducible refine Below.drew ?_ | with_reducible refine below_drewN ?_ _ | with_reducible refine Below.setCell ?_ (by first | (simp; done) | (simp; omega) | omega) _ | with_reducible refine Below.alloc ?_ (by first | (simp; done) | (simp; omega) | omega) _))
    have zV1 : w1.heap.size + 1 ≤ V1.heap.size := by rw [hV1]; simp
    have F4 : Bk2 V1 (w1.heap.size) (.int .i64 2) (.int .i64 (-1)) := by rw [hV1]; exact (Bk2.newAt _ _ (by first | omega | (simp; done) | (simp; omega)) _ _ _)
    rw [← hV1]
    clear hV1
    replace E : Below w.heap.size w V1 := E.trans (bV1.mono E.size)
    replace Hx1 : LRd V1 (w.heap.size) x.num.A x.num.n x.num.c x.num.xs := Hx1.below bV1 (by omega)
    replace Hx2 : LRd V1 (w.heap.size) x.den.A x.den.n x.den.c x.den.xs := Hx2.below bV1 (by omega)
    replace PA : Bk4 V1 (w.heap.size) (.bool x.num.neg) (.slice x.num.A x.num.n x.num.c) (.bool x.den.neg) (.slice x.den.A x.den.n x.den.c) := PA.below bV1 PA.lt
    clear bV1
    (with_reducible refine (parts_any _).mono ?_)
    rintro e w2 ⟨rfl, hb2⟩
    have sw2 := hb2.size
    replace E : Below w.heap.size w w2 := E.trans (hb2.mono E.size)
    replace Hx1 : LRd w2 (w.heap.size) x.num.A x.num.n x.num.c x.num.xs := Hx1.below hb2 (by omega)
    replace Hx2 : LRd w2 (w.heap.size) x.den.A x.den.n x.den.c x.den.xs := Hx2.below hb2 (by omega)
    replace PA : Bk4 w2 (w.heap.size) (.bool x.num.neg) (.slice x.num.A x.num.n x.num.c) (.bool x.den.neg) (.slice x.den.A x.den.n x.den.c) := PA.below hb2 PA.lt
    replace F4 : Bk2 w2 (w1.heap.size) (.int .i64 2) (.int .i64 (-1)) := F4.below hb2 F4.lt
    clear hb2
    have t_F40 : w2.cell? ⟨w1.heap.size, 0, none⟩ = some ((.int .i64 2)) := F4.c0
    have t_F41 : w2.cell? ⟨w1.heap.size, 1, none⟩ = some ((.int .i64 (-1))) := F4.c1
    go_wp2_with fail
    clear t_F40 t_F41
    go_ret
    exact ⟨rfl, E⟩
theorem back_any (w : World) (x : RV) (HX : x.at w w.heap.size) :
    Calls Try.prog 4 #[x.v] w (fun e w' => e = .returned (.bool true) ∧ Below w.heap.size w w') := by
  by_cases hx : x.ok = true
  · have V := RV.val hx HX
    exact back_ok w x HX (Lib.hid hx) _ _ (Lib.hid V.num) (Lib.hid V.den) (by have := V.pos; omega) (Lib.hid ⟨V.bn, V.bd⟩) (Lib.hid V.low)
  · exact back_bad w x HX (-1 - ((0 : Nat) : Int)) (by show (if x.ok then _ else _) = _; rw [if_neg hx])
end Go.Proofs.Ytdhdkknaagadaaa
