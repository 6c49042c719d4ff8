/- RationalNearest: the law. -/
import Derived.Test.YtfgkhdpdjclmkaaGreatBNrf
import Derived.Test.YtfgkhdpdjclmkaaGreatBNrw
import Derived.Test.YtfgkhdpdjclmkaaGreatBNpg
import Derived.Test.YtfgkhdpdjclmkaaGreatBs
import Derived.Test.YtfgkhdpdjclmkaaGreatBt
import Derived.Test.YtfgkhdpdjclmkaaGreatBx
import Derived.Test.YtfgkhdpdjclmkaaGreatBy
import Derived.Deep.CutBlock
namespace Go.Proofs.YtfgkhdpdjclmkaaGreat
open Go.RowKit
set_option maxHeartbeats 400000
set_option maxRecDepth 100000
set_option linter.unusedSimpArgs false
set_option linter.unusedVariables false

theorem tre_ex {n0 d0 m : Int} (hd0 : 1 ≤ d0) (hm : 1 ≤ m) : ∃ an ad bn bd, Tre n0 d0 m an ad bn bd ∧ m < ad + bd := by
  have main : ∀ (k : Nat) (an ad bn bd : Int), Tre n0 d0 m an ad bn bd → (2 * m - (ad + bd)).toNat ≤ k → ∃ an ad bn bd, Tre n0 d0 m an ad bn bd ∧ m < ad + bd := by
    intro k
    induction k with
    | zero => intro an ad bn bd h hk; exact ⟨_, _, _, _, h, by omega⟩
    | succ k ih =>
      intro an ad bn bd h hk
      by_cases hlt : m < ad + bd
      · exact ⟨_, _, _, _, h, hlt⟩
      · have a1 := h.a1
        have b1 := h.b1
        by_cases hx : (an + bn) * d0 ≤ n0 * (ad + bd)
        · exact ih _ _ _ _ (tre_a h (by omega) hx) (by omega)
        · exact ih _ _ _ _ (tre_b h (by omega) hx) (by omega)
  refine main _ _ _ _ _ (tre_init (n0 := n0) (d0 := d0) (L := n0 / d0) (r := n0 % d0) hm ?_ (Int.emod_nonneg _ (by omega)) (Int.emod_lt_of_pos _ (by omega))) (Nat.le_refl _)
  have := Int.mul_ediv_add_emod n0 d0
  have e : n0 / d0 * d0 = d0 * (n0 / d0) := Int.mul_comm _ _
  omega
theorem gcd_det {a b x y : Int} (h : a * x + b * y = 1) : Nat.gcd a.natAbs b.natAbs = 1 := by
  have h1 : ((Nat.gcd a.natAbs b.natAbs : Nat) : Int) ∣ 1 := by
    rw [← h]
    exact Int.dvd_add (Int.dvd_mul_of_dvd_left (Int.ofNat_dvd_left.2 (Nat.gcd_dvd_left _ _))) (Int.dvd_mul_of_dvd_left (Int.ofNat_dvd_left.2 (Nat.gcd_dvd_right _ _)))
  have h2 : Nat.gcd a.natAbs b.natAbs ∣ 1 := Int.ofNat_dvd_left.1 h1
  exact Nat.dvd_one.1 h2
/-- The numerator of the nearest ratio is not greater than that of the ratio. -/
theorem near_small {n0 d0 m zn zd : Int} (h : Near n0 d0 m zn zd) (hd0 : 1 ≤ d0) (hm : 1 ≤ m) (hmd : m < d0) (hg : Nat.gcd n0.natAbs d0.natAbs = 1) : zn.natAbs ≤ n0.natAbs := by
  obtain ⟨an, ad, bn, bd, T, hlt⟩ := tre_ex (n0 := n0) hd0 hm
  have hend := tre_end T hd0 hlt h.pos h.le h.best
  obtain ⟨a1, b1, am, bm, det, lo, hi, _, _⟩ := T
  have ga : Nat.gcd an.natAbs ad.natAbs = 1 := gcd_det (x := -bd) (y := bn) (by rw [← det]; grind)
  have gb : Nat.gcd bn.natAbs bd.natAbs = 1 := gcd_det (x := ad) (y := -an) (by rw [← det]; grind)
  obtain ⟨U, hU⟩ : ∃ U, U = bn * d0 - n0 * bd := ⟨_, rfl⟩
  obtain ⟨V, hV⟩ : ∃ V, V = n0 * ad - an * d0 := ⟨_, rfl⟩
  have hn : n0 = an * U + bn * V := by
    have : an * U + bn * V = n0 * (bn * ad - an * bd) := by rw [hU, hV]; grind
    rw [this, det]; omega
  have hV1 : 1 ≤ V := by
    rcases Int.lt_or_le 0 V with h1 | h1
    · exact h1
    · exfalso
      have h2 : n0 * ad = an * d0 := by omega
      have := (frac_uniq h2 hd0 a1 hg ga).2
      omega
  have hU1 : 1 ≤ U := by omega
  have hsg : (0 ≤ an ∧ 0 ≤ bn) ∨ (an ≤ 0 ∧ bn ≤ 0) := by
    rcases Int.lt_or_le an 0 with h1 | h1
    · right
      refine ⟨by omega, ?_⟩
      rcases Int.lt_or_le 0 bn with h2 | h2
      · exfalso
        have h3 : 1 * 1 ≤ bn * ad := Int.mul_le_mul (by omega) (by omega) (by omega) (by omega)
        have h4 : 1 * 1 ≤ (-an) * bd := Int.mul_le_mul (by omega) (by omega) (by omega) (by omega)
        have h5 : (-an) * bd = -(an * bd) := by grind
        omega
      · exact h2
    · left
      refine ⟨h1, ?_⟩
      rcases Int.lt_or_le bn 0 with h2 | h2
      · exfalso
        have h3 : 0 ≤ (-bn) * ad := Int.mul_nonneg (by omega) (by omega)
        have h4 : 0 ≤ an * bd := Int.mul_nonneg h1 (by omega)
        have h5 : (-bn) * ad = -(bn * ad) := by grind
        omega
      · exact h2
  have key : an.natAbs ≤ n0.natAbs ∧ bn.natAbs ≤ n0.natAbs := by
    rcases hsg with ⟨h1, h2⟩ | ⟨h1, h2⟩
    · have e1 : an * 1 ≤ an * U := Int.mul_le_mul_of_nonneg_left hU1 h1
      have e2 : bn * 1 ≤ bn * V := Int.mul_le_mul_of_nonneg_left hV1 h2
      have e3 : 0 ≤ an * U := Int.mul_nonneg h1 (by omega)
      have e4 : 0 ≤ bn * V := Int.mul_nonneg h2 (by omega)
      omega
    · have e1 : (-an) * 1 ≤ (-an) * U := Int.mul_le_mul_of_nonneg_left hU1 (by omega)
      have e2 : (-bn) * 1 ≤ (-bn) * V := Int.mul_le_mul_of_nonneg_left hV1 (by omega)
      have e3 : 0 ≤ (-an) * U := Int.mul_nonneg (by omega) (by omega)
      have e4 : 0 ≤ (-bn) * V := Int.mul_nonneg (by omega) (by omega)
      have e5 : (-an) * U = -(an * U) := by grind
      have e6 : (-bn) * V = -(bn * V) := by grind
      omega
  rcases hend with h1 | h1
  · rw [(frac_uniq h1 h.pos a1 h.low ga).1]; exact key.1
  · rw [(frac_uniq h1 h.pos b1 h.low gb).1]; exact key.2
/-- A ratio with a small denominator is the nearest one itself. -/
theorem near_self {n0 d0 m : Int} (hd0 : 1 ≤ d0) (hm : d0 ≤ m) (hg : Nat.gcd n0.natAbs d0.natAbs = 1) : (nearZ n0 d0 m).1 = n0 ∧ (nearZ n0 d0 m).2 = d0 := by
  have N := near_is (n0 := n0) (m := m) hd0 (by omega)
  have h1 := N.best n0 d0 hd0 hm
  have e : dist n0 d0 n0 d0 = 0 := by unfold dist; omega
  rw [e, Int.zero_mul] at h1
  have h2 : 0 ≤ dist n0 d0 (nearZ n0 d0 m).1 (nearZ n0 d0 m).2 := dist_nn
  have h3 : dist n0 d0 (nearZ n0 d0 m).1 (nearZ n0 d0 m).2 = 0 := by
    rcases Int.lt_or_le 0 (dist n0 d0 (nearZ n0 d0 m).1 (nearZ n0 d0 m).2) with h4 | h4
    · have := Int.mul_pos h4 (show 0 < d0 by omega)
      omega
    · omega
  have h5 : (nearZ n0 d0 m).1 * d0 = n0 * (nearZ n0 d0 m).2 := by unfold dist at h3; omega
  exact frac_uniq h5 N.pos hd0 N.low hg
theorem sml_fit {w : World} {v : IV} {z : Nat} (h : Calls Tryz.prog 47 #[v.v] w (SmlPost (z : Int) w)) (hz : z ≤ 40) :
    Calls Tryz.prog 47 #[v.v] w (fun e w' => e = .returned (.tuple #[.int .i64 (z : Int), flt 0 0]) ∧ Below w.heap.size w w') :=
  h.mono fun e w' g => by
    rcases g with ⟨_, g⟩ | ⟨g, _⟩
    · exact g
    · omega
theorem sml_any {w : World} {v : IV} {z : Int} (h : Calls Tryz.prog 47 #[v.v] w (SmlPost z w)) :
    Calls Tryz.prog 47 #[v.v] w (fun e w' => ∃ n f1 f2, e = .returned (.tuple #[.int .i64 n, flt f1 f2]) ∧ Below w.heap.size w w') :=
  h.mono fun e w' g => by
    rcases g with ⟨_, g⟩ | ⟨_, g⟩
    · exact ⟨_, _, _, g⟩
    · exact ⟨_, _, _, g⟩
set_option maxHeartbeats 40000000 in
theorem nearest_law (w : World) (x : RV) (mo : IV) (HX : x.at w w.heap.size) (HMo : mo.at w w.heap.size) :
    Calls Tryz.prog 6 #[x.v, mo.v] w (fun e w' => e = .returned (.bool true) ∧ Below w.heap.size w w') := by
  have Hx1 : LRd w w.heap.size x.num.A x.num.n x.num.c x.num.xs := HX.1
  have Hx2 : LRd w w.heap.size x.den.A x.den.n x.den.c x.den.xs := HX.2
  have Hm : LRd w w.heap.size mo.A mo.n mo.c mo.xs := HMo
  have E : Below w.heap.size w w := Below.refl _ _
  go_enter Tryz.func6, Tryz.ntmps6
  go_upto_region 1 with fail
  obtain ⟨V0, hV0⟩ : ∃ V0 : World, V0 = ((w.alloc (.cells #[.bool x.num.neg, .slice x.num.A x.num.n x.num.c, .bool x.den.neg, .slice x.den.A x.den.n x.den.c] 26)).alloc (.cells #[.bool mo.neg, .slice mo.A mo.n mo.c] 24)) := ⟨_, rfl⟩
  have bV0 : Below w.heap.size w V0 := by rw [hV0]; (repeat (first | with_reducible exact Below.refl _ _ | with_reducible refine Below.alloc ?_ (by first | (simp <;> omega) | omega) _))
  have zV0 : w.heap.size + 2 ≤ V0.heap.size := by rw [hV0]; simp
  have PX : Bk4 V0 (w.heap.size) (.bool x.num.neg) (.slice x.num.A x.num.n x.num.c) (.bool x.den.neg) (.slice x.den.A x.den.n x.den.c) := by rw [hV0]; exact ((Bk4.newAt _ _ (by first | omega | (simp; done) | (simp; omega)) _ _ _ _ _).alloc _)
  have PM : Bk2 V0 (w.heap.size + 1) (.bool mo.neg) (.slice mo.A mo.n mo.c) := by rw [hV0]; exact (Bk2.newAt _ _ (by first | omega | (simp; done) | (simp; omega)) _ _ _)
  rw [← hV0]
  clear hV0
  replace E := E.trans (bV0.mono E.size)
  replace Hx1 := Hx1.below bV0 (by omega)
  replace Hx2 := Hx2.below bV0 (by omega)
  replace Hm := Hm.below bV0 (by omega)
  clear bV0
  have t_PX0 := PX.c0
  have t_PX1 := PX.c1
  have t_PX2 := PX.c2
  have t_PX3 := PX.c3
  have t_PM0 := PM.c0
  have t_PM1 := PM.c1
  go_wp2_with fail
  clear t_PX0 t_PX1 t_PX2 t_PX3 t_PM0 t_PM1
  (with_reducible refine (near_u _ w.heap.size x mo (rv_at Hx1 Hx2) (iv_at Hm) (by omega)).mono ?_)
  rintro e w1 ⟨r, f1, f2, rfl, hr, hz, hb1⟩
  have sw1 := hb1.size
  replace E := E.trans (hb1.mono E.size)
  replace Hx1 := Hx1.below hb1 (by omega)
  replace Hx2 := Hx2.below hb1 (by omega)
  replace Hm := Hm.below hb1 (by omega)
  replace PX := PX.below hb1 PX.lt
  replace PM := PM.below hb1 PM.lt
  clear hb1
  have Hr1 : LRd w1 w1.heap.size r.num.A r.num.n r.num.c r.num.xs := hr.1
  have Hr2 : LRd w1 w1.heap.size r.den.A r.den.n r.den.c r.den.xs := hr.2
  clear hr
  rcases hz with ⟨ox, rfl, rfl, hzr⟩ | ⟨ox, om, rfl, rfl, hzr⟩ | ⟨ox, om, hv, rfl, rfl, hzr⟩ | ⟨ox, om, hv, rfl, rfl, i1, i2⟩
  · as_aux_lemma =>
      have OX := Lib.hid ox
      clear ox
      go_upto_region 2 with fail
      obtain ⟨V2, hV2⟩ : ∃ V2 : World, V2 = ((w1.alloc (.cells #[.bool r.num.neg, .slice r.num.A r.num.n r.num.c, .bool r.den.neg, .slice r.den.A r.den.n r.den.c] 26)).alloc (.cells #[.int .i64 6, .int .i64 (-1)] 28)) := ⟨_, rfl⟩
      have bV2 : Below w1.heap.size w1 V2 := by rw [hV2]; (repeat (first | with_reducible exact Below.refl _ _ | with_reducible refine Below.alloc ?_ (by first | (simp <;> omega) | omega) _))
      have zV2 : w1.heap.size + 2 ≤ V2.heap.size := by rw [hV2]; simp
      have R5 : Bk4 V2 (w1.heap.size) (.bool r.num.neg) (.slice r.num.A r.num.n r.num.c) (.bool r.den.neg) (.slice r.den.A r.den.n r.den.c) := by rw [hV2]; exact ((Bk4.newAt _ _ (by first | omega | (simp; done) | (simp; omega)) _ _ _ _ _).alloc _)
      have F6 : Bk2 V2 (w1.heap.size + 1) (.int .i64 6) (.int .i64 (-1)) := by rw [hV2]; exact (Bk2.newAt _ _ (by first | omega | (simp; done) | (simp; omega)) _ _ _)
      rw [← hV2]
      clear hV2
      replace E := E.trans (bV2.mono E.size)
      replace Hx1 := Hx1.below bV2 (by omega)
      replace Hx2 := Hx2.below bV2 (by omega)
      replace Hm := Hm.below bV2 (by omega)
      replace PX := PX.below bV2 PX.lt
      replace PM := PM.below bV2 PM.lt
      replace Hr1 := Hr1.below bV2 (by omega)
      replace Hr2 := Hr2.below bV2 (by omega)
      clear bV2
      obtain ⟨n1, n2, n3, n4⟩ := hzr.form (rv_at Hr1 Hr2)
      rw [n1, n2, n3, n4] at R5
      clear n1 n2 n3 n4 hzr
      have RR := Lib.hid (rrow1 V2 w.heap.size x (rv_at Hx1 Hx2) (by omega))
      have p_PX0 := PX.c0
      have p_PX1 := PX.c1
      have p_PX2 := PX.c2
      have p_PX3 := PX.c3
      go_wp2_with fail
      clear p_PX0 p_PX1 p_PX2 p_PX3
      obtain ⟨V3, hV3⟩ : ∃ V3 : World, V3 = (V2.alloc (.cells #[.bool x.num.neg, .slice x.num.A x.num.n x.num.c, .bool x.den.neg, .slice x.den.A x.den.n x.den.c] 26)) := ⟨_, rfl⟩
      have bV3 : Below V2.heap.size V2 V3 := by rw [hV3]; (repeat (first | with_reducible exact Below.refl _ _ | with_reducible refine Below.alloc ?_ (by first | (simp <;> omega) | omega) _))
      have zV3 : V2.heap.size + 1 ≤ V3.heap.size := by rw [hV3]; simp
      replace RR : Hid (RRow V3 w.heap.size V2.heap.size [x]) := by rw [hV3]; exact RR
      rw [← hV3]
      clear hV3
      replace E := E.trans (bV3.mono E.size)
      replace Hx1 := Hx1.below bV3 (by omega)
      replace Hx2 := Hx2.below bV3 (by omega)
      replace Hm := Hm.below bV3 (by omega)
      replace PX := PX.below bV3 PX.lt
      replace PM := PM.below bV3 PM.lt
      replace Hr1 := Hr1.below bV3 (by omega)
      replace Hr2 := Hr2.below bV3 (by omega)
      replace R5 := R5.below bV3 R5.lt
      replace F6 := F6.below bV3 F6.lt
      clear bV3
      (with_reducible refine (ratioFaults_any _ w.heap.size V2.heap.size 1 [x] RR.out rfl (by omega) (by omega)).mono ?_)
      rintro e w9 ⟨rfl, hb9⟩
      have sw9 := hb9.size
      replace E := E.trans (hb9.mono E.size)
      replace Hx1 := Hx1.below hb9 (by omega)
      replace Hx2 := Hx2.below hb9 (by omega)
      replace Hm := Hm.below hb9 (by omega)
      replace PX := PX.below hb9 PX.lt
      replace PM := PM.below hb9 PM.lt
      replace Hr1 := Hr1.below hb9 (by omega)
      replace Hr2 := Hr2.below hb9 (by omega)
      replace R5 := R5.below hb9 R5.lt
      replace F6 := F6.below hb9 F6.lt
      clear hb9
      clear RR
      rw [rf1 OX.out]
      go_wp2_with fail
      obtain ⟨V4, hV4⟩ : ∃ V4 : World, V4 = (w9.alloc (.cells #[.int .i64 6, .int .i64 (-1)] 28)) := ⟨_, rfl⟩
      have bV4 : Below w9.heap.size w9 V4 := by rw [hV4]; (repeat (first | with_reducible exact Below.refl _ _ | with_reducible refine Below.alloc ?_ (by first | (simp <;> omega) | omega) _))
      have zV4 : w9.heap.size + 1 ≤ V4.heap.size := by rw [hV4]; simp
      have P7 : Bk2 V4 (w9.heap.size) (.int .i64 6) (.int .i64 (-1)) := by rw [hV4]; exact (Bk2.newAt _ _ (by first | omega | (simp; done) | (simp; omega)) _ _ _)
      rw [← hV4]
      clear hV4
      replace E := E.trans (bV4.mono E.size)
      replace Hx1 := Hx1.below bV4 (by omega)
      replace Hx2 := Hx2.below bV4 (by omega)
      replace Hm := Hm.below bV4 (by omega)
      replace PX := PX.below bV4 PX.lt
      replace PM := PM.below bV4 PM.lt
      replace Hr1 := Hr1.below bV4 (by omega)
      replace Hr2 := Hr2.below bV4 (by omega)
      replace R5 := R5.below bV4 R5.lt
      replace F6 := F6.below bV4 F6.lt
      clear bV4
      (with_reducible refine (parts_any _).mono ?_)
      rintro e wp ⟨rfl, hbp⟩
      have swp := hbp.size
      replace E := E.trans (hbp.mono E.size)
      replace Hx1 := Hx1.below hbp (by omega)
      replace Hx2 := Hx2.below hbp (by omega)
      replace Hm := Hm.below hbp (by omega)
      replace PX := PX.below hbp PX.lt
      replace PM := PM.below hbp PM.lt
      replace Hr1 := Hr1.below hbp (by omega)
      replace Hr2 := Hr2.below hbp (by omega)
      replace R5 := R5.below hbp R5.lt
      replace F6 := F6.below hbp F6.lt
      replace P7 := P7.below hbp P7.lt
      clear hbp
      have t_R50 := R5.c0
      have t_R51 := R5.c1
      have t_R52 := R5.c2
      have t_R53 := R5.c3
      have t_F60 := F6.c0
      have t_F61 := F6.c1
      have t_P70 := P7.c0
      have t_P71 := P7.c1
      go_wp2_with fail
      clear t_R50 t_R51 t_R52 t_R53 t_F60 t_F61 t_P70 t_P71
      (with_reducible refine (gives_f6 _ r.num.A r.den.A r.num.c r.den.c (QV.mk false none 0 0 [] none 0 0 []) (-1)).mono ?_)
      rintro e wg ⟨rfl, hbg⟩
      have swg := hbg.size
      replace E := E.trans (hbg.mono E.size)
      replace Hx1 := Hx1.below hbg (by omega)
      replace Hx2 := Hx2.below hbg (by omega)
      replace Hm := Hm.below hbg (by omega)
      replace PX := PX.below hbg PX.lt
      replace PM := PM.below hbg PM.lt
      replace Hr1 := Hr1.below hbg (by omega)
      replace Hr2 := Hr2.below hbg (by omega)
      replace R5 := R5.below hbg R5.lt
      replace F6 := F6.below hbg F6.lt
      replace P7 := P7.below hbg P7.lt
      clear hbg
      go_wp2_with fail
      go_ret
      exact ⟨rfl, E⟩
  · as_aux_lemma =>
      have OX := Lib.hid ox
      have OM := Lib.hid om
      clear ox om
      go_upto_region 2 with fail
      obtain ⟨V2, hV2⟩ : ∃ V2 : World, V2 = ((w1.alloc (.cells #[.bool r.num.neg, .slice r.num.A r.num.n r.num.c, .bool r.den.neg, .slice r.den.A r.den.n r.den.c] 26)).alloc (.cells #[.int .i64 6, .int .i64 (-2)] 28)) := ⟨_, rfl⟩
      have bV2 : Below w1.heap.size w1 V2 := by rw [hV2]; (repeat (first | with_reducible exact Below.refl _ _ | with_reducible refine Below.alloc ?_ (by first | (simp <;> omega) | omega) _))
      have zV2 : w1.heap.size + 2 ≤ V2.heap.size := by rw [hV2]; simp
      have R5 : Bk4 V2 (w1.heap.size) (.bool r.num.neg) (.slice r.num.A r.num.n r.num.c) (.bool r.den.neg) (.slice r.den.A r.den.n r.den.c) := by rw [hV2]; exact ((Bk4.newAt _ _ (by first | omega | (simp; done) | (simp; omega)) _ _ _ _ _).alloc _)
      have F6 : Bk2 V2 (w1.heap.size + 1) (.int .i64 6) (.int .i64 (-2)) := by rw [hV2]; exact (Bk2.newAt _ _ (by first | omega | (simp; done) | (simp; omega)) _ _ _)
      rw [← hV2]
      clear hV2
      replace E := E.trans (bV2.mono E.size)
      replace Hx1 := Hx1.below bV2 (by omega)
      replace Hx2 := Hx2.below bV2 (by omega)
      replace Hm := Hm.below bV2 (by omega)
      replace PX := PX.below bV2 PX.lt
      replace PM := PM.below bV2 PM.lt
      replace Hr1 := Hr1.below bV2 (by omega)
      replace Hr2 := Hr2.below bV2 (by omega)
      clear bV2
      obtain ⟨n1, n2, n3, n4⟩ := hzr.form (rv_at Hr1 Hr2)
      rw [n1, n2, n3, n4] at R5
      clear n1 n2 n3 n4 hzr
      have RR := Lib.hid (rrow1 V2 w.heap.size x (rv_at Hx1 Hx2) (by omega))
      have p_PX0 := PX.c0
      have p_PX1 := PX.c1
      have p_PX2 := PX.c2
      have p_PX3 := PX.c3
      go_wp2_with fail
      clear p_PX0 p_PX1 p_PX2 p_PX3
      obtain ⟨V3, hV3⟩ : ∃ V3 : World, V3 = (V2.alloc (.cells #[.bool x.num.neg, .slice x.num.A x.num.n x.num.c, .bool x.den.neg, .slice x.den.A x.den.n x.den.c] 26)) := ⟨_, rfl⟩
      have bV3 : Below V2.heap.size V2 V3 := by rw [hV3]; (repeat (first | with_reducible exact Below.refl _ _ | with_reducible refine Below.alloc ?_ (by first | (simp <;> omega) | omega) _))
      have zV3 : V2.heap.size + 1 ≤ V3.heap.size := by rw [hV3]; simp
      replace RR : Hid (RRow V3 w.heap.size V2.heap.size [x]) := by rw [hV3]; exact RR
      rw [← hV3]
      clear hV3
      replace E := E.trans (bV3.mono E.size)
      replace Hx1 := Hx1.below bV3 (by omega)
      replace Hx2 := Hx2.below bV3 (by omega)
      replace Hm := Hm.below bV3 (by omega)
      replace PX := PX.below bV3 PX.lt
      replace PM := PM.below bV3 PM.lt
      replace Hr1 := Hr1.below bV3 (by omega)
      replace Hr2 := Hr2.below bV3 (by omega)
      replace R5 := R5.below bV3 R5.lt
      replace F6 := F6.below bV3 F6.lt
      clear bV3
      (with_reducible refine (ratioFaults_any _ w.heap.size V2.heap.size 1 [x] RR.out rfl (by omega) (by omega)).mono ?_)
      rintro e w9 ⟨rfl, hb9⟩
      have sw9 := hb9.size
      replace E := E.trans (hb9.mono E.size)
      replace Hx1 := Hx1.below hb9 (by omega)
      replace Hx2 := Hx2.below hb9 (by omega)
      replace Hm := Hm.below hb9 (by omega)
      replace PX := PX.below hb9 PX.lt
      replace PM := PM.below hb9 PM.lt
      replace Hr1 := Hr1.below hb9 (by omega)
      replace Hr2 := Hr2.below hb9 (by omega)
      replace R5 := R5.below hb9 R5.lt
      replace F6 := F6.below hb9 F6.lt
      clear hb9
      clear RR
      rw [rf0' OX.out]
      have t_PM0 : (w9.alloc (.cells #[.int .i64 0, .int .i64 0] 28)).cell? ⟨w.heap.size + 1, 0, none⟩ = some ((.bool mo.neg)) := (PM.alloc _).c0
      have t_PM1 : (w9.alloc (.cells #[.int .i64 0, .int .i64 0] 28)).cell? ⟨w.heap.size + 1, 1, none⟩ = some ((.slice mo.A mo.n mo.c)) := (PM.alloc _).c1
      go_wp2_with fail
      clear t_PM0 t_PM1
      obtain ⟨V4, hV4⟩ : ∃ V4 : World, V4 = (w9.alloc (.cells #[.int .i64 0, .int .i64 0] 28)) := ⟨_, rfl⟩
      have bV4 : Below w9.heap.size w9 V4 := by rw [hV4]; (repeat (first | with_reducible exact Below.refl _ _ | with_reducible refine Below.alloc ?_ (by first | (simp <;> omega) | omega) _))
      have zV4 : w9.heap.size + 1 ≤ V4.heap.size := by rw [hV4]; simp
      have P7 : Bk2 V4 (w9.heap.size) (.int .i64 0) (.int .i64 0) := by rw [hV4]; exact (Bk2.newAt _ _ (by first | omega | (simp; done) | (simp; omega)) _ _ _)
      rw [← hV4]
      clear hV4
      replace E := E.trans (bV4.mono E.size)
      replace Hx1 := Hx1.below bV4 (by omega)
      replace Hx2 := Hx2.below bV4 (by omega)
      replace Hm := Hm.below bV4 (by omega)
      replace PX := PX.below bV4 PX.lt
      replace PM := PM.below bV4 PM.lt
      replace Hr1 := Hr1.below bV4 (by omega)
      replace Hr2 := Hr2.below bV4 (by omega)
      replace R5 := R5.below bV4 R5.lt
      replace F6 := F6.below bV4 F6.lt
      clear bV4
      (with_reducible refine (intOk_any _ w.heap.size mo.neg mo.A mo.n mo.c mo.xs Hm (by omega)).mono ?_)
      rintro e w3 ⟨rfl, hb3⟩
      have sw3 := hb3.size
      replace E := E.trans (hb3.mono E.size)
      replace Hx1 := Hx1.below hb3 (by omega)
      replace Hx2 := Hx2.below hb3 (by omega)
      replace Hm := Hm.below hb3 (by omega)
      replace PX := PX.below hb3 PX.lt
      replace PM := PM.below hb3 PM.lt
      replace Hr1 := Hr1.below hb3 (by omega)
      replace Hr2 := Hr2.below hb3 (by omega)
      replace R5 := R5.below hb3 R5.lt
      replace F6 := F6.below hb3 F6.lt
      replace P7 := P7.below hb3 P7.lt
      clear hb3
      rw [show ivld mo.neg mo.xs = false from OM.out]
      go_wp2_with fail
      (with_reducible refine (at_any _ _ _).mono ?_)
      rintro e w4 ⟨rfl, hb4⟩
      have sw4 := hb4.size
      replace E := E.trans (hb4.mono E.size)
      replace Hx1 := Hx1.below hb4 (by omega)
      replace Hx2 := Hx2.below hb4 (by omega)
      replace Hm := Hm.below hb4 (by omega)
      replace PX := PX.below hb4 PX.lt
      replace PM := PM.below hb4 PM.lt
      replace Hr1 := Hr1.below hb4 (by omega)
      replace Hr2 := Hr2.below hb4 (by omega)
      replace R5 := R5.below hb4 R5.lt
      replace F6 := F6.below hb4 F6.lt
      replace P7 := P7.below hb4 P7.lt
      clear hb4
      have y_P70 := P7.c0
      have z_P70 := P7.z0
      have y_P71 := P7.c1
      have z_P71 := P7.z1
      have lt_P7 := P7.lt
      go_wp2_with fail
      clear y_P70 z_P70 y_P71 z_P71 lt_P7
      obtain ⟨U6P7, hU6P7⟩ : ∃ U6P7 : World, U6P7 = ((w4.setCell ⟨w9.heap.size, 0, none⟩ (.int .i64 6)).setCell ⟨w9.heap.size, 1, none⟩ (.int .i64 (-2))) := ⟨_, rfl⟩
      have zU6P7 : U6P7.heap.size = w4.heap.size := by rw [hU6P7]; simp [World.setCell]
      replace E : Below w.heap.size w U6P7 := by rw [hU6P7]; exact ((E.setCell (by first | (simp; done) | (simp; omega)) _).setCell (by first | (simp; done) | (simp; omega)) _)
      replace Hx1 : LRd U6P7 (w.heap.size) x.num.A x.num.n x.num.c x.num.xs := by rw [hU6P7]; first | exact Hx1.setB P7 (by simp) (by simp) _ _ | exact Hx1.setFarL (by omega) _ _
      replace Hx2 : LRd U6P7 (w.heap.size) x.den.A x.den.n x.den.c x.den.xs := by rw [hU6P7]; first | exact Hx2.setB P7 (by simp) (by simp) _ _ | exact Hx2.setFarL (by omega) _ _
      replace Hm : LRd U6P7 (w.heap.size) mo.A mo.n mo.c mo.xs := by rw [hU6P7]; first | exact Hm.setB P7 (by simp) (by simp) _ _ | exact Hm.setFarL (by omega) _ _
      replace PX : Bk4 U6P7 (w.heap.size) (.bool x.num.neg) (.slice x.num.A x.num.n x.num.c) (.bool x.den.neg) (.slice x.den.A x.den.n x.den.c) := by rw [hU6P7]; exact PX.far2 (by omega) _ _
      replace PM : Bk2 U6P7 (w.heap.size + 1) (.bool mo.neg) (.slice mo.A mo.n mo.c) := by rw [hU6P7]; exact PM.far2 (by omega) _ _
      replace Hr1 : LRd U6P7 (w1.heap.size) r.num.A r.num.n r.num.c r.num.xs := by rw [hU6P7]; first | exact Hr1.setB P7 (by simp) (by simp) _ _ | exact Hr1.setFarL (by omega) _ _
      replace Hr2 : LRd U6P7 (w1.heap.size) r.den.A r.den.n r.den.c r.den.xs := by rw [hU6P7]; first | exact Hr2.setB P7 (by simp) (by simp) _ _ | exact Hr2.setFarL (by omega) _ _
      replace R5 : Bk4 U6P7 (w1.heap.size) (.bool false) (.slice r.num.A 0 r.num.c) (.bool false) (.slice r.den.A 0 r.den.c) := by rw [hU6P7]; exact R5.far2 (by omega) _ _
      replace F6 : Bk2 U6P7 (w1.heap.size + 1) (.int .i64 6) (.int .i64 (-2)) := by rw [hU6P7]; exact F6.far2 (by omega) _ _
      replace P7 : Bk2 U6P7 (w9.heap.size) (.int .i64 6) (.int .i64 (-2)) := by rw [hU6P7]; exact P7.set _ _
      rw [← hU6P7]
      clear hU6P7
      have zU6P7' := Nat.le_of_eq zU6P7
      replace zU6P7 := Nat.le_of_eq zU6P7.symm
      (with_reducible refine (parts_any _).mono ?_)
      rintro e wp ⟨rfl, hbp⟩
      have swp := hbp.size
      replace E := E.trans (hbp.mono E.size)
      replace Hx1 := Hx1.below hbp (by omega)
      replace Hx2 := Hx2.below hbp (by omega)
      replace Hm := Hm.below hbp (by omega)
      replace PX := PX.below hbp PX.lt
      replace PM := PM.below hbp PM.lt
      replace Hr1 := Hr1.below hbp (by omega)
      replace Hr2 := Hr2.below hbp (by omega)
      replace R5 := R5.below hbp R5.lt
      replace F6 := F6.below hbp F6.lt
      replace P7 := P7.below hbp P7.lt
      clear hbp
      have t_R50 := R5.c0
      have t_R51 := R5.c1
      have t_R52 := R5.c2
      have t_R53 := R5.c3
      have t_F60 := F6.c0
      have t_F61 := F6.c1
      have t_P70 := P7.c0
      have t_P71 := P7.c1
      go_wp2_with fail
      clear t_R50 t_R51 t_R52 t_R53 t_F60 t_F61 t_P70 t_P71
      (with_reducible refine (gives_f6 _ r.num.A r.den.A r.num.c r.den.c (QV.mk false none 0 0 [] none 0 0 []) (-2)).mono ?_)
      rintro e wg ⟨rfl, hbg⟩
      have swg := hbg.size
      replace E := E.trans (hbg.mono E.size)
      replace Hx1 := Hx1.below hbg (by omega)
      replace Hx2 := Hx2.below hbg (by omega)
      replace Hm := Hm.below hbg (by omega)
      replace PX := PX.below hbg PX.lt
      replace PM := PM.below hbg PM.lt
      replace Hr1 := Hr1.below hbg (by omega)
      replace Hr2 := Hr2.below hbg (by omega)
      replace R5 := R5.below hbg R5.lt
      replace F6 := F6.below hbg F6.lt
      replace P7 := P7.below hbg P7.lt
      clear hbg
      go_wp2_with fail
      go_ret
      exact ⟨rfl, E⟩
  · cases hs : mo.neg
    · as_aux_lemma =>
        have OX := Lib.hid ox
        have OM := Lib.hid (show ivld false mo.xs = true by have h9 : ivld mo.neg mo.xs = true := om; rw [hs] at h9; exact h9)
        rw [hs] at PM
        have HN := Lib.hid (show (!false && decide (mo.n = 0)) = true by have h1 := noint_eq om (iv_at Hm); rw [hs] at h1; rw [h1]; exact decide_eq_true (by have := IV.pos_ge hs; omega))
        clear hs ox om hv
        go_upto_region 2 with fail
        obtain ⟨V2, hV2⟩ : ∃ V2 : World, V2 = ((w1.alloc (.cells #[.bool r.num.neg, .slice r.num.A r.num.n r.num.c, .bool r.den.neg, .slice r.den.A r.den.n r.den.c] 26)).alloc (.cells #[.int .i64 4, .int .i64 (-2)] 28)) := ⟨_, rfl⟩
        have bV2 : Below w1.heap.size w1 V2 := by rw [hV2]; (repeat (first | with_reducible exact Below.refl _ _ | with_reducible refine Below.alloc ?_ (by first | (simp <;> omega) | omega) _))
        have zV2 : w1.heap.size + 2 ≤ V2.heap.size := by rw [hV2]; simp
        have R5 : Bk4 V2 (w1.heap.size) (.bool r.num.neg) (.slice r.num.A r.num.n r.num.c) (.bool r.den.neg) (.slice r.den.A r.den.n r.den.c) := by rw [hV2]; exact ((Bk4.newAt _ _ (by first | omega | (simp; done) | (simp; omega)) _ _ _ _ _).alloc _)
        have F6 : Bk2 V2 (w1.heap.size + 1) (.int .i64 4) (.int .i64 (-2)) := by rw [hV2]; exact (Bk2.newAt _ _ (by first | omega | (simp; done) | (simp; omega)) _ _ _)
        rw [← hV2]
        clear hV2
        replace E := E.trans (bV2.mono E.size)
        replace Hx1 := Hx1.below bV2 (by omega)
        replace Hx2 := Hx2.below bV2 (by omega)
        replace Hm := Hm.below bV2 (by omega)
        replace PX := PX.below bV2 PX.lt
        replace PM := PM.below bV2 PM.lt
        replace Hr1 := Hr1.below bV2 (by omega)
        replace Hr2 := Hr2.below bV2 (by omega)
        clear bV2
        obtain ⟨n1, n2, n3, n4⟩ := hzr.form (rv_at Hr1 Hr2)
        rw [n1, n2, n3, n4] at R5
        clear n1 n2 n3 n4 hzr
        have RR := Lib.hid (rrow1 V2 w.heap.size x (rv_at Hx1 Hx2) (by omega))
        have p_PX0 := PX.c0
        have p_PX1 := PX.c1
        have p_PX2 := PX.c2
        have p_PX3 := PX.c3
        go_wp2_with fail
        clear p_PX0 p_PX1 p_PX2 p_PX3
        obtain ⟨V3, hV3⟩ : ∃ V3 : World, V3 = (V2.alloc (.cells #[.bool x.num.neg, .slice x.num.A x.num.n x.num.c, .bool x.den.neg, .slice x.den.A x.den.n x.den.c] 26)) := ⟨_, rfl⟩
        have bV3 : Below V2.heap.size V2 V3 := by rw [hV3]; (repeat (first | with_reducible exact Below.refl _ _ | with_reducible refine Below.alloc ?_ (by first | (simp <;> omega) | omega) _))
        have zV3 : V2.heap.size + 1 ≤ V3.heap.size := by rw [hV3]; simp
        replace RR : Hid (RRow V3 w.heap.size V2.heap.size [x]) := by rw [hV3]; exact RR
        rw [← hV3]
        clear hV3
        replace E := E.trans (bV3.mono E.size)
        replace Hx1 := Hx1.below bV3 (by omega)
        replace Hx2 := Hx2.below bV3 (by omega)
        replace Hm := Hm.below bV3 (by omega)
        replace PX := PX.below bV3 PX.lt
        replace PM := PM.below bV3 PM.lt
        replace Hr1 := Hr1.below bV3 (by omega)
        replace Hr2 := Hr2.below bV3 (by omega)
        replace R5 := R5.below bV3 R5.lt
        replace F6 := F6.below bV3 F6.lt
        clear bV3
        (with_reducible refine (ratioFaults_any _ w.heap.size V2.heap.size 1 [x] RR.out rfl (by omega) (by omega)).mono ?_)
        rintro e w9 ⟨rfl, hb9⟩
        have sw9 := hb9.size
        replace E := E.trans (hb9.mono E.size)
        replace Hx1 := Hx1.below hb9 (by omega)
        replace Hx2 := Hx2.below hb9 (by omega)
        replace Hm := Hm.below hb9 (by omega)
        replace PX := PX.below hb9 PX.lt
        replace PM := PM.below hb9 PM.lt
        replace Hr1 := Hr1.below hb9 (by omega)
        replace Hr2 := Hr2.below hb9 (by omega)
        replace R5 := R5.below hb9 R5.lt
        replace F6 := F6.below hb9 F6.lt
        clear hb9
        clear RR
        rw [rf0' OX.out]
        have t_PM0 : (w9.alloc (.cells #[.int .i64 0, .int .i64 0] 28)).cell? ⟨w.heap.size + 1, 0, none⟩ = some ((.bool false)) := (PM.alloc _).c0
        have t_PM1 : (w9.alloc (.cells #[.int .i64 0, .int .i64 0] 28)).cell? ⟨w.heap.size + 1, 1, none⟩ = some ((.slice mo.A mo.n mo.c)) := (PM.alloc _).c1
        go_wp2_with fail
        clear t_PM0 t_PM1
        obtain ⟨V4, hV4⟩ : ∃ V4 : World, V4 = (w9.alloc (.cells #[.int .i64 0, .int .i64 0] 28)) := ⟨_, rfl⟩
        have bV4 : Below w9.heap.size w9 V4 := by rw [hV4]; (repeat (first | with_reducible exact Below.refl _ _ | with_reducible refine Below.alloc ?_ (by first | (simp <;> omega) | omega) _))
        have zV4 : w9.heap.size + 1 ≤ V4.heap.size := by rw [hV4]; simp
        have P7 : Bk2 V4 (w9.heap.size) (.int .i64 0) (.int .i64 0) := by rw [hV4]; exact (Bk2.newAt _ _ (by first | omega | (simp; done) | (simp; omega)) _ _ _)
        rw [← hV4]
        clear hV4
        replace E := E.trans (bV4.mono E.size)
        replace Hx1 := Hx1.below bV4 (by omega)
        replace Hx2 := Hx2.below bV4 (by omega)
        replace Hm := Hm.below bV4 (by omega)
        replace PX := PX.below bV4 PX.lt
        replace PM := PM.below bV4 PM.lt
        replace Hr1 := Hr1.below bV4 (by omega)
        replace Hr2 := Hr2.below bV4 (by omega)
        replace R5 := R5.below bV4 R5.lt
        replace F6 := F6.below bV4 F6.lt
        clear bV4
        (with_reducible refine (intOk_any _ w.heap.size false mo.A mo.n mo.c mo.xs Hm (by omega)).mono ?_)
        rintro e w3 ⟨rfl, hb3⟩
        have sw3 := hb3.size
        replace E := E.trans (hb3.mono E.size)
        replace Hx1 := Hx1.below hb3 (by omega)
        replace Hx2 := Hx2.below hb3 (by omega)
        replace Hm := Hm.below hb3 (by omega)
        replace PX := PX.below hb3 PX.lt
        replace PM := PM.below hb3 PM.lt
        replace Hr1 := Hr1.below hb3 (by omega)
        replace Hr2 := Hr2.below hb3 (by omega)
        replace R5 := R5.below hb3 R5.lt
        replace F6 := F6.below hb3 F6.lt
        replace P7 := P7.below hb3 P7.lt
        clear hb3
        rw [OM.out]
        have t_P70 := P7.c0
        have t_P71 := P7.c1
        have t_PM0 := PM.c0
        have t_PM1 := PM.c1
        go_wp2_with fail
        clear t_P70 t_P71 t_PM0 t_PM1
        (with_reducible refine (noInt_any _ false mo.A mo.n mo.c (by have := Hm.cap; omega)).mono ?_)
        rintro e w5 ⟨rfl, hb5⟩
        have sw5 := hb5.size
        replace E := E.trans (hb5.mono E.size)
        replace Hx1 := Hx1.below hb5 (by omega)
        replace Hx2 := Hx2.below hb5 (by omega)
        replace Hm := Hm.below hb5 (by omega)
        replace PX := PX.below hb5 PX.lt
        replace PM := PM.below hb5 PM.lt
        replace Hr1 := Hr1.below hb5 (by omega)
        replace Hr2 := Hr2.below hb5 (by omega)
        replace R5 := R5.below hb5 R5.lt
        replace F6 := F6.below hb5 F6.lt
        replace P7 := P7.below hb5 P7.lt
        clear hb5
        rw [HN.out]
        go_wp2_with fail
        (with_reducible refine (at_any _ _ _).mono ?_)
        rintro e w4 ⟨rfl, hb4⟩
        have sw4 := hb4.size
        replace E := E.trans (hb4.mono E.size)
        replace Hx1 := Hx1.below hb4 (by omega)
        replace Hx2 := Hx2.below hb4 (by omega)
        replace Hm := Hm.below hb4 (by omega)
        replace PX := PX.below hb4 PX.lt
        replace PM := PM.below hb4 PM.lt
        replace Hr1 := Hr1.below hb4 (by omega)
        replace Hr2 := Hr2.below hb4 (by omega)
        replace R5 := R5.below hb4 R5.lt
        replace F6 := F6.below hb4 F6.lt
        replace P7 := P7.below hb4 P7.lt
        clear hb4
        have y_P70 := P7.c0
        have z_P70 := P7.z0
        have y_P71 := P7.c1
        have z_P71 := P7.z1
        have lt_P7 := P7.lt
        go_wp2_with fail
        clear y_P70 z_P70 y_P71 z_P71 lt_P7
        obtain ⟨U7P7, hU7P7⟩ : ∃ U7P7 : World, U7P7 = ((w4.setCell ⟨w9.heap.size, 0, none⟩ (.int .i64 4)).setCell ⟨w9.heap.size, 1, none⟩ (.int .i64 (-2))) := ⟨_, rfl⟩
        have zU7P7 : U7P7.heap.size = w4.heap.size := by rw [hU7P7]; simp [World.setCell]
        replace E : Below w.heap.size w U7P7 := by rw [hU7P7]; exact ((E.setCell (by first | (simp; done) | (simp; omega)) _).setCell (by first | (simp; done) | (simp; omega)) _)
        replace Hx1 : LRd U7P7 (w.heap.size) x.num.A x.num.n x.num.c x.num.xs := by rw [hU7P7]; first | exact Hx1.setB P7 (by simp) (by simp) _ _ | exact Hx1.setFarL (by omega) _ _
        replace Hx2 : LRd U7P7 (w.heap.size) x.den.A x.den.n x.den.c x.den.xs := by rw [hU7P7]; first | exact Hx2.setB P7 (by simp) (by simp) _ _ | exact Hx2.setFarL (by omega) _ _
        replace Hm : LRd U7P7 (w.heap.size) mo.A mo.n mo.c mo.xs := by rw [hU7P7]; first | exact Hm.setB P7 (by simp) (by simp) _ _ | exact Hm.setFarL (by omega) _ _
        replace PX : Bk4 U7P7 (w.heap.size) (.bool x.num.neg) (.slice x.num.A x.num.n x.num.c) (.bool x.den.neg) (.slice x.den.A x.den.n x.den.c) := by rw [hU7P7]; exact PX.far2 (by omega) _ _
        replace PM : Bk2 U7P7 (w.heap.size + 1) (.bool false) (.slice mo.A mo.n mo.c) := by rw [hU7P7]; exact PM.far2 (by omega) _ _
        replace Hr1 : LRd U7P7 (w1.heap.size) r.num.A r.num.n r.num.c r.num.xs := by rw [hU7P7]; first | exact Hr1.setB P7 (by simp) (by simp) _ _ | exact Hr1.setFarL (by omega) _ _
        replace Hr2 : LRd U7P7 (w1.heap.size) r.den.A r.den.n r.den.c r.den.xs := by rw [hU7P7]; first | exact Hr2.setB P7 (by simp) (by simp) _ _ | exact Hr2.setFarL (by omega) _ _
        replace R5 : Bk4 U7P7 (w1.heap.size) (.bool false) (.slice r.num.A 0 r.num.c) (.bool false) (.slice r.den.A 0 r.den.c) := by rw [hU7P7]; exact R5.far2 (by omega) _ _
        replace F6 : Bk2 U7P7 (w1.heap.size + 1) (.int .i64 4) (.int .i64 (-2)) := by rw [hU7P7]; exact F6.far2 (by omega) _ _
        replace P7 : Bk2 U7P7 (w9.heap.size) (.int .i64 4) (.int .i64 (-2)) := by rw [hU7P7]; exact P7.set _ _
        rw [← hU7P7]
        clear hU7P7
        have zU7P7' := Nat.le_of_eq zU7P7
        replace zU7P7 := Nat.le_of_eq zU7P7.symm
        (with_reducible refine (parts_any _).mono ?_)
        rintro e wp ⟨rfl, hbp⟩
        have swp := hbp.size
        replace E := E.trans (hbp.mono E.size)
        replace Hx1 := Hx1.below hbp (by omega)
        replace Hx2 := Hx2.below hbp (by omega)
        replace Hm := Hm.below hbp (by omega)
        replace PX := PX.below hbp PX.lt
        replace PM := PM.below hbp PM.lt
        replace Hr1 := Hr1.below hbp (by omega)
        replace Hr2 := Hr2.below hbp (by omega)
        replace R5 := R5.below hbp R5.lt
        replace F6 := F6.below hbp F6.lt
        replace P7 := P7.below hbp P7.lt
        clear hbp
        have t_R50 := R5.c0
        have t_R51 := R5.c1
        have t_R52 := R5.c2
        have t_R53 := R5.c3
        have t_F60 := F6.c0
        have t_F61 := F6.c1
        have t_P70 := P7.c0
        have t_P71 := P7.c1
        go_wp2_with fail
        clear t_R50 t_R51 t_R52 t_R53 t_F60 t_F61 t_P70 t_P71
        (with_reducible refine (gives_f4 _ r.num.A r.den.A r.num.c r.den.c (QV.mk false none 0 0 [] none 0 0 []) (-2)).mono ?_)
        rintro e wg ⟨rfl, hbg⟩
        have swg := hbg.size
        replace E := E.trans (hbg.mono E.size)
        replace Hx1 := Hx1.below hbg (by omega)
        replace Hx2 := Hx2.below hbg (by omega)
        replace Hm := Hm.below hbg (by omega)
        replace PX := PX.below hbg PX.lt
        replace PM := PM.below hbg PM.lt
        replace Hr1 := Hr1.below hbg (by omega)
        replace Hr2 := Hr2.below hbg (by omega)
        replace R5 := R5.below hbg R5.lt
        replace F6 := F6.below hbg F6.lt
        replace P7 := P7.below hbg P7.lt
        clear hbg
        go_wp2_with fail
        go_ret
        exact ⟨rfl, E⟩
    · as_aux_lemma =>
        have OX := Lib.hid ox
        have OM := Lib.hid (show ivld true mo.xs = true by have h9 : ivld mo.neg mo.xs = true := om; rw [hs] at h9; exact h9)
        rw [hs] at PM
        clear hs ox om hv
        go_upto_region 2 with fail
        obtain ⟨V2, hV2⟩ : ∃ V2 : World, V2 = ((w1.alloc (.cells #[.bool r.num.neg, .slice r.num.A r.num.n r.num.c, .bool r.den.neg, .slice r.den.A r.den.n r.den.c] 26)).alloc (.cells #[.int .i64 4, .int .i64 (-2)] 28)) := ⟨_, rfl⟩
        have bV2 : Below w1.heap.size w1 V2 := by rw [hV2]; (repeat (first | with_reducible exact Below.refl _ _ | with_reducible refine Below.alloc ?_ (by first | (simp <;> omega) | omega) _))
        have zV2 : w1.heap.size + 2 ≤ V2.heap.size := by rw [hV2]; simp
        have R5 : Bk4 V2 (w1.heap.size) (.bool r.num.neg) (.slice r.num.A r.num.n r.num.c) (.bool r.den.neg) (.slice r.den.A r.den.n r.den.c) := by rw [hV2]; exact ((Bk4.newAt _ _ (by first | omega | (simp; done) | (simp; omega)) _ _ _ _ _).alloc _)
        have F6 : Bk2 V2 (w1.heap.size + 1) (.int .i64 4) (.int .i64 (-2)) := by rw [hV2]; exact (Bk2.newAt _ _ (by first | omega | (simp; done) | (simp; omega)) _ _ _)
        rw [← hV2]
        clear hV2
        replace E := E.trans (bV2.mono E.size)
        replace Hx1 := Hx1.below bV2 (by omega)
        replace Hx2 := Hx2.below bV2 (by omega)
        replace Hm := Hm.below bV2 (by omega)
        replace PX := PX.below bV2 PX.lt
        replace PM := PM.below bV2 PM.lt
        replace Hr1 := Hr1.below bV2 (by omega)
        replace Hr2 := Hr2.below bV2 (by omega)
        clear bV2
        obtain ⟨n1, n2, n3, n4⟩ := hzr.form (rv_at Hr1 Hr2)
        rw [n1, n2, n3, n4] at R5
        clear n1 n2 n3 n4 hzr
        have RR := Lib.hid (rrow1 V2 w.heap.size x (rv_at Hx1 Hx2) (by omega))
        have p_PX0 := PX.c0
        have p_PX1 := PX.c1
        have p_PX2 := PX.c2
        have p_PX3 := PX.c3
        go_wp2_with fail
        clear p_PX0 p_PX1 p_PX2 p_PX3
        obtain ⟨V3, hV3⟩ : ∃ V3 : World, V3 = (V2.alloc (.cells #[.bool x.num.neg, .slice x.num.A x.num.n x.num.c, .bool x.den.neg, .slice x.den.A x.den.n x.den.c] 26)) := ⟨_, rfl⟩
        have bV3 : Below V2.heap.size V2 V3 := by rw [hV3]; (repeat (first | with_reducible exact Below.refl _ _ | with_reducible refine Below.alloc ?_ (by first | (simp <;> omega) | omega) _))
        have zV3 : V2.heap.size + 1 ≤ V3.heap.size := by rw [hV3]; simp
        replace RR : Hid (RRow V3 w.heap.size V2.heap.size [x]) := by rw [hV3]; exact RR
        rw [← hV3]
        clear hV3
        replace E := E.trans (bV3.mono E.size)
        replace Hx1 := Hx1.below bV3 (by omega)
        replace Hx2 := Hx2.below bV3 (by omega)
        replace Hm := Hm.below bV3 (by omega)
        replace PX := PX.below bV3 PX.lt
        replace PM := PM.below bV3 PM.lt
        replace Hr1 := Hr1.below bV3 (by omega)
        replace Hr2 := Hr2.below bV3 (by omega)
        replace R5 := R5.below bV3 R5.lt
        replace F6 := F6.below bV3 F6.lt
        clear bV3
        (with_reducible refine (ratioFaults_any _ w.heap.size V2.heap.size 1 [x] RR.out rfl (by omega) (by omega)).mono ?_)
        rintro e w9 ⟨rfl, hb9⟩
        have sw9 := hb9.size
        replace E := E.trans (hb9.mono E.size)
        replace Hx1 := Hx1.below hb9 (by omega)
        replace Hx2 := Hx2.below hb9 (by omega)
        replace Hm := Hm.below hb9 (by omega)
        replace PX := PX.below hb9 PX.lt
        replace PM := PM.below hb9 PM.lt
        replace Hr1 := Hr1.below hb9 (by omega)
        replace Hr2 := Hr2.below hb9 (by omega)
        replace R5 := R5.below hb9 R5.lt
        replace F6 := F6.below hb9 F6.lt
        clear hb9
        clear RR
        rw [rf0' OX.out]
        have t_PM0 : (w9.alloc (.cells #[.int .i64 0, .int .i64 0] 28)).cell? ⟨w.heap.size + 1, 0, none⟩ = some ((.bool true)) := (PM.alloc _).c0
        have t_PM1 : (w9.alloc (.cells #[.int .i64 0, .int .i64 0] 28)).cell? ⟨w.heap.size + 1, 1, none⟩ = some ((.slice mo.A mo.n mo.c)) := (PM.alloc _).c1
        go_wp2_with fail
        clear t_PM0 t_PM1
        obtain ⟨V4, hV4⟩ : ∃ V4 : World, V4 = (w9.alloc (.cells #[.int .i64 0, .int .i64 0] 28)) := ⟨_, rfl⟩
        have bV4 : Below w9.heap.size w9 V4 := by rw [hV4]; (repeat (first | with_reducible exact Below.refl _ _ | with_reducible refine Below.alloc ?_ (by first | (simp <;> omega) | omega) _))
        have zV4 : w9.heap.size + 1 ≤ V4.heap.size := by rw [hV4]; simp
        have P7 : Bk2 V4 (w9.heap.size) (.int .i64 0) (.int .i64 0) := by rw [hV4]; exact (Bk2.newAt _ _ (by first | omega | (simp; done) | (simp; omega)) _ _ _)
        rw [← hV4]
        clear hV4
        replace E := E.trans (bV4.mono E.size)
        replace Hx1 := Hx1.below bV4 (by omega)
        replace Hx2 := Hx2.below bV4 (by omega)
        replace Hm := Hm.below bV4 (by omega)
        replace PX := PX.below bV4 PX.lt
        replace PM := PM.below bV4 PM.lt
        replace Hr1 := Hr1.below bV4 (by omega)
        replace Hr2 := Hr2.below bV4 (by omega)
        replace R5 := R5.below bV4 R5.lt
        replace F6 := F6.below bV4 F6.lt
        clear bV4
        (with_reducible refine (intOk_any _ w.heap.size true mo.A mo.n mo.c mo.xs Hm (by omega)).mono ?_)
        rintro e w3 ⟨rfl, hb3⟩
        have sw3 := hb3.size
        replace E := E.trans (hb3.mono E.size)
        replace Hx1 := Hx1.below hb3 (by omega)
        replace Hx2 := Hx2.below hb3 (by omega)
        replace Hm := Hm.below hb3 (by omega)
        replace PX := PX.below hb3 PX.lt
        replace PM := PM.below hb3 PM.lt
        replace Hr1 := Hr1.below hb3 (by omega)
        replace Hr2 := Hr2.below hb3 (by omega)
        replace R5 := R5.below hb3 R5.lt
        replace F6 := F6.below hb3 F6.lt
        replace P7 := P7.below hb3 P7.lt
        clear hb3
        rw [OM.out]
        have t_P70 := P7.c0
        have t_P71 := P7.c1
        have t_PM0 := PM.c0
        have t_PM1 := PM.c1
        go_wp2_with fail
        clear t_P70 t_P71 t_PM0 t_PM1
        (with_reducible refine (at_any _ _ _).mono ?_)
        rintro e w4 ⟨rfl, hb4⟩
        have sw4 := hb4.size
        replace E := E.trans (hb4.mono E.size)
        replace Hx1 := Hx1.below hb4 (by omega)
        replace Hx2 := Hx2.below hb4 (by omega)
        replace Hm := Hm.below hb4 (by omega)
        replace PX := PX.below hb4 PX.lt
        replace PM := PM.below hb4 PM.lt
        replace Hr1 := Hr1.below hb4 (by omega)
        replace Hr2 := Hr2.below hb4 (by omega)
        replace R5 := R5.below hb4 R5.lt
        replace F6 := F6.below hb4 F6.lt
        replace P7 := P7.below hb4 P7.lt
        clear hb4
        have y_P70 := P7.c0
        have z_P70 := P7.z0
        have y_P71 := P7.c1
        have z_P71 := P7.z1
        have lt_P7 := P7.lt
        go_wp2_with fail
        clear y_P70 z_P70 y_P71 z_P71 lt_P7
        obtain ⟨U6P7, hU6P7⟩ : ∃ U6P7 : World, U6P7 = ((w4.setCell ⟨w9.heap.size, 0, none⟩ (.int .i64 4)).setCell ⟨w9.heap.size, 1, none⟩ (.int .i64 (-2))) := ⟨_, rfl⟩
        have zU6P7 : U6P7.heap.size = w4.heap.size := by rw [hU6P7]; simp [World.setCell]
        replace E : Below w.heap.size w U6P7 := by rw [hU6P7]; exact ((E.setCell (by first | (simp; done) | (simp; omega)) _).setCell (by first | (simp; done) | (simp; omega)) _)
        replace Hx1 : LRd U6P7 (w.heap.size) x.num.A x.num.n x.num.c x.num.xs := by rw [hU6P7]; first | exact Hx1.setB P7 (by simp) (by simp) _ _ | exact Hx1.setFarL (by omega) _ _
        replace Hx2 : LRd U6P7 (w.heap.size) x.den.A x.den.n x.den.c x.den.xs := by rw [hU6P7]; first | exact Hx2.setB P7 (by simp) (by simp) _ _ | exact Hx2.setFarL (by omega) _ _
        replace Hm : LRd U6P7 (w.heap.size) mo.A mo.n mo.c mo.xs := by rw [hU6P7]; first | exact Hm.setB P7 (by simp) (by simp) _ _ | exact Hm.setFarL (by omega) _ _
        replace PX : Bk4 U6P7 (w.heap.size) (.bool x.num.neg) (.slice x.num.A x.num.n x.num.c) (.bool x.den.neg) (.slice x.den.A x.den.n x.den.c) := by rw [hU6P7]; exact PX.far2 (by omega) _ _
        replace PM : Bk2 U6P7 (w.heap.size + 1) (.bool true) (.slice mo.A mo.n mo.c) := by rw [hU6P7]; exact PM.far2 (by omega) _ _
        replace Hr1 : LRd U6P7 (w1.heap.size) r.num.A r.num.n r.num.c r.num.xs := by rw [hU6P7]; first | exact Hr1.setB P7 (by simp) (by simp) _ _ | exact Hr1.setFarL (by omega) _ _
        replace Hr2 : LRd U6P7 (w1.heap.size) r.den.A r.den.n r.den.c r.den.xs := by rw [hU6P7]; first | exact Hr2.setB P7 (by simp) (by simp) _ _ | exact Hr2.setFarL (by omega) _ _
        replace R5 : Bk4 U6P7 (w1.heap.size) (.bool false) (.slice r.num.A 0 r.num.c) (.bool false) (.slice r.den.A 0 r.den.c) := by rw [hU6P7]; exact R5.far2 (by omega) _ _
        replace F6 : Bk2 U6P7 (w1.heap.size + 1) (.int .i64 4) (.int .i64 (-2)) := by rw [hU6P7]; exact F6.far2 (by omega) _ _
        replace P7 : Bk2 U6P7 (w9.heap.size) (.int .i64 4) (.int .i64 (-2)) := by rw [hU6P7]; exact P7.set _ _
        rw [← hU6P7]
        clear hU6P7
        have zU6P7' := Nat.le_of_eq zU6P7
        replace zU6P7 := Nat.le_of_eq zU6P7.symm
        (with_reducible refine (parts_any _).mono ?_)
        rintro e wp ⟨rfl, hbp⟩
        have swp := hbp.size
        replace E := E.trans (hbp.mono E.size)
        replace Hx1 := Hx1.below hbp (by omega)
        replace Hx2 := Hx2.below hbp (by omega)
        replace Hm := Hm.below hbp (by omega)
        replace PX := PX.below hbp PX.lt
        replace PM := PM.below hbp PM.lt
        replace Hr1 := Hr1.below hbp (by omega)
        replace Hr2 := Hr2.below hbp (by omega)
        replace R5 := R5.below hbp R5.lt
        replace F6 := F6.below hbp F6.lt
        replace P7 := P7.below hbp P7.lt
        clear hbp
        have t_R50 := R5.c0
        have t_R51 := R5.c1
        have t_R52 := R5.c2
        have t_R53 := R5.c3
        have t_F60 := F6.c0
        have t_F61 := F6.c1
        have t_P70 := P7.c0
        have t_P71 := P7.c1
        go_wp2_with fail
        clear t_R50 t_R51 t_R52 t_R53 t_F60 t_F61 t_P70 t_P71
        (with_reducible refine (gives_f4 _ r.num.A r.den.A r.num.c r.den.c (QV.mk false none 0 0 [] none 0 0 []) (-2)).mono ?_)
        rintro e wg ⟨rfl, hbg⟩
        have swg := hbg.size
        replace E := E.trans (hbg.mono E.size)
        replace Hx1 := Hx1.below hbg (by omega)
        replace Hx2 := Hx2.below hbg (by omega)
        replace Hm := Hm.below hbg (by omega)
        replace PX := PX.below hbg PX.lt
        replace PM := PM.below hbg PM.lt
        replace Hr1 := Hr1.below hbg (by omega)
        replace Hr2 := Hr2.below hbg (by omega)
        replace R5 := R5.below hbg R5.lt
        replace F6 := F6.below hbg F6.lt
        replace P7 := P7.below hbg P7.lt
        clear hbg
        go_wp2_with fail
        go_ret
        exact ⟨rfl, E⟩
  · have hs : mo.neg = false := by
      cases h : mo.neg
      · rfl
      · have := IV.neg_lt om Hm.lim h; omega
    have HS9 := Lib.hid hs
    have VX := Lib.hid (RV.val ox (rv_at Hx1 Hx2))
    have IM := Lib.hid (IV.irep om Hm.lim)
    have MB := Lib.hid (show mo.val.natAbs < Top128 by rw [IV.abs]; exact lt128 (⟨Hm.lim, rfl, (vld_top (IV.vld om).1).1⟩ : Rep 4294967296 mo.xs (vb 4294967296 mo.xs)) rfl (IV.vld om).2)
    have MV := Lib.hid (IV.vpos hs)
    have OX := Lib.hid ox
    have OM := Lib.hid (show ivld false mo.xs = true by have h9 : ivld mo.neg mo.xs = true := om; rw [hs] at h9; exact h9)
    have OM1 := Lib.hid om
    have I1 := Lib.hid i1
    have I2 := Lib.hid i2
    have HN := Lib.hid (show (!false && decide (mo.n = 0)) = false by have h1 := noint_eq om (iv_at Hm); rw [hs] at h1; rw [h1]; exact decide_eq_false (by omega))
    have HV := Lib.hid hv
    have mn9 : mo.n ≤ 128 := by have h1 := (IV.vld om).2; have h2 := Hm.len.out; omega
    rw [hs] at PM
    clear ox om i1 i2 hs hv
    go_upto_region 2 with fail
    obtain ⟨V2, hV2⟩ : ∃ V2 : World, V2 = ((w1.alloc (.cells #[.bool r.num.neg, .slice r.num.A r.num.n r.num.c, .bool r.den.neg, .slice r.den.A r.den.n r.den.c] 26)).alloc (.cells #[.int .i64 0, .int .i64 0] 28)) := ⟨_, rfl⟩
    have bV2 : Below w1.heap.size w1 V2 := by rw [hV2]; (repeat (first | with_reducible exact Below.refl _ _ | with_reducible refine Below.alloc ?_ (by first | (simp <;> omega) | omega) _))
    have zV2 : w1.heap.size + 2 ≤ V2.heap.size := by rw [hV2]; simp
    have R5 : Bk4 V2 (w1.heap.size) (.bool r.num.neg) (.slice r.num.A r.num.n r.num.c) (.bool r.den.neg) (.slice r.den.A r.den.n r.den.c) := by rw [hV2]; exact ((Bk4.newAt _ _ (by first | omega | (simp; done) | (simp; omega)) _ _ _ _ _).alloc _)
    have F6 : Bk2 V2 (w1.heap.size + 1) (.int .i64 0) (.int .i64 0) := by rw [hV2]; exact (Bk2.newAt _ _ (by first | omega | (simp; done) | (simp; omega)) _ _ _)
    rw [← hV2]
    clear hV2
    replace E := E.trans (bV2.mono E.size)
    replace Hx1 := Hx1.below bV2 (by omega)
    replace Hx2 := Hx2.below bV2 (by omega)
    replace Hm := Hm.below bV2 (by omega)
    replace PX := PX.below bV2 PX.lt
    replace PM := PM.below bV2 PM.lt
    replace Hr1 := Hr1.below bV2 (by omega)
    replace Hr2 := Hr2.below bV2 (by omega)
    clear bV2
    have RR := Lib.hid (rrow1 V2 w.heap.size x (rv_at Hx1 Hx2) (by omega))
    have p_PX0 := PX.c0
    have p_PX1 := PX.c1
    have p_PX2 := PX.c2
    have p_PX3 := PX.c3
    go_wp2_with fail
    clear p_PX0 p_PX1 p_PX2 p_PX3
    obtain ⟨V3, hV3⟩ : ∃ V3 : World, V3 = (V2.alloc (.cells #[.bool x.num.neg, .slice x.num.A x.num.n x.num.c, .bool x.den.neg, .slice x.den.A x.den.n x.den.c] 26)) := ⟨_, rfl⟩
    have bV3 : Below V2.heap.size V2 V3 := by rw [hV3]; (repeat (first | with_reducible exact Below.refl _ _ | with_reducible refine Below.alloc ?_ (by first | (simp <;> omega) | omega) _))
    have zV3 : V2.heap.size + 1 ≤ V3.heap.size := by rw [hV3]; simp
    replace RR : Hid (RRow V3 w.heap.size V2.heap.size [x]) := by rw [hV3]; exact RR
    rw [← hV3]
    clear hV3
    replace E := E.trans (bV3.mono E.size)
    replace Hx1 := Hx1.below bV3 (by omega)
    replace Hx2 := Hx2.below bV3 (by omega)
    replace Hm := Hm.below bV3 (by omega)
    replace PX := PX.below bV3 PX.lt
    replace PM := PM.below bV3 PM.lt
    replace Hr1 := Hr1.below bV3 (by omega)
    replace Hr2 := Hr2.below bV3 (by omega)
    replace R5 := R5.below bV3 R5.lt
    replace F6 := F6.below bV3 F6.lt
    clear bV3
    (with_reducible refine (ratioFaults_any _ w.heap.size V2.heap.size 1 [x] RR.out rfl (by omega) (by omega)).mono ?_)
    rintro e w9 ⟨rfl, hb9⟩
    have sw9 := hb9.size
    replace E := E.trans (hb9.mono E.size)
    replace Hx1 := Hx1.below hb9 (by omega)
    replace Hx2 := Hx2.below hb9 (by omega)
    replace Hm := Hm.below hb9 (by omega)
    replace PX := PX.below hb9 PX.lt
    replace PM := PM.below hb9 PM.lt
    replace Hr1 := Hr1.below hb9 (by omega)
    replace Hr2 := Hr2.below hb9 (by omega)
    replace R5 := R5.below hb9 R5.lt
    replace F6 := F6.below hb9 F6.lt
    clear hb9
    clear RR
    rw [rf0' OX.out]
    have t_PM0 : (w9.alloc (.cells #[.int .i64 0, .int .i64 0] 28)).cell? ⟨w.heap.size + 1, 0, none⟩ = some ((.bool false)) := (PM.alloc _).c0
    have t_PM1 : (w9.alloc (.cells #[.int .i64 0, .int .i64 0] 28)).cell? ⟨w.heap.size + 1, 1, none⟩ = some ((.slice mo.A mo.n mo.c)) := (PM.alloc _).c1
    go_wp2_with fail
    clear t_PM0 t_PM1
    obtain ⟨V4, hV4⟩ : ∃ V4 : World, V4 = (w9.alloc (.cells #[.int .i64 0, .int .i64 0] 28)) := ⟨_, rfl⟩
    have bV4 : Below w9.heap.size w9 V4 := by rw [hV4]; (repeat (first | with_reducible exact Below.refl _ _ | with_reducible refine Below.alloc ?_ (by first | (simp <;> omega) | omega) _))
    have zV4 : w9.heap.size + 1 ≤ V4.heap.size := by rw [hV4]; simp
    have P7 : Bk2 V4 (w9.heap.size) (.int .i64 0) (.int .i64 0) := by rw [hV4]; exact (Bk2.newAt _ _ (by first | omega | (simp; done) | (simp; omega)) _ _ _)
    rw [← hV4]
    clear hV4
    replace E := E.trans (bV4.mono E.size)
    replace Hx1 := Hx1.below bV4 (by omega)
    replace Hx2 := Hx2.below bV4 (by omega)
    replace Hm := Hm.below bV4 (by omega)
    replace PX := PX.below bV4 PX.lt
    replace PM := PM.below bV4 PM.lt
    replace Hr1 := Hr1.below bV4 (by omega)
    replace Hr2 := Hr2.below bV4 (by omega)
    replace R5 := R5.below bV4 R5.lt
    replace F6 := F6.below bV4 F6.lt
    clear bV4
    (with_reducible refine (intOk_any _ w.heap.size false mo.A mo.n mo.c mo.xs Hm (by omega)).mono ?_)
    rintro e w3 ⟨rfl, hb3⟩
    have sw3 := hb3.size
    replace E := E.trans (hb3.mono E.size)
    replace Hx1 := Hx1.below hb3 (by omega)
    replace Hx2 := Hx2.below hb3 (by omega)
    replace Hm := Hm.below hb3 (by omega)
    replace PX := PX.below hb3 PX.lt
    replace PM := PM.below hb3 PM.lt
    replace Hr1 := Hr1.below hb3 (by omega)
    replace Hr2 := Hr2.below hb3 (by omega)
    replace R5 := R5.below hb3 R5.lt
    replace F6 := F6.below hb3 F6.lt
    replace P7 := P7.below hb3 P7.lt
    clear hb3
    rw [OM.out]
    have t_P70 := P7.c0
    have t_P71 := P7.c1
    have t_PM0 := PM.c0
    have t_PM1 := PM.c1
    go_wp2_with fail
    clear t_P70 t_P71 t_PM0 t_PM1
    (with_reducible refine (noInt_any _ false mo.A mo.n mo.c (by have := Hm.cap; omega)).mono ?_)
    rintro e w5 ⟨rfl, hb5⟩
    have sw5 := hb5.size
    replace E := E.trans (hb5.mono E.size)
    replace Hx1 := Hx1.below hb5 (by omega)
    replace Hx2 := Hx2.below hb5 (by omega)
    replace Hm := Hm.below hb5 (by omega)
    replace PX := PX.below hb5 PX.lt
    replace PM := PM.below hb5 PM.lt
    replace Hr1 := Hr1.below hb5 (by omega)
    replace Hr2 := Hr2.below hb5 (by omega)
    replace R5 := R5.below hb5 R5.lt
    replace F6 := F6.below hb5 F6.lt
    replace P7 := P7.below hb5 P7.lt
    clear hb5
    rw [HN.out]
    go_wp2_with fail
    (with_reducible refine (parts_any _).mono ?_)
    rintro e wp ⟨rfl, hbp⟩
    have swp := hbp.size
    replace E := E.trans (hbp.mono E.size)
    replace Hx1 := Hx1.below hbp (by omega)
    replace Hx2 := Hx2.below hbp (by omega)
    replace Hm := Hm.below hbp (by omega)
    replace PX := PX.below hbp PX.lt
    replace PM := PM.below hbp PM.lt
    replace Hr1 := Hr1.below hbp (by omega)
    replace Hr2 := Hr2.below hbp (by omega)
    replace R5 := R5.below hbp R5.lt
    replace F6 := F6.below hbp F6.lt
    replace P7 := P7.below hbp P7.lt
    clear hbp
    have t_P70 := P7.c0
    have t_P71 := P7.c1
    have t_PX0 := PX.c0
    have t_PX1 := PX.c1
    have t_PX2 := PX.c2
    have t_PX3 := PX.c3
    go_wp2_with fail
    clear t_P70 t_P71 t_PX0 t_PX1 t_PX2 t_PX3
    (with_reducible refine (ratioOf_any _ w.heap.size x (rv_at Hx1 Hx2) (by omega) OX.out).mono ?_)
    rintro e w10 hq
    obtain ⟨p, rfl, hq', hi, hb10⟩ := GivesRR.q hq
    clear hq
    have s10 := hb10.size
    replace E := E.trans (hb10.mono E.size)
    replace Hx1 := Hx1.below hb10 (by omega)
    replace Hx2 := Hx2.below hb10 (by omega)
    replace Hm := Hm.below hb10 (by omega)
    replace PX := PX.below hb10 PX.lt
    replace PM := PM.below hb10 PM.lt
    replace Hr1 := Hr1.below hb10 (by omega)
    replace Hr2 := Hr2.below hb10 (by omega)
    replace R5 := R5.below hb10 R5.lt
    replace F6 := F6.below hb10 F6.lt
    replace P7 := P7.below hb10 P7.lt
    clear hb10
    obtain ⟨v1, i1, i2, i3⟩ := hi
    have R1 := Lib.hid i1
    have S1 := Lib.hid i2
    have R2 := Lib.hid i3
    clear i1 i2 i3
    have Hp1 : DRd w10 w10.heap.size p.A p.n p.c p.xs := hq'.1
    have Hp2 : DRd w10 w10.heap.size p.D p.k p.d p.ys := hq'.2
    clear hq'
    obtain ⟨n0, hn0⟩ : ∃ y, y = x.num.val := ⟨_, rfl⟩
    obtain ⟨d0, hd0'⟩ : ∃ y, y = x.den.val := ⟨_, rfl⟩
    rw [← hn0, ← hd0'] at VX I1 I2
    rw [← hn0] at S1
    rw [← hd0'] at R2
    clear hn0 hd0'
    have hd0 : 1 ≤ d0 := by have := VX.out.pos; omega
    have HB := Lib.hid (show n0.natAbs < Top128 ∧ d0.natAbs < Top128 from ⟨VX.out.bn, VX.out.bd⟩)
    have hg := Lib.hid VX.out.low
    have dn := Lib.hid (show ((d0.natAbs : Nat) : Int) = d0 by omega)
    obtain ⟨mv, hmv⟩ : ∃ y, y = vb 4294967296 mo.xs := ⟨_, rfl⟩
    have HMV := Lib.hid hmv
    have MV2 := Lib.hid (show mo.val = (mv : Int) by rw [MV.out, hmv])
    clear hmv MV
    have hm1 : 1 ≤ mv := by have := HV.out; have := MV2.out; omega
    have hmT := Lib.hid (show mv < Top128 by have h1 := MB.out; rw [MV2.out] at h1; exact h1)
    rw [MV2.out] at I1 I2
    have lp1 := Lib.hid (show p.n ≤ 256 from repD_len128 R1.out (by rw [← sval_abs p.m v1, S1.out]; exact HB.out.1) Hp1.len.out)
    have lp2 := Lib.hid (show p.k ≤ 256 from repD_len128 R2.out HB.out.2 Hp2.len.out)
    go_upto_region 12 with fail
    obtain ⟨V8, hV8⟩ : ∃ V8 : World, V8 = (w10.alloc (.cells #[.bool p.m, .slice p.A p.n p.c, .slice p.D p.k p.d] 42)) := ⟨_, rfl⟩
    have bV8 : Below w10.heap.size w10 V8 := by rw [hV8]; (repeat (first | with_reducible exact Below.refl _ _ | with_reducible refine Below.alloc ?_ (by first | (simp <;> omega) | omega) _))
    have zV8 : w10.heap.size + 1 ≤ V8.heap.size := by rw [hV8]; simp
    have P8 : Bk3 V8 (w10.heap.size) (.bool p.m) (.slice p.A p.n p.c) (.slice p.D p.k p.d) := by rw [hV8]; exact (Bk3.newAt _ _ (by first | omega | (simp; done) | (simp; omega)) _ _ _ _)
    rw [← hV8]
    clear hV8
    replace E := E.trans (bV8.mono E.size)
    replace Hx1 := Hx1.below bV8 (by omega)
    replace Hx2 := Hx2.below bV8 (by omega)
    replace Hm := Hm.below bV8 (by omega)
    replace PX := PX.below bV8 PX.lt
    replace PM := PM.below bV8 PM.lt
    replace Hr1 := Hr1.below bV8 (by omega)
    replace Hr2 := Hr2.below bV8 (by omega)
    replace R5 := R5.below bV8 R5.lt
    replace F6 := F6.below bV8 F6.lt
    replace P7 := P7.below bV8 P7.lt
    replace Hp1 := Hp1.below bV8 (by omega)
    replace Hp2 := Hp2.below bV8 (by omega)
    clear bV8
    have lt8 := P8.lt
    obtain ⟨le, hle⟩ : ∃ b : Bool, b = decide (d0 ≤ (mv : Int)) := ⟨_, rfl⟩
    have LE := Lib.hid hle
    clear hle
    go_cut [59] (fun s wx => s = .bool le ∧ Below V8.heap.size V8 wx)
    case first =>
      as_aux_lemma =>
        have lt_P8 := P8.lt
        have lt_PM := PM.lt
        have HS := Lib.hid (fun (u : World) (hu : Below (V8.heap.size) V8 u) => (⟨(hu.cell (p := ⟨w10.heap.size, 0, none⟩) (by show w10.heap.size < _; omega)).trans P8.c0, (hu.cell (p := ⟨w10.heap.size, 1, none⟩) (by show w10.heap.size < _; omega)).trans P8.c1, (hu.cell (p := ⟨w10.heap.size, 2, none⟩) (by show w10.heap.size < _; omega)).trans P8.c2, (hu.cell (p := ⟨w.heap.size + 1, 0, none⟩) (by show w.heap.size + 1 < _; omega)).trans PM.c0, (hu.cell (p := ⟨w.heap.size + 1, 1, none⟩) (by show w.heap.size + 1 < _; omega)).trans PM.c1⟩ : u.cell? ⟨w10.heap.size, 0, none⟩ = some (.bool p.m) ∧ u.cell? ⟨w10.heap.size, 1, none⟩ = some (.slice p.A p.n p.c) ∧ u.cell? ⟨w10.heap.size, 2, none⟩ = some (.slice p.D p.k p.d) ∧ u.cell? ⟨w.heap.size + 1, 0, none⟩ = some (.bool false) ∧ u.cell? ⟨w.heap.size + 1, 1, none⟩ = some (.slice mo.A mo.n mo.c)))
        have G0 : Below V8.heap.size V8 V8.drew := Below.drew (Below.refl _ _)
        have g0s := G0.size
        have G0m : Below (V8.heap.size) V8 V8.drew := G0.mono (by omega)
        go_region_held3 (fun u => u.cell? ⟨w10.heap.size, 0, none⟩ = some (.bool p.m) ∧ u.cell? ⟨w10.heap.size, 1, none⟩ = some (.slice p.A p.n p.c) ∧ u.cell? ⟨w10.heap.size, 2, none⟩ = some (.slice p.D p.k p.d) ∧ u.cell? ⟨w.heap.size + 1, 0, none⟩ = some (.bool false) ∧ u.cell? ⟨w.heap.size + 1, 1, none⟩ = some (.slice mo.A mo.n mo.c)) (first | (refine HS.out _ ?_; (repeat (first | with_reducible exact G0m | with_reducible exact BN.mono (by omega) | with_reducible exact B1.mono (by omega) | with_reducible exact Below.refl _ _ | with_reducible refine Below.drew ?_ | with_reducible refine below_drewN ?_ _ | with_reducible refine Below.setCell ?_ (by first | (simp <;> omega) | omega) _)); done) | fail)
          (first
            | (go_at_call 30; (with_reducible refine (of_any _ V8.heap.size mo.A mo.n mo.c mo.xs ((Hm.below G0 (by omega)).more (by omega)) (by omega) (by omega)).mono ?_); rintro e u1 ⟨A1, k1, c1, y1, rfl, hd1, hr1, hb1⟩; have B1 : Below V8.heap.size V8 u1 := bnext G0 hb1; have b1s := B1.size; have Q1 := Lib.hid (show Rep 65536 y1 mv by rw [HMV.out]; exact hr1); clear hr1)
            | (go_at_call 46; (with_reducible refine (cmpD_w _ u1.heap.size p.D A1 p.k k1 p.d c1 d0.natAbs mv p.ys y1 ((Hp2.below B1 (by omega)).more (by omega)) hd1 R2 Q1).mono ?_); rintro e u2 ⟨r2, hcv, rfl, hb2⟩; have BN : Below V8.heap.size V8 u2 := bnext B1 hb2; have e2 := Lib.hid (show decide (r2 ≤ 0) = le by rw [LE.out, ← dn.out]; unfold CmpV at hcv; rw [Bool.eq_iff_iff, decide_eq_true_eq, decide_eq_true_eq]; omega); clear hcv)
            | fail)
        all_goals (go_wp2_with fail)
        all_goals go_meet
        all_goals exact ⟨by rw [e2.out], BN⟩
    case rest =>
    obtain ⟨rfl, hbX⟩ := hcut
    replace P8 := P8.below hbX P8.lt
    replace E := E.trans (hbX.mono E.size)
    replace Hx1 := Hx1.below hbX (by omega)
    replace Hx2 := Hx2.below hbX (by omega)
    replace Hm := Hm.below hbX (by omega)
    replace PX := PX.below hbX PX.lt
    replace PM := PM.below hbX PM.lt
    replace Hr1 := Hr1.below hbX (by omega)
    replace Hr2 := Hr2.below hbX (by omega)
    replace R5 := R5.below hbX R5.lt
    replace F6 := F6.below hbX F6.lt
    replace P7 := P7.below hbX P7.lt
    replace Hp1 := Hp1.below hbX (by omega)
    replace Hp2 := Hp2.below hbX (by omega)
    have sVa := hbX.size
    clear hbX
    obtain ⟨Va, hVa⟩ : ∃ y : World, y = wc := ⟨_, rfl⟩
    subst hVa
    cases le
    rotate_left
    · as_aux_lemma =>
        have NS := near_self hd0 (of_decide_eq_true LE.out.symm) hg.out
        rw [NS.1] at I1
        rw [NS.2] at I2
        clear NS
        have t_R50 := R5.c0
        have t_R51 := R5.c1
        have t_R52 := R5.c2
        have t_R53 := R5.c3
        have t_F60 := F6.c0
        have t_F61 := F6.c1
        have t_P80 := P8.c0
        have t_P81 := P8.c1
        have t_P82 := P8.c2
        have t_P70 := P7.c0
        have t_P71 := P7.c1
        go_wp2_with fail
        clear t_R50 t_R51 t_R52 t_R53 t_F60 t_F61 t_P80 t_P81 t_P82 t_P70 t_P71
        (with_reducible refine (gives_ok _ Va.heap.size r p v1 d0.natAbs n0 d0 (rv_at (Hr1.more (by omega)) (Hr2.more (by omega))) (qv_at (Hp1.more (by omega)) (Hp2.more (by omega))) (Nat.le_refl _) I1 I2 R1 R2 S1 (Lib.hid (by rw [sval_f]; exact dn.out)) lp1.out lp2.out).mono ?_)
        rintro e wg ⟨rfl, hbg⟩
        have swg := hbg.size
        replace P8 := P8.below hbg P8.lt
        replace E := E.trans (hbg.mono E.size)
        replace Hx1 := Hx1.below hbg (by omega)
        replace Hx2 := Hx2.below hbg (by omega)
        replace Hm := Hm.below hbg (by omega)
        replace PX := PX.below hbg PX.lt
        replace PM := PM.below hbg PM.lt
        replace Hr1 := Hr1.below hbg (by omega)
        replace Hr2 := Hr2.below hbg (by omega)
        replace R5 := R5.below hbg R5.lt
        replace F6 := F6.below hbg F6.lt
        replace P7 := P7.below hbg P7.lt
        replace Hp1 := Hp1.below hbg (by omega)
        replace Hp2 := Hp2.below hbg (by omega)
        clear hbg
        go_wp2_with fail
        go_ret
        exact ⟨rfl, E⟩
    have hmd := Lib.hid (show (mv : Int) < d0 by have := of_decide_eq_false LE.out.symm; omega)
    have NI := Lib.hid (near_is (n0 := n0) (m := (mv : Int)) hd0 (by omega))
    have t_PM0 := PM.c0
    have t_PM1 := PM.c1
    go_wp2_with fail
    clear t_PM0 t_PM1
    have SML := Lib.hid (ismall_ok Va w.heap.size (IV.mk false mo.A mo.n mo.c mo.xs) (iv_at (a := IV.mk false mo.A mo.n mo.c mo.xs) Hm) (by omega) (show ivld false mo.xs = true from OM.out))
    have VM := Lib.hid (show (IV.mk false mo.A mo.n mo.c mo.xs).val = (mv : Int) by rw [IV.vpos rfl, HMV.out])
    rw [VM.out] at SML
    by_cases h40 : mv ≤ 40
    · as_aux_lemma =>
        skip
        (with_reducible refine (sml_fit SML.out (by omega)).mono ?_)
        rintro e w11 ⟨rfl, hb11⟩
        have sw11 := hb11.size
        replace P8 := P8.below hb11 P8.lt
        replace E := E.trans (hb11.mono E.size)
        replace Hx1 := Hx1.below hb11 (by omega)
        replace Hx2 := Hx2.below hb11 (by omega)
        replace Hm := Hm.below hb11 (by omega)
        replace PX := PX.below hb11 PX.lt
        replace PM := PM.below hb11 PM.lt
        replace Hr1 := Hr1.below hb11 (by omega)
        replace Hr2 := Hr2.below hb11 (by omega)
        replace R5 := R5.below hb11 R5.lt
        replace F6 := F6.below hb11 F6.lt
        replace P7 := P7.below hb11 P7.lt
        replace Hp1 := Hp1.below hb11 (by omega)
        replace Hp2 := Hp2.below hb11 (by omega)
        clear hb11
        have t_PM0 : (w11.alloc (.cells #[.int .i64 0, .int .i64 0] 28)).cell? ⟨w.heap.size + 1, 0, none⟩ = some ((.bool false)) := (PM.alloc _).c0
        have t_PM1 : (w11.alloc (.cells #[.int .i64 0, .int .i64 0] 28)).cell? ⟨w.heap.size + 1, 1, none⟩ = some ((.slice mo.A mo.n mo.c)) := (PM.alloc _).c1
        go_wp2_with fail
        clear t_PM0 t_PM1
        obtain ⟨V10, hV10⟩ : ∃ V10 : World, V10 = (w11.alloc (.cells #[.int .i64 0, .int .i64 0] 28)) := ⟨_, rfl⟩
        have bV10 : Below w11.heap.size w11 V10 := by rw [hV10]; (repeat (first | with_reducible exact Below.refl _ _ | with_reducible refine Below.alloc ?_ (by first | (simp <;> omega) | omega) _))
        have zV10 : w11.heap.size + 1 ≤ V10.heap.size := by rw [hV10]; simp
        have F10 : Bk2 V10 (w11.heap.size) (.int .i64 0) (.int .i64 0) := by rw [hV10]; exact (Bk2.newAt _ _ (by first | omega | (simp; done) | (simp; omega)) _ _ _)
        rw [← hV10]
        clear hV10
        replace P8 := P8.below bV10 P8.lt
        replace E := E.trans (bV10.mono E.size)
        replace Hx1 := Hx1.below bV10 (by omega)
        replace Hx2 := Hx2.below bV10 (by omega)
        replace Hm := Hm.below bV10 (by omega)
        replace PX := PX.below bV10 PX.lt
        replace PM := PM.below bV10 PM.lt
        replace Hr1 := Hr1.below bV10 (by omega)
        replace Hr2 := Hr2.below bV10 (by omega)
        replace R5 := R5.below bV10 R5.lt
        replace F6 := F6.below bV10 F6.lt
        replace P7 := P7.below bV10 P7.lt
        replace Hp1 := Hp1.below bV10 (by omega)
        replace Hp2 := Hp2.below bV10 (by omega)
        clear bV10
        clear F10
        (with_reducible refine (intOf_any _ w.heap.size false mo.A mo.n mo.c mo.xs Hm (by omega) (by omega)).mono ?_)
        rintro e w12 ⟨m1, A1, k1, c1, x1, v2, rfl, hd1, hr1, hs1, hb12⟩
        have sw12 := hb12.size
        replace P8 := P8.below hb12 P8.lt
        replace E := E.trans (hb12.mono E.size)
        replace Hx1 := Hx1.below hb12 (by omega)
        replace Hx2 := Hx2.below hb12 (by omega)
        replace Hm := Hm.below hb12 (by omega)
        replace PX := PX.below hb12 PX.lt
        replace PM := PM.below hb12 PM.lt
        replace Hr1 := Hr1.below hb12 (by omega)
        replace Hr2 := Hr2.below hb12 (by omega)
        replace R5 := R5.below hb12 R5.lt
        replace F6 := F6.below hb12 F6.lt
        replace P7 := P7.below hb12 P7.lt
        replace Hp1 := Hp1.below hb12 (by omega)
        replace Hp2 := Hp2.below hb12 (by omega)
        clear hb12
        have R3 := Lib.hid hr1
        have S3 := Lib.hid (show sval m1 v2 = (mv : Int) by rw [hs1, sval_f, HMV.out])
        clear hr1 hs1
        go_wp2_with fail
        (with_reducible refine (number_any _ (40) (by decide) (by decide)).mono ?_)
        rintro e w13 ⟨m2, A2, k2, c2, x2, v3, rfl, hd2, hr2, hs2, hb13⟩
        have sw13 := hb13.size
        replace P8 := P8.below hb13 P8.lt
        replace E := E.trans (hb13.mono E.size)
        replace Hx1 := Hx1.below hb13 (by omega)
        replace Hx2 := Hx2.below hb13 (by omega)
        replace Hm := Hm.below hb13 (by omega)
        replace PX := PX.below hb13 PX.lt
        replace PM := PM.below hb13 PM.lt
        replace Hr1 := Hr1.below hb13 (by omega)
        replace Hr2 := Hr2.below hb13 (by omega)
        replace R5 := R5.below hb13 R5.lt
        replace F6 := F6.below hb13 F6.lt
        replace P7 := P7.below hb13 P7.lt
        replace Hp1 := Hp1.below hb13 (by omega)
        replace Hp2 := Hp2.below hb13 (by omega)
        replace hd1 := hd1.below hb13 (by omega)
        clear hb13
        have R4 := Lib.hid hr2
        have S4 := Lib.hid hs2
        clear hr2 hs2
        go_wp2_with fail
        (with_reducible refine (rorder_any _ w13.heap.size m1 m2 A1 A2 k1 k2 c1 c2 v2 v3 x1 x2 (hd1.more (by omega)) hd2 (Nat.le_refl _) R3.out R4.out).mono ?_)
        rintro e w14 ⟨r4, hic, rfl, hb14⟩
        have sw14 := hb14.size
        replace P8 := P8.below hb14 P8.lt
        replace E := E.trans (hb14.mono E.size)
        replace Hx1 := Hx1.below hb14 (by omega)
        replace Hx2 := Hx2.below hb14 (by omega)
        replace Hm := Hm.below hb14 (by omega)
        replace PX := PX.below hb14 PX.lt
        replace PM := PM.below hb14 PM.lt
        replace Hr1 := Hr1.below hb14 (by omega)
        replace Hr2 := Hr2.below hb14 (by omega)
        replace R5 := R5.below hb14 R5.lt
        replace F6 := F6.below hb14 F6.lt
        replace P7 := P7.below hb14 P7.lt
        replace Hp1 := Hp1.below hb14 (by omega)
        replace Hp2 := Hp2.below hb14 (by omega)
        replace hd1 := hd1.below hb14 (by omega)
        replace hd2 := hd2.below hb14 (by omega)
        clear hb14
        have e4 : decide (r4 ≤ 0) = true := by rw [S3.out, S4.out] at hic; unfold ICmp at hic; exact decide_eq_true (by omega)
        clear hic
        clear hd1 hd2
        go_upto_region 16 with fail
        clear e4
        have lt_R5 := R5.lt
        have lt_F6 := F6.lt
        have lt_P8 := P8.lt
        have lt_P7 := P7.lt
        have HS := Lib.hid (fun (u : World) (hu : Below (w14.heap.size) w14 u) => (⟨(hu.cell (p := ⟨w1.heap.size, 0, none⟩) (by show w1.heap.size < _; omega)).trans R5.c0, (hu.cell (p := ⟨w1.heap.size, 1, none⟩) (by show w1.heap.size < _; omega)).trans R5.c1, (hu.cell (p := ⟨w1.heap.size, 2, none⟩) (by show w1.heap.size < _; omega)).trans R5.c2, (hu.cell (p := ⟨w1.heap.size, 3, none⟩) (by show w1.heap.size < _; omega)).trans R5.c3, (hu.cell (p := ⟨w1.heap.size + 1, 0, none⟩) (by show w1.heap.size + 1 < _; omega)).trans F6.c0, (hu.cell (p := ⟨w1.heap.size + 1, 1, none⟩) (by show w1.heap.size + 1 < _; omega)).trans F6.c1, (hu.cell (p := ⟨w10.heap.size, 0, none⟩) (by show w10.heap.size < _; omega)).trans P8.c0, (hu.cell (p := ⟨w10.heap.size, 1, none⟩) (by show w10.heap.size < _; omega)).trans P8.c1, (hu.cell (p := ⟨w10.heap.size, 2, none⟩) (by show w10.heap.size < _; omega)).trans P8.c2, (hu.cell (p := ⟨w9.heap.size, 0, none⟩) (by show w9.heap.size < _; omega)).trans P7.c0, (hu.cell (p := ⟨w9.heap.size, 1, none⟩) (by show w9.heap.size < _; omega)).trans P7.c1⟩ : u.cell? ⟨w1.heap.size, 0, none⟩ = some (.bool r.num.neg) ∧ u.cell? ⟨w1.heap.size, 1, none⟩ = some (.slice r.num.A r.num.n r.num.c) ∧ u.cell? ⟨w1.heap.size, 2, none⟩ = some (.bool r.den.neg) ∧ u.cell? ⟨w1.heap.size, 3, none⟩ = some (.slice r.den.A r.den.n r.den.c) ∧ u.cell? ⟨w1.heap.size + 1, 0, none⟩ = some (.int .i64 0) ∧ u.cell? ⟨w1.heap.size + 1, 1, none⟩ = some (.int .i64 0) ∧ u.cell? ⟨w10.heap.size, 0, none⟩ = some (.bool p.m) ∧ u.cell? ⟨w10.heap.size, 1, none⟩ = some (.slice p.A p.n p.c) ∧ u.cell? ⟨w10.heap.size, 2, none⟩ = some (.slice p.D p.k p.d) ∧ u.cell? ⟨w9.heap.size, 0, none⟩ = some (.int .i64 0) ∧ u.cell? ⟨w9.heap.size, 1, none⟩ = some (.int .i64 0)))
        have G0 : Below w14.heap.size w14 w14.drew := Below.drew (Below.refl _ _)
        have g0s := G0.size
        have G0m : Below (w14.heap.size) w14 w14.drew := G0.mono (by omega)
        have ZB := Lib.hid (show (nearZ n0 d0 (mv : Int)).1.natAbs < Top128 ∧ (nearZ n0 d0 (mv : Int)).2.natAbs < Top128 from ⟨Nat.lt_of_le_of_lt (near_small NI.out hd0 (by omega) hmd.out hg.out) HB.out.1, by have := NI.out.le; have := NI.out.pos; have := hmT.out; omega⟩)
        go_region_held3 (fun u => u.cell? ⟨w1.heap.size, 0, none⟩ = some (.bool r.num.neg) ∧ u.cell? ⟨w1.heap.size, 1, none⟩ = some (.slice r.num.A r.num.n r.num.c) ∧ u.cell? ⟨w1.heap.size, 2, none⟩ = some (.bool r.den.neg) ∧ u.cell? ⟨w1.heap.size, 3, none⟩ = some (.slice r.den.A r.den.n r.den.c) ∧ u.cell? ⟨w1.heap.size + 1, 0, none⟩ = some (.int .i64 0) ∧ u.cell? ⟨w1.heap.size + 1, 1, none⟩ = some (.int .i64 0) ∧ u.cell? ⟨w10.heap.size, 0, none⟩ = some (.bool p.m) ∧ u.cell? ⟨w10.heap.size, 1, none⟩ = some (.slice p.A p.n p.c) ∧ u.cell? ⟨w10.heap.size, 2, none⟩ = some (.slice p.D p.k p.d) ∧ u.cell? ⟨w9.heap.size, 0, none⟩ = some (.int .i64 0) ∧ u.cell? ⟨w9.heap.size, 1, none⟩ = some (.int .i64 0)) (first | (refine HS.out _ ?_; (repeat (first | with_reducible exact G0m | with_reducible exact BN.mono (by omega) | with_reducible exact B1.mono (by omega) | with_reducible exact Below.refl _ _ | with_reducible refine Below.drew ?_ | with_reducible refine below_drewN ?_ _ | with_reducible refine Below.setCell ?_ (by first | (simp <;> omega) | omega) _)); done) | fail)
          (first
            | (go_at_call 49; (with_reducible refine (nearestD_any _ w14.heap.size p v1 mv n0 d0 (qv_at ((Hp1.below G0 (by omega)).more (by omega)) ((Hp2.below G0 (by omega)).more (by omega))) (by omega) R1 S1 R2 hd0 HB hm1 h40 hg hmd).mono ?_); rintro e u1 ⟨q, rfl, hq, ⟨vq, h1, h2, h3⟩, hb1⟩; have B1 : Below w14.heap.size w14 u1 := bnext G0 hb1; have b1s := B1.size; have RQ1 := Lib.hid h1; have SQ := Lib.hid h2; have RQ2 := Lib.hid h3; have Aqx : DRd u1 u1.heap.size q.A q.n q.c q.xs := hq.1; have Aqy : DRd u1 u1.heap.size q.D q.k q.d q.ys := hq.2; clear h1 h2 h3 hq)
            | (go_at_call 17; (with_reducible refine (gives_ok _ u1.heap.size r q vq (nearZ n0 d0 (mv : Int)).2.natAbs (nearZ n0 d0 (mv : Int)).1 (nearZ n0 d0 (mv : Int)).2 (rv_at ((Hr1.below B1 (by omega)).more (by omega)) ((Hr2.below B1 (by omega)).more (by omega))) (qv_at Aqx Aqy) (Nat.le_refl _) I1 I2 RQ1 RQ2 SQ (Lib.hid (by rw [sval_f]; have := NI.out.pos; omega)) (repD_len128 RQ1.out (by rw [← sval_abs q.m vq, SQ.out]; exact ZB.out.1) Aqx.len.out) (repD_len128 RQ2.out ZB.out.2 Aqy.len.out)).mono ?_); rintro e u2 ⟨rfl, hb2⟩; have BN : Below w14.heap.size w14 u2 := bnext B1 hb2)
            | fail)
        all_goals (go_wp2_with fail)
        all_goals go_ret
        all_goals exact ⟨rfl, E.trans (BN.mono E.size)⟩
    · as_aux_lemma =>
        skip
        (with_reducible refine (sml_any SML.out).mono ?_)
        rintro e w11 ⟨n9, f9, e9, rfl, hb11⟩
        have sw11 := hb11.size
        replace P8 := P8.below hb11 P8.lt
        replace E := E.trans (hb11.mono E.size)
        replace Hx1 := Hx1.below hb11 (by omega)
        replace Hx2 := Hx2.below hb11 (by omega)
        replace Hm := Hm.below hb11 (by omega)
        replace PX := PX.below hb11 PX.lt
        replace PM := PM.below hb11 PM.lt
        replace Hr1 := Hr1.below hb11 (by omega)
        replace Hr2 := Hr2.below hb11 (by omega)
        replace R5 := R5.below hb11 R5.lt
        replace F6 := F6.below hb11 F6.lt
        replace P7 := P7.below hb11 P7.lt
        replace Hp1 := Hp1.below hb11 (by omega)
        replace Hp2 := Hp2.below hb11 (by omega)
        clear hb11
        have t_PM0 : (w11.alloc (.cells #[.int .i64 f9, .int .i64 e9] 28)).cell? ⟨w.heap.size + 1, 0, none⟩ = some ((.bool false)) := (PM.alloc _).c0
        have t_PM1 : (w11.alloc (.cells #[.int .i64 f9, .int .i64 e9] 28)).cell? ⟨w.heap.size + 1, 1, none⟩ = some ((.slice mo.A mo.n mo.c)) := (PM.alloc _).c1
        go_wp2_with fail
        clear t_PM0 t_PM1
        obtain ⟨V10, hV10⟩ : ∃ V10 : World, V10 = (w11.alloc (.cells #[.int .i64 f9, .int .i64 e9] 28)) := ⟨_, rfl⟩
        have bV10 : Below w11.heap.size w11 V10 := by rw [hV10]; (repeat (first | with_reducible exact Below.refl _ _ | with_reducible refine Below.alloc ?_ (by first | (simp <;> omega) | omega) _))
        have zV10 : w11.heap.size + 1 ≤ V10.heap.size := by rw [hV10]; simp
        have F10 : Bk2 V10 (w11.heap.size) (.int .i64 f9) (.int .i64 e9) := by rw [hV10]; exact (Bk2.newAt _ _ (by first | omega | (simp; done) | (simp; omega)) _ _ _)
        rw [← hV10]
        clear hV10
        replace P8 := P8.below bV10 P8.lt
        replace E := E.trans (bV10.mono E.size)
        replace Hx1 := Hx1.below bV10 (by omega)
        replace Hx2 := Hx2.below bV10 (by omega)
        replace Hm := Hm.below bV10 (by omega)
        replace PX := PX.below bV10 PX.lt
        replace PM := PM.below bV10 PM.lt
        replace Hr1 := Hr1.below bV10 (by omega)
        replace Hr2 := Hr2.below bV10 (by omega)
        replace R5 := R5.below bV10 R5.lt
        replace F6 := F6.below bV10 F6.lt
        replace P7 := P7.below bV10 P7.lt
        replace Hp1 := Hp1.below bV10 (by omega)
        replace Hp2 := Hp2.below bV10 (by omega)
        clear bV10
        clear F10
        (with_reducible refine (intOf_any _ w.heap.size false mo.A mo.n mo.c mo.xs Hm (by omega) (by omega)).mono ?_)
        rintro e w12 ⟨m1, A1, k1, c1, x1, v2, rfl, hd1, hr1, hs1, hb12⟩
        have sw12 := hb12.size
        replace P8 := P8.below hb12 P8.lt
        replace E := E.trans (hb12.mono E.size)
        replace Hx1 := Hx1.below hb12 (by omega)
        replace Hx2 := Hx2.below hb12 (by omega)
        replace Hm := Hm.below hb12 (by omega)
        replace PX := PX.below hb12 PX.lt
        replace PM := PM.below hb12 PM.lt
        replace Hr1 := Hr1.below hb12 (by omega)
        replace Hr2 := Hr2.below hb12 (by omega)
        replace R5 := R5.below hb12 R5.lt
        replace F6 := F6.below hb12 F6.lt
        replace P7 := P7.below hb12 P7.lt
        replace Hp1 := Hp1.below hb12 (by omega)
        replace Hp2 := Hp2.below hb12 (by omega)
        clear hb12
        have R3 := Lib.hid hr1
        have S3 := Lib.hid (show sval m1 v2 = (mv : Int) by rw [hs1, sval_f, HMV.out])
        clear hr1 hs1
        go_wp2_with fail
        (with_reducible refine (number_any _ (40) (by decide) (by decide)).mono ?_)
        rintro e w13 ⟨m2, A2, k2, c2, x2, v3, rfl, hd2, hr2, hs2, hb13⟩
        have sw13 := hb13.size
        replace P8 := P8.below hb13 P8.lt
        replace E := E.trans (hb13.mono E.size)
        replace Hx1 := Hx1.below hb13 (by omega)
        replace Hx2 := Hx2.below hb13 (by omega)
        replace Hm := Hm.below hb13 (by omega)
        replace PX := PX.below hb13 PX.lt
        replace PM := PM.below hb13 PM.lt
        replace Hr1 := Hr1.below hb13 (by omega)
        replace Hr2 := Hr2.below hb13 (by omega)
        replace R5 := R5.below hb13 R5.lt
        replace F6 := F6.below hb13 F6.lt
        replace P7 := P7.below hb13 P7.lt
        replace Hp1 := Hp1.below hb13 (by omega)
        replace Hp2 := Hp2.below hb13 (by omega)
        replace hd1 := hd1.below hb13 (by omega)
        clear hb13
        have R4 := Lib.hid hr2
        have S4 := Lib.hid hs2
        clear hr2 hs2
        go_wp2_with fail
        (with_reducible refine (rorder_any _ w13.heap.size m1 m2 A1 A2 k1 k2 c1 c2 v2 v3 x1 x2 (hd1.more (by omega)) hd2 (Nat.le_refl _) R3.out R4.out).mono ?_)
        rintro e w14 ⟨r4, hic, rfl, hb14⟩
        have sw14 := hb14.size
        replace P8 := P8.below hb14 P8.lt
        replace E := E.trans (hb14.mono E.size)
        replace Hx1 := Hx1.below hb14 (by omega)
        replace Hx2 := Hx2.below hb14 (by omega)
        replace Hm := Hm.below hb14 (by omega)
        replace PX := PX.below hb14 PX.lt
        replace PM := PM.below hb14 PM.lt
        replace Hr1 := Hr1.below hb14 (by omega)
        replace Hr2 := Hr2.below hb14 (by omega)
        replace R5 := R5.below hb14 R5.lt
        replace F6 := F6.below hb14 F6.lt
        replace P7 := P7.below hb14 P7.lt
        replace Hp1 := Hp1.below hb14 (by omega)
        replace Hp2 := Hp2.below hb14 (by omega)
        replace hd1 := hd1.below hb14 (by omega)
        replace hd2 := hd2.below hb14 (by omega)
        clear hb14
        have e4 : decide (r4 ≤ 0) = false := by rw [S3.out, S4.out] at hic; unfold ICmp at hic; exact decide_eq_false (by omega)
        clear hic
        clear hd1 hd2
        go_upto_region 17 with fail
        clear e4
        obtain ⟨zn, hzn⟩ : ∃ y, y = (nearZ n0 d0 (mv : Int)).1 := ⟨_, rfl⟩
        obtain ⟨zd, hzd⟩ : ∃ y, y = (nearZ n0 d0 (mv : Int)).2 := ⟨_, rfl⟩
        rw [← hzn, ← hzd] at NI
        rw [← hzn] at I1
        rw [← hzd] at I2
        clear hzn hzd
        have ZB := Lib.hid (show zn.natAbs < Top128 ∧ zd.natAbs < Top128 from ⟨Nat.lt_of_le_of_lt (near_small NI.out hd0 (by omega) hmd.out hg.out) HB.out.1, by have := NI.out.le; have := NI.out.pos; have := hmT.out; omega⟩)
        have OR := Lib.hid (rv_ok I1.out I2.out Hr2.len.out ZB.out.1 ZB.out.2 (by have := NI.out.pos; omega) NI.out.low)
        have VR := Lib.hid (rv_vals I1.out I2.out)
        have zdn := Lib.hid (show ((zd.natAbs : Nat) : Int) = zd by have := NI.out.pos; omega)
        have DV := Lib.hid (show vb 4294967296 r.den.xs = zd.natAbs from I2.out.rep.val)
        have ln2 : r.den.n ≤ 128 := by have h1 := (IV.vld (RV.okd OR.out)).2; have h2 := Hr2.len.out; omega
        go_cut [100] (fun s wx => s = .bool false ∧ Below w14.heap.size w14 wx)
        case first =>
          as_aux_lemma =>
            have lt_R5 := R5.lt
            have lt_F6 := F6.lt
            have lt_PM := PM.lt
            have HS := Lib.hid (fun (u : World) (hu : Below (w14.heap.size) w14 u) => (⟨(hu.cell (p := ⟨w1.heap.size, 0, none⟩) (by show w1.heap.size < _; omega)).trans R5.c0, (hu.cell (p := ⟨w1.heap.size, 1, none⟩) (by show w1.heap.size < _; omega)).trans R5.c1, (hu.cell (p := ⟨w1.heap.size, 2, none⟩) (by show w1.heap.size < _; omega)).trans R5.c2, (hu.cell (p := ⟨w1.heap.size, 3, none⟩) (by show w1.heap.size < _; omega)).trans R5.c3, (hu.cell (p := ⟨w1.heap.size + 1, 0, none⟩) (by show w1.heap.size + 1 < _; omega)).trans F6.c0, (hu.cell (p := ⟨w1.heap.size + 1, 1, none⟩) (by show w1.heap.size + 1 < _; omega)).trans F6.c1, (hu.cell (p := ⟨w.heap.size + 1, 0, none⟩) (by show w.heap.size + 1 < _; omega)).trans PM.c0, (hu.cell (p := ⟨w.heap.size + 1, 1, none⟩) (by show w.heap.size + 1 < _; omega)).trans PM.c1⟩ : u.cell? ⟨w1.heap.size, 0, none⟩ = some (.bool r.num.neg) ∧ u.cell? ⟨w1.heap.size, 1, none⟩ = some (.slice r.num.A r.num.n r.num.c) ∧ u.cell? ⟨w1.heap.size, 2, none⟩ = some (.bool r.den.neg) ∧ u.cell? ⟨w1.heap.size, 3, none⟩ = some (.slice r.den.A r.den.n r.den.c) ∧ u.cell? ⟨w1.heap.size + 1, 0, none⟩ = some (.int .i64 0) ∧ u.cell? ⟨w1.heap.size + 1, 1, none⟩ = some (.int .i64 0) ∧ u.cell? ⟨w.heap.size + 1, 0, none⟩ = some (.bool false) ∧ u.cell? ⟨w.heap.size + 1, 1, none⟩ = some (.slice mo.A mo.n mo.c)))
            have G0 : Below w14.heap.size w14 w14.drew := Below.drew (Below.refl _ _)
            have g0s := G0.size
            have G0m : Below (w14.heap.size) w14 w14.drew := G0.mono (by omega)
            go_region_held3 (fun u => u.cell? ⟨w1.heap.size, 0, none⟩ = some (.bool r.num.neg) ∧ u.cell? ⟨w1.heap.size, 1, none⟩ = some (.slice r.num.A r.num.n r.num.c) ∧ u.cell? ⟨w1.heap.size, 2, none⟩ = some (.bool r.den.neg) ∧ u.cell? ⟨w1.heap.size, 3, none⟩ = some (.slice r.den.A r.den.n r.den.c) ∧ u.cell? ⟨w1.heap.size + 1, 0, none⟩ = some (.int .i64 0) ∧ u.cell? ⟨w1.heap.size + 1, 1, none⟩ = some (.int .i64 0) ∧ u.cell? ⟨w.heap.size + 1, 0, none⟩ = some (.bool false) ∧ u.cell? ⟨w.heap.size + 1, 1, none⟩ = some (.slice mo.A mo.n mo.c)) (first | (refine HS.out _ ?_; (repeat (first | with_reducible exact G0m | with_reducible exact BN.mono (by omega) | with_reducible exact B3.mono (by omega) | with_reducible exact B2.mono (by omega) | with_reducible exact B1.mono (by omega) | with_reducible exact Below.refl _ _ | with_reducible refine Below.drew ?_ | with_reducible refine below_drewN ?_ _ | with_reducible refine Below.setCell ?_ (by first | (simp <;> omega) | omega) _)); done) | fail)
              (first
                | (go_at_call 16; (with_reducible refine (rok_any _ w14.heap.size r (rv_at ((Hr1.below G0 (by omega)).more (by omega)) ((Hr2.below G0 (by omega)).more (by omega))) (by omega)).mono ?_); rw [OR.out]; rintro e u1 ⟨rfl, hb1⟩; have B1 : Below w14.heap.size w14 u1 := bnext G0 hb1; have b1s := B1.size)
                | (go_at_call_of 30 (Value.slice r.den.A r.den.n r.den.c); (with_reducible refine (of_any _ u1.heap.size r.den.A r.den.n r.den.c r.den.xs ((Hr2.below B1 (by omega)).more (by omega)) (Nat.le_refl _) (by omega)).mono ?_); rintro e u2 ⟨A1, k1, c1, y1, rfl, hd1, hr1, hb2⟩; have B2 : Below w14.heap.size w14 u2 := bnext B1 hb2; have b2s := B2.size; have Q1 := Lib.hid (show Rep 65536 y1 zd.natAbs by rw [← DV.out]; exact hr1); clear hr1)
                | (go_at_call 30; (with_reducible refine (of_any _ u2.heap.size mo.A mo.n mo.c mo.xs ((Hm.below B2 (by omega)).more (by omega)) (Nat.le_refl _) (by omega)).mono ?_); rintro e u3 ⟨A2, k2, c2, y2, rfl, hd2, hr2, hb3⟩; have B3 : Below w14.heap.size w14 u3 := bnext B2 hb3; have b3s := B3.size; have Q2 := Lib.hid (show Rep 65536 y2 mv by rw [HMV.out]; exact hr2); clear hr2; have hd1q := (hd1.below hb3 (Nat.le_refl _)).more hb3.size)
                | (go_at_call 46; (with_reducible refine (cmpD_w _ u3.heap.size A1 A2 k1 k2 c1 c2 zd.natAbs mv y1 y2 hd1q hd2 Q1 Q2).mono ?_); rintro e u4 ⟨r5, hcv, rfl, hb4⟩; have BN : Below w14.heap.size w14 u4 := bnext B3 hb4; have e5 : decide (0 < r5) = false := decide_eq_false (by have := NI.out.le; have := zdn.out; unfold CmpV at hcv; omega); clear hcv)
                | fail)
            all_goals (go_wp2_with fail)
            all_goals go_meet
            all_goals first | exact ⟨rfl, BN⟩ | exact ⟨by rw [e5], BN⟩
        case rest =>
        obtain ⟨rfl, hbX⟩ := hcut
        replace P8 := P8.below hbX P8.lt
        replace E := E.trans (hbX.mono E.size)
        replace Hx1 := Hx1.below hbX (by omega)
        replace Hx2 := Hx2.below hbX (by omega)
        replace Hm := Hm.below hbX (by omega)
        replace PX := PX.below hbX PX.lt
        replace PM := PM.below hbX PM.lt
        replace Hr1 := Hr1.below hbX (by omega)
        replace Hr2 := Hr2.below hbX (by omega)
        replace R5 := R5.below hbX R5.lt
        replace F6 := F6.below hbX F6.lt
        replace P7 := P7.below hbX P7.lt
        replace Hp1 := Hp1.below hbX (by omega)
        replace Hp2 := Hp2.below hbX (by omega)
        have sVb := hbX.size
        clear hbX
        obtain ⟨Vb, hVb⟩ : ∃ y : World, y = wc := ⟨_, rfl⟩
        subst hVb
        go_upto_region 19 with fail
        have lt_P8 := P8.lt
        have lt_R5 := R5.lt
        have lt_PM := PM.lt
        have HS := Lib.hid (fun (u : World) (hu : Below (Vb.heap.size) Vb u) => (⟨(hu.cell (p := ⟨w10.heap.size, 0, none⟩) (by show w10.heap.size < _; omega)).trans P8.c0, (hu.cell (p := ⟨w10.heap.size, 1, none⟩) (by show w10.heap.size < _; omega)).trans P8.c1, (hu.cell (p := ⟨w10.heap.size, 2, none⟩) (by show w10.heap.size < _; omega)).trans P8.c2, (hu.cell (p := ⟨w1.heap.size, 0, none⟩) (by show w1.heap.size < _; omega)).trans R5.c0, (hu.cell (p := ⟨w1.heap.size, 1, none⟩) (by show w1.heap.size < _; omega)).trans R5.c1, (hu.cell (p := ⟨w1.heap.size, 2, none⟩) (by show w1.heap.size < _; omega)).trans R5.c2, (hu.cell (p := ⟨w1.heap.size, 3, none⟩) (by show w1.heap.size < _; omega)).trans R5.c3, (hu.cell (p := ⟨w.heap.size + 1, 0, none⟩) (by show w.heap.size + 1 < _; omega)).trans PM.c0, (hu.cell (p := ⟨w.heap.size + 1, 1, none⟩) (by show w.heap.size + 1 < _; omega)).trans PM.c1⟩ : u.cell? ⟨w10.heap.size, 0, none⟩ = some (.bool p.m) ∧ u.cell? ⟨w10.heap.size, 1, none⟩ = some (.slice p.A p.n p.c) ∧ u.cell? ⟨w10.heap.size, 2, none⟩ = some (.slice p.D p.k p.d) ∧ u.cell? ⟨w1.heap.size, 0, none⟩ = some (.bool r.num.neg) ∧ u.cell? ⟨w1.heap.size, 1, none⟩ = some (.slice r.num.A r.num.n r.num.c) ∧ u.cell? ⟨w1.heap.size, 2, none⟩ = some (.bool r.den.neg) ∧ u.cell? ⟨w1.heap.size, 3, none⟩ = some (.slice r.den.A r.den.n r.den.c) ∧ u.cell? ⟨w.heap.size + 1, 0, none⟩ = some (.bool false) ∧ u.cell? ⟨w.heap.size + 1, 1, none⟩ = some (.slice mo.A mo.n mo.c)))
        have G0 : Below Vb.heap.size Vb Vb.drew := Below.drew (Below.refl _ _)
        have g0s := G0.size
        have G0m : Below (Vb.heap.size) Vb Vb.drew := G0.mono (by omega)
        go_region_held3 (fun u => u.cell? ⟨w10.heap.size, 0, none⟩ = some (.bool p.m) ∧ u.cell? ⟨w10.heap.size, 1, none⟩ = some (.slice p.A p.n p.c) ∧ u.cell? ⟨w10.heap.size, 2, none⟩ = some (.slice p.D p.k p.d) ∧ u.cell? ⟨w1.heap.size, 0, none⟩ = some (.bool r.num.neg) ∧ u.cell? ⟨w1.heap.size, 1, none⟩ = some (.slice r.num.A r.num.n r.num.c) ∧ u.cell? ⟨w1.heap.size, 2, none⟩ = some (.bool r.den.neg) ∧ u.cell? ⟨w1.heap.size, 3, none⟩ = some (.slice r.den.A r.den.n r.den.c) ∧ u.cell? ⟨w.heap.size + 1, 0, none⟩ = some (.bool false) ∧ u.cell? ⟨w.heap.size + 1, 1, none⟩ = some (.slice mo.A mo.n mo.c)) (first | (refine HS.out _ ?_; (repeat (first | with_reducible exact G0m | with_reducible exact BN.mono (by omega) | with_reducible exact B2.mono (by omega) | with_reducible exact B1.mono (by omega) | with_reducible exact Below.refl _ _ | with_reducible refine Below.drew ?_ | with_reducible refine below_drewN ?_ _ | with_reducible refine Below.setCell ?_ (by first | (simp <;> omega) | omega) _)); done) | fail)
          (first
            | (go_at_call 18; (with_reducible refine (ratioOf_any _ Vb.heap.size r (rv_at ((Hr1.below G0 (by omega)).more (by omega)) ((Hr2.below G0 (by omega)).more (by omega))) (by omega) OR.out).mono ?_); rintro e u1 hq; obtain ⟨y, rfl, hy, ⟨vy, h1, h2, h3⟩, hb1⟩ := GivesRR.q hq; clear hq; have B1 : Below Vb.heap.size Vb u1 := bnext G0 hb1; have b1s := B1.size; have RY1 := Lib.hid h1; have SY := Lib.hid (show sval y.m vy = zn by rw [h2]; exact VR.out.1); have RY2 := Lib.hid (show Rep 65536 y.ys zd.natAbs by have h9 := h3; rw [VR.out.2] at h9; exact h9); have Ayx : DRd u1 u1.heap.size y.A y.n y.c y.xs := hy.1; have Ayy : DRd u1 u1.heap.size y.D y.k y.d y.ys := hy.2; clear h1 h2 h3 hy)
            | (go_at_call 30; (with_reducible refine (of_any _ u1.heap.size mo.A mo.n mo.c mo.xs ((Hm.below B1 (by omega)).more (by omega)) (Nat.le_refl _) (by omega)).mono ?_); rintro e u2 ⟨A2, k2, c2, y2, rfl, hd2, hr2, hb2⟩; have B2 : Below Vb.heap.size Vb u2 := bnext B1 hb2; have b2s := B2.size; have Q2 := Lib.hid (show Rep 65536 y2 mv by rw [HMV.out]; exact hr2); clear hr2; have Ayxq := (Ayx.below hb2 (Nat.le_refl _)).more hb2.size; have Ayyq := (Ayy.below hb2 (Nat.le_refl _)).more hb2.size)
            | (go_at_call 50; (with_reducible refine (nearer_any _ u2.heap.size p y v1 vy mv zd.natAbs A2 k2 c2 y2 n0 d0 zn (qv_at ((Hp1.below B2 (by omega)).more (by omega)) ((Hp2.below B2 (by omega)).more (by omega))) (qv_at Ayxq Ayyq) hd2 (Nat.le_refl _) R1 S1 R2 RY1 SY RY2 Q2 hd0 HB hm1 hmT (Lib.hid (by rw [zdn.out]; exact NI.out))).mono ?_); rintro e u3 ⟨rfl, hb3⟩; have BN : Below Vb.heap.size Vb u3 := bnext B2 hb3)
            | fail)
        all_goals (go_wp2_with fail)
        all_goals go_ret
        all_goals exact ⟨rfl, E.trans (BN.mono E.size)⟩
end Go.Proofs.YtfgkhdpdjclmkaaGreat
