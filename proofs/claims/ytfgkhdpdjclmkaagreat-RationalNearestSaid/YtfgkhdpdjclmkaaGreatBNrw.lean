/- The law's way down the tree of all ratios. -/
import Derived.Test.YtfgkhdpdjclmkaaGreatBNrd
namespace Go.Proofs.YtfgkhdpdjclmkaaGreat
open Go.RowKit
set_option maxHeartbeats 400000
set_option maxRecDepth 100000
set_option linter.unusedSimpArgs false
set_option linter.unusedVariables false

theorem cmpD_w (w : World) (B : Nat) (A D : Option Addr) (n m c d p q : Nat) (xs ys : List Nat) (h : DRd w B A n c xs) (k : DRd w B D m d ys) (hx : Hid (Rep 65536 xs p)) (hy : Hid (Rep 65536 ys q)) :
    Calls Tryz.prog 46 #[.slice A n c, .slice D m d] w (fun e w' => ∃ r, CmpV p q r ∧ e = .returned (.int .i64 r) ∧ Below w.heap.size w w') :=
  (compareD_any w B A D n m c d xs ys h k).mono fun e w' ⟨r, he, hc, j, hw⟩ => ⟨r, cmp_rep (by decide) hc h.len.out k.len.out hx.out hy.out, he, by rw [hw]; exact below_drewN (Below.refl _ _) _⟩
/-- The loop. -/
def NeRel (V : World) (g8 g9 g10 : Nat) (gq : QV) (n0 d0 m : Int) (s : Value) (wx : World) : Prop :=
  ∃ (i : Nat) (a b : QV) (an bn : Int) (ad bd : Nat), s = .int .i64 (i : Int) ∧ i ≤ 2000 ∧ Bk3 wx g8 (.bool a.m) (.slice a.A a.n a.c) (.slice a.D a.k a.d) ∧ Bk3 wx g9 (.bool b.m) (.slice b.A b.n b.c) (.slice b.D b.k b.d) ∧ a.at wx wx.heap.size ∧ b.at wx wx.heap.size ∧ Hid (a.is an ad) ∧ Hid (b.is bn bd) ∧ Hid (Tre n0 d0 m an (ad : Int) bn (bd : Int)) ∧ Bk3 wx g10 (.bool gq.m) (.slice gq.A gq.n gq.c) (.slice gq.D gq.k gq.d) ∧ gq.at wx wx.heap.size ∧ Below g8 V wx
theorem tre_tx {n0 d0 an bn : Int} {m ad bd : Nat} (h : Tre n0 d0 (m : Int) an (ad : Int) bn (bd : Int)) (hn : n0.natAbs < Top128) (hm : m < Top128) : an.natAbs < TX ∧ bn.natAbs < TX ∧ ad < TX ∧ bd < TX ∧ (an + bn).natAbs < TX ∧ ad + bd < TX := by
  have h1 := tx_top
  have h4 := lt_top (n := 64) (by decide)
  have k1 : (n0.natAbs + 1) * ad ≤ Top128 * Top128 := Nat.mul_le_mul (by omega) (by have := h.am; omega)
  have k2 : (n0.natAbs + 1) * bd ≤ Top128 * Top128 := Nat.mul_le_mul (by omega) (by have := h.bm; omega)
  have na := h.na
  have nb := h.nb
  have e1 : ((n0.natAbs : Int) + 1) * (ad : Int) = (((n0.natAbs + 1) * ad : Nat) : Int) := by rw [Int.natCast_mul]; rfl
  have e2 : ((n0.natAbs : Int) + 1) * (bd : Int) = (((n0.natAbs + 1) * bd : Nat) : Int) := by rw [Int.natCast_mul]; rfl
  rw [e1] at na
  rw [e2] at nb
  have h2 : 1 * Top128 ≤ Top128 * Top128 := Nat.mul_le_mul_right _ (by omega)
  have := h.am
  have := h.bm
  refine ⟨?_, ?_, ?_, ?_, ?_, ?_⟩ <;> omega
theorem near_tx {n0 d0 yn : Int} {m yd : Nat} (h : Near n0 d0 (m : Int) yn (yd : Int)) (hd0 : 1 ≤ d0) (hm1 : 1 ≤ m) (hn : n0.natAbs < Top128) (hm : m < Top128) : yn.natAbs < TX ∧ yd < TX := by
  have h1 := tx_top
  have h4 := lt_top (n := 64) (by decide)
  have k1 := h.num hd0 (by omega)
  rw [Int.natAbs_natCast] at k1
  have k2 : (n0.natAbs + 1) * yd ≤ Top128 * Top128 := Nat.mul_le_mul (by omega) (by have := h.le; omega)
  have h2 : 1 * Top128 ≤ Top128 * Top128 := Nat.mul_le_mul_right _ (by omega)
  have := h.le
  refine ⟨?_, ?_⟩ <;> omega
theorem nno {n0 d0 m yn an r : Int} {yd ad d : Nat} (e : decide (r < 0) = decide (dist n0 (d : Int) an (ad : Int) * (yd : Int) < dist n0 (d : Int) yn (yd : Int) * (ad : Int))) (hd : (d : Int) = d0) (N : Near n0 d0 m yn (yd : Int)) (h1 : 1 ≤ (ad : Int)) (hm : (ad : Int) ≤ m) : decide (r < 0) = false := by
  rw [e, hd]
  have := N.best an ad h1 hm
  exact decide_eq_false (by omega)
set_option maxHeartbeats 40000000 in
theorem nearer_any (w : World) (B : Nat) (p y : QV) (pv vy mv yd : Nat) (mA : Option Addr) (mk mc : Nat) (ms : List Nat) (n0 d0 yn : Int) (HP : p.at w B) (HY : y.at w B) (HM : DRd w B mA mk mc ms) (hB : B ≤ w.heap.size) (R1 : Hid (Rep 65536 p.xs pv)) (S1 : Hid (sval p.m pv = n0)) (R2 : Hid (Rep 65536 p.ys d0.natAbs)) (RY1 : Hid (Rep 65536 y.xs vy)) (SY : Hid (sval y.m vy = yn)) (RY2 : Hid (Rep 65536 y.ys yd)) (RM : Hid (Rep 65536 ms mv)) (hd0 : 1 ≤ d0) (HB : Hid (n0.natAbs < Top128 ∧ d0.natAbs < Top128)) (hm1 : 1 ≤ mv) (hmT : Hid (mv < Top128)) (NR : Hid (Near n0 d0 (mv : Int) yn (yd : Int))) :
    Calls Tryz.prog 50 #[p.v, y.v, .slice mA mk mc] w (fun e w' => e = .returned (.bool true) ∧ Below w.heap.size w w') := by
  have HP1 : DRd w B p.A p.n p.c p.xs := HP.1
  have HP2 : DRd w B p.D p.k p.d p.ys := HP.2
  have HY1 : DRd w B y.A y.n y.c y.xs := HY.1
  have HY2 : DRd w B y.D y.k y.d y.ys := HY.2
  have E : Below w.heap.size w w := Below.refl _ _
  have dn := Lib.hid (show ((d0.natAbs : Nat) : Int) = d0 by omega)
  have tp1 := Lib.hid (show pv < TT from lt_tt9 (by rw [← sval_abs p.m pv, S1.out]; exact HB.out.1))
  have tp2 := Lib.hid (show d0.natAbs < TT from lt_tt9 HB.out.2)
  have dp := Lib.hid (show 0 < d0.natAbs by omega)
  have tn0 := Lib.hid (show n0.natAbs < TX from top_tx (by have := HB.out.1; omega))
  have td0 := Lib.hid (show d0.natAbs < TX from top_tx (by have := HB.out.2; omega))
  have ty := Lib.hid (near_tx NR.out hd0 hm1 HB.out.1 hmT.out)
  have yp := Lib.hid (show 0 < yd by have := NR.out.pos; omega)
  go_enter Tryz.func50, Tryz.ntmps50
  go_wp2_with fail
  obtain ⟨V0, hV0⟩ : ∃ V0 : World, V0 = ((w.alloc (.cells #[.bool p.m, .slice p.A p.n p.c, .slice p.D p.k p.d] 42)).alloc (.cells #[.bool y.m, .slice y.A y.n y.c, .slice y.D y.k y.d] 42)) := ⟨_, rfl⟩
  have bV0 : Below w.heap.size w V0 := by rw [hV0]; (repeat (first | with_reducible exact Below.refl _ _ | with_reducible refine Below.alloc ?_ (by first | (simp <;> omega) | omega) _))
  have zV0 : w.heap.size + 2 ≤ V0.heap.size := by rw [hV0]; simp
  have PX : Bk3 V0 (w.heap.size) (.bool p.m) (.slice p.A p.n p.c) (.slice p.D p.k p.d) := by rw [hV0]; exact ((Bk3.newAt _ _ (by first | omega | (simp; done) | (simp; omega)) _ _ _ _).alloc _)
  have PY : Bk3 V0 (w.heap.size + 1) (.bool y.m) (.slice y.A y.n y.c) (.slice y.D y.k y.d) := by rw [hV0]; exact (Bk3.newAt _ _ (by first | omega | (simp; done) | (simp; omega)) _ _ _ _)
  rw [← hV0]
  clear hV0
  replace E := E.trans (bV0.mono E.size)
  replace HP1 := HP1.below bV0 (by omega)
  replace HP2 := HP2.below bV0 (by omega)
  replace HY1 := HY1.below bV0 (by omega)
  replace HY2 := HY2.below bV0 (by omega)
  replace HM := HM.below bV0 (by omega)
  clear bV0
  (with_reducible refine (qfloor_v _ B p pv d0.natAbs (qv_at HP1 HP2) (by omega) R1 R2 dp.out tp1.out tp2.out).mono ?_)
  rintro e w1 ⟨q1, r1, hf1, m1, A1, k1, c1, x1, v1, rfl, hd1, hr1, hs1, hb1⟩
  have sw1 := hb1.size
  replace PX := PX.below hb1 PX.lt
  replace PY := PY.below hb1 PY.lt
  replace E := E.trans (hb1.mono E.size)
  replace HP1 := HP1.below hb1 (by omega)
  replace HP2 := HP2.below hb1 (by omega)
  replace HY1 := HY1.below hb1 (by omega)
  replace HY2 := HY2.below hb1 (by omega)
  replace HM := HM.below hb1 (by omega)
  clear hb1
  have FL0 := Lib.hid (show FloorOf n0 d0 q1 r1 by rw [S1.out, sval_f, dn.out] at hf1; exact hf1)
  have R3 := Lib.hid hr1
  have S3 := Lib.hid hs1
  clear hf1 hr1 hs1
  have tv1 := Lib.hid (show v1 < TT from lt_tt9 (by rw [← sval_abs m1 v1, S3.out]; exact Nat.lt_of_le_of_lt (fl_abs FL0.out (by omega)) HB.out.1))
  go_upto_region 2 with fail
  obtain ⟨V1, hV1⟩ : ∃ V1 : World, V1 = (w1.alloc (.cells #[.bool m1, .slice A1 k1 c1] 40)) := ⟨_, rfl⟩
  have bV1 : Below w1.heap.size w1 V1 := by rw [hV1]; (repeat (first | with_reducible exact Below.refl _ _ | with_reducible refine Below.alloc ?_ (by first | (simp <;> omega) | omega) _))
  have zV1 : w1.heap.size + 1 ≤ V1.heap.size := by rw [hV1]; simp
  have P7 : Bk2 V1 (w1.heap.size) (.bool m1) (.slice A1 k1 c1) := by rw [hV1]; exact (Bk2.newAt _ _ (by first | omega | (simp; done) | (simp; omega)) _ _ _)
  rw [← hV1]
  clear hV1
  replace PX := PX.below bV1 PX.lt
  replace PY := PY.below bV1 PY.lt
  replace E := E.trans (bV1.mono E.size)
  replace HP1 := HP1.below bV1 (by omega)
  replace HP2 := HP2.below bV1 (by omega)
  replace HY1 := HY1.below bV1 (by omega)
  replace HY2 := HY2.below bV1 (by omega)
  replace HM := HM.below bV1 (by omega)
  replace hd1 := hd1.below bV1 (by omega)
  clear bV1
  go_cut [8] (fun sx wx => LfR V1 q1 1 sx wx)
  case first =>
    as_aux_lemma =>
      have lt_P7 := P7.lt
      have HS := Lib.hid (fun (u : World) (hu : Below V1.heap.size V1 u) => (⟨(hu.cell (p := ⟨w1.heap.size, 0, none⟩) (by show w1.heap.size < _; omega)).trans P7.c0, (hu.cell (p := ⟨w1.heap.size, 1, none⟩) (by show w1.heap.size < _; omega)).trans P7.c1⟩ : u.cell? ⟨w1.heap.size, 0, none⟩ = some (.bool m1) ∧ u.cell? ⟨w1.heap.size, 1, none⟩ = some (.slice A1 k1 c1)))
      have G0 : Below V1.heap.size V1 V1.drew := Below.drew (Below.refl _ _)
      clear E PX PY HP1 HP2 HY1 HY2 HM
      go_region_held3 (fun u => u.cell? ⟨w1.heap.size, 0, none⟩ = some (.bool m1) ∧ u.cell? ⟨w1.heap.size, 1, none⟩ = some (.slice A1 k1 c1))
        (first | exact HS.out _ (by (repeat (first | with_reducible exact G0 | with_reducible exact B4 | with_reducible exact B3 | with_reducible exact B2 | with_reducible exact B1 | with_reducible exact Below.refl _ _ | with_reducible refine Below.drew ?_ | with_reducible refine Below.alloc ?_ (by first | (simp <;> omega) | omega) _ | with_reducible refine Below.setCell ?_ (by first | (simp <;> omega) | omega) _))) | fail)
        (first
          | (go_at_call 40; (with_reducible refine (small_1 _).mono ?_); rintro e u1 ⟨A2, k2, c2, y2, rfl, hd2, hr2, hb1⟩; have B1 : Below V1.heap.size V1 u1 := (by refine bnext ?_ hb1; (repeat (first | with_reducible exact G0 | with_reducible exact B4 | with_reducible exact B3 | with_reducible exact B2 | with_reducible exact B1 | with_reducible exact Below.refl _ _ | with_reducible refine Below.drew ?_ | with_reducible refine Below.alloc ?_ (by first | (simp <;> omega) | omega) _ | with_reducible refine Below.setCell ?_ (by first | (simp <;> omega) | omega) _))); have b1s := B1.size; have Q2 := Lib.hid hr2; clear hr2; have HA : QV.at u1 u1.heap.size (QV.mk m1 A1 k1 c1 x1 A2 k2 c2 y2) := qv_at (q := (QV.mk m1 A1 k1 c1 x1 A2 k2 c2 y2)) ((DRd.below (hd1.more (by omega)) (B' := V1.heap.size) B1 (Nat.le_refl _)).more b1s) hd2; have IA : Hid (QV.is (QV.mk m1 A1 k1 c1 x1 A2 k2 c2 y2) q1 1) := Lib.hid ⟨v1, R3.out, S3.out, Q2.out⟩; (first | (have F1 := nq3d hb1; obtain ⟨_, _, _, _, _, _, _⟩ := id F1) | (have F1 := nq3 hb1; obtain ⟨_, _, _, _, _, _, _⟩ := id F1) | skip))
          | fail)
      all_goals (go_wp2_with fail)
      all_goals go_meet
      all_goals first
        | with_reducible exact lf_a (q := (QV.mk m1 A1 k1 c1 x1 A2 k2 c2 y2)) HA IA B1
        | with_reducible exact lf_o (q := (QV.mk m1 A1 k1 c1 x1 A2 k2 c2 y2)) HA IA B1 (by with_reducible assumption) (by omega)
        | fail
  case rest =>
  obtain ⟨g8, a0, rfl, P8, ha0, IA0, hg8, hbX⟩ := hcut
  replace PX := PX.below hbX PX.lt
  replace PY := PY.below hbX PY.lt
  replace E := E.trans (hbX.mono E.size)
  replace HP1 := HP1.below hbX (by omega)
  replace HP2 := HP2.below hbX (by omega)
  replace HY1 := HY1.below hbX (by omega)
  replace HY2 := HY2.below hbX (by omega)
  replace HM := HM.below hbX (by omega)
  replace hd1 := hd1.below hbX (by omega)
  replace P7 := P7.below hbX P7.lt
  have sVa := hbX.size
  clear hbX
  obtain ⟨Va, hVa⟩ : ∃ y : World, y = wc := ⟨_, rfl⟩
  subst hVa
  have Ha1 : DRd Va Va.heap.size a0.A a0.n a0.c a0.xs := ha0.1
  have Ha2 : DRd Va Va.heap.size a0.D a0.k a0.d a0.ys := ha0.2
  clear ha0
  go_upto_region 3 with fail
  go_cut [9] (fun sx wx => LfR Va (q1 + 1) 1 sx wx)
  case first =>
    as_aux_lemma =>
      have lt_P7 := P7.lt
      have HS := Lib.hid (fun (u : World) (hu : Below Va.heap.size Va u) => (⟨(hu.cell (p := ⟨w1.heap.size, 0, none⟩) (by show w1.heap.size < _; omega)).trans P7.c0, (hu.cell (p := ⟨w1.heap.size, 1, none⟩) (by show w1.heap.size < _; omega)).trans P7.c1⟩ : u.cell? ⟨w1.heap.size, 0, none⟩ = some (.bool m1) ∧ u.cell? ⟨w1.heap.size, 1, none⟩ = some (.slice A1 k1 c1)))
      have G0 : Below Va.heap.size Va Va.drew := Below.drew (Below.refl _ _)
      clear E PX PY HP1 HP2 HY1 HY2 HM P8 Ha1 Ha2
      go_region_held3 (fun u => u.cell? ⟨w1.heap.size, 0, none⟩ = some (.bool m1) ∧ u.cell? ⟨w1.heap.size, 1, none⟩ = some (.slice A1 k1 c1))
        (first | exact HS.out _ (by (repeat (first | with_reducible exact G0 | with_reducible exact B4 | with_reducible exact B3 | with_reducible exact B2 | with_reducible exact B1 | with_reducible exact Below.refl _ _ | with_reducible refine Below.drew ?_ | with_reducible refine Below.alloc ?_ (by first | (simp <;> omega) | omega) _ | with_reducible refine Below.setCell ?_ (by first | (simp <;> omega) | omega) _))) | fail)
        (first
          | (go_at_call 39; (with_reducible refine (number_any _ (1) (by decide) (by decide)).mono ?_); rintro e u1 ⟨m3, A3, k3, c3, x3, v3, rfl, hd3, hr3, hs3, hb1⟩; have B1 : Below Va.heap.size Va u1 := (by refine bnext ?_ hb1; (repeat (first | with_reducible exact G0 | with_reducible exact B4 | with_reducible exact B3 | with_reducible exact B2 | with_reducible exact B1 | with_reducible exact Below.refl _ _ | with_reducible refine Below.drew ?_ | with_reducible refine Below.alloc ?_ (by first | (simp <;> omega) | omega) _ | with_reducible refine Below.setCell ?_ (by first | (simp <;> omega) | omega) _))); have b1s := B1.size; have Q3 := Lib.hid hr3; have T3 := Lib.hid hs3; clear hr3 hs3; (first | (have F1 := nq3d hb1; obtain ⟨_, _, _, _, _, _, _⟩ := id F1) | (have F1 := nq3 hb1; obtain ⟨_, _, _, _, _, _, _⟩ := id F1) | skip))
          | (go_at_call 41; (with_reducible refine (rplus_any _ u1.heap.size m1 m3 A1 A3 k1 k3 c1 c3 v1 v3 x1 x3 ((DRd.more (B := Va.heap.size) (DRd.below (hd1.more (by omega)) (B' := Va.heap.size) (by (repeat (first | with_reducible exact G0 | with_reducible exact B4 | with_reducible exact B3 | with_reducible exact B2 | with_reducible exact B1 | with_reducible exact Below.refl _ _ | with_reducible refine Below.drew ?_ | with_reducible refine Below.alloc ?_ (by first | (simp <;> omega) | omega) _ | with_reducible refine Below.setCell ?_ (by first | (simp <;> omega) | omega) _))) (Nat.le_refl _)) (by first | (simp <;> omega) | omega)).more b1s) (DRd.below hd3 (B' := u1.heap.size) (by (repeat (first | with_reducible exact Below.refl _ _ | with_reducible refine Below.drew ?_ | with_reducible refine Below.alloc ?_ (by first | (simp <;> omega) | omega) _))) (Nat.le_refl _)) (by first | (simp <;> omega) | omega) R3.out Q3.out (Nat.le_trans (tt_len R3.out tv1.out hd1.len.out) (by decide)) (Nat.le_trans (tt_len Q3.out (one_ltx T3.out) hd3.len.out) (by decide))).mono ?_); rintro e u2 ⟨m4, A4, k4, c4, x4, v4, rfl, hd4, hr4, hs4, hb2⟩; have B2 : Below Va.heap.size Va u2 := (by refine bnext ?_ hb2; (repeat (first | with_reducible exact G0 | with_reducible exact B4 | with_reducible exact B3 | with_reducible exact B2 | with_reducible exact B1 | with_reducible exact Below.refl _ _ | with_reducible refine Below.drew ?_ | with_reducible refine Below.alloc ?_ (by first | (simp <;> omega) | omega) _ | with_reducible refine Below.setCell ?_ (by first | (simp <;> omega) | omega) _))); have b2s := B2.size; have K2 : Below u1.heap.size u1 u2 := (by refine bnext ?_ hb2; (repeat (first | with_reducible exact Below.refl _ _ | with_reducible refine Below.drew ?_ | with_reducible refine Below.alloc ?_ (by first | (simp <;> omega) | omega) _))); have Q4 := Lib.hid hr4; have T4 := Lib.hid (show sval m4 v4 = q1 + 1 by rw [hs4, S3.out, T3.out]); clear hr4 hs4; (first | (have F2 := nq3d hb2; obtain ⟨_, _, _, _, _, _, _⟩ := id F2) | (have F2 := nq3 hb2; obtain ⟨_, _, _, _, _, _, _⟩ := id F2) | skip); (first | (have F1q := F1.below K2 F1.lt; obtain ⟨_, _, _, _, _, _, _⟩ := id F1q) | skip))
          | (go_at_call 40; (with_reducible refine (small_1 _).mono ?_); rintro e u3 ⟨A5, k5, c5, y5, rfl, hd5, hr5, hb3⟩; have B3 : Below Va.heap.size Va u3 := (by refine bnext ?_ hb3; (repeat (first | with_reducible exact G0 | with_reducible exact B4 | with_reducible exact B3 | with_reducible exact B2 | with_reducible exact B1 | with_reducible exact Below.refl _ _ | with_reducible refine Below.drew ?_ | with_reducible refine Below.alloc ?_ (by first | (simp <;> omega) | omega) _ | with_reducible refine Below.setCell ?_ (by first | (simp <;> omega) | omega) _))); have b3s := B3.size; have K3 : Below u2.heap.size u2 u3 := (by refine bnext ?_ hb3; (repeat (first | with_reducible exact Below.refl _ _ | with_reducible refine Below.drew ?_ | with_reducible refine Below.alloc ?_ (by first | (simp <;> omega) | omega) _))); have Q5 := Lib.hid hr5; clear hr5; have HA : QV.at u3 u3.heap.size (QV.mk m4 A4 k4 c4 x4 A5 k5 c5 y5) := qv_at (q := (QV.mk m4 A4 k4 c4 x4 A5 k5 c5 y5)) ((hd4.below K3 (Nat.le_refl _)).more K3.size) hd5; have IA : Hid (QV.is (QV.mk m4 A4 k4 c4 x4 A5 k5 c5 y5) (q1 + 1) 1) := Lib.hid ⟨v4, Q4.out, T4.out, Q5.out⟩; (first | (have F3 := nq3d hb3; obtain ⟨_, _, _, _, _, _, _⟩ := id F3) | (have F3 := nq3 hb3; obtain ⟨_, _, _, _, _, _, _⟩ := id F3) | skip); (first | (have F1qq := F1q.below K3 F1q.lt; obtain ⟨_, _, _, _, _, _, _⟩ := id F1qq) | skip); (first | (have F2q := F2.below K3 F2.lt; obtain ⟨_, _, _, _, _, _, _⟩ := id F2q) | skip))
          | fail)
      all_goals (go_wp2_with fail)
      all_goals go_meet
      all_goals first
        | with_reducible exact lf_a (q := (QV.mk m4 A4 k4 c4 x4 A5 k5 c5 y5)) HA IA B3
        | with_reducible exact lf_o (q := (QV.mk m4 A4 k4 c4 x4 A5 k5 c5 y5)) HA IA B3 (by with_reducible assumption) (by omega)
        | fail
  case rest =>
  have lt8 := P8.lt
  obtain ⟨g9, b0, rfl, P9, hb0, IB0, hg9, hbX⟩ := hcut
  replace PX := PX.below hbX PX.lt
  replace PY := PY.below hbX PY.lt
  replace P8 := P8.below hbX P8.lt
  replace E := E.trans (hbX.mono E.size)
  replace HP1 := HP1.below hbX (by omega)
  replace HP2 := HP2.below hbX (by omega)
  replace HY1 := HY1.below hbX (by omega)
  replace HY2 := HY2.below hbX (by omega)
  replace HM := HM.below hbX (by omega)
  replace hd1 := hd1.below hbX (by omega)
  replace P7 := P7.below hbX P7.lt
  replace Ha1 := Ha1.below hbX (by omega)
  replace Ha2 := Ha2.below hbX (by omega)
  have sVb := hbX.size
  clear hbX
  obtain ⟨Vb, hVb⟩ : ∃ y : World, y = wc := ⟨_, rfl⟩
  subst hVb
  have Hb1 : DRd Vb Vb.heap.size b0.A b0.n b0.c b0.xs := hb0.1
  have Hb2 : DRd Vb Vb.heap.size b0.D b0.k b0.d b0.ys := hb0.2
  clear hb0
  clear P7 hd1
  have lt9 := P9.lt
  have t_PX0 := PX.c0
  have t_PX1 := PX.c1
  have t_PX2 := PX.c2
  have t_PY0 := PY.c0
  have t_PY1 := PY.c1
  have t_PY2 := PY.c2
  go_wp2_with fail
  clear t_PX0 t_PX1 t_PX2 t_PY0 t_PY1 t_PY2
  (with_reducible refine (qless_v _ B p y pv vy d0.natAbs yd (qv_at HP1 HP2) (qv_at HY1 HY2) (by omega) R1 R2 RY1 RY2 tp1.out tp2.out (tx_lt (nsv_lt SY.out ty.out.1)) (tx_lt ty.out.2) (Lib.hid (Nat.mul_pos dp.out yp.out))).mono ?_)
  rintro e w4 ⟨ga, gw, hlo, q4, rfl, ha4, ⟨z4, h1, h2, h3⟩, hb4⟩
  have sw4 := hb4.size
  replace PX := PX.below hb4 PX.lt
  replace PY := PY.below hb4 PY.lt
  replace P8 := P8.below hb4 P8.lt
  replace P9 := P9.below hb4 P9.lt
  replace E := E.trans (hb4.mono E.size)
  replace HP1 := HP1.below hb4 (by omega)
  replace HP2 := HP2.below hb4 (by omega)
  replace HY1 := HY1.below hb4 (by omega)
  replace HY2 := HY2.below hb4 (by omega)
  replace HM := HM.below hb4 (by omega)
  replace Ha1 := Ha1.below hb4 (by omega)
  replace Ha2 := Ha2.below hb4 (by omega)
  replace Hb1 := Hb1.below hb4 (by omega)
  replace Hb2 := Hb2.below hb4 (by omega)
  clear hb4
  have LG := Lib.hid (nless_is hlo S1.out SY.out)
  have O4 := Lib.hid h1
  have T4 := Lib.hid h2
  have U4 := Lib.hid h3
  have A4x : DRd w4 w4.heap.size q4.A q4.n q4.c q4.xs := ha4.1
  have A4y : DRd w4 w4.heap.size q4.D q4.k q4.d q4.ys := ha4.2
  clear hlo h1 h2 h3 ha4
  go_wp2_with fail
  (with_reducible refine (qabs_v _ w4.heap.size q4 z4 gw (qv_at A4x A4y) (Nat.le_refl _) O4 U4).mono ?_)
  rintro e w5 ⟨gq, rfl, hg5, ⟨gv, h1, h2, h3⟩, hb5⟩
  have sw5 := hb5.size
  replace PX := PX.below hb5 PX.lt
  replace PY := PY.below hb5 PY.lt
  replace P8 := P8.below hb5 P8.lt
  replace P9 := P9.below hb5 P9.lt
  replace E := E.trans (hb5.mono E.size)
  replace HP1 := HP1.below hb5 (by omega)
  replace HP2 := HP2.below hb5 (by omega)
  replace HY1 := HY1.below hb5 (by omega)
  replace HY2 := HY2.below hb5 (by omega)
  replace HM := HM.below hb5 (by omega)
  replace Ha1 := Ha1.below hb5 (by omega)
  replace Ha2 := Ha2.below hb5 (by omega)
  replace Hb1 := Hb1.below hb5 (by omega)
  replace Hb2 := Hb2.below hb5 (by omega)
  replace A4x := A4x.below hb5 (by omega)
  replace A4y := A4y.below hb5 (by omega)
  clear hb5
  have RG := Lib.hid h1
  have TG := Lib.hid (nabs_is h2 T4.out)
  have RW := Lib.hid h3
  have Hg1 : DRd w5 w5.heap.size gq.A gq.n gq.c gq.xs := hg5.1
  have Hg2 : DRd w5 w5.heap.size gq.D gq.k gq.d gq.ys := hg5.2
  clear h1 h2 h3 hg5 O4 T4 U4
  clear A4x A4y
  go_wp2_with fail
  obtain ⟨V4, hV4⟩ : ∃ V4 : World, V4 = (w5.alloc (.cells #[.bool gq.m, .slice gq.A gq.n gq.c, .slice gq.D gq.k gq.d] 42)) := ⟨_, rfl⟩
  have bV4 : Below w5.heap.size w5 V4 := by rw [hV4]; (repeat (first | with_reducible exact Below.refl _ _ | with_reducible refine Below.alloc ?_ (by first | (simp <;> omega) | omega) _))
  have zV4 : w5.heap.size + 1 ≤ V4.heap.size := by rw [hV4]; simp
  have P10 : Bk3 V4 (w5.heap.size) (.bool gq.m) (.slice gq.A gq.n gq.c) (.slice gq.D gq.k gq.d) := by rw [hV4]; exact (Bk3.newAt _ _ (by first | omega | (simp; done) | (simp; omega)) _ _ _ _)
  rw [← hV4]
  clear hV4
  replace PX := PX.below bV4 PX.lt
  replace PY := PY.below bV4 PY.lt
  replace P8 := P8.below bV4 P8.lt
  replace P9 := P9.below bV4 P9.lt
  replace E := E.trans (bV4.mono E.size)
  replace HP1 := HP1.below bV4 (by omega)
  replace HP2 := HP2.below bV4 (by omega)
  replace HY1 := HY1.below bV4 (by omega)
  replace HY2 := HY2.below bV4 (by omega)
  replace HM := HM.below bV4 (by omega)
  replace Ha1 := Ha1.below bV4 (by omega)
  replace Ha2 := Ha2.below bV4 (by omega)
  replace Hb1 := Hb1.below bV4 (by omega)
  replace Hb2 := Hb2.below bV4 (by omega)
  replace Hg1 := Hg1.below bV4 (by omega)
  replace Hg2 := Hg2.below bV4 (by omega)
  clear bV4
  have GB := Lib.hid (nlow_bd LG.out TG.out td0.out ty.out.2 tn0.out ty.out.1)
  have EV := Lib.hid (And.intro E (And.intro PX (And.intro PY (And.intro HP1 (And.intro HP2 (And.intro HY1 (And.intro HY2 HM)))))))
  have P8s := Lib.hid P8
  have P9s := Lib.hid P9
  have P10s := Lib.hid P10
  have lt10 := P10.lt
  have ha : a0.at V4 V4.heap.size := qv_at (Ha1.more (by omega)) (Ha2.more (by omega))
  have hb : b0.at V4 V4.heap.size := qv_at (Hb1.more (by omega)) (Hb2.more (by omega))
  have hg : gq.at V4 V4.heap.size := qv_at (Hg1.more (by omega)) (Hg2.more (by omega))
  clear E PX PY HP1 HP2 HY1 HY2 HM P8 P9 P10 Ha1 Ha2 Hb1 Hb2 Hg1 Hg2
  go_loopw [11] (fun s11 wx => NeRel V4 g8 g9 (w5.heap.size) gq n0 d0 (mv : Int) s11 wx) (fun s11 _ => 2000 - (intOf s11).toNat)
  case atStart =>
    exact ⟨0, a0, b0, q1, q1 + 1, 1, 1, rfl, by omega, P8s.out, P9s.out, ha, hb, IA0, IB0, Lib.hid (tre_init (r := r1) (by omega) FL0.out.1 (by rcases FL0.out.2 with g | g <;> omega) (by rcases FL0.out.2 with g | g <;> omega)), P10s.out, hg, Below.refl _ _⟩
  case round =>
    clear P8s P9s P10s ha hb hg IA0 IB0 R3 S3 tv1
    obtain ⟨i, a, b, an, bn, ad, bd, rfl, hi2, P8, P9, ha, hb, IA, IB, TE, P10, hg, E0⟩ := hrel
    have zE := E0.size
    have EW : Below w.heap.size w wr := EV.out.1.trans (E0.mono (by omega))
    have PX : Bk3 wr (w.heap.size) (.bool p.m) (.slice p.A p.n p.c) (.slice p.D p.k p.d) := EV.out.2.1.below E0 (by omega)
    have PY : Bk3 wr (w.heap.size + 1) (.bool y.m) (.slice y.A y.n y.c) (.slice y.D y.k y.d) := EV.out.2.2.1.below E0 (by omega)
    have HP1 : DRd wr B p.A p.n p.c p.xs := EV.out.2.2.2.1.below E0 (by omega)
    have HP2 : DRd wr B p.D p.k p.d p.ys := EV.out.2.2.2.2.1.below E0 (by omega)
    have HY1 : DRd wr B y.A y.n y.c y.xs := EV.out.2.2.2.2.2.1.below E0 (by omega)
    have HY2 : DRd wr B y.D y.k y.d y.ys := EV.out.2.2.2.2.2.2.1.below E0 (by omega)
    have HM : DRd wr B mA mk mc ms := EV.out.2.2.2.2.2.2.2.below E0 (by omega)
    have Ha1 : DRd wr wr.heap.size a.A a.n a.c a.xs := ha.1
    have Ha2 : DRd wr wr.heap.size a.D a.k a.d a.ys := ha.2
    have Hb1 : DRd wr wr.heap.size b.A b.n b.c b.xs := hb.1
    have Hb2 : DRd wr wr.heap.size b.D b.k b.d b.ys := hb.2
    have Hg1 : DRd wr wr.heap.size gq.A gq.n gq.c gq.xs := hg.1
    have Hg2 : DRd wr wr.heap.size gq.D gq.k gq.d gq.ys := hg.2
    have lt8' := P8.lt
    have lt9' := P9.lt
    have lt10' := P10.lt
    clear ha hb hg
    by_cases hk : i = 2000
    · as_aux_lemma =>
        have e4 : decide ((i : Int) < 2000) = false := decide_eq_false (by omega)
        go_wp2_with fail
        go_ret
        exact ⟨rfl, EW⟩
    · have hk3 : i < 2000 := by omega
      have e4 : decide ((i : Int) < 2000) = true := decide_eq_true (by omega)
      clear hk hi2
      go_upto_region 8 with fail
      clear e4
      obtain ⟨va, i1, i2, i3⟩ := IA.out
      have RA1 := Lib.hid i1
      have SA := Lib.hid i2
      have RA2 := Lib.hid i3
      clear i1 i2 i3
      obtain ⟨vb, i1, i2, i3⟩ := IB.out
      have RB1 := Lib.hid i1
      have SB := Lib.hid i2
      have RB2 := Lib.hid i3
      clear i1 i2 i3
      have tx := Lib.hid (tre_tx TE.out HB.out.1 hmT.out)
      have pa := Lib.hid (show 0 < ad by have := TE.out.a1; omega)
      have pb := Lib.hid (show 0 < bd by have := TE.out.b1; omega)
      go_cut [46] (fun s wx => s = .bool false ∧ Below wr.heap.size wr wx)
      case first =>
        as_aux_lemma =>
          clear E0 EW PY HY1 HY2 HM
          have lt_PX := PX.lt
          have lt_P8 := P8.lt
          have lt_P9 := P9.lt
          have lt_P10 := P10.lt
          have HS := Lib.hid (fun (u : World) (hu : Below (wr.heap.size) wr u) => (⟨(hu.cell (p := ⟨w.heap.size, 0, none⟩) (by show w.heap.size < _; omega)).trans PX.c0, (hu.cell (p := ⟨w.heap.size, 1, none⟩) (by show w.heap.size < _; omega)).trans PX.c1, (hu.cell (p := ⟨w.heap.size, 2, none⟩) (by show w.heap.size < _; omega)).trans PX.c2, (hu.cell (p := ⟨g8, 0, none⟩) (by show g8 < _; omega)).trans P8.c0, (hu.cell (p := ⟨g8, 1, none⟩) (by show g8 < _; omega)).trans P8.c1, (hu.cell (p := ⟨g8, 2, none⟩) (by show g8 < _; omega)).trans P8.c2, (hu.cell (p := ⟨g9, 0, none⟩) (by show g9 < _; omega)).trans P9.c0, (hu.cell (p := ⟨g9, 1, none⟩) (by show g9 < _; omega)).trans P9.c1, (hu.cell (p := ⟨g9, 2, none⟩) (by show g9 < _; omega)).trans P9.c2, (hu.cell (p := ⟨w5.heap.size, 0, none⟩) (by show w5.heap.size < _; omega)).trans P10.c0, (hu.cell (p := ⟨w5.heap.size, 1, none⟩) (by show w5.heap.size < _; omega)).trans P10.c1, (hu.cell (p := ⟨w5.heap.size, 2, none⟩) (by show w5.heap.size < _; omega)).trans P10.c2⟩ : u.cell? ⟨w.heap.size, 0, none⟩ = some (.bool p.m) ∧ u.cell? ⟨w.heap.size, 1, none⟩ = some (.slice p.A p.n p.c) ∧ u.cell? ⟨w.heap.size, 2, none⟩ = some (.slice p.D p.k p.d) ∧ u.cell? ⟨g8, 0, none⟩ = some (.bool a.m) ∧ u.cell? ⟨g8, 1, none⟩ = some (.slice a.A a.n a.c) ∧ u.cell? ⟨g8, 2, none⟩ = some (.slice a.D a.k a.d) ∧ u.cell? ⟨g9, 0, none⟩ = some (.bool b.m) ∧ u.cell? ⟨g9, 1, none⟩ = some (.slice b.A b.n b.c) ∧ u.cell? ⟨g9, 2, none⟩ = some (.slice b.D b.k b.d) ∧ u.cell? ⟨w5.heap.size, 0, none⟩ = some (.bool gq.m) ∧ u.cell? ⟨w5.heap.size, 1, none⟩ = some (.slice gq.A gq.n gq.c) ∧ u.cell? ⟨w5.heap.size, 2, none⟩ = some (.slice gq.D gq.k gq.d)))
          have G0 : Below wr.heap.size wr wr.drew := Below.drew (Below.refl _ _)
          have g0s := G0.size
          have G0m : Below (wr.heap.size) wr wr.drew := G0.mono (by omega)
          go_region_held3 (fun u => u.cell? ⟨w.heap.size, 0, none⟩ = some (.bool p.m) ∧ u.cell? ⟨w.heap.size, 1, none⟩ = some (.slice p.A p.n p.c) ∧ u.cell? ⟨w.heap.size, 2, none⟩ = some (.slice p.D p.k p.d) ∧ u.cell? ⟨g8, 0, none⟩ = some (.bool a.m) ∧ u.cell? ⟨g8, 1, none⟩ = some (.slice a.A a.n a.c) ∧ u.cell? ⟨g8, 2, none⟩ = some (.slice a.D a.k a.d) ∧ u.cell? ⟨g9, 0, none⟩ = some (.bool b.m) ∧ u.cell? ⟨g9, 1, none⟩ = some (.slice b.A b.n b.c) ∧ u.cell? ⟨g9, 2, none⟩ = some (.slice b.D b.k b.d) ∧ u.cell? ⟨w5.heap.size, 0, none⟩ = some (.bool gq.m) ∧ u.cell? ⟨w5.heap.size, 1, none⟩ = some (.slice gq.A gq.n gq.c) ∧ u.cell? ⟨w5.heap.size, 2, none⟩ = some (.slice gq.D gq.k gq.d)) (first | (refine HS.out _ ?_; (repeat (first | with_reducible exact G0m | with_reducible exact BN.mono (by omega) | with_reducible exact B5.mono (by omega) | with_reducible exact B4.mono (by omega) | with_reducible exact B3.mono (by omega) | with_reducible exact B2.mono (by omega) | with_reducible exact B1.mono (by omega) | with_reducible exact Below.refl _ _ | with_reducible refine Below.drew ?_ | with_reducible refine below_drewN ?_ _ | with_reducible refine Below.setCell ?_ (by first | (simp <;> omega) | omega) _)); done) | fail)
            (first
              | (go_at_call 21; (with_reducible refine (qless_v _ wr.heap.size p a pv va d0.natAbs ad (qv_at ((DRd.below HP1 G0 (by omega)).more (by omega)) ((DRd.below HP2 G0 (by omega)).more (by omega))) (qv_at ((DRd.below Ha1 G0 (by omega)).more (by omega)) ((DRd.below Ha2 G0 (by omega)).more (by omega))) (by first | exact Nat.le_refl _ | omega) R1 R2 RA1 RA2 tp1.out tp2.out (tx_lt (nsv_lt SA.out tx.out.1)) (tx_lt tx.out.2.2.1) (Lib.hid (Nat.mul_pos dp.out pa.out))).mono ?_); rintro e u1 ⟨a1, e1, hlo, q1, rfl, ha, ⟨z1, h1, h2, h3⟩, hb1⟩; have L1 := Lib.hid (nless_is hlo S1.out SA.out); have O1 := Lib.hid h1; have T1 := Lib.hid h2; have U1 := Lib.hid h3; have A1x : DRd u1 u1.heap.size q1.A q1.n q1.c q1.xs := ha.1; have A1y : DRd u1 u1.heap.size q1.D q1.k q1.d q1.ys := ha.2; clear hlo h1 h2 h3 ha; have B1 : Below wr.heap.size wr u1 := bnext G0 hb1; have b1s := B1.size)
              | (go_at_call 98; (with_reducible refine (qabs_v _ u1.heap.size q1 z1 e1 (qv_at A1x A1y) (Nat.le_refl _) O1 U1).mono ?_); rintro e u2 ⟨q2, rfl, ha, ⟨z2, h1, h2, h3⟩, hb2⟩; have O2 := Lib.hid h1; have T2 := Lib.hid (nabs_is h2 T1.out); have U2 := Lib.hid h3; have A2x : DRd u2 u2.heap.size q2.A q2.n q2.c q2.xs := ha.1; have A2y : DRd u2 u2.heap.size q2.D q2.k q2.d q2.ys := ha.2; clear h1 h2 h3 ha; have B2 : Below wr.heap.size wr u2 := bnext B1 hb2; have b2s := B2.size)
              | (go_at_call 19; (with_reducible refine (qorder_v _ u2.heap.size q2 gq z2 gv e1 gw (qv_at A2x A2y) (qv_at ((DRd.below Hg1 B2 (by omega)).more (by omega)) ((DRd.below Hg2 B2 (by omega)).more (by omega))) (Nat.le_refl _) O2 U2 RG RW (nlow_bd L1.out T2.out td0.out tx.out.2.2.1 tn0.out tx.out.1).1 (nlow_bd L1.out T2.out td0.out tx.out.2.2.1 tn0.out tx.out.1).2 GB.out.1 GB.out.2).mono ?_); rintro e u3 ⟨r3, hic, rfl, hb3⟩; have B3 : Below wr.heap.size wr u3 := bnext B2 hb3; have b3s := B3.size; have f3 := nno (ndec hic T2.out TG.out L1.out LG.out dp.out pa.out yp.out) dn.out NR.out TE.out.a1 TE.out.am; clear hic)
              | (go_at_call 21; (with_reducible refine (qless_v _ u3.heap.size p b pv vb d0.natAbs bd (qv_at ((DRd.below HP1 B3 (by omega)).more (by omega)) ((DRd.below HP2 B3 (by omega)).more (by omega))) (qv_at ((DRd.below Hb1 B3 (by omega)).more (by omega)) ((DRd.below Hb2 B3 (by omega)).more (by omega))) (by first | exact Nat.le_refl _ | omega) R1 R2 RB1 RB2 tp1.out tp2.out (tx_lt (nsv_lt SB.out tx.out.2.1)) (tx_lt tx.out.2.2.2.1) (Lib.hid (Nat.mul_pos dp.out pb.out))).mono ?_); rintro e u4 ⟨a4, e4, hlo, q4, rfl, ha, ⟨z4, h1, h2, h3⟩, hb4⟩; have L4 := Lib.hid (nless_is hlo S1.out SB.out); have O4 := Lib.hid h1; have T4 := Lib.hid h2; have U4 := Lib.hid h3; have A4x : DRd u4 u4.heap.size q4.A q4.n q4.c q4.xs := ha.1; have A4y : DRd u4 u4.heap.size q4.D q4.k q4.d q4.ys := ha.2; clear hlo h1 h2 h3 ha; have B4 : Below wr.heap.size wr u4 := bnext B3 hb4; have b4s := B4.size)
              | (go_at_call 98; (with_reducible refine (qabs_v _ u4.heap.size q4 z4 e4 (qv_at A4x A4y) (Nat.le_refl _) O4 U4).mono ?_); rintro e u5 ⟨q5, rfl, ha, ⟨z5, h1, h2, h3⟩, hb5⟩; have O5 := Lib.hid h1; have T5 := Lib.hid (nabs_is h2 T4.out); have U5 := Lib.hid h3; have A5x : DRd u5 u5.heap.size q5.A q5.n q5.c q5.xs := ha.1; have A5y : DRd u5 u5.heap.size q5.D q5.k q5.d q5.ys := ha.2; clear h1 h2 h3 ha; have B5 : Below wr.heap.size wr u5 := bnext B4 hb5; have b5s := B5.size)
              | (go_at_call 19; (with_reducible refine (qorder_v _ u5.heap.size q5 gq z5 gv e4 gw (qv_at A5x A5y) (qv_at ((DRd.below Hg1 B5 (by omega)).more (by omega)) ((DRd.below Hg2 B5 (by omega)).more (by omega))) (Nat.le_refl _) O5 U5 RG RW (nlow_bd L4.out T5.out td0.out tx.out.2.2.2.1 tn0.out tx.out.2.1).1 (nlow_bd L4.out T5.out td0.out tx.out.2.2.2.1 tn0.out tx.out.2.1).2 GB.out.1 GB.out.2).mono ?_); rintro e u6 ⟨r6, hic, rfl, hb6⟩; have BN : Below wr.heap.size wr u6 := bnext B5 hb6; have b6s := BN.size; have f6 := nno (ndec hic T5.out TG.out L4.out LG.out dp.out pb.out yp.out) dn.out NR.out TE.out.b1 TE.out.bm; clear hic)
              | fail)
          all_goals (go_wp2_with fail)
          all_goals go_meet
          all_goals first | exact ⟨rfl, BN⟩ | exact ⟨by rw [f6], BN⟩
      case rest =>
      obtain ⟨rfl, hbX⟩ := hcut
      replace E0 : Below (g8) V4 wc := E0.trans (hbX.mono (by omega))
      replace PX := PX.below hbX PX.lt
      replace PY := PY.below hbX PY.lt
      replace P8 := P8.below hbX P8.lt
      replace P9 := P9.below hbX P9.lt
      replace P10 := P10.below hbX P10.lt
      replace EW := EW.trans (hbX.mono EW.size)
      replace HP1 := HP1.below hbX (by omega)
      replace HP2 := HP2.below hbX (by omega)
      replace HY1 := HY1.below hbX (by omega)
      replace HY2 := HY2.below hbX (by omega)
      replace HM := HM.below hbX (by omega)
      replace Ha1 := Ha1.below hbX (by omega)
      replace Ha2 := Ha2.below hbX (by omega)
      replace Hb1 := Hb1.below hbX (by omega)
      replace Hb2 := Hb2.below hbX (by omega)
      replace Hg1 := Hg1.below hbX (by omega)
      replace Hg2 := Hg2.below hbX (by omega)
      have sVs := hbX.size
      clear hbX
      obtain ⟨Vs, hVs⟩ : ∃ y : World, y = wc := ⟨_, rfl⟩
      subst hVs
      obtain ⟨M, hMa, hMb, hM2⟩ : ∃ M, a.k ≤ M ∧ b.k ≤ M ∧ (M = a.k ∨ M = b.k) := by
        rcases Nat.le_total a.k b.k with h | h
        · exact ⟨_, h, Nat.le_refl _, .inr rfl⟩
        · exact ⟨_, Nat.le_refl _, h, .inl rfl⟩
      have HM2 := Lib.hid hM2
      clear hM2
      have na := Lib.hid (show a.n ≤ 100000 ∧ a.k ≤ 100000 from ⟨Nat.le_trans (tt_len RA1.out (tx_lt (nsv_lt SA.out tx.out.1)) Ha1.len.out) (by decide), Nat.le_trans (tt_len RA2.out (tx_lt tx.out.2.2.1) Ha2.len.out) (by decide)⟩)
      have nb := Lib.hid (show b.n ≤ 100000 ∧ b.k ≤ 100000 from ⟨Nat.le_trans (tt_len RB1.out (tx_lt (nsv_lt SB.out tx.out.2.1)) Hb1.len.out) (by decide), Nat.le_trans (tt_len RB2.out (tx_lt tx.out.2.2.2.1) Hb2.len.out) (by decide)⟩)
      have hM3 := Lib.hid (show M ≤ 10000000000000 by have := HM2.out; have := na.out.2; have := nb.out.2; omega)
      go_upto_region 10 with fail
      go_cut [12] (fun sx wx => LfR Vs (an + bn) (ad + bd) sx wx)
      case first =>
        as_aux_lemma =>
          have lt_P8 := P8.lt
          have lt_P9 := P9.lt
          have HS := Lib.hid (fun (u : World) (hu : Below Vs.heap.size Vs u) => (⟨(hu.cell (p := ⟨g8, 0, none⟩) (by show g8 < _; omega)).trans P8.c0, (hu.cell (p := ⟨g8, 1, none⟩) (by show g8 < _; omega)).trans P8.c1, (hu.cell (p := ⟨g8, 2, none⟩) (by show g8 < _; omega)).trans P8.c2, (hu.cell (p := ⟨g9, 0, none⟩) (by show g9 < _; omega)).trans P9.c0, (hu.cell (p := ⟨g9, 1, none⟩) (by show g9 < _; omega)).trans P9.c1, (hu.cell (p := ⟨g9, 2, none⟩) (by show g9 < _; omega)).trans P9.c2⟩ : u.cell? ⟨g8, 0, none⟩ = some (.bool a.m) ∧ u.cell? ⟨g8, 1, none⟩ = some (.slice a.A a.n a.c) ∧ u.cell? ⟨g8, 2, none⟩ = some (.slice a.D a.k a.d) ∧ u.cell? ⟨g9, 0, none⟩ = some (.bool b.m) ∧ u.cell? ⟨g9, 1, none⟩ = some (.slice b.A b.n b.c) ∧ u.cell? ⟨g9, 2, none⟩ = some (.slice b.D b.k b.d)))
          have G0 : Below Vs.heap.size Vs Vs.drew := Below.drew (Below.refl _ _)
          clear E0 EW PX PY HP1 HP2 HY1 HY2 HM P10 Hg1 Hg2
          go_region_held3 (fun u => u.cell? ⟨g8, 0, none⟩ = some (.bool a.m) ∧ u.cell? ⟨g8, 1, none⟩ = some (.slice a.A a.n a.c) ∧ u.cell? ⟨g8, 2, none⟩ = some (.slice a.D a.k a.d) ∧ u.cell? ⟨g9, 0, none⟩ = some (.bool b.m) ∧ u.cell? ⟨g9, 1, none⟩ = some (.slice b.A b.n b.c) ∧ u.cell? ⟨g9, 2, none⟩ = some (.slice b.D b.k b.d))
            (first | exact HS.out _ (by (repeat (first | with_reducible exact G0 | with_reducible exact B4 | with_reducible exact B3 | with_reducible exact B2 | with_reducible exact B1 | with_reducible exact Below.refl _ _ | with_reducible refine Below.drew ?_ | with_reducible refine Below.alloc ?_ (by first | (simp <;> omega) | omega) _ | with_reducible refine Below.setCell ?_ (by first | (simp <;> omega) | omega) _))) | fail)
            (first
              | (go_at_call 41; (with_reducible refine (rplus_any _ Vs.heap.size a.m b.m a.A b.A a.n b.n a.c b.c va vb a.xs b.xs (DRd.more (B := Vs.heap.size) (DRd.below (Ha1.more (by omega)) (B' := Vs.heap.size) (by (repeat (first | with_reducible exact G0 | with_reducible exact B4 | with_reducible exact B3 | with_reducible exact B2 | with_reducible exact B1 | with_reducible exact Below.refl _ _ | with_reducible refine Below.drew ?_ | with_reducible refine Below.alloc ?_ (by first | (simp <;> omega) | omega) _ | with_reducible refine Below.setCell ?_ (by first | (simp <;> omega) | omega) _))) (Nat.le_refl _)) (by first | (simp <;> omega) | omega)) (DRd.more (B := Vs.heap.size) (DRd.below (Hb1.more (by omega)) (B' := Vs.heap.size) (by (repeat (first | with_reducible exact G0 | with_reducible exact B4 | with_reducible exact B3 | with_reducible exact B2 | with_reducible exact B1 | with_reducible exact Below.refl _ _ | with_reducible refine Below.drew ?_ | with_reducible refine Below.alloc ?_ (by first | (simp <;> omega) | omega) _ | with_reducible refine Below.setCell ?_ (by first | (simp <;> omega) | omega) _))) (Nat.le_refl _)) (by first | (simp <;> omega) | omega)) (by first | (simp <;> omega) | omega) RA1.out RB1.out na.out.1 nb.out.1).mono ?_); rintro e u1 ⟨m5, A5, k5, c5, x5, v5, rfl, hd5, hr5, hs5, hb1⟩; have B1 : Below Vs.heap.size Vs u1 := (by refine bnext ?_ hb1; (repeat (first | with_reducible exact G0 | with_reducible exact B4 | with_reducible exact B3 | with_reducible exact B2 | with_reducible exact B1 | with_reducible exact Below.refl _ _ | with_reducible refine Below.drew ?_ | with_reducible refine Below.alloc ?_ (by first | (simp <;> omega) | omega) _ | with_reducible refine Below.setCell ?_ (by first | (simp <;> omega) | omega) _))); have b1s := B1.size; have Q5 := Lib.hid hr5; have T5 := Lib.hid (show sval m5 v5 = an + bn by rw [hs5, SA.out, SB.out]); clear hr5 hs5; (first | (have F1 := nq3d hb1; obtain ⟨_, _, _, _, _, _, _⟩ := id F1) | (have F1 := nq3 hb1; obtain ⟨_, _, _, _, _, _, _⟩ := id F1) | skip))
              | (go_at_call 85; (with_reducible refine (plus_any _ u1.heap.size a.D b.D a.k b.k a.d b.d M a.ys b.ys ((DRd.more (B := Vs.heap.size) (DRd.below (Ha2.more (by omega)) (B' := Vs.heap.size) (by (repeat (first | with_reducible exact G0 | with_reducible exact B4 | with_reducible exact B3 | with_reducible exact B2 | with_reducible exact B1 | with_reducible exact Below.refl _ _ | with_reducible refine Below.drew ?_ | with_reducible refine Below.alloc ?_ (by first | (simp <;> omega) | omega) _ | with_reducible refine Below.setCell ?_ (by first | (simp <;> omega) | omega) _))) (Nat.le_refl _)) (by first | (simp <;> omega) | omega)).more b1s) ((DRd.more (B := Vs.heap.size) (DRd.below (Hb2.more (by omega)) (B' := Vs.heap.size) (by (repeat (first | with_reducible exact G0 | with_reducible exact B4 | with_reducible exact B3 | with_reducible exact B2 | with_reducible exact B1 | with_reducible exact Below.refl _ _ | with_reducible refine Below.drew ?_ | with_reducible refine Below.alloc ?_ (by first | (simp <;> omega) | omega) _ | with_reducible refine Below.setCell ?_ (by first | (simp <;> omega) | omega) _))) (Nat.le_refl _)) (by first | (simp <;> omega) | omega)).more b1s) (by first | (simp <;> omega) | omega) hMa hMb hM3.out HM2.out).mono ?_); rintro e u2 ⟨A6, k6, c6, y6, rfl, hd6, hr6, hb2⟩; have B2 : Below Vs.heap.size Vs u2 := (by refine bnext ?_ hb2; (repeat (first | with_reducible exact G0 | with_reducible exact B4 | with_reducible exact B3 | with_reducible exact B2 | with_reducible exact B1 | with_reducible exact Below.refl _ _ | with_reducible refine Below.drew ?_ | with_reducible refine Below.alloc ?_ (by first | (simp <;> omega) | omega) _ | with_reducible refine Below.setCell ?_ (by first | (simp <;> omega) | omega) _))); have b2s := B2.size; have K2 : Below u1.heap.size u1 u2 := (by refine bnext ?_ hb2; (repeat (first | with_reducible exact Below.refl _ _ | with_reducible refine Below.drew ?_ | with_reducible refine Below.alloc ?_ (by first | (simp <;> omega) | omega) _))); have Q6 := Lib.hid (show Rep 65536 y6 (ad + bd) by have h9 := hr6; rw [RA2.out.val, RB2.out.val] at h9; exact h9); clear hr6; have HA : QV.at u2 u2.heap.size (QV.mk m5 A5 k5 c5 x5 A6 k6 c6 y6) := qv_at (q := (QV.mk m5 A5 k5 c5 x5 A6 k6 c6 y6)) ((hd5.below K2 (Nat.le_refl _)).more K2.size) hd6; have IN : Hid (QV.is (QV.mk m5 A5 k5 c5 x5 A6 k6 c6 y6) (an + bn) (ad + bd)) := Lib.hid ⟨v5, Q5.out, T5.out, Q6.out⟩; (first | (have F2 := nq3d hb2; obtain ⟨_, _, _, _, _, _, _⟩ := id F2) | (have F2 := nq3 hb2; obtain ⟨_, _, _, _, _, _, _⟩ := id F2) | skip); (first | (have F1q := F1.below K2 F1.lt; obtain ⟨_, _, _, _, _, _, _⟩ := id F1q) | skip))
              | fail)
          all_goals (go_wp2_with fail)
          all_goals go_meet
          all_goals first
            | with_reducible exact lf_a (q := (QV.mk m5 A5 k5 c5 x5 A6 k6 c6 y6)) HA IN B2
            | with_reducible exact lf_o (q := (QV.mk m5 A5 k5 c5 x5 A6 k6 c6 y6)) HA IN B2 (by with_reducible assumption) (by omega)
            | fail
      case rest =>
      obtain ⟨g12, nx, rfl, P12, hnx, IN, hg12, hbX⟩ := hcut
      replace E0 : Below (g8) V4 wc := E0.trans (hbX.mono (by omega))
      replace PX := PX.below hbX PX.lt
      replace PY := PY.below hbX PY.lt
      replace P8 := P8.below hbX P8.lt
      replace P9 := P9.below hbX P9.lt
      replace P10 := P10.below hbX P10.lt
      replace EW := EW.trans (hbX.mono EW.size)
      replace HP1 := HP1.below hbX (by omega)
      replace HP2 := HP2.below hbX (by omega)
      replace HY1 := HY1.below hbX (by omega)
      replace HY2 := HY2.below hbX (by omega)
      replace HM := HM.below hbX (by omega)
      replace Ha1 := Ha1.below hbX (by omega)
      replace Ha2 := Ha2.below hbX (by omega)
      replace Hb1 := Hb1.below hbX (by omega)
      replace Hb2 := Hb2.below hbX (by omega)
      replace Hg1 := Hg1.below hbX (by omega)
      replace Hg2 := Hg2.below hbX (by omega)
      have sVt := hbX.size
      clear hbX
      obtain ⟨Vt, hVt⟩ : ∃ y : World, y = wc := ⟨_, rfl⟩
      subst hVt
      have Hn1 : DRd Vt Vt.heap.size nx.A nx.n nx.c nx.xs := hnx.1
      have Hn2 : DRd Vt Vt.heap.size nx.D nx.k nx.d nx.ys := hnx.2
      clear hnx
      obtain ⟨vn, i1, i2, i3⟩ := IN.out
      have RN1 := Lib.hid i1
      have SN := Lib.hid i2
      have RN2 := Lib.hid i3
      clear i1 i2 i3
      have lt12 := P12.lt
      have t_P120 := P12.c0
      have t_P121 := P12.c1
      have t_P122 := P12.c2
      go_wp2_with fail
      clear t_P120 t_P121 t_P122
      (with_reducible refine (cmpD_w _ Vt.heap.size nx.D mA nx.k mk nx.d mc (ad + bd) mv nx.ys ms Hn2 (HM.more (by omega)) RN2 RM).mono ?_)
      rintro e w7 ⟨r7, hcv, rfl, hb7⟩
      have sw7 := hb7.size
      replace E0 : Below (g8) V4 w7 := E0.trans (hb7.mono (by omega))
      replace PX := PX.below hb7 PX.lt
      replace PY := PY.below hb7 PY.lt
      replace P8 := P8.below hb7 P8.lt
      replace P9 := P9.below hb7 P9.lt
      replace P10 := P10.below hb7 P10.lt
      replace P12 := P12.below hb7 P12.lt
      replace EW := EW.trans (hb7.mono EW.size)
      replace HP1 := HP1.below hb7 (by omega)
      replace HP2 := HP2.below hb7 (by omega)
      replace HY1 := HY1.below hb7 (by omega)
      replace HY2 := HY2.below hb7 (by omega)
      replace HM := HM.below hb7 (by omega)
      replace Ha1 := Ha1.below hb7 (by omega)
      replace Ha2 := Ha2.below hb7 (by omega)
      replace Hb1 := Hb1.below hb7 (by omega)
      replace Hb2 := Hb2.below hb7 (by omega)
      replace Hg1 := Hg1.below hb7 (by omega)
      replace Hg2 := Hg2.below hb7 (by omega)
      replace Hn1 := Hn1.below hb7 (by omega)
      replace Hn2 := Hn2.below hb7 (by omega)
      clear hb7
      have CV := Lib.hid hcv
      clear hcv
      by_cases hgt : 0 < r7
      · as_aux_lemma =>
          have e5 : decide (0 < r7) = true := decide_eq_true hgt
          have hmx := Lib.hid (show mv < ad + bd by have h9 := CV.out; unfold CmpV at h9; omega)
          clear hgt
          have t_PY0 := PY.c0
          have t_PY1 := PY.c1
          have t_PY2 := PY.c2
          have t_P80 := P8.c0
          have t_P81 := P8.c1
          have t_P82 := P8.c2
          go_wp2_with fail
          clear t_PY0 t_PY1 t_PY2 t_P80 t_P81 t_P82
          clear e5
          (with_reducible refine (qorder_v _ w7.heap.size y a vy va yd ad (qv_at (HY1.more (by omega)) (HY2.more (by omega))) (qv_at (Ha1.more (by omega)) (Ha2.more (by omega))) (Nat.le_refl _) RY1 RY2 RA1 RA2 (tx_lt (nsv_lt SY.out ty.out.1)) (tx_lt ty.out.2) (tx_lt (nsv_lt SA.out tx.out.1)) (tx_lt tx.out.2.2.1)).mono ?_)
          rintro e w8 ⟨r8, hic, rfl, hb8⟩
          have sw8 := hb8.size
          replace E0 : Below (g8) V4 w8 := E0.trans (hb8.mono (by omega))
          replace PX := PX.below hb8 PX.lt
          replace PY := PY.below hb8 PY.lt
          replace P8 := P8.below hb8 P8.lt
          replace P9 := P9.below hb8 P9.lt
          replace P10 := P10.below hb8 P10.lt
          replace P12 := P12.below hb8 P12.lt
          replace EW := EW.trans (hb8.mono EW.size)
          replace HP1 := HP1.below hb8 (by omega)
          replace HP2 := HP2.below hb8 (by omega)
          replace HY1 := HY1.below hb8 (by omega)
          replace HY2 := HY2.below hb8 (by omega)
          replace HM := HM.below hb8 (by omega)
          replace Ha1 := Ha1.below hb8 (by omega)
          replace Ha2 := Ha2.below hb8 (by omega)
          replace Hb1 := Hb1.below hb8 (by omega)
          replace Hb2 := Hb2.below hb8 (by omega)
          replace Hg1 := Hg1.below hb8 (by omega)
          replace Hg2 := Hg2.below hb8 (by omega)
          replace Hn1 := Hn1.below hb8 (by omega)
          replace Hn2 := Hn2.below hb8 (by omega)
          clear hb8
          have IC := Lib.hid hic
          clear hic
          have TEND := Lib.hid (tre_end TE.out hd0 (by have := hmx.out; omega) NR.out.pos NR.out.le NR.out.best)
          by_cases hr : r8 = 0
          · subst hr
            go_wp2_with fail
            go_ret
            exact ⟨rfl, EW⟩
          · have hb9 := Lib.hid (show yn * ((bd : Nat) : Int) = bn * ((yd : Nat) : Int) from by
              rcases TEND.out with h9 | h9
              · exfalso
                apply hr
                have h8 := IC.out
                rw [SY.out, SA.out, h9] at h8
                unfold ICmp at h8
                omega
              · exact h9)
            have e6 : (r8 == 0) = false := beq_eq_false_iff_ne.2 hr
            clear hr
            have t_PY0 := PY.c0
            have t_PY1 := PY.c1
            have t_PY2 := PY.c2
            have t_P90 := P9.c0
            have t_P91 := P9.c1
            have t_P92 := P9.c2
            go_wp2_with fail
            clear t_PY0 t_PY1 t_PY2 t_P90 t_P91 t_P92
            clear e6
            (with_reducible refine (qorder_v _ w8.heap.size y b vy vb yd bd (qv_at (HY1.more (by omega)) (HY2.more (by omega))) (qv_at (Hb1.more (by omega)) (Hb2.more (by omega))) (Nat.le_refl _) RY1 RY2 RB1 RB2 (tx_lt (nsv_lt SY.out ty.out.1)) (tx_lt ty.out.2) (tx_lt (nsv_lt SB.out tx.out.2.1)) (tx_lt tx.out.2.2.2.1)).mono ?_)
            rintro e w9 ⟨r9, hic, rfl, hb10⟩
            have sw9 := hb10.size
            replace E0 : Below (g8) V4 w9 := E0.trans (hb10.mono (by omega))
            replace PX := PX.below hb10 PX.lt
            replace PY := PY.below hb10 PY.lt
            replace P8 := P8.below hb10 P8.lt
            replace P9 := P9.below hb10 P9.lt
            replace P10 := P10.below hb10 P10.lt
            replace P12 := P12.below hb10 P12.lt
            replace EW := EW.trans (hb10.mono EW.size)
            replace HP1 := HP1.below hb10 (by omega)
            replace HP2 := HP2.below hb10 (by omega)
            replace HY1 := HY1.below hb10 (by omega)
            replace HY2 := HY2.below hb10 (by omega)
            replace HM := HM.below hb10 (by omega)
            replace Ha1 := Ha1.below hb10 (by omega)
            replace Ha2 := Ha2.below hb10 (by omega)
            replace Hb1 := Hb1.below hb10 (by omega)
            replace Hb2 := Hb2.below hb10 (by omega)
            replace Hg1 := Hg1.below hb10 (by omega)
            replace Hg2 := Hg2.below hb10 (by omega)
            replace Hn1 := Hn1.below hb10 (by omega)
            replace Hn2 := Hn2.below hb10 (by omega)
            clear hb10
            obtain rfl : r9 = 0 := by
              rw [SY.out, SB.out, hb9.out] at hic
              unfold ICmp at hic
              omega
            go_wp2_with fail
            go_ret
            exact ⟨rfl, EW⟩
      · have e5 : decide (0 < r7) = false := decide_eq_false hgt
        have hmx := Lib.hid (show ad + bd ≤ mv by have h9 := CV.out; unfold CmpV at h9; omega)
        clear hgt
        have t_P120 := P12.c0
        have t_P121 := P12.c1
        have t_P122 := P12.c2
        have t_PX0 := PX.c0
        have t_PX1 := PX.c1
        have t_PX2 := PX.c2
        go_wp2_with fail
        clear t_P120 t_P121 t_P122 t_PX0 t_PX1 t_PX2
        clear e5
        (with_reducible refine (qorder_v _ w7.heap.size nx p vn pv (ad + bd) d0.natAbs (qv_at (Hn1.more (by omega)) (Hn2.more (by omega))) (qv_at (HP1.more (by omega)) (HP2.more (by omega))) (Nat.le_refl _) RN1 RN2 R1 R2 (tx_lt (nsv_lt SN.out tx.out.2.2.2.2.1)) (tx_lt tx.out.2.2.2.2.2) tp1.out tp2.out).mono ?_)
        rintro e w8 ⟨r8, hic, rfl, hb8⟩
        have sw8 := hb8.size
        replace E0 : Below (g8) V4 w8 := E0.trans (hb8.mono (by omega))
        replace PX := PX.below hb8 PX.lt
        replace PY := PY.below hb8 PY.lt
        replace P8 := P8.below hb8 P8.lt
        replace P9 := P9.below hb8 P9.lt
        replace P10 := P10.below hb8 P10.lt
        replace P12 := P12.below hb8 P12.lt
        replace EW := EW.trans (hb8.mono EW.size)
        replace HP1 := HP1.below hb8 (by omega)
        replace HP2 := HP2.below hb8 (by omega)
        replace HY1 := HY1.below hb8 (by omega)
        replace HY2 := HY2.below hb8 (by omega)
        replace HM := HM.below hb8 (by omega)
        replace Ha1 := Ha1.below hb8 (by omega)
        replace Ha2 := Ha2.below hb8 (by omega)
        replace Hb1 := Hb1.below hb8 (by omega)
        replace Hb2 := Hb2.below hb8 (by omega)
        replace Hg1 := Hg1.below hb8 (by omega)
        replace Hg2 := Hg2.below hb8 (by omega)
        replace Hn1 := Hn1.below hb8 (by omega)
        replace Hn2 := Hn2.below hb8 (by omega)
        clear hb8
        have IC := Lib.hid (show ICmp ((an + bn) * d0) (n0 * ((ad : Int) + (bd : Int))) r8 by
          have h8 := hic
          rw [SN.out, S1.out, dn.out, show ((ad + bd : Nat) : Int) = (ad : Int) + (bd : Int) by omega] at h8
          exact h8)
        clear hic
        by_cases hr : r8 ≤ 0
        clear HY1 HY2 HM HP1 HP2 PX PY EW
        · as_aux_lemma =>
            have e6 : decide (r8 ≤ 0) = true := decide_eq_true hr
            have TE2 := Lib.hid (tre_a TE.out (by have := hmx.out; omega) (by have h8 := IC.out; unfold ICmp at h8; omega))
            clear hr
            have t0 := P12.c0
            have t1 := P12.c1
            have t2 := P12.c2
            clear Ha1 Ha2
            have y_P80 := P8.c0
            have z_P80 := P8.z0
            have y_P81 := P8.c1
            have z_P81 := P8.z1
            have y_P82 := P8.c2
            have z_P82 := P8.z2
            have lt_P8 := P8.lt
            go_wp2_with fail
            clear y_P80 z_P80 y_P81 z_P81 y_P82 z_P82 lt_P8
            obtain ⟨U2P8, hU2P8⟩ : ∃ U2P8 : World, U2P8 = (((w8.setCell ⟨g8, 0, none⟩ (.bool nx.m)).setCell ⟨g8, 1, none⟩ (.slice nx.A nx.n nx.c)).setCell ⟨g8, 2, none⟩ (.slice nx.D nx.k nx.d)) := ⟨_, rfl⟩
            have zU2P8 : U2P8.heap.size = w8.heap.size := by rw [hU2P8]; simp [World.setCell]
            replace E0 : Below (g8) V4 U2P8 := by rw [hU2P8]; exact (((E0.setCell (by first | (simp; done) | (simp; omega)) _).setCell (by first | (simp; done) | (simp; omega)) _).setCell (by first | (simp; done) | (simp; omega)) _)
            replace P9 : Bk3 U2P8 (g9) (.bool b.m) (.slice b.A b.n b.c) (.slice b.D b.k b.d) := by rw [hU2P8]; exact P9.far33 (by omega) _ _ _
            replace P10 : Bk3 U2P8 (w5.heap.size) (.bool gq.m) (.slice gq.A gq.n gq.c) (.slice gq.D gq.k gq.d) := by rw [hU2P8]; exact P10.far33 (by omega) _ _ _
            replace Hb1 : DRd U2P8 (wr.heap.size) b.A b.n b.c b.xs := by rw [hU2P8]; exact Hb1.set3m P8 _ _ _
            replace Hb2 : DRd U2P8 (wr.heap.size) b.D b.k b.d b.ys := by rw [hU2P8]; exact Hb2.set3m P8 _ _ _
            replace Hg1 : DRd U2P8 (wr.heap.size) gq.A gq.n gq.c gq.xs := by rw [hU2P8]; exact Hg1.set3m P8 _ _ _
            replace Hg2 : DRd U2P8 (wr.heap.size) gq.D gq.k gq.d gq.ys := by rw [hU2P8]; exact Hg2.set3m P8 _ _ _
            replace Hn1 : DRd U2P8 (Vt.heap.size) nx.A nx.n nx.c nx.xs := by rw [hU2P8]; exact Hn1.set3m P8 _ _ _
            replace Hn2 : DRd U2P8 (Vt.heap.size) nx.D nx.k nx.d nx.ys := by rw [hU2P8]; exact Hn2.set3m P8 _ _ _
            replace P8 : Bk3 U2P8 (g8) (.bool nx.m) (.slice nx.A nx.n nx.c) (.slice nx.D nx.k nx.d) := by rw [hU2P8]; exact P8.put _ _ _
            rw [← hU2P8]
            clear hU2P8
            have zU2P8' := Nat.le_of_eq zU2P8
            replace zU2P8 := Nat.le_of_eq zU2P8.symm
            clear t0 t1 t2 e6
            go_roundw
            case rel => first | exact ⟨i + 1, nx, b, an + bn, bn, ad + bd, bd, by first | rfl | go_num, by omega, P8, P9, qv_at (Hn1.more (by omega)) (Hn2.more (by omega)), qv_at (Hb1.more (by omega)) (Hb2.more (by omega)), IN, IB, Lib.hid (by have h9 := TE2.out; rw [show (ad : Int) + (bd : Int) = ((ad + bd : Nat) : Int) by omega] at h9; exact h9), P10, qv_at (Hg1.more (by omega)) (Hg2.more (by omega)), E0⟩ | ((repeat apply Exists.intro); exact ⟨⟨i + 1, nx, b, an + bn, bn, ad + bd, bd, by first | rfl | go_num, by omega, P8, P9, qv_at (Hn1.more (by omega)) (Hn2.more (by omega)), qv_at (Hb1.more (by omega)) (Hb2.more (by omega)), IN, IB, Lib.hid (by have h9 := TE2.out; rw [show (ad : Int) + (bd : Int) = ((ad + bd : Nat) : Int) by omega] at h9; exact h9), P10, qv_at (Hg1.more (by omega)) (Hg2.more (by omega)), E0⟩, rfl⟩)
            case measure => first | (simp [intOf]; done) | (simp [intOf]; omega)
        · as_aux_lemma =>
            have e6 : decide (r8 ≤ 0) = false := decide_eq_false hr
            have TE2 := Lib.hid (tre_b TE.out (by have := hmx.out; omega) (by have h8 := IC.out; unfold ICmp at h8; omega))
            clear hr
            have t0 := P12.c0
            have t1 := P12.c1
            have t2 := P12.c2
            clear Hb1 Hb2
            have y_P90 := P9.c0
            have z_P90 := P9.z0
            have y_P91 := P9.c1
            have z_P91 := P9.z1
            have y_P92 := P9.c2
            have z_P92 := P9.z2
            have lt_P9 := P9.lt
            go_wp2_with fail
            clear y_P90 z_P90 y_P91 z_P91 y_P92 z_P92 lt_P9
            obtain ⟨U2P9, hU2P9⟩ : ∃ U2P9 : World, U2P9 = (((w8.setCell ⟨g9, 0, none⟩ (.bool nx.m)).setCell ⟨g9, 1, none⟩ (.slice nx.A nx.n nx.c)).setCell ⟨g9, 2, none⟩ (.slice nx.D nx.k nx.d)) := ⟨_, rfl⟩
            have zU2P9 : U2P9.heap.size = w8.heap.size := by rw [hU2P9]; simp [World.setCell]
            replace E0 : Below (g8) V4 U2P9 := by rw [hU2P9]; exact (((E0.setCell (by first | (simp; done) | (simp; omega)) _).setCell (by first | (simp; done) | (simp; omega)) _).setCell (by first | (simp; done) | (simp; omega)) _)
            replace P8 : Bk3 U2P9 (g8) (.bool a.m) (.slice a.A a.n a.c) (.slice a.D a.k a.d) := by rw [hU2P9]; exact P8.far33 (by omega) _ _ _
            replace P10 : Bk3 U2P9 (w5.heap.size) (.bool gq.m) (.slice gq.A gq.n gq.c) (.slice gq.D gq.k gq.d) := by rw [hU2P9]; exact P10.far33 (by omega) _ _ _
            replace Ha1 : DRd U2P9 (wr.heap.size) a.A a.n a.c a.xs := by rw [hU2P9]; exact Ha1.set3m P9 _ _ _
            replace Ha2 : DRd U2P9 (wr.heap.size) a.D a.k a.d a.ys := by rw [hU2P9]; exact Ha2.set3m P9 _ _ _
            replace Hg1 : DRd U2P9 (wr.heap.size) gq.A gq.n gq.c gq.xs := by rw [hU2P9]; exact Hg1.set3m P9 _ _ _
            replace Hg2 : DRd U2P9 (wr.heap.size) gq.D gq.k gq.d gq.ys := by rw [hU2P9]; exact Hg2.set3m P9 _ _ _
            replace Hn1 : DRd U2P9 (Vt.heap.size) nx.A nx.n nx.c nx.xs := by rw [hU2P9]; exact Hn1.set3m P9 _ _ _
            replace Hn2 : DRd U2P9 (Vt.heap.size) nx.D nx.k nx.d nx.ys := by rw [hU2P9]; exact Hn2.set3m P9 _ _ _
            replace P9 : Bk3 U2P9 (g9) (.bool nx.m) (.slice nx.A nx.n nx.c) (.slice nx.D nx.k nx.d) := by rw [hU2P9]; exact P9.put _ _ _
            rw [← hU2P9]
            clear hU2P9
            have zU2P9' := Nat.le_of_eq zU2P9
            replace zU2P9 := Nat.le_of_eq zU2P9.symm
            clear t0 t1 t2 e6
            go_roundw
            case rel => first | exact ⟨i + 1, a, nx, an, an + bn, ad, ad + bd, by first | rfl | go_num, by omega, P8, P9, qv_at (Ha1.more (by omega)) (Ha2.more (by omega)), qv_at (Hn1.more (by omega)) (Hn2.more (by omega)), IA, IN, Lib.hid (by have h9 := TE2.out; rw [show (ad : Int) + (bd : Int) = ((ad + bd : Nat) : Int) by omega] at h9; exact h9), P10, qv_at (Hg1.more (by omega)) (Hg2.more (by omega)), E0⟩ | ((repeat apply Exists.intro); exact ⟨⟨i + 1, a, nx, an, an + bn, ad, ad + bd, by first | rfl | go_num, by omega, P8, P9, qv_at (Ha1.more (by omega)) (Ha2.more (by omega)), qv_at (Hn1.more (by omega)) (Hn2.more (by omega)), IA, IN, Lib.hid (by have h9 := TE2.out; rw [show (ad : Int) + (bd : Int) = ((ad + bd : Nat) : Int) by omega] at h9; exact h9), P10, qv_at (Hg1.more (by omega)) (Hg2.more (by omega)), E0⟩, rfl⟩)
            case measure => first | (simp [intOf]; done) | (simp [intOf]; omega)
end Go.Proofs.YtfgkhdpdjclmkaaGreat
