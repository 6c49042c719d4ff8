/- The reference's Nearest: its walk. -/
import Derived.Test.YtfgkhdpdjclmkaaGreatBNrd
namespace Go.Proofs.YtfgkhdpdjclmkaaGreat
open Go.RowKit
set_option maxHeartbeats 400000
set_option maxRecDepth 100000
set_option linter.unusedSimpArgs false
set_option linter.unusedVariables false

theorem yn_bd {n0 low r yn d0 : Int} {k d yw : Nat} (h : FloorOf (n0 * (d : Int)) d0 low r) (hd0 : 1 ≤ d0) (hn : n0.natAbs < Top128) (hd : d ≤ 40) (hk : k < 2) (L : LowOf (low + (k : Int)) d yn yw) : yn.natAbs ≤ 64 * Top128 := by
  have h1 := fl_abs h (by omega)
  rw [Int.natAbs_mul, Int.natAbs_natCast] at h1
  have h2 : n0.natAbs * d ≤ Top128 * 40 := Nat.mul_le_mul (by omega) hd
  have h3 := L.2.2.2.1
  have h4 := top_big (v := 1) (by decide)
  omega
theorem QV.at.setB {u : World} {q : QV} {g : Nat} {a b : Value} (H : q.at u u.heap.size) (G : Bk2 u g a b) (ha : ∀ x, a ≠ .int .i64 x) (hb : ∀ x, b ≠ .int .i64 x) (x y : Value) : q.at ((u.setCell ⟨g, 0, none⟩ x).setCell ⟨g, 1, none⟩ y) ((u.setCell ⟨g, 0, none⟩ x).setCell ⟨g, 1, none⟩ y).heap.size :=
  ⟨DRd.more (H.1.setBD G ha hb x y) (by simp [World.setCell]), DRd.more (H.2.setBD G ha hb x y) (by simp [World.setCell])⟩
set_option maxHeartbeats 40000000 in
theorem nearestD_any (w : World) (B : Nat) (p : QV) (pv m : Nat) (n0 d0 : Int) (H : p.at w B) (hB : B ≤ w.heap.size) (R1 : Hid (Rep 65536 p.xs pv)) (S1 : Hid (sval p.m pv = n0)) (R2 : Hid (Rep 65536 p.ys d0.natAbs)) (hd0 : 1 ≤ d0) (HB : Hid (n0.natAbs < Top128 ∧ d0.natAbs < Top128)) (hm1 : 1 ≤ m) (hm2 : m ≤ 40) (hg : Hid (Nat.gcd n0.natAbs d0.natAbs = 1)) (hmd : Hid ((m : Int) < d0)) :
    Calls Tryz.prog 49 #[p.v, .int .i64 (m : Int)] w (GivesQ w (nearZ n0 d0 m).1 (nearZ n0 d0 m).2.natAbs) := by
  have HP1 : DRd w B p.A p.n p.c p.xs := H.1
  have HP2 : DRd w B p.D p.k p.d p.ys := H.2
  have E : Below w.heap.size w w := Below.refl _ _
  have dn := Lib.hid (show ((d0.natAbs : Nat) : Int) = d0 by omega)
  have tp1 := Lib.hid (show pv < TT from lt_tt9 (by rw [← sval_abs p.m pv, S1.out]; exact HB.out.1))
  have tp2 := Lib.hid (show d0.natAbs < TT from lt_tt9 HB.out.2)
  have dp := Lib.hid (show 0 < d0.natAbs by omega)
  go_enter Tryz.func49, Tryz.ntmps49
  go_wp2_with fail
  obtain ⟨V0, hV0⟩ : ∃ V0 : World, V0 = ((w.alloc (.cells #[.bool p.m, .slice p.A p.n p.c, .slice p.D p.k p.d] 42)).alloc (.cells #[.bool false, .slice none 0 0, .slice none 0 0] 42)) := ⟨_, rfl⟩
  have bV0 : Below w.heap.size w V0 := by rw [hV0]; (repeat (first | with_reducible exact Below.refl _ _ | with_reducible refine Below.alloc ?_ (by first | (simp <;> omega) | omega) _))
  have zV0 : w.heap.size + 2 ≤ V0.heap.size := by rw [hV0]; simp
  have PX : Bk3 V0 (w.heap.size) (.bool p.m) (.slice p.A p.n p.c) (.slice p.D p.k p.d) := by rw [hV0]; exact ((Bk3.newAt _ _ (by first | omega | (simp; done) | (simp; omega)) _ _ _ _).alloc _)
  have PR : Bk3 V0 (w.heap.size + 1) (.bool false) (.slice none 0 0) (.slice none 0 0) := by rw [hV0]; exact (Bk3.newAt _ _ (by first | omega | (simp; done) | (simp; omega)) _ _ _ _)
  rw [← hV0]
  clear hV0
  replace E := E.trans (bV0.mono E.size)
  replace HP1 := HP1.below bV0 (by omega)
  replace HP2 := HP2.below bV0 (by omega)
  clear bV0
  (with_reducible refine (qfloor_v _ B p pv d0.natAbs (qv_at HP1 HP2) (by omega) R1 R2 dp.out tp1.out tp2.out).mono ?_)
  rintro e w1 ⟨q1, r1, hf1, m1, A1, k1, c1, x1, v1, rfl, hd1, hr1, hs1, hb1⟩
  have sw1 := hb1.size
  replace PX := PX.below hb1 PX.lt
  replace PR := PR.below hb1 PR.lt
  replace E := E.trans (hb1.mono E.size)
  replace HP1 := HP1.below hb1 (by omega)
  replace HP2 := HP2.below hb1 (by omega)
  clear hb1
  have FL0 := Lib.hid (show FloorOf n0 d0 q1 r1 by rw [S1.out, sval_f, dn.out] at hf1; exact hf1)
  have R3 := Lib.hid hr1
  have S3 := Lib.hid hs1
  clear hf1 hr1 hs1
  go_wp2_with fail
  (with_reducible refine (qwhole_v _ w1.heap.size m1 A1 k1 c1 v1 x1 hd1 (Nat.le_refl _) R3).mono ?_)
  rintro e w2 ⟨f1, rfl, hf, hfi, hb2⟩
  have sw2 := hb2.size
  replace PX := PX.below hb2 PX.lt
  replace PR := PR.below hb2 PR.lt
  replace E := E.trans (hb2.mono E.size)
  replace HP1 := HP1.below hb2 (by omega)
  replace HP2 := HP2.below hb2 (by omega)
  replace hd1 := hd1.below hb2 (by omega)
  clear hb2
  have FI := Lib.hid (show f1.is q1 1 by have h9 := hfi; rw [S3.out] at h9; exact h9)
  have Hf1 : DRd w2 w2.heap.size f1.A f1.n f1.c f1.xs := hf.1
  have Hf2 : DRd w2 w2.heap.size f1.D f1.k f1.d f1.ys := hf.2
  clear hf hfi
  clear hd1
  go_wp2_with fail
  obtain ⟨V2, hV2⟩ : ∃ V2 : World, V2 = (w2.alloc (.cells #[.bool f1.m, .slice f1.A f1.n f1.c, .slice f1.D f1.k f1.d] 42)) := ⟨_, rfl⟩
  have bV2 : Below w2.heap.size w2 V2 := by rw [hV2]; (repeat (first | with_reducible exact Below.refl _ _ | with_reducible refine Below.alloc ?_ (by first | (simp <;> omega) | omega) _))
  have zV2 : w2.heap.size + 1 ≤ V2.heap.size := by rw [hV2]; simp
  have P5 : Bk3 V2 (w2.heap.size) (.bool f1.m) (.slice f1.A f1.n f1.c) (.slice f1.D f1.k f1.d) := by rw [hV2]; exact (Bk3.newAt _ _ (by first | omega | (simp; done) | (simp; omega)) _ _ _ _)
  rw [← hV2]
  clear hV2
  replace PX := PX.below bV2 PX.lt
  replace PR := PR.below bV2 PR.lt
  replace E := E.trans (bV2.mono E.size)
  replace HP1 := HP1.below bV2 (by omega)
  replace HP2 := HP2.below bV2 (by omega)
  replace Hf1 := Hf1.below bV2 (by omega)
  replace Hf2 := Hf2.below bV2 (by omega)
  clear bV2
  have EV := Lib.hid (And.intro E (And.intro PX (And.intro PR (And.intro HP1 HP2))))
  have P5s := Lib.hid P5
  have ltX := PX.lt
  have ltR := PR.lt
  have hf : f1.at V2 V2.heap.size := qv_at (Hf1.more (by omega)) (Hf2.more (by omega))
  clear E PX PR HP1 HP2 P5 Hf1 Hf2
  go_loopw [6] (fun s6 wx => NoRel V2 (w2.heap.size) m n0 d0 s6 wx) (fun s6 _ => m + 1 - (intOf s6).toNat)
  case atStart =>
    refine ⟨1, f1, q1, 1, rfl, by omega, by omega, P5s.out, hf, FI, ?_, ?_, Below.refl _ _⟩
    · refine Lib.hid (bst_init (r := r1) FL0.out.1 ?_ ?_)
      · rcases FL0.out.2 with g | g <;> omega
      · rcases FL0.out.2 with g | g <;> omega
    · refine Lib.hid ⟨.inr rfl, ?_⟩
      have h1 := fl_abs FL0.out (by omega)
      have h2 := HB.out.1
      omega
  case round =>
    obtain ⟨d, q, bp, bq, rfl, hd1, hdm, P5, hq, QI, BS, BQ, E0⟩ := hrel
    clear P5s hf FI R3 S3 FL0
    obtain ⟨Wo, hWo⟩ : ∃ y : World, y = wr := ⟨_, rfl⟩
    subst hWo
    have zE := E0.size
    have EW : Below w.heap.size w Wo := EV.out.1.trans (E0.mono (by omega))
    have PX : Bk3 Wo (w.heap.size) (.bool p.m) (.slice p.A p.n p.c) (.slice p.D p.k p.d) := EV.out.2.1.below E0 (by omega)
    have PR : Bk3 Wo (w.heap.size + 1) (.bool false) (.slice none 0 0) (.slice none 0 0) := EV.out.2.2.1.below E0 (by omega)
    have HP1 : DRd Wo B p.A p.n p.c p.xs := EV.out.2.2.2.1.below E0 (by omega)
    have HP2 : DRd Wo B p.D p.k p.d p.ys := EV.out.2.2.2.2.below E0 (by omega)
    have Hq1 : DRd Wo Wo.heap.size q.A q.n q.c q.xs := hq.1
    have Hq2 : DRd Wo Wo.heap.size q.D q.k q.d q.ys := hq.2
    have lt5 := P5.lt
    clear hq EV
    by_cases hk : m < d
    · as_aux_lemma =>
        have e4 : decide ((d : Int) ≤ (m : Int)) = false := decide_eq_false (by omega)
        have p0 := P5.c0
        have p1 := P5.c1
        have p2 := P5.c2
        have NE_ := Lib.hid (bst_end (m := (m : Int)) (by have h9 := BS.out; rw [show (d : Int) = (m : Int) + 1 by omega] at h9; exact h9) (by have := BQ.out.1; omega) hd0 (by omega) hg.out hmd.out)
        obtain ⟨r0, r1', r2, y0, y1', y2', ltr⟩ := PR
        go_wp2_with fail
        refine bodyPost_ret (v := refv q.m q.A q.n q.c q.D q.k q.d) (by simp [results, Tryz.results49, go_sem, r0, r1', r2]) rfl ?_
        rw [← NE_.out.1, ← NE_.out.2]
        refine ⟨q, rfl, ⟨?_, ?_⟩, QI.out, ?_⟩
        · exact DRd.more (DRd.set3k Hq1 (Nat.le_refl _) r0 r1' r2) (by simp [World.setCell])
        · exact DRd.more (DRd.set3k Hq2 (Nat.le_refl _) r0 r1' r2) (by simp [World.setCell])
        · (repeat (first | with_reducible exact EW | with_reducible refine Below.setCell ?_ (by first | (simp <;> omega) | omega) _))
    · have hdm' : d ≤ m := by omega
      have e4 : decide ((d : Int) ≤ (m : Int)) = true := decide_eq_true (by omega)
      clear hk
      go_upto_region 5 with fail
      clear e4
      have np := Lib.hid (show p.n ≤ 100000 from Nat.le_trans (tt_len R1.out tp1.out HP1.len.out) (by decide))
      have dT := Lib.hid (show d < TT from tx_lt (top_tx (by have := top_big (v := 1) (by decide); omega)))
      have ndT := Lib.hid (show (n0 * (d : Int)).natAbs < TT from by
        rw [Int.natAbs_mul, Int.natAbs_natCast]
        have h2 : n0.natAbs * d ≤ Top128 * 40 := Nat.mul_le_mul (Nat.le_of_lt HB.out.1) (by omega)
        exact tx_lt (top_tx (by omega)))
      go_cut [7] (fun sx wx => FlR Wo (n0 * (d : Int)) d0 sx wx)
      case first =>
        as_aux_lemma =>
          have lt_PX := PX.lt
          have HS := Lib.hid (fun (u : World) (hu : Below Wo.heap.size Wo u) => (⟨(hu.cell (p := ⟨w.heap.size, 0, none⟩) (by show w.heap.size < _; omega)).trans PX.c0, (hu.cell (p := ⟨w.heap.size, 1, none⟩) (by show w.heap.size < _; omega)).trans PX.c1, (hu.cell (p := ⟨w.heap.size, 2, none⟩) (by show w.heap.size < _; omega)).trans PX.c2⟩ : u.cell? ⟨w.heap.size, 0, none⟩ = some (.bool p.m) ∧ u.cell? ⟨w.heap.size, 1, none⟩ = some (.slice p.A p.n p.c) ∧ u.cell? ⟨w.heap.size, 2, none⟩ = some (.slice p.D p.k p.d)))
          have G0 : Below Wo.heap.size Wo Wo.drew := Below.drew (Below.refl _ _)
          clear E0 EW BS BQ QI P5 PR Hq1 Hq2
          go_region_held3 (fun u => u.cell? ⟨w.heap.size, 0, none⟩ = some (.bool p.m) ∧ u.cell? ⟨w.heap.size, 1, none⟩ = some (.slice p.A p.n p.c) ∧ u.cell? ⟨w.heap.size, 2, none⟩ = some (.slice p.D p.k p.d))
            (first | exact HS.out _ (by (repeat (first | with_reducible exact G0 | with_reducible exact B4 | with_reducible exact B3 | with_reducible exact B2 | with_reducible exact B1 | with_reducible exact Below.refl _ _ | with_reducible refine Below.drew ?_ | with_reducible refine Below.alloc ?_ (by first | (simp <;> omega) | omega) _ | with_reducible refine Below.setCell ?_ (by first | (simp <;> omega) | omega) _))) | fail)
            (first
              | (go_at_call 40; (with_reducible refine (small_any _ d (by omega)).mono ?_); rintro e u1 ⟨A1, k1, c1, y1, rfl, hd1, hr1, hb1⟩; have B1 : Below Wo.heap.size Wo u1 := (by refine bnext ?_ hb1; (repeat (first | with_reducible exact G0 | with_reducible exact B4 | with_reducible exact B3 | with_reducible exact B2 | with_reducible exact B1 | with_reducible exact Below.refl _ _ | with_reducible refine Below.drew ?_ | with_reducible refine Below.alloc ?_ (by first | (simp <;> omega) | omega) _ | with_reducible refine Below.setCell ?_ (by first | (simp <;> omega) | omega) _))); have b1s := B1.size; have Q1 := Lib.hid hr1; clear hr1; (first | (have F1 := nj2d hb1; obtain ⟨_, _, _, _, _⟩ := id F1) | (have F1 := nj2 hb1; obtain ⟨_, _, _, _, _⟩ := id F1) | skip))
              | (go_at_call 67; (with_reducible refine (rtimes_any _ u1.heap.size p.m false p.A A1 p.n k1 p.c c1 pv d p.xs y1 ((DRd.more (B := Wo.heap.size) (DRd.below (HP1.more (by omega)) (B' := Wo.heap.size) (by (repeat (first | with_reducible exact G0 | with_reducible exact B4 | with_reducible exact B3 | with_reducible exact B2 | with_reducible exact B1 | with_reducible exact Below.refl _ _ | with_reducible refine Below.drew ?_ | with_reducible refine Below.alloc ?_ (by first | (simp <;> omega) | omega) _ | with_reducible refine Below.setCell ?_ (by first | (simp <;> omega) | omega) _))) (Nat.le_refl _)) (by first | (simp <;> omega) | omega)).more b1s) (DRd.below hd1 (B' := u1.heap.size) (by (repeat (first | with_reducible exact Below.refl _ _ | with_reducible refine Below.drew ?_ | with_reducible refine Below.alloc ?_ (by first | (simp <;> omega) | omega) _))) (Nat.le_refl _)) (by first | (simp <;> omega) | omega) R1.out Q1.out np.out (Nat.le_trans (tt_len Q1.out dT.out hd1.len.out) (by decide))).mono ?_); rintro e u2 ⟨m2, A2, k2, c2, y2, v2, rfl, hd2, hr2, hs2, hb2⟩; have B2 : Below Wo.heap.size Wo u2 := (by refine bnext ?_ hb2; (repeat (first | with_reducible exact G0 | with_reducible exact B4 | with_reducible exact B3 | with_reducible exact B2 | with_reducible exact B1 | with_reducible exact Below.refl _ _ | with_reducible refine Below.drew ?_ | with_reducible refine Below.alloc ?_ (by first | (simp <;> omega) | omega) _ | with_reducible refine Below.setCell ?_ (by first | (simp <;> omega) | omega) _))); have b2s := B2.size; have K2 : Below u1.heap.size u1 u2 := (by refine bnext ?_ hb2; (repeat (first | with_reducible exact Below.refl _ _ | with_reducible refine Below.drew ?_ | with_reducible refine Below.alloc ?_ (by first | (simp <;> omega) | omega) _))); have Q2 := Lib.hid hr2; have T2 := Lib.hid (show sval m2 v2 = n0 * (d : Int) by rw [hs2, S1.out, sval_f]); clear hr2 hs2; (first | (have F2 := nj2d hb2; obtain ⟨_, _, _, _, _⟩ := id F2) | (have F2 := nj2 hb2; obtain ⟨_, _, _, _, _⟩ := id F2) | skip); (first | (have F1q := F1.below K2 F1.lt; obtain ⟨_, _, _, _, _⟩ := id F1q) | skip))
              | (go_at_call 37; (with_reducible refine (qfloor_v _ u2.heap.size (QV.mk m2 A2 k2 c2 y2 p.D p.k p.d p.ys) v2 d0.natAbs (qv_at (q := QV.mk m2 A2 k2 c2 y2 p.D p.k p.d p.ys) (DRd.below hd2 (B' := u2.heap.size) (by (repeat (first | with_reducible exact Below.refl _ _ | with_reducible refine Below.drew ?_ | with_reducible refine Below.alloc ?_ (by first | (simp <;> omega) | omega) _))) (Nat.le_refl _)) ((DRd.more (B := Wo.heap.size) (DRd.below (HP2.more (by omega)) (B' := Wo.heap.size) (by (repeat (first | with_reducible exact G0 | with_reducible exact B4 | with_reducible exact B3 | with_reducible exact B2 | with_reducible exact B1 | with_reducible exact Below.refl _ _ | with_reducible refine Below.drew ?_ | with_reducible refine Below.alloc ?_ (by first | (simp <;> omega) | omega) _ | with_reducible refine Below.setCell ?_ (by first | (simp <;> omega) | omega) _))) (Nat.le_refl _)) (by first | (simp <;> omega) | omega)).more b2s)) (by first | (simp <;> omega) | omega) Q2 R2 dp.out (by rw [← sval_abs m2 v2, T2.out]; exact ndT.out) tp2.out).mono ?_); rintro e u3 ⟨q3, r3, hf3, m3, A3, k3, c3, y3, v3, rfl, hd3, hr3, hs3, hb3⟩; have B3 : Below Wo.heap.size Wo u3 := (by refine bnext ?_ hb3; (repeat (first | with_reducible exact G0 | with_reducible exact B4 | with_reducible exact B3 | with_reducible exact B2 | with_reducible exact B1 | with_reducible exact Below.refl _ _ | with_reducible refine Below.drew ?_ | with_reducible refine Below.alloc ?_ (by first | (simp <;> omega) | omega) _ | with_reducible refine Below.setCell ?_ (by first | (simp <;> omega) | omega) _))); have b3s := B3.size; have K3 : Below u2.heap.size u2 u3 := (by refine bnext ?_ hb3; (repeat (first | with_reducible exact Below.refl _ _ | with_reducible refine Below.drew ?_ | with_reducible refine Below.alloc ?_ (by first | (simp <;> omega) | omega) _))); have Q3 := Lib.hid hr3; have T3 := Lib.hid hs3; have FX3 := Lib.hid (show FloorOf (n0 * (d : Int)) d0 q3 r3 by have h9 := hf3; rw [show sval (QV.mk m2 A2 k2 c2 y2 p.D p.k p.d p.ys).m v2 = n0 * (d : Int) from T2.out, sval_f, dn.out] at h9; exact h9); clear hf3 hr3 hs3; (first | (have F3 := nj2d hb3; obtain ⟨_, _, _, _, _⟩ := id F3) | (have F3 := nj2 hb3; obtain ⟨_, _, _, _, _⟩ := id F3) | skip); (first | (have F1qq := F1q.below K3 F1q.lt; obtain ⟨_, _, _, _, _⟩ := id F1qq) | skip); (first | (have F2q := F2.below K3 F2.lt; obtain ⟨_, _, _, _, _⟩ := id F2q) | skip))
              | fail)
          all_goals (go_wp2_with fail)
          all_goals go_meet
          all_goals first
            | with_reducible exact flr_mk FX3 (id_a hd3 Q3 T3 B3)
            | with_reducible exact flr_mk FX3 (id_o hd3 Q3 T3 B3 (by with_reducible assumption) (by omega))
            | fail
      case rest =>
      obtain ⟨low, r, FO, g7, m7, A7, k7, c7, x7, v7, rfl, P7, D7, R7, T7, hg7, hbX⟩ := hcut
      replace E0 : Below (w2.heap.size) V2 wc := E0.trans (hbX.mono (by omega))
      replace PX := PX.below hbX PX.lt
      replace PR := PR.below hbX PR.lt
      replace P5 := P5.below hbX P5.lt
      replace EW := EW.trans (hbX.mono EW.size)
      replace HP1 := HP1.below hbX (by omega)
      replace HP2 := HP2.below hbX (by omega)
      replace Hq1 := Hq1.below hbX (by omega)
      replace Hq2 := Hq2.below hbX (by omega)
      have sVi := hbX.size
      clear hbX
      obtain ⟨Vi, hVi⟩ : ∃ y : World, y = wc := ⟨_, rfl⟩
      subst hVi
      go_wp2_with fail
      have EVi := Lib.hid (And.intro E0 (And.intro PX (And.intro PR (And.intro HP1 (And.intro HP2 EW)))))
      have P5s := Lib.hid P5
      have P7s := Lib.hid P7
      have lt7 := P7.lt
      have hq : q.at Vi Vi.heap.size := qv_at (Hq1.more (by omega)) (Hq2.more (by omega))
      clear E0 PX PR HP1 HP2 EW P5 P7 Hq1 Hq2
      go_loopw [8] (fun s8 wx => NiRel Vi (w2.heap.size) g7 d n0 d0 low s8 wx) (fun s8 _ => 2 - (intOf s8).toNat)
      case atStart =>
        exact ⟨0, q, bp, bq, m7, A7, k7, c7, x7, v7, rfl, by omega, P5s.out, hq, QI, Lib.hid (sk_zero BS.out), Lib.hid BQ.out.2, P7s.out, D7, R7, Lib.hid (by rw [T7.out]; simp), Below.refl _ _⟩
      case round =>
        clear P5s P7s hq QI BS BQ D7 R7 T7
        obtain ⟨k, q, bp, bq, m7, A7, k7, c7, x7, v7, rfl, hk2, P5, hq, QI, BS, BQ, P7, D7, R7, T7, E0⟩ := hrel
        have zE2 := E0.size
        have PX : Bk3 wr (w.heap.size) (.bool p.m) (.slice p.A p.n p.c) (.slice p.D p.k p.d) := EVi.out.2.1.below E0 (by omega)
        have HP1 : DRd wr B p.A p.n p.c p.xs := EVi.out.2.2.2.1.below E0 (by omega)
        have HP2 : DRd wr B p.D p.k p.d p.ys := EVi.out.2.2.2.2.1.below E0 (by omega)
        have Hq1 : DRd wr wr.heap.size q.A q.n q.c q.xs := hq.1
        have Hq2 : DRd wr wr.heap.size q.D q.k q.d q.ys := hq.2
        have lt5' := P5.lt
        have lt7' := P7.lt
        clear hq
        by_cases hk : 2 ≤ k
        · as_aux_lemma =>
            have e4 : decide ((k : Int) < 2) = false := decide_eq_false (by omega)
            have BK := Lib.hid (show Bst n0 d0 (d : Int) (Sk 2 low) bp (bq : Int) by have h9 := BS.out; rw [show k = 2 by omega] at h9; exact h9)
            have QD := BK.out.qd
            have EW2 : Below (w2.heap.size) V2 wr := EVi.out.1.trans E0
            have hq : q.at wr wr.heap.size := qv_at Hq1 Hq2
            clear hk
            go_wp2_with fail
            go_roundw
            case rel => exact ⟨d + 1, q, bp, bq, by first | rfl | go_num, by omega, by omega, P5, hq, QI, Lib.hid (sk_next BK.out), Lib.hid ⟨by omega, BQ.out⟩, EW2⟩
            case measure => first | (simp [intOf]; done) | (simp [intOf]; omega)
        · have hk3 : k < 2 := by omega
          have e4 : decide ((k : Int) < 2) = true := decide_eq_true (by omega)
          clear hk hk2
          go_upto_region 9 with fail
          clear e4
          have tv7 := Lib.hid (show v7 < TT from by
            rw [← sval_abs m7 v7, T7.out]
            have h1 := fl_abs FO.out (by omega)
            rw [Int.natAbs_mul, Int.natAbs_natCast] at h1
            have h2 : n0.natAbs * d ≤ Top128 * 40 := Nat.mul_le_mul (Nat.le_of_lt HB.out.1) (by omega)
            have h4 := top_big (v := 1) (by decide)
            exact tx_lt (top_tx (by omega)))
          have n7 := Lib.hid (show k7 ≤ 100000 from Nat.le_trans (tt_len R7.out tv7.out D7.len.out) (by decide))
          have dpos := Lib.hid (show 0 < d by omega)
          go_cut [9] (fun sx wx => LwR wr (low + (k : Int)) d sx wx)
          case first =>
            as_aux_lemma =>
              have lt_P7 := P7.lt
              have HS := Lib.hid (fun (u : World) (hu : Below wr.heap.size wr u) => (⟨(hu.cell (p := ⟨g7, 0, none⟩) (by show g7 < _; omega)).trans P7.c0, (hu.cell (p := ⟨g7, 1, none⟩) (by show g7 < _; omega)).trans P7.c1⟩ : u.cell? ⟨g7, 0, none⟩ = some (.bool m7) ∧ u.cell? ⟨g7, 1, none⟩ = some (.slice A7 k7 c7)))
              have G0 : Below wr.heap.size wr wr.drew := Below.drew (Below.refl _ _)
              clear E0 EVi BS BQ QI P5 PX HP1 HP2 Hq1 Hq2
              go_region_held3 (fun u => u.cell? ⟨g7, 0, none⟩ = some (.bool m7) ∧ u.cell? ⟨g7, 1, none⟩ = some (.slice A7 k7 c7))
                (first | exact HS.out _ (by (repeat (first | with_reducible exact G0 | with_reducible exact B4 | with_reducible exact B3 | with_reducible exact B2 | with_reducible exact B1 | with_reducible exact Below.refl _ _ | with_reducible refine Below.drew ?_ | with_reducible refine Below.alloc ?_ (by first | (simp <;> omega) | omega) _ | with_reducible refine Below.setCell ?_ (by first | (simp <;> omega) | omega) _))) | fail)
                (first
                  | (go_at_call 40; (with_reducible refine (small_any _ d (by omega)).mono ?_); rintro e u1 ⟨A1, k1, c1, y1, rfl, hd1, hr1, hb1⟩; have B1 : Below wr.heap.size wr u1 := (by refine bnext ?_ hb1; (repeat (first | with_reducible exact G0 | with_reducible exact B4 | with_reducible exact B3 | with_reducible exact B2 | with_reducible exact B1 | with_reducible exact Below.refl _ _ | with_reducible refine Below.drew ?_ | with_reducible refine Below.alloc ?_ (by first | (simp <;> omega) | omega) _ | with_reducible refine Below.setCell ?_ (by first | (simp <;> omega) | omega) _))); have b1s := B1.size; have Q1 := Lib.hid hr1; clear hr1; (first | (have F1 := nq3d hb1; obtain ⟨_, _, _, _, _, _, _⟩ := id F1) | (have F1 := nq3 hb1; obtain ⟨_, _, _, _, _, _, _⟩ := id F1) | skip))
                  | (go_at_call 31; (with_reducible refine (lowest_v _ u1.heap.size (QV.mk m7 A7 k7 c7 x7 A1 k1 c1 y1) v7 d (qv_at (q := (QV.mk m7 A7 k7 c7 x7 A1 k1 c1 y1)) ((DRd.more (B := wr.heap.size) (DRd.below (D7.more (by omega)) (B' := wr.heap.size) (by (repeat (first | with_reducible exact G0 | with_reducible exact B4 | with_reducible exact B3 | with_reducible exact B2 | with_reducible exact B1 | with_reducible exact Below.refl _ _ | with_reducible refine Below.drew ?_ | with_reducible refine Below.alloc ?_ (by first | (simp <;> omega) | omega) _ | with_reducible refine Below.setCell ?_ (by first | (simp <;> omega) | omega) _))) (Nat.le_refl _)) (by first | (simp <;> omega) | omega)).more b1s) (DRd.below hd1 (B' := u1.heap.size) (by (repeat (first | with_reducible exact Below.refl _ _ | with_reducible refine Below.drew ?_ | with_reducible refine Below.alloc ?_ (by first | (simp <;> omega) | omega) _))) (Nat.le_refl _))) (by first | (simp <;> omega) | omega) R7 Q1 dpos n7.out (Nat.le_trans (tt_len Q1.out dT.out hd1.len.out) (by decide))).mono ?_); rintro e u2 ⟨yn, yw, hlo, q2, rfl, hq2, hqi, hb2⟩; have B2 : Below wr.heap.size wr u2 := (by refine bnext ?_ hb2; (repeat (first | with_reducible exact G0 | with_reducible exact B4 | with_reducible exact B3 | with_reducible exact B2 | with_reducible exact B1 | with_reducible exact Below.refl _ _ | with_reducible refine Below.drew ?_ | with_reducible refine Below.alloc ?_ (by first | (simp <;> omega) | omega) _ | with_reducible refine Below.setCell ?_ (by first | (simp <;> omega) | omega) _))); have b2s := B2.size; have K2 : Below u1.heap.size u1 u2 := (by refine bnext ?_ hb2; (repeat (first | with_reducible exact Below.refl _ _ | with_reducible refine Below.drew ?_ | with_reducible refine Below.alloc ?_ (by first | (simp <;> omega) | omega) _))); have L2 := Lib.hid (show LowOf (low + (k : Int)) d yn yw from by have h9 := hlo; rw [show sval (QV.mk m7 A7 k7 c7 x7 A1 k1 c1 y1).m v7 = low + (k : Int) from T7.out] at h9; exact h9); have A2 : q2.at u2 u2.heap.size := hq2; have I2 := Lib.hid hqi; clear hlo hq2 hqi; (first | (have F2 := nq3d hb2; obtain ⟨_, _, _, _, _, _, _⟩ := id F2) | (have F2 := nq3 hb2; obtain ⟨_, _, _, _, _, _, _⟩ := id F2) | skip); (first | (have F1q := F1.below K2 F1.lt; obtain ⟨_, _, _, _, _, _, _⟩ := id F1q) | skip))
                  | fail)
              all_goals (go_wp2_with fail)
              all_goals go_meet
              all_goals first
                | with_reducible exact lwr_mk L2 (lf_a A2 I2 B2)
                | with_reducible exact lwr_mk L2 (lf_o A2 I2 B2 (by with_reducible assumption) (by omega))
                | fail
          case rest =>
          obtain ⟨yn, yw, LY, g9, y, rfl, P9, HY, IY, hg9, hbX⟩ := hcut
          replace E0 : Below (w2.heap.size) Vi wc := E0.trans (hbX.mono (by omega))
          replace PX := PX.below hbX PX.lt
          replace P5 := P5.below hbX P5.lt
          replace P7 := P7.below hbX P7.lt
          replace D7 := D7.below hbX (by omega)
          replace HP1 := HP1.below hbX (by omega)
          replace HP2 := HP2.below hbX (by omega)
          replace Hq1 := Hq1.below hbX (by omega)
          replace Hq2 := Hq2.below hbX (by omega)
          have sVs := hbX.size
          clear hbX
          obtain ⟨Vs, hVs⟩ : ∃ y : World, y = wc := ⟨_, rfl⟩
          subst hVs
          have Hy1 : DRd Vs Vs.heap.size y.A y.n y.c y.xs := HY.1
          have Hy2 : DRd Vs Vs.heap.size y.D y.k y.d y.ys := HY.2
          clear HY
          obtain ⟨vy, i1, i2, i3⟩ := IY.out
          have RY1 := Lib.hid i1
          have SY := Lib.hid i2
          have RY2 := Lib.hid i3
          clear i1 i2 i3
          obtain ⟨vb, i1, i2, i3⟩ := QI.out
          have RB1 := Lib.hid i1
          have SB := Lib.hid i2
          have RB2 := Lib.hid i3
          clear i1 i2 i3
          have YB := Lib.hid (yn_bd FO.out hd0 HB.out.1 (by omega) hk3 LY.out)
          have ty1 := Lib.hid (show yn.natAbs < TX from top_tx YB.out)
          have ty2 := Lib.hid (show yw < TX from top_tx (by have := LY.out.2.2.2.2; have := top_big (v := 1) (by decide); omega))
          have tb1 := Lib.hid (show bp.natAbs < TX from top_tx BQ.out)
          have tb2 := Lib.hid (show bq < TX from top_tx (by have := BS.out.qd; have := top_big (v := 1) (by decide); omega))
          have tn0 := Lib.hid (show n0.natAbs < TX from top_tx (by have := HB.out.1; omega))
          have td0 := Lib.hid (show d0.natAbs < TX from top_tx (by have := HB.out.2; omega))
          have yw1 := Lib.hid (show 0 < yw from LY.out.2.1)
          have bq1 := Lib.hid (show 0 < bq by have := BS.out.q1; omega)
          go_upto_region 10 with fail
          obtain ⟨tk, htk⟩ : ∃ b : Bool, b = decide (dist n0 ((d0.natAbs : Nat) : Int) yn ((yw : Nat) : Int) * ((bq : Nat) : Int) < dist n0 ((d0.natAbs : Nat) : Int) bp ((bq : Nat) : Int) * ((yw : Nat) : Int)) := ⟨_, rfl⟩
          have TK := Lib.hid htk
          clear htk
          go_cut [46] (fun s wx => s = .bool tk ∧ Below Vs.heap.size Vs wx)
          case first =>
            as_aux_lemma =>
              clear E0 EVi D7 P7
              have lt_PX := PX.lt
              have lt_P9 := P9.lt
              have lt_P5 := P5.lt
              have HS := Lib.hid (fun (u : World) (hu : Below (Vs.heap.size) Vs u) => (⟨(hu.cell (p := ⟨w.heap.size, 0, none⟩) (by show w.heap.size < _; omega)).trans PX.c0, (hu.cell (p := ⟨w.heap.size, 1, none⟩) (by show w.heap.size < _; omega)).trans PX.c1, (hu.cell (p := ⟨w.heap.size, 2, none⟩) (by show w.heap.size < _; omega)).trans PX.c2, (hu.cell (p := ⟨g9, 0, none⟩) (by show g9 < _; omega)).trans P9.c0, (hu.cell (p := ⟨g9, 1, none⟩) (by show g9 < _; omega)).trans P9.c1, (hu.cell (p := ⟨g9, 2, none⟩) (by show g9 < _; omega)).trans P9.c2, (hu.cell (p := ⟨w2.heap.size, 0, none⟩) (by show w2.heap.size < _; omega)).trans P5.c0, (hu.cell (p := ⟨w2.heap.size, 1, none⟩) (by show w2.heap.size < _; omega)).trans P5.c1, (hu.cell (p := ⟨w2.heap.size, 2, none⟩) (by show w2.heap.size < _; omega)).trans P5.c2⟩ : u.cell? ⟨w.heap.size, 0, none⟩ = some (.bool p.m) ∧ u.cell? ⟨w.heap.size, 1, none⟩ = some (.slice p.A p.n p.c) ∧ u.cell? ⟨w.heap.size, 2, none⟩ = some (.slice p.D p.k p.d) ∧ u.cell? ⟨g9, 0, none⟩ = some (.bool y.m) ∧ u.cell? ⟨g9, 1, none⟩ = some (.slice y.A y.n y.c) ∧ u.cell? ⟨g9, 2, none⟩ = some (.slice y.D y.k y.d) ∧ u.cell? ⟨w2.heap.size, 0, none⟩ = some (.bool q.m) ∧ u.cell? ⟨w2.heap.size, 1, none⟩ = some (.slice q.A q.n q.c) ∧ u.cell? ⟨w2.heap.size, 2, none⟩ = some (.slice q.D q.k q.d)))
              have G0 : Below Vs.heap.size Vs Vs.drew := Below.drew (Below.refl _ _)
              have g0s := G0.size
              have G0m : Below (Vs.heap.size) Vs Vs.drew := G0.mono (by omega)
              go_region_held3 (fun u => u.cell? ⟨w.heap.size, 0, none⟩ = some (.bool p.m) ∧ u.cell? ⟨w.heap.size, 1, none⟩ = some (.slice p.A p.n p.c) ∧ u.cell? ⟨w.heap.size, 2, none⟩ = some (.slice p.D p.k p.d) ∧ u.cell? ⟨g9, 0, none⟩ = some (.bool y.m) ∧ u.cell? ⟨g9, 1, none⟩ = some (.slice y.A y.n y.c) ∧ u.cell? ⟨g9, 2, none⟩ = some (.slice y.D y.k y.d) ∧ u.cell? ⟨w2.heap.size, 0, none⟩ = some (.bool q.m) ∧ u.cell? ⟨w2.heap.size, 1, none⟩ = some (.slice q.A q.n q.c) ∧ u.cell? ⟨w2.heap.size, 2, none⟩ = some (.slice q.D q.k q.d)) (first | (refine HS.out _ ?_; (repeat (first | with_reducible exact G0m | with_reducible exact BN.mono (by omega) | with_reducible exact B4.mono (by omega) | with_reducible exact B3.mono (by omega) | with_reducible exact B2.mono (by omega) | with_reducible exact B1.mono (by omega) | with_reducible exact Below.refl _ _ | with_reducible refine Below.drew ?_ | with_reducible refine below_drewN ?_ _ | with_reducible refine Below.setCell ?_ (by first | (simp <;> omega) | omega) _)); done) | fail)
                (first
                  | (go_at_call 21; (with_reducible refine (qless_v _ Vs.heap.size p y pv vy d0.natAbs yw (qv_at ((DRd.below HP1 G0 (by omega)).more (by omega)) ((DRd.below HP2 G0 (by omega)).more (by omega))) (qv_at ((DRd.below Hy1 G0 (by omega)).more (by omega)) ((DRd.below Hy2 G0 (by omega)).more (by omega))) (by first | exact Nat.le_refl _ | omega) R1 R2 RY1 RY2 tp1.out tp2.out (tx_lt (nsv_lt SY.out ty1.out)) (tx_lt ty2.out) (Lib.hid (Nat.mul_pos dp.out yw1.out))).mono ?_); rintro e u1 ⟨a1, e1, hlo, q1, rfl, ha, ⟨z1, h1, h2, h3⟩, hb1⟩; have L1 := Lib.hid (nless_is hlo S1.out SY.out); have O1 := Lib.hid h1; have T1 := Lib.hid h2; have U1 := Lib.hid h3; have A1x : DRd u1 u1.heap.size q1.A q1.n q1.c q1.xs := ha.1; have A1y : DRd u1 u1.heap.size q1.D q1.k q1.d q1.ys := ha.2; clear hlo h1 h2 h3 ha; have B1 : Below Vs.heap.size Vs u1 := bnext G0 hb1; have b1s := B1.size)
                  | (go_at_call 98; (with_reducible refine (qabs_v _ u1.heap.size q1 z1 e1 (qv_at A1x A1y) (Nat.le_refl _) O1 U1).mono ?_); rintro e u2 ⟨q2, rfl, ha, ⟨z2, h1, h2, h3⟩, hb2⟩; have O2 := Lib.hid h1; have T2 := Lib.hid (nabs_is h2 T1.out); have U2 := Lib.hid h3; have A2x : DRd u2 u2.heap.size q2.A q2.n q2.c q2.xs := ha.1; have A2y : DRd u2 u2.heap.size q2.D q2.k q2.d q2.ys := ha.2; clear h1 h2 h3 ha; have B2 : Below Vs.heap.size Vs u2 := bnext B1 hb2; have b2s := B2.size)
                  | (go_at_call 21; (with_reducible refine (qless_v _ u2.heap.size p q pv vb d0.natAbs bq (qv_at ((DRd.below HP1 B2 (by omega)).more (by omega)) ((DRd.below HP2 B2 (by omega)).more (by omega))) (qv_at ((DRd.below Hq1 B2 (by omega)).more (by omega)) ((DRd.below Hq2 B2 (by omega)).more (by omega))) (by first | exact Nat.le_refl _ | omega) R1 R2 RB1 RB2 tp1.out tp2.out (tx_lt (nsv_lt SB.out tb1.out)) (tx_lt tb2.out) (Lib.hid (Nat.mul_pos dp.out bq1.out))).mono ?_); rintro e u3 ⟨a3, e3, hlo, q3, rfl, ha, ⟨z3, h1, h2, h3⟩, hb3⟩; have L3 := Lib.hid (nless_is hlo S1.out SB.out); have O3 := Lib.hid h1; have T3 := Lib.hid h2; have U3 := Lib.hid h3; have A3x : DRd u3 u3.heap.size q3.A q3.n q3.c q3.xs := ha.1; have A3y : DRd u3 u3.heap.size q3.D q3.k q3.d q3.ys := ha.2; clear hlo h1 h2 h3 ha; have B3 : Below Vs.heap.size Vs u3 := bnext B2 hb3; have b3s := B3.size; have A2x3 := (A2x.below hb3 (Nat.le_refl _)).more hb3.size; have A2y3 := (A2y.below hb3 (Nat.le_refl _)).more hb3.size)
                  | (go_at_call 98; (with_reducible refine (qabs_v _ u3.heap.size q3 z3 e3 (qv_at A3x A3y) (Nat.le_refl _) O3 U3).mono ?_); rintro e u4 ⟨q4, rfl, ha, ⟨z4, h1, h2, h3⟩, hb4⟩; have O4 := Lib.hid h1; have T4 := Lib.hid (nabs_is h2 T3.out); have U4 := Lib.hid h3; have A4x : DRd u4 u4.heap.size q4.A q4.n q4.c q4.xs := ha.1; have A4y : DRd u4 u4.heap.size q4.D q4.k q4.d q4.ys := ha.2; clear h1 h2 h3 ha; have B4 : Below Vs.heap.size Vs u4 := bnext B3 hb4; have b4s := B4.size; have A2x4 := (A2x3.below hb4 (Nat.le_refl _)).more hb4.size; have A2y4 := (A2y3.below hb4 (Nat.le_refl _)).more hb4.size)
                  | (go_at_call 19; (with_reducible refine (qorder_v _ u4.heap.size q2 q4 z2 z4 e1 e3 (qv_at A2x4 A2y4) (qv_at A4x A4y) (Nat.le_refl _) O2 U2 O4 U4 (nlow_bd L1.out T2.out td0.out ty2.out tn0.out ty1.out).1 (nlow_bd L1.out T2.out td0.out ty2.out tn0.out ty1.out).2 (nlow_bd L3.out T4.out td0.out tb2.out tn0.out tb1.out).1 (nlow_bd L3.out T4.out td0.out tb2.out tn0.out tb1.out).2).mono ?_); rintro e u5 ⟨r5, hic, rfl, hb5⟩; have e5 := Lib.hid ((ndec hic T2.out T4.out L1.out L3.out dp.out yw1.out bq1.out).trans TK.out.symm); clear hic; have BN : Below Vs.heap.size Vs u5 := bnext B4 hb5)
                  | fail)
              all_goals (go_wp2_with fail)
              all_goals go_meet
              all_goals exact ⟨by rw [e5.out], BN⟩
          case rest =>
          obtain ⟨rfl, hbX⟩ := hcut
          replace E0 : Below (w2.heap.size) Vi wc := E0.trans (hbX.mono (by omega))
          replace PX := PX.below hbX PX.lt
          replace P5 := P5.below hbX P5.lt
          replace P9 := P9.below hbX P9.lt
          replace P7 := P7.below hbX P7.lt
          replace D7 := D7.below hbX (by omega)
          replace HP1 := HP1.below hbX (by omega)
          replace HP2 := HP2.below hbX (by omega)
          replace Hq1 := Hq1.below hbX (by omega)
          replace Hq2 := Hq2.below hbX (by omega)
          replace Hy1 := Hy1.below hbX (by omega)
          replace Hy2 := Hy2.below hbX (by omega)
          have sVt := hbX.size
          clear hbX
          obtain ⟨Vt, hVt⟩ : ∃ y : World, y = wc := ⟨_, rfl⟩
          subst hVt
          have STP := Lib.hid (sk_step (y1 := yn) (y2 := ((yw : Nat) : Int)) BS.out hk3 (by omega) FO.out hd0 LY.out.1 (by have := yw1.out; omega) (by have := LY.out.2.2.2.2; omega) LY.out.2.2.1)
          have TK2 := Lib.hid (show tk = decide (dist n0 d0 yn ((yw : Nat) : Int) * ((bq : Nat) : Int) < dist n0 d0 bp ((bq : Nat) : Int) * ((yw : Nat) : Int)) by have h9 := TK.out; rw [dn.out] at h9; exact h9)
          clear TK
          go_upto_if 46 with fail
          go_cut [] (fun wx => NbR Vt (w2.heap.size) g7 d k n0 d0 low wx)
          case first =>
            as_aux_lemma =>
              clear E0
              have E0 : Below (w2.heap.size) Vt Vt := Below.refl _ _
              cases tk
              · have BS2 := Lib.hid (STP.out.2 (of_decide_eq_false TK2.out.symm))
                go_wp2_with fail
                go_meet
                exact ⟨q, bp, bq, m7, A7, k7, c7, x7, v7, P5, qv_at (Hq1.more (by omega)) (Hq2.more (by omega)), QI, BS2, BQ, P7, D7.more (by omega), R7, T7, E0⟩
              · clear Hq1 Hq2
                have BS2 := Lib.hid (STP.out.1 (of_decide_eq_true TK2.out.symm))
                have t0 := P9.c0
                have t1 := P9.c1
                have t2 := P9.c2
                have lt9 := P9.lt
                have y_P50 := P5.c0
                have z_P50 := P5.z0
                have y_P51 := P5.c1
                have z_P51 := P5.z1
                have y_P52 := P5.c2
                have z_P52 := P5.z2
                have lt_P5 := P5.lt
                go_wp2_with fail
                clear y_P50 z_P50 y_P51 z_P51 y_P52 z_P52 lt_P5
                obtain ⟨U0P5, hU0P5⟩ : ∃ U0P5 : World, U0P5 = (((Vt.setCell ⟨w2.heap.size, 0, none⟩ (.bool y.m)).setCell ⟨w2.heap.size, 1, none⟩ (.slice y.A y.n y.c)).setCell ⟨w2.heap.size, 2, none⟩ (.slice y.D y.k y.d)) := ⟨_, rfl⟩
                have zU0P5 : U0P5.heap.size = Vt.heap.size := by rw [hU0P5]; simp [World.setCell]
                replace P7 : Bk2 U0P5 (g7) (.bool m7) (.slice A7 k7 c7) := by rw [hU0P5]; exact P7.far3 (by omega) _ _ _
                replace D7 : DRd U0P5 (wr.heap.size) A7 k7 c7 x7 := by rw [hU0P5]; exact D7.set3m P5 _ _ _
                replace Hy1 : DRd U0P5 (Vs.heap.size) y.A y.n y.c y.xs := by rw [hU0P5]; exact Hy1.set3m P5 _ _ _
                replace Hy2 : DRd U0P5 (Vs.heap.size) y.D y.k y.d y.ys := by rw [hU0P5]; exact Hy2.set3m P5 _ _ _
                replace E0 : Below (w2.heap.size) Vt U0P5 := by rw [hU0P5]; exact (((E0.setCell (by first | (simp; done) | (simp; omega)) _).setCell (by first | (simp; done) | (simp; omega)) _).setCell (by first | (simp; done) | (simp; omega)) _)
                replace P5 : Bk3 U0P5 (w2.heap.size) (.bool y.m) (.slice y.A y.n y.c) (.slice y.D y.k y.d) := by rw [hU0P5]; exact P5.put _ _ _
                rw [← hU0P5]
                clear hU0P5
                have zU0P5' := Nat.le_of_eq zU0P5
                replace zU0P5 := Nat.le_of_eq zU0P5.symm
                go_meet
                exact ⟨y, yn, yw, m7, A7, k7, c7, x7, v7, P5, qv_at (Hy1.more (by omega)) (Hy2.more (by omega)), IY, BS2, YB, P7, D7.more (by omega), R7, T7, E0⟩
          case rest =>
          clear P5 P7 P9 D7 Hq1 Hq2 Hy1 Hy2 R7 T7 QI BS BQ RY1 SY RY2 RB1 SB RB2 ty1 ty2 tb1 tb2 yw1 bq1 YB STP TK2 IY LY n7 tv7 PX HP1 HP2
          obtain ⟨q, bp, bq, m7, A7, k7, c7, x7, v7, P5, hq, QI, BS, BQ, P7, D7, R7, T7, hbX⟩ := hcut
          have sVu := hbX.size
          have E1 : Below (w2.heap.size) Vi wc := E0.trans hbX
          clear hbX E0
          obtain ⟨Vu, hVu⟩ : ∃ y : World, y = wc := ⟨_, rfl⟩
          subst hVu
          have tv7 := Lib.hid (show v7 < TT from by
            rw [← sval_abs m7 v7, T7.out]
            have h1 := fl_abs FO.out (by omega)
            rw [Int.natAbs_mul, Int.natAbs_natCast] at h1
            have h2 : n0.natAbs * d ≤ Top128 * 40 := Nat.mul_le_mul (Nat.le_of_lt HB.out.1) (by omega)
            have h4 := top_big (v := 1) (by decide)
            exact tx_lt (top_tx (by omega)))
          have hne : g7 ≠ w2.heap.size := by omega
          go_upto_region 12 with fail
          have G0 : Below Vu.heap.size Vu Vu.drew := Below.drew (Below.refl _ _)
          obtain ⟨_, _, _, _, _⟩ := id P7
          go_region_with (first
            | (go_at_call 39; (with_reducible refine (number_any _ (1) (by decide) (by decide)).mono ?_); rintro e u1 ⟨m5, A5, k5, c5, y5, v5, rfl, hd5, hr5, hv5, hb5⟩; have B1 : Below Vu.heap.size Vu u1 := bnext G0 hb5; have b1s := B1.size; have R6 := Lib.hid hr5; have T6 := Lib.hid hv5; clear hr5 hv5; obtain ⟨_, _, _, _, _⟩ := P7.below B1 P7.lt)
            | (go_at_call 41; (with_reducible refine (rplus_any _ u1.heap.size m7 m5 A7 A5 k7 k5 c7 c5 v7 v5 x7 y5 (DRd.below D7 B1 (Nat.le_refl _) |>.more (by omega)) hd5 (Nat.le_refl _) R7.out R6.out (Nat.le_trans (tt_len R7.out tv7.out D7.len.out) (by decide)) (Nat.le_trans (tt_len R6.out (one_ltx T6.out) hd5.len.out) (by decide))).mono ?_); rintro e u2 ⟨m9, A9, k9, c9, x9, v9, rfl, hd9, hr9, hs9, hb9⟩; have BN : Below Vu.heap.size Vu u2 := bnext B1 hb9; have b2s := BN.size; have R9 := Lib.hid hr9; have S9 := Lib.hid (show sval m9 v9 = low + ((k + 1 : Nat) : Int) by rw [hs9, T7.out, T6.out]; omega); clear hr9 hs9; have P7q := P7.below BN P7.lt; have P5q := P5.below BN P5.lt; have hqq := QV.at.below hq BN; obtain ⟨_, _, _, _, _⟩ := id P7q)
            | fail)
          all_goals (go_wp2_with fail)
          all_goals
            go_roundw
            case rel => first | exact ⟨k + 1, q, bp, bq, m9, A9, k9, c9, x9, v9, by first | rfl | go_num, by omega, Bk3.far2b P5q hne _ _, QV.at.setB hqq P7q (by simp) (by simp) _ _, QI, BS, BQ, P7q.set _ _, DRd.more (hd9.setBD P7q (by simp) (by simp) _ _) (by simp [World.setCell]), R9, S9, ((E1.trans (BN.mono (by omega))).setCell (p := ⟨g7, 0, none⟩) (by show w2.heap.size ≤ g7; omega) _).setCell (p := ⟨g7, 1, none⟩) (by show w2.heap.size ≤ g7; omega) _⟩ | ((repeat apply Exists.intro); exact ⟨⟨k + 1, q, bp, bq, m9, A9, k9, c9, x9, v9, by first | rfl | go_num, by omega, Bk3.far2b P5q hne _ _, QV.at.setB hqq P7q (by simp) (by simp) _ _, QI, BS, BQ, P7q.set _ _, DRd.more (hd9.setBD P7q (by simp) (by simp) _ _) (by simp [World.setCell]), R9, S9, ((E1.trans (BN.mono (by omega))).setCell (p := ⟨g7, 0, none⟩) (by show w2.heap.size ≤ g7; omega) _).setCell (p := ⟨g7, 1, none⟩) (by show w2.heap.size ≤ g7; omega) _⟩, rfl⟩)
            case measure => first | (simp [intOf]; done) | (simp [intOf]; omega)
end Go.Proofs.YtfgkhdpdjclmkaaGreat
