/- The program's operations on ratios: a fault. The program's Make. The program's further. The program's Text of a ratio. -/
import Derived.Test.YtfgkhdpdjclmkaaGreatBn
import Derived.Test.YtfgkhdpdjclmkaaGreatBg
import Derived.Test.YtfgkhdpdjclmkaaGreatBk
namespace Go.Proofs.YtfgkhdpdjclmkaaGreat
open Go.RowKit
set_option maxHeartbeats 400000
set_option maxRecDepth 100000
set_option linter.unusedSimpArgs false
set_option linter.unusedVariables false
theorem iv_at {w : World} {B : Nat} {a : IV} (h : LRd w B a.A a.n a.c a.xs) : a.at w B := h
theorem IV.lt128 {a : IV} (oa : a.ok = true) (hl : Lim a.xs) : a.val.natAbs < Top128 := by
  show (sval a.neg (vb 4294967296 a.xs)).natAbs < _
  rw [sval_abs]
  exact _root_.Go.Proofs.YtfgkhdpdjclmkaaGreat.lt128 (⟨hl, rfl, (vld_top (IV.vld oa).1).1⟩ : Rep 4294967296 a.xs _) rfl (IV.vld oa).2
set_option maxHeartbeats 8000000 in
theorem rmake_ok (w : World) (B : Nat) (a b : IV) (HA : a.at w B) (HB : b.at w B) (hB : B ≤ w.heap.size) (oa : a.ok = true) (ob : b.ok = true) (hz : b.val ≠ 0) :
    Calls Tryz.prog 26 #[a.v, b.v] w (GivesQuo w (decide (a.val < 0) != decide (b.val < 0)) (a.val).natAbs (b.val).natAbs) := by
  replace HA : LRd w B a.A a.n a.c a.xs := HA
  replace HB : LRd w B b.A b.n b.c b.xs := HB
  have iB : IRep b.neg b.xs b.val := IV.irep ob HB.lim
  have hl9 := HB.len.out
  have hl0 : b.xs.length ≠ 0 := fun h => hz ((IRep.len0 iB).1 h)
  have hz9 : decide (b.n = 0) = false := by rw [decide_eq_false_iff_not]; omega
  have IA := Lib.hid (IV.irep oa HA.lim)
  have IB := Lib.hid iB
  have b1 := Lib.hid (top_big1 (IV.lt128 oa HA.lim))
  have b2 := Lib.hid (top_big1 (IV.lt128 ob HB.lim))
  have d0 := Lib.hid hz
  clear iB hl9 hl0 hz
  obtain ⟨za, hza⟩ : ∃ z, z = a.val := ⟨_, rfl⟩
  obtain ⟨zb, hzb⟩ : ∃ z, z = b.val := ⟨_, rfl⟩
  rw [← hza] at IA b1 ⊢
  rw [← hzb] at IB b2 d0 ⊢
  clear hza hzb
  have E : Below w.heap.size w w := Below.refl _ _
  go_enter Tryz.func26, Tryz.ntmps26
  go_wp2_with fail
  obtain ⟨V0, hV0⟩ : ∃ V0 : World, V0 = ((((w.alloc (.cells #[.bool a.neg, .slice a.A a.n a.c] 24)).alloc (.cells #[.bool b.neg, .slice b.A b.n b.c] 24)).alloc (.cells #[.bool false, .slice none 0 0, .bool false, .slice none 0 0] 26)).alloc (.cells #[.int .i64 0, .int .i64 0] 28)) := ⟨_, rfl⟩
  have bV0 : Below w.heap.size w V0 := by rw [hV0]; (repeat (first | with_reducible exact Below.refl _ _ | with_reducible refine Below.alloc ?_ (by first | (simp <;> omega) | omega) _))
  have zV0 : w.heap.size + 4 ≤ V0.heap.size := by rw [hV0]; simp
  have PA : Bk2 V0 (w.heap.size) (.bool a.neg) (.slice a.A a.n a.c) := by rw [hV0]; exact ((((Bk2.newAt _ _ (by first | omega | (simp; done) | (simp; omega)) _ _ _).alloc _).alloc _).alloc _)
  have PB : Bk2 V0 (w.heap.size + 1) (.bool b.neg) (.slice b.A b.n b.c) := by rw [hV0]; exact (((Bk2.newAt _ _ (by first | omega | (simp; done) | (simp; omega)) _ _ _).alloc _).alloc _)
  have PR : Bk4 V0 (w.heap.size + 2) (.bool false) (.slice none 0 0) (.bool false) (.slice none 0 0) := by rw [hV0]; exact ((Bk4.newAt _ _ (by first | omega | (simp; done) | (simp; omega)) _ _ _ _ _).alloc _)
  have PF : Bk2 V0 (w.heap.size + 3) (.int .i64 0) (.int .i64 0) := by rw [hV0]; exact (Bk2.newAt _ _ (by first | omega | (simp; done) | (simp; omega)) _ _ _)
  rw [← hV0]
  clear hV0
  replace E := E.trans (bV0.mono E.size)
  replace HA := HA.below bV0 (by omega)
  replace HB := HB.below bV0 (by omega)
  clear bV0
  (with_reducible refine (igcd_ok _ B a b (iv_at HA) (iv_at HB) (by omega) oa ob).mono ?_)
  rintro e w5 ⟨m5, A5, k5, c5, x5, rfl, hl5, hr5, hb5⟩
  have sw5 := hb5.size
  replace E := E.trans (hb5.mono E.size)
  replace HA := HA.below hb5 (by omega)
  replace HB := HB.below hb5 (by omega)
  replace PA := PA.below hb5 PA.lt
  replace PB := PB.below hb5 PB.lt
  replace PR := PR.below hb5 PR.lt
  replace PF := PF.below hb5 PF.lt
  clear hb5
  clear hr5 hl5 oa ob
  have t_PB0 : ((w5.alloc (.cells #[.bool m5, .slice A5 k5 c5] 24)).alloc (.cells #[.int .i64 0, .int .i64 0] 28)).cell? ⟨w.heap.size + 1, 0, none⟩ = some ((.bool b.neg)) := ((PB.alloc _).alloc _).c0
  have t_PB1 : ((w5.alloc (.cells #[.bool m5, .slice A5 k5 c5] 24)).alloc (.cells #[.int .i64 0, .int .i64 0] 28)).cell? ⟨w.heap.size + 1, 1, none⟩ = some ((.slice b.A b.n b.c)) := ((PB.alloc _).alloc _).c1
  go_wp2_with fail
  clear t_PB0 t_PB1
  obtain ⟨V1, hV1⟩ : ∃ V1 : World, V1 = ((w5.alloc (.cells #[.bool m5, .slice A5 k5 c5] 24)).alloc (.cells #[.int .i64 0, .int .i64 0] 28)) := ⟨_, rfl⟩
  have bV1 : Below w5.heap.size w5 V1 := by rw [hV1]; (repeat (first | with_reducible exact Below.refl _ _ | with_reducible refine Below.alloc ?_ (by first | (simp <;> omega) | omega) _))
  have zV1 : w5.heap.size + 2 ≤ V1.heap.size := by rw [hV1]; simp
  have G6 : Bk2 V1 (w5.heap.size) (.bool m5) (.slice A5 k5 c5) := by rw [hV1]; exact ((Bk2.newAt _ _ (by first | omega | (simp; done) | (simp; omega)) _ _ _).alloc _)
  have G7 : Bk2 V1 (w5.heap.size + 1) (.int .i64 0) (.int .i64 0) := by rw [hV1]; exact (Bk2.newAt _ _ (by first | omega | (simp; done) | (simp; omega)) _ _ _)
  rw [← hV1]
  clear hV1
  replace E := E.trans (bV1.mono E.size)
  replace HA := HA.below bV1 (by omega)
  replace HB := HB.below bV1 (by omega)
  replace PA := PA.below bV1 PA.lt
  replace PB := PB.below bV1 PB.lt
  replace PR := PR.below bV1 PR.lt
  replace PF := PF.below bV1 PF.lt
  clear bV1
  clear G6 G7
  (with_reducible refine (isZero_any _ b.neg b.A b.n b.c (by have := HB.cap; omega)).mono ?_)
  rintro e w6 ⟨rfl, hb6⟩
  have sw6 := hb6.size
  replace E := E.trans (hb6.mono E.size)
  replace HA := HA.below hb6 (by omega)
  replace HB := HB.below hb6 (by omega)
  replace PA := PA.below hb6 PA.lt
  replace PB := PB.below hb6 PB.lt
  replace PR := PR.below hb6 PR.lt
  replace PF := PF.below hb6 PF.lt
  clear hb6
  rw [hz9]
  clear hz9
  have t_PA0 := PA.c0
  have t_PA1 := PA.c1
  have t_PB0 := PB.c0
  have t_PB1 := PB.c1
  go_wp2_with fail
  clear t_PA0 t_PA1 t_PB0 t_PB1
  (with_reducible refine (quotient_i _ B a.neg b.neg a.A b.A a.n b.n a.c b.c a.xs b.xs za zb HA HB (by omega) IA.out IB.out b1.out b2.out d0.out).mono ?_)
  rintro e u9 hq9
  obtain ⟨q1, q2, g1, g2, hqi, m7, A7, k7, e7, x7, m8, A8, k8, e8, x8, rfl, hl7, hl8, hi7, hi8, hb9⟩ := quo_is hq9
  clear hq9
  have QQ := Lib.hid hqi
  have I7 := Lib.hid hi7
  have I8 := Lib.hid hi8
  clear hqi hi7 hi8
  have BN : Below w6.heap.size w6 u9 := bnext (Below.refl _ _) hb9
  have PRq := PR.below BN PR.lt
  have PFq := PF.below BN PF.lt
  obtain ⟨r0, r1, r2, r3, y0, y1, y2, y3, _⟩ := PRq
  obtain ⟨f0, f1, z0, z1, _⟩ := PFq
  all_goals (go_wp2_with fail)
  all_goals
    have pr2 : Bk4 u9 (w.heap.size + 2) (.bool false) (.slice none 0 0) (.bool false) (.slice none 0 0) := ⟨r0, r1, r2, r3, y0, y1, y2, y3, by have := BN.size; have := PR.lt; omega⟩
    have pf2 : Bk2 u9 (w.heap.size + 3) (.int .i64 0) (.int .i64 0) := ⟨f0, f1, z0, z1, by have := BN.size; have := PF.lt; omega⟩
    refine bodyPost_ret (v := .tuple #[ratv m7 A7 k7 e7 m8 A8 k8 e8, flt g1 g2]) (by simp [results, Tryz.results26, go_sem, r0, r1, r2, r3, f0, f1]) rfl ?_
    have EW := E.trans (BN.mono E.size)
    refine quo_more QQ.out ⟨m7, A7, k7, e7, x7, m8, A8, k8, e8, x8, rfl, ?_, ?_, I7.out, I8.out, ?_⟩
    · first | with_reducible exact lrd_six hl7 pr2 pf2 (by omega) _ _ _ _ _ _ | with_reducible exact LRd.more (LRd.drew (lrd_six' hl7 pr2 pf2 (by omega) _ _ _ _ _ _)) (by simp [World.setCell])
    · first | with_reducible exact lrd_six hl8 pr2 pf2 (by omega) _ _ _ _ _ _ | with_reducible exact LRd.more (LRd.drew (lrd_six' hl8 pr2 pf2 (by omega) _ _ _ _ _ _)) (by simp [World.setCell])
    · (repeat (first | with_reducible exact EW | with_reducible refine Below.drew ?_ | with_reducible refine below_drewN ?_ _ | with_reducible refine Below.setCell ?_ (by first | (simp <;> omega) | omega) _))
/-- A ratio (with no fault) is given. -/
def GivesRt (w : World) (z1 z2 : Int) (e : Ending) (w' : World) : Prop :=
  ∃ m A k c xs m' D l d ys, e = .returned (ratv m A k c m' D l d) ∧ LRd w' w'.heap.size A k c xs ∧ LRd w' w'.heap.size D l d ys ∧ IRep m xs z1 ∧ IRep m' ys z2 ∧ Below w.heap.size w w'
set_option maxHeartbeats 8000000 in
theorem further_any (w : World) (B : Nat) (a b : RV) (t : IV) (na da nb db zt : Int) (H1 : a.at w B) (H2 : b.at w B) (H3 : t.at w B) (hB : B ≤ w.heap.size) (IA : Hid (IRep a.num.neg a.num.xs na)) (IC : Hid (IRep a.den.neg a.den.xs da)) (IB : Hid (IRep b.num.neg b.num.xs nb)) (ID : Hid (IRep b.den.neg b.den.xs db)) (IT : Hid (IRep t.neg t.xs zt))
    (b3 : Hid (nb.natAbs < Big)) (b4 : Hid (db.natAbs < Big)) (bt : Hid (zt.natAbs < Big)) (g1 : Hid (na.natAbs + (zt * nb).natAbs < Big)) (g2 : Hid (da.natAbs + (zt * db).natAbs < Big)) :
    Calls Tryz.prog 93 #[a.v, b.v, t.v] w (GivesRt w (na + zt * nb) (da + zt * db)) := by
  obtain ⟨HA, HC⟩ := H1
  obtain ⟨HB, HD⟩ := H2
  replace HA : LRd w B a.num.A a.num.n a.num.c a.num.xs := HA
  replace HC : LRd w B a.den.A a.den.n a.den.c a.den.xs := HC
  replace HB : LRd w B b.num.A b.num.n b.num.c b.num.xs := HB
  replace HD : LRd w B b.den.A b.den.n b.den.c b.den.xs := HD
  have HT : LRd w B t.A t.n t.c t.xs := H3
  have E : Below w.heap.size w w := Below.refl _ _
  go_enter Tryz.func93, Tryz.ntmps93
  go_upto_region 1 with fail
  obtain ⟨V0, hV0⟩ : ∃ V0 : World, V0 = ((((w.alloc (.cells #[.bool a.num.neg, .slice a.num.A a.num.n a.num.c, .bool a.den.neg, .slice a.den.A a.den.n a.den.c] 26)).alloc (.cells #[.bool b.num.neg, .slice b.num.A b.num.n b.num.c, .bool b.den.neg, .slice b.den.A b.den.n b.den.c] 26)).alloc (.cells #[.bool t.neg, .slice t.A t.n t.c] 24)).alloc (.cells #[.bool false, .slice none 0 0, .bool false, .slice none 0 0] 26)) := ⟨_, rfl⟩
  have bV0 : Below w.heap.size w V0 := by rw [hV0]; (repeat (first | with_reducible exact Below.refl _ _ | with_reducible refine Below.alloc ?_ (by first | (simp <;> omega) | omega) _))
  have zV0 : w.heap.size + 4 ≤ V0.heap.size := by rw [hV0]; simp
  have PA : Bk4 V0 (w.heap.size) (.bool a.num.neg) (.slice a.num.A a.num.n a.num.c) (.bool a.den.neg) (.slice a.den.A a.den.n a.den.c) := by rw [hV0]; exact ((((Bk4.newAt _ _ (by first | omega | (simp; done) | (simp; omega)) _ _ _ _ _).alloc _).alloc _).alloc _)
  have PB : Bk4 V0 (w.heap.size + 1) (.bool b.num.neg) (.slice b.num.A b.num.n b.num.c) (.bool b.den.neg) (.slice b.den.A b.den.n b.den.c) := by rw [hV0]; exact (((Bk4.newAt _ _ (by first | omega | (simp; done) | (simp; omega)) _ _ _ _ _).alloc _).alloc _)
  have PT : Bk2 V0 (w.heap.size + 2) (.bool t.neg) (.slice t.A t.n t.c) := by rw [hV0]; exact ((Bk2.newAt _ _ (by first | omega | (simp; done) | (simp; omega)) _ _ _).alloc _)
  have PR : Bk4 V0 (w.heap.size + 3) (.bool false) (.slice none 0 0) (.bool false) (.slice none 0 0) := by rw [hV0]; exact (Bk4.newAt _ _ (by first | omega | (simp; done) | (simp; omega)) _ _ _ _ _)
  rw [← hV0]
  clear hV0
  replace E := E.trans (bV0.mono E.size)
  replace HA := HA.below bV0 (by omega)
  replace HC := HC.below bV0 (by omega)
  replace HB := HB.below bV0 (by omega)
  replace HD := HD.below bV0 (by omega)
  replace HT := HT.below bV0 (by omega)
  clear bV0
  have lt_PA := PA.lt
  have lt_PB := PB.lt
  have lt_PT := PT.lt
  have HS := Lib.hid (fun (u : World) (hu : Below (w.heap.size + 3) V0 u) => (⟨(hu.cell (p := ⟨w.heap.size, 0, none⟩) (by show w.heap.size < _; omega)).trans PA.c0, (hu.cell (p := ⟨w.heap.size, 1, none⟩) (by show w.heap.size < _; omega)).trans PA.c1, (hu.cell (p := ⟨w.heap.size, 2, none⟩) (by show w.heap.size < _; omega)).trans PA.c2, (hu.cell (p := ⟨w.heap.size, 3, none⟩) (by show w.heap.size < _; omega)).trans PA.c3, (hu.cell (p := ⟨w.heap.size + 1, 0, none⟩) (by show w.heap.size + 1 < _; omega)).trans PB.c0, (hu.cell (p := ⟨w.heap.size + 1, 1, none⟩) (by show w.heap.size + 1 < _; omega)).trans PB.c1, (hu.cell (p := ⟨w.heap.size + 1, 2, none⟩) (by show w.heap.size + 1 < _; omega)).trans PB.c2, (hu.cell (p := ⟨w.heap.size + 1, 3, none⟩) (by show w.heap.size + 1 < _; omega)).trans PB.c3, (hu.cell (p := ⟨w.heap.size + 2, 0, none⟩) (by show w.heap.size + 2 < _; omega)).trans PT.c0, (hu.cell (p := ⟨w.heap.size + 2, 1, none⟩) (by show w.heap.size + 2 < _; omega)).trans PT.c1⟩ : u.cell? ⟨w.heap.size, 0, none⟩ = some (.bool a.num.neg) ∧ u.cell? ⟨w.heap.size, 1, none⟩ = some (.slice a.num.A a.num.n a.num.c) ∧ u.cell? ⟨w.heap.size, 2, none⟩ = some (.bool a.den.neg) ∧ u.cell? ⟨w.heap.size, 3, none⟩ = some (.slice a.den.A a.den.n a.den.c) ∧ u.cell? ⟨w.heap.size + 1, 0, none⟩ = some (.bool b.num.neg) ∧ u.cell? ⟨w.heap.size + 1, 1, none⟩ = some (.slice b.num.A b.num.n b.num.c) ∧ u.cell? ⟨w.heap.size + 1, 2, none⟩ = some (.bool b.den.neg) ∧ u.cell? ⟨w.heap.size + 1, 3, none⟩ = some (.slice b.den.A b.den.n b.den.c) ∧ u.cell? ⟨w.heap.size + 2, 0, none⟩ = some (.bool t.neg) ∧ u.cell? ⟨w.heap.size + 2, 1, none⟩ = some (.slice t.A t.n t.c)))
  have G0 : Below V0.heap.size V0 V0.drew := Below.drew (Below.refl _ _)
  have g0s := G0.size
  have G0m : Below (w.heap.size + 3) V0 V0.drew := G0.mono (by omega)
  go_region_held3 (fun u => u.cell? ⟨w.heap.size, 0, none⟩ = some (.bool a.num.neg) ∧ u.cell? ⟨w.heap.size, 1, none⟩ = some (.slice a.num.A a.num.n a.num.c) ∧ u.cell? ⟨w.heap.size, 2, none⟩ = some (.bool a.den.neg) ∧ u.cell? ⟨w.heap.size, 3, none⟩ = some (.slice a.den.A a.den.n a.den.c) ∧ u.cell? ⟨w.heap.size + 1, 0, none⟩ = some (.bool b.num.neg) ∧ u.cell? ⟨w.heap.size + 1, 1, none⟩ = some (.slice b.num.A b.num.n b.num.c) ∧ u.cell? ⟨w.heap.size + 1, 2, none⟩ = some (.bool b.den.neg) ∧ u.cell? ⟨w.heap.size + 1, 3, none⟩ = some (.slice b.den.A b.den.n b.den.c) ∧ u.cell? ⟨w.heap.size + 2, 0, none⟩ = some (.bool t.neg) ∧ u.cell? ⟨w.heap.size + 2, 1, none⟩ = some (.slice t.A t.n t.c)) (first | (refine HS.out _ ?_; (repeat (first | with_reducible exact G0m | with_reducible exact BN.mono (by omega) | with_reducible exact B3.mono (by omega) | with_reducible exact B2.mono (by omega) | with_reducible exact B1.mono (by omega) | with_reducible exact Below.refl _ _ | with_reducible refine Below.drew ?_ | with_reducible refine below_drewN ?_ _ | with_reducible refine Below.setCell ?_ (by first | (simp <;> omega) | omega) _)); done) | fail)
    (first
      | (go_at_call 61; (with_reducible refine (rprod_i _ V0.heap.size t.neg b.num.neg t.A b.num.A t.n b.num.n t.c b.num.c t.xs b.num.xs zt nb ((HT.below G0 (by omega)).more (by omega)) ((HB.below G0 (by omega)).more (by omega)) (by omega) IT.out IB.out bt.out b3.out (by have := g1.out; omega)).mono ?_); rintro e u1 ⟨m1, A1, k1, e1, x1, rfl, hl1, hr1, hb1⟩; have B1 : Below V0.heap.size V0 u1 := bnext G0 hb1; have R1 := Lib.hid hr1; clear hr1; have b1s := B1.size; have c1s := hb1.size)
      | (go_at_call 91; (with_reducible refine (rsum_i _ u1.heap.size a.num.neg m1 a.num.A A1 a.num.n k1 a.num.c e1 a.num.xs x1 na (zt * nb) ((HA.below B1 (by omega)).more (by omega)) hl1 (Nat.le_refl _) IA.out R1.out (by have := g1.out; omega)).mono ?_); rintro e u2 ⟨m2, A2, k2, e2, x2, rfl, hl2, hr2, hb2⟩; have B2 : Below V0.heap.size V0 u2 := bnext B1 hb2; have R2 := Lib.hid hr2; clear hr2; have b2s := B2.size; have c2s := hb2.size)
      | (go_at_call 61; (with_reducible refine (rprod_i _ u2.heap.size t.neg b.den.neg t.A b.den.A t.n b.den.n t.c b.den.c t.xs b.den.xs zt db ((HT.below B2 (by omega)).more (by omega)) ((HD.below B2 (by omega)).more (by omega)) (by omega) IT.out ID.out bt.out b4.out (by have := g2.out; omega)).mono ?_); rintro e u3 ⟨m3, A3, k3, e3, x3, rfl, hl3, hr3, hb3⟩; have B3 : Below V0.heap.size V0 u3 := bnext B2 hb3; have R3 := Lib.hid hr3; clear hr3; have b3s := B3.size; have c3s := hb3.size; have hl2q := hl2.below hb3 (Nat.le_refl _))
      | (go_at_call 91; (with_reducible refine (rsum_i _ u3.heap.size a.den.neg m3 a.den.A A3 a.den.n k3 a.den.c e3 a.den.xs x3 da (zt * db) ((HC.below B3 (by omega)).more (by omega)) hl3 (Nat.le_refl _) IC.out R3.out (by have := g2.out; omega)).mono ?_); rintro e u4 ⟨m4, A4, k4, e4, x4, rfl, hl4, hr4, hb4⟩; have B4 : Below V0.heap.size V0 u4 := bnext B3 hb4; have R4 := Lib.hid hr4; clear hr4; have b4s := B4.size; have c4s := hb4.size; have hl2r := hl2q.below hb4 (by omega); have BN := B4; have PRq := PR.below BN PR.lt; obtain ⟨r0, r1, r2, r3, y0, y1, y2, y3, _⟩ := PRq)
      | fail)
  all_goals (go_wp2_with fail)
  all_goals
    have pr2 : Bk4 u4 (w.heap.size + 3) (.bool false) (.slice none 0 0) (.bool false) (.slice none 0 0) := ⟨r0, r1, r2, r3, y0, y1, y2, y3, by have := BN.size; have := PR.lt; omega⟩
    refine bodyPost_ret (v := ratv m2 A2 k2 e2 m4 A4 k4 e4) (by simp [results, Tryz.results93, go_sem, r0, r1, r2, r3]) rfl ⟨m2, A2, k2, e2, x2, m4, A4, k4, e4, x4, rfl, ?_, ?_, R2.out, R4.out, ?_⟩
    · first | with_reducible exact LRd.more (hl2r.set4 pr2 (by simp) (by simp) (by simp) (by simp) _ _ _ _) (by first | (simp [World.setCell]; done) | (simp [World.setCell]; omega)) | with_reducible exact LRd.more (LRd.drew (hl2r.set4 pr2 (by simp) (by simp) (by simp) (by simp) _ _ _ _)) (by first | (simp [World.setCell]; done) | (simp [World.setCell]; omega))
    · first | with_reducible exact LRd.more (hl4.set4 pr2 (by simp) (by simp) (by simp) (by simp) _ _ _ _) (by simp [World.setCell]) | with_reducible exact LRd.more (LRd.drew (hl4.set4 pr2 (by simp) (by simp) (by simp) (by simp) _ _ _ _)) (by simp [World.setCell])
    · (repeat (first | with_reducible exact E.trans (BN.mono E.size) | with_reducible refine Below.drew ?_ | with_reducible refine below_drewN ?_ _ | with_reducible refine Below.setCell ?_ (by first | (simp <;> omega) | omega) _))
theorem rrow1 (w : World) (B : Nat) (a : RV) (ha : a.at w B) (hB : B ≤ w.heap.size) : RRow (w.alloc (.cells #[.bool a.num.neg, .slice a.num.A a.num.n a.num.c, .bool a.den.neg, .slice a.den.A a.den.n a.den.c] 26)) B w.heap.size [a] := by
  have ha' : a.at (w.alloc (.cells #[.bool a.num.neg, .slice a.num.A a.num.n a.num.c, .bool a.den.neg, .slice a.den.A a.den.n a.den.c] 26)) B := ha.below (bl1 w _) hB
  refine ⟨fun i hi => ?_, fun i hi => ?_, fun i hi => ?_, fun i hi => ?_, fun i hi => ?_, by simp⟩
  all_goals
    have hi' : i < 1 := hi
    obtain rfl : i = 0 := by omega
    first | exact ha' | simp [go_sem]
theorem rone_ok {a : RV} (ha : a.ok = true) : rfault [a] 0 = (0, 0) := by
  show (if a.ok then (0, 0) else _) = _
  rw [if_pos ha]
theorem itext10 (w : World) (B : Nat) (a : IV) (ha : a.at w B) (hB : B ≤ w.heap.size) (oa : a.ok = true) :
    Calls Tryz.prog 99 #[a.v, .int .i64 10] w (GivesT w a.val 10 0 0) := itext_ok w B a 10 ha hB oa (by decide)
theorem bytes_cat (s t : List UInt8) : (ByteArray.mk s.toArray) ++ (ByteArray.mk #[47]) ++ (ByteArray.mk t.toArray) = ByteArray.mk (s ++ 47 :: t).toArray := by
  apply ByteArray.ext
  simp
theorem text10_len {z : Int} {l : List UInt8} (h : TextIs z 10 l) (hz : z.natAbs < Top128) : l.length ≤ 2000 := by
  obtain ⟨ds, hr, rfl⟩ := h
  obtain ⟨m, hm⟩ : ∃ m, m = 128 := ⟨_, rfl⟩
  rw [top128 hm] at hz
  have h1 : z.natAbs < 10 ^ (10 * m) := Nat.lt_of_lt_of_le hz (by rw [Nat.pow_mul]; exact Nat.pow_le_pow_left (by decide) _)
  have h2 := hr.length_le (m := 10 * m) (by decide) h1
  rw [List.length_reverse] at h2
  split
  · simp
  · split <;> simp <;> omega
theorem RV.okn {r : RV} (h : r.ok = true) : r.num.ok = true := by
  unfold RV.ok at h
  simp only [Bool.and_eq_true, decide_eq_true_eq, Bool.not_eq_true'] at h
  exact h.1.1.2
theorem RV.okd {r : RV} (h : r.ok = true) : r.den.ok = true := by
  unfold RV.ok at h
  simp only [Bool.and_eq_true, decide_eq_true_eq, Bool.not_eq_true'] at h
  exact h.1.2
set_option maxHeartbeats 4000000 in
theorem rtext_two (w : World) (B : Nat) (a : RV) (H1 : a.at w B) (hB : B ≤ w.heap.size) (oa : a.ok = true) (hd : a.den.val ≠ 1) :
    Calls Tryz.prog 51 #[a.v] w (fun e w' => ∃ s t, TextIs a.num.val 10 s ∧ TextIs a.den.val 10 t ∧ e = .returned (.tuple #[.string ⟨(s ++ 47 :: t).toArray⟩, flt 0 0]) ∧ Below w.heap.size w w') := by
  have VA := RV.val oa H1
  have hf := rone_ok oa
  have h1 : isone a.den.xs a.den.n = false := by
    have h5 := VA.den
    have h6 := VA.pos
    obtain ⟨g, hg⟩ := Int.eq_ofNat_of_zero_le (Int.le_of_lt h6)
    rw [hg] at h5 hd h6
    have h7 : a.den.neg = false := by rw [h5.sgn]; exact decide_eq_false (by omega)
    rw [h7] at h5
    rw [gcd_one h5 H1.2.len.out]
    rw [decide_eq_false_iff_not]; omega
  replace h1 := Lib.hid h1
  have on := Lib.hid (RV.okn oa)
  have od := Lib.hid (RV.okd oa)
  have vn := Lib.hid VA.bn
  have vd := Lib.hid VA.bd
  clear VA oa hd
  have bbase : Below w.heap.size w ((w.alloc (.cells #[.bool a.num.neg, .slice a.num.A a.num.n a.num.c, .bool a.den.neg, .slice a.den.A a.den.n a.den.c] 26)).alloc (.cells #[.int .i64 0, .int .i64 0] 28)) := ((bl1 w _).alloc (by simp) _)
  have HA : LRd w B a.num.A a.num.n a.num.c a.num.xs := H1.1
  have HC : LRd w B a.den.A a.den.n a.den.c a.den.xs := H1.2
  have E : Below w.heap.size w w := Below.refl _ _
  have RR := Lib.hid (rrow1 ((w.alloc (.cells #[.bool a.num.neg, .slice a.num.A a.num.n a.num.c, .bool a.den.neg, .slice a.den.A a.den.n a.den.c] 26)).alloc (.cells #[.int .i64 0, .int .i64 0] 28)) B a (RV.at.below H1 bbase (by omega)) (by simp; omega))
  clear bbase
  go_enter Tryz.func51, Tryz.ntmps51
  go_wp2_with fail
  obtain ⟨V0, hV0⟩ : ∃ V0 : World, V0 = (((w.alloc (.cells #[.bool a.num.neg, .slice a.num.A a.num.n a.num.c, .bool a.den.neg, .slice a.den.A a.den.n a.den.c] 26)).alloc (.cells #[.int .i64 0, .int .i64 0] 28)).alloc (.cells #[.bool a.num.neg, .slice a.num.A a.num.n a.num.c, .bool a.den.neg, .slice a.den.A a.den.n a.den.c] 26)) := ⟨_, rfl⟩
  have bV0 : Below w.heap.size w V0 := by rw [hV0]; (repeat (first | with_reducible exact Below.refl _ _ | with_reducible refine Below.alloc ?_ (by first | (simp <;> omega) | omega) _))
  have zV0 : w.heap.size + 3 ≤ V0.heap.size := by rw [hV0]; simp
  have PA : Bk4 V0 (w.heap.size) (.bool a.num.neg) (.slice a.num.A a.num.n a.num.c) (.bool a.den.neg) (.slice a.den.A a.den.n a.den.c) := by rw [hV0]; exact (((Bk4.newAt _ _ (by first | omega | (simp; done) | (simp; omega)) _ _ _ _ _).alloc _).alloc _)
  have PF : Bk2 V0 (w.heap.size + 1) (.int .i64 0) (.int .i64 0) := by rw [hV0]; exact ((Bk2.newAt _ _ (by first | omega | (simp; done) | (simp; omega)) _ _ _).alloc _)
  replace RR : Hid (RRow V0 B (w.heap.size + 2) [a]) := by have h9 := RR.out; rw [hV0]; rw [show (((w.alloc (.cells #[.bool a.num.neg, .slice a.num.A a.num.n a.num.c, .bool a.den.neg, .slice a.den.A a.den.n a.den.c] 26)).alloc (.cells #[.int .i64 0, .int .i64 0] 28))).heap.size = w.heap.size + 2 by simp] at h9; exact h9
  rw [← hV0]
  clear hV0
  replace E := E.trans (bV0.mono E.size)
  replace HA := HA.below bV0 (by omega)
  replace HC := HC.below bV0 (by omega)
  clear bV0
  (with_reducible refine (rcheck_any _ B (w.heap.size + 2) 1 [a] RR.out rfl (by omega) (by omega)).mono ?_)
  rintro e w1 ⟨rfl, hb1⟩
  have sw1 := hb1.size
  replace E := E.trans (hb1.mono E.size)
  replace HA := HA.below hb1 (by omega)
  replace HC := HC.below hb1 (by omega)
  replace PA := PA.below hb1 PA.lt
  replace PF := PF.below hb1 PF.lt
  clear hb1
  rw [hf]
  clear RR
  have t_PA0 : (w1.alloc (.cells #[.int .i64 0, .int .i64 0] 28)).cell? ⟨w.heap.size, 0, none⟩ = some ((.bool a.num.neg)) := (PA.alloc _).c0
  have t_PA1 : (w1.alloc (.cells #[.int .i64 0, .int .i64 0] 28)).cell? ⟨w.heap.size, 1, none⟩ = some ((.slice a.num.A a.num.n a.num.c)) := (PA.alloc _).c1
  have t_PA2 : (w1.alloc (.cells #[.int .i64 0, .int .i64 0] 28)).cell? ⟨w.heap.size, 2, none⟩ = some ((.bool a.den.neg)) := (PA.alloc _).c2
  have t_PA3 : (w1.alloc (.cells #[.int .i64 0, .int .i64 0] 28)).cell? ⟨w.heap.size, 3, none⟩ = some ((.slice a.den.A a.den.n a.den.c)) := (PA.alloc _).c3
  go_wp2_with fail
  clear t_PA0 t_PA1 t_PA2 t_PA3
  obtain ⟨V1, hV1⟩ : ∃ V1 : World, V1 = (w1.alloc (.cells #[.int .i64 0, .int .i64 0] 28)) := ⟨_, rfl⟩
  have bV1 : Below w1.heap.size w1 V1 := by rw [hV1]; (repeat (first | with_reducible exact Below.refl _ _ | with_reducible refine Below.alloc ?_ (by first | (simp <;> omega) | omega) _))
  have zV1 : w1.heap.size + 1 ≤ V1.heap.size := by rw [hV1]; simp
  have F4 : Bk2 V1 (w1.heap.size) (.int .i64 0) (.int .i64 0) := by rw [hV1]; exact (Bk2.newAt _ _ (by first | omega | (simp; done) | (simp; omega)) _ _ _)
  rw [← hV1]
  clear hV1
  replace E := E.trans (bV1.mono E.size)
  replace HA := HA.below bV1 (by omega)
  replace HC := HC.below bV1 (by omega)
  replace PA := PA.below bV1 PA.lt
  replace PF := PF.below bV1 PF.lt
  clear bV1
  clear F4
  (with_reducible refine (itext10 _ B a.num (iv_at HA) (by omega) on.out).mono ?_)
  rintro e w2 ⟨s1, hs1, rfl, hb2⟩
  have sw2 := hb2.size
  replace E := E.trans (hb2.mono E.size)
  replace HA := HA.below hb2 (by omega)
  replace HC := HC.below hb2 (by omega)
  replace PA := PA.below hb2 PA.lt
  replace PF := PF.below hb2 PF.lt
  clear hb2
  have T1 := Lib.hid hs1
  clear hs1
  have t_PA0 : (w2.alloc (.cells #[.int .i64 0, .int .i64 0] 28)).cell? ⟨w.heap.size, 0, none⟩ = some ((.bool a.num.neg)) := (PA.alloc _).c0
  have t_PA1 : (w2.alloc (.cells #[.int .i64 0, .int .i64 0] 28)).cell? ⟨w.heap.size, 1, none⟩ = some ((.slice a.num.A a.num.n a.num.c)) := (PA.alloc _).c1
  have t_PA2 : (w2.alloc (.cells #[.int .i64 0, .int .i64 0] 28)).cell? ⟨w.heap.size, 2, none⟩ = some ((.bool a.den.neg)) := (PA.alloc _).c2
  have t_PA3 : (w2.alloc (.cells #[.int .i64 0, .int .i64 0] 28)).cell? ⟨w.heap.size, 3, none⟩ = some ((.slice a.den.A a.den.n a.den.c)) := (PA.alloc _).c3
  go_wp2_with fail
  clear t_PA0 t_PA1 t_PA2 t_PA3
  obtain ⟨V2, hV2⟩ : ∃ V2 : World, V2 = (w2.alloc (.cells #[.int .i64 0, .int .i64 0] 28)) := ⟨_, rfl⟩
  have bV2 : Below w2.heap.size w2 V2 := by rw [hV2]; (repeat (first | with_reducible exact Below.refl _ _ | with_reducible refine Below.alloc ?_ (by first | (simp <;> omega) | omega) _))
  have zV2 : w2.heap.size + 1 ≤ V2.heap.size := by rw [hV2]; simp
  have F6 : Bk2 V2 (w2.heap.size) (.int .i64 0) (.int .i64 0) := by rw [hV2]; exact (Bk2.newAt _ _ (by first | omega | (simp; done) | (simp; omega)) _ _ _)
  rw [← hV2]
  clear hV2
  replace E := E.trans (bV2.mono E.size)
  replace HA := HA.below bV2 (by omega)
  replace HC := HC.below bV2 (by omega)
  replace PA := PA.below bV2 PA.lt
  replace PF := PF.below bV2 PF.lt
  clear bV2
  clear F6
  (with_reducible refine (isOne_any _ B a.den.neg a.den.A a.den.n a.den.c a.den.xs HC (by omega)).mono ?_)
  rintro e w3 ⟨rfl, hb3⟩
  have sw3 := hb3.size
  replace E := E.trans (hb3.mono E.size)
  replace HA := HA.below hb3 (by omega)
  replace HC := HC.below hb3 (by omega)
  replace PA := PA.below hb3 PA.lt
  replace PF := PF.below hb3 PF.lt
  clear hb3
  rw [h1.out]
  have t_PA0 := PA.c0
  have t_PA1 := PA.c1
  have t_PA2 := PA.c2
  have t_PA3 := PA.c3
  go_wp2_with fail
  clear t_PA0 t_PA1 t_PA2 t_PA3
  (with_reducible refine (itext10 _ B a.den (iv_at HC) (by omega) od.out).mono ?_)
  rintro e w4 ⟨s2, hs2, rfl, hb4⟩
  have sw4 := hb4.size
  replace E := E.trans (hb4.mono E.size)
  replace HA := HA.below hb4 (by omega)
  replace HC := HC.below hb4 (by omega)
  replace PA := PA.below hb4 PA.lt
  replace PF := PF.below hb4 PF.lt
  clear hb4
  have T2 := Lib.hid hs2
  clear hs2
  have L1 := text10_len T1.out vn.out
  have L2 := text10_len T2.out vd.out
  have y_PF0 := PF.c0
  have z_PF0 := PF.z0
  have y_PF1 := PF.c1
  have z_PF1 := PF.z1
  have lt_PF := PF.lt
  go_wp2_with fail
  clear y_PF0 z_PF0 y_PF1 z_PF1 lt_PF
  obtain ⟨U4PF, hU4PF⟩ : ∃ U4PF : World, U4PF = ((w4.setCell ⟨w.heap.size + 1, 0, none⟩ (.int .i64 0)).setCell ⟨w.heap.size + 1, 1, none⟩ (.int .i64 0)) := ⟨_, rfl⟩
  have zU4PF : U4PF.heap.size = w4.heap.size := by rw [hU4PF]; simp [World.setCell]
  replace E : Below w.heap.size w U4PF := by rw [hU4PF]; exact ((E.setCell (by first | (simp; done) | (simp; omega)) _).setCell (by first | (simp; done) | (simp; omega)) _)
  replace HA : LRd U4PF (B) a.num.A a.num.n a.num.c a.num.xs := by rw [hU4PF]; first | exact HA.setB PF (by simp) (by simp) _ _ | exact HA.setFarL (by omega) _ _
  replace HC : LRd U4PF (B) a.den.A a.den.n a.den.c a.den.xs := by rw [hU4PF]; first | exact HC.setB PF (by simp) (by simp) _ _ | exact HC.setFarL (by omega) _ _
  replace PA : Bk4 U4PF (w.heap.size) (.bool a.num.neg) (.slice a.num.A a.num.n a.num.c) (.bool a.den.neg) (.slice a.den.A a.den.n a.den.c) := by rw [hU4PF]; exact PA.far2 (by omega) _ _
  replace PF : Bk2 U4PF (w.heap.size + 1) (.int .i64 0) (.int .i64 0) := by rw [hU4PF]; exact PF.set _ _
  rw [← hU4PF]
  clear hU4PF
  have zU4PF' := Nat.le_of_eq zU4PF
  replace zU4PF := Nat.le_of_eq zU4PF.symm
  obtain ⟨V4, hV4⟩ : ∃ V4 : World, V4 = (U4PF.alloc (.cells #[.int .i64 0, .int .i64 0] 28)) := ⟨_, rfl⟩
  have bV4 : Below U4PF.heap.size U4PF V4 := by rw [hV4]; (repeat (first | with_reducible exact Below.refl _ _ | with_reducible refine Below.alloc ?_ (by first | (simp <;> omega) | omega) _))
  have zV4 : U4PF.heap.size + 1 ≤ V4.heap.size := by rw [hV4]; simp
  have F8 : Bk2 V4 (w4.heap.size) (.int .i64 0) (.int .i64 0) := by rw [hV4]; exact (Bk2.newAt _ _ (by first | omega | (simp; done) | (simp; omega)) _ _ _)
  rw [← hV4]
  clear hV4
  replace E := E.trans (bV4.mono E.size)
  replace HA := HA.below bV4 (by omega)
  replace HC := HC.below bV4 (by omega)
  replace PA := PA.below bV4 PA.lt
  replace PF := PF.below bV4 PF.lt
  clear bV4
  obtain ⟨f0, f1, _, _, _⟩ := PF
  refine bodyPost_ret (v := .tuple #[.string (ByteArray.mk s1.toArray ++ ByteArray.mk #[47] ++ ByteArray.mk s2.toArray), flt 0 0]) (by simp [results, Tryz.results51, go_sem, f0, f1]) rfl ⟨s1, s2, T1.out, T2.out, ?_, E⟩
  rw [bytes_cat]
end Go.Proofs.YtfgkhdpdjclmkaaGreat
