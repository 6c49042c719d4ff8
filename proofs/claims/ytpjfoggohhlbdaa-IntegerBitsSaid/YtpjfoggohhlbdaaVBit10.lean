/- The program's Shift as a whole. -/
import Derived.Test.YtpjfoggohhlbdaaVBit9
namespace Go.Proofs.Ytpjfoggohhlbdaa
open Go.RowKit
set_option maxHeartbeats 400000
set_option maxRecDepth 100000
set_option linter.unusedSimpArgs false
set_option linter.unusedVariables false

theorem neg_shift_lt {z i : Int} {T : Nat} (h : z < 0) (hi : i < 0) (ht : z.natAbs < T) : (zshift z i).natAbs < T := by
  unfold zshift
  rw [if_pos hi]
  obtain ⟨p, hp, rfl⟩ : ∃ p : Nat, 0 < p ∧ z = -(p : Int) := ⟨z.natAbs, by omega, by omega⟩
  rw [floor_neg hp (Nat.two_pow_pos _), Int.natAbs_neg, Int.natAbs_natCast]
  have := Nat.div_le_self (p - 1) (2 ^ (-i).toNat)
  omega
theorem shift_cases {p l v : Nat} {s u1 u2 : Int} (h : ShiftV p l s v u1 u2) : (u1 = 0 ∧ u2 = 0) ∨ (u1 = 14 ∧ u2 = -1 ∧ ¬ (l = 0 ∨ s ≤ -(l : Int)) ∧ 19200 - (l : Int) < s) := by
  rcases h with ⟨_, _, h1, h2⟩ | ⟨h1, h2, _, h3, h4⟩ | ⟨_, _, _, _, h1, h2⟩ | ⟨_, _, _, _, h1, h2⟩
  · exact .inl ⟨h1, h2⟩
  · exact .inr ⟨h3, h4, h1, h2⟩
  · exact .inl ⟨h1, h2⟩
  · exact .inl ⟨h1, h2⟩
set_option maxHeartbeats 4000000 in
theorem ishift_neg (w : World) (B : Nat) (a : IV) (i : Int) (i1 : -9223372036854775808 ≤ i) (i2 : i ≤ 9223372036854775807) (HA : a.at w B) (hB : B ≤ w.heap.size) (oa : a.ok = true) (hn : Hid (a.neg = true)) (hi : i < 0) (HT : Hid (a.val.natAbs < Top128)) :
    Calls Try.prog 53 #[a.v, .int .i64 i] w (GivesVL w (zshift a.val i)) := by
  replace HA : LRd w B a.A a.n a.c a.xs := HA
  have E : Below w.heap.size w w := Below.refl _ _
  have IR := Lib.hid (irow1 (((w.alloc a.cells).alloc (.cells #[.bool false, .slice none 0 0] 24)).alloc (.cells #[.int .i64 0, .int .i64 0] 26)) B a (((HA.alloc (by omega) _).alloc (by simp; omega) _).alloc (by simp; omega) _) (by simp; omega))
  go_enter Try.func53, Try.ntmps53
  go_wp2_with fail
  obtain ⟨V0, hV0⟩ : ∃ V0 : World, V0 = ((((w.alloc (.cells #[.bool a.neg, .slice a.A a.n a.c] 24)).alloc (.cells #[.bool false, .slice none 0 0] 24)).alloc (.cells #[.int .i64 0, .int .i64 0] 26)).alloc (.cells #[.bool a.neg, .slice a.A a.n a.c] 24)) := ⟨_, rfl⟩
  have bV0 : Below w.heap.size w V0 := by rw [hV0]; (repeat (first | with_reducible exact Below.refl _ _ | with_reducible refine Below.drew ?_ | with_reducible refine below_drewN ?_ _ | with_reducible refine Below.setCell ?_ (by first | (simp; done) | (simp; omega) | omega) _ | with_reducible refine Below.alloc ?_ (by first | (simp; done) | (simp; omega) | omega) _))
  have zV0 : w.heap.size + 4 ≤ V0.heap.size := by rw [hV0]; simp
  have PA : Bk2 V0 (w.heap.size) (.bool a.neg) (.slice a.A a.n a.c) := by rw [hV0]; exact ((((Bk2.newAt _ _ (by simp) _ _ _).alloc _).alloc _).alloc _)
  have PR : Bk2 V0 (w.heap.size + 1) (.bool false) (.slice none 0 0) := by rw [hV0]; exact (((Bk2.newAt _ _ (by simp) _ _ _).alloc _).alloc _)
  have PF : Bk2 V0 (w.heap.size + 2) (.int .i64 0) (.int .i64 0) := by rw [hV0]; exact ((Bk2.newAt _ _ (by simp) _ _ _).alloc _)
  replace IR : Hid (IRow V0 B (w.heap.size + 3) [a]) := by have h9 := IR.out; rw [hV0]; rw [show (((w.alloc a.cells).alloc (.cells #[.bool false, .slice none 0 0] 24)).alloc (.cells #[.int .i64 0, .int .i64 0] 26)).heap.size = w.heap.size + 3 by simp] at h9; exact h9
  rw [← hV0]
  clear hV0
  replace E : Below w.heap.size w V0 := E.trans (bV0.mono E.size)
  replace HA : LRd V0 (B) a.A a.n a.c a.xs := HA.below bV0 (by omega)
  clear bV0
  (with_reducible refine (check_any _ B (w.heap.size + 3) 1 [a] IR.out rfl (by omega) (by omega)).mono ?_)
  rintro e w1 ⟨rfl, hb1⟩
  have sw1 := hb1.size
  replace E : Below w.heap.size w w1 := E.trans (hb1.mono E.size)
  replace HA : LRd w1 (B) a.A a.n a.c a.xs := HA.below hb1 (by omega)
  replace PA : Bk2 w1 (w.heap.size) (.bool a.neg) (.slice a.A a.n a.c) := PA.below hb1 PA.lt
  replace PR : Bk2 w1 (w.heap.size + 1) (.bool false) (.slice none 0 0) := PR.below hb1 PR.lt
  replace PF : Bk2 w1 (w.heap.size + 2) (.int .i64 0) (.int .i64 0) := PF.below hb1 PF.lt
  clear hb1
  rw [one_ok oa]
  clear IR
  rw [hn.out] at PA
  have t_PA0 : (w1.alloc (.cells #[.int .i64 0, .int .i64 0] 26)).cell? ⟨w.heap.size, 0, none⟩ = some ((.bool true)) := (PA.alloc _).c0
  have t_PA1 : (w1.alloc (.cells #[.int .i64 0, .int .i64 0] 26)).cell? ⟨w.heap.size, 1, none⟩ = some ((.slice a.A a.n a.c)) := (PA.alloc _).c1
  go_wp2_with fail
  clear t_PA0 t_PA1
  obtain ⟨V1, hV1⟩ : ∃ V1 : World, V1 = (w1.alloc (.cells #[.int .i64 0, .int .i64 0] 26)) := ⟨_, rfl⟩
  have bV1 : Below w1.heap.size w1 V1 := by rw [hV1]; (repeat (first | with_reducible exact Below.refl _ _ | with_reducible refine Below.drew ?_ | with_reducible refine below_drewN ?_ _ | with_reducible refine Below.setCell ?_ (by first | (simp; done) | (simp; omega) | omega) _ | with_reducible refine Below.alloc ?_ (by first | (simp; done) | (simp; omega) | omega) _))
  have zV1 : w1.heap.size + 1 ≤ V1.heap.size := by rw [hV1]; simp
  have PQ : Bk2 V1 (w1.heap.size) (.int .i64 0) (.int .i64 0) := by rw [hV1]; exact (Bk2.newAt _ _ (by simp) _ _ _)
  rw [← hV1]
  clear hV1
  replace E : Below w.heap.size w V1 := E.trans (bV1.mono E.size)
  replace HA : LRd V1 (B) a.A a.n a.c a.xs := HA.below bV1 (by omega)
  replace PA : Bk2 V1 (w.heap.size) (.bool true) (.slice a.A a.n a.c) := PA.below bV1 PA.lt
  replace PR : Bk2 V1 (w.heap.size + 1) (.bool false) (.slice none 0 0) := PR.below bV1 PR.lt
  replace PF : Bk2 V1 (w.heap.size + 2) (.int .i64 0) (.int .i64 0) := PF.below bV1 PF.lt
  clear bV1
  refine (shiftBelow_any _ B (IV.mk true a.A a.n a.c a.xs) i i1 i2 HA (by omega) (by have h := oa; unfold IV.ok at h ⊢; rw [hn.out] at h; exact h) (Lib.hid rfl) hi).mono ?_
  rintro e w9 ⟨m4, A4, k4, c4, x4, rfl, hl4, hr4, hb4⟩
  rw [show (IV.mk true a.A a.n a.c a.xs).val = a.val by unfold IV.val; rw [hn.out]] at hr4
  have R4 := Lib.hid hr4
  have sw9 := hb4.size
  clear hr4
  clear PQ
  replace E : Below w.heap.size w w9 := E.trans (hb4.mono E.size)
  replace HA : LRd w9 (B) a.A a.n a.c a.xs := HA.below hb4 (by omega)
  replace PA : Bk2 w9 (w.heap.size) (.bool true) (.slice a.A a.n a.c) := PA.below hb4 PA.lt
  replace PR : Bk2 w9 (w.heap.size + 1) (.bool false) (.slice none 0 0) := PR.below hb4 PR.lt
  replace PF : Bk2 w9 (w.heap.size + 2) (.int .i64 0) (.int .i64 0) := PF.below hb4 PF.lt
  clear hb4
  have y_PR0 : w9.cell? ⟨w.heap.size + 1, 0, none⟩ = some ((.bool false)) := PR.c0
  have z_PR0 : w9.frozen? ⟨w.heap.size + 1, 0, none⟩ = false := PR.z0
  have y_PR1 : w9.cell? ⟨w.heap.size + 1, 1, none⟩ = some ((.slice none 0 0)) := PR.c1
  have z_PR1 : w9.frozen? ⟨w.heap.size + 1, 1, none⟩ = false := PR.z1
  have lt_PR := PR.lt
  have y_PF0 : w9.cell? ⟨w.heap.size + 2, 0, none⟩ = some ((.int .i64 0)) := PF.c0
  have z_PF0 : w9.frozen? ⟨w.heap.size + 2, 0, none⟩ = false := PF.z0
  have y_PF1 : w9.cell? ⟨w.heap.size + 2, 1, none⟩ = some ((.int .i64 0)) := PF.c1
  have z_PF1 : w9.frozen? ⟨w.heap.size + 2, 1, none⟩ = false := PF.z1
  have lt_PF := PF.lt
  go_wp2_with fail
  clear y_PR0 z_PR0 y_PR1 z_PR1 lt_PR y_PF0 z_PF0 y_PF1 z_PF1 lt_PF
  obtain ⟨U2PR, hU2PR⟩ : ∃ U2PR : World, U2PR = ((w9.setCell ⟨w.heap.size + 1, 0, none⟩ (.bool m4)).setCell ⟨w.heap.size + 1, 1, none⟩ (.slice A4 k4 c4)) := ⟨_, rfl⟩
  have zU2PR : U2PR.heap.size = w9.heap.size := by rw [hU2PR]; simp [World.setCell]
  replace E : Below w.heap.size w U2PR := by rw [hU2PR]; exact (E.setCell (by first | (simp; done) | (simp; omega)) _).setCell (by first | (simp; done) | (simp; omega)) _
  replace HA : LRd U2PR (B) a.A a.n a.c a.xs := by rw [hU2PR]; first | exact HA.setB PR (by simp) (by simp) _ _ | exact HA.setFar2 (by omega) _ _
  replace PA : Bk2 U2PR (w.heap.size) (.bool true) (.slice a.A a.n a.c) := by rw [hU2PR]; exact PA.far2 (by omega) _ _
  replace PF : Bk2 U2PR (w.heap.size + 2) (.int .i64 0) (.int .i64 0) := by rw [hU2PR]; exact PF.far2 (by omega) _ _
  replace hl4 : LRd U2PR (w9.heap.size) A4 k4 c4 x4 := by rw [hU2PR]; first | exact hl4.setB PR (by simp) (by simp) _ _ | exact hl4.setFar2 (by omega) _ _
  replace PR : Bk2 U2PR (w.heap.size + 1) (.bool m4) (.slice A4 k4 c4) := by rw [hU2PR]; exact PR.set _ _
  rw [← hU2PR]
  clear hU2PR
  have zU2PR' := Nat.le_of_eq zU2PR
  replace zU2PR := Nat.le_of_eq zU2PR.symm
  obtain ⟨U2PF, hU2PF⟩ : ∃ U2PF : World, U2PF = ((U2PR.setCell ⟨w.heap.size + 2, 0, none⟩ (.int .i64 0)).setCell ⟨w.heap.size + 2, 1, none⟩ (.int .i64 0)) := ⟨_, rfl⟩
  have zU2PF : U2PF.heap.size = U2PR.heap.size := by rw [hU2PF]; simp [World.setCell]
  replace E : Below w.heap.size w U2PF := by rw [hU2PF]; exact (E.setCell (by first | (simp; done) | (simp; omega)) _).setCell (by first | (simp; done) | (simp; omega)) _
  replace HA : LRd U2PF (B) a.A a.n a.c a.xs := by rw [hU2PF]; first | exact HA.setB PF (by simp) (by simp) _ _ | exact HA.setFar2 (by omega) _ _
  replace PA : Bk2 U2PF (w.heap.size) (.bool true) (.slice a.A a.n a.c) := by rw [hU2PF]; exact PA.far2 (by omega) _ _
  replace PR : Bk2 U2PF (w.heap.size + 1) (.bool m4) (.slice A4 k4 c4) := by rw [hU2PF]; exact PR.far2 (by omega) _ _
  replace hl4 : LRd U2PF (w9.heap.size) A4 k4 c4 x4 := by rw [hU2PF]; first | exact hl4.setB PF (by simp) (by simp) _ _ | exact hl4.setFar2 (by omega) _ _
  replace PF : Bk2 U2PF (w.heap.size + 2) (.int .i64 0) (.int .i64 0) := by rw [hU2PF]; exact PF.set _ _
  rw [← hU2PF]
  clear hU2PF
  have zU2PF' := Nat.le_of_eq zU2PF
  replace zU2PF := Nat.le_of_eq zU2PF.symm
  obtain ⟨f0, f1, _, _, _⟩ := PF
  obtain ⟨r0, r1, _, _, _⟩ := PR
  have hlt := Lib.hid (show (zshift a.val i).natAbs < Top128 from by
    have h1 := HT.out
    have h2 : a.val < 0 := IV.neg_lt oa HA.lim hn.out
    exact neg_shift_lt h2 hi h1)
  refine bodyPost_ret (v := .tuple #[intv m4 A4 k4 c4, flt 0 0]) (by simp [results, Try.results53, go_sem, f0, f1, r0, r1]) rfl (.inl ⟨hlt.out, m4, A4, k4, c4, x4, rfl, hl4.more (by omega), R4.out, E⟩)
set_option maxHeartbeats 4000000 in
theorem ishift_pt (w : World) (B : Nat) (a : IV) (i : Int) (i1 : -9223372036854775808 ≤ i) (i2 : i ≤ 9223372036854775807) (HA : a.at w B) (hB : B ≤ w.heap.size) (oa : a.ok = true) (hn : Hid (a.neg = true)) (hi : 0 ≤ i) :
    Calls Try.prog 53 #[a.v, .int .i64 i] w (GivesVL w (zshift a.val i)) := by
  replace HA : LRd w B a.A a.n a.c a.xs := HA
  have E : Below w.heap.size w w := Below.refl _ _
  have IR := Lib.hid (irow1 (((w.alloc a.cells).alloc (.cells #[.bool false, .slice none 0 0] 24)).alloc (.cells #[.int .i64 0, .int .i64 0] 26)) B a (((HA.alloc (by omega) _).alloc (by simp; omega) _).alloc (by simp; omega) _) (by simp; omega))
  go_enter Try.func53, Try.ntmps53
  go_wp2_with fail
  obtain ⟨V0, hV0⟩ : ∃ V0 : World, V0 = ((((w.alloc (.cells #[.bool a.neg, .slice a.A a.n a.c] 24)).alloc (.cells #[.bool false, .slice none 0 0] 24)).alloc (.cells #[.int .i64 0, .int .i64 0] 26)).alloc (.cells #[.bool a.neg, .slice a.A a.n a.c] 24)) := ⟨_, rfl⟩
  have bV0 : Below w.heap.size w V0 := by rw [hV0]; (repeat (first | with_reducible exact Below.refl _ _ | with_reducible refine Below.drew ?_ | with_reducible refine below_drewN ?_ _ | with_reducible refine Below.setCell ?_ (by first | (simp; done) | (simp; omega) | omega) _ | with_reducible refine Below.alloc ?_ (by first | (simp; done) | (simp; omega) | omega) _))
  have zV0 : w.heap.size + 4 ≤ V0.heap.size := by rw [hV0]; simp
  have PA : Bk2 V0 (w.heap.size) (.bool a.neg) (.slice a.A a.n a.c) := by rw [hV0]; exact ((((Bk2.newAt _ _ (by simp) _ _ _).alloc _).alloc _).alloc _)
  have PR : Bk2 V0 (w.heap.size + 1) (.bool false) (.slice none 0 0) := by rw [hV0]; exact (((Bk2.newAt _ _ (by simp) _ _ _).alloc _).alloc _)
  have PF : Bk2 V0 (w.heap.size + 2) (.int .i64 0) (.int .i64 0) := by rw [hV0]; exact ((Bk2.newAt _ _ (by simp) _ _ _).alloc _)
  replace IR : Hid (IRow V0 B (w.heap.size + 3) [a]) := by have h9 := IR.out; rw [hV0]; rw [show (((w.alloc a.cells).alloc (.cells #[.bool false, .slice none 0 0] 24)).alloc (.cells #[.int .i64 0, .int .i64 0] 26)).heap.size = w.heap.size + 3 by simp] at h9; exact h9
  rw [← hV0]
  clear hV0
  replace E : Below w.heap.size w V0 := E.trans (bV0.mono E.size)
  replace HA : LRd V0 (B) a.A a.n a.c a.xs := HA.below bV0 (by omega)
  clear bV0
  (with_reducible refine (check_any _ B (w.heap.size + 3) 1 [a] IR.out rfl (by omega) (by omega)).mono ?_)
  rintro e w1 ⟨rfl, hb1⟩
  have sw1 := hb1.size
  replace E : Below w.heap.size w w1 := E.trans (hb1.mono E.size)
  replace HA : LRd w1 (B) a.A a.n a.c a.xs := HA.below hb1 (by omega)
  replace PA : Bk2 w1 (w.heap.size) (.bool a.neg) (.slice a.A a.n a.c) := PA.below hb1 PA.lt
  replace PR : Bk2 w1 (w.heap.size + 1) (.bool false) (.slice none 0 0) := PR.below hb1 PR.lt
  replace PF : Bk2 w1 (w.heap.size + 2) (.int .i64 0) (.int .i64 0) := PF.below hb1 PF.lt
  clear hb1
  rw [one_ok oa]
  clear IR
  rw [hn.out] at PA
  have t_PA0 : (w1.alloc (.cells #[.int .i64 0, .int .i64 0] 26)).cell? ⟨w.heap.size, 0, none⟩ = some ((.bool true)) := (PA.alloc _).c0
  have t_PA1 : (w1.alloc (.cells #[.int .i64 0, .int .i64 0] 26)).cell? ⟨w.heap.size, 1, none⟩ = some ((.slice a.A a.n a.c)) := (PA.alloc _).c1
  go_wp2_with fail
  clear t_PA0 t_PA1
  obtain ⟨V1, hV1⟩ : ∃ V1 : World, V1 = (w1.alloc (.cells #[.int .i64 0, .int .i64 0] 26)) := ⟨_, rfl⟩
  have bV1 : Below w1.heap.size w1 V1 := by rw [hV1]; (repeat (first | with_reducible exact Below.refl _ _ | with_reducible refine Below.drew ?_ | with_reducible refine below_drewN ?_ _ | with_reducible refine Below.setCell ?_ (by first | (simp; done) | (simp; omega) | omega) _ | with_reducible refine Below.alloc ?_ (by first | (simp; done) | (simp; omega) | omega) _))
  have zV1 : w1.heap.size + 1 ≤ V1.heap.size := by rw [hV1]; simp
  have PQ : Bk2 V1 (w1.heap.size) (.int .i64 0) (.int .i64 0) := by rw [hV1]; exact (Bk2.newAt _ _ (by simp) _ _ _)
  rw [← hV1]
  clear hV1
  replace E : Below w.heap.size w V1 := E.trans (bV1.mono E.size)
  replace HA : LRd V1 (B) a.A a.n a.c a.xs := HA.below bV1 (by omega)
  replace PA : Bk2 V1 (w.heap.size) (.bool true) (.slice a.A a.n a.c) := PA.below bV1 PA.lt
  replace PR : Bk2 V1 (w.heap.size + 1) (.bool false) (.slice none 0 0) := PR.below bV1 PR.lt
  replace PF : Bk2 V1 (w.heap.size + 2) (.int .i64 0) (.int .i64 0) := PF.below bV1 PF.lt
  clear bV1
  clear PQ
  refine (shift_ok _ B a.A a.n a.c i a.xs HA (by omega) (IV.vld oa).1 ⟨i1, i2⟩).mono ?_
  rintro e w6 ⟨v, u1, u2, hsv, A6, k6, c6, x6, rfl, hl6, hr6, hb6⟩
  have R6 := Lib.hid hr6
  have SV := Lib.hid hsv
  have s6 := hb6.size
  clear hr6
  replace E : Below w.heap.size w w6 := E.trans (hb6.mono E.size)
  replace HA : LRd w6 (B) a.A a.n a.c a.xs := HA.below hb6 (by omega)
  replace PA : Bk2 w6 (w.heap.size) (.bool true) (.slice a.A a.n a.c) := PA.below hb6 PA.lt
  replace PR : Bk2 w6 (w.heap.size + 1) (.bool false) (.slice none 0 0) := PR.below hb6 PR.lt
  replace PF : Bk2 w6 (w.heap.size + 2) (.int .i64 0) (.int .i64 0) := PF.below hb6 PF.lt
  clear hb6
  rcases shift_cases hsv with ⟨rfl, rfl⟩ | ⟨rfl, rfl, hq1, hq2⟩
  · have HZ := Lib.hid (show sval true v = zshift a.val i from by
      have h1 := pos_shift (neg := a.neg) SV.out ⟨rfl, rfl⟩ (nbits_hi HA.lim) (fun h => hi) (fun h => by
        rcases Nat.eq_zero_or_pos a.xs.length with e | e
        · rw [List.eq_nil_of_length_eq_zero e]; rfl
        · exact Nat.lt_one_iff.1 (by have := nbits_hi HA.lim; rw [h] at this; exact this))
      rw [hn.out] at h1
      rw [h1]; unfold IV.val; rw [hn.out])
    clear hsv
    have t_PA0 : (w6.alloc (.cells #[.int .i64 0, .int .i64 0] 26)).cell? ⟨w.heap.size, 0, none⟩ = some ((.bool true)) := (PA.alloc _).c0
    have t_PA1 : (w6.alloc (.cells #[.int .i64 0, .int .i64 0] 26)).cell? ⟨w.heap.size, 1, none⟩ = some ((.slice a.A a.n a.c)) := (PA.alloc _).c1
    go_wp2_with fail
    clear t_PA0 t_PA1
    obtain ⟨V2, hV2⟩ : ∃ V2 : World, V2 = (w6.alloc (.cells #[.int .i64 0, .int .i64 0] 26)) := ⟨_, rfl⟩
    have bV2 : Below w6.heap.size w6 V2 := by rw [hV2]; (repeat (first | with_reducible exact Below.refl _ _ | with_reducible refine Below.drew ?_ | with_reducible refine below_drewN ?_ _ | with_reducible refine Below.setCell ?_ (by first | (simp; done) | (simp; omega) | omega) _ | with_reducible refine Below.alloc ?_ (by first | (simp; done) | (simp; omega) | omega) _))
    have zV2 : w6.heap.size + 1 ≤ V2.heap.size := by rw [hV2]; simp
    have F8 : Bk2 V2 (w6.heap.size) (.int .i64 0) (.int .i64 0) := by rw [hV2]; exact (Bk2.newAt _ _ (by simp) _ _ _)
    rw [← hV2]
    clear hV2
    replace E : Below w.heap.size w V2 := E.trans (bV2.mono E.size)
    replace HA : LRd V2 (B) a.A a.n a.c a.xs := HA.below bV2 (by omega)
    replace PA : Bk2 V2 (w.heap.size) (.bool true) (.slice a.A a.n a.c) := PA.below bV2 PA.lt
    replace PR : Bk2 V2 (w.heap.size + 1) (.bool false) (.slice none 0 0) := PR.below bV2 PR.lt
    replace PF : Bk2 V2 (w.heap.size + 2) (.int .i64 0) (.int .i64 0) := PF.below bV2 PF.lt
    replace hl6 : LRd V2 (w6.heap.size) A6 k6 c6 x6 := hl6.below bV2 (by omega)
    clear bV2
    clear F8
    refine (ilimited_any _ true A6 k6 c6 v x6 (hl6.more (by omega)) R6.out).mono ?_
    rintro e w9 hv
    rw [HZ.out] at hv
    clear hl6
    obtain ⟨z4, f4, g4, hy4, m4, A4, k4, c4, x4, rfl, hl4, hr4, hb4⟩ := vl_yr hv
    clear hv
    have R4 := Lib.hid hr4
    have Y4 := Lib.hid hy4
    have sw9 := hb4.size
    clear hr4 hy4
    replace E : Below w.heap.size w w9 := E.trans (hb4.mono E.size)
    replace HA : LRd w9 (B) a.A a.n a.c a.xs := HA.below hb4 (by omega)
    replace PA : Bk2 w9 (w.heap.size) (.bool true) (.slice a.A a.n a.c) := PA.below hb4 PA.lt
    replace PR : Bk2 w9 (w.heap.size + 1) (.bool false) (.slice none 0 0) := PR.below hb4 PR.lt
    replace PF : Bk2 w9 (w.heap.size + 2) (.int .i64 0) (.int .i64 0) := PF.below hb4 PF.lt
    clear hb4
    have y_PR0 : w9.cell? ⟨w.heap.size + 1, 0, none⟩ = some ((.bool false)) := PR.c0
    have z_PR0 : w9.frozen? ⟨w.heap.size + 1, 0, none⟩ = false := PR.z0
    have y_PR1 : w9.cell? ⟨w.heap.size + 1, 1, none⟩ = some ((.slice none 0 0)) := PR.c1
    have z_PR1 : w9.frozen? ⟨w.heap.size + 1, 1, none⟩ = false := PR.z1
    have lt_PR := PR.lt
    have y_PF0 : w9.cell? ⟨w.heap.size + 2, 0, none⟩ = some ((.int .i64 0)) := PF.c0
    have z_PF0 : w9.frozen? ⟨w.heap.size + 2, 0, none⟩ = false := PF.z0
    have y_PF1 : w9.cell? ⟨w.heap.size + 2, 1, none⟩ = some ((.int .i64 0)) := PF.c1
    have z_PF1 : w9.frozen? ⟨w.heap.size + 2, 1, none⟩ = false := PF.z1
    have lt_PF := PF.lt
    go_wp2_with fail
    clear y_PR0 z_PR0 y_PR1 z_PR1 lt_PR y_PF0 z_PF0 y_PF1 z_PF1 lt_PF
    obtain ⟨U3PR, hU3PR⟩ : ∃ U3PR : World, U3PR = ((w9.setCell ⟨w.heap.size + 1, 0, none⟩ (.bool m4)).setCell ⟨w.heap.size + 1, 1, none⟩ (.slice A4 k4 c4)) := ⟨_, rfl⟩
    have zU3PR : U3PR.heap.size = w9.heap.size := by rw [hU3PR]; simp [World.setCell]
    replace E : Below w.heap.size w U3PR := by rw [hU3PR]; exact (E.setCell (by first | (simp; done) | (simp; omega)) _).setCell (by first | (simp; done) | (simp; omega)) _
    replace HA : LRd U3PR (B) a.A a.n a.c a.xs := by rw [hU3PR]; first | exact HA.setB PR (by simp) (by simp) _ _ | exact HA.setFar2 (by omega) _ _
    replace PA : Bk2 U3PR (w.heap.size) (.bool true) (.slice a.A a.n a.c) := by rw [hU3PR]; exact PA.far2 (by omega) _ _
    replace PF : Bk2 U3PR (w.heap.size + 2) (.int .i64 0) (.int .i64 0) := by rw [hU3PR]; exact PF.far2 (by omega) _ _
    replace hl4 : LRd U3PR (w9.heap.size) A4 k4 c4 x4 := by rw [hU3PR]; first | exact hl4.setB PR (by simp) (by simp) _ _ | exact hl4.setFar2 (by omega) _ _
    replace PR : Bk2 U3PR (w.heap.size + 1) (.bool m4) (.slice A4 k4 c4) := by rw [hU3PR]; exact PR.set _ _
    rw [← hU3PR]
    clear hU3PR
    have zU3PR' := Nat.le_of_eq zU3PR
    replace zU3PR := Nat.le_of_eq zU3PR.symm
    obtain ⟨U3PF, hU3PF⟩ : ∃ U3PF : World, U3PF = ((U3PR.setCell ⟨w.heap.size + 2, 0, none⟩ (.int .i64 f4)).setCell ⟨w.heap.size + 2, 1, none⟩ (.int .i64 g4)) := ⟨_, rfl⟩
    have zU3PF : U3PF.heap.size = U3PR.heap.size := by rw [hU3PF]; simp [World.setCell]
    replace E : Below w.heap.size w U3PF := by rw [hU3PF]; exact (E.setCell (by first | (simp; done) | (simp; omega)) _).setCell (by first | (simp; done) | (simp; omega)) _
    replace HA : LRd U3PF (B) a.A a.n a.c a.xs := by rw [hU3PF]; first | exact HA.setB PF (by simp) (by simp) _ _ | exact HA.setFar2 (by omega) _ _
    replace PA : Bk2 U3PF (w.heap.size) (.bool true) (.slice a.A a.n a.c) := by rw [hU3PF]; exact PA.far2 (by omega) _ _
    replace PR : Bk2 U3PF (w.heap.size + 1) (.bool m4) (.slice A4 k4 c4) := by rw [hU3PF]; exact PR.far2 (by omega) _ _
    replace hl4 : LRd U3PF (w9.heap.size) A4 k4 c4 x4 := by rw [hU3PF]; first | exact hl4.setB PF (by simp) (by simp) _ _ | exact hl4.setFar2 (by omega) _ _
    replace PF : Bk2 U3PF (w.heap.size + 2) (.int .i64 f4) (.int .i64 g4) := by rw [hU3PF]; exact PF.set _ _
    rw [← hU3PF]
    clear hU3PF
    have zU3PF' := Nat.le_of_eq zU3PF
    replace zU3PF := Nat.le_of_eq zU3PF.symm
    obtain ⟨f0, f1, _, _, _⟩ := PF
    obtain ⟨r0, r1, _, _, _⟩ := PR
    refine bodyPost_ret (v := .tuple #[intv m4 A4 k4 c4, flt f4 g4]) (by simp [results, Try.results53, go_sem, f0, f1, r0, r1]) rfl (yr_vl Y4.out ⟨m4, A4, k4, c4, x4, rfl, hl4.more (by omega), R4.out, E⟩)
  · have Q1 := Lib.hid hq1
    have Q2 := Lib.hid hq2
    clear hsv hq1 hq2
    clear hl6
    go_wp2_with fail
    obtain ⟨V2, hV2⟩ : ∃ V2 : World, V2 = (w6.alloc (.cells #[.int .i64 14, .int .i64 (-1)] 26)) := ⟨_, rfl⟩
    have bV2 : Below w6.heap.size w6 V2 := by rw [hV2]; (repeat (first | with_reducible exact Below.refl _ _ | with_reducible refine Below.drew ?_ | with_reducible refine below_drewN ?_ _ | with_reducible refine Below.setCell ?_ (by first | (simp; done) | (simp; omega) | omega) _ | with_reducible refine Below.alloc ?_ (by first | (simp; done) | (simp; omega) | omega) _))
    have zV2 : w6.heap.size + 1 ≤ V2.heap.size := by rw [hV2]; simp
    have F8 : Bk2 V2 (w6.heap.size) (.int .i64 14) (.int .i64 (-1)) := by rw [hV2]; exact (Bk2.newAt _ _ (by simp) _ _ _)
    rw [← hV2]
    clear hV2
    replace E : Below w.heap.size w V2 := E.trans (bV2.mono E.size)
    replace HA : LRd V2 (B) a.A a.n a.c a.xs := HA.below bV2 (by omega)
    replace PA : Bk2 V2 (w.heap.size) (.bool true) (.slice a.A a.n a.c) := PA.below bV2 PA.lt
    replace PR : Bk2 V2 (w.heap.size + 1) (.bool false) (.slice none 0 0) := PR.below bV2 PR.lt
    replace PF : Bk2 V2 (w.heap.size + 2) (.int .i64 0) (.int .i64 0) := PF.below bV2 PF.lt
    clear bV2
    have hbg := Lib.hid (show Top128 ≤ (zshift a.val i).natAbs from by
      have hv9 := IV.vld oa
      have h1 : a.xs.length ≠ 0 := fun e => Q1.out (.inl (nbits_nil e))
      exact big_shift Q1.out Q2.out (by have := nbits_le HA.lim; omega) (nbits_lo HA.lim (vld_top hv9.1).1 h1))
    clear PA HA
    obtain ⟨f0, f1, z0, z1, _⟩ := PF
    obtain ⟨r0, r1, y0, y1, _⟩ := PR
    obtain ⟨x0, x1, _, _, _⟩ := F8
    go_region
    all_goals (go_wp2_with fail)
    all_goals
      refine bodyPost_ret (v := .tuple #[intv false none 0 0, flt 14 (-1)]) (by simp [results, Try.results53, go_sem, f0, f1, r0, r1]) rfl (.inr ⟨hbg.out, false, none, 0, 0, [], rfl, nil_lrd _, irep0, ?_⟩)
      (repeat (first | with_reducible exact Below.refl _ _ | with_reducible exact E | with_reducible refine Below.drew ?_ | with_reducible refine below_drewN ?_ _ | with_reducible refine Below.setCell ?_ (by first | (simp; done) | (simp; omega) | omega) _ | with_reducible refine Below.alloc ?_ (by first | (simp; done) | (simp; omega) | omega) _))
set_option maxHeartbeats 4000000 in
theorem ishift_pf (w : World) (B : Nat) (a : IV) (i : Int) (i1 : -9223372036854775808 ≤ i) (i2 : i ≤ 9223372036854775807) (HA : a.at w B) (hB : B ≤ w.heap.size) (oa : a.ok = true) (hn : Hid (a.neg = false)) :
    Calls Try.prog 53 #[a.v, .int .i64 i] w (GivesVL w (zshift a.val i)) := by
  replace HA : LRd w B a.A a.n a.c a.xs := HA
  have E : Below w.heap.size w w := Below.refl _ _
  have IR := Lib.hid (irow1 (((w.alloc a.cells).alloc (.cells #[.bool false, .slice none 0 0] 24)).alloc (.cells #[.int .i64 0, .int .i64 0] 26)) B a (((HA.alloc (by omega) _).alloc (by simp; omega) _).alloc (by simp; omega) _) (by simp; omega))
  go_enter Try.func53, Try.ntmps53
  go_wp2_with fail
  obtain ⟨V0, hV0⟩ : ∃ V0 : World, V0 = ((((w.alloc (.cells #[.bool a.neg, .slice a.A a.n a.c] 24)).alloc (.cells #[.bool false, .slice none 0 0] 24)).alloc (.cells #[.int .i64 0, .int .i64 0] 26)).alloc (.cells #[.bool a.neg, .slice a.A a.n a.c] 24)) := ⟨_, rfl⟩
  have bV0 : Below w.heap.size w V0 := by rw [hV0]; (repeat (first | with_reducible exact Below.refl _ _ | with_reducible refine Below.drew ?_ | with_reducible refine below_drewN ?_ _ | with_reducible refine Below.setCell ?_ (by first | (simp; done) | (simp; omega) | omega) _ | with_reducible refine Below.alloc ?_ (by first | (simp; done) | (simp; omega) | omega) _))
  have zV0 : w.heap.size + 4 ≤ V0.heap.size := by rw [hV0]; simp
  have PA : Bk2 V0 (w.heap.size) (.bool a.neg) (.slice a.A a.n a.c) := by rw [hV0]; exact ((((Bk2.newAt _ _ (by simp) _ _ _).alloc _).alloc _).alloc _)
  have PR : Bk2 V0 (w.heap.size + 1) (.bool false) (.slice none 0 0) := by rw [hV0]; exact (((Bk2.newAt _ _ (by simp) _ _ _).alloc _).alloc _)
  have PF : Bk2 V0 (w.heap.size + 2) (.int .i64 0) (.int .i64 0) := by rw [hV0]; exact ((Bk2.newAt _ _ (by simp) _ _ _).alloc _)
  replace IR : Hid (IRow V0 B (w.heap.size + 3) [a]) := by have h9 := IR.out; rw [hV0]; rw [show (((w.alloc a.cells).alloc (.cells #[.bool false, .slice none 0 0] 24)).alloc (.cells #[.int .i64 0, .int .i64 0] 26)).heap.size = w.heap.size + 3 by simp] at h9; exact h9
  rw [← hV0]
  clear hV0
  replace E : Below w.heap.size w V0 := E.trans (bV0.mono E.size)
  replace HA : LRd V0 (B) a.A a.n a.c a.xs := HA.below bV0 (by omega)
  clear bV0
  (with_reducible refine (check_any _ B (w.heap.size + 3) 1 [a] IR.out rfl (by omega) (by omega)).mono ?_)
  rintro e w1 ⟨rfl, hb1⟩
  have sw1 := hb1.size
  replace E : Below w.heap.size w w1 := E.trans (hb1.mono E.size)
  replace HA : LRd w1 (B) a.A a.n a.c a.xs := HA.below hb1 (by omega)
  replace PA : Bk2 w1 (w.heap.size) (.bool a.neg) (.slice a.A a.n a.c) := PA.below hb1 PA.lt
  replace PR : Bk2 w1 (w.heap.size + 1) (.bool false) (.slice none 0 0) := PR.below hb1 PR.lt
  replace PF : Bk2 w1 (w.heap.size + 2) (.int .i64 0) (.int .i64 0) := PF.below hb1 PF.lt
  clear hb1
  rw [one_ok oa]
  clear IR
  rw [hn.out] at PA
  have t_PA0 : (w1.alloc (.cells #[.int .i64 0, .int .i64 0] 26)).cell? ⟨w.heap.size, 0, none⟩ = some ((.bool false)) := (PA.alloc _).c0
  have t_PA1 : (w1.alloc (.cells #[.int .i64 0, .int .i64 0] 26)).cell? ⟨w.heap.size, 1, none⟩ = some ((.slice a.A a.n a.c)) := (PA.alloc _).c1
  go_wp2_with fail
  clear t_PA0 t_PA1
  obtain ⟨V1, hV1⟩ : ∃ V1 : World, V1 = (w1.alloc (.cells #[.int .i64 0, .int .i64 0] 26)) := ⟨_, rfl⟩
  have bV1 : Below w1.heap.size w1 V1 := by rw [hV1]; (repeat (first | with_reducible exact Below.refl _ _ | with_reducible refine Below.drew ?_ | with_reducible refine below_drewN ?_ _ | with_reducible refine Below.setCell ?_ (by first | (simp; done) | (simp; omega) | omega) _ | with_reducible refine Below.alloc ?_ (by first | (simp; done) | (simp; omega) | omega) _))
  have zV1 : w1.heap.size + 1 ≤ V1.heap.size := by rw [hV1]; simp
  have PQ : Bk2 V1 (w1.heap.size) (.int .i64 0) (.int .i64 0) := by rw [hV1]; exact (Bk2.newAt _ _ (by simp) _ _ _)
  rw [← hV1]
  clear hV1
  replace E : Below w.heap.size w V1 := E.trans (bV1.mono E.size)
  replace HA : LRd V1 (B) a.A a.n a.c a.xs := HA.below bV1 (by omega)
  replace PA : Bk2 V1 (w.heap.size) (.bool false) (.slice a.A a.n a.c) := PA.below bV1 PA.lt
  replace PR : Bk2 V1 (w.heap.size + 1) (.bool false) (.slice none 0 0) := PR.below bV1 PR.lt
  replace PF : Bk2 V1 (w.heap.size + 2) (.int .i64 0) (.int .i64 0) := PF.below bV1 PF.lt
  clear bV1
  clear PQ
  refine (shift_ok _ B a.A a.n a.c i a.xs HA (by omega) (IV.vld oa).1 ⟨i1, i2⟩).mono ?_
  rintro e w6 ⟨v, u1, u2, hsv, A6, k6, c6, x6, rfl, hl6, hr6, hb6⟩
  have R6 := Lib.hid hr6
  have SV := Lib.hid hsv
  have s6 := hb6.size
  clear hr6
  replace E : Below w.heap.size w w6 := E.trans (hb6.mono E.size)
  replace HA : LRd w6 (B) a.A a.n a.c a.xs := HA.below hb6 (by omega)
  replace PA : Bk2 w6 (w.heap.size) (.bool false) (.slice a.A a.n a.c) := PA.below hb6 PA.lt
  replace PR : Bk2 w6 (w.heap.size + 1) (.bool false) (.slice none 0 0) := PR.below hb6 PR.lt
  replace PF : Bk2 w6 (w.heap.size + 2) (.int .i64 0) (.int .i64 0) := PF.below hb6 PF.lt
  clear hb6
  rcases shift_cases hsv with ⟨rfl, rfl⟩ | ⟨rfl, rfl, hq1, hq2⟩
  · have HZ := Lib.hid (show sval false v = zshift a.val i from by
      have h1 := pos_shift (neg := a.neg) SV.out ⟨rfl, rfl⟩ (nbits_hi HA.lim) (fun h => absurd (h.symm.trans hn.out) (by decide)) (fun h => by
        rcases Nat.eq_zero_or_pos a.xs.length with e | e
        · rw [List.eq_nil_of_length_eq_zero e]; rfl
        · exact Nat.lt_one_iff.1 (by have := nbits_hi HA.lim; rw [h] at this; exact this))
      rw [hn.out] at h1
      rw [h1]; unfold IV.val; rw [hn.out])
    clear hsv
    have t_PA0 : (w6.alloc (.cells #[.int .i64 0, .int .i64 0] 26)).cell? ⟨w.heap.size, 0, none⟩ = some ((.bool false)) := (PA.alloc _).c0
    have t_PA1 : (w6.alloc (.cells #[.int .i64 0, .int .i64 0] 26)).cell? ⟨w.heap.size, 1, none⟩ = some ((.slice a.A a.n a.c)) := (PA.alloc _).c1
    go_wp2_with fail
    clear t_PA0 t_PA1
    obtain ⟨V2, hV2⟩ : ∃ V2 : World, V2 = (w6.alloc (.cells #[.int .i64 0, .int .i64 0] 26)) := ⟨_, rfl⟩
    have bV2 : Below w6.heap.size w6 V2 := by rw [hV2]; (repeat (first | with_reducible exact Below.refl _ _ | with_reducible refine Below.drew ?_ | with_reducible refine below_drewN ?_ _ | with_reducible refine Below.setCell ?_ (by first | (simp; done) | (simp; omega) | omega) _ | with_reducible refine Below.alloc ?_ (by first | (simp; done) | (simp; omega) | omega) _))
    have zV2 : w6.heap.size + 1 ≤ V2.heap.size := by rw [hV2]; simp
    have F8 : Bk2 V2 (w6.heap.size) (.int .i64 0) (.int .i64 0) := by rw [hV2]; exact (Bk2.newAt _ _ (by simp) _ _ _)
    rw [← hV2]
    clear hV2
    replace E : Below w.heap.size w V2 := E.trans (bV2.mono E.size)
    replace HA : LRd V2 (B) a.A a.n a.c a.xs := HA.below bV2 (by omega)
    replace PA : Bk2 V2 (w.heap.size) (.bool false) (.slice a.A a.n a.c) := PA.below bV2 PA.lt
    replace PR : Bk2 V2 (w.heap.size + 1) (.bool false) (.slice none 0 0) := PR.below bV2 PR.lt
    replace PF : Bk2 V2 (w.heap.size + 2) (.int .i64 0) (.int .i64 0) := PF.below bV2 PF.lt
    replace hl6 : LRd V2 (w6.heap.size) A6 k6 c6 x6 := hl6.below bV2 (by omega)
    clear bV2
    clear F8
    refine (ilimited_any _ false A6 k6 c6 v x6 (hl6.more (by omega)) R6.out).mono ?_
    rintro e w9 hv
    rw [HZ.out] at hv
    clear hl6
    obtain ⟨z4, f4, g4, hy4, m4, A4, k4, c4, x4, rfl, hl4, hr4, hb4⟩ := vl_yr hv
    clear hv
    have R4 := Lib.hid hr4
    have Y4 := Lib.hid hy4
    have sw9 := hb4.size
    clear hr4 hy4
    replace E : Below w.heap.size w w9 := E.trans (hb4.mono E.size)
    replace HA : LRd w9 (B) a.A a.n a.c a.xs := HA.below hb4 (by omega)
    replace PA : Bk2 w9 (w.heap.size) (.bool false) (.slice a.A a.n a.c) := PA.below hb4 PA.lt
    replace PR : Bk2 w9 (w.heap.size + 1) (.bool false) (.slice none 0 0) := PR.below hb4 PR.lt
    replace PF : Bk2 w9 (w.heap.size + 2) (.int .i64 0) (.int .i64 0) := PF.below hb4 PF.lt
    clear hb4
    have y_PR0 : w9.cell? ⟨w.heap.size + 1, 0, none⟩ = some ((.bool false)) := PR.c0
    have z_PR0 : w9.frozen? ⟨w.heap.size + 1, 0, none⟩ = false := PR.z0
    have y_PR1 : w9.cell? ⟨w.heap.size + 1, 1, none⟩ = some ((.slice none 0 0)) := PR.c1
    have z_PR1 : w9.frozen? ⟨w.heap.size + 1, 1, none⟩ = false := PR.z1
    have lt_PR := PR.lt
    have y_PF0 : w9.cell? ⟨w.heap.size + 2, 0, none⟩ = some ((.int .i64 0)) := PF.c0
    have z_PF0 : w9.frozen? ⟨w.heap.size + 2, 0, none⟩ = false := PF.z0
    have y_PF1 : w9.cell? ⟨w.heap.size + 2, 1, none⟩ = some ((.int .i64 0)) := PF.c1
    have z_PF1 : w9.frozen? ⟨w.heap.size + 2, 1, none⟩ = false := PF.z1
    have lt_PF := PF.lt
    go_wp2_with fail
    clear y_PR0 z_PR0 y_PR1 z_PR1 lt_PR y_PF0 z_PF0 y_PF1 z_PF1 lt_PF
    obtain ⟨U3PR, hU3PR⟩ : ∃ U3PR : World, U3PR = ((w9.setCell ⟨w.heap.size + 1, 0, none⟩ (.bool m4)).setCell ⟨w.heap.size + 1, 1, none⟩ (.slice A4 k4 c4)) := ⟨_, rfl⟩
    have zU3PR : U3PR.heap.size = w9.heap.size := by rw [hU3PR]; simp [World.setCell]
    replace E : Below w.heap.size w U3PR := by rw [hU3PR]; exact (E.setCell (by first | (simp; done) | (simp; omega)) _).setCell (by first | (simp; done) | (simp; omega)) _
    replace HA : LRd U3PR (B) a.A a.n a.c a.xs := by rw [hU3PR]; first | exact HA.setB PR (by simp) (by simp) _ _ | exact HA.setFar2 (by omega) _ _
    replace PA : Bk2 U3PR (w.heap.size) (.bool false) (.slice a.A a.n a.c) := by rw [hU3PR]; exact PA.far2 (by omega) _ _
    replace PF : Bk2 U3PR (w.heap.size + 2) (.int .i64 0) (.int .i64 0) := by rw [hU3PR]; exact PF.far2 (by omega) _ _
    replace hl4 : LRd U3PR (w9.heap.size) A4 k4 c4 x4 := by rw [hU3PR]; first | exact hl4.setB PR (by simp) (by simp) _ _ | exact hl4.setFar2 (by omega) _ _
    replace PR : Bk2 U3PR (w.heap.size + 1) (.bool m4) (.slice A4 k4 c4) := by rw [hU3PR]; exact PR.set _ _
    rw [← hU3PR]
    clear hU3PR
    have zU3PR' := Nat.le_of_eq zU3PR
    replace zU3PR := Nat.le_of_eq zU3PR.symm
    obtain ⟨U3PF, hU3PF⟩ : ∃ U3PF : World, U3PF = ((U3PR.setCell ⟨w.heap.size + 2, 0, none⟩ (.int .i64 f4)).setCell ⟨w.heap.size + 2, 1, none⟩ (.int .i64 g4)) := ⟨_, rfl⟩
    have zU3PF : U3PF.heap.size = U3PR.heap.size := by rw [hU3PF]; simp [World.setCell]
    replace E : Below w.heap.size w U3PF := by rw [hU3PF]; exact (E.setCell (by first | (simp; done) | (simp; omega)) _).setCell (by first | (simp; done) | (simp; omega)) _
    replace HA : LRd U3PF (B) a.A a.n a.c a.xs := by rw [hU3PF]; first | exact HA.setB PF (by simp) (by simp) _ _ | exact HA.setFar2 (by omega) _ _
    replace PA : Bk2 U3PF (w.heap.size) (.bool false) (.slice a.A a.n a.c) := by rw [hU3PF]; exact PA.far2 (by omega) _ _
    replace PR : Bk2 U3PF (w.heap.size + 1) (.bool m4) (.slice A4 k4 c4) := by rw [hU3PF]; exact PR.far2 (by omega) _ _
    replace hl4 : LRd U3PF (w9.heap.size) A4 k4 c4 x4 := by rw [hU3PF]; first | exact hl4.setB PF (by simp) (by simp) _ _ | exact hl4.setFar2 (by omega) _ _
    replace PF : Bk2 U3PF (w.heap.size + 2) (.int .i64 f4) (.int .i64 g4) := by rw [hU3PF]; exact PF.set _ _
    rw [← hU3PF]
    clear hU3PF
    have zU3PF' := Nat.le_of_eq zU3PF
    replace zU3PF := Nat.le_of_eq zU3PF.symm
    obtain ⟨f0, f1, _, _, _⟩ := PF
    obtain ⟨r0, r1, _, _, _⟩ := PR
    refine bodyPost_ret (v := .tuple #[intv m4 A4 k4 c4, flt f4 g4]) (by simp [results, Try.results53, go_sem, f0, f1, r0, r1]) rfl (yr_vl Y4.out ⟨m4, A4, k4, c4, x4, rfl, hl4.more (by omega), R4.out, E⟩)
  · have Q1 := Lib.hid hq1
    have Q2 := Lib.hid hq2
    clear hsv hq1 hq2
    clear hl6
    go_wp2_with fail
    obtain ⟨V2, hV2⟩ : ∃ V2 : World, V2 = (w6.alloc (.cells #[.int .i64 14, .int .i64 (-1)] 26)) := ⟨_, rfl⟩
    have bV2 : Below w6.heap.size w6 V2 := by rw [hV2]; (repeat (first | with_reducible exact Below.refl _ _ | with_reducible refine Below.drew ?_ | with_reducible refine below_drewN ?_ _ | with_reducible refine Below.setCell ?_ (by first | (simp; done) | (simp; omega) | omega) _ | with_reducible refine Below.alloc ?_ (by first | (simp; done) | (simp; omega) | omega) _))
    have zV2 : w6.heap.size + 1 ≤ V2.heap.size := by rw [hV2]; simp
    have F8 : Bk2 V2 (w6.heap.size) (.int .i64 14) (.int .i64 (-1)) := by rw [hV2]; exact (Bk2.newAt _ _ (by simp) _ _ _)
    rw [← hV2]
    clear hV2
    replace E : Below w.heap.size w V2 := E.trans (bV2.mono E.size)
    replace HA : LRd V2 (B) a.A a.n a.c a.xs := HA.below bV2 (by omega)
    replace PA : Bk2 V2 (w.heap.size) (.bool false) (.slice a.A a.n a.c) := PA.below bV2 PA.lt
    replace PR : Bk2 V2 (w.heap.size + 1) (.bool false) (.slice none 0 0) := PR.below bV2 PR.lt
    replace PF : Bk2 V2 (w.heap.size + 2) (.int .i64 0) (.int .i64 0) := PF.below bV2 PF.lt
    clear bV2
    have hbg := Lib.hid (show Top128 ≤ (zshift a.val i).natAbs from by
      have hv9 := IV.vld oa
      have h1 : a.xs.length ≠ 0 := fun e => Q1.out (.inl (nbits_nil e))
      exact big_shift Q1.out Q2.out (by have := nbits_le HA.lim; omega) (nbits_lo HA.lim (vld_top hv9.1).1 h1))
    clear PA HA
    obtain ⟨f0, f1, z0, z1, _⟩ := PF
    obtain ⟨r0, r1, y0, y1, _⟩ := PR
    obtain ⟨x0, x1, _, _, _⟩ := F8
    go_region
    all_goals (go_wp2_with fail)
    all_goals
      refine bodyPost_ret (v := .tuple #[intv false none 0 0, flt 14 (-1)]) (by simp [results, Try.results53, go_sem, f0, f1, r0, r1]) rfl (.inr ⟨hbg.out, false, none, 0, 0, [], rfl, nil_lrd _, irep0, ?_⟩)
      (repeat (first | with_reducible exact Below.refl _ _ | with_reducible exact E | with_reducible refine Below.drew ?_ | with_reducible refine below_drewN ?_ _ | with_reducible refine Below.setCell ?_ (by first | (simp; done) | (simp; omega) | omega) _ | with_reducible refine Below.alloc ?_ (by first | (simp; done) | (simp; omega) | omega) _))
set_option maxHeartbeats 4000000 in
theorem ishift_bad (w : World) (B : Nat) (a : IV) (i : Int) (i1 : -9223372036854775808 ≤ i) (i2 : i ≤ 9223372036854775807) (HA : a.at w B) (hB : B ≤ w.heap.size) (f2 : Int) (hf : ffault [a] 0 = (6, f2)) :
    Calls Try.prog 53 #[a.v, .int .i64 i] w (GivesVF w 0 6 f2) := by
  replace HA : LRd w B a.A a.n a.c a.xs := HA
  have E : Below w.heap.size w w := Below.refl _ _
  have IR := Lib.hid (irow1 (((w.alloc a.cells).alloc (.cells #[.bool false, .slice none 0 0] 24)).alloc (.cells #[.int .i64 0, .int .i64 0] 26)) B a (((HA.alloc (by omega) _).alloc (by simp; omega) _).alloc (by simp; omega) _) (by simp; omega))
  go_enter Try.func53, Try.ntmps53
  go_wp2_with fail
  obtain ⟨V0, hV0⟩ : ∃ V0 : World, V0 = ((((w.alloc (.cells #[.bool a.neg, .slice a.A a.n a.c] 24)).alloc (.cells #[.bool false, .slice none 0 0] 24)).alloc (.cells #[.int .i64 0, .int .i64 0] 26)).alloc (.cells #[.bool a.neg, .slice a.A a.n a.c] 24)) := ⟨_, rfl⟩
  have bV0 : Below w.heap.size w V0 := by rw [hV0]; (repeat (first | with_reducible exact Below.refl _ _ | with_reducible refine Below.drew ?_ | with_reducible refine below_drewN ?_ _ | with_reducible refine Below.setCell ?_ (by first | (simp; done) | (simp; omega) | omega) _ | with_reducible refine Below.alloc ?_ (by first | (simp; done) | (simp; omega) | omega) _))
  have zV0 : w.heap.size + 4 ≤ V0.heap.size := by rw [hV0]; simp
  have PA : Bk2 V0 (w.heap.size) (.bool a.neg) (.slice a.A a.n a.c) := by rw [hV0]; exact ((((Bk2.newAt _ _ (by simp) _ _ _).alloc _).alloc _).alloc _)
  have PR : Bk2 V0 (w.heap.size + 1) (.bool false) (.slice none 0 0) := by rw [hV0]; exact (((Bk2.newAt _ _ (by simp) _ _ _).alloc _).alloc _)
  have PF : Bk2 V0 (w.heap.size + 2) (.int .i64 0) (.int .i64 0) := by rw [hV0]; exact ((Bk2.newAt _ _ (by simp) _ _ _).alloc _)
  replace IR : Hid (IRow V0 B (w.heap.size + 3) [a]) := by have h9 := IR.out; rw [hV0]; rw [show (((w.alloc a.cells).alloc (.cells #[.bool false, .slice none 0 0] 24)).alloc (.cells #[.int .i64 0, .int .i64 0] 26)).heap.size = w.heap.size + 3 by simp] at h9; exact h9
  rw [← hV0]
  clear hV0
  replace E : Below w.heap.size w V0 := E.trans (bV0.mono E.size)
  replace HA : LRd V0 (B) a.A a.n a.c a.xs := HA.below bV0 (by omega)
  clear bV0
  (with_reducible refine (check_any _ B (w.heap.size + 3) 1 [a] IR.out rfl (by omega) (by omega)).mono ?_)
  rintro e w1 ⟨rfl, hb1⟩
  have sw1 := hb1.size
  replace E : Below w.heap.size w w1 := E.trans (hb1.mono E.size)
  replace HA : LRd w1 (B) a.A a.n a.c a.xs := HA.below hb1 (by omega)
  replace PA : Bk2 w1 (w.heap.size) (.bool a.neg) (.slice a.A a.n a.c) := PA.below hb1 PA.lt
  replace PR : Bk2 w1 (w.heap.size + 1) (.bool false) (.slice none 0 0) := PR.below hb1 PR.lt
  replace PF : Bk2 w1 (w.heap.size + 2) (.int .i64 0) (.int .i64 0) := PF.below hb1 PF.lt
  clear hb1
  rw [hf]
  clear IR
  go_wp2_with fail
  obtain ⟨V1, hV1⟩ : ∃ V1 : World, V1 = (w1.alloc (.cells #[.int .i64 6, .int .i64 f2] 26)) := ⟨_, rfl⟩
  have bV1 : Below w1.heap.size w1 V1 := by rw [hV1]; (repeat (first | with_reducible exact Below.refl _ _ | with_reducible refine Below.drew ?_ | with_reducible refine below_drewN ?_ _ | with_reducible refine Below.setCell ?_ (by first | (simp; done) | (simp; omega) | omega) _ | with_reducible refine Below.alloc ?_ (by first | (simp; done) | (simp; omega) | omega) _))
  have zV1 : w1.heap.size + 1 ≤ V1.heap.size := by rw [hV1]; simp
  have PQ : Bk2 V1 (w1.heap.size) (.int .i64 6) (.int .i64 f2) := by rw [hV1]; exact (Bk2.newAt _ _ (by simp) _ _ _)
  rw [← hV1]
  clear hV1
  replace E : Below w.heap.size w V1 := E.trans (bV1.mono E.size)
  replace HA : LRd V1 (B) a.A a.n a.c a.xs := HA.below bV1 (by omega)
  replace PA : Bk2 V1 (w.heap.size) (.bool a.neg) (.slice a.A a.n a.c) := PA.below bV1 PA.lt
  replace PR : Bk2 V1 (w.heap.size + 1) (.bool false) (.slice none 0 0) := PR.below bV1 PR.lt
  replace PF : Bk2 V1 (w.heap.size + 2) (.int .i64 0) (.int .i64 0) := PF.below bV1 PF.lt
  clear bV1
  obtain ⟨f0, f1, z0, z1, _⟩ := PF
  obtain ⟨r0, r1, y0, y1, _⟩ := PR
  obtain ⟨x0, x1, _, _, _⟩ := PQ
  clear PA HA hf
  go_region
  all_goals (go_wp2_with fail)
  all_goals
    refine bodyPost_ret (v := .tuple #[intv false none 0 0, flt 6 f2]) (by simp [results, Try.results53, go_sem, f0, f1, r0, r1]) rfl ⟨false, none, 0, 0, [], rfl, nil_lrd _, irep0, ?_⟩
    (repeat (first | with_reducible exact Below.refl _ _ | with_reducible exact E | with_reducible refine Below.drew ?_ | with_reducible refine below_drewN ?_ _ | with_reducible refine Below.setCell ?_ (by first | (simp; done) | (simp; omega) | omega) _ | with_reducible refine Below.alloc ?_ (by first | (simp; done) | (simp; omega) | omega) _))
theorem ishift_ok (w : World) (B : Nat) (a : IV) (i : Int) (i1 : -9223372036854775808 ≤ i) (i2 : i ≤ 9223372036854775807) (HA : a.at w B) (hB : B ≤ w.heap.size) (oa : a.ok = true) :
    Calls Try.prog 53 #[a.v, .int .i64 i] w (GivesVL w (zshift a.val i)) := by
  cases hn : a.neg
  · exact ishift_pf w B a i i1 i2 HA hB oa (Lib.hid hn)
  · rcases Int.lt_or_le i 0 with h | h
    · have HT : a.val.natAbs < Top128 := by
        show (sval a.neg (vb 4294967296 a.xs)).natAbs < _
        rw [sval_abs]
        exact lt128 (⟨HA.lim, rfl, (vld_top (IV.vld oa).1).1⟩ : Rep 4294967296 a.xs _) rfl (IV.vld oa).2
      exact ishift_neg w B a i i1 i2 HA hB oa (Lib.hid hn) h (Lib.hid HT)
    · exact ishift_pt w B a i i1 i2 HA hB oa (Lib.hid hn) h
end Go.Proofs.Ytpjfoggohhlbdaa
