/- The program's Pow. -/
import Derived.Test.YtflmcgoijofpdaaGreatAPow3
import Derived.Test.YtflmcgoijofpdaaGreatAInt23
namespace Go.Proofs.YtflmcgoijofpdaaGreat
open Go.RowKit
set_option maxHeartbeats 400000
set_option maxRecDepth 100000
set_option linter.unusedSimpArgs false
set_option linter.unusedVariables false

theorem pow_sign (m : Bool) (p n : Nat) : sval m p ^ n = sval (m && decide (n % 2 = 1)) (p ^ n) := by
  cases m
  · simp [sval]
  · have key : ∀ n : Nat, (-(p : Int)) ^ n = if n % 2 = 1 then -((p ^ n : Nat) : Int) else ((p ^ n : Nat) : Int) := by
      intro n
      induction n with
      | zero => simp
      | succ n ih =>
        rw [Int.pow_succ, ih]
        rcases Nat.mod_two_eq_zero_or_one n with h | h
        · rw [if_neg (by omega), if_pos (by omega), Nat.pow_succ]
          push_cast
          rw [Int.mul_neg]
        · rw [if_pos h, if_neg (by omega), Nat.pow_succ]
          push_cast
          rw [Int.neg_mul_neg]
    rw [show sval true p = -(p : Int) from rfl, key]
    by_cases h : n % 2 = 1
    · simp [h, sval]
    · simp [h, sval]
theorem Bk2.grown {w w' : World} {s g : Nat} {u v : Value} (h : Bk2 w s u v) (hg : w.grownBy w' (some g)) (hne : s ≠ g) : Bk2 w' s u v := by
  have hb := hg.block s h.lt (fun e => hne (by injection e))
  exact ⟨(World.cell?_of_block (w := w) hb).trans h.c0, (World.cell?_of_block (w := w) hb).trans h.c1, (World.frozen?_of_block (w := w) hb).trans h.z0, (World.frozen?_of_block (w := w) hb).trans h.z1, Nat.lt_of_lt_of_le h.lt hg.size⟩
theorem odd_b (n : Nat) : (((n : Int) % 2 == 1)) = decide (n % 2 = 1) := by
  rw [Bool.eq_iff_iff]
  simp
  omega
theorem int_limbs (m : Bool) (A : Option Addr) (k c : Nat) (w : World) : (Instr.field 24 (.agg #[.bool m, .slice A k c]) 1).run Tryz.prog w = .ok (.slice A k c) w := rfl
theorem run_make (fn : Fn) (first cap : Array Value) (w : World) : (Instr.makeFunc fn first cap).run Tryz.prog w = .ok (.func fn first cap) w := rfl
set_option maxHeartbeats 4000000 in
theorem ipow_true (w : World) (B : Nat) (a : IV) (n : Nat) (HA : a.at w B) (hB : B ≤ w.heap.size) (oa : a.ok = true) (hs : Hid (a.neg = true)) (hn : n ≤ 10000) :
    Calls Tryz.prog 71 #[a.v, .int .i64 (n : Int)] w (GivesVL w (a.val ^ n)) := by
  replace HA : LRd w B a.A a.n a.c a.xs := HA
  have E : Below w.heap.size w w := Below.refl _ _
  have IR := Lib.hid (irow1 (((w.alloc a.cells).alloc (.cells #[.bool false, .slice none 0 0] 24)).alloc (.cells #[.int .i64 0, .int .i64 0] 28)) B a (((HA.alloc (by omega) _).alloc (by simp; omega) _).alloc (by simp; omega) _) (by simp; omega))
  go_enter Tryz.func71, Tryz.ntmps71
  go_wp2_with fail
  obtain ⟨V0, hV0⟩ : ∃ V0 : World, V0 = ((((w.alloc (.cells #[.bool a.neg, .slice a.A a.n a.c] 24)).alloc (.cells #[.bool false, .slice none 0 0] 24)).alloc (.cells #[.int .i64 0, .int .i64 0] 28)).alloc (.cells #[.bool a.neg, .slice a.A a.n a.c] 24)) := ⟨_, rfl⟩
  have bV0 : Below w.heap.size w V0 := by rw [hV0]; (repeat (first | with_reducible exact Below.refl _ _ | with_reducible refine Below.drew ?_ | with_reducible refine below_drewN ?_ _ | with_reducible refine Below.setCell ?_ (by first | (simp; done) | (simp; omega) | omega) _ | with_reducible refine Below.alloc ?_ (by first | (simp; done) | (simp; omega) | omega) _))
  have zV0 : w.heap.size + 4 ≤ V0.heap.size := by rw [hV0]; simp
  have PA : Bk2 V0 (w.heap.size) (.bool a.neg) (.slice a.A a.n a.c) := by rw [hV0]; exact ((((Bk2.newAt _ _ (by simp) _ _ _).alloc _).alloc _).alloc _)
  have PR : Bk2 V0 (w.heap.size + 1) (.bool false) (.slice none 0 0) := by rw [hV0]; exact (((Bk2.newAt _ _ (by simp) _ _ _).alloc _).alloc _)
  have PF : Bk2 V0 (w.heap.size + 2) (.int .i64 0) (.int .i64 0) := by rw [hV0]; exact ((Bk2.newAt _ _ (by simp) _ _ _).alloc _)
  replace IR : Hid (IRow V0 B (w.heap.size + 3) [a]) := by have h9 := IR.out; rw [hV0]; rw [show (((w.alloc a.cells).alloc (.cells #[.bool false, .slice none 0 0] 24)).alloc (.cells #[.int .i64 0, .int .i64 0] 28)).heap.size = w.heap.size + 3 by simp] at h9; exact h9
  rw [← hV0]
  clear hV0
  replace E := E.trans (bV0.mono E.size)
  replace HA := HA.below bV0 (by omega)
  clear bV0
  (with_reducible refine (check_any _ B (w.heap.size + 3) 1 [a] IR.out rfl (by omega) (by omega)).mono ?_)
  rintro e w1 ⟨rfl, hb1⟩
  have sw1 := hb1.size
  replace E := E.trans (hb1.mono E.size)
  replace HA := HA.below hb1 (by omega)
  replace PA := PA.below hb1 PA.lt
  replace PR := PR.below hb1 PR.lt
  replace PF := PF.below hb1 PF.lt
  clear hb1
  rw [one_ok oa]
  clear IR
  have hnn : (0 : Int) ≤ (n : Int) := by omega
  have hn2 : (n : Int) ≤ 10000 := by omega
  go_upto_region 6 with fail
  obtain ⟨V1, hV1⟩ : ∃ V1 : World, V1 = (w1.alloc (.cells #[.int .i64 0, .int .i64 0] 28)) := ⟨_, rfl⟩
  have bV1 : Below w1.heap.size w1 V1 := by rw [hV1]; (repeat (first | with_reducible exact Below.refl _ _ | with_reducible refine Below.drew ?_ | with_reducible refine below_drewN ?_ _ | with_reducible refine Below.setCell ?_ (by first | (simp; done) | (simp; omega) | omega) _ | with_reducible refine Below.alloc ?_ (by first | (simp; done) | (simp; omega) | omega) _))
  have zV1 : w1.heap.size + 1 ≤ V1.heap.size := by rw [hV1]; simp
  have PQ : Bk2 V1 (w1.heap.size) (.int .i64 0) (.int .i64 0) := by rw [hV1]; exact (Bk2.newAt _ _ (by simp) _ _ _)
  rw [← hV1]
  clear hV1
  replace E := E.trans (bV1.mono E.size)
  replace HA := HA.below bV1 (by omega)
  replace PA := PA.below bV1 PA.lt
  replace PR := PR.below bV1 PR.lt
  replace PF := PF.below bV1 PF.lt
  clear bV1
  clear PQ
  rw [hs.out] at PA
  go_upto_region 7 with fail
  obtain ⟨V6, hV6⟩ : ∃ V6 : World, V6 = (V1.alloc (.cells #[.bool false] 4)) := ⟨_, rfl⟩
  have bV6 : Below V1.heap.size V1 V6 := by rw [hV6]; exact bl1 _ _
  have RG : Row V6 V1.heap.size 4 [.bool false] := by rw [hV6]; exact Row.new _ _ _
  have zV6 : V1.heap.size + 1 ≤ V6.heap.size := by rw [hV6]; simp
  rw [← hV6]
  clear hV6
  replace E := E.trans (bV6.mono E.size)
  replace HA := HA.below bV6 (by omega)
  replace PA := PA.below bV6 PA.lt
  replace PR := PR.below bV6 PR.lt
  replace PF := PF.below bV6 PF.lt
  clear bV6
  obtain ⟨g, hgd⟩ : ∃ g, V1.heap.size = g := ⟨_, rfl⟩
  rw [hgd] at RG zV6 ⊢
  have hgw : w.heap.size + 3 ≤ g := by omega
  have hfl := fun (m : Bool) (A : Option Addr) (k c : Nat) (w : World) => int_limbs m A k c w
  have hmk := fun (fn : Fn) (first cap : Array Value) (w : World) => run_make fn first cap w
  have E6 := Lib.hid E
  have zE6 := E.size
  have G0 : Below V6.heap.size V6 V6.drew := Below.drew (Below.refl _ _)
  have HS : V6.cell? ⟨w.heap.size, 0, none⟩ = some (.bool true) ∧ V6.cell? ⟨w.heap.size, 1, none⟩ = some (.slice a.A a.n a.c) := ⟨PA.c0, PA.c1⟩
  have HSB := Lib.hid (fun (u : World) (hu : Below V6.heap.size V6 u) => (⟨(PA.below hu PA.lt).c0, (PA.below hu PA.lt).c1⟩ : u.cell? ⟨w.heap.size, 0, none⟩ = some (.bool true) ∧ u.cell? ⟨w.heap.size, 1, none⟩ = some (.slice a.A a.n a.c)))
  have HP1 := Lib.hid (⟨HA.lim, rfl, (vld_top (IV.vld oa).1).1⟩ : Rep 4294967296 a.xs (vb 4294967296 a.xs))
  have HAL := (IV.vld oa).2
  have HAN := HA.len.out
  go_region_held3 (fun u => u.cell? ⟨w.heap.size, 0, none⟩ = some (.bool true) ∧ u.cell? ⟨w.heap.size, 1, none⟩ = some (.slice a.A a.n a.c))
    (first | with_reducible exact HSB.out _ G0 | with_reducible exact HSB.out _ B2 | with_reducible exact HSB.out _ B1 | (exact ⟨PA3.c0, PA3.c1⟩) | fail)
    (first
      | (go_at_call 63; (with_reducible refine (iof_any _ (n : Int) (by omega) (by omega)).mono ?_); rintro e u1 ⟨m4, A4, k4, c4, x4, rfl, hl4, hr4, hb4⟩; have B1 : Below V6.heap.size V6 u1 := bnext G0 hb4; have R4 := Lib.hid hr4; have kl4 : k4 ≤ 128 := (by have := irep_len hr4 (lt_top (by omega)); have := hl4.len.out; omega); clear hr4)
      | (go_at_call 109; (with_reducible refine (one_any _).mono ?_); rintro e u2 ⟨A5, k5, c5, x5, rfl, hl5, hr5, hb5⟩; have B2 : Below V6.heap.size V6 u2 := bnext B1 hb5; have R5 := Lib.hid hr5; have kl5 : k5 ≤ 128 := (by have := hr5.length_le (m := 1) (by decide) (by decide); have := hl5.len.out; omega); clear hr5)
      | (go_at_call 108; (with_reducible refine (power1_any _ _ g a.A A4 A5 a.n k4 k5 a.c c4 c5 (vb 4294967296 a.xs) (n : Int).natAbs a.xs x4 x5 ((HA.below B2 (by omega)).more (by have := B2.size; omega)) ((hl4.below hb5 (Nat.le_refl _)).more hb5.size) hl5 (Nat.le_refl _) HP1.out R4.out.rep R5.out (by omega) kl4 kl5 (Row.below RG B2 (by omega))).mono ?_); rintro e u3 ⟨A7, k7, c7, x7, v7, fl, rfl, hl7, hr7, hk7, RG7, hgr, hfin⟩; have R7 := Lib.hid hr7; have F7 := Lib.hid hfin; have PA3 := (PA.below B2 PA.lt).grown hgr (by omega); have PR3 := (PR.below B2 PR.lt).grown hgr (by omega); have PF3 := (PF.below B2 PF.lt).grown hgr (by omega); have E3 : Below w.heap.size w u3 := Below.grown (E6.out.trans (B2.mono zE6)) hgr (by have := B2.size; omega) (fun k hk => by injection hk; omega); clear hr7 hfin)
      | fail)

  all_goals
    clear HS HSB
    have zE3 := E3.size
    have HPV := Lib.hid (show (a.val ^ n).natAbs = vb 4294967296 a.xs ^ n by rw [sval_val, pow_sign, sval_abs])
    rcases fl with _ | _
    · have t0 : u3.cell? ⟨g, 0, none⟩ = some (.bool false) := Row.cell RG7 0
      have a0 : u3.cell? ⟨w.heap.size, 0, none⟩ = some (.bool true) := PA3.c0
      have HV7 := Lib.hid (show v7 = vb 4294967296 a.xs ^ n from F7.out.elim (fun h => h.2) (fun h => by cases h.1))
      have hsm := Lib.hid (show (a.val ^ n).natAbs < Top128 by rw [HPV.out, ← HV7.out]; exact lt128 R7.out hl7.len.out hk7)
      have HSG := Lib.hid (show sval ((n : Int) % 2 == 1) v7 = a.val ^ n by rw [sval_val, pow_sign, hs.out, HV7.out]; rw [odd_b, Bool.true_and])
      go_wp2_with fail
      clear t0 a0
      clear PA3
      (with_reducible refine (signed_any _ ((n : Int) % 2 == 1) A7 k7 c7 v7 x7 hl7 R7.out).mono ?_)
      rintro e u8 ⟨m8, A8, k8, c8, x8, rfl, hl8, hr8, hb8⟩
      have su8 := hb8.size
      replace E3 := E3.trans (hb8.mono E3.size)
      replace PR3 := PR3.below hb8 PR3.lt
      replace PF3 := PF3.below hb8 PF3.lt
      replace hl7 := hl7.below hb8 (by omega)
      clear hb8
      clear hl7
      rw [HSG.out] at hr8
      have R8 := Lib.hid hr8
      clear hr8
      have y_PR30 := PR3.c0
      have z_PR30 := PR3.z0
      have y_PR31 := PR3.c1
      have z_PR31 := PR3.z1
      have lt_PR3 := PR3.lt
      have y_PF30 := PF3.c0
      have z_PF30 := PF3.z0
      have y_PF31 := PF3.c1
      have z_PF31 := PF3.z1
      have lt_PF3 := PF3.lt
      go_wp2_with fail
      clear y_PR30 z_PR30 y_PR31 z_PR31 lt_PR3 y_PF30 z_PF30 y_PF31 z_PF31 lt_PF3
      obtain ⟨U0PR3, hU0PR3⟩ : ∃ U0PR3 : World, U0PR3 = ((u8.setCell ⟨w.heap.size + 1, 0, none⟩ (.bool m8)).setCell ⟨w.heap.size + 1, 1, none⟩ (.slice A8 k8 c8)) := ⟨_, rfl⟩
      have zU0PR3 : U0PR3.heap.size = u8.heap.size := by rw [hU0PR3]; simp [World.setCell]
      replace E3 : Below w.heap.size w U0PR3 := by rw [hU0PR3]; exact (E3.setCell (by first | (simp; done) | (simp; omega)) _).setCell (by first | (simp; done) | (simp; omega)) _
      replace PF3 : Bk2 U0PR3 (w.heap.size + 2) (.int .i64 0) (.int .i64 0) := by rw [hU0PR3]; exact PF3.far2 (by omega) _ _
      replace hl8 : LRd U0PR3 (u8.heap.size) A8 k8 c8 x8 := by rw [hU0PR3]; first | exact hl8.setB PR3 (by simp) (by simp) _ _ | exact hl8.setFar2 (by omega) _ _
      replace PR3 : Bk2 U0PR3 (w.heap.size + 1) (.bool m8) (.slice A8 k8 c8) := by rw [hU0PR3]; exact PR3.set _ _
      rw [← hU0PR3]
      clear hU0PR3
      have zU0PR3' := Nat.le_of_eq zU0PR3
      replace zU0PR3 := Nat.le_of_eq zU0PR3.symm
      obtain ⟨U0PF3, hU0PF3⟩ : ∃ U0PF3 : World, U0PF3 = ((U0PR3.setCell ⟨w.heap.size + 2, 0, none⟩ (.int .i64 0)).setCell ⟨w.heap.size + 2, 1, none⟩ (.int .i64 0)) := ⟨_, rfl⟩
      have zU0PF3 : U0PF3.heap.size = U0PR3.heap.size := by rw [hU0PF3]; simp [World.setCell]
      replace E3 : Below w.heap.size w U0PF3 := by rw [hU0PF3]; exact (E3.setCell (by first | (simp; done) | (simp; omega)) _).setCell (by first | (simp; done) | (simp; omega)) _
      replace PR3 : Bk2 U0PF3 (w.heap.size + 1) (.bool m8) (.slice A8 k8 c8) := by rw [hU0PF3]; exact PR3.far2 (by omega) _ _
      replace hl8 : LRd U0PF3 (u8.heap.size) A8 k8 c8 x8 := by rw [hU0PF3]; first | exact hl8.setB PF3 (by simp) (by simp) _ _ | exact hl8.setFar2 (by omega) _ _
      replace PF3 : Bk2 U0PF3 (w.heap.size + 2) (.int .i64 0) (.int .i64 0) := by rw [hU0PF3]; exact PF3.set _ _
      rw [← hU0PF3]
      clear hU0PF3
      have zU0PF3' := Nat.le_of_eq zU0PF3
      replace zU0PF3 := Nat.le_of_eq zU0PF3.symm
      obtain ⟨f0, f1, _, _, _⟩ := PF3
      obtain ⟨r0, r1, _, _, _⟩ := PR3
      refine bodyPost_ret (v := .tuple #[intv m8 A8 k8 c8, flt 0 0]) (by simp [results, Tryz.results71, go_sem, f0, f1, r0, r1]) rfl (.inl ⟨hsm.out, m8, A8, k8, c8, x8, rfl, hl8.more (by omega), R8.out, E3⟩)
    · have t0 : u3.cell? ⟨g, 0, none⟩ = some (.bool true) := Row.cell RG7 0
      have hbig := Lib.hid (show Top128 ≤ (a.val ^ n).natAbs by rw [HPV.out]; exact (F7.out.elim (fun h => by cases h.1) (fun h => h.2)))
      go_wp2_with fail
      clear t0
      clear hl7
      (with_reducible refine (tooLarge_any _).mono ?_)
      rintro e u8 ⟨rfl, hb8⟩
      have su8 := hb8.size
      replace E3 := E3.trans (hb8.mono E3.size)
      replace PA3 := PA3.below hb8 PA3.lt
      replace PR3 := PR3.below hb8 PR3.lt
      replace PF3 := PF3.below hb8 PF3.lt
      clear hb8
      have y_PR30 := PR3.c0
      have z_PR30 := PR3.z0
      have y_PR31 := PR3.c1
      have z_PR31 := PR3.z1
      have lt_PR3 := PR3.lt
      have y_PF30 := PF3.c0
      have z_PF30 := PF3.z0
      have y_PF31 := PF3.c1
      have z_PF31 := PF3.z1
      have lt_PF3 := PF3.lt
      go_wp2_with fail
      clear y_PR30 z_PR30 y_PR31 z_PR31 lt_PR3 y_PF30 z_PF30 y_PF31 z_PF31 lt_PF3
      obtain ⟨U0PR3, hU0PR3⟩ : ∃ U0PR3 : World, U0PR3 = ((u8.setCell ⟨w.heap.size + 1, 0, none⟩ (.bool false)).setCell ⟨w.heap.size + 1, 1, none⟩ (.slice none 0 0)) := ⟨_, rfl⟩
      have zU0PR3 : U0PR3.heap.size = u8.heap.size := by rw [hU0PR3]; simp [World.setCell]
      replace E3 : Below w.heap.size w U0PR3 := by rw [hU0PR3]; exact (E3.setCell (by first | (simp; done) | (simp; omega)) _).setCell (by first | (simp; done) | (simp; omega)) _
      replace PA3 : Bk2 U0PR3 (w.heap.size) (.bool true) (.slice a.A a.n a.c) := by rw [hU0PR3]; exact PA3.far2 (by omega) _ _
      replace PF3 : Bk2 U0PR3 (w.heap.size + 2) (.int .i64 0) (.int .i64 0) := by rw [hU0PR3]; exact PF3.far2 (by omega) _ _
      replace PR3 : Bk2 U0PR3 (w.heap.size + 1) (.bool false) (.slice none 0 0) := by rw [hU0PR3]; exact PR3.set _ _
      rw [← hU0PR3]
      clear hU0PR3
      have zU0PR3' := Nat.le_of_eq zU0PR3
      replace zU0PR3 := Nat.le_of_eq zU0PR3.symm
      obtain ⟨U0PF3, hU0PF3⟩ : ∃ U0PF3 : World, U0PF3 = ((U0PR3.setCell ⟨w.heap.size + 2, 0, none⟩ (.int .i64 14)).setCell ⟨w.heap.size + 2, 1, none⟩ (.int .i64 (-1))) := ⟨_, rfl⟩
      have zU0PF3 : U0PF3.heap.size = U0PR3.heap.size := by rw [hU0PF3]; simp [World.setCell]
      replace E3 : Below w.heap.size w U0PF3 := by rw [hU0PF3]; exact (E3.setCell (by first | (simp; done) | (simp; omega)) _).setCell (by first | (simp; done) | (simp; omega)) _
      replace PA3 : Bk2 U0PF3 (w.heap.size) (.bool true) (.slice a.A a.n a.c) := by rw [hU0PF3]; exact PA3.far2 (by omega) _ _
      replace PR3 : Bk2 U0PF3 (w.heap.size + 1) (.bool false) (.slice none 0 0) := by rw [hU0PF3]; exact PR3.far2 (by omega) _ _
      replace PF3 : Bk2 U0PF3 (w.heap.size + 2) (.int .i64 14) (.int .i64 (-1)) := by rw [hU0PF3]; exact PF3.set _ _
      rw [← hU0PF3]
      clear hU0PF3
      have zU0PF3' := Nat.le_of_eq zU0PF3
      replace zU0PF3 := Nat.le_of_eq zU0PF3.symm
      obtain ⟨f0, f1, _, _, _⟩ := PF3
      obtain ⟨r0, r1, _, _, _⟩ := PR3
      refine bodyPost_ret (v := .tuple #[intv false none 0 0, flt 14 (-1)]) (by simp [results, Tryz.results71, go_sem, f0, f1, r0, r1]) rfl (.inr ⟨hbig.out, false, none, 0, 0, [], rfl, nil_lrd _, irep0, E3⟩)
set_option maxHeartbeats 4000000 in
theorem ipow_false (w : World) (B : Nat) (a : IV) (n : Nat) (HA : a.at w B) (hB : B ≤ w.heap.size) (oa : a.ok = true) (hs : Hid (a.neg = false)) (hn : n ≤ 10000) :
    Calls Tryz.prog 71 #[a.v, .int .i64 (n : Int)] w (GivesVL w (a.val ^ n)) := by
  replace HA : LRd w B a.A a.n a.c a.xs := HA
  have E : Below w.heap.size w w := Below.refl _ _
  have IR := Lib.hid (irow1 (((w.alloc a.cells).alloc (.cells #[.bool false, .slice none 0 0] 24)).alloc (.cells #[.int .i64 0, .int .i64 0] 28)) B a (((HA.alloc (by omega) _).alloc (by simp; omega) _).alloc (by simp; omega) _) (by simp; omega))
  go_enter Tryz.func71, Tryz.ntmps71
  go_wp2_with fail
  obtain ⟨V0, hV0⟩ : ∃ V0 : World, V0 = ((((w.alloc (.cells #[.bool a.neg, .slice a.A a.n a.c] 24)).alloc (.cells #[.bool false, .slice none 0 0] 24)).alloc (.cells #[.int .i64 0, .int .i64 0] 28)).alloc (.cells #[.bool a.neg, .slice a.A a.n a.c] 24)) := ⟨_, rfl⟩
  have bV0 : Below w.heap.size w V0 := by rw [hV0]; (repeat (first | with_reducible exact Below.refl _ _ | with_reducible refine Below.drew ?_ | with_reducible refine below_drewN ?_ _ | with_reducible refine Below.setCell ?_ (by first | (simp; done) | (simp; omega) | omega) _ | with_reducible refine Below.alloc ?_ (by first | (simp; done) | (simp; omega) | omega) _))
  have zV0 : w.heap.size + 4 ≤ V0.heap.size := by rw [hV0]; simp
  have PA : Bk2 V0 (w.heap.size) (.bool a.neg) (.slice a.A a.n a.c) := by rw [hV0]; exact ((((Bk2.newAt _ _ (by simp) _ _ _).alloc _).alloc _).alloc _)
  have PR : Bk2 V0 (w.heap.size + 1) (.bool false) (.slice none 0 0) := by rw [hV0]; exact (((Bk2.newAt _ _ (by simp) _ _ _).alloc _).alloc _)
  have PF : Bk2 V0 (w.heap.size + 2) (.int .i64 0) (.int .i64 0) := by rw [hV0]; exact ((Bk2.newAt _ _ (by simp) _ _ _).alloc _)
  replace IR : Hid (IRow V0 B (w.heap.size + 3) [a]) := by have h9 := IR.out; rw [hV0]; rw [show (((w.alloc a.cells).alloc (.cells #[.bool false, .slice none 0 0] 24)).alloc (.cells #[.int .i64 0, .int .i64 0] 28)).heap.size = w.heap.size + 3 by simp] at h9; exact h9
  rw [← hV0]
  clear hV0
  replace E := E.trans (bV0.mono E.size)
  replace HA := HA.below bV0 (by omega)
  clear bV0
  (with_reducible refine (check_any _ B (w.heap.size + 3) 1 [a] IR.out rfl (by omega) (by omega)).mono ?_)
  rintro e w1 ⟨rfl, hb1⟩
  have sw1 := hb1.size
  replace E := E.trans (hb1.mono E.size)
  replace HA := HA.below hb1 (by omega)
  replace PA := PA.below hb1 PA.lt
  replace PR := PR.below hb1 PR.lt
  replace PF := PF.below hb1 PF.lt
  clear hb1
  rw [one_ok oa]
  clear IR
  have hnn : (0 : Int) ≤ (n : Int) := by omega
  have hn2 : (n : Int) ≤ 10000 := by omega
  go_upto_region 6 with fail
  obtain ⟨V1, hV1⟩ : ∃ V1 : World, V1 = (w1.alloc (.cells #[.int .i64 0, .int .i64 0] 28)) := ⟨_, rfl⟩
  have bV1 : Below w1.heap.size w1 V1 := by rw [hV1]; (repeat (first | with_reducible exact Below.refl _ _ | with_reducible refine Below.drew ?_ | with_reducible refine below_drewN ?_ _ | with_reducible refine Below.setCell ?_ (by first | (simp; done) | (simp; omega) | omega) _ | with_reducible refine Below.alloc ?_ (by first | (simp; done) | (simp; omega) | omega) _))
  have zV1 : w1.heap.size + 1 ≤ V1.heap.size := by rw [hV1]; simp
  have PQ : Bk2 V1 (w1.heap.size) (.int .i64 0) (.int .i64 0) := by rw [hV1]; exact (Bk2.newAt _ _ (by simp) _ _ _)
  rw [← hV1]
  clear hV1
  replace E := E.trans (bV1.mono E.size)
  replace HA := HA.below bV1 (by omega)
  replace PA := PA.below bV1 PA.lt
  replace PR := PR.below bV1 PR.lt
  replace PF := PF.below bV1 PF.lt
  clear bV1
  clear PQ
  rw [hs.out] at PA
  go_upto_region 7 with fail
  obtain ⟨V6, hV6⟩ : ∃ V6 : World, V6 = (V1.alloc (.cells #[.bool false] 4)) := ⟨_, rfl⟩
  have bV6 : Below V1.heap.size V1 V6 := by rw [hV6]; exact bl1 _ _
  have RG : Row V6 V1.heap.size 4 [.bool false] := by rw [hV6]; exact Row.new _ _ _
  have zV6 : V1.heap.size + 1 ≤ V6.heap.size := by rw [hV6]; simp
  rw [← hV6]
  clear hV6
  replace E := E.trans (bV6.mono E.size)
  replace HA := HA.below bV6 (by omega)
  replace PA := PA.below bV6 PA.lt
  replace PR := PR.below bV6 PR.lt
  replace PF := PF.below bV6 PF.lt
  clear bV6
  obtain ⟨g, hgd⟩ : ∃ g, V1.heap.size = g := ⟨_, rfl⟩
  rw [hgd] at RG zV6 ⊢
  have hgw : w.heap.size + 3 ≤ g := by omega
  have hfl := fun (m : Bool) (A : Option Addr) (k c : Nat) (w : World) => int_limbs m A k c w
  have hmk := fun (fn : Fn) (first cap : Array Value) (w : World) => run_make fn first cap w
  have E6 := Lib.hid E
  have zE6 := E.size
  have G0 : Below V6.heap.size V6 V6.drew := Below.drew (Below.refl _ _)
  have HS : V6.cell? ⟨w.heap.size, 0, none⟩ = some (.bool false) ∧ V6.cell? ⟨w.heap.size, 1, none⟩ = some (.slice a.A a.n a.c) := ⟨PA.c0, PA.c1⟩
  have HSB := Lib.hid (fun (u : World) (hu : Below V6.heap.size V6 u) => (⟨(PA.below hu PA.lt).c0, (PA.below hu PA.lt).c1⟩ : u.cell? ⟨w.heap.size, 0, none⟩ = some (.bool false) ∧ u.cell? ⟨w.heap.size, 1, none⟩ = some (.slice a.A a.n a.c)))
  have HP1 := Lib.hid (⟨HA.lim, rfl, (vld_top (IV.vld oa).1).1⟩ : Rep 4294967296 a.xs (vb 4294967296 a.xs))
  have HAL := (IV.vld oa).2
  have HAN := HA.len.out
  go_region_held3 (fun u => u.cell? ⟨w.heap.size, 0, none⟩ = some (.bool false) ∧ u.cell? ⟨w.heap.size, 1, none⟩ = some (.slice a.A a.n a.c))
    (first | with_reducible exact HSB.out _ G0 | with_reducible exact HSB.out _ B2 | with_reducible exact HSB.out _ B1 | (exact ⟨PA3.c0, PA3.c1⟩) | fail)
    (first
      | (go_at_call 63; (with_reducible refine (iof_any _ (n : Int) (by omega) (by omega)).mono ?_); rintro e u1 ⟨m4, A4, k4, c4, x4, rfl, hl4, hr4, hb4⟩; have B1 : Below V6.heap.size V6 u1 := bnext G0 hb4; have R4 := Lib.hid hr4; have kl4 : k4 ≤ 128 := (by have := irep_len hr4 (lt_top (by omega)); have := hl4.len.out; omega); clear hr4)
      | (go_at_call 109; (with_reducible refine (one_any _).mono ?_); rintro e u2 ⟨A5, k5, c5, x5, rfl, hl5, hr5, hb5⟩; have B2 : Below V6.heap.size V6 u2 := bnext B1 hb5; have R5 := Lib.hid hr5; have kl5 : k5 ≤ 128 := (by have := hr5.length_le (m := 1) (by decide) (by decide); have := hl5.len.out; omega); clear hr5)
      | (go_at_call 108; (with_reducible refine (power1_any _ _ g a.A A4 A5 a.n k4 k5 a.c c4 c5 (vb 4294967296 a.xs) (n : Int).natAbs a.xs x4 x5 ((HA.below B2 (by omega)).more (by have := B2.size; omega)) ((hl4.below hb5 (Nat.le_refl _)).more hb5.size) hl5 (Nat.le_refl _) HP1.out R4.out.rep R5.out (by omega) kl4 kl5 (Row.below RG B2 (by omega))).mono ?_); rintro e u3 ⟨A7, k7, c7, x7, v7, fl, rfl, hl7, hr7, hk7, RG7, hgr, hfin⟩; have R7 := Lib.hid hr7; have F7 := Lib.hid hfin; have PA3 := (PA.below B2 PA.lt).grown hgr (by omega); have PR3 := (PR.below B2 PR.lt).grown hgr (by omega); have PF3 := (PF.below B2 PF.lt).grown hgr (by omega); have E3 : Below w.heap.size w u3 := Below.grown (E6.out.trans (B2.mono zE6)) hgr (by have := B2.size; omega) (fun k hk => by injection hk; omega); clear hr7 hfin)
      | fail)

  all_goals
    clear HS HSB
    have zE3 := E3.size
    have HPV := Lib.hid (show (a.val ^ n).natAbs = vb 4294967296 a.xs ^ n by rw [sval_val, pow_sign, sval_abs])
    rcases fl with _ | _
    · have t0 : u3.cell? ⟨g, 0, none⟩ = some (.bool false) := Row.cell RG7 0
      have a0 : u3.cell? ⟨w.heap.size, 0, none⟩ = some (.bool false) := PA3.c0
      have HV7 := Lib.hid (show v7 = vb 4294967296 a.xs ^ n from F7.out.elim (fun h => h.2) (fun h => by cases h.1))
      have hsm := Lib.hid (show (a.val ^ n).natAbs < Top128 by rw [HPV.out, ← HV7.out]; exact lt128 R7.out hl7.len.out hk7)
      have HSG := Lib.hid (show sval false v7 = a.val ^ n by rw [sval_val, pow_sign, hs.out, HV7.out]; rfl)
      go_wp2_with fail
      clear t0 a0
      clear PA3
      (with_reducible refine (signed_any _ false A7 k7 c7 v7 x7 hl7 R7.out).mono ?_)
      rintro e u8 ⟨m8, A8, k8, c8, x8, rfl, hl8, hr8, hb8⟩
      have su8 := hb8.size
      replace E3 := E3.trans (hb8.mono E3.size)
      replace PR3 := PR3.below hb8 PR3.lt
      replace PF3 := PF3.below hb8 PF3.lt
      replace hl7 := hl7.below hb8 (by omega)
      clear hb8
      clear hl7
      rw [HSG.out] at hr8
      have R8 := Lib.hid hr8
      clear hr8
      have y_PR30 := PR3.c0
      have z_PR30 := PR3.z0
      have y_PR31 := PR3.c1
      have z_PR31 := PR3.z1
      have lt_PR3 := PR3.lt
      have y_PF30 := PF3.c0
      have z_PF30 := PF3.z0
      have y_PF31 := PF3.c1
      have z_PF31 := PF3.z1
      have lt_PF3 := PF3.lt
      go_wp2_with fail
      clear y_PR30 z_PR30 y_PR31 z_PR31 lt_PR3 y_PF30 z_PF30 y_PF31 z_PF31 lt_PF3
      obtain ⟨U0PR3, hU0PR3⟩ : ∃ U0PR3 : World, U0PR3 = ((u8.setCell ⟨w.heap.size + 1, 0, none⟩ (.bool m8)).setCell ⟨w.heap.size + 1, 1, none⟩ (.slice A8 k8 c8)) := ⟨_, rfl⟩
      have zU0PR3 : U0PR3.heap.size = u8.heap.size := by rw [hU0PR3]; simp [World.setCell]
      replace E3 : Below w.heap.size w U0PR3 := by rw [hU0PR3]; exact (E3.setCell (by first | (simp; done) | (simp; omega)) _).setCell (by first | (simp; done) | (simp; omega)) _
      replace PF3 : Bk2 U0PR3 (w.heap.size + 2) (.int .i64 0) (.int .i64 0) := by rw [hU0PR3]; exact PF3.far2 (by omega) _ _
      replace hl8 : LRd U0PR3 (u8.heap.size) A8 k8 c8 x8 := by rw [hU0PR3]; first | exact hl8.setB PR3 (by simp) (by simp) _ _ | exact hl8.setFar2 (by omega) _ _
      replace PR3 : Bk2 U0PR3 (w.heap.size + 1) (.bool m8) (.slice A8 k8 c8) := by rw [hU0PR3]; exact PR3.set _ _
      rw [← hU0PR3]
      clear hU0PR3
      have zU0PR3' := Nat.le_of_eq zU0PR3
      replace zU0PR3 := Nat.le_of_eq zU0PR3.symm
      obtain ⟨U0PF3, hU0PF3⟩ : ∃ U0PF3 : World, U0PF3 = ((U0PR3.setCell ⟨w.heap.size + 2, 0, none⟩ (.int .i64 0)).setCell ⟨w.heap.size + 2, 1, none⟩ (.int .i64 0)) := ⟨_, rfl⟩
      have zU0PF3 : U0PF3.heap.size = U0PR3.heap.size := by rw [hU0PF3]; simp [World.setCell]
      replace E3 : Below w.heap.size w U0PF3 := by rw [hU0PF3]; exact (E3.setCell (by first | (simp; done) | (simp; omega)) _).setCell (by first | (simp; done) | (simp; omega)) _
      replace PR3 : Bk2 U0PF3 (w.heap.size + 1) (.bool m8) (.slice A8 k8 c8) := by rw [hU0PF3]; exact PR3.far2 (by omega) _ _
      replace hl8 : LRd U0PF3 (u8.heap.size) A8 k8 c8 x8 := by rw [hU0PF3]; first | exact hl8.setB PF3 (by simp) (by simp) _ _ | exact hl8.setFar2 (by omega) _ _
      replace PF3 : Bk2 U0PF3 (w.heap.size + 2) (.int .i64 0) (.int .i64 0) := by rw [hU0PF3]; exact PF3.set _ _
      rw [← hU0PF3]
      clear hU0PF3
      have zU0PF3' := Nat.le_of_eq zU0PF3
      replace zU0PF3 := Nat.le_of_eq zU0PF3.symm
      obtain ⟨f0, f1, _, _, _⟩ := PF3
      obtain ⟨r0, r1, _, _, _⟩ := PR3
      refine bodyPost_ret (v := .tuple #[intv m8 A8 k8 c8, flt 0 0]) (by simp [results, Tryz.results71, go_sem, f0, f1, r0, r1]) rfl (.inl ⟨hsm.out, m8, A8, k8, c8, x8, rfl, hl8.more (by omega), R8.out, E3⟩)
    · have t0 : u3.cell? ⟨g, 0, none⟩ = some (.bool true) := Row.cell RG7 0
      have hbig := Lib.hid (show Top128 ≤ (a.val ^ n).natAbs by rw [HPV.out]; exact (F7.out.elim (fun h => by cases h.1) (fun h => h.2)))
      go_wp2_with fail
      clear t0
      clear hl7
      (with_reducible refine (tooLarge_any _).mono ?_)
      rintro e u8 ⟨rfl, hb8⟩
      have su8 := hb8.size
      replace E3 := E3.trans (hb8.mono E3.size)
      replace PA3 := PA3.below hb8 PA3.lt
      replace PR3 := PR3.below hb8 PR3.lt
      replace PF3 := PF3.below hb8 PF3.lt
      clear hb8
      have y_PR30 := PR3.c0
      have z_PR30 := PR3.z0
      have y_PR31 := PR3.c1
      have z_PR31 := PR3.z1
      have lt_PR3 := PR3.lt
      have y_PF30 := PF3.c0
      have z_PF30 := PF3.z0
      have y_PF31 := PF3.c1
      have z_PF31 := PF3.z1
      have lt_PF3 := PF3.lt
      go_wp2_with fail
      clear y_PR30 z_PR30 y_PR31 z_PR31 lt_PR3 y_PF30 z_PF30 y_PF31 z_PF31 lt_PF3
      obtain ⟨U0PR3, hU0PR3⟩ : ∃ U0PR3 : World, U0PR3 = ((u8.setCell ⟨w.heap.size + 1, 0, none⟩ (.bool false)).setCell ⟨w.heap.size + 1, 1, none⟩ (.slice none 0 0)) := ⟨_, rfl⟩
      have zU0PR3 : U0PR3.heap.size = u8.heap.size := by rw [hU0PR3]; simp [World.setCell]
      replace E3 : Below w.heap.size w U0PR3 := by rw [hU0PR3]; exact (E3.setCell (by first | (simp; done) | (simp; omega)) _).setCell (by first | (simp; done) | (simp; omega)) _
      replace PA3 : Bk2 U0PR3 (w.heap.size) (.bool false) (.slice a.A a.n a.c) := by rw [hU0PR3]; exact PA3.far2 (by omega) _ _
      replace PF3 : Bk2 U0PR3 (w.heap.size + 2) (.int .i64 0) (.int .i64 0) := by rw [hU0PR3]; exact PF3.far2 (by omega) _ _
      replace PR3 : Bk2 U0PR3 (w.heap.size + 1) (.bool false) (.slice none 0 0) := by rw [hU0PR3]; exact PR3.set _ _
      rw [← hU0PR3]
      clear hU0PR3
      have zU0PR3' := Nat.le_of_eq zU0PR3
      replace zU0PR3 := Nat.le_of_eq zU0PR3.symm
      obtain ⟨U0PF3, hU0PF3⟩ : ∃ U0PF3 : World, U0PF3 = ((U0PR3.setCell ⟨w.heap.size + 2, 0, none⟩ (.int .i64 14)).setCell ⟨w.heap.size + 2, 1, none⟩ (.int .i64 (-1))) := ⟨_, rfl⟩
      have zU0PF3 : U0PF3.heap.size = U0PR3.heap.size := by rw [hU0PF3]; simp [World.setCell]
      replace E3 : Below w.heap.size w U0PF3 := by rw [hU0PF3]; exact (E3.setCell (by first | (simp; done) | (simp; omega)) _).setCell (by first | (simp; done) | (simp; omega)) _
      replace PA3 : Bk2 U0PF3 (w.heap.size) (.bool false) (.slice a.A a.n a.c) := by rw [hU0PF3]; exact PA3.far2 (by omega) _ _
      replace PR3 : Bk2 U0PF3 (w.heap.size + 1) (.bool false) (.slice none 0 0) := by rw [hU0PF3]; exact PR3.far2 (by omega) _ _
      replace PF3 : Bk2 U0PF3 (w.heap.size + 2) (.int .i64 14) (.int .i64 (-1)) := by rw [hU0PF3]; exact PF3.set _ _
      rw [← hU0PF3]
      clear hU0PF3
      have zU0PF3' := Nat.le_of_eq zU0PF3
      replace zU0PF3 := Nat.le_of_eq zU0PF3.symm
      obtain ⟨f0, f1, _, _, _⟩ := PF3
      obtain ⟨r0, r1, _, _, _⟩ := PR3
      refine bodyPost_ret (v := .tuple #[intv false none 0 0, flt 14 (-1)]) (by simp [results, Tryz.results71, go_sem, f0, f1, r0, r1]) rfl (.inr ⟨hbig.out, false, none, 0, 0, [], rfl, nil_lrd _, irep0, E3⟩)
end Go.Proofs.YtflmcgoijofpdaaGreat
