/- The program's PowMod. -/
import Derived.Test.YtpidkionieaffaaLPow4
import Derived.Test.YtpidkionieaffaaLRng1
namespace Go.Proofs.Ytpidkionieaffaa
open Go.RowKit
set_option maxHeartbeats 400000
set_option maxRecDepth 100000
set_option linter.unusedSimpArgs false
set_option linter.unusedVariables false

theorem ipow_ok (w : World) (B : Nat) (a : IV) (n : Nat) (HA : a.at w B) (hB : B ≤ w.heap.size) (oa : a.ok = true) (hn : n ≤ 10000) :
    Calls Try.prog 44 #[a.v, .int .i64 (n : Int)] w (GivesVL w (a.val ^ n)) := by
  by_cases hs : a.neg = true
  · exact ipow_true w B a n HA hB oa (Lib.hid hs) hn
  · exact ipow_false w B a n HA hB oa (Lib.hid (by simpa using hs)) hn
theorem emod_pow (x m : Int) (n : Nat) : (x % m) ^ n % m = x ^ n % m := by
  induction n with
  | zero => simp
  | succ n ih => rw [Int.pow_succ, Int.pow_succ, Int.mul_emod, ih, Int.emod_emod_of_dvd _ (Int.dvd_refl m), ← Int.mul_emod]
/-- The rest of a power, out of the rest of its base. -/
theorem pm_val {x m q r : Int} {n : Nat} (h : FloorOf x m q r) (hm : 0 < m) : sval false (r.natAbs ^ n % m.natAbs) = x ^ n % m := by
  obtain ⟨h1, h2⟩ := h
  have h0 : 0 ≤ r ∧ r < m := by omega
  have hr : r = x % m := by
    rw [h1, Int.add_comm, Int.add_mul_emod_self_right, Int.emod_eq_of_lt h0.1 h0.2]
  have e1 : ((r.natAbs : Nat) : Int) = r := by omega
  have e2 : ((m.natAbs : Nat) : Int) = m := by omega
  show ((r.natAbs ^ n % m.natAbs : Nat) : Int) = _
  rw [Int.natCast_emod, Int.natCast_pow, e1, e2, hr, emod_pow]
set_option maxHeartbeats 8000000 in
theorem ipm_bad (w : World) (B : Nat) (a b c : IV) (HA : a.at w B) (HB : b.at w B) (HC : c.at w B) (hB : B ≤ w.heap.size) (f2 : Int) (hf : ffault [a, b, c] 0 = (6, f2)) :
    Calls Try.prog 45 #[a.v, b.v, c.v] w (GivesVF w 0 6 f2) := by
  replace HA : LRd w B a.A a.n a.c a.xs := HA
  replace HB : LRd w B b.A b.n b.c b.xs := HB
  replace HC : LRd w B c.A c.n c.c c.xs := HC
  have E : Below w.heap.size w w := Below.refl _ _
  have IR := Lib.hid (irow3 (((((w.alloc a.cells).alloc b.cells).alloc c.cells).alloc (.cells #[.bool false, .slice none 0 0] 24)).alloc (.cells #[.int .i64 0, .int .i64 0] 26)) B a b c (((((HA.alloc (by omega) _).alloc (by simp; omega) _).alloc (by simp; omega) _).alloc (by simp; omega) _).alloc (by simp; omega) _) (((((HB.alloc (by omega) _).alloc (by simp; omega) _).alloc (by simp; omega) _).alloc (by simp; omega) _).alloc (by simp; omega) _) (((((HC.alloc (by omega) _).alloc (by simp; omega) _).alloc (by simp; omega) _).alloc (by simp; omega) _).alloc (by simp; omega) _) (by simp; omega))
  go_enter Try.func45, Try.ntmps45
  go_wp2_with fail
  obtain ⟨V0, hV0⟩ : ∃ V0 : World, V0 = ((((((w.alloc (.cells #[.bool a.neg, .slice a.A a.n a.c] 24)).alloc (.cells #[.bool b.neg, .slice b.A b.n b.c] 24)).alloc (.cells #[.bool c.neg, .slice c.A c.n c.c] 24)).alloc (.cells #[.bool false, .slice none 0 0] 24)).alloc (.cells #[.int .i64 0, .int .i64 0] 26)).alloc (.cells #[.bool a.neg, .slice a.A a.n a.c, .bool b.neg, .slice b.A b.n b.c, .bool c.neg, .slice c.A c.n c.c] 24)) := ⟨_, rfl⟩
  have bV0 : Below w.heap.size w V0 := by rw [hV0]; (repeat (first | with_reducible exact Below.refl _ _ | with_reducible refine Below.drew ?_ | with_reducible refine below_drewN ?_ _ | with_reducible refine Below.setCell ?_ (by first | (simp; done) | (simp; omega) | omega) _ | with_reducible refine Below.alloc ?_ (by first | (simp; done) | (simp; omega) | omega) _))
  have zV0 : w.heap.size + 6 ≤ V0.heap.size := by rw [hV0]; simp
  have PA : Bk2 V0 (w.heap.size) (.bool a.neg) (.slice a.A a.n a.c) := by rw [hV0]; exact ((((((Bk2.newAt _ _ (by simp) _ _ _).alloc _).alloc _).alloc _).alloc _).alloc _)
  have PB : Bk2 V0 (w.heap.size + 1) (.bool b.neg) (.slice b.A b.n b.c) := by rw [hV0]; exact (((((Bk2.newAt _ _ (by simp) _ _ _).alloc _).alloc _).alloc _).alloc _)
  have PC : Bk2 V0 (w.heap.size + 2) (.bool c.neg) (.slice c.A c.n c.c) := by rw [hV0]; exact ((((Bk2.newAt _ _ (by simp) _ _ _).alloc _).alloc _).alloc _)
  have PR : Bk2 V0 (w.heap.size + 3) (.bool false) (.slice none 0 0) := by rw [hV0]; exact (((Bk2.newAt _ _ (by simp) _ _ _).alloc _).alloc _)
  have PF : Bk2 V0 (w.heap.size + 4) (.int .i64 0) (.int .i64 0) := by rw [hV0]; exact ((Bk2.newAt _ _ (by simp) _ _ _).alloc _)
  replace IR : Hid (IRow V0 B (w.heap.size + 5) [a, b, c]) := by have h9 := IR.out; rw [hV0]; rw [show (((((w.alloc a.cells).alloc b.cells).alloc c.cells).alloc (.cells #[.bool false, .slice none 0 0] 24)).alloc (.cells #[.int .i64 0, .int .i64 0] 26)).heap.size = w.heap.size + 5 by simp] at h9; exact h9
  rw [← hV0]
  clear hV0
  replace E : Below w.heap.size w V0 := E.trans (bV0.mono E.size)
  replace HA : LRd V0 (B) a.A a.n a.c a.xs := HA.below bV0 (by omega)
  replace HB : LRd V0 (B) b.A b.n b.c b.xs := HB.below bV0 (by omega)
  replace HC : LRd V0 (B) c.A c.n c.c c.xs := HC.below bV0 (by omega)
  clear bV0
  (with_reducible refine (check_any _ B (w.heap.size + 5) 3 [a, b, c] IR.out rfl (by omega) (by omega)).mono ?_)
  rintro e w1 ⟨rfl, hb1⟩
  have sw1 := hb1.size
  replace E : Below w.heap.size w w1 := E.trans (hb1.mono E.size)
  replace HA : LRd w1 (B) a.A a.n a.c a.xs := HA.below hb1 (by omega)
  replace HB : LRd w1 (B) b.A b.n b.c b.xs := HB.below hb1 (by omega)
  replace HC : LRd w1 (B) c.A c.n c.c c.xs := HC.below hb1 (by omega)
  replace PA : Bk2 w1 (w.heap.size) (.bool a.neg) (.slice a.A a.n a.c) := PA.below hb1 PA.lt
  replace PB : Bk2 w1 (w.heap.size + 1) (.bool b.neg) (.slice b.A b.n b.c) := PB.below hb1 PB.lt
  replace PC : Bk2 w1 (w.heap.size + 2) (.bool c.neg) (.slice c.A c.n c.c) := PC.below hb1 PC.lt
  replace PR : Bk2 w1 (w.heap.size + 3) (.bool false) (.slice none 0 0) := PR.below hb1 PR.lt
  replace PF : Bk2 w1 (w.heap.size + 4) (.int .i64 0) (.int .i64 0) := PF.below hb1 PF.lt
  clear hb1
  rw [hf]
  clear IR
  go_wp2_with fail
  obtain ⟨V1, hV1⟩ : ∃ V1 : World, V1 = (w1.alloc (.cells #[.int .i64 6, .int .i64 f2] 26)) := ⟨_, rfl⟩
  have bV1 : Below w1.heap.size w1 V1 := by rw [hV1]; (repeat (first | with_reducible exact Below.refl _ _ | with_reducible refine Below.drew ?_ | with_reducible refine below_drewN ?_ _ | with_reducible refine Below.setCell ?_ (by first | (simp; done) | (simp; omega) | omega) _ | with_reducible refine Below.alloc ?_ (by first | (simp; done) | (simp; omega) | omega) _))
  have zV1 : w1.heap.size + 1 ≤ V1.heap.size := by rw [hV1]; simp
  have PQ : Bk2 V1 (w1.heap.size) (.int .i64 6) (.int .i64 f2) := by rw [hV1]; exact (Bk2.newAt _ _ (by simp) _ _ _)
  rw [← hV1]
  clear hV1
  replace E : Below w.heap.size w V1 := E.trans (bV1.mono E.size)
  replace HA : LRd V1 (B) a.A a.n a.c a.xs := HA.below bV1 (by omega)
  replace HB : LRd V1 (B) b.A b.n b.c b.xs := HB.below bV1 (by omega)
  replace HC : LRd V1 (B) c.A c.n c.c c.xs := HC.below bV1 (by omega)
  replace PA : Bk2 V1 (w.heap.size) (.bool a.neg) (.slice a.A a.n a.c) := PA.below bV1 PA.lt
  replace PB : Bk2 V1 (w.heap.size + 1) (.bool b.neg) (.slice b.A b.n b.c) := PB.below bV1 PB.lt
  replace PC : Bk2 V1 (w.heap.size + 2) (.bool c.neg) (.slice c.A c.n c.c) := PC.below bV1 PC.lt
  replace PR : Bk2 V1 (w.heap.size + 3) (.bool false) (.slice none 0 0) := PR.below bV1 PR.lt
  replace PF : Bk2 V1 (w.heap.size + 4) (.int .i64 0) (.int .i64 0) := PF.below bV1 PF.lt
  clear bV1
  obtain ⟨f0, f1, z0, z1, _⟩ := PF
  obtain ⟨r0, r1, y0, y1, _⟩ := PR
  obtain ⟨x0, x1, _, _, _⟩ := PQ
  clear PA PB PC HA HB HC hf
  go_region
  all_goals (go_wp2_with fail)
  all_goals
    refine bodyPost_ret (v := .tuple #[intv false none 0 0, flt 6 f2]) (by simp [results, Try.results45, go_sem, f0, f1, r0, r1]) rfl ⟨false, none, 0, 0, [], rfl, nil_lrd _, irep0, ?_⟩
    (repeat (first | with_reducible exact Below.refl _ _ | with_reducible exact E | with_reducible refine Below.drew ?_ | with_reducible refine below_drewN ?_ _ | with_reducible refine Below.setCell ?_ (by first | (simp; done) | (simp; omega) | omega) _ | with_reducible refine Below.alloc ?_ (by first | (simp; done) | (simp; omega) | omega) _))
set_option maxHeartbeats 8000000 in
theorem ipm_neg1 (w : World) (B : Nat) (a b c : IV) (HA : a.at w B) (HB : b.at w B) (HC : c.at w B) (hB : B ≤ w.heap.size) (oa : a.ok = true) (ob : b.ok = true) (oc : c.ok = true) (hb : Hid (b.neg = true)) :
    Calls Try.prog 45 #[a.v, b.v, c.v] w (GivesVF w 0 4 (-2)) := by
  replace HA : LRd w B a.A a.n a.c a.xs := HA
  replace HB : LRd w B b.A b.n b.c b.xs := HB
  replace HC : LRd w B c.A c.n c.c c.xs := HC
  have E : Below w.heap.size w w := Below.refl _ _
  have IR := Lib.hid (irow3 (((((w.alloc a.cells).alloc b.cells).alloc c.cells).alloc (.cells #[.bool false, .slice none 0 0] 24)).alloc (.cells #[.int .i64 0, .int .i64 0] 26)) B a b c (((((HA.alloc (by omega) _).alloc (by simp; omega) _).alloc (by simp; omega) _).alloc (by simp; omega) _).alloc (by simp; omega) _) (((((HB.alloc (by omega) _).alloc (by simp; omega) _).alloc (by simp; omega) _).alloc (by simp; omega) _).alloc (by simp; omega) _) (((((HC.alloc (by omega) _).alloc (by simp; omega) _).alloc (by simp; omega) _).alloc (by simp; omega) _).alloc (by simp; omega) _) (by simp; omega))
  go_enter Try.func45, Try.ntmps45
  go_wp2_with fail
  obtain ⟨V0, hV0⟩ : ∃ V0 : World, V0 = ((((((w.alloc (.cells #[.bool a.neg, .slice a.A a.n a.c] 24)).alloc (.cells #[.bool b.neg, .slice b.A b.n b.c] 24)).alloc (.cells #[.bool c.neg, .slice c.A c.n c.c] 24)).alloc (.cells #[.bool false, .slice none 0 0] 24)).alloc (.cells #[.int .i64 0, .int .i64 0] 26)).alloc (.cells #[.bool a.neg, .slice a.A a.n a.c, .bool b.neg, .slice b.A b.n b.c, .bool c.neg, .slice c.A c.n c.c] 24)) := ⟨_, rfl⟩
  have bV0 : Below w.heap.size w V0 := by rw [hV0]; (repeat (first | with_reducible exact Below.refl _ _ | with_reducible refine Below.drew ?_ | with_reducible refine below_drewN ?_ _ | with_reducible refine Below.setCell ?_ (by first | (simp; done) | (simp; omega) | omega) _ | with_reducible refine Below.alloc ?_ (by first | (simp; done) | (simp; omega) | omega) _))
  have zV0 : w.heap.size + 6 ≤ V0.heap.size := by rw [hV0]; simp
  have PA : Bk2 V0 (w.heap.size) (.bool a.neg) (.slice a.A a.n a.c) := by rw [hV0]; exact ((((((Bk2.newAt _ _ (by simp) _ _ _).alloc _).alloc _).alloc _).alloc _).alloc _)
  have PB : Bk2 V0 (w.heap.size + 1) (.bool b.neg) (.slice b.A b.n b.c) := by rw [hV0]; exact (((((Bk2.newAt _ _ (by simp) _ _ _).alloc _).alloc _).alloc _).alloc _)
  have PC : Bk2 V0 (w.heap.size + 2) (.bool c.neg) (.slice c.A c.n c.c) := by rw [hV0]; exact ((((Bk2.newAt _ _ (by simp) _ _ _).alloc _).alloc _).alloc _)
  have PR : Bk2 V0 (w.heap.size + 3) (.bool false) (.slice none 0 0) := by rw [hV0]; exact (((Bk2.newAt _ _ (by simp) _ _ _).alloc _).alloc _)
  have PF : Bk2 V0 (w.heap.size + 4) (.int .i64 0) (.int .i64 0) := by rw [hV0]; exact ((Bk2.newAt _ _ (by simp) _ _ _).alloc _)
  replace IR : Hid (IRow V0 B (w.heap.size + 5) [a, b, c]) := by have h9 := IR.out; rw [hV0]; rw [show (((((w.alloc a.cells).alloc b.cells).alloc c.cells).alloc (.cells #[.bool false, .slice none 0 0] 24)).alloc (.cells #[.int .i64 0, .int .i64 0] 26)).heap.size = w.heap.size + 5 by simp] at h9; exact h9
  rw [← hV0]
  clear hV0
  replace E : Below w.heap.size w V0 := E.trans (bV0.mono E.size)
  replace HA : LRd V0 (B) a.A a.n a.c a.xs := HA.below bV0 (by omega)
  replace HB : LRd V0 (B) b.A b.n b.c b.xs := HB.below bV0 (by omega)
  replace HC : LRd V0 (B) c.A c.n c.c c.xs := HC.below bV0 (by omega)
  clear bV0
  (with_reducible refine (check_any _ B (w.heap.size + 5) 3 [a, b, c] IR.out rfl (by omega) (by omega)).mono ?_)
  rintro e w1 ⟨rfl, hb1⟩
  have sw1 := hb1.size
  replace E : Below w.heap.size w w1 := E.trans (hb1.mono E.size)
  replace HA : LRd w1 (B) a.A a.n a.c a.xs := HA.below hb1 (by omega)
  replace HB : LRd w1 (B) b.A b.n b.c b.xs := HB.below hb1 (by omega)
  replace HC : LRd w1 (B) c.A c.n c.c c.xs := HC.below hb1 (by omega)
  replace PA : Bk2 w1 (w.heap.size) (.bool a.neg) (.slice a.A a.n a.c) := PA.below hb1 PA.lt
  replace PB : Bk2 w1 (w.heap.size + 1) (.bool b.neg) (.slice b.A b.n b.c) := PB.below hb1 PB.lt
  replace PC : Bk2 w1 (w.heap.size + 2) (.bool c.neg) (.slice c.A c.n c.c) := PC.below hb1 PC.lt
  replace PR : Bk2 w1 (w.heap.size + 3) (.bool false) (.slice none 0 0) := PR.below hb1 PR.lt
  replace PF : Bk2 w1 (w.heap.size + 4) (.int .i64 0) (.int .i64 0) := PF.below hb1 PF.lt
  clear hb1
  rw [three_ok oa ob oc]
  clear IR
  rw [hb.out] at PB
  have t_PB0 : (w1.alloc (.cells #[.int .i64 0, .int .i64 0] 26)).cell? ⟨w.heap.size + 1, 0, none⟩ = some ((.bool true)) := (PB.alloc _).c0
  have t_PB1 : (w1.alloc (.cells #[.int .i64 0, .int .i64 0] 26)).cell? ⟨w.heap.size + 1, 1, none⟩ = some ((.slice b.A b.n b.c)) := (PB.alloc _).c1
  have y_PR0 : (w1.alloc (.cells #[.int .i64 0, .int .i64 0] 26)).cell? ⟨w.heap.size + 3, 0, none⟩ = some ((.bool false)) := (PR.alloc _).c0
  have z_PR0 : (w1.alloc (.cells #[.int .i64 0, .int .i64 0] 26)).frozen? ⟨w.heap.size + 3, 0, none⟩ = false := (PR.alloc _).z0
  have y_PR1 : (w1.alloc (.cells #[.int .i64 0, .int .i64 0] 26)).cell? ⟨w.heap.size + 3, 1, none⟩ = some ((.slice none 0 0)) := (PR.alloc _).c1
  have z_PR1 : (w1.alloc (.cells #[.int .i64 0, .int .i64 0] 26)).frozen? ⟨w.heap.size + 3, 1, none⟩ = false := (PR.alloc _).z1
  have y_PF0 : (w1.alloc (.cells #[.int .i64 0, .int .i64 0] 26)).cell? ⟨w.heap.size + 4, 0, none⟩ = some ((.int .i64 0)) := (PF.alloc _).c0
  have z_PF0 : (w1.alloc (.cells #[.int .i64 0, .int .i64 0] 26)).frozen? ⟨w.heap.size + 4, 0, none⟩ = false := (PF.alloc _).z0
  have y_PF1 : (w1.alloc (.cells #[.int .i64 0, .int .i64 0] 26)).cell? ⟨w.heap.size + 4, 1, none⟩ = some ((.int .i64 0)) := (PF.alloc _).c1
  have z_PF1 : (w1.alloc (.cells #[.int .i64 0, .int .i64 0] 26)).frozen? ⟨w.heap.size + 4, 1, none⟩ = false := (PF.alloc _).z1
  go_wp2_with fail
  clear t_PB0 t_PB1 y_PR0 z_PR0 y_PR1 z_PR1 y_PF0 z_PF0 y_PF1 z_PF1
  obtain ⟨V1, hV1⟩ : ∃ V1 : World, V1 = (w1.alloc (.cells #[.int .i64 0, .int .i64 0] 26)) := ⟨_, rfl⟩
  have bV1 : Below w1.heap.size w1 V1 := by rw [hV1]; (repeat (first | with_reducible exact Below.refl _ _ | with_reducible refine Below.drew ?_ | with_reducible refine below_drewN ?_ _ | with_reducible refine Below.setCell ?_ (by first | (simp; done) | (simp; omega) | omega) _ | with_reducible refine Below.alloc ?_ (by first | (simp; done) | (simp; omega) | omega) _))
  have zV1 : w1.heap.size + 1 ≤ V1.heap.size := by rw [hV1]; simp
  have PQ : Bk2 V1 (w1.heap.size) (.int .i64 0) (.int .i64 0) := by rw [hV1]; exact (Bk2.newAt _ _ (by simp) _ _ _)
  rw [← hV1]
  clear hV1
  replace E : Below w.heap.size w V1 := E.trans (bV1.mono E.size)
  replace HA : LRd V1 (B) a.A a.n a.c a.xs := HA.below bV1 (by omega)
  replace HB : LRd V1 (B) b.A b.n b.c b.xs := HB.below bV1 (by omega)
  replace HC : LRd V1 (B) c.A c.n c.c c.xs := HC.below bV1 (by omega)
  replace PA : Bk2 V1 (w.heap.size) (.bool a.neg) (.slice a.A a.n a.c) := PA.below bV1 PA.lt
  replace PB : Bk2 V1 (w.heap.size + 1) (.bool true) (.slice b.A b.n b.c) := PB.below bV1 PB.lt
  replace PC : Bk2 V1 (w.heap.size + 2) (.bool c.neg) (.slice c.A c.n c.c) := PC.below bV1 PC.lt
  replace PR : Bk2 V1 (w.heap.size + 3) (.bool false) (.slice none 0 0) := PR.below bV1 PR.lt
  replace PF : Bk2 V1 (w.heap.size + 4) (.int .i64 0) (.int .i64 0) := PF.below bV1 PF.lt
  clear bV1
  obtain ⟨U1PR, hU1PR⟩ : ∃ U1PR : World, U1PR = ((V1.setCell ⟨w.heap.size + 3, 0, none⟩ (.bool false)).setCell ⟨w.heap.size + 3, 1, none⟩ (.slice none 0 0)) := ⟨_, rfl⟩
  have zU1PR : U1PR.heap.size = V1.heap.size := by rw [hU1PR]; simp [World.setCell]
  replace E : Below w.heap.size w U1PR := by rw [hU1PR]; exact (E.setCell (by first | (simp; done) | (simp; omega)) _).setCell (by first | (simp; done) | (simp; omega)) _
  replace HA : LRd U1PR (B) a.A a.n a.c a.xs := by rw [hU1PR]; first | exact HA.setB PR (by simp) (by simp) _ _ | exact HA.setFar2 (by omega) _ _
  replace HB : LRd U1PR (B) b.A b.n b.c b.xs := by rw [hU1PR]; first | exact HB.setB PR (by simp) (by simp) _ _ | exact HB.setFar2 (by omega) _ _
  replace HC : LRd U1PR (B) c.A c.n c.c c.xs := by rw [hU1PR]; first | exact HC.setB PR (by simp) (by simp) _ _ | exact HC.setFar2 (by omega) _ _
  replace PA : Bk2 U1PR (w.heap.size) (.bool a.neg) (.slice a.A a.n a.c) := by rw [hU1PR]; exact PA.far2 (by omega) _ _
  replace PB : Bk2 U1PR (w.heap.size + 1) (.bool true) (.slice b.A b.n b.c) := by rw [hU1PR]; exact PB.far2 (by omega) _ _
  replace PC : Bk2 U1PR (w.heap.size + 2) (.bool c.neg) (.slice c.A c.n c.c) := by rw [hU1PR]; exact PC.far2 (by omega) _ _
  replace PF : Bk2 U1PR (w.heap.size + 4) (.int .i64 0) (.int .i64 0) := by rw [hU1PR]; exact PF.far2 (by omega) _ _
  replace PQ : Bk2 U1PR (w1.heap.size) (.int .i64 0) (.int .i64 0) := by rw [hU1PR]; exact PQ.far2 (by omega) _ _
  replace PR : Bk2 U1PR (w.heap.size + 3) (.bool false) (.slice none 0 0) := by rw [hU1PR]; exact PR.set _ _
  rw [← hU1PR]
  clear hU1PR
  have zU1PR := Nat.le_of_eq zU1PR.symm
  obtain ⟨U1PF, hU1PF⟩ : ∃ U1PF : World, U1PF = ((U1PR.setCell ⟨w.heap.size + 4, 0, none⟩ (.int .i64 4)).setCell ⟨w.heap.size + 4, 1, none⟩ (.int .i64 (-2))) := ⟨_, rfl⟩
  have zU1PF : U1PF.heap.size = U1PR.heap.size := by rw [hU1PF]; simp [World.setCell]
  replace E : Below w.heap.size w U1PF := by rw [hU1PF]; exact (E.setCell (by first | (simp; done) | (simp; omega)) _).setCell (by first | (simp; done) | (simp; omega)) _
  replace HA : LRd U1PF (B) a.A a.n a.c a.xs := by rw [hU1PF]; first | exact HA.setB PF (by simp) (by simp) _ _ | exact HA.setFar2 (by omega) _ _
  replace HB : LRd U1PF (B) b.A b.n b.c b.xs := by rw [hU1PF]; first | exact HB.setB PF (by simp) (by simp) _ _ | exact HB.setFar2 (by omega) _ _
  replace HC : LRd U1PF (B) c.A c.n c.c c.xs := by rw [hU1PF]; first | exact HC.setB PF (by simp) (by simp) _ _ | exact HC.setFar2 (by omega) _ _
  replace PA : Bk2 U1PF (w.heap.size) (.bool a.neg) (.slice a.A a.n a.c) := by rw [hU1PF]; exact PA.far2 (by omega) _ _
  replace PB : Bk2 U1PF (w.heap.size + 1) (.bool true) (.slice b.A b.n b.c) := by rw [hU1PF]; exact PB.far2 (by omega) _ _
  replace PC : Bk2 U1PF (w.heap.size + 2) (.bool c.neg) (.slice c.A c.n c.c) := by rw [hU1PF]; exact PC.far2 (by omega) _ _
  replace PR : Bk2 U1PF (w.heap.size + 3) (.bool false) (.slice none 0 0) := by rw [hU1PF]; exact PR.far2 (by omega) _ _
  replace PQ : Bk2 U1PF (w1.heap.size) (.int .i64 0) (.int .i64 0) := by rw [hU1PF]; exact PQ.far2 (by omega) _ _
  replace PF : Bk2 U1PF (w.heap.size + 4) (.int .i64 4) (.int .i64 (-2)) := by rw [hU1PF]; exact PF.set _ _
  rw [← hU1PF]
  clear hU1PF
  have zU1PF := Nat.le_of_eq zU1PF.symm
  obtain ⟨f0, f1, _, _, _⟩ := PF
  obtain ⟨r0, r1, _, _, _⟩ := PR
  refine bodyPost_ret (v := .tuple #[intv false none 0 0, flt 4 (-2)]) (by simp [results, Try.results45, go_sem, f0, f1, r0, r1]) rfl ⟨false, none, 0, 0, [], rfl, nil_lrd _, irep0, E⟩
set_option maxHeartbeats 8000000 in
theorem ipm_neg2 (w : World) (B : Nat) (a b c : IV) (HA : a.at w B) (HB : b.at w B) (HC : c.at w B) (hB : B ≤ w.heap.size) (oa : a.ok = true) (ob : b.ok = true) (oc : c.ok = true) (hb : Hid (b.neg = false)) (hc : Hid (c.neg = true)) :
    Calls Try.prog 45 #[a.v, b.v, c.v] w (GivesVF w 0 4 (-3)) := by
  replace HA : LRd w B a.A a.n a.c a.xs := HA
  replace HB : LRd w B b.A b.n b.c b.xs := HB
  replace HC : LRd w B c.A c.n c.c c.xs := HC
  have E : Below w.heap.size w w := Below.refl _ _
  have IR := Lib.hid (irow3 (((((w.alloc a.cells).alloc b.cells).alloc c.cells).alloc (.cells #[.bool false, .slice none 0 0] 24)).alloc (.cells #[.int .i64 0, .int .i64 0] 26)) B a b c (((((HA.alloc (by omega) _).alloc (by simp; omega) _).alloc (by simp; omega) _).alloc (by simp; omega) _).alloc (by simp; omega) _) (((((HB.alloc (by omega) _).alloc (by simp; omega) _).alloc (by simp; omega) _).alloc (by simp; omega) _).alloc (by simp; omega) _) (((((HC.alloc (by omega) _).alloc (by simp; omega) _).alloc (by simp; omega) _).alloc (by simp; omega) _).alloc (by simp; omega) _) (by simp; omega))
  go_enter Try.func45, Try.ntmps45
  go_wp2_with fail
  obtain ⟨V0, hV0⟩ : ∃ V0 : World, V0 = ((((((w.alloc (.cells #[.bool a.neg, .slice a.A a.n a.c] 24)).alloc (.cells #[.bool b.neg, .slice b.A b.n b.c] 24)).alloc (.cells #[.bool c.neg, .slice c.A c.n c.c] 24)).alloc (.cells #[.bool false, .slice none 0 0] 24)).alloc (.cells #[.int .i64 0, .int .i64 0] 26)).alloc (.cells #[.bool a.neg, .slice a.A a.n a.c, .bool b.neg, .slice b.A b.n b.c, .bool c.neg, .slice c.A c.n c.c] 24)) := ⟨_, rfl⟩
  have bV0 : Below w.heap.size w V0 := by rw [hV0]; (repeat (first | with_reducible exact Below.refl _ _ | with_reducible refine Below.drew ?_ | with_reducible refine below_drewN ?_ _ | with_reducible refine Below.setCell ?_ (by first | (simp; done) | (simp; omega) | omega) _ | with_reducible refine Below.alloc ?_ (by first | (simp; done) | (simp; omega) | omega) _))
  have zV0 : w.heap.size + 6 ≤ V0.heap.size := by rw [hV0]; simp
  have PA : Bk2 V0 (w.heap.size) (.bool a.neg) (.slice a.A a.n a.c) := by rw [hV0]; exact ((((((Bk2.newAt _ _ (by simp) _ _ _).alloc _).alloc _).alloc _).alloc _).alloc _)
  have PB : Bk2 V0 (w.heap.size + 1) (.bool b.neg) (.slice b.A b.n b.c) := by rw [hV0]; exact (((((Bk2.newAt _ _ (by simp) _ _ _).alloc _).alloc _).alloc _).alloc _)
  have PC : Bk2 V0 (w.heap.size + 2) (.bool c.neg) (.slice c.A c.n c.c) := by rw [hV0]; exact ((((Bk2.newAt _ _ (by simp) _ _ _).alloc _).alloc _).alloc _)
  have PR : Bk2 V0 (w.heap.size + 3) (.bool false) (.slice none 0 0) := by rw [hV0]; exact (((Bk2.newAt _ _ (by simp) _ _ _).alloc _).alloc _)
  have PF : Bk2 V0 (w.heap.size + 4) (.int .i64 0) (.int .i64 0) := by rw [hV0]; exact ((Bk2.newAt _ _ (by simp) _ _ _).alloc _)
  replace IR : Hid (IRow V0 B (w.heap.size + 5) [a, b, c]) := by have h9 := IR.out; rw [hV0]; rw [show (((((w.alloc a.cells).alloc b.cells).alloc c.cells).alloc (.cells #[.bool false, .slice none 0 0] 24)).alloc (.cells #[.int .i64 0, .int .i64 0] 26)).heap.size = w.heap.size + 5 by simp] at h9; exact h9
  rw [← hV0]
  clear hV0
  replace E : Below w.heap.size w V0 := E.trans (bV0.mono E.size)
  replace HA : LRd V0 (B) a.A a.n a.c a.xs := HA.below bV0 (by omega)
  replace HB : LRd V0 (B) b.A b.n b.c b.xs := HB.below bV0 (by omega)
  replace HC : LRd V0 (B) c.A c.n c.c c.xs := HC.below bV0 (by omega)
  clear bV0
  (with_reducible refine (check_any _ B (w.heap.size + 5) 3 [a, b, c] IR.out rfl (by omega) (by omega)).mono ?_)
  rintro e w1 ⟨rfl, hb1⟩
  have sw1 := hb1.size
  replace E : Below w.heap.size w w1 := E.trans (hb1.mono E.size)
  replace HA : LRd w1 (B) a.A a.n a.c a.xs := HA.below hb1 (by omega)
  replace HB : LRd w1 (B) b.A b.n b.c b.xs := HB.below hb1 (by omega)
  replace HC : LRd w1 (B) c.A c.n c.c c.xs := HC.below hb1 (by omega)
  replace PA : Bk2 w1 (w.heap.size) (.bool a.neg) (.slice a.A a.n a.c) := PA.below hb1 PA.lt
  replace PB : Bk2 w1 (w.heap.size + 1) (.bool b.neg) (.slice b.A b.n b.c) := PB.below hb1 PB.lt
  replace PC : Bk2 w1 (w.heap.size + 2) (.bool c.neg) (.slice c.A c.n c.c) := PC.below hb1 PC.lt
  replace PR : Bk2 w1 (w.heap.size + 3) (.bool false) (.slice none 0 0) := PR.below hb1 PR.lt
  replace PF : Bk2 w1 (w.heap.size + 4) (.int .i64 0) (.int .i64 0) := PF.below hb1 PF.lt
  clear hb1
  rw [three_ok oa ob oc]
  clear IR
  rw [hb.out] at PB
  rw [hc.out] at PC
  have t_PB0 : (w1.alloc (.cells #[.int .i64 0, .int .i64 0] 26)).cell? ⟨w.heap.size + 1, 0, none⟩ = some ((.bool false)) := (PB.alloc _).c0
  have t_PB1 : (w1.alloc (.cells #[.int .i64 0, .int .i64 0] 26)).cell? ⟨w.heap.size + 1, 1, none⟩ = some ((.slice b.A b.n b.c)) := (PB.alloc _).c1
  have t_PC0 : (w1.alloc (.cells #[.int .i64 0, .int .i64 0] 26)).cell? ⟨w.heap.size + 2, 0, none⟩ = some ((.bool true)) := (PC.alloc _).c0
  have t_PC1 : (w1.alloc (.cells #[.int .i64 0, .int .i64 0] 26)).cell? ⟨w.heap.size + 2, 1, none⟩ = some ((.slice c.A c.n c.c)) := (PC.alloc _).c1
  have y_PR0 : (w1.alloc (.cells #[.int .i64 0, .int .i64 0] 26)).cell? ⟨w.heap.size + 3, 0, none⟩ = some ((.bool false)) := (PR.alloc _).c0
  have z_PR0 : (w1.alloc (.cells #[.int .i64 0, .int .i64 0] 26)).frozen? ⟨w.heap.size + 3, 0, none⟩ = false := (PR.alloc _).z0
  have y_PR1 : (w1.alloc (.cells #[.int .i64 0, .int .i64 0] 26)).cell? ⟨w.heap.size + 3, 1, none⟩ = some ((.slice none 0 0)) := (PR.alloc _).c1
  have z_PR1 : (w1.alloc (.cells #[.int .i64 0, .int .i64 0] 26)).frozen? ⟨w.heap.size + 3, 1, none⟩ = false := (PR.alloc _).z1
  have y_PF0 : (w1.alloc (.cells #[.int .i64 0, .int .i64 0] 26)).cell? ⟨w.heap.size + 4, 0, none⟩ = some ((.int .i64 0)) := (PF.alloc _).c0
  have z_PF0 : (w1.alloc (.cells #[.int .i64 0, .int .i64 0] 26)).frozen? ⟨w.heap.size + 4, 0, none⟩ = false := (PF.alloc _).z0
  have y_PF1 : (w1.alloc (.cells #[.int .i64 0, .int .i64 0] 26)).cell? ⟨w.heap.size + 4, 1, none⟩ = some ((.int .i64 0)) := (PF.alloc _).c1
  have z_PF1 : (w1.alloc (.cells #[.int .i64 0, .int .i64 0] 26)).frozen? ⟨w.heap.size + 4, 1, none⟩ = false := (PF.alloc _).z1
  go_wp2_with fail
  clear t_PB0 t_PB1 t_PC0 t_PC1 y_PR0 z_PR0 y_PR1 z_PR1 y_PF0 z_PF0 y_PF1 z_PF1
  obtain ⟨V1, hV1⟩ : ∃ V1 : World, V1 = (w1.alloc (.cells #[.int .i64 0, .int .i64 0] 26)) := ⟨_, rfl⟩
  have bV1 : Below w1.heap.size w1 V1 := by rw [hV1]; (repeat (first | with_reducible exact Below.refl _ _ | with_reducible refine Below.drew ?_ | with_reducible refine below_drewN ?_ _ | with_reducible refine Below.setCell ?_ (by first | (simp; done) | (simp; omega) | omega) _ | with_reducible refine Below.alloc ?_ (by first | (simp; done) | (simp; omega) | omega) _))
  have zV1 : w1.heap.size + 1 ≤ V1.heap.size := by rw [hV1]; simp
  have PQ : Bk2 V1 (w1.heap.size) (.int .i64 0) (.int .i64 0) := by rw [hV1]; exact (Bk2.newAt _ _ (by simp) _ _ _)
  rw [← hV1]
  clear hV1
  replace E : Below w.heap.size w V1 := E.trans (bV1.mono E.size)
  replace HA : LRd V1 (B) a.A a.n a.c a.xs := HA.below bV1 (by omega)
  replace HB : LRd V1 (B) b.A b.n b.c b.xs := HB.below bV1 (by omega)
  replace HC : LRd V1 (B) c.A c.n c.c c.xs := HC.below bV1 (by omega)
  replace PA : Bk2 V1 (w.heap.size) (.bool a.neg) (.slice a.A a.n a.c) := PA.below bV1 PA.lt
  replace PB : Bk2 V1 (w.heap.size + 1) (.bool false) (.slice b.A b.n b.c) := PB.below bV1 PB.lt
  replace PC : Bk2 V1 (w.heap.size + 2) (.bool true) (.slice c.A c.n c.c) := PC.below bV1 PC.lt
  replace PR : Bk2 V1 (w.heap.size + 3) (.bool false) (.slice none 0 0) := PR.below bV1 PR.lt
  replace PF : Bk2 V1 (w.heap.size + 4) (.int .i64 0) (.int .i64 0) := PF.below bV1 PF.lt
  clear bV1
  obtain ⟨U1PR, hU1PR⟩ : ∃ U1PR : World, U1PR = ((V1.setCell ⟨w.heap.size + 3, 0, none⟩ (.bool false)).setCell ⟨w.heap.size + 3, 1, none⟩ (.slice none 0 0)) := ⟨_, rfl⟩
  have zU1PR : U1PR.heap.size = V1.heap.size := by rw [hU1PR]; simp [World.setCell]
  replace E : Below w.heap.size w U1PR := by rw [hU1PR]; exact (E.setCell (by first | (simp; done) | (simp; omega)) _).setCell (by first | (simp; done) | (simp; omega)) _
  replace HA : LRd U1PR (B) a.A a.n a.c a.xs := by rw [hU1PR]; first | exact HA.setB PR (by simp) (by simp) _ _ | exact HA.setFar2 (by omega) _ _
  replace HB : LRd U1PR (B) b.A b.n b.c b.xs := by rw [hU1PR]; first | exact HB.setB PR (by simp) (by simp) _ _ | exact HB.setFar2 (by omega) _ _
  replace HC : LRd U1PR (B) c.A c.n c.c c.xs := by rw [hU1PR]; first | exact HC.setB PR (by simp) (by simp) _ _ | exact HC.setFar2 (by omega) _ _
  replace PA : Bk2 U1PR (w.heap.size) (.bool a.neg) (.slice a.A a.n a.c) := by rw [hU1PR]; exact PA.far2 (by omega) _ _
  replace PB : Bk2 U1PR (w.heap.size + 1) (.bool false) (.slice b.A b.n b.c) := by rw [hU1PR]; exact PB.far2 (by omega) _ _
  replace PC : Bk2 U1PR (w.heap.size + 2) (.bool true) (.slice c.A c.n c.c) := by rw [hU1PR]; exact PC.far2 (by omega) _ _
  replace PF : Bk2 U1PR (w.heap.size + 4) (.int .i64 0) (.int .i64 0) := by rw [hU1PR]; exact PF.far2 (by omega) _ _
  replace PQ : Bk2 U1PR (w1.heap.size) (.int .i64 0) (.int .i64 0) := by rw [hU1PR]; exact PQ.far2 (by omega) _ _
  replace PR : Bk2 U1PR (w.heap.size + 3) (.bool false) (.slice none 0 0) := by rw [hU1PR]; exact PR.set _ _
  rw [← hU1PR]
  clear hU1PR
  have zU1PR := Nat.le_of_eq zU1PR.symm
  obtain ⟨U1PF, hU1PF⟩ : ∃ U1PF : World, U1PF = ((U1PR.setCell ⟨w.heap.size + 4, 0, none⟩ (.int .i64 4)).setCell ⟨w.heap.size + 4, 1, none⟩ (.int .i64 (-3))) := ⟨_, rfl⟩
  have zU1PF : U1PF.heap.size = U1PR.heap.size := by rw [hU1PF]; simp [World.setCell]
  replace E : Below w.heap.size w U1PF := by rw [hU1PF]; exact (E.setCell (by first | (simp; done) | (simp; omega)) _).setCell (by first | (simp; done) | (simp; omega)) _
  replace HA : LRd U1PF (B) a.A a.n a.c a.xs := by rw [hU1PF]; first | exact HA.setB PF (by simp) (by simp) _ _ | exact HA.setFar2 (by omega) _ _
  replace HB : LRd U1PF (B) b.A b.n b.c b.xs := by rw [hU1PF]; first | exact HB.setB PF (by simp) (by simp) _ _ | exact HB.setFar2 (by omega) _ _
  replace HC : LRd U1PF (B) c.A c.n c.c c.xs := by rw [hU1PF]; first | exact HC.setB PF (by simp) (by simp) _ _ | exact HC.setFar2 (by omega) _ _
  replace PA : Bk2 U1PF (w.heap.size) (.bool a.neg) (.slice a.A a.n a.c) := by rw [hU1PF]; exact PA.far2 (by omega) _ _
  replace PB : Bk2 U1PF (w.heap.size + 1) (.bool false) (.slice b.A b.n b.c) := by rw [hU1PF]; exact PB.far2 (by omega) _ _
  replace PC : Bk2 U1PF (w.heap.size + 2) (.bool true) (.slice c.A c.n c.c) := by rw [hU1PF]; exact PC.far2 (by omega) _ _
  replace PR : Bk2 U1PF (w.heap.size + 3) (.bool false) (.slice none 0 0) := by rw [hU1PF]; exact PR.far2 (by omega) _ _
  replace PQ : Bk2 U1PF (w1.heap.size) (.int .i64 0) (.int .i64 0) := by rw [hU1PF]; exact PQ.far2 (by omega) _ _
  replace PF : Bk2 U1PF (w.heap.size + 4) (.int .i64 4) (.int .i64 (-3)) := by rw [hU1PF]; exact PF.set _ _
  rw [← hU1PF]
  clear hU1PF
  have zU1PF := Nat.le_of_eq zU1PF.symm
  obtain ⟨f0, f1, _, _, _⟩ := PF
  obtain ⟨r0, r1, _, _, _⟩ := PR
  refine bodyPost_ret (v := .tuple #[intv false none 0 0, flt 4 (-3)]) (by simp [results, Try.results45, go_sem, f0, f1, r0, r1]) rfl ⟨false, none, 0, 0, [], rfl, nil_lrd _, irep0, E⟩
set_option maxHeartbeats 8000000 in
theorem ipm_zero (w : World) (B : Nat) (a b c : IV) (HA : a.at w B) (HB : b.at w B) (HC : c.at w B) (hB : B ≤ w.heap.size) (oa : a.ok = true) (ob : b.ok = true) (oc : c.ok = true) (hb : Hid (b.neg = false)) (hc : Hid (c.neg = false)) (h0 : Hid (c.n = 0)) :
    Calls Try.prog 45 #[a.v, b.v, c.v] w (GivesVF w 0 22 (-3)) := by
  replace HA : LRd w B a.A a.n a.c a.xs := HA
  replace HB : LRd w B b.A b.n b.c b.xs := HB
  replace HC : LRd w B c.A c.n c.c c.xs := HC
  have E : Below w.heap.size w w := Below.refl _ _
  have IR := Lib.hid (irow3 (((((w.alloc a.cells).alloc b.cells).alloc c.cells).alloc (.cells #[.bool false, .slice none 0 0] 24)).alloc (.cells #[.int .i64 0, .int .i64 0] 26)) B a b c (((((HA.alloc (by omega) _).alloc (by simp; omega) _).alloc (by simp; omega) _).alloc (by simp; omega) _).alloc (by simp; omega) _) (((((HB.alloc (by omega) _).alloc (by simp; omega) _).alloc (by simp; omega) _).alloc (by simp; omega) _).alloc (by simp; omega) _) (((((HC.alloc (by omega) _).alloc (by simp; omega) _).alloc (by simp; omega) _).alloc (by simp; omega) _).alloc (by simp; omega) _) (by simp; omega))
  go_enter Try.func45, Try.ntmps45
  go_wp2_with fail
  obtain ⟨V0, hV0⟩ : ∃ V0 : World, V0 = ((((((w.alloc (.cells #[.bool a.neg, .slice a.A a.n a.c] 24)).alloc (.cells #[.bool b.neg, .slice b.A b.n b.c] 24)).alloc (.cells #[.bool c.neg, .slice c.A c.n c.c] 24)).alloc (.cells #[.bool false, .slice none 0 0] 24)).alloc (.cells #[.int .i64 0, .int .i64 0] 26)).alloc (.cells #[.bool a.neg, .slice a.A a.n a.c, .bool b.neg, .slice b.A b.n b.c, .bool c.neg, .slice c.A c.n c.c] 24)) := ⟨_, rfl⟩
  have bV0 : Below w.heap.size w V0 := by rw [hV0]; (repeat (first | with_reducible exact Below.refl _ _ | with_reducible refine Below.drew ?_ | with_reducible refine below_drewN ?_ _ | with_reducible refine Below.setCell ?_ (by first | (simp; done) | (simp; omega) | omega) _ | with_reducible refine Below.alloc ?_ (by first | (simp; done) | (simp; omega) | omega) _))
  have zV0 : w.heap.size + 6 ≤ V0.heap.size := by rw [hV0]; simp
  have PA : Bk2 V0 (w.heap.size) (.bool a.neg) (.slice a.A a.n a.c) := by rw [hV0]; exact ((((((Bk2.newAt _ _ (by simp) _ _ _).alloc _).alloc _).alloc _).alloc _).alloc _)
  have PB : Bk2 V0 (w.heap.size + 1) (.bool b.neg) (.slice b.A b.n b.c) := by rw [hV0]; exact (((((Bk2.newAt _ _ (by simp) _ _ _).alloc _).alloc _).alloc _).alloc _)
  have PC : Bk2 V0 (w.heap.size + 2) (.bool c.neg) (.slice c.A c.n c.c) := by rw [hV0]; exact ((((Bk2.newAt _ _ (by simp) _ _ _).alloc _).alloc _).alloc _)
  have PR : Bk2 V0 (w.heap.size + 3) (.bool false) (.slice none 0 0) := by rw [hV0]; exact (((Bk2.newAt _ _ (by simp) _ _ _).alloc _).alloc _)
  have PF : Bk2 V0 (w.heap.size + 4) (.int .i64 0) (.int .i64 0) := by rw [hV0]; exact ((Bk2.newAt _ _ (by simp) _ _ _).alloc _)
  replace IR : Hid (IRow V0 B (w.heap.size + 5) [a, b, c]) := by have h9 := IR.out; rw [hV0]; rw [show (((((w.alloc a.cells).alloc b.cells).alloc c.cells).alloc (.cells #[.bool false, .slice none 0 0] 24)).alloc (.cells #[.int .i64 0, .int .i64 0] 26)).heap.size = w.heap.size + 5 by simp] at h9; exact h9
  rw [← hV0]
  clear hV0
  replace E : Below w.heap.size w V0 := E.trans (bV0.mono E.size)
  replace HA : LRd V0 (B) a.A a.n a.c a.xs := HA.below bV0 (by omega)
  replace HB : LRd V0 (B) b.A b.n b.c b.xs := HB.below bV0 (by omega)
  replace HC : LRd V0 (B) c.A c.n c.c c.xs := HC.below bV0 (by omega)
  clear bV0
  (with_reducible refine (check_any _ B (w.heap.size + 5) 3 [a, b, c] IR.out rfl (by omega) (by omega)).mono ?_)
  rintro e w1 ⟨rfl, hb1⟩
  have sw1 := hb1.size
  replace E : Below w.heap.size w w1 := E.trans (hb1.mono E.size)
  replace HA : LRd w1 (B) a.A a.n a.c a.xs := HA.below hb1 (by omega)
  replace HB : LRd w1 (B) b.A b.n b.c b.xs := HB.below hb1 (by omega)
  replace HC : LRd w1 (B) c.A c.n c.c c.xs := HC.below hb1 (by omega)
  replace PA : Bk2 w1 (w.heap.size) (.bool a.neg) (.slice a.A a.n a.c) := PA.below hb1 PA.lt
  replace PB : Bk2 w1 (w.heap.size + 1) (.bool b.neg) (.slice b.A b.n b.c) := PB.below hb1 PB.lt
  replace PC : Bk2 w1 (w.heap.size + 2) (.bool c.neg) (.slice c.A c.n c.c) := PC.below hb1 PC.lt
  replace PR : Bk2 w1 (w.heap.size + 3) (.bool false) (.slice none 0 0) := PR.below hb1 PR.lt
  replace PF : Bk2 w1 (w.heap.size + 4) (.int .i64 0) (.int .i64 0) := PF.below hb1 PF.lt
  clear hb1
  rw [three_ok oa ob oc]
  clear IR
  rw [hb.out] at PB
  rw [hc.out] at PC
  have hc0 : (c.n : Int) ≤ 0 := by have := h0.out; omega
  have hcl : c.n ≤ 1000 := by have := h0.out; omega
  have t_PB0 : (w1.alloc (.cells #[.int .i64 0, .int .i64 0] 26)).cell? ⟨w.heap.size + 1, 0, none⟩ = some ((.bool false)) := (PB.alloc _).c0
  have t_PB1 : (w1.alloc (.cells #[.int .i64 0, .int .i64 0] 26)).cell? ⟨w.heap.size + 1, 1, none⟩ = some ((.slice b.A b.n b.c)) := (PB.alloc _).c1
  have t_PC0 : (w1.alloc (.cells #[.int .i64 0, .int .i64 0] 26)).cell? ⟨w.heap.size + 2, 0, none⟩ = some ((.bool false)) := (PC.alloc _).c0
  have t_PC1 : (w1.alloc (.cells #[.int .i64 0, .int .i64 0] 26)).cell? ⟨w.heap.size + 2, 1, none⟩ = some ((.slice c.A c.n c.c)) := (PC.alloc _).c1
  have y_PR0 : (w1.alloc (.cells #[.int .i64 0, .int .i64 0] 26)).cell? ⟨w.heap.size + 3, 0, none⟩ = some ((.bool false)) := (PR.alloc _).c0
  have z_PR0 : (w1.alloc (.cells #[.int .i64 0, .int .i64 0] 26)).frozen? ⟨w.heap.size + 3, 0, none⟩ = false := (PR.alloc _).z0
  have y_PR1 : (w1.alloc (.cells #[.int .i64 0, .int .i64 0] 26)).cell? ⟨w.heap.size + 3, 1, none⟩ = some ((.slice none 0 0)) := (PR.alloc _).c1
  have z_PR1 : (w1.alloc (.cells #[.int .i64 0, .int .i64 0] 26)).frozen? ⟨w.heap.size + 3, 1, none⟩ = false := (PR.alloc _).z1
  have y_PF0 : (w1.alloc (.cells #[.int .i64 0, .int .i64 0] 26)).cell? ⟨w.heap.size + 4, 0, none⟩ = some ((.int .i64 0)) := (PF.alloc _).c0
  have z_PF0 : (w1.alloc (.cells #[.int .i64 0, .int .i64 0] 26)).frozen? ⟨w.heap.size + 4, 0, none⟩ = false := (PF.alloc _).z0
  have y_PF1 : (w1.alloc (.cells #[.int .i64 0, .int .i64 0] 26)).cell? ⟨w.heap.size + 4, 1, none⟩ = some ((.int .i64 0)) := (PF.alloc _).c1
  have z_PF1 : (w1.alloc (.cells #[.int .i64 0, .int .i64 0] 26)).frozen? ⟨w.heap.size + 4, 1, none⟩ = false := (PF.alloc _).z1
  go_wp2_with fail
  clear t_PB0 t_PB1 t_PC0 t_PC1 y_PR0 z_PR0 y_PR1 z_PR1 y_PF0 z_PF0 y_PF1 z_PF1
  obtain ⟨V1, hV1⟩ : ∃ V1 : World, V1 = (w1.alloc (.cells #[.int .i64 0, .int .i64 0] 26)) := ⟨_, rfl⟩
  have bV1 : Below w1.heap.size w1 V1 := by rw [hV1]; (repeat (first | with_reducible exact Below.refl _ _ | with_reducible refine Below.drew ?_ | with_reducible refine below_drewN ?_ _ | with_reducible refine Below.setCell ?_ (by first | (simp; done) | (simp; omega) | omega) _ | with_reducible refine Below.alloc ?_ (by first | (simp; done) | (simp; omega) | omega) _))
  have zV1 : w1.heap.size + 1 ≤ V1.heap.size := by rw [hV1]; simp
  have PQ : Bk2 V1 (w1.heap.size) (.int .i64 0) (.int .i64 0) := by rw [hV1]; exact (Bk2.newAt _ _ (by simp) _ _ _)
  rw [← hV1]
  clear hV1
  replace E : Below w.heap.size w V1 := E.trans (bV1.mono E.size)
  replace HA : LRd V1 (B) a.A a.n a.c a.xs := HA.below bV1 (by omega)
  replace HB : LRd V1 (B) b.A b.n b.c b.xs := HB.below bV1 (by omega)
  replace HC : LRd V1 (B) c.A c.n c.c c.xs := HC.below bV1 (by omega)
  replace PA : Bk2 V1 (w.heap.size) (.bool a.neg) (.slice a.A a.n a.c) := PA.below bV1 PA.lt
  replace PB : Bk2 V1 (w.heap.size + 1) (.bool false) (.slice b.A b.n b.c) := PB.below bV1 PB.lt
  replace PC : Bk2 V1 (w.heap.size + 2) (.bool false) (.slice c.A c.n c.c) := PC.below bV1 PC.lt
  replace PR : Bk2 V1 (w.heap.size + 3) (.bool false) (.slice none 0 0) := PR.below bV1 PR.lt
  replace PF : Bk2 V1 (w.heap.size + 4) (.int .i64 0) (.int .i64 0) := PF.below bV1 PF.lt
  clear bV1
  obtain ⟨U1PR, hU1PR⟩ : ∃ U1PR : World, U1PR = ((V1.setCell ⟨w.heap.size + 3, 0, none⟩ (.bool false)).setCell ⟨w.heap.size + 3, 1, none⟩ (.slice none 0 0)) := ⟨_, rfl⟩
  have zU1PR : U1PR.heap.size = V1.heap.size := by rw [hU1PR]; simp [World.setCell]
  replace E : Below w.heap.size w U1PR := by rw [hU1PR]; exact (E.setCell (by first | (simp; done) | (simp; omega)) _).setCell (by first | (simp; done) | (simp; omega)) _
  replace HA : LRd U1PR (B) a.A a.n a.c a.xs := by rw [hU1PR]; first | exact HA.setB PR (by simp) (by simp) _ _ | exact HA.setFar2 (by omega) _ _
  replace HB : LRd U1PR (B) b.A b.n b.c b.xs := by rw [hU1PR]; first | exact HB.setB PR (by simp) (by simp) _ _ | exact HB.setFar2 (by omega) _ _
  replace HC : LRd U1PR (B) c.A c.n c.c c.xs := by rw [hU1PR]; first | exact HC.setB PR (by simp) (by simp) _ _ | exact HC.setFar2 (by omega) _ _
  replace PA : Bk2 U1PR (w.heap.size) (.bool a.neg) (.slice a.A a.n a.c) := by rw [hU1PR]; exact PA.far2 (by omega) _ _
  replace PB : Bk2 U1PR (w.heap.size + 1) (.bool false) (.slice b.A b.n b.c) := by rw [hU1PR]; exact PB.far2 (by omega) _ _
  replace PC : Bk2 U1PR (w.heap.size + 2) (.bool false) (.slice c.A c.n c.c) := by rw [hU1PR]; exact PC.far2 (by omega) _ _
  replace PF : Bk2 U1PR (w.heap.size + 4) (.int .i64 0) (.int .i64 0) := by rw [hU1PR]; exact PF.far2 (by omega) _ _
  replace PQ : Bk2 U1PR (w1.heap.size) (.int .i64 0) (.int .i64 0) := by rw [hU1PR]; exact PQ.far2 (by omega) _ _
  replace PR : Bk2 U1PR (w.heap.size + 3) (.bool false) (.slice none 0 0) := by rw [hU1PR]; exact PR.set _ _
  rw [← hU1PR]
  clear hU1PR
  have zU1PR := Nat.le_of_eq zU1PR.symm
  obtain ⟨U1PF, hU1PF⟩ : ∃ U1PF : World, U1PF = ((U1PR.setCell ⟨w.heap.size + 4, 0, none⟩ (.int .i64 22)).setCell ⟨w.heap.size + 4, 1, none⟩ (.int .i64 (-3))) := ⟨_, rfl⟩
  have zU1PF : U1PF.heap.size = U1PR.heap.size := by rw [hU1PF]; simp [World.setCell]
  replace E : Below w.heap.size w U1PF := by rw [hU1PF]; exact (E.setCell (by first | (simp; done) | (simp; omega)) _).setCell (by first | (simp; done) | (simp; omega)) _
  replace HA : LRd U1PF (B) a.A a.n a.c a.xs := by rw [hU1PF]; first | exact HA.setB PF (by simp) (by simp) _ _ | exact HA.setFar2 (by omega) _ _
  replace HB : LRd U1PF (B) b.A b.n b.c b.xs := by rw [hU1PF]; first | exact HB.setB PF (by simp) (by simp) _ _ | exact HB.setFar2 (by omega) _ _
  replace HC : LRd U1PF (B) c.A c.n c.c c.xs := by rw [hU1PF]; first | exact HC.setB PF (by simp) (by simp) _ _ | exact HC.setFar2 (by omega) _ _
  replace PA : Bk2 U1PF (w.heap.size) (.bool a.neg) (.slice a.A a.n a.c) := by rw [hU1PF]; exact PA.far2 (by omega) _ _
  replace PB : Bk2 U1PF (w.heap.size + 1) (.bool false) (.slice b.A b.n b.c) := by rw [hU1PF]; exact PB.far2 (by omega) _ _
  replace PC : Bk2 U1PF (w.heap.size + 2) (.bool false) (.slice c.A c.n c.c) := by rw [hU1PF]; exact PC.far2 (by omega) _ _
  replace PR : Bk2 U1PF (w.heap.size + 3) (.bool false) (.slice none 0 0) := by rw [hU1PF]; exact PR.far2 (by omega) _ _
  replace PQ : Bk2 U1PF (w1.heap.size) (.int .i64 0) (.int .i64 0) := by rw [hU1PF]; exact PQ.far2 (by omega) _ _
  replace PF : Bk2 U1PF (w.heap.size + 4) (.int .i64 22) (.int .i64 (-3)) := by rw [hU1PF]; exact PF.set _ _
  rw [← hU1PF]
  clear hU1PF
  have zU1PF := Nat.le_of_eq zU1PF.symm
  obtain ⟨f0, f1, _, _, _⟩ := PF
  obtain ⟨r0, r1, _, _, _⟩ := PR
  refine bodyPost_ret (v := .tuple #[intv false none 0 0, flt 22 (-3)]) (by simp [results, Try.results45, go_sem, f0, f1, r0, r1]) rfl ⟨false, none, 0, 0, [], rfl, nil_lrd _, irep0, E⟩
end Go.Proofs.Ytpidkionieaffaa
