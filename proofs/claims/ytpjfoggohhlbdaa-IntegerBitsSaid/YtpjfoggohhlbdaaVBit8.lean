/- The program's Not. -/
import Derived.Test.YtpjfoggohhlbdaaVBit7
import Derived.Test.YtpjfoggohhlbdaaVj
import Derived.Deep.RegionHeld3
import Derived.Deep.DeepCutAuto
namespace Go.Proofs.Ytpjfoggohhlbdaa
open Go.RowKit
set_option maxHeartbeats 400000
set_option maxRecDepth 100000
set_option linter.unusedSimpArgs false
set_option linter.unusedVariables false

theorem isumv (w : World) (B : Nat) (m n : Bool) (A D : Option Addr) (k l c d : Nat) (xs ys : List Nat) (ha : LRd w B A k c xs) (hb : LRd w B D l d ys) (hB : B ≤ w.heap.size) (va : vld xs = true) (vb' : vld ys = true) (pa : vb 4294967296 xs < Top128) (pb : vb 4294967296 ys < Top128) (z : Int) (hz : sval m (vb 4294967296 xs) + sval n (vb 4294967296 ys) = z) :
    Calls Try.prog 73 #[intv m A k c, intv n D l d] w (GivesVL w z) := by
  rw [← hz]
  exact isum_any w B (IV.mk m A k c xs) (IV.mk n D l d ys) ha hb hB va vb' pa pb
theorem sval_not (m : Bool) (v : Nat) : sval (!m) v + sval true 1 = -sval m v - 1 := by
  cases m
  · show -(v : Int) + -(1 : Int) = -(v : Int) - 1; omega
  · show (v : Int) + -(1 : Int) = -(-(v : Int)) - 1; omega
theorem lrd_pair {w : World} {B n c g h : Nat} {A : Option Addr} {xs : List Nat} {x y : Int} (k : LRd w B A n c xs) (p : Bk2 w g (.bool false) (.slice none 0 0)) (q : Bk2 w h (.int .i64 x) (.int .i64 y)) (hne : g ≠ h) (u0 u1 u2 u3 : Value)
    (W : World) (hW : W = (((w.setCell ⟨g, 0, none⟩ u0).setCell ⟨g, 1, none⟩ u1).setCell ⟨h, 0, none⟩ u2).setCell ⟨h, 1, none⟩ u3) : LRd W B A n c xs := by
  rw [hW]
  exact (k.setB p (by simp) (by simp) u0 u1).setB (q.far2 hne u0 u1) (by simp) (by simp) u2 u3
set_option maxHeartbeats 4000000 in
theorem inot_ok (w : World) (B : Nat) (a : IV) (HA : a.at w B) (hB : B ≤ w.heap.size) (oa : a.ok = true) :
    Calls Try.prog 52 #[a.v] w (GivesVL w (-a.val - 1)) := by
  have AV := Lib.hid (show -sval a.neg (vb 4294967296 a.xs) - 1 = -a.val - 1 from rfl)
  have VA := Lib.hid (IV.vld oa).1
  have PAX := Lib.hid (show vb 4294967296 a.xs < Top128 from lt128 (⟨HA.lim, rfl, (vld_top (IV.vld oa).1).1⟩ : Rep 4294967296 a.xs _) rfl (IV.vld oa).2)
  replace HA : LRd w B a.A a.n a.c a.xs := HA
  have E : Below w.heap.size w w := Below.refl _ _
  have IR := Lib.hid (irow1 (((w.alloc a.cells).alloc (.cells #[.bool false, .slice none 0 0] 24)).alloc (.cells #[.int .i64 0, .int .i64 0] 26)) B a (((HA.alloc (by omega) _).alloc (by simp; omega) _).alloc (by simp; omega) _) (by simp; omega))
  go_enter Try.func52, Try.ntmps52
  go_wp2_with fail
  obtain ⟨V0, hV0⟩ : ∃ V0 : World, V0 = ((((w.alloc (.cells #[.bool a.neg, .slice a.A a.n a.c] 24)).alloc (.cells #[.bool false, .slice none 0 0] 24)).alloc (.cells #[.int .i64 0, .int .i64 0] 26)).alloc (.cells #[.bool a.neg, .slice a.A a.n a.c] 24)) := ⟨_, rfl⟩
  have bV0 : Below w.heap.size w V0 := by rw [hV0]; (repeat (first | with_reducible exact Below.refl _ _ | with_reducible refine Below.drew ?_ | with_reducible refine below_drewN ?_ _ | with_reducible refine Below.setCell ?_ (by first | (simp; done) | (simp; omega) | omega) _ | with_reducible refine Below.alloc ?_ (by first | (simp; done) | (simp; omega) | omega) _))
  have zV0 : w.heap.size + 4 ≤ V0.heap.size := by rw [hV0]; simp
  have PA : Bk2 V0 (w.heap.size) (.bool a.neg) (.slice a.A a.n a.c) := by rw [hV0]; exact ((((Bk2.newAt _ _ (by simp) _ _ _).alloc _).alloc _).alloc _)
  have PR : Bk2 V0 (w.heap.size + 1) (.bool false) (.slice none 0 0) := by rw [hV0]; exact (((Bk2.newAt _ _ (by simp) _ _ _).alloc _).alloc _)
  have PF : Bk2 V0 (w.heap.size + 2) (.int .i64 0) (.int .i64 0) := by rw [hV0]; exact ((Bk2.newAt _ _ (by simp) _ _ _).alloc _)
  replace IR : Hid (IRow V0 B (w.heap.size + 3) [a]) := by have h9 := IR.out; rw [hV0]; rw [show (((w.alloc a.cells).alloc (.cells #[.bool false, .slice none 0 0] 24)).alloc (.cells #[.int .i64 0, .int .i64 0] 26)).heap.size = w.heap.size + 3 by simp] at h9; exact h9
  rw [← hV0]
  clear hV0
  replace E : Below w.heap.size w V0 := E.trans (bV0.mono E.size)
  replace HA : LRd V0 (B) a.A a.n a.c a.xs := HA.below bV0 (by omega)
  clear bV0
  (with_reducible refine (check_any _ B (w.heap.size + 3) 1 [a] IR.out rfl (by omega) (by omega)).mono ?_)
  rintro e w1 ⟨rfl, hb1⟩
  have sw1 := hb1.size
  replace E : Below w.heap.size w w1 := E.trans (hb1.mono E.size)
  replace HA : LRd w1 (B) a.A a.n a.c a.xs := HA.below hb1 (by omega)
  replace PA : Bk2 w1 (w.heap.size) (.bool a.neg) (.slice a.A a.n a.c) := PA.below hb1 PA.lt
  replace PR : Bk2 w1 (w.heap.size + 1) (.bool false) (.slice none 0 0) := PR.below hb1 PR.lt
  replace PF : Bk2 w1 (w.heap.size + 2) (.int .i64 0) (.int .i64 0) := PF.below hb1 PF.lt
  clear hb1
  rw [one_ok oa]
  clear IR
  go_upto_region 4 with fail
  obtain ⟨V1, hV1⟩ : ∃ V1 : World, V1 = (w1.alloc (.cells #[.int .i64 0, .int .i64 0] 26)) := ⟨_, rfl⟩
  have bV1 : Below w1.heap.size w1 V1 := by rw [hV1]; (repeat (first | with_reducible exact Below.refl _ _ | with_reducible refine Below.drew ?_ | with_reducible refine below_drewN ?_ _ | with_reducible refine Below.setCell ?_ (by first | (simp; done) | (simp; omega) | omega) _ | with_reducible refine Below.alloc ?_ (by first | (simp; done) | (simp; omega) | omega) _))
  have zV1 : w1.heap.size + 1 ≤ V1.heap.size := by rw [hV1]; simp
  have PQ : Bk2 V1 (w1.heap.size) (.int .i64 0) (.int .i64 0) := by rw [hV1]; exact (Bk2.newAt _ _ (by simp) _ _ _)
  rw [← hV1]
  clear hV1
  replace E : Below w.heap.size w V1 := E.trans (bV1.mono E.size)
  replace HA : LRd V1 (B) a.A a.n a.c a.xs := HA.below bV1 (by omega)
  replace PA : Bk2 V1 (w.heap.size) (.bool a.neg) (.slice a.A a.n a.c) := PA.below bV1 PA.lt
  replace PR : Bk2 V1 (w.heap.size + 1) (.bool false) (.slice none 0 0) := PR.below bV1 PR.lt
  replace PF : Bk2 V1 (w.heap.size + 2) (.int .i64 0) (.int .i64 0) := PF.below bV1 PF.lt
  clear bV1
  clear PQ
  have G0 : Below V1.heap.size V1 V1.drew := Below.drew (Below.refl _ _)
  have HS := Lib.hid (fun (u : World) (hu : Below (w.heap.size + 1) V1 u) => (⟨(hu.cell (p := ⟨w.heap.size, 0, none⟩) (by show w.heap.size < _; omega)).trans PA.c0, (hu.cell (p := ⟨w.heap.size, 1, none⟩) (by show w.heap.size < _; omega)).trans PA.c1⟩ : u.cell? ⟨w.heap.size, 0, none⟩ = some (.bool a.neg) ∧ u.cell? ⟨w.heap.size, 1, none⟩ = some (.slice a.A a.n a.c)))
  have ltA := PA.lt
  have G0m : Below (w.heap.size + 1) V1 V1.drew := G0.mono (by omega)
  go_region_held3 (fun u => u.cell? ⟨w.heap.size, 0, none⟩ = some (.bool a.neg) ∧ u.cell? ⟨w.heap.size, 1, none⟩ = some (.slice a.A a.n a.c)) (first | (refine HS.out _ ?_; (repeat (first | with_reducible exact G0m | with_reducible exact B2.mono (by omega) | with_reducible exact B1.mono (by omega) | with_reducible exact Below.refl _ _ | with_reducible refine Below.drew ?_ | with_reducible refine below_drewN ?_ _ | with_reducible refine Below.setCell ?_ (by first | (simp; done) | (simp; omega) | omega) _)); done) | fail)
    (first
      | (go_at_call 81; (with_reducible refine (one_any _).mono ?_); rintro e u1 ⟨A1, k1, c1, x1, rfl, hl1, hr1, hb1⟩; have B1 : Below V1.heap.size V1 u1 := bnext G0 hb1; have R1 := Lib.hid hr1; have V1' := Lib.hid (show vld x1 = true from rep_v128 hr1 (lt_top (by decide))); have P1 := Lib.hid (show vb 4294967296 x1 < Top128 by rw [hr1.val]; exact lt_top (by decide)); clear hr1)
      | (go_at_call 73; (with_reducible refine (isumv _ u1.heap.size (!a.neg) true a.A A1 a.n k1 a.c c1 a.xs x1 ((HA.below B1 (by omega)).more (by have := B1.size; omega)) hl1 (Nat.le_refl _) VA.out V1'.out PAX.out P1.out (-a.val - 1) (by rw [R1.out.val, ← AV.out]; exact sval_not _ _)).mono ?_); rintro e u2 hv; obtain ⟨z4, f4, g4, hy4, m4, A4, k4, c4, x4, rfl, hl4, hr4, hb4⟩ := vl_yr hv; clear hv; have R4 := Lib.hid hr4; have Y4 := Lib.hid hy4; clear hr4 hy4; have B2 : Below V1.heap.size V1 u2 := bnext B1 hb4; have PRq := PR.below B2 PR.lt; have PFq := PF.below B2 PF.lt; obtain ⟨r0, r1, y0, y1, _⟩ := PRq; obtain ⟨f0, f1, z0, z1, _⟩ := PFq)
      | fail)
  all_goals (go_wp2_with fail)
  all_goals
    refine bodyPost_ret (v := .tuple #[intv m4 A4 k4 c4, flt f4 g4]) (by simp [results, Try.results52, go_sem, f0, f1, r0, r1]) rfl (yr_vl Y4.out ⟨m4, A4, k4, c4, x4, rfl, ?_, R4.out, ?_⟩)
    · have b4 : Bk2 u2 (w.heap.size + 1) (.bool false) (.slice none 0 0) := ⟨r0, r1, y0, y1, by have := B2.size; have := PR.lt; omega⟩
      have b5 : Bk2 u2 (w.heap.size + 2) (.int .i64 0) (.int .i64 0) := ⟨f0, f1, z0, z1, by have := B2.size; have := PF.lt; omega⟩
      (with_reducible refine LRd.more (B := u2.heap.size) ?_ (by first | (simp [World.setCell]; done) | (simp [World.setCell]; omega)))
      exact lrd_pair hl4 b4 b5 (by omega) _ _ _ _ _ rfl
    · (repeat (first | with_reducible exact E.trans (B2.mono E.size) | with_reducible refine Below.drew ?_ | with_reducible refine below_drewN ?_ _ | with_reducible refine Below.setCell ?_ (by first | (simp; done) | (simp; omega) | omega) _))
set_option maxHeartbeats 2000000 in
theorem inot_bad (w : World) (B : Nat) (a : IV) (HA : a.at w B) (hB : B ≤ w.heap.size) (f2 : Int) (hf : ffault [a] 0 = (6, f2)) :
    Calls Try.prog 52 #[a.v] w (GivesVF w 0 6 f2) := by
  replace HA : LRd w B a.A a.n a.c a.xs := HA
  have E : Below w.heap.size w w := Below.refl _ _
  have IR := Lib.hid (irow1 (((w.alloc a.cells).alloc (.cells #[.bool false, .slice none 0 0] 24)).alloc (.cells #[.int .i64 0, .int .i64 0] 26)) B a (((HA.alloc (by omega) _).alloc (by simp; omega) _).alloc (by simp; omega) _) (by simp; omega))
  go_enter Try.func52, Try.ntmps52
  go_wp2_with fail
  obtain ⟨V0, hV0⟩ : ∃ V0 : World, V0 = ((((w.alloc (.cells #[.bool a.neg, .slice a.A a.n a.c] 24)).alloc (.cells #[.bool false, .slice none 0 0] 24)).alloc (.cells #[.int .i64 0, .int .i64 0] 26)).alloc (.cells #[.bool a.neg, .slice a.A a.n a.c] 24)) := ⟨_, rfl⟩
  have bV0 : Below w.heap.size w V0 := by rw [hV0]; (repeat (first | with_reducible exact Below.refl _ _ | with_reducible refine Below.drew ?_ | with_reducible refine below_drewN ?_ _ | with_reducible refine Below.setCell ?_ (by first | (simp; done) | (simp; omega) | omega) _ | with_reducible refine Below.alloc ?_ (by first | (simp; done) | (simp; omega) | omega) _))
  have zV0 : w.heap.size + 4 ≤ V0.heap.size := by rw [hV0]; simp
  have PA : Bk2 V0 (w.heap.size) (.bool a.neg) (.slice a.A a.n a.c) := by rw [hV0]; exact ((((Bk2.newAt _ _ (by simp) _ _ _).alloc _).alloc _).alloc _)
  have PR : Bk2 V0 (w.heap.size + 1) (.bool false) (.slice none 0 0) := by rw [hV0]; exact (((Bk2.newAt _ _ (by simp) _ _ _).alloc _).alloc _)
  have PF : Bk2 V0 (w.heap.size + 2) (.int .i64 0) (.int .i64 0) := by rw [hV0]; exact ((Bk2.newAt _ _ (by simp) _ _ _).alloc _)
  replace IR : Hid (IRow V0 B (w.heap.size + 3) [a]) := by have h9 := IR.out; rw [hV0]; rw [show (((w.alloc a.cells).alloc (.cells #[.bool false, .slice none 0 0] 24)).alloc (.cells #[.int .i64 0, .int .i64 0] 26)).heap.size = w.heap.size + 3 by simp] at h9; exact h9
  rw [← hV0]
  clear hV0
  replace E : Below w.heap.size w V0 := E.trans (bV0.mono E.size)
  replace HA : LRd V0 (B) a.A a.n a.c a.xs := HA.below bV0 (by omega)
  clear bV0
  (with_reducible refine (check_any _ B (w.heap.size + 3) 1 [a] IR.out rfl (by omega) (by omega)).mono ?_)
  rintro e w1 ⟨rfl, hb1⟩
  have sw1 := hb1.size
  replace E : Below w.heap.size w w1 := E.trans (hb1.mono E.size)
  replace HA : LRd w1 (B) a.A a.n a.c a.xs := HA.below hb1 (by omega)
  replace PA : Bk2 w1 (w.heap.size) (.bool a.neg) (.slice a.A a.n a.c) := PA.below hb1 PA.lt
  replace PR : Bk2 w1 (w.heap.size + 1) (.bool false) (.slice none 0 0) := PR.below hb1 PR.lt
  replace PF : Bk2 w1 (w.heap.size + 2) (.int .i64 0) (.int .i64 0) := PF.below hb1 PF.lt
  clear hb1
  rw [hf]
  clear IR
  go_wp2_with fail
  obtain ⟨V1, hV1⟩ : ∃ V1 : World, V1 = (w1.alloc (.cells #[.int .i64 6, .int .i64 f2] 26)) := ⟨_, rfl⟩
  have bV1 : Below w1.heap.size w1 V1 := by rw [hV1]; (repeat (first | with_reducible exact Below.refl _ _ | with_reducible refine Below.drew ?_ | with_reducible refine below_drewN ?_ _ | with_reducible refine Below.setCell ?_ (by first | (simp; done) | (simp; omega) | omega) _ | with_reducible refine Below.alloc ?_ (by first | (simp; done) | (simp; omega) | omega) _))
  have zV1 : w1.heap.size + 1 ≤ V1.heap.size := by rw [hV1]; simp
  have PQ : Bk2 V1 (w1.heap.size) (.int .i64 6) (.int .i64 f2) := by rw [hV1]; exact (Bk2.newAt _ _ (by simp) _ _ _)
  rw [← hV1]
  clear hV1
  replace E : Below w.heap.size w V1 := E.trans (bV1.mono E.size)
  replace HA : LRd V1 (B) a.A a.n a.c a.xs := HA.below bV1 (by omega)
  replace PA : Bk2 V1 (w.heap.size) (.bool a.neg) (.slice a.A a.n a.c) := PA.below bV1 PA.lt
  replace PR : Bk2 V1 (w.heap.size + 1) (.bool false) (.slice none 0 0) := PR.below bV1 PR.lt
  replace PF : Bk2 V1 (w.heap.size + 2) (.int .i64 0) (.int .i64 0) := PF.below bV1 PF.lt
  clear bV1
  obtain ⟨f0, f1, z0, z1, _⟩ := PF
  obtain ⟨r0, r1, y0, y1, _⟩ := PR
  obtain ⟨x0, x1, _, _, _⟩ := PQ
  clear PA HA hf
  go_region
  all_goals (go_wp2_with fail)
  all_goals
    refine bodyPost_ret (v := .tuple #[intv false none 0 0, flt 6 f2]) (by simp [results, Try.results52, go_sem, f0, f1, r0, r1]) rfl ⟨false, none, 0, 0, [], rfl, nil_lrd _, irep0, ?_⟩
    (repeat (first | with_reducible exact Below.refl _ _ | with_reducible exact E | with_reducible refine Below.drew ?_ | with_reducible refine below_drewN ?_ _ | with_reducible refine Below.setCell ?_ (by first | (simp; done) | (simp; omega) | omega) _ | with_reducible refine Below.alloc ?_ (by first | (simp; done) | (simp; omega) | omega) _))
end Go.Proofs.Ytpjfoggohhlbdaa
