/- The program's Floor of ratios. -/
import Derived.Test.YtflmcgoijofpdaaGreatBu
import Derived.Test.YtflmcgoijofpdaaGreatBj
import Derived.Test.YtflmcgoijofpdaaGreatBc
namespace Go.Proofs.YtflmcgoijofpdaaGreat
open Go.RowKit
set_option maxHeartbeats 400000
set_option maxRecDepth 100000
set_option linter.unusedSimpArgs false
set_option linter.unusedVariables false

/-- An integer, a ratio and a fault. -/
def GivesFlr (w : World) (q n d f1 f2 : Int) (e : Ending) (w' : World) : Prop :=
  ∃ (t : IV) (r : RV), e = .returned (.tuple #[t.v, r.v, flt f1 f2]) ∧ t.at w' w'.heap.size ∧ r.at w' w'.heap.size ∧ IRep t.neg t.xs q ∧ IRep r.num.neg r.num.xs n ∧ IRep r.den.neg r.den.xs d ∧ Below w.heap.size w w'
theorem fl_keep {u : World} {B n c g1 g2 g3 : Nat} {A : Option Addr} {xs : List Nat} {b : Bool} {D : Option Addr} {m k : Nat} {b2 b3 : Bool} {D2 D3 : Option Addr} {m2 k2 m3 k3 : Nat} {i j : Int} (h : LRd u B A n c xs) (P : Bk2 u g1 (.bool b) (.slice D m k)) (R : Bk4 u g2 (.bool b2) (.slice D2 m2 k2) (.bool b3) (.slice D3 m3 k3)) (F : Bk2 u g3 (.int .i64 i) (.int .i64 j)) (h12 : g1 ≠ g2) (h13 : g1 ≠ g3) (h23 : g2 ≠ g3) (x1 x2 y1 y2 y3 y4 z1 z2 : Value) :
    LRd ((((((((u.setCell ⟨g1, 0, none⟩ x1).setCell ⟨g1, 1, none⟩ x2).setCell ⟨g2, 0, none⟩ y1).setCell ⟨g2, 1, none⟩ y2).setCell ⟨g2, 2, none⟩ y3).setCell ⟨g2, 3, none⟩ y4).setCell ⟨g3, 0, none⟩ z1).setCell ⟨g3, 1, none⟩ z2) B A n c xs := by
  have h1 := h.setB P (by simp) (by simp) x1 x2
  have R1 := R.far2 (k := g1) (by omega) x1 x2
  have h2 := h1.set4 R1 (by simp) (by simp) (by simp) (by simp) y1 y2 y3 y4
  have F1 := (F.far2 (g' := g1) (by omega) x1 x2).far4 (k := g2) (by omega) y1 y2 y3 y4
  exact h2.setB F1 (by simp) (by simp) z1 z2
set_option maxHeartbeats 4000000 in
theorem rfloor_bad (w : World) (B : Nat) (a : RV) (H1 : a.at w B) (hB : B ≤ w.heap.size) (f2 : Int) (hf : rfault [a] 0 = (6, f2)) :
    Calls Tryz.prog 33 #[a.v] w (GivesFlr w 0 0 0 6 f2) := by
  have bbase : Below w.heap.size w ((((w.alloc (.cells #[.bool a.num.neg, .slice a.num.A a.num.n a.num.c, .bool a.den.neg, .slice a.den.A a.den.n a.den.c] 26)).alloc (.cells #[.bool false, .slice none 0 0] 24)).alloc (.cells #[.bool false, .slice none 0 0, .bool false, .slice none 0 0] 26)).alloc (.cells #[.int .i64 0, .int .i64 0] 28)) := ((((bl1 w _).alloc (by simp) _).alloc (by simp; omega) _).alloc (by simp; omega) _)
  have HA : LRd w B a.num.A a.num.n a.num.c a.num.xs := H1.1
  have HC : LRd w B a.den.A a.den.n a.den.c a.den.xs := H1.2
  have E : Below w.heap.size w w := Below.refl _ _
  have RR := Lib.hid (rrow1 ((((w.alloc (.cells #[.bool a.num.neg, .slice a.num.A a.num.n a.num.c, .bool a.den.neg, .slice a.den.A a.den.n a.den.c] 26)).alloc (.cells #[.bool false, .slice none 0 0] 24)).alloc (.cells #[.bool false, .slice none 0 0, .bool false, .slice none 0 0] 26)).alloc (.cells #[.int .i64 0, .int .i64 0] 28)) B a (RV.at.below H1 bbase (by omega)) (by simp; omega))
  clear bbase
  go_enter Tryz.func33, Tryz.ntmps33
  go_wp2_with fail
  obtain ⟨V0, hV0⟩ : ∃ V0 : World, V0 = (((((w.alloc (.cells #[.bool a.num.neg, .slice a.num.A a.num.n a.num.c, .bool a.den.neg, .slice a.den.A a.den.n a.den.c] 26)).alloc (.cells #[.bool false, .slice none 0 0] 24)).alloc (.cells #[.bool false, .slice none 0 0, .bool false, .slice none 0 0] 26)).alloc (.cells #[.int .i64 0, .int .i64 0] 28)).alloc (.cells #[.bool a.num.neg, .slice a.num.A a.num.n a.num.c, .bool a.den.neg, .slice a.den.A a.den.n a.den.c] 26)) := ⟨_, rfl⟩
  have bV0 : Below w.heap.size w V0 := by rw [hV0]; (repeat (first | with_reducible exact Below.refl _ _ | with_reducible refine Below.drew ?_ | with_reducible refine below_drewN ?_ _ | with_reducible refine Below.setCell ?_ (by first | (simp; done) | (simp; omega) | omega) _ | with_reducible refine Below.alloc ?_ (by first | (simp; done) | (simp; omega) | omega) _))
  have zV0 : w.heap.size + 5 ≤ V0.heap.size := by rw [hV0]; simp
  have PA : Bk4 V0 (w.heap.size) (.bool a.num.neg) (.slice a.num.A a.num.n a.num.c) (.bool a.den.neg) (.slice a.den.A a.den.n a.den.c) := by rw [hV0]; exact (((((Bk4.newAt _ _ (by first | omega | (simp; done) | (simp; omega)) _ _ _ _ _).alloc _).alloc _).alloc _).alloc _)
  have PI : Bk2 V0 (w.heap.size + 1) (.bool false) (.slice none 0 0) := by rw [hV0]; exact ((((Bk2.newAt _ _ (by first | omega | (simp; done) | (simp; omega)) _ _ _).alloc _).alloc _).alloc _)
  have PR : Bk4 V0 (w.heap.size + 2) (.bool false) (.slice none 0 0) (.bool false) (.slice none 0 0) := by rw [hV0]; exact (((Bk4.newAt _ _ (by first | omega | (simp; done) | (simp; omega)) _ _ _ _ _).alloc _).alloc _)
  have PF : Bk2 V0 (w.heap.size + 3) (.int .i64 0) (.int .i64 0) := by rw [hV0]; exact ((Bk2.newAt _ _ (by first | omega | (simp; done) | (simp; omega)) _ _ _).alloc _)
  replace RR : Hid (RRow V0 B (w.heap.size + 4) [a]) := by have h9 := RR.out; rw [hV0]; rw [show (((((w.alloc (.cells #[.bool a.num.neg, .slice a.num.A a.num.n a.num.c, .bool a.den.neg, .slice a.den.A a.den.n a.den.c] 26)).alloc (.cells #[.bool false, .slice none 0 0] 24)).alloc (.cells #[.bool false, .slice none 0 0, .bool false, .slice none 0 0] 26)).alloc (.cells #[.int .i64 0, .int .i64 0] 28))).heap.size = w.heap.size + 4 by simp] at h9; exact h9
  rw [← hV0]
  clear hV0
  replace E := E.trans (bV0.mono E.size)
  replace HA := HA.below bV0 (by omega)
  replace HC := HC.below bV0 (by omega)
  clear bV0
  (with_reducible refine (rcheck_any _ B (w.heap.size + 4) 1 [a] RR.out rfl (by omega) (by omega)).mono ?_)
  rintro e w1 ⟨rfl, hb1⟩
  have sw1 := hb1.size
  replace E := E.trans (hb1.mono E.size)
  replace HA := HA.below hb1 (by omega)
  replace HC := HC.below hb1 (by omega)
  replace PA := PA.below hb1 PA.lt
  replace PI := PI.below hb1 PI.lt
  replace PR := PR.below hb1 PR.lt
  replace PF := PF.below hb1 PF.lt
  clear hb1
  rw [hf]
  clear RR
  go_upto_region 3 with fail
  obtain ⟨V1, hV1⟩ : ∃ V1 : World, V1 = (w1.alloc (.cells #[.int .i64 6, .int .i64 f2] 28)) := ⟨_, rfl⟩
  have bV1 : Below w1.heap.size w1 V1 := by rw [hV1]; (repeat (first | with_reducible exact Below.refl _ _ | with_reducible refine Below.drew ?_ | with_reducible refine below_drewN ?_ _ | with_reducible refine Below.setCell ?_ (by first | (simp; done) | (simp; omega) | omega) _ | with_reducible refine Below.alloc ?_ (by first | (simp; done) | (simp; omega) | omega) _))
  have zV1 : w1.heap.size + 1 ≤ V1.heap.size := by rw [hV1]; simp
  have F5 : Bk2 V1 (w1.heap.size) (.int .i64 6) (.int .i64 f2) := by rw [hV1]; exact (Bk2.newAt _ _ (by first | omega | (simp; done) | (simp; omega)) _ _ _)
  rw [← hV1]
  clear hV1
  replace E := E.trans (bV1.mono E.size)
  replace HA := HA.below bV1 (by omega)
  replace HC := HC.below bV1 (by omega)
  replace PA := PA.below bV1 PA.lt
  replace PI := PI.below bV1 PI.lt
  replace PR := PR.below bV1 PR.lt
  replace PF := PF.below bV1 PF.lt
  clear bV1
  have lt6 := F5.lt
  have ltI := PI.lt
  have ltR := PR.lt
  have ltF := PF.lt
  obtain ⟨_, _, _, _, _⟩ := F5
  obtain ⟨f0, f1, z0, z1, _⟩ := PF
  obtain ⟨i0, i1, y4, y5, _⟩ := PI
  obtain ⟨r0, r1, r2, r3, y0, y1, y2, y3, _⟩ := PR
  go_region
  go_wp2_with fail
  refine bodyPost_ret (v := .tuple #[intv false none 0 0, ratv false none 0 0 false none 0 0, flt 6 f2]) (by simp [results, Tryz.results33, go_sem, i0, i1, r0, r1, r2, r3, f0, f1]) rfl ⟨⟨false, none, 0, 0, []⟩, ⟨⟨false, none, 0, 0, []⟩, ⟨false, none, 0, 0, []⟩⟩, rfl, nil_lrd _, ⟨nil_lrd _, nil_lrd _⟩, IRep.zero, IRep.zero, IRep.zero, ?_⟩
  (repeat (first | with_reducible exact E | with_reducible refine Below.drew ?_ | with_reducible refine below_drewN ?_ _ | with_reducible refine Below.setCell ?_ (by first | (simp; done) | (simp; omega) | omega) _))
set_option maxHeartbeats 8000000 in
theorem rfloor_ok (w : World) (B : Nat) (a : RV) (H1 : a.at w B) (hB : B ≤ w.heap.size) (oa : a.ok = true) :
    Calls Tryz.prog 33 #[a.v] w (fun e w' => ∃ q r, FloorOf a.num.val a.den.val q r ∧ GivesFlr w q r a.den.val 0 0 e w') := by
  have VA := RV.val oa H1
  have hf := rone_ok oa
  have on := Lib.hid (RV.okn oa)
  have od := Lib.hid (RV.okd oa)
  have hdn : a.den.n ≤ 1000000000 := by have l1 := (IV.vld od.out).2; have l3 := H1.2.len.out; omega
  have hd0 : 0 < a.den.n := VA.den.pos H1.2.len.out (by have := VA.pos; omega)
  have ID := Lib.hid (show IRep false a.den.xs a.den.val by have h5 := VA.den; have h6 : a.den.neg = false := (by rw [h5.sgn]; exact decide_eq_false (by have := VA.pos; omega)); rw [h6] at h5; exact h5)
  clear VA oa
  have bbase : Below w.heap.size w ((((w.alloc (.cells #[.bool a.num.neg, .slice a.num.A a.num.n a.num.c, .bool a.den.neg, .slice a.den.A a.den.n a.den.c] 26)).alloc (.cells #[.bool false, .slice none 0 0] 24)).alloc (.cells #[.bool false, .slice none 0 0, .bool false, .slice none 0 0] 26)).alloc (.cells #[.int .i64 0, .int .i64 0] 28)) := ((((bl1 w _).alloc (by simp) _).alloc (by simp; omega) _).alloc (by simp; omega) _)
  have HA : LRd w B a.num.A a.num.n a.num.c a.num.xs := H1.1
  have HC : LRd w B a.den.A a.den.n a.den.c a.den.xs := H1.2
  have E : Below w.heap.size w w := Below.refl _ _
  have RR := Lib.hid (rrow1 ((((w.alloc (.cells #[.bool a.num.neg, .slice a.num.A a.num.n a.num.c, .bool a.den.neg, .slice a.den.A a.den.n a.den.c] 26)).alloc (.cells #[.bool false, .slice none 0 0] 24)).alloc (.cells #[.bool false, .slice none 0 0, .bool false, .slice none 0 0] 26)).alloc (.cells #[.int .i64 0, .int .i64 0] 28)) B a (RV.at.below H1 bbase (by omega)) (by simp; omega))
  clear bbase
  go_enter Tryz.func33, Tryz.ntmps33
  go_wp2_with fail
  obtain ⟨V0, hV0⟩ : ∃ V0 : World, V0 = (((((w.alloc (.cells #[.bool a.num.neg, .slice a.num.A a.num.n a.num.c, .bool a.den.neg, .slice a.den.A a.den.n a.den.c] 26)).alloc (.cells #[.bool false, .slice none 0 0] 24)).alloc (.cells #[.bool false, .slice none 0 0, .bool false, .slice none 0 0] 26)).alloc (.cells #[.int .i64 0, .int .i64 0] 28)).alloc (.cells #[.bool a.num.neg, .slice a.num.A a.num.n a.num.c, .bool a.den.neg, .slice a.den.A a.den.n a.den.c] 26)) := ⟨_, rfl⟩
  have bV0 : Below w.heap.size w V0 := by rw [hV0]; (repeat (first | with_reducible exact Below.refl _ _ | with_reducible refine Below.drew ?_ | with_reducible refine below_drewN ?_ _ | with_reducible refine Below.setCell ?_ (by first | (simp; done) | (simp; omega) | omega) _ | with_reducible refine Below.alloc ?_ (by first | (simp; done) | (simp; omega) | omega) _))
  have zV0 : w.heap.size + 5 ≤ V0.heap.size := by rw [hV0]; simp
  have PA : Bk4 V0 (w.heap.size) (.bool a.num.neg) (.slice a.num.A a.num.n a.num.c) (.bool a.den.neg) (.slice a.den.A a.den.n a.den.c) := by rw [hV0]; exact (((((Bk4.newAt _ _ (by first | omega | (simp; done) | (simp; omega)) _ _ _ _ _).alloc _).alloc _).alloc _).alloc _)
  have PI : Bk2 V0 (w.heap.size + 1) (.bool false) (.slice none 0 0) := by rw [hV0]; exact ((((Bk2.newAt _ _ (by first | omega | (simp; done) | (simp; omega)) _ _ _).alloc _).alloc _).alloc _)
  have PR : Bk4 V0 (w.heap.size + 2) (.bool false) (.slice none 0 0) (.bool false) (.slice none 0 0) := by rw [hV0]; exact (((Bk4.newAt _ _ (by first | omega | (simp; done) | (simp; omega)) _ _ _ _ _).alloc _).alloc _)
  have PF : Bk2 V0 (w.heap.size + 3) (.int .i64 0) (.int .i64 0) := by rw [hV0]; exact ((Bk2.newAt _ _ (by first | omega | (simp; done) | (simp; omega)) _ _ _).alloc _)
  replace RR : Hid (RRow V0 B (w.heap.size + 4) [a]) := by have h9 := RR.out; rw [hV0]; rw [show (((((w.alloc (.cells #[.bool a.num.neg, .slice a.num.A a.num.n a.num.c, .bool a.den.neg, .slice a.den.A a.den.n a.den.c] 26)).alloc (.cells #[.bool false, .slice none 0 0] 24)).alloc (.cells #[.bool false, .slice none 0 0, .bool false, .slice none 0 0] 26)).alloc (.cells #[.int .i64 0, .int .i64 0] 28))).heap.size = w.heap.size + 4 by simp] at h9; exact h9
  rw [← hV0]
  clear hV0
  replace E := E.trans (bV0.mono E.size)
  replace HA := HA.below bV0 (by omega)
  replace HC := HC.below bV0 (by omega)
  clear bV0
  (with_reducible refine (rcheck_any _ B (w.heap.size + 4) 1 [a] RR.out rfl (by omega) (by omega)).mono ?_)
  rintro e w1 ⟨rfl, hb1⟩
  have sw1 := hb1.size
  replace E := E.trans (hb1.mono E.size)
  replace HA := HA.below hb1 (by omega)
  replace HC := HC.below hb1 (by omega)
  replace PA := PA.below hb1 PA.lt
  replace PI := PI.below hb1 PI.lt
  replace PR := PR.below hb1 PR.lt
  replace PF := PF.below hb1 PF.lt
  clear hb1
  rw [hf]
  clear RR
  have t_PA0 : (w1.alloc (.cells #[.int .i64 0, .int .i64 0] 28)).cell? ⟨w.heap.size, 0, none⟩ = some ((.bool a.num.neg)) := (PA.alloc _).c0
  have t_PA1 : (w1.alloc (.cells #[.int .i64 0, .int .i64 0] 28)).cell? ⟨w.heap.size, 1, none⟩ = some ((.slice a.num.A a.num.n a.num.c)) := (PA.alloc _).c1
  have t_PA2 : (w1.alloc (.cells #[.int .i64 0, .int .i64 0] 28)).cell? ⟨w.heap.size, 2, none⟩ = some ((.bool a.den.neg)) := (PA.alloc _).c2
  have t_PA3 : (w1.alloc (.cells #[.int .i64 0, .int .i64 0] 28)).cell? ⟨w.heap.size, 3, none⟩ = some ((.slice a.den.A a.den.n a.den.c)) := (PA.alloc _).c3
  go_wp2_with fail
  clear t_PA0 t_PA1 t_PA2 t_PA3
  obtain ⟨V1, hV1⟩ : ∃ V1 : World, V1 = (w1.alloc (.cells #[.int .i64 0, .int .i64 0] 28)) := ⟨_, rfl⟩
  have bV1 : Below w1.heap.size w1 V1 := by rw [hV1]; (repeat (first | with_reducible exact Below.refl _ _ | with_reducible refine Below.drew ?_ | with_reducible refine below_drewN ?_ _ | with_reducible refine Below.setCell ?_ (by first | (simp; done) | (simp; omega) | omega) _ | with_reducible refine Below.alloc ?_ (by first | (simp; done) | (simp; omega) | omega) _))
  have zV1 : w1.heap.size + 1 ≤ V1.heap.size := by rw [hV1]; simp
  have F5 : Bk2 V1 (w1.heap.size) (.int .i64 0) (.int .i64 0) := by rw [hV1]; exact (Bk2.newAt _ _ (by first | omega | (simp; done) | (simp; omega)) _ _ _)
  rw [← hV1]
  clear hV1
  replace E := E.trans (bV1.mono E.size)
  replace HA := HA.below bV1 (by omega)
  replace HC := HC.below bV1 (by omega)
  replace PA := PA.below bV1 PA.lt
  replace PI := PI.below bV1 PI.lt
  replace PR := PR.below bV1 PR.lt
  replace PF := PF.below bV1 PF.lt
  clear bV1
  clear F5
  (with_reducible refine (idivmod_ok _ B a.num a.den (iv_at HA) (iv_at HC) (by omega) on.out od.out hd0).mono ?_)
  rintro e w2 ⟨q, r, hfl, m, A, k, c, zs, n, D, l, d, ys, rfl, hl1, hr1, hl2, hr2, hb2⟩
  have sw2 := hb2.size
  replace E := E.trans (hb2.mono E.size)
  replace HA := HA.below hb2 (by omega)
  replace HC := HC.below hb2 (by omega)
  replace PA := PA.below hb2 PA.lt
  replace PI := PI.below hb2 PI.lt
  replace PR := PR.below hb2 PR.lt
  replace PF := PF.below hb2 PF.lt
  clear hb2
  have FL := Lib.hid hfl
  have R1 := Lib.hid hr1
  have R2 := Lib.hid hr2
  clear hfl hr1 hr2
  go_upto_region 5 with fail
  obtain ⟨V2, hV2⟩ : ∃ V2 : World, V2 = (((w2.alloc (.cells #[.bool m, .slice A k c] 24)).alloc (.cells #[.bool n, .slice D l d] 24)).alloc (.cells #[.int .i64 0, .int .i64 0] 28)) := ⟨_, rfl⟩
  have bV2 : Below w2.heap.size w2 V2 := by rw [hV2]; (repeat (first | with_reducible exact Below.refl _ _ | with_reducible refine Below.drew ?_ | with_reducible refine below_drewN ?_ _ | with_reducible refine Below.setCell ?_ (by first | (simp; done) | (simp; omega) | omega) _ | with_reducible refine Below.alloc ?_ (by first | (simp; done) | (simp; omega) | omega) _))
  have zV2 : w2.heap.size + 3 ≤ V2.heap.size := by rw [hV2]; simp
  have P6 : Bk2 V2 (w2.heap.size) (.bool m) (.slice A k c) := by rw [hV2]; exact (((Bk2.newAt _ _ (by first | omega | (simp; done) | (simp; omega)) _ _ _).alloc _).alloc _)
  have P7 : Bk2 V2 (w2.heap.size + 1) (.bool n) (.slice D l d) := by rw [hV2]; exact ((Bk2.newAt _ _ (by first | omega | (simp; done) | (simp; omega)) _ _ _).alloc _)
  have F8 : Bk2 V2 (w2.heap.size + 2) (.int .i64 0) (.int .i64 0) := by rw [hV2]; exact (Bk2.newAt _ _ (by first | omega | (simp; done) | (simp; omega)) _ _ _)
  rw [← hV2]
  clear hV2
  replace E := E.trans (bV2.mono E.size)
  replace HA := HA.below bV2 (by omega)
  replace HC := HC.below bV2 (by omega)
  replace PA := PA.below bV2 PA.lt
  replace PI := PI.below bV2 PI.lt
  replace PR := PR.below bV2 PR.lt
  replace PF := PF.below bV2 PF.lt
  replace hl1 := hl1.below bV2 (by omega)
  replace hl2 := hl2.below bV2 (by omega)
  clear bV2
  have lt_PA := PA.lt
  have HS := Lib.hid (fun (u : World) (hu : Below (w.heap.size + 1) V2 u) => (⟨(hu.cell (p := ⟨w.heap.size, 0, none⟩) (by show w.heap.size < _; omega)).trans PA.c0, (hu.cell (p := ⟨w.heap.size, 1, none⟩) (by show w.heap.size < _; omega)).trans PA.c1, (hu.cell (p := ⟨w.heap.size, 2, none⟩) (by show w.heap.size < _; omega)).trans PA.c2, (hu.cell (p := ⟨w.heap.size, 3, none⟩) (by show w.heap.size < _; omega)).trans PA.c3⟩ : u.cell? ⟨w.heap.size, 0, none⟩ = some (.bool a.num.neg) ∧ u.cell? ⟨w.heap.size, 1, none⟩ = some (.slice a.num.A a.num.n a.num.c) ∧ u.cell? ⟨w.heap.size, 2, none⟩ = some (.bool a.den.neg) ∧ u.cell? ⟨w.heap.size, 3, none⟩ = some (.slice a.den.A a.den.n a.den.c)))
  have G0 : Below V2.heap.size V2 V2.drew := Below.drew (Below.refl _ _)
  have g0s := G0.size
  have G0m : Below (w.heap.size + 1) V2 V2.drew := G0.mono (by omega)
  have HS2 := Lib.hid (fun (u : World) (hu : Below (w.heap.size + 1) V2 u) (hG : Bk2 u (w2.heap.size) (.bool m) (.slice A k c)) (hH : Bk2 u (w2.heap.size + 1) (.bool n) (.slice D l d)) => (by obtain ⟨a0, a1, a2, a3⟩ := HS.out u hu; exact ⟨a0, a1, a2, a3, hG.c0, hG.c1, hH.c0, hH.c1⟩ : u.cell? ⟨w.heap.size, 0, none⟩ = some (.bool a.num.neg) ∧ u.cell? ⟨w.heap.size, 1, none⟩ = some (.slice a.num.A a.num.n a.num.c) ∧ u.cell? ⟨w.heap.size, 2, none⟩ = some (.bool a.den.neg) ∧ u.cell? ⟨w.heap.size, 3, none⟩ = some (.slice a.den.A a.den.n a.den.c) ∧ u.cell? ⟨w2.heap.size, 0, none⟩ = some (.bool m) ∧ u.cell? ⟨w2.heap.size, 1, none⟩ = some (.slice A k c) ∧ u.cell? ⟨w2.heap.size + 1, 0, none⟩ = some (.bool n) ∧ u.cell? ⟨w2.heap.size + 1, 1, none⟩ = some (.slice D l d)))
  have lt6 := P6.lt
  have lt7 := P7.lt
  have ltI := PI.lt
  have ltR := PR.lt
  have ltF := PF.lt
  go_region_held3 (fun u => u.cell? ⟨w.heap.size, 0, none⟩ = some (.bool a.num.neg) ∧ u.cell? ⟨w.heap.size, 1, none⟩ = some (.slice a.num.A a.num.n a.num.c) ∧ u.cell? ⟨w.heap.size, 2, none⟩ = some (.bool a.den.neg) ∧ u.cell? ⟨w.heap.size, 3, none⟩ = some (.slice a.den.A a.den.n a.den.c) ∧ u.cell? ⟨w2.heap.size, 0, none⟩ = some (.bool m) ∧ u.cell? ⟨w2.heap.size, 1, none⟩ = some (.slice A k c) ∧ u.cell? ⟨w2.heap.size + 1, 0, none⟩ = some (.bool n) ∧ u.cell? ⟨w2.heap.size + 1, 1, none⟩ = some (.slice D l d)) (first | exact HS2.out _ (by (repeat (first | with_reducible exact G0m | with_reducible exact BN.mono (by omega) | with_reducible exact B1.mono (by omega) | with_reducible exact Below.refl _ _ | with_reducible refine Below.drew ?_ | with_reducible refine below_drewN ?_ _ | with_reducible refine Below.setCell ?_ (by first | (simp; done) | (simp; omega) | omega) _))) (by (repeat (first | with_reducible refine Bk2.farA ?_ (by simp; omega) _ | with_reducible refine Bk2.drew ?_ | with_reducible exact P6.below BN P6.lt | with_reducible exact P6.below B1 P6.lt | with_reducible exact P6))) (by (repeat (first | with_reducible refine Bk2.farA ?_ (by simp; omega) _ | with_reducible refine Bk2.drew ?_ | with_reducible exact P7.below BN P7.lt | with_reducible exact P7.below B1 P7.lt | with_reducible exact P7))) | fail)
    (first
      | (go_at_call 76; (with_reducible refine (clone_any _ B a.den.A a.den.n a.den.c a.den.xs (HC.below G0 (by omega)) (by omega) hdn).mono ?_); rintro e u1 hcl; obtain ⟨A9, c9, rfl, hl9, hb1⟩ := clone_l hcl HC.len.out HC.lim; clear hcl; have B1 : Below V2.heap.size V2 u1 := bnext G0 hb1; have b1s := B1.size)
      | (go_at_call 75; (with_reducible refine (rsigned_any _ false A9 a.den.n c9 (by have := hl9.cap; omega)).mono ?_); rintro e u2 ⟨rfl, hb2⟩; have BN : Below V2.heap.size V2 u2 := bnext B1 hb2; have b2s := BN.size; have c2s := hb2.size; rw [Bool.false_and]; have hl9q := hl9.below hb2 (Nat.le_refl _); have PIq := PI.below BN PI.lt; have PRq := PR.below BN PR.lt; have PFq := PF.below BN PF.lt; obtain ⟨i0, i1, y4, y5, _⟩ := id PIq; obtain ⟨r0, r1, r2, r3, y0, y1, y2, y3, _⟩ := id PRq; obtain ⟨f0, f1, z0, z1, _⟩ := id PFq)
      | fail)
  all_goals (go_wp2_with fail)
  all_goals
    have hx1 := hl1.below BN (by omega)
    have hx2 := hl2.below BN (by omega)
    have K1 : LRd ((((((((u2.setCell ⟨w.heap.size + 1, 0, none⟩ (.bool m)).setCell ⟨w.heap.size + 1, 1, none⟩ (.slice A k c)).setCell ⟨w.heap.size + 1 + 1, 0, none⟩ (.bool n)).setCell ⟨w.heap.size + 1 + 1, 1, none⟩ (.slice D l d)).setCell ⟨w.heap.size + 1 + 1, 2, none⟩ (.bool false)).setCell ⟨w.heap.size + 1 + 1, 3, none⟩ (.slice A9 a.den.n c9)).setCell ⟨w.heap.size + 1 + 1 + 1, 0, none⟩ (.int .i64 0)).setCell ⟨w.heap.size + 1 + 1 + 1, 1, none⟩ (.int .i64 0)) ((((((((u2.setCell ⟨w.heap.size + 1, 0, none⟩ (.bool m)).setCell ⟨w.heap.size + 1, 1, none⟩ (.slice A k c)).setCell ⟨w.heap.size + 1 + 1, 0, none⟩ (.bool n)).setCell ⟨w.heap.size + 1 + 1, 1, none⟩ (.slice D l d)).setCell ⟨w.heap.size + 1 + 1, 2, none⟩ (.bool false)).setCell ⟨w.heap.size + 1 + 1, 3, none⟩ (.slice A9 a.den.n c9)).setCell ⟨w.heap.size + 1 + 1 + 1, 0, none⟩ (.int .i64 0)).setCell ⟨w.heap.size + 1 + 1 + 1, 1, none⟩ (.int .i64 0)).heap.size A k c zs := LRd.more (B := w2.heap.size) (fl_keep (g1 := w.heap.size + 1) (g2 := w.heap.size + 1 + 1) (g3 := w.heap.size + 1 + 1 + 1) hx1 PIq PRq PFq (by omega) (by omega) (by omega) (.bool m) (.slice A k c) (.bool n) (.slice D l d) (.bool false) (.slice A9 a.den.n c9) (.int .i64 0) (.int .i64 0)) (by simp [World.setCell]; first | done | omega)
    have K2 : LRd ((((((((u2.setCell ⟨w.heap.size + 1, 0, none⟩ (.bool m)).setCell ⟨w.heap.size + 1, 1, none⟩ (.slice A k c)).setCell ⟨w.heap.size + 1 + 1, 0, none⟩ (.bool n)).setCell ⟨w.heap.size + 1 + 1, 1, none⟩ (.slice D l d)).setCell ⟨w.heap.size + 1 + 1, 2, none⟩ (.bool false)).setCell ⟨w.heap.size + 1 + 1, 3, none⟩ (.slice A9 a.den.n c9)).setCell ⟨w.heap.size + 1 + 1 + 1, 0, none⟩ (.int .i64 0)).setCell ⟨w.heap.size + 1 + 1 + 1, 1, none⟩ (.int .i64 0)) ((((((((u2.setCell ⟨w.heap.size + 1, 0, none⟩ (.bool m)).setCell ⟨w.heap.size + 1, 1, none⟩ (.slice A k c)).setCell ⟨w.heap.size + 1 + 1, 0, none⟩ (.bool n)).setCell ⟨w.heap.size + 1 + 1, 1, none⟩ (.slice D l d)).setCell ⟨w.heap.size + 1 + 1, 2, none⟩ (.bool false)).setCell ⟨w.heap.size + 1 + 1, 3, none⟩ (.slice A9 a.den.n c9)).setCell ⟨w.heap.size + 1 + 1 + 1, 0, none⟩ (.int .i64 0)).setCell ⟨w.heap.size + 1 + 1 + 1, 1, none⟩ (.int .i64 0)).heap.size D l d ys := LRd.more (B := w2.heap.size) (fl_keep (g1 := w.heap.size + 1) (g2 := w.heap.size + 1 + 1) (g3 := w.heap.size + 1 + 1 + 1) hx2 PIq PRq PFq (by omega) (by omega) (by omega) (.bool m) (.slice A k c) (.bool n) (.slice D l d) (.bool false) (.slice A9 a.den.n c9) (.int .i64 0) (.int .i64 0)) (by simp [World.setCell]; first | done | omega)
    have K3 : LRd ((((((((u2.setCell ⟨w.heap.size + 1, 0, none⟩ (.bool m)).setCell ⟨w.heap.size + 1, 1, none⟩ (.slice A k c)).setCell ⟨w.heap.size + 1 + 1, 0, none⟩ (.bool n)).setCell ⟨w.heap.size + 1 + 1, 1, none⟩ (.slice D l d)).setCell ⟨w.heap.size + 1 + 1, 2, none⟩ (.bool false)).setCell ⟨w.heap.size + 1 + 1, 3, none⟩ (.slice A9 a.den.n c9)).setCell ⟨w.heap.size + 1 + 1 + 1, 0, none⟩ (.int .i64 0)).setCell ⟨w.heap.size + 1 + 1 + 1, 1, none⟩ (.int .i64 0)) ((((((((u2.setCell ⟨w.heap.size + 1, 0, none⟩ (.bool m)).setCell ⟨w.heap.size + 1, 1, none⟩ (.slice A k c)).setCell ⟨w.heap.size + 1 + 1, 0, none⟩ (.bool n)).setCell ⟨w.heap.size + 1 + 1, 1, none⟩ (.slice D l d)).setCell ⟨w.heap.size + 1 + 1, 2, none⟩ (.bool false)).setCell ⟨w.heap.size + 1 + 1, 3, none⟩ (.slice A9 a.den.n c9)).setCell ⟨w.heap.size + 1 + 1 + 1, 0, none⟩ (.int .i64 0)).setCell ⟨w.heap.size + 1 + 1 + 1, 1, none⟩ (.int .i64 0)).heap.size A9 a.den.n c9 a.den.xs := LRd.more (B := u1.heap.size) (fl_keep (g1 := w.heap.size + 1) (g2 := w.heap.size + 1 + 1) (g3 := w.heap.size + 1 + 1 + 1) hl9q PIq PRq PFq (by omega) (by omega) (by omega) (.bool m) (.slice A k c) (.bool n) (.slice D l d) (.bool false) (.slice A9 a.den.n c9) (.int .i64 0) (.int .i64 0)) (by simp [World.setCell]; first | done | omega)
    refine bodyPost_ret (v := .tuple #[intv m A k c, ratv n D l d false A9 a.den.n c9, flt 0 0]) (by simp [results, Tryz.results33, go_sem, i0, i1, r0, r1, r2, r3, f0, f1]) rfl ⟨q, r, FL.out, ⟨m, A, k, c, zs⟩, ⟨⟨n, D, l, d, ys⟩, ⟨false, A9, a.den.n, c9, a.den.xs⟩⟩, rfl, K1, ⟨K2, K3⟩, R1.out, R2.out, ID.out, ?_⟩
    (repeat (first | with_reducible exact E.trans (BN.mono E.size) | with_reducible refine Below.drew ?_ | with_reducible refine below_drewN ?_ _ | with_reducible refine Below.setCell ?_ (by first | (simp; done) | (simp; omega) | omega) _))
end Go.Proofs.YtflmcgoijofpdaaGreat
