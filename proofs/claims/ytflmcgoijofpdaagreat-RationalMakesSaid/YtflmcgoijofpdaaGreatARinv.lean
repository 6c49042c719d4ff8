/- The program's inverse of a ratio. -/
import Derived.Test.YtflmcgoijofpdaaGreatAo
namespace Go.Proofs.YtflmcgoijofpdaaGreat
open Go.RowKit
set_option maxHeartbeats 400000
set_option maxRecDepth 100000
set_option linter.unusedSimpArgs false
set_option linter.unusedVariables false

set_option maxHeartbeats 8000000 in
theorem rinv_any (w : World) (B : Nat) (a : RV) (na da : Int) (H1 : a.at w B) (hB : B ≤ w.heap.size) (IA : IRep a.num.neg a.num.xs na) (IC : IRep a.den.neg a.den.xs da) (h1 : na ≠ 0) (h2 : 0 < da) :
    Calls Tryz.prog 70 #[a.v] w (GivesRt w (sval a.num.neg da.natAbs) (sval false na.natAbs)) := by
  obtain ⟨HA, HC⟩ := H1
  replace HA : LRd w B a.num.A a.num.n a.num.c a.num.xs := HA
  replace HC : LRd w B a.den.A a.den.n a.den.c a.den.xs := HC
  have hd0 := Lib.hid (show decide (0 < a.den.n) = true from decide_eq_true (by
    have h3 : a.den.xs.length ≠ 0 := fun h => by have := (IRep.len0 IC).1 h; omega
    have h4 := HC.len.out
    omega))
  have I1 := Lib.hid (IRep.of (neg := a.num.neg) IC.rep (by omega))
  have I2 := Lib.hid (IRep.of (neg := false) IA.rep (by omega))
  clear IA IC
  have E : Below w.heap.size w w := Below.refl _ _
  go_enter Tryz.func70, Tryz.ntmps70
  go_upto_region 1 with fail
  obtain ⟨V0, hV0⟩ : ∃ V0 : World, V0 = ((w.alloc (.cells #[.bool a.num.neg, .slice a.num.A a.num.n a.num.c, .bool a.den.neg, .slice a.den.A a.den.n a.den.c] 26)).alloc (.cells #[.bool false, .slice none 0 0, .bool false, .slice none 0 0] 26)) := ⟨_, rfl⟩
  have bV0 : Below w.heap.size w V0 := by rw [hV0]; (repeat (first | with_reducible exact Below.refl _ _ | with_reducible refine Below.drew ?_ | with_reducible refine below_drewN ?_ _ | with_reducible refine Below.setCell ?_ (by first | (simp; done) | (simp; omega) | omega) _ | with_reducible refine Below.alloc ?_ (by first | (simp; done) | (simp; omega) | omega) _))
  have zV0 : w.heap.size + 2 ≤ V0.heap.size := by rw [hV0]; simp
  have PA : Bk4 V0 (w.heap.size) (.bool a.num.neg) (.slice a.num.A a.num.n a.num.c) (.bool a.den.neg) (.slice a.den.A a.den.n a.den.c) := by rw [hV0]; exact ((Bk4.newAt _ _ (by first | omega | (simp; done) | (simp; omega)) _ _ _ _ _).alloc _)
  have PR : Bk4 V0 (w.heap.size + 1) (.bool false) (.slice none 0 0) (.bool false) (.slice none 0 0) := by rw [hV0]; exact (Bk4.newAt _ _ (by first | omega | (simp; done) | (simp; omega)) _ _ _ _ _)
  rw [← hV0]
  clear hV0
  replace E := E.trans (bV0.mono E.size)
  replace HA := HA.below bV0 (by omega)
  replace HC := HC.below bV0 (by omega)
  clear bV0
  have k1 := HA.cap
  have k2 := HC.cap
  have lt_PA := PA.lt
  have HS := Lib.hid (fun (u : World) (hu : Below (w.heap.size + 1) V0 u) => (⟨(hu.cell (p := ⟨w.heap.size, 0, none⟩) (by show w.heap.size < _; omega)).trans PA.c0, (hu.cell (p := ⟨w.heap.size, 1, none⟩) (by show w.heap.size < _; omega)).trans PA.c1, (hu.cell (p := ⟨w.heap.size, 2, none⟩) (by show w.heap.size < _; omega)).trans PA.c2, (hu.cell (p := ⟨w.heap.size, 3, none⟩) (by show w.heap.size < _; omega)).trans PA.c3⟩ : u.cell? ⟨w.heap.size, 0, none⟩ = some (.bool a.num.neg) ∧ u.cell? ⟨w.heap.size, 1, none⟩ = some (.slice a.num.A a.num.n a.num.c) ∧ u.cell? ⟨w.heap.size, 2, none⟩ = some (.bool a.den.neg) ∧ u.cell? ⟨w.heap.size, 3, none⟩ = some (.slice a.den.A a.den.n a.den.c)))
  have G0 : Below V0.heap.size V0 V0.drew := Below.drew (Below.refl _ _)
  have g0s := G0.size
  have G0m : Below (w.heap.size + 1) V0 V0.drew := G0.mono (by omega)
  go_region_held3 (fun u => u.cell? ⟨w.heap.size, 0, none⟩ = some (.bool a.num.neg) ∧ u.cell? ⟨w.heap.size, 1, none⟩ = some (.slice a.num.A a.num.n a.num.c) ∧ u.cell? ⟨w.heap.size, 2, none⟩ = some (.bool a.den.neg) ∧ u.cell? ⟨w.heap.size, 3, none⟩ = some (.slice a.den.A a.den.n a.den.c)) (first | (refine HS.out _ ?_; (repeat (first | with_reducible exact G0m | with_reducible exact BN.mono (by omega) | with_reducible exact B1.mono (by omega) | with_reducible exact Below.refl _ _ | with_reducible refine Below.drew ?_ | with_reducible refine below_drewN ?_ _ | with_reducible refine Below.setCell ?_ (by first | (simp; done) | (simp; omega) | omega) _)); done) | fail)
    (first
      | (go_at_call 75; (with_reducible refine (rsigned_any _ a.num.neg a.den.A a.den.n a.den.c (by omega)).mono ?_); rintro e u1 ⟨rfl, hb1⟩; have B1 : Below V0.heap.size V0 u1 := bnext G0 hb1; have b1s := B1.size; rw [hd0.out, Bool.and_true])
      | (go_at_call 75; (with_reducible refine (rsigned_any _ false a.num.A a.num.n a.num.c (by omega)).mono ?_); rintro e u2 ⟨rfl, hb2⟩; have BN : Below V0.heap.size V0 u2 := bnext B1 hb2; have b2s := BN.size; rw [Bool.false_and]; have hl1 := HC.below BN (by omega); have hl2 := HA.below BN (by omega); have PRq := PR.below BN PR.lt; obtain ⟨r0, r1, r2, r3, y0, y1, y2, y3, _⟩ := PRq)
      | fail)
  all_goals (go_wp2_with fail)
  all_goals
    have pr2 : Bk4 u2 (w.heap.size + 1) (.bool false) (.slice none 0 0) (.bool false) (.slice none 0 0) := ⟨r0, r1, r2, r3, y0, y1, y2, y3, by have := BN.size; have := PR.lt; omega⟩
    refine bodyPost_ret (v := ratv a.num.neg a.den.A a.den.n a.den.c false a.num.A a.num.n a.num.c) (by simp [results, Tryz.results70, go_sem, r0, r1, r2, r3]) rfl ⟨a.num.neg, a.den.A, a.den.n, a.den.c, a.den.xs, false, a.num.A, a.num.n, a.num.c, a.num.xs, rfl, ?_, ?_, I1.out, I2.out, ?_⟩
    · first | with_reducible exact LRd.more (hl1.set4 pr2 (by simp; omega) (by simp; omega) (by simp; omega) (by simp; omega) _ _ _ _) (by first | (simp [World.setCell]; done) | (simp [World.setCell]; omega)) | with_reducible exact LRd.more (LRd.drew (hl1.set4 pr2 (by simp; omega) (by simp; omega) (by simp; omega) (by simp; omega) _ _ _ _)) (by first | (simp [World.setCell]; done) | (simp [World.setCell]; omega)) | with_reducible exact LRd.more (hl1.set4 pr2 (by simp) (by simp) (by simp) (by simp) _ _ _ _) (by first | (simp [World.setCell]; done) | (simp [World.setCell]; omega)) | with_reducible exact LRd.more (LRd.drew (hl1.set4 pr2 (by simp) (by simp) (by simp) (by simp) _ _ _ _)) (by first | (simp [World.setCell]; done) | (simp [World.setCell]; omega))
    · first | with_reducible exact LRd.more (hl2.set4 pr2 (by simp; omega) (by simp; omega) (by simp; omega) (by simp; omega) _ _ _ _) (by first | (simp [World.setCell]; done) | (simp [World.setCell]; omega)) | with_reducible exact LRd.more (LRd.drew (hl2.set4 pr2 (by simp; omega) (by simp; omega) (by simp; omega) (by simp; omega) _ _ _ _)) (by first | (simp [World.setCell]; done) | (simp [World.setCell]; omega)) | with_reducible exact LRd.more (hl2.set4 pr2 (by simp) (by simp) (by simp) (by simp) _ _ _ _) (by first | (simp [World.setCell]; done) | (simp [World.setCell]; omega)) | with_reducible exact LRd.more (LRd.drew (hl2.set4 pr2 (by simp) (by simp) (by simp) (by simp) _ _ _ _)) (by first | (simp [World.setCell]; done) | (simp [World.setCell]; omega))
    · (repeat (first | with_reducible exact E.trans (BN.mono E.size) | with_reducible refine Below.drew ?_ | with_reducible refine below_drewN ?_ _ | with_reducible refine Below.setCell ?_ (by first | (simp; done) | (simp; omega) | omega) _))
end Go.Proofs.YtflmcgoijofpdaaGreat
