/- The reference's Floor of ratios. -/
import Derived.Test.YtfgkhdpdjclmkaaGreatBw
import Derived.Test.YtfgkhdpdjclmkaaGreatBy
namespace Go.Proofs.YtfgkhdpdjclmkaaGreat
open Go.RowKit
set_option maxHeartbeats 400000
set_option maxRecDepth 100000
set_option linter.unusedSimpArgs false
set_option linter.unusedVariables false

set_option maxHeartbeats 4000000 in
theorem qfloor_v (w : World) (B : Nat) (p : QV) (ap p2 : Nat) (H1 : p.at w B) (hB : B ≤ w.heap.size) (Rp1 : Hid (Rep 65536 p.xs ap)) (Rp2 : Hid (Rep 65536 p.ys p2)) (h2 : 0 < p2) (tp1 : ap < TT) (tp2 : p2 < TT) :
    Calls Tryz.prog 37 #[p.v] w (fun e w' => ∃ q r, FloorOf (sval p.m ap) (sval false p2) q r ∧ GivesR w q e w') := by
  obtain ⟨HP1, HP2⟩ := H1
  replace HP1 : DRd w B p.A p.n p.c p.xs := HP1
  replace HP2 : DRd w B p.D p.k p.d p.ys := HP2
  have n1 : p.n ≤ 100000 := Nat.le_trans (tt_len Rp1.out tp1 HP1.len.out) (by decide)
  have n2 : p.k ≤ 100000 := Nat.le_trans (tt_len Rp2.out tp2 HP2.len.out) (by decide)
  have E : Below w.heap.size w w := Below.refl _ _
  go_enter Tryz.func37, Tryz.ntmps37
  go_upto_region 1 with fail
  obtain ⟨V0, hV0⟩ : ∃ V0 : World, V0 = ((w.alloc (.cells #[.bool p.m, .slice p.A p.n p.c, .slice p.D p.k p.d] 42)).alloc (.cells #[.bool false, .slice none 0 0] 40)) := ⟨_, rfl⟩
  have bV0 : Below w.heap.size w V0 := by rw [hV0]; (repeat (first | with_reducible exact Below.refl _ _ | with_reducible refine Below.alloc ?_ (by first | (simp <;> omega) | omega) _))
  have zV0 : w.heap.size + 2 ≤ V0.heap.size := by rw [hV0]; simp
  have PA : Bk3 V0 (w.heap.size) (.bool p.m) (.slice p.A p.n p.c) (.slice p.D p.k p.d) := by rw [hV0]; exact ((Bk3.newAt _ _ (by first | omega | (simp; done) | (simp; omega)) _ _ _ _).alloc _)
  have PR : Bk2 V0 (w.heap.size + 1) (.bool false) (.slice none 0 0) := by rw [hV0]; exact (Bk2.newAt _ _ (by first | omega | (simp; done) | (simp; omega)) _ _ _)
  rw [← hV0]
  clear hV0
  replace E := E.trans (bV0.mono E.size)
  replace HP1 := HP1.below bV0 (by omega)
  replace HP2 := HP2.below bV0 (by omega)
  clear bV0
  have t_PA0 := PA.c0
  have t_PA1 := PA.c1
  have t_PA2 := PA.c2
  go_wp2_with fail
  clear t_PA0 t_PA1 t_PA2
  (with_reducible refine (floorD_any _ B p.m false p.A p.D p.n p.k p.c p.d ap p2 p.xs p.ys HP1 HP2 (by omega) Rp1.out Rp2.out h2 n1 n2).mono ?_)
  rintro e w1 ⟨m, A, k, c, zs, v, n, D, l, d, ys, u, q, r, rfl, hd, hr, hs, he, hu, ht, hfl, hb1⟩
  have sw1 := hb1.size
  replace PA := PA.below hb1 PA.lt
  replace E := E.trans (hb1.mono E.size)
  replace HP1 := HP1.below hb1 (by omega)
  replace HP2 := HP2.below hb1 (by omega)
  replace PR := PR.below hb1 PR.lt
  clear hb1
  have FL := Lib.hid hfl
  have HR := Lib.hid hr
  have HS := Lib.hid hs
  clear hfl hr hs he hu ht
  have PRa := (PR.alloc (.cells #[.bool m, .slice A k c] 40)).alloc (.cells #[.bool n, .slice D l d] 40)
  have f0 := PRa.c0
  have f1 := PRa.c1
  have z0 := PRa.z0
  have z1 := PRa.z1
  have zz := PRa.lt
  have zw := PR.lt
  go_wp2_with fail
  refine bodyPost_ret (v := intv m A k c) (by simp [results, Tryz.results37, go_sem, f0, f1]) rfl ⟨q, r, FL.out, m, A, k, c, zs, v, rfl, ?_, HR.out, HS.out, ?_⟩
  · exact DRd.more (DRd.setBD (DRd.alloc (DRd.alloc hd (Nat.le_refl _) _) (by simp) _) PRa (by simp) (by simp) _ _) (by first | (simp [World.setCell]; done) | (simp [World.setCell]; omega))
  (repeat (first | with_reducible exact E | with_reducible refine Below.drew ?_ | with_reducible refine below_drewN ?_ _ | with_reducible refine Below.setCell ?_ (by first | (simp <;> omega) | omega) _ | with_reducible refine Below.alloc ?_ (by first | (simp <;> omega) | omega) _))
set_option maxHeartbeats 4000000 in
theorem qwhole_v (w : World) (B : Nat) (m : Bool) (A : Option Addr) (n c v : Nat) (xs : List Nat) (HP1 : DRd w B A n c xs) (hB : B ≤ w.heap.size) (Rp : Hid (Rep 65536 xs v)) :
    Calls Tryz.prog 38 #[intv m A n c] w (GivesQ w (sval m v) 1) := by
  have E : Below w.heap.size w w := Below.refl _ _
  go_enter Tryz.func38, Tryz.ntmps38
  go_upto_region 1 with fail
  obtain ⟨V0, hV0⟩ : ∃ V0 : World, V0 = ((w.alloc (.cells #[.bool m, .slice A n c] 40)).alloc (.cells #[.bool false, .slice none 0 0, .slice none 0 0] 42)) := ⟨_, rfl⟩
  have bV0 : Below w.heap.size w V0 := by rw [hV0]; (repeat (first | with_reducible exact Below.refl _ _ | with_reducible refine Below.alloc ?_ (by first | (simp <;> omega) | omega) _))
  have zV0 : w.heap.size + 2 ≤ V0.heap.size := by rw [hV0]; simp
  have PA : Bk2 V0 (w.heap.size) (.bool m) (.slice A n c) := by rw [hV0]; exact ((Bk2.newAt _ _ (by first | omega | (simp; done) | (simp; omega)) _ _ _).alloc _)
  have PR : Bk3 V0 (w.heap.size + 1) (.bool false) (.slice none 0 0) (.slice none 0 0) := by rw [hV0]; exact (Bk3.newAt _ _ (by first | omega | (simp; done) | (simp; omega)) _ _ _ _)
  rw [← hV0]
  clear hV0
  replace E := E.trans (bV0.mono E.size)
  replace HP1 := HP1.below bV0 (by omega)
  clear bV0
  have lt_PA := PA.lt
  have HS := Lib.hid (fun (u : World) (hu : Below (w.heap.size + 1) V0 u) => (⟨(hu.cell (p := ⟨w.heap.size, 0, none⟩) (by show w.heap.size < _; omega)).trans PA.c0, (hu.cell (p := ⟨w.heap.size, 1, none⟩) (by show w.heap.size < _; omega)).trans PA.c1⟩ : u.cell? ⟨w.heap.size, 0, none⟩ = some (.bool m) ∧ u.cell? ⟨w.heap.size, 1, none⟩ = some (.slice A n c)))
  have G0 : Below V0.heap.size V0 V0.drew := Below.drew (Below.refl _ _)
  have g0s := G0.size
  have G0m : Below (w.heap.size + 1) V0 V0.drew := G0.mono (by omega)
  go_region_held3 (fun u => u.cell? ⟨w.heap.size, 0, none⟩ = some (.bool m) ∧ u.cell? ⟨w.heap.size, 1, none⟩ = some (.slice A n c)) (first | (refine HS.out _ ?_; (repeat (first | with_reducible exact G0m | with_reducible exact BN.mono (by omega) | with_reducible exact Below.refl _ _ | with_reducible refine Below.drew ?_ | with_reducible refine below_drewN ?_ _ | with_reducible refine Below.setCell ?_ (by first | (simp <;> omega) | omega) _)); done) | fail)
    (first
      | (go_at_call 40; (with_reducible refine (small_1 _).mono ?_); rintro e u1 ⟨A1, k1, c1, z1, rfl, hd1, hr1, hb1⟩; have BN : Below V0.heap.size V0 u1 := bnext G0 hb1; have b1s := BN.size; have T1 := Lib.hid hr1; clear hr1; have hp := HP1.below BN (by omega); have PRq := PR.below BN PR.lt; obtain ⟨r0, r1, r2, y0, y1', y2', ltr⟩ := PRq)
      | fail)
  all_goals (go_wp2_with fail)
  all_goals
    refine bodyPost_ret (v := refv m A n c A1 k1 c1) (by simp [results, Tryz.results38, go_sem, r0, r1, r2]) rfl ⟨⟨m, A, n, c, xs, A1, k1, c1, z1⟩, rfl, ⟨?_, ?_⟩, ⟨v, Rp.out, rfl, T1.out⟩, ?_⟩
    · first | exact DRd.set3k (hp.more (by omega)) (Nat.le_refl _) r0 r1 r2 | exact DRd.drew (DRd.set3k (hp.more (by omega)) (Nat.le_refl _) r0 r1 r2) | exact DRd.set3k (DRd.drew (hp.more (by omega))) (Nat.le_refl _) r0 r1 r2
    · first | exact DRd.set3k hd1 (Nat.le_refl _) r0 r1 r2 | exact DRd.drew (DRd.set3k hd1 (Nat.le_refl _) r0 r1 r2) | exact DRd.set3k (DRd.drew hd1) (Nat.le_refl _) r0 r1 r2
    · (repeat (first | with_reducible exact E.trans (BN.mono E.size) | with_reducible refine Below.drew ?_ | with_reducible refine below_drewN ?_ _ | with_reducible refine Below.setCell ?_ (by first | (simp <;> omega) | omega) _))
end Go.Proofs.YtfgkhdpdjclmkaaGreat
