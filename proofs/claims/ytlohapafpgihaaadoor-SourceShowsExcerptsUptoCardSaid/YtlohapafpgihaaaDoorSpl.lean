/- Package source: the examples of the statements. -/
import Derived.Test.YtlohapafpgihaaaDoorSe
import Derived.Deep.DeepCutAuto
import Derived.Deep.RegionWith
namespace Go.Proofs.YtlohapafpgihaaaDoor
open Go.RowKit
set_option maxHeartbeats 400000
set_option maxRecDepth 100000
set_option linter.unusedSimpArgs false
set_option linter.unusedVariables false

def tx : ByteArray := ⟨#[97, 10, 98, 99]⟩
theorem tx_ok : chkFrom tx tx.size 0 = none := by decide +kernel
theorem tx_nl : nl tx 0 4 = 1 := by decide +kernel
theorem tx_b1 : by_ tx 1 = 10 := by decide +kernel
theorem tx_b2 : by_ tx 2 ≠ 10 := by decide +kernel
theorem tx_b3 : by_ tx 3 ≠ 10 := by decide +kernel
theorem tx_nb : nb tx 2 2 = 2 ∧ nb tx 2 1 = 1 ∧ nl tx 0 2 = 1 ∧ nl tx 0 3 = 1 := by decide +kernel
theorem tx_sz : tx.size = 4 := rfl
theorem tx_lb : LB tx 1 2 := ⟨by rw [tx_sz]; omega, tx_nb.2.2.1, .inr ⟨by omega, tx_b1⟩⟩
theorem tx_le {b t : Nat} (h : LB tx 1 b) (k : LE tx b t) : b = 2 ∧ t = 4 := by
  obtain rfl := lb_uniq h tx_lb
  refine ⟨rfl, ?_⟩
  have h1 := k.1
  have h2 := k.2.1
  rw [tx_sz] at h2
  rcases Nat.lt_or_ge t 4 with h3 | h3
  · exfalso
    have h4 := k.2.2.2 (by rw [tx_sz]; omega)
    rcases (show t = 2 ∨ t = 3 by omega) with rfl | rfl
    · exact tx_b2 h4
    · exact tx_b3 h4
  · omega
theorem tx_bd : Bd tx 3 := ⟨by rw [tx_sz]; omega, fun _ => by decide +kernel⟩
theorem tx_pos : PosAt tx 3 2 := by
  refine ⟨by omega, by rw [tx_nb.2.2.2]; exact tx_lb, fun j h1 h2 => ?_⟩
  obtain rfl : j = 2 := by omega
  exact tx_b2
theorem locate_c (w : World) :
    Calls Tryd.prog 27 #[.string ⟨#[97, 10, 98, 99]⟩, .int .i64 2, .int .i64 2] w fun e w' => e = .returned (.tuple #[.string ⟨#[98, 99]⟩, .int .i64 2, flt 0 0]) ∧ Below w.heap.size w w' := by
  have h := locate_ok tx 1 1 w (by decide) (Lib.hid tx_ok) (Lib.hid (by rw [tx_sz, tx_nl]; omega)) (Lib.hid (fun b t k1 k2 => by obtain ⟨rfl, rfl⟩ := tx_le k1 k2; show 1 ≤ nb tx 2 2; have := tx_nb.1; omega))
  refine (show Calls Tryd.prog 27 #[.string ⟨#[97, 10, 98, 99]⟩, .int .i64 2, .int .i64 2] w (FindPost tx 1 w) from h).mono fun e w' ⟨b, t, k1, k2, he, hb⟩ => ?_
  obtain ⟨rfl, rfl⟩ := tx_le k1 k2
  exact ⟨he, hb⟩
theorem bc_rc : Lib.runeCount ⟨#[98, 99]⟩ = 2 := by decide +kernel
theorem bc_s0 : szFrom ⟨#[98, 99]⟩ (ByteArray.size ⟨#[98, 99]⟩) 0 0 = 0 := by decide +kernel
theorem bc_s20 : szFrom ⟨#[98, 99]⟩ (ByteArray.size ⟨#[98, 99]⟩) 0 20 = 2 := by decide +kernel
theorem fst_c (w : World) : Calls Tryd.prog 30 #[.int .i64 2, .int .i64 2, .int .i64 20] w fun e w' => e = .returned (.int .i64 0) ∧ w' = w := by
  go_enter Tryd.func30, Tryd.ntmps30
  go_wp2
  go_ret
  exact ⟨rfl, rfl⟩
theorem rep_c (w : World) : Calls Tryd.prog 31 #[.string ⟨#[32]⟩, .int .i64 1] w fun e w' => e = .returned (.string ⟨#[32]⟩) ∧ w' = w := by
  go_enter Tryd.func31, Tryd.ntmps31
  go_wp2
  go_ret
  exact ⟨rfl, rfl⟩
theorem siz_c0 (w : World) : Calls Tryd.prog 28 #[.string ⟨#[98, 99]⟩, .int .i64 0] w fun e w' => e = .returned (.int .i64 0) ∧ Below w.heap.size w w' :=
  (show Calls Tryd.prog 28 #[.string ⟨#[98, 99]⟩, .int .i64 0] w fun e w' => e = .returned (.int .i64 (szFrom ⟨#[98, 99]⟩ (ByteArray.size ⟨#[98, 99]⟩) 0 0 : Nat)) ∧ Below w.heap.size w w' from size_any ⟨#[98, 99]⟩ 0 w (by decide) (by decide)).mono fun e w' ⟨he, hb⟩ => ⟨by rw [he, bc_s0]; rfl, hb⟩
theorem siz_c20 (w : World) : Calls Tryd.prog 28 #[.string ⟨#[98, 99]⟩, .int .i64 20] w fun e w' => e = .returned (.int .i64 2) ∧ Below w.heap.size w w' :=
  (show Calls Tryd.prog 28 #[.string ⟨#[98, 99]⟩, .int .i64 20] w fun e w' => e = .returned (.int .i64 (szFrom ⟨#[98, 99]⟩ (ByteArray.size ⟨#[98, 99]⟩) 0 20 : Nat)) ∧ Below w.heap.size w w' from size_any ⟨#[98, 99]⟩ 20 w (by decide) (by decide)).mono fun e w' ⟨he, hb⟩ => ⟨by rw [he, bc_s20]; rfl, hb⟩
set_option maxHeartbeats 4000000 in
theorem exc_c (w : World) :
    Calls Tryd.prog 17 #[.string ⟨#[97, 10, 98, 99]⟩, .int .i64 2, .int .i64 2, .int .i64 20] w fun e w' => e = .returned (.tuple #[.string ⟨#[98, 99, 10, 32, 94]⟩, flt 0 0]) ∧ Below w.heap.size w w' := by
  go_enter Tryd.func17, Tryd.ntmps17
  go_wp2_with fail
  refine (locate_c _).mono ?_
  rintro e w1 ⟨rfl, hb1⟩
  have P6 : Bk2 w1 w.heap.size (.int .i64 0) (.int .i64 0) := (Bk2.newAt w _ rfl _ _ _).below hb1 (by simp)
  have s1 : w.heap.size + 1 ≤ w1.heap.size := by have := hb1.size; simpa using this
  have E1 : Below w.heap.size w w1 := ((Below.refl _ _).alloc (Nat.le_refl _) _).trans (hb1.mono (by simp))
  clear hb1
  have lt6 := P6.lt
  have z0 : w1.cell? ⟨w.heap.size, 0, none⟩ = some (.int .i64 0) := P6.c0
  have z1 : w1.cell? ⟨w.heap.size, 1, none⟩ = some (.int .i64 0) := P6.c1
  have z2 : w1.frozen? ⟨w.heap.size, 0, none⟩ = false := P6.z0
  have z3 : w1.frozen? ⟨w.heap.size, 1, none⟩ = false := P6.z1
  go_wp2_with fail
  refine (rc_any ⟨#[98, 99]⟩ _ (by decide)).mono ?_
  rw [bc_rc]
  rintro e w2 ⟨rfl, hb2⟩
  have B2 : Below w1.heap.size w1 w2 := (by refine Below.trans ?_ (hb2.mono (by first | (simp; done) | (simp; omega) | omega)); (repeat (first | with_reducible exact Below.refl _ _ | with_reducible exact Below.refl _ _ | with_reducible refine Below.alloc ?_ (by first | (simp; done) | (simp; omega) | omega) _))); have s2 := B2.size
  go_wp2_with fail
  refine (fst_c _).mono ?_
  rintro e w' ⟨rfl, rfl⟩
  go_wp2_with fail
  refine (siz_c0 _).mono ?_
  rintro e w3 ⟨rfl, hb3⟩
  have B3 : Below w1.heap.size w1 w3 := (by refine Below.trans ?_ (hb3.mono (by first | (simp; done) | (simp; omega) | omega)); (repeat (first | with_reducible exact Below.refl _ _ | with_reducible exact B2 | with_reducible refine Below.alloc ?_ (by first | (simp; done) | (simp; omega) | omega) _))); have s3 := B3.size
  go_wp2_with fail
  refine (siz_c20 _).mono ?_
  rintro e w4 ⟨rfl, hb4⟩
  have B4 : Below w1.heap.size w1 w4 := (by refine Below.trans ?_ (hb4.mono (by first | (simp; done) | (simp; omega) | omega)); (repeat (first | with_reducible exact Below.refl _ _ | with_reducible exact B3 | with_reducible refine Below.alloc ?_ (by first | (simp; done) | (simp; omega) | omega) _))); have s4 := B4.size
  clear z0 z1 z2 z3
  have P6q := P6.below B4 P6.lt
  have BN := E1.trans (B4.mono (by omega))
  obtain ⟨y0, y1, y2, y3, _⟩ := id P6q
  go_wp2_with fail
  refine (rep_c _).mono ?_
  rintro e w' ⟨rfl, rfl⟩
  go_wp2_with fail
  refine bodyPost_ret (v := .tuple #[.string ⟨#[98, 99, 10, 32, 94]⟩, flt 0 0]) (by simp [results, Tryd.results17, go_sem, y0, y1]; first | rfl | decide +kernel) rfl ⟨rfl, (by (repeat (first | with_reducible exact E1 | with_reducible exact BN | with_reducible refine Below.drew ?_ | with_reducible refine below_drewN ?_ _ | with_reducible refine Below.setCell ?_ (by first | (simp; done) | (simp; omega) | omega) _ | with_reducible refine Below.alloc ?_ (by first | (simp; done) | (simp; omega) | omega) _)))⟩
theorem lines_c (w : World) : Calls Tryd.prog 8 #[.string ⟨#[97, 10, 98, 99]⟩] w fun e w' => e = .returned (.tuple #[.int .i64 2, flt 0 0]) ∧ Below w.heap.size w w' := by
  have h := lines_ok tx w (by decide) (Lib.hid tx_ok)
  rw [tx_sz, tx_nl] at h
  exact h
theorem pos_c (w : World) : Calls Tryd.prog 12 #[.string ⟨#[97, 10, 98, 99]⟩, .int .i64 3] w fun e w' => e = .returned (.tuple #[.int .i64 2, .int .i64 2, flt 0 0]) ∧ Below w.heap.size w w' := by
  have h := pos_ok tx 3 w (by decide) (Lib.hid tx_ok) (Lib.hid tx_bd)
  refine (show Calls Tryd.prog 12 #[.string ⟨#[97, 10, 98, 99]⟩, .int .i64 3] w (PosPost tx 3 w) from h).mono fun e w' ⟨b, hP, he, hb⟩ => ?_
  obtain rfl : b = 2 := lb_uniq hP.2.1 tx_pos.2.1
  rw [tx_nb.2.2.2, show nb tx 2 (3 - 2) = 1 from tx_nb.2.1] at he
  exact ⟨he, hb⟩
theorem ofs_c (w : World) : Calls Tryd.prog 15 #[.string ⟨#[97, 10, 98, 99]⟩, .int .i64 2, .int .i64 2] w fun e w' => e = .returned (.tuple #[.int .i64 3, flt 0 0]) ∧ Below w.heap.size w w' := by
  have h := offset_ok tx 3 2 w (by decide) (Lib.hid tx_ok) (Lib.hid tx_bd) (Lib.hid tx_pos)
  rw [tx_nb.2.2.2, show nb tx 2 (3 - 2) = 1 from tx_nb.2.1] at h
  exact h
set_option maxHeartbeats 4000000 in
theorem places_any (w : World) : Calls Tryd.prog 5 #[] w fun e w' => e = .returned (.bool true) ∧ Below w.heap.size w w' := by
  have E : Below w.heap.size w w := Below.refl _ _
  go_enter Tryd.func5, Tryd.ntmps5
  go_wp2_with fail
  (with_reducible refine (lines_c _).mono ?_)
  rintro e w1 ⟨rfl, hb1⟩
  have sw1 := hb1.size
  replace E : Below w.heap.size w w1 := E.trans (hb1.mono E.size)
  clear hb1
  go_wp2_with fail
  obtain ⟨V0, hV0⟩ : ∃ V0 : World, V0 = (w1.alloc (.cells #[.int .i64 0, .int .i64 0] 24)) := ⟨_, rfl⟩
  have bV0 : Below w1.heap.size w1 V0 := by rw [hV0]; (repeat (first | with_reducible exact Below.refl _ _ | with_reducible refine Below.drew ?_ | with_reducible refine below_drewN ?_ _ | with_reducible refine Below.setCell ?_ (by first | (simp; done) | (simp; omega) | omega) _ | with_reducible refine Below.alloc ?_ (by first | (simp; done) | (simp; omega) | omega) _))
  have zV0 : w1.heap.size + 1 ≤ V0.heap.size := by rw [hV0]; simp
  have F2 : Bk2 V0 (w1.heap.size) (.int .i64 0) (.int .i64 0) := by rw [hV0]; exact (Bk2.newAt _ _ (by simp) _ _ _)
  rw [← hV0]
  clear hV0
  replace E : Below w.heap.size w V0 := E.trans (bV0.mono E.size)
  clear bV0
  (with_reducible refine (pos_c _).mono ?_)
  rintro e w2 ⟨rfl, hb2⟩
  have sw2 := hb2.size
  replace E : Below w.heap.size w w2 := E.trans (hb2.mono E.size)
  replace F2 : Bk2 w2 (w1.heap.size) (.int .i64 0) (.int .i64 0) := F2.below hb2 F2.lt
  clear hb2
  go_wp2_with fail
  obtain ⟨V1, hV1⟩ : ∃ V1 : World, V1 = (w2.alloc (.cells #[.int .i64 0, .int .i64 0] 24)) := ⟨_, rfl⟩
  have bV1 : Below w2.heap.size w2 V1 := by rw [hV1]; (repeat (first | with_reducible exact Below.refl _ _ | with_reducible refine Below.drew ?_ | with_reducible refine below_drewN ?_ _ | with_reducible refine Below.setCell ?_ (by first | (simp; done) | (simp; omega) | omega) _ | with_reducible refine Below.alloc ?_ (by first | (simp; done) | (simp; omega) | omega) _))
  have zV1 : w2.heap.size + 1 ≤ V1.heap.size := by rw [hV1]; simp
  have F5 : Bk2 V1 (w2.heap.size) (.int .i64 0) (.int .i64 0) := by rw [hV1]; exact (Bk2.newAt _ _ (by simp) _ _ _)
  rw [← hV1]
  clear hV1
  replace E : Below w.heap.size w V1 := E.trans (bV1.mono E.size)
  replace F2 : Bk2 V1 (w1.heap.size) (.int .i64 0) (.int .i64 0) := F2.below bV1 F2.lt
  clear bV1
  (with_reducible refine (ofs_c _).mono ?_)
  rintro e w3 ⟨rfl, hb3⟩
  have sw3 := hb3.size
  replace E : Below w.heap.size w w3 := E.trans (hb3.mono E.size)
  replace F2 : Bk2 w3 (w1.heap.size) (.int .i64 0) (.int .i64 0) := F2.below hb3 F2.lt
  replace F5 : Bk2 w3 (w2.heap.size) (.int .i64 0) (.int .i64 0) := F5.below hb3 F5.lt
  clear hb3
  go_wp2_with fail
  obtain ⟨V2, hV2⟩ : ∃ V2 : World, V2 = (w3.alloc (.cells #[.int .i64 0, .int .i64 0] 24)) := ⟨_, rfl⟩
  have bV2 : Below w3.heap.size w3 V2 := by rw [hV2]; (repeat (first | with_reducible exact Below.refl _ _ | with_reducible refine Below.drew ?_ | with_reducible refine below_drewN ?_ _ | with_reducible refine Below.setCell ?_ (by first | (simp; done) | (simp; omega) | omega) _ | with_reducible refine Below.alloc ?_ (by first | (simp; done) | (simp; omega) | omega) _))
  have zV2 : w3.heap.size + 1 ≤ V2.heap.size := by rw [hV2]; simp
  have F7 : Bk2 V2 (w3.heap.size) (.int .i64 0) (.int .i64 0) := by rw [hV2]; exact (Bk2.newAt _ _ (by simp) _ _ _)
  rw [← hV2]
  clear hV2
  replace E : Below w.heap.size w V2 := E.trans (bV2.mono E.size)
  replace F2 : Bk2 V2 (w1.heap.size) (.int .i64 0) (.int .i64 0) := F2.below bV2 F2.lt
  replace F5 : Bk2 V2 (w2.heap.size) (.int .i64 0) (.int .i64 0) := F5.below bV2 F5.lt
  clear bV2
  (with_reducible refine (exc_c _).mono ?_)
  rintro e w4 ⟨rfl, hb4⟩
  have sw4 := hb4.size
  replace E : Below w.heap.size w w4 := E.trans (hb4.mono E.size)
  replace F2 : Bk2 w4 (w1.heap.size) (.int .i64 0) (.int .i64 0) := F2.below hb4 F2.lt
  replace F5 : Bk2 w4 (w2.heap.size) (.int .i64 0) (.int .i64 0) := F5.below hb4 F5.lt
  replace F7 : Bk2 w4 (w3.heap.size) (.int .i64 0) (.int .i64 0) := F7.below hb4 F7.lt
  clear hb4
  go_upto_region 5 with fail
  obtain ⟨V3, hV3⟩ : ∃ V3 : World, V3 = (w4.alloc (.cells #[.int .i64 0, .int .i64 0] 24)) := ⟨_, rfl⟩
  have bV3 : Below w4.heap.size w4 V3 := by rw [hV3]; (repeat (first | with_reducible exact Below.refl _ _ | with_reducible refine Below.drew ?_ | with_reducible refine below_drewN ?_ _ | with_reducible refine Below.setCell ?_ (by first | (simp; done) | (simp; omega) | omega) _ | with_reducible refine Below.alloc ?_ (by first | (simp; done) | (simp; omega) | omega) _))
  have zV3 : w4.heap.size + 1 ≤ V3.heap.size := by rw [hV3]; simp
  have F9 : Bk2 V3 (w4.heap.size) (.int .i64 0) (.int .i64 0) := by rw [hV3]; exact (Bk2.newAt _ _ (by simp) _ _ _)
  rw [← hV3]
  clear hV3
  replace E : Below w.heap.size w V3 := E.trans (bV3.mono E.size)
  replace F2 : Bk2 V3 (w1.heap.size) (.int .i64 0) (.int .i64 0) := F2.below bV3 F2.lt
  replace F5 : Bk2 V3 (w2.heap.size) (.int .i64 0) (.int .i64 0) := F5.below bV3 F5.lt
  replace F7 : Bk2 V3 (w3.heap.size) (.int .i64 0) (.int .i64 0) := F7.below bV3 F7.lt
  clear bV3
  have t_F20 : V3.cell? ⟨w1.heap.size, 0, none⟩ = some ((.int .i64 0)) := F2.c0
  have t_F21 : V3.cell? ⟨w1.heap.size, 1, none⟩ = some ((.int .i64 0)) := F2.c1
  have t_F50 : V3.cell? ⟨w2.heap.size, 0, none⟩ = some ((.int .i64 0)) := F5.c0
  have t_F51 : V3.cell? ⟨w2.heap.size, 1, none⟩ = some ((.int .i64 0)) := F5.c1
  have t_F70 : V3.cell? ⟨w3.heap.size, 0, none⟩ = some ((.int .i64 0)) := F7.c0
  have t_F71 : V3.cell? ⟨w3.heap.size, 1, none⟩ = some ((.int .i64 0)) := F7.c1
  have t_F90 : V3.cell? ⟨w4.heap.size, 0, none⟩ = some ((.int .i64 0)) := F9.c0
  have t_F91 : V3.cell? ⟨w4.heap.size, 1, none⟩ = some ((.int .i64 0)) := F9.c1
  go_wp2_with fail
  clear t_F20 t_F21 t_F50 t_F51 t_F70 t_F71 t_F90 t_F91
  go_ret
  exact ⟨rfl, E⟩
end Go.Proofs.YtlohapafpgihaaaDoor
