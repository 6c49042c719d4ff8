/- SourceTellsPlaces: the law. -/
import Derived.Test.YtlohapafpgihaaaDoorSo
import Derived.Test.YtlohapafpgihaaaDoorHnd
import Derived.Deep.DeepCutAuto
import Derived.Deep.RegionWith
import Derived.Deep.RegionHeld3
namespace Go.Proofs.YtlohapafpgihaaaDoor
open Go.RowKit
set_option maxHeartbeats 400000
set_option maxRecDepth 100000
set_option linter.unusedSimpArgs false
set_option linter.unusedVariables false

set_option maxHeartbeats 8000000 in
theorem tells_bad (w : World) (s : ByteArray) (a l q m kk cp ip o co io : Int) (hsz : s.size ≤ 1048576) (hT : Tabs w) {c i : Int} (hb : Hid (SFB s c i)) (hlin : Hid (∀ w, Calls Tryd.prog 9 #[.string s, .int .i64 l] w fun e w2 => e = .returned (.tuple #[.string ⟨#[]⟩, flt c i]) ∧ Below w.heap.size w w2)) (HP : Hid (PosAll s a m kk cp ip)) (HO : Hid (OffAll s l q o co io)) :
    Calls Tryd.prog 3 #[.string s, .int .i64 a, .int .i64 l, .int .i64 q] w fun e w' => e = .returned (.bool true) ∧ Below w.heap.size w w' := by
  have hz : s.size ≤ 9223372036854775807 := by omega
  obtain ⟨hp1, hp2, hp3⟩ := HP.out
  have HP1 := Lib.hid hp1
  have HP2 := Lib.hid hp2
  have HP3 := Lib.hid hp3
  obtain ⟨ho1, ho2⟩ := HO.out
  have HO1 := Lib.hid ho1
  have HO2 := Lib.hid ho2
  clear hp1 hp2 hp3 ho1 ho2 HP HO
  have hc1 : 1 ≤ c := hb.out.code.1
  have d1 : (c != 0) = true := by rw [bne_iff_ne]; omega
  have E : Below w.heap.size w w := Below.refl _ _
  go_enter Tryd.func3, Tryd.ntmps3
  go_wp2_with fail
  (with_reducible refine (places_any _).mono ?_)
  rintro e w0 ⟨rfl, hb0⟩
  have sw0 := hb0.size
  replace E : Below w.heap.size w w0 := E.trans (hb0.mono E.size)
  clear hb0
  go_wp2_with fail
  (with_reducible refine (sf_b s _ hb (hT.below E (Nat.le_refl _))).mono ?_)
  rintro e w1 ⟨rfl, hb1⟩
  have sw1 := hb1.size
  replace E : Below w.heap.size w w1 := E.trans (hb1.mono E.size)
  clear hb1
  go_wp2_with fail
  obtain ⟨V1, hV1⟩ : ∃ V1 : World, V1 = (w1.alloc (.cells #[.int .i64 c, .int .i64 i] 24)) := ⟨_, rfl⟩
  have bV1 : Below w1.heap.size w1 V1 := by rw [hV1]; (repeat (first | with_reducible exact Below.refl _ _ | with_reducible refine Below.drew ?_ | with_reducible refine below_drewN ?_ _ | with_reducible refine Below.setCell ?_ (by first | (simp; done) | (simp; omega) | omega) _ | with_reducible refine Below.alloc ?_ (by first | (simp; done) | (simp; omega) | omega) _))
  have zV1 : w1.heap.size + 1 ≤ V1.heap.size := by rw [hV1]; simp
  have F9 : Bk2 V1 (w1.heap.size) (.int .i64 c) (.int .i64 i) := by rw [hV1]; exact (Bk2.newAt _ _ (by simp) _ _ _)
  rw [← hV1]
  clear hV1
  replace E : Below w.heap.size w V1 := E.trans (bV1.mono E.size)
  clear bV1
  refine (lines_any s _ hsz).mono ?_
  rintro e w2 ⟨gl, cc, xs, rfl, hR, hxc, hcm, HLn, HLx, hgl, hb2⟩
  have sw2 := hb2.size
  replace E : Below w.heap.size w w2 := E.trans (hb2.mono E.size)
  replace F9 : Bk2 w2 (w1.heap.size) (.int .i64 c) (.int .i64 i) := F9.below hb2 F9.lt
  clear hb2
  go_wp2_with fail
  (with_reducible refine (lines_b s _ hz hb).mono ?_)
  rintro e w3 ⟨rfl, hb3⟩
  have sw3 := hb3.size
  replace E : Below w.heap.size w w3 := E.trans (hb3.mono E.size)
  replace F9 : Bk2 w3 (w1.heap.size) (.int .i64 c) (.int .i64 i) := F9.below hb3 F9.lt
  replace hR : RS w3 (gl) xs := hR.below hb3 hR.lt
  clear hb3
  go_wp2_with fail
  obtain ⟨V3, hV3⟩ : ∃ V3 : World, V3 = (w3.alloc (.cells #[.int .i64 c, .int .i64 i] 24)) := ⟨_, rfl⟩
  have bV3 : Below w3.heap.size w3 V3 := by rw [hV3]; (repeat (first | with_reducible exact Below.refl _ _ | with_reducible refine Below.drew ?_ | with_reducible refine below_drewN ?_ _ | with_reducible refine Below.setCell ?_ (by first | (simp; done) | (simp; omega) | omega) _ | with_reducible refine Below.alloc ?_ (by first | (simp; done) | (simp; omega) | omega) _))
  have zV3 : w3.heap.size + 1 ≤ V3.heap.size := by rw [hV3]; simp
  have F12 : Bk2 V3 (w3.heap.size) (.int .i64 c) (.int .i64 i) := by rw [hV3]; exact (Bk2.newAt _ _ (by simp) _ _ _)
  rw [← hV3]
  clear hV3
  replace E : Below w.heap.size w V3 := E.trans (bV3.mono E.size)
  replace F9 : Bk2 V3 (w1.heap.size) (.int .i64 c) (.int .i64 i) := F9.below bV3 F9.lt
  replace hR : RS V3 (gl) xs := hR.below bV3 hR.lt
  clear bV3
  (with_reducible refine (hlin.out _).mono ?_)
  rintro e w4 ⟨rfl, hb4⟩
  have sw4 := hb4.size
  replace E : Below w.heap.size w w4 := E.trans (hb4.mono E.size)
  replace F9 : Bk2 w4 (w1.heap.size) (.int .i64 c) (.int .i64 i) := F9.below hb4 F9.lt
  replace hR : RS w4 (gl) xs := hR.below hb4 hR.lt
  replace F12 : Bk2 w4 (w3.heap.size) (.int .i64 c) (.int .i64 i) := F12.below hb4 F12.lt
  clear hb4
  go_upto_region 7 with fail
  obtain ⟨V4, hV4⟩ : ∃ V4 : World, V4 = (w4.alloc (.cells #[.int .i64 c, .int .i64 i] 24)) := ⟨_, rfl⟩
  have bV4 : Below w4.heap.size w4 V4 := by rw [hV4]; (repeat (first | with_reducible exact Below.refl _ _ | with_reducible refine Below.drew ?_ | with_reducible refine below_drewN ?_ _ | with_reducible refine Below.setCell ?_ (by first | (simp; done) | (simp; omega) | omega) _ | with_reducible refine Below.alloc ?_ (by first | (simp; done) | (simp; omega) | omega) _))
  have zV4 : w4.heap.size + 1 ≤ V4.heap.size := by rw [hV4]; simp
  have F14 : Bk2 V4 (w4.heap.size) (.int .i64 c) (.int .i64 i) := by rw [hV4]; exact (Bk2.newAt _ _ (by simp) _ _ _)
  rw [← hV4]
  clear hV4
  replace E : Below w.heap.size w V4 := E.trans (bV4.mono E.size)
  replace F9 : Bk2 V4 (w1.heap.size) (.int .i64 c) (.int .i64 i) := F9.below bV4 F9.lt
  replace hR : RS V4 (gl) xs := hR.below bV4 hR.lt
  replace F12 : Bk2 V4 (w3.heap.size) (.int .i64 c) (.int .i64 i) := F12.below bV4 F12.lt
  clear bV4
  have G0 : Below V4.heap.size V4 V4.drew := Below.drew (Below.refl _ _)
  have HS := Lib.hid (fun (u : World) (hu : Below V4.heap.size V4 u) => (⟨hu, (F9.below hu F9.lt).c0, (F9.below hu F9.lt).c1, (F12.below hu F12.lt).c0, (F12.below hu F12.lt).c1, (F14.below hu F14.lt).c0, (F14.below hu F14.lt).c1⟩ : Below V4.heap.size V4 u ∧ u.cell? ⟨w1.heap.size, 0, none⟩ = some (.int .i64 c) ∧ u.cell? ⟨w1.heap.size, 1, none⟩ = some (.int .i64 i) ∧ u.cell? ⟨w3.heap.size, 0, none⟩ = some (.int .i64 c) ∧ u.cell? ⟨w3.heap.size, 1, none⟩ = some (.int .i64 i) ∧ u.cell? ⟨w4.heap.size, 0, none⟩ = some (.int .i64 c) ∧ u.cell? ⟨w4.heap.size, 1, none⟩ = some (.int .i64 i)))
  refine wp_region_held_drew (S := (fun u => Below V4.heap.size V4 u ∧ u.cell? ⟨w1.heap.size, 0, none⟩ = some (.int .i64 c) ∧ u.cell? ⟨w1.heap.size, 1, none⟩ = some (.int .i64 i) ∧ u.cell? ⟨w3.heap.size, 0, none⟩ = some (.int .i64 c) ∧ u.cell? ⟨w3.heap.size, 1, none⟩ = some (.int .i64 i) ∧ u.cell? ⟨w4.heap.size, 0, none⟩ = some (.int .i64 c) ∧ u.cell? ⟨w4.heap.size, 1, none⟩ = some (.int .i64 i))) (by kernel_rfl) (HS.out _ G0) (fun hHeld => ?_)
  refine takeW (i := 0) (v := ?_) rfl (by kernel_rfl) (by kernel_rfl) (by kernel_rfl) (fun _ _ _ h => h) (by rfl) (by assumption) ?_ ?_
  rotate_left 1
  · (intro w9 hSw; (try dsimp only at hSw); go_simp); (first | done | with_reducible rfl)
  try simp only [Act.put, List.setIfInBounds_toArray, List.set_cons_zero, List.set_cons_succ]
  refine takeW (i := 2) (v := ?_) rfl (by kernel_rfl) (by kernel_rfl) (by kernel_rfl) (fun _ _ _ h => h) (by rfl) (by assumption) ?_ ?_
  rotate_left 1
  · (intro w9 hSw; (try dsimp only at hSw); go_simp); (first | done | with_reducible rfl)
  try simp only [Act.put, List.setIfInBounds_toArray, List.set_cons_zero, List.set_cons_succ]
  refine readyW (i := 1) (by kernel_rfl) rfl (by rfl) (fun K hK => ?_)
  go_simp
  (go_at_call 10; (with_reducible refine (check_b s _ hz hb).mono ?_); rintro e u1 ⟨rfl, hq1⟩; have B1 : Below V4.heap.size V4 u1 := bnext G0 hq1)
  go_wp2_with fail
  refine hK.out _ _ (HS.out _ B1) (fun hHeld1 => ?_)
  clear hK K
  try simp only [Act.put, List.setIfInBounds_toArray, List.set_cons_zero, List.set_cons_succ]
  refine takeW (i := 3) (v := ?_) rfl (by kernel_rfl) (by kernel_rfl) (by kernel_rfl) (fun _ _ _ h => h) (by rfl) (by assumption) ?_ ?_
  rotate_left 1
  · (intro w9 hSw; (try dsimp only at hSw); go_simp); (first | done | with_reducible rfl)
  try simp only [Act.put, List.setIfInBounds_toArray, List.set_cons_zero, List.set_cons_succ]
  refine takeW (i := 4) (v := ?_) rfl (by kernel_rfl) (by kernel_rfl) (by kernel_rfl) (fun _ _ _ h => h) (by rfl) (by assumption) ?_ ?_
  rotate_left 1
  · (intro w9 hSw; (try dsimp only at hSw); go_simp); (first | done | with_reducible rfl)
  try simp only [Act.put, List.setIfInBounds_toArray, List.set_cons_zero, List.set_cons_succ]
  refine takeW (i := 5) (v := ?_) rfl (by kernel_rfl) (by kernel_rfl) (by kernel_rfl) (fun _ _ _ h => h) (by rfl) (by assumption) ?_ ?_
  rotate_left 1
  · (intro w9 hSw; (try dsimp only at hSw); go_simp); (first | done | with_reducible rfl)
  try simp only [Act.put, List.setIfInBounds_toArray, List.set_cons_zero, List.set_cons_succ]
  refine takeW (i := 6) (v := ?_) rfl (by kernel_rfl) (by kernel_rfl) (by kernel_rfl) (fun _ _ _ h => h) (by rfl) (by assumption) ?_ ?_
  rotate_left 1
  · (intro w9 hSw; (try dsimp only at hSw); go_simp); (first | done | with_reducible rfl)
  try simp only [Act.put, List.setIfInBounds_toArray, List.set_cons_zero, List.set_cons_succ]
  refine takeW (i := 7) (v := ?_) rfl (by kernel_rfl) (by kernel_rfl) (by kernel_rfl) (fun _ _ _ h => h) (by rfl) (by assumption) ?_ ?_
  rotate_left 1
  · (intro w9 hSw; (try dsimp only at hSw); go_simp); (first | done | with_reducible rfl)
  try simp only [Act.put, List.setIfInBounds_toArray, List.set_cons_zero, List.set_cons_succ]
  refine takeW (i := 8) (v := ?_) rfl (by kernel_rfl) (by kernel_rfl) (by kernel_rfl) (fun _ _ _ h => h) (by rfl) (by assumption) ?_ ?_
  rotate_left 1
  · (intro w9 hSw; (try dsimp only at hSw); go_simp); (first | done | with_reducible rfl)
  try simp only [Act.put, List.setIfInBounds_toArray, List.set_cons_zero, List.set_cons_succ]
  refine takeW (i := 9) (v := ?_) rfl (by kernel_rfl) (by kernel_rfl) (by kernel_rfl) (fun _ _ _ h => h) (by rfl) (by assumption) ?_ ?_
  rotate_left 1
  · (intro w9 hSw; (try dsimp only at hSw); go_simp); (first | done | with_reducible rfl)
  try simp only [Act.put, List.setIfInBounds_toArray, List.set_cons_zero, List.set_cons_succ]
  refine takeW (i := 10) (v := ?_) rfl (by kernel_rfl) (by kernel_rfl) (by kernel_rfl) (fun _ _ _ h => h) (by rfl) (by assumption) ?_ ?_
  rotate_left 1
  · (intro w9 hSw; (try dsimp only at hSw); go_simp); (first | done | with_reducible rfl)
  try simp only [Act.put, List.setIfInBounds_toArray, List.set_cons_zero, List.set_cons_succ]
  refine takeW (i := 11) (v := ?_) rfl (by kernel_rfl) (by kernel_rfl) (by kernel_rfl) (fun _ _ _ h => h) (by rfl) (by assumption) ?_ ?_
  rotate_left 1
  · (intro w9 hSw; (try dsimp only at hSw); go_simp); (first | done | with_reducible rfl)
  try simp only [Act.put, List.setIfInBounds_toArray, List.set_cons_zero, List.set_cons_succ]
  refine takeW (i := 12) (v := ?_) rfl (by kernel_rfl) (by kernel_rfl) (by kernel_rfl) (fun _ _ _ h => h) (by rfl) (by assumption) ?_ ?_
  rotate_left 1
  · (intro w9 hSw; (try dsimp only at hSw); go_simp); (first | done | with_reducible rfl)
  try simp only [Act.put, List.setIfInBounds_toArray, List.set_cons_zero, List.set_cons_succ]
  refine takeW (i := 13) (v := ?_) rfl (by kernel_rfl) (by kernel_rfl) (by kernel_rfl) (fun _ _ _ h => h) (by rfl) (by assumption) ?_ ?_
  rotate_left 1
  · (intro w9 hSw; (try dsimp only at hSw); go_simp); (first | done | with_reducible rfl)
  try simp only [Act.put, List.setIfInBounds_toArray, List.set_cons_zero, List.set_cons_succ]
  refine takeW (i := 14) (v := ?_) rfl (by kernel_rfl) (by kernel_rfl) (by kernel_rfl) (fun _ _ _ h => h) (by rfl) (by assumption) ?_ ?_
  rotate_left 1
  · (intro w9 hSw; (try dsimp only at hSw); go_simp); (first | done | with_reducible rfl)
  try simp only [Act.put, List.setIfInBounds_toArray, List.set_cons_zero, List.set_cons_succ]
  refine takeW (i := 15) (v := ?_) rfl (by kernel_rfl) (by kernel_rfl) (by kernel_rfl) (fun _ _ _ h => h) (by rfl) (by assumption) ?_ ?_
  rotate_left 1
  · (intro w9 hSw; (try dsimp only at hSw); go_simp); (first | done | with_reducible rfl)
  try simp only [Act.put, List.setIfInBounds_toArray, List.set_cons_zero, List.set_cons_succ]
  refine takeW (i := 16) (v := ?_) rfl (by kernel_rfl) (by kernel_rfl) (by kernel_rfl) (fun _ _ _ h => h) (by rfl) (by assumption) ?_ ?_
  rotate_left 1
  · (intro w9 hSw; (try dsimp only at hSw); go_simp); (first | done | with_reducible rfl)
  try simp only [Act.put, List.setIfInBounds_toArray, List.set_cons_zero, List.set_cons_succ]
  refine takeW (i := 17) (v := ?_) rfl (by kernel_rfl) (by kernel_rfl) (by kernel_rfl) (fun _ _ _ h => h) (by rfl) (by assumption) ?_ ?_
  rotate_left 1
  · (intro w9 hSw; (try dsimp only at hSw); go_simp); (first | done | with_reducible rfl)
  try simp only [Act.put, List.setIfInBounds_toArray, List.set_cons_zero, List.set_cons_succ]
  refine takeW (i := 18) (v := ?_) rfl (by kernel_rfl) (by kernel_rfl) (by kernel_rfl) (fun _ _ _ h => h) (by rfl) (by assumption) ?_ ?_
  rotate_left 1
  · (intro w9 hSw; (try dsimp only at hSw); go_simp); (first | done | with_reducible rfl)
  try simp only [Act.put, List.setIfInBounds_toArray, List.set_cons_zero, List.set_cons_succ]
  refine takeW (i := 19) (v := ?_) rfl (by kernel_rfl) (by kernel_rfl) (by kernel_rfl) (fun _ _ _ h => h) (by rfl) (by assumption) ?_ ?_
  rotate_left 1
  · (intro w9 hSw; (try dsimp only at hSw); go_simp); (first | done | with_reducible rfl)
  try simp only [Act.put, List.setIfInBounds_toArray, List.set_cons_zero, List.set_cons_succ]
  refine takeW (i := 20) (v := ?_) rfl (by kernel_rfl) (by kernel_rfl) (by kernel_rfl) (fun _ _ _ h => h) (by rfl) (by assumption) ?_ ?_
  rotate_left 1
  · (intro w9 hSw; (try dsimp only at hSw); go_simp); (first | done | with_reducible rfl)
  try simp only [Act.put, List.setIfInBounds_toArray, List.set_cons_zero, List.set_cons_succ]
  refine takeW (i := 21) (v := ?_) rfl (by kernel_rfl) (by kernel_rfl) (by kernel_rfl) (fun _ _ _ h => h) (by rfl) (by assumption) ?_ ?_
  rotate_left 1
  · (intro w9 hSw; (try dsimp only at hSw); go_simp); (first | done | with_reducible rfl)
  try simp only [Act.put, List.setIfInBounds_toArray, List.set_cons_zero, List.set_cons_succ]
  refine takeW (i := 22) (v := ?_) rfl (by kernel_rfl) (by kernel_rfl) (by kernel_rfl) (fun _ _ _ h => h) (by rfl) (by assumption) ?_ ?_
  rotate_left 1
  · (intro w9 hSw; (try dsimp only at hSw); go_simp); (first | done | with_reducible rfl)
  try simp only [Act.put, List.setIfInBounds_toArray, List.set_cons_zero, List.set_cons_succ]
  refine takeW (i := 23) (v := ?_) rfl (by kernel_rfl) (by kernel_rfl) (by kernel_rfl) (fun _ _ _ h => h) (by rfl) (by assumption) ?_ ?_
  rotate_left 1
  · (intro w9 hSw; (try dsimp only at hSw); go_simp); (first | done | with_reducible rfl)
  try simp only [Act.put, List.setIfInBounds_toArray, List.set_cons_zero, List.set_cons_succ]
  refine takeW (i := 24) (v := ?_) rfl (by kernel_rfl) (by kernel_rfl) (by kernel_rfl) (fun _ _ _ h => h) (by rfl) (by assumption) ?_ ?_
  rotate_left 1
  · (intro w9 hSw; (try dsimp only at hSw); go_simp); (first | done | with_reducible rfl)
  try simp only [Act.put, List.setIfInBounds_toArray, List.set_cons_zero, List.set_cons_succ]
  refine takeW (i := 25) (v := ?_) rfl (by kernel_rfl) (by kernel_rfl) (by kernel_rfl) (fun _ _ _ h => h) (by rfl) (by assumption) ?_ ?_
  rotate_left 1
  · (intro w9 hSw; (try dsimp only at hSw); go_simp); (first | done | with_reducible rfl)
  try simp only [Act.put, List.setIfInBounds_toArray, List.set_cons_zero, List.set_cons_succ]
  refine takeW (i := 26) (v := ?_) rfl (by kernel_rfl) (by kernel_rfl) (by kernel_rfl) (fun _ _ _ h => h) (by rfl) (by assumption) ?_ ?_
  rotate_left 1
  · (intro w9 hSw; (try dsimp only at hSw); go_simp); (first | done | with_reducible rfl)
  try simp only [Act.put, List.setIfInBounds_toArray, List.set_cons_zero, List.set_cons_succ]
  refine wpAnyH_done (by kernel_rfl) ?_ _
  go_upto_region 9 with fail
  clear HS G0 hHeld hHeld1 hq1
  have su1 := B1.size
  replace E : Below w.heap.size w u1 := E.trans (B1.mono E.size)
  replace F9 : Bk2 u1 (w1.heap.size) (.int .i64 c) (.int .i64 i) := F9.below B1 F9.lt
  replace hR : RS u1 (gl) xs := hR.below B1 hR.lt
  replace F12 : Bk2 u1 (w3.heap.size) (.int .i64 c) (.int .i64 i) := F12.below B1 F12.lt
  replace F14 : Bk2 u1 (w4.heap.size) (.int .i64 c) (.int .i64 i) := F14.below B1 F14.lt
  clear B1
  have d9 : (c == 0) = false := beq_eq_false_iff_ne.2 (by omega)
  have t_F90 : u1.cell? ⟨w1.heap.size, 0, none⟩ = some ((.int .i64 c)) := F9.c0
  have t_F91 : u1.cell? ⟨w1.heap.size, 1, none⟩ = some ((.int .i64 i)) := F9.c1
  go_wp2_with fail
  clear t_F90 t_F91
  clear d9
  clear F9 F12 F14 hR
  (with_reducible refine (HP1.out _).mono ?_)
  rintro e w5 ⟨rfl, hb5⟩
  have sw5 := hb5.size
  replace E : Below w.heap.size w w5 := E.trans (hb5.mono E.size)
  clear hb5
  go_wp2_with fail
  obtain ⟨V6, hV6⟩ : ∃ V6 : World, V6 = (w5.alloc (.cells #[.int .i64 cp, .int .i64 ip] 24)) := ⟨_, rfl⟩
  have bV6 : Below w5.heap.size w5 V6 := by rw [hV6]; (repeat (first | with_reducible exact Below.refl _ _ | with_reducible refine Below.drew ?_ | with_reducible refine below_drewN ?_ _ | with_reducible refine Below.setCell ?_ (by first | (simp; done) | (simp; omega) | omega) _ | with_reducible refine Below.alloc ?_ (by first | (simp; done) | (simp; omega) | omega) _))
  have zV6 : w5.heap.size + 1 ≤ V6.heap.size := by rw [hV6]; simp
  have F18 : Bk2 V6 (w5.heap.size) (.int .i64 cp) (.int .i64 ip) := by rw [hV6]; exact (Bk2.newAt _ _ (by simp) _ _ _)
  rw [← hV6]
  clear hV6
  replace E : Below w.heap.size w V6 := E.trans (bV6.mono E.size)
  clear bV6
  (with_reducible refine (HP2.out _ (hT.below E (Nat.le_refl _))).mono ?_)
  rintro e w6 ⟨rfl, hb6⟩
  have sw6 := hb6.size
  replace E : Below w.heap.size w w6 := E.trans (hb6.mono E.size)
  replace F18 : Bk2 w6 (w5.heap.size) (.int .i64 cp) (.int .i64 ip) := F18.below hb6 F18.lt
  clear hb6
  go_upto_region 16 with fail
  obtain ⟨V7, hV7⟩ : ∃ V7 : World, V7 = (w6.alloc (.cells #[.int .i64 cp, .int .i64 ip] 24)) := ⟨_, rfl⟩
  have bV7 : Below w6.heap.size w6 V7 := by rw [hV7]; (repeat (first | with_reducible exact Below.refl _ _ | with_reducible refine Below.drew ?_ | with_reducible refine below_drewN ?_ _ | with_reducible refine Below.setCell ?_ (by first | (simp; done) | (simp; omega) | omega) _ | with_reducible refine Below.alloc ?_ (by first | (simp; done) | (simp; omega) | omega) _))
  have zV7 : w6.heap.size + 1 ≤ V7.heap.size := by rw [hV7]; simp
  have F21 : Bk2 V7 (w6.heap.size) (.int .i64 cp) (.int .i64 ip) := by rw [hV7]; exact (Bk2.newAt _ _ (by simp) _ _ _)
  rw [← hV7]
  clear hV7
  replace E : Below w.heap.size w V7 := E.trans (bV7.mono E.size)
  replace F18 : Bk2 V7 (w5.heap.size) (.int .i64 cp) (.int .i64 ip) := F18.below bV7 F18.lt
  clear bV7
  rcases HP3.out with ⟨hc0, hpl⟩ | ⟨hc1, hm, hk⟩
  · subst hc0
    have HPL := Lib.hid hpl
    clear hpl
    have t_F210 : V7.cell? ⟨w6.heap.size, 0, none⟩ = some ((.int .i64 0)) := F21.c0
    have t_F211 : V7.cell? ⟨w6.heap.size, 1, none⟩ = some ((.int .i64 ip)) := F21.c1
    go_wp2_with fail
    clear t_F210 t_F211
    (with_reducible refine (HPL.out _ (hT.below E (Nat.le_refl _))).mono ?_)
    rintro e w7 ⟨rfl, hb7⟩
    have sw7 := hb7.size
    replace E : Below w.heap.size w w7 := E.trans (hb7.mono E.size)
    replace F18 : Bk2 w7 (w5.heap.size) (.int .i64 0) (.int .i64 ip) := F18.below hb7 F18.lt
    replace F21 : Bk2 w7 (w6.heap.size) (.int .i64 0) (.int .i64 ip) := F21.below hb7 F21.lt
    clear hb7
    go_wp2_with fail
    (with_reducible refine (HO1.out _).mono ?_)
    rintro e w8 ⟨rfl, hb8⟩
    have sw8 := hb8.size
    replace E : Below w.heap.size w w8 := E.trans (hb8.mono E.size)
    replace F18 : Bk2 w8 (w5.heap.size) (.int .i64 0) (.int .i64 ip) := F18.below hb8 F18.lt
    replace F21 : Bk2 w8 (w6.heap.size) (.int .i64 0) (.int .i64 ip) := F21.below hb8 F21.lt
    clear hb8
    go_wp2_with fail
    obtain ⟨V10, hV10⟩ : ∃ V10 : World, V10 = (w8.alloc (.cells #[.int .i64 co, .int .i64 io] 24)) := ⟨_, rfl⟩
    have bV10 : Below w8.heap.size w8 V10 := by rw [hV10]; (repeat (first | with_reducible exact Below.refl _ _ | with_reducible refine Below.drew ?_ | with_reducible refine below_drewN ?_ _ | with_reducible refine Below.setCell ?_ (by first | (simp; done) | (simp; omega) | omega) _ | with_reducible refine Below.alloc ?_ (by first | (simp; done) | (simp; omega) | omega) _))
    have zV10 : w8.heap.size + 1 ≤ V10.heap.size := by rw [hV10]; simp
    have F23 : Bk2 V10 (w8.heap.size) (.int .i64 co) (.int .i64 io) := by rw [hV10]; exact (Bk2.newAt _ _ (by simp) _ _ _)
    rw [← hV10]
    clear hV10
    replace E : Below w.heap.size w V10 := E.trans (bV10.mono E.size)
    replace F18 : Bk2 V10 (w5.heap.size) (.int .i64 0) (.int .i64 ip) := F18.below bV10 F18.lt
    replace F21 : Bk2 V10 (w6.heap.size) (.int .i64 0) (.int .i64 ip) := F21.below bV10 F21.lt
    clear bV10
    (with_reducible refine (HO2.out _ (hT.below E (Nat.le_refl _))).mono ?_)
    rintro e w9 ⟨rfl, hb9⟩
    have sw9 := hb9.size
    replace E : Below w.heap.size w w9 := E.trans (hb9.mono E.size)
    replace F18 : Bk2 w9 (w5.heap.size) (.int .i64 0) (.int .i64 ip) := F18.below hb9 F18.lt
    replace F21 : Bk2 w9 (w6.heap.size) (.int .i64 0) (.int .i64 ip) := F21.below hb9 F21.lt
    replace F23 : Bk2 w9 (w8.heap.size) (.int .i64 co) (.int .i64 io) := F23.below hb9 F23.lt
    clear hb9
    go_upto_region 20 with fail
    obtain ⟨V11, hV11⟩ : ∃ V11 : World, V11 = (w9.alloc (.cells #[.int .i64 co, .int .i64 io] 24)) := ⟨_, rfl⟩
    have bV11 : Below w9.heap.size w9 V11 := by rw [hV11]; (repeat (first | with_reducible exact Below.refl _ _ | with_reducible refine Below.drew ?_ | with_reducible refine below_drewN ?_ _ | with_reducible refine Below.setCell ?_ (by first | (simp; done) | (simp; omega) | omega) _ | with_reducible refine Below.alloc ?_ (by first | (simp; done) | (simp; omega) | omega) _))
    have zV11 : w9.heap.size + 1 ≤ V11.heap.size := by rw [hV11]; simp
    have F25 : Bk2 V11 (w9.heap.size) (.int .i64 co) (.int .i64 io) := by rw [hV11]; exact (Bk2.newAt _ _ (by simp) _ _ _)
    rw [← hV11]
    clear hV11
    replace E : Below w.heap.size w V11 := E.trans (bV11.mono E.size)
    replace F18 : Bk2 V11 (w5.heap.size) (.int .i64 0) (.int .i64 ip) := F18.below bV11 F18.lt
    replace F21 : Bk2 V11 (w6.heap.size) (.int .i64 0) (.int .i64 ip) := F21.below bV11 F21.lt
    replace F23 : Bk2 V11 (w8.heap.size) (.int .i64 co) (.int .i64 io) := F23.below bV11 F23.lt
    clear bV11
    have t_F180 : V11.cell? ⟨w5.heap.size, 0, none⟩ = some ((.int .i64 0)) := F18.c0
    have t_F181 : V11.cell? ⟨w5.heap.size, 1, none⟩ = some ((.int .i64 ip)) := F18.c1
    have t_F210 : V11.cell? ⟨w6.heap.size, 0, none⟩ = some ((.int .i64 0)) := F21.c0
    have t_F211 : V11.cell? ⟨w6.heap.size, 1, none⟩ = some ((.int .i64 ip)) := F21.c1
    have t_F230 : V11.cell? ⟨w8.heap.size, 0, none⟩ = some ((.int .i64 co)) := F23.c0
    have t_F231 : V11.cell? ⟨w8.heap.size, 1, none⟩ = some ((.int .i64 io)) := F23.c1
    have t_F250 : V11.cell? ⟨w9.heap.size, 0, none⟩ = some ((.int .i64 co)) := F25.c0
    have t_F251 : V11.cell? ⟨w9.heap.size, 1, none⟩ = some ((.int .i64 io)) := F25.c1
    go_wp2_with fail
    clear t_F180 t_F181 t_F210 t_F211 t_F230 t_F231 t_F250 t_F251
    go_ret
    exact ⟨by first | rfl | (simp; done), E⟩
  · subst hm
    subst hk
    have d7 : (cp == 0) = false := beq_eq_false_iff_ne.2 (by omega)
    have t_F210 : V7.cell? ⟨w6.heap.size, 0, none⟩ = some ((.int .i64 cp)) := F21.c0
    have t_F211 : V7.cell? ⟨w6.heap.size, 1, none⟩ = some ((.int .i64 ip)) := F21.c1
    go_wp2_with fail
    clear t_F210 t_F211
    clear d7
    (with_reducible refine (HO1.out _).mono ?_)
    rintro e w8 ⟨rfl, hb8⟩
    have sw8 := hb8.size
    replace E : Below w.heap.size w w8 := E.trans (hb8.mono E.size)
    replace F18 : Bk2 w8 (w5.heap.size) (.int .i64 cp) (.int .i64 ip) := F18.below hb8 F18.lt
    replace F21 : Bk2 w8 (w6.heap.size) (.int .i64 cp) (.int .i64 ip) := F21.below hb8 F21.lt
    clear hb8
    go_wp2_with fail
    obtain ⟨V9, hV9⟩ : ∃ V9 : World, V9 = (w8.alloc (.cells #[.int .i64 co, .int .i64 io] 24)) := ⟨_, rfl⟩
    have bV9 : Below w8.heap.size w8 V9 := by rw [hV9]; (repeat (first | with_reducible exact Below.refl _ _ | with_reducible refine Below.drew ?_ | with_reducible refine below_drewN ?_ _ | with_reducible refine Below.setCell ?_ (by first | (simp; done) | (simp; omega) | omega) _ | with_reducible refine Below.alloc ?_ (by first | (simp; done) | (simp; omega) | omega) _))
    have zV9 : w8.heap.size + 1 ≤ V9.heap.size := by rw [hV9]; simp
    have F23 : Bk2 V9 (w8.heap.size) (.int .i64 co) (.int .i64 io) := by rw [hV9]; exact (Bk2.newAt _ _ (by simp) _ _ _)
    rw [← hV9]
    clear hV9
    replace E : Below w.heap.size w V9 := E.trans (bV9.mono E.size)
    replace F18 : Bk2 V9 (w5.heap.size) (.int .i64 cp) (.int .i64 ip) := F18.below bV9 F18.lt
    replace F21 : Bk2 V9 (w6.heap.size) (.int .i64 cp) (.int .i64 ip) := F21.below bV9 F21.lt
    clear bV9
    (with_reducible refine (HO2.out _ (hT.below E (Nat.le_refl _))).mono ?_)
    rintro e w9 ⟨rfl, hb9⟩
    have sw9 := hb9.size
    replace E : Below w.heap.size w w9 := E.trans (hb9.mono E.size)
    replace F18 : Bk2 w9 (w5.heap.size) (.int .i64 cp) (.int .i64 ip) := F18.below hb9 F18.lt
    replace F21 : Bk2 w9 (w6.heap.size) (.int .i64 cp) (.int .i64 ip) := F21.below hb9 F21.lt
    replace F23 : Bk2 w9 (w8.heap.size) (.int .i64 co) (.int .i64 io) := F23.below hb9 F23.lt
    clear hb9
    go_upto_region 20 with fail
    obtain ⟨V10, hV10⟩ : ∃ V10 : World, V10 = (w9.alloc (.cells #[.int .i64 co, .int .i64 io] 24)) := ⟨_, rfl⟩
    have bV10 : Below w9.heap.size w9 V10 := by rw [hV10]; (repeat (first | with_reducible exact Below.refl _ _ | with_reducible refine Below.drew ?_ | with_reducible refine below_drewN ?_ _ | with_reducible refine Below.setCell ?_ (by first | (simp; done) | (simp; omega) | omega) _ | with_reducible refine Below.alloc ?_ (by first | (simp; done) | (simp; omega) | omega) _))
    have zV10 : w9.heap.size + 1 ≤ V10.heap.size := by rw [hV10]; simp
    have F25 : Bk2 V10 (w9.heap.size) (.int .i64 co) (.int .i64 io) := by rw [hV10]; exact (Bk2.newAt _ _ (by simp) _ _ _)
    rw [← hV10]
    clear hV10
    replace E : Below w.heap.size w V10 := E.trans (bV10.mono E.size)
    replace F18 : Bk2 V10 (w5.heap.size) (.int .i64 cp) (.int .i64 ip) := F18.below bV10 F18.lt
    replace F21 : Bk2 V10 (w6.heap.size) (.int .i64 cp) (.int .i64 ip) := F21.below bV10 F21.lt
    replace F23 : Bk2 V10 (w8.heap.size) (.int .i64 co) (.int .i64 io) := F23.below bV10 F23.lt
    clear bV10
    have t_F180 : V10.cell? ⟨w5.heap.size, 0, none⟩ = some ((.int .i64 cp)) := F18.c0
    have t_F181 : V10.cell? ⟨w5.heap.size, 1, none⟩ = some ((.int .i64 ip)) := F18.c1
    have t_F210 : V10.cell? ⟨w6.heap.size, 0, none⟩ = some ((.int .i64 cp)) := F21.c0
    have t_F211 : V10.cell? ⟨w6.heap.size, 1, none⟩ = some ((.int .i64 ip)) := F21.c1
    have t_F230 : V10.cell? ⟨w8.heap.size, 0, none⟩ = some ((.int .i64 co)) := F23.c0
    have t_F231 : V10.cell? ⟨w8.heap.size, 1, none⟩ = some ((.int .i64 io)) := F23.c1
    have t_F250 : V10.cell? ⟨w9.heap.size, 0, none⟩ = some ((.int .i64 co)) := F25.c0
    have t_F251 : V10.cell? ⟨w9.heap.size, 1, none⟩ = some ((.int .i64 io)) := F25.c1
    go_wp2_with fail
    clear t_F180 t_F181 t_F210 t_F211 t_F230 t_F231 t_F250 t_F251
    go_ret
    exact ⟨by first | rfl | (simp; done), E⟩
set_option maxHeartbeats 8000000 in
theorem tells_in (w : World) (s : ByteArray) (a l q m kk cp ip o co io : Int) (hsz : s.size ≤ 1048576) (hT : Tabs w) (j : Nat) (hl : l = (j : Int) + 1) (hj : j ≤ nl s 0 s.size) {y : ByteArray} (hs : s.size ≤ 16000) (HG : Hid (chkFrom s s.size 0 = none)) (HX : Hid (LnAt s j y)) (hlin : Hid (∀ w, Calls Tryd.prog 9 #[.string s, .int .i64 l] w fun e w2 => e = .returned (.tuple #[.string y, flt 0 0]) ∧ Below w.heap.size w w2)) (HP : Hid (PosAll s a m kk cp ip)) (HO : Hid (OffAll s l q o co io)) :
    Calls Tryd.prog 3 #[.string s, .int .i64 a, .int .i64 l, .int .i64 q] w fun e w' => e = .returned (.bool true) ∧ Below w.heap.size w w' := by
  have hz : s.size ≤ 9223372036854775807 := by omega
  obtain ⟨hp1, hp2, hp3⟩ := HP.out
  have HP1 := Lib.hid hp1
  have HP2 := Lib.hid hp2
  have HP3 := Lib.hid hp3
  obtain ⟨ho1, ho2⟩ := HO.out
  have HO1 := Lib.hid ho1
  have HO2 := Lib.hid ho2
  clear hp1 hp2 hp3 ho1 ho2 HP HO
  obtain ⟨T, hTT⟩ : ∃ T, T = nl s 0 s.size := ⟨_, rfl⟩
  have HTT := Lib.hid hTT
  have hlines := Lib.hid (show ∀ w, Calls Tryd.prog 8 #[.string s] w fun e w2 => e = .returned (.tuple #[.int .i64 ((T : Int) + 1), flt 0 0]) ∧ Below w.heap.size w w2 from fun w => by rw [hTT]; exact lines_ok s w hs HG)
  have tle : T ≤ 16000 := by have := nl_le s 0 s.size; omega
  rw [← hTT] at hj
  subst hl
  clear hTT
  have d2 : decide ((1 : Int) ≤ (j : Int) + 1) = true := decide_eq_true (by omega)
  have d2' : decide ((0 : Int) ≤ (j : Int)) = true := decide_eq_true (by omega)
  have d3 : decide ((j : Int) + 1 ≤ (T : Int) + 1) = true := decide_eq_true (by omega)
  have d3' : decide ((j : Int) ≤ (T : Int)) = true := decide_eq_true (by omega)
  have d3n : decide (j ≤ T) = true := decide_eq_true (by omega)
  have j1 : (0 : Int) ≤ (j : Int) := by omega
  have j2 : (j : Int) < (T : Int) + 1 := by omega
  have j3 : j < T + 1 := by omega
  have wj : IntKind.i64.wrap (j : Int) = (j : Int) := IntWalk.i64_in _ (by omega)
  have E : Below w.heap.size w w := Below.refl _ _
  go_enter Tryd.func3, Tryd.ntmps3
  go_wp2_with fail
  (with_reducible refine (places_any _).mono ?_)
  rintro e w0 ⟨rfl, hb0⟩
  have sw0 := hb0.size
  replace E : Below w.heap.size w w0 := E.trans (hb0.mono E.size)
  clear hb0
  go_wp2_with fail
  (with_reducible refine (sf_good s _ hs HG (hT.below E (Nat.le_refl _))).mono ?_)
  rintro e w1 ⟨rfl, hb1⟩
  have sw1 := hb1.size
  replace E : Below w.heap.size w w1 := E.trans (hb1.mono E.size)
  clear hb1
  go_wp2_with fail
  obtain ⟨V1, hV1⟩ : ∃ V1 : World, V1 = (w1.alloc (.cells #[.int .i64 0, .int .i64 0] 24)) := ⟨_, rfl⟩
  have bV1 : Below w1.heap.size w1 V1 := by rw [hV1]; (repeat (first | with_reducible exact Below.refl _ _ | with_reducible refine Below.drew ?_ | with_reducible refine below_drewN ?_ _ | with_reducible refine Below.setCell ?_ (by first | (simp; done) | (simp; omega) | omega) _ | with_reducible refine Below.alloc ?_ (by first | (simp; done) | (simp; omega) | omega) _))
  have zV1 : w1.heap.size + 1 ≤ V1.heap.size := by rw [hV1]; simp
  have F9 : Bk2 V1 (w1.heap.size) (.int .i64 0) (.int .i64 0) := by rw [hV1]; exact (Bk2.newAt _ _ (by simp) _ _ _)
  rw [← hV1]
  clear hV1
  replace E : Below w.heap.size w V1 := E.trans (bV1.mono E.size)
  clear bV1
  refine (lines_any s _ hsz).mono ?_
  rintro e w2 ⟨gl, cc, xs, rfl, hR, hxc, hcm, HLn, HLx, hgl, hb2⟩
  have HLn2 := Lib.hid (HLn.out.trans (by rw [← HTT.out] : nl s 0 s.size + 1 = T + 1))
  rw [HLn2.out]
  rw [HLn2.out] at hxc
  obtain ⟨y, hy⟩ : ∃ y, xs[j]? = some y := ⟨_, List.getElem?_eq_getElem (by rw [HLn2.out]; omega)⟩
  have HY := Lib.hid hy
  obtain rfl := ln_uniq (HLx.out j y hy) HX.out
  clear hy
  have sw2 := hb2.size
  replace E : Below w.heap.size w w2 := E.trans (hb2.mono E.size)
  replace F9 : Bk2 w2 (w1.heap.size) (.int .i64 0) (.int .i64 0) := F9.below hb2 F9.lt
  clear hb2
  go_wp2_with fail
  (with_reducible refine (hlines.out _).mono ?_)
  rintro e w3 ⟨rfl, hb3⟩
  have sw3 := hb3.size
  replace E : Below w.heap.size w w3 := E.trans (hb3.mono E.size)
  replace F9 : Bk2 w3 (w1.heap.size) (.int .i64 0) (.int .i64 0) := F9.below hb3 F9.lt
  replace hR : RS w3 (gl) xs := hR.below hb3 hR.lt
  clear hb3
  go_wp2_with fail
  obtain ⟨V3, hV3⟩ : ∃ V3 : World, V3 = (w3.alloc (.cells #[.int .i64 0, .int .i64 0] 24)) := ⟨_, rfl⟩
  have bV3 : Below w3.heap.size w3 V3 := by rw [hV3]; (repeat (first | with_reducible exact Below.refl _ _ | with_reducible refine Below.drew ?_ | with_reducible refine below_drewN ?_ _ | with_reducible refine Below.setCell ?_ (by first | (simp; done) | (simp; omega) | omega) _ | with_reducible refine Below.alloc ?_ (by first | (simp; done) | (simp; omega) | omega) _))
  have zV3 : w3.heap.size + 1 ≤ V3.heap.size := by rw [hV3]; simp
  have F12 : Bk2 V3 (w3.heap.size) (.int .i64 0) (.int .i64 0) := by rw [hV3]; exact (Bk2.newAt _ _ (by simp) _ _ _)
  rw [← hV3]
  clear hV3
  replace E : Below w.heap.size w V3 := E.trans (bV3.mono E.size)
  replace F9 : Bk2 V3 (w1.heap.size) (.int .i64 0) (.int .i64 0) := F9.below bV3 F9.lt
  replace hR : RS V3 (gl) xs := hR.below bV3 hR.lt
  clear bV3
  (with_reducible refine (hlin.out _).mono ?_)
  rintro e w4 ⟨rfl, hb4⟩
  have sw4 := hb4.size
  replace E : Below w.heap.size w w4 := E.trans (hb4.mono E.size)
  replace F9 : Bk2 w4 (w1.heap.size) (.int .i64 0) (.int .i64 0) := F9.below hb4 F9.lt
  replace hR : RS w4 (gl) xs := hR.below hb4 hR.lt
  replace F12 : Bk2 w4 (w3.heap.size) (.int .i64 0) (.int .i64 0) := F12.below hb4 F12.lt
  clear hb4
  go_upto_region 7 with fail
  obtain ⟨V4, hV4⟩ : ∃ V4 : World, V4 = (w4.alloc (.cells #[.int .i64 0, .int .i64 0] 24)) := ⟨_, rfl⟩
  have bV4 : Below w4.heap.size w4 V4 := by rw [hV4]; (repeat (first | with_reducible exact Below.refl _ _ | with_reducible refine Below.drew ?_ | with_reducible refine below_drewN ?_ _ | with_reducible refine Below.setCell ?_ (by first | (simp; done) | (simp; omega) | omega) _ | with_reducible refine Below.alloc ?_ (by first | (simp; done) | (simp; omega) | omega) _))
  have zV4 : w4.heap.size + 1 ≤ V4.heap.size := by rw [hV4]; simp
  have F14 : Bk2 V4 (w4.heap.size) (.int .i64 0) (.int .i64 0) := by rw [hV4]; exact (Bk2.newAt _ _ (by simp) _ _ _)
  rw [← hV4]
  clear hV4
  replace E : Below w.heap.size w V4 := E.trans (bV4.mono E.size)
  replace F9 : Bk2 V4 (w1.heap.size) (.int .i64 0) (.int .i64 0) := F9.below bV4 F9.lt
  replace hR : RS V4 (gl) xs := hR.below bV4 hR.lt
  replace F12 : Bk2 V4 (w3.heap.size) (.int .i64 0) (.int .i64 0) := F12.below bV4 F12.lt
  clear bV4
  have G0 : Below V4.heap.size V4 V4.drew := Below.drew (Below.refl _ _)
  have HS := Lib.hid (fun (u : World) (hu : Below V4.heap.size V4 u) => (⟨hu, (F9.below hu F9.lt).c0, (F9.below hu F9.lt).c1, (F12.below hu F12.lt).c0, (F12.below hu F12.lt).c1, (F14.below hu F14.lt).c0, (F14.below hu F14.lt).c1⟩ : Below V4.heap.size V4 u ∧ u.cell? ⟨w1.heap.size, 0, none⟩ = some (.int .i64 0) ∧ u.cell? ⟨w1.heap.size, 1, none⟩ = some (.int .i64 0) ∧ u.cell? ⟨w3.heap.size, 0, none⟩ = some (.int .i64 0) ∧ u.cell? ⟨w3.heap.size, 1, none⟩ = some (.int .i64 0) ∧ u.cell? ⟨w4.heap.size, 0, none⟩ = some (.int .i64 0) ∧ u.cell? ⟨w4.heap.size, 1, none⟩ = some (.int .i64 0)))
  refine wp_region_held_drew (S := (fun u => Below V4.heap.size V4 u ∧ u.cell? ⟨w1.heap.size, 0, none⟩ = some (.int .i64 0) ∧ u.cell? ⟨w1.heap.size, 1, none⟩ = some (.int .i64 0) ∧ u.cell? ⟨w3.heap.size, 0, none⟩ = some (.int .i64 0) ∧ u.cell? ⟨w3.heap.size, 1, none⟩ = some (.int .i64 0) ∧ u.cell? ⟨w4.heap.size, 0, none⟩ = some (.int .i64 0) ∧ u.cell? ⟨w4.heap.size, 1, none⟩ = some (.int .i64 0))) (by kernel_rfl) (HS.out _ G0) (fun hHeld => ?_)
  refine takeW (i := 0) (v := ?_) rfl (by kernel_rfl) (by kernel_rfl) (by kernel_rfl) (fun _ _ _ h => h) (by rfl) (by assumption) ?_ ?_
  rotate_left 1
  · (intro w9 hSw; (try dsimp only at hSw); go_simp); (first | done | with_reducible rfl)
  try simp only [Act.put, List.setIfInBounds_toArray, List.set_cons_zero, List.set_cons_succ]
  refine takeW (i := 2) (v := ?_) rfl (by kernel_rfl) (by kernel_rfl) (by kernel_rfl) (fun _ _ _ h => h) (by rfl) (by assumption) ?_ ?_
  rotate_left 1
  · (intro w9 hSw; (try dsimp only at hSw); go_simp); (first | done | with_reducible rfl)
  try simp only [Act.put, List.setIfInBounds_toArray, List.set_cons_zero, List.set_cons_succ]
  refine readyW (i := 1) (by kernel_rfl) rfl (by rfl) (fun K hK => ?_)
  go_simp
  (go_at_call 10; (with_reducible refine (check_good s _ hs HG).mono ?_); rintro e u1 ⟨rfl, hq1⟩; have B1 : Below V4.heap.size V4 u1 := bnext G0 hq1)
  go_wp2_with fail
  refine hK.out _ _ (HS.out _ B1) (fun hHeld1 => ?_)
  clear hK K
  try simp only [Act.put, List.setIfInBounds_toArray, List.set_cons_zero, List.set_cons_succ]
  refine takeW (i := 3) (v := ?_) rfl (by kernel_rfl) (by kernel_rfl) (by kernel_rfl) (fun _ _ _ h => h) (by rfl) (by assumption) ?_ ?_
  rotate_left 1
  · (intro w9 hSw; (try dsimp only at hSw); go_simp); (first | done | with_reducible rfl)
  try simp only [Act.put, List.setIfInBounds_toArray, List.set_cons_zero, List.set_cons_succ]
  refine takeW (i := 4) (v := ?_) rfl (by kernel_rfl) (by kernel_rfl) (by kernel_rfl) (fun _ _ _ h => h) (by rfl) (by assumption) ?_ ?_
  rotate_left 1
  · (intro w9 hSw; (try dsimp only at hSw); go_simp); (first | done | with_reducible rfl)
  try simp only [Act.put, List.setIfInBounds_toArray, List.set_cons_zero, List.set_cons_succ]
  refine takeW (i := 5) (v := ?_) rfl (by kernel_rfl) (by kernel_rfl) (by kernel_rfl) (fun _ _ _ h => h) (by rfl) (by assumption) ?_ ?_
  rotate_left 1
  · (intro w9 hSw; (try dsimp only at hSw); go_simp); (first | done | with_reducible rfl)
  try simp only [Act.put, List.setIfInBounds_toArray, List.set_cons_zero, List.set_cons_succ]
  refine takeW (i := 6) (v := ?_) rfl (by kernel_rfl) (by kernel_rfl) (by kernel_rfl) (fun _ _ _ h => h) (by rfl) (by assumption) ?_ ?_
  rotate_left 1
  · (intro w9 hSw; (try dsimp only at hSw); go_simp); (first | done | with_reducible rfl)
  try simp only [Act.put, List.setIfInBounds_toArray, List.set_cons_zero, List.set_cons_succ]
  refine takeW (i := 7) (v := ?_) rfl (by kernel_rfl) (by kernel_rfl) (by kernel_rfl) (fun _ _ _ h => h) (by rfl) (by assumption) ?_ ?_
  rotate_left 1
  · (intro w9 hSw; (try dsimp only at hSw); go_simp); (first | done | with_reducible rfl)
  try simp only [Act.put, List.setIfInBounds_toArray, List.set_cons_zero, List.set_cons_succ]
  refine takeW (i := 8) (v := ?_) rfl (by kernel_rfl) (by kernel_rfl) (by kernel_rfl) (fun _ _ _ h => h) (by rfl) (by assumption) ?_ ?_
  rotate_left 1
  · (intro w9 hSw; (try dsimp only at hSw); go_simp); (first | done | with_reducible rfl)
  try simp only [Act.put, List.setIfInBounds_toArray, List.set_cons_zero, List.set_cons_succ]
  refine takeW (i := 9) (v := ?_) rfl (by kernel_rfl) (by kernel_rfl) (by kernel_rfl) (fun _ _ _ h => h) (by rfl) (by assumption) ?_ ?_
  rotate_left 1
  · (intro w9 hSw; (try dsimp only at hSw); go_simp); (first | done | with_reducible rfl)
  try simp only [Act.put, List.setIfInBounds_toArray, List.set_cons_zero, List.set_cons_succ]
  refine takeW (i := 10) (v := ?_) rfl (by kernel_rfl) (by kernel_rfl) (by kernel_rfl) (fun _ _ _ h => h) (by rfl) (by assumption) ?_ ?_
  rotate_left 1
  · (intro w9 hSw; (try dsimp only at hSw); go_simp); (first | done | with_reducible rfl)
  try simp only [Act.put, List.setIfInBounds_toArray, List.set_cons_zero, List.set_cons_succ]
  refine takeW (i := 11) (v := ?_) rfl (by kernel_rfl) (by kernel_rfl) (by kernel_rfl) (fun _ _ _ h => h) (by rfl) (by assumption) ?_ ?_
  rotate_left 1
  · (intro w9 hSw; (try dsimp only at hSw); go_simp); (first | done | with_reducible rfl)
  try simp only [Act.put, List.setIfInBounds_toArray, List.set_cons_zero, List.set_cons_succ]
  refine takeW (i := 12) (v := ?_) rfl (by kernel_rfl) (by kernel_rfl) (by kernel_rfl) (fun _ _ _ h => h) (by rfl) (by assumption) ?_ ?_
  rotate_left 1
  · (intro w9 hSw; (try dsimp only at hSw); go_simp); (first | done | with_reducible rfl)
  try simp only [Act.put, List.setIfInBounds_toArray, List.set_cons_zero, List.set_cons_succ]
  refine takeW (i := 13) (v := ?_) rfl (by kernel_rfl) (by kernel_rfl) (by kernel_rfl) (fun _ _ _ h => h) (by rfl) (by assumption) ?_ ?_
  rotate_left 1
  · (intro w9 hSw; (try dsimp only at hSw); go_simp); (first | done | with_reducible rfl)
  try simp only [Act.put, List.setIfInBounds_toArray, List.set_cons_zero, List.set_cons_succ]
  refine takeN (i := 14) rfl (by kernel_rfl) (by kernel_rfl) (by kernel_rfl) (fun _ _ _ h => h) (by rfl) (by assumption) ?_
  try simp only [Act.put, List.setIfInBounds_toArray, List.set_cons_zero, List.set_cons_succ]
  refine takeN (i := 15) rfl (by kernel_rfl) (by kernel_rfl) (by kernel_rfl) (fun _ _ _ h => h) (by rfl) (by assumption) ?_
  try simp only [Act.put, List.setIfInBounds_toArray, List.set_cons_zero, List.set_cons_succ]
  refine takeN (i := 16) rfl (by kernel_rfl) (by kernel_rfl) (by kernel_rfl) (fun _ _ _ h => h) (by rfl) (by assumption) ?_
  try simp only [Act.put, List.setIfInBounds_toArray, List.set_cons_zero, List.set_cons_succ]
  refine takeN (i := 17) rfl (by kernel_rfl) (by kernel_rfl) (by kernel_rfl) (fun _ _ _ h => h) (by rfl) (by assumption) ?_
  try simp only [Act.put, List.setIfInBounds_toArray, List.set_cons_zero, List.set_cons_succ]
  refine takeN (i := 18) rfl (by kernel_rfl) (by kernel_rfl) (by kernel_rfl) (fun _ _ _ h => h) (by rfl) (by assumption) ?_
  try simp only [Act.put, List.setIfInBounds_toArray, List.set_cons_zero, List.set_cons_succ]
  refine takeN (i := 19) rfl (by kernel_rfl) (by kernel_rfl) (by kernel_rfl) (fun _ _ _ h => h) (by rfl) (by assumption) ?_
  try simp only [Act.put, List.setIfInBounds_toArray, List.set_cons_zero, List.set_cons_succ]
  refine takeN (i := 20) rfl (by kernel_rfl) (by kernel_rfl) (by kernel_rfl) (fun _ _ _ h => h) (by rfl) (by assumption) ?_
  try simp only [Act.put, List.setIfInBounds_toArray, List.set_cons_zero, List.set_cons_succ]
  refine takeN (i := 21) rfl (by kernel_rfl) (by kernel_rfl) (by kernel_rfl) (fun _ _ _ h => h) (by rfl) (by assumption) ?_
  try simp only [Act.put, List.setIfInBounds_toArray, List.set_cons_zero, List.set_cons_succ]
  refine takeN (i := 22) rfl (by kernel_rfl) (by kernel_rfl) (by kernel_rfl) (fun _ _ _ h => h) (by rfl) (by assumption) ?_
  try simp only [Act.put, List.setIfInBounds_toArray, List.set_cons_zero, List.set_cons_succ]
  refine takeN (i := 23) rfl (by kernel_rfl) (by kernel_rfl) (by kernel_rfl) (fun _ _ _ h => h) (by rfl) (by assumption) ?_
  try simp only [Act.put, List.setIfInBounds_toArray, List.set_cons_zero, List.set_cons_succ]
  refine takeN (i := 24) rfl (by kernel_rfl) (by kernel_rfl) (by kernel_rfl) (fun _ _ _ h => h) (by rfl) (by assumption) ?_
  try simp only [Act.put, List.setIfInBounds_toArray, List.set_cons_zero, List.set_cons_succ]
  refine takeW (i := 25) (v := ?_) rfl (by kernel_rfl) (by kernel_rfl) (by kernel_rfl) (fun _ _ _ h => h) (by rfl) (by assumption) ?_ ?_
  rotate_left 1
  · (intro w9 hSw; (try dsimp only at hSw); go_simp); (first | done | with_reducible rfl)
  try simp only [Act.put, List.setIfInBounds_toArray, List.set_cons_zero, List.set_cons_succ]
  refine takeW (i := 26) (v := ?_) rfl (by kernel_rfl) (by kernel_rfl) (by kernel_rfl) (fun _ _ _ h => h) (by rfl) (by assumption) ?_ ?_
  rotate_left 1
  · (intro w9 hSw; (try dsimp only at hSw); go_simp); (first | done | with_reducible rfl)
  try simp only [Act.put, List.setIfInBounds_toArray, List.set_cons_zero, List.set_cons_succ]
  refine wpAnyH_done (by kernel_rfl) ?_ _
  go_upto_region 9 with fail
  clear HS G0 hHeld hHeld1 hq1
  have su1 := B1.size
  replace E : Below w.heap.size w u1 := E.trans (B1.mono E.size)
  replace F9 : Bk2 u1 (w1.heap.size) (.int .i64 0) (.int .i64 0) := F9.below B1 F9.lt
  replace hR : RS u1 (gl) xs := hR.below B1 hR.lt
  replace F12 : Bk2 u1 (w3.heap.size) (.int .i64 0) (.int .i64 0) := F12.below B1 F12.lt
  replace F14 : Bk2 u1 (w4.heap.size) (.int .i64 0) (.int .i64 0) := F14.below B1 F14.lt
  clear B1
  have t_F90 : u1.cell? ⟨w1.heap.size, 0, none⟩ = some ((.int .i64 0)) := F9.c0
  have t_F91 : u1.cell? ⟨w1.heap.size, 1, none⟩ = some ((.int .i64 0)) := F9.c1
  go_upto_region 11 with fail
  clear t_F90 t_F91
  have G0 : Below u1.heap.size u1 u1.drew := Below.drew (Below.refl _ _)
  have HS := Lib.hid (fun (u : World) (hu : Below u1.heap.size u1 u) => (⟨hu, (F14.below hu F14.lt).c0, (F14.below hu F14.lt).c1, (hR.below hu hR.lt).cell HY.out⟩ : Below u1.heap.size u1 u ∧ u.cell? ⟨w4.heap.size, 0, none⟩ = some (.int .i64 0) ∧ u.cell? ⟨w4.heap.size, 1, none⟩ = some (.int .i64 0) ∧ u.cell? ⟨gl, j, none⟩ = some (.string y)))
  refine wp_region_held_drew (S := (fun u => Below u1.heap.size u1 u ∧ u.cell? ⟨w4.heap.size, 0, none⟩ = some (.int .i64 0) ∧ u.cell? ⟨w4.heap.size, 1, none⟩ = some (.int .i64 0) ∧ u.cell? ⟨gl, j, none⟩ = some (.string y))) (by kernel_rfl) (HS.out _ G0) (fun hHeld => ?_)
  refine takeW (i := 0) (v := ?_) rfl (by kernel_rfl) (by kernel_rfl) (by kernel_rfl) (fun _ _ _ h => h) (by rfl) (by assumption) ?_ ?_
  rotate_left 1
  · (intro w9 hSw; (try dsimp only at hSw); go_simp); (first | done | with_reducible rfl)
  try simp only [Act.put, List.setIfInBounds_toArray, List.set_cons_zero, List.set_cons_succ]
  refine takeW (i := 1) (v := ?_) rfl (by kernel_rfl) (by kernel_rfl) (by kernel_rfl) (fun _ _ _ h => h) (by rfl) (by assumption) ?_ ?_
  rotate_left 1
  · (intro w9 hSw; (try dsimp only at hSw); go_simp); (first | done | with_reducible rfl)
  try simp only [Act.put, List.setIfInBounds_toArray, List.set_cons_zero, List.set_cons_succ]
  refine takeW (i := 2) (v := ?_) rfl (by kernel_rfl) (by kernel_rfl) (by kernel_rfl) (fun _ _ _ h => h) (by rfl) (by assumption) ?_ ?_
  rotate_left 1
  · (intro w9 hSw; (try dsimp only at hSw); go_simp); (first | done | with_reducible rfl)
  try simp only [Act.put, List.setIfInBounds_toArray, List.set_cons_zero, List.set_cons_succ]
  refine takeW (i := 3) (v := ?_) rfl (by kernel_rfl) (by kernel_rfl) (by kernel_rfl) (fun _ _ _ h => h) (by rfl) (by assumption) ?_ ?_
  rotate_left 1
  · (intro w9 hSw; (try dsimp only at hSw); go_simp); (first | done | with_reducible rfl)
  try simp only [Act.put, List.setIfInBounds_toArray, List.set_cons_zero, List.set_cons_succ]
  refine takeW (i := 4) (v := ?_) rfl (by kernel_rfl) (by kernel_rfl) (by kernel_rfl) (fun _ _ _ h => h) (by rfl) (by assumption) ?_ ?_
  rotate_left 1
  · (intro w9 hSw; (try dsimp only at hSw); go_simp); (first | done | with_reducible rfl)
  try simp only [Act.put, List.setIfInBounds_toArray, List.set_cons_zero, List.set_cons_succ]
  refine takeW (i := 5) (v := ?_) rfl (by kernel_rfl) (by kernel_rfl) (by kernel_rfl) (fun _ _ _ h => h) (by rfl) (by assumption) ?_ ?_
  rotate_left 1
  · (intro w9 hSw; (try dsimp only at hSw); go_simp); (first | done | with_reducible rfl)
  try simp only [Act.put, List.setIfInBounds_toArray, List.set_cons_zero, List.set_cons_succ]
  refine takeW (i := 6) (v := ?_) rfl (by kernel_rfl) (by kernel_rfl) (by kernel_rfl) (fun _ _ _ h => h) (by rfl) (by assumption) ?_ ?_
  rotate_left 1
  · (intro w9 hSw; (try dsimp only at hSw); go_simp); (first | done | with_reducible rfl)
  try simp only [Act.put, List.setIfInBounds_toArray, List.set_cons_zero, List.set_cons_succ]
  refine takeW (i := 7) (v := ?_) rfl (by kernel_rfl) (by kernel_rfl) (by kernel_rfl) (fun _ _ _ h => h) (by rfl) (by assumption) ?_ ?_
  rotate_left 1
  · (intro w9 hSw; (try dsimp only at hSw); go_simp); (first | done | with_reducible rfl)
  try simp only [Act.put, List.setIfInBounds_toArray, List.set_cons_zero, List.set_cons_succ]
  refine takeW (i := 8) (v := ?_) rfl (by kernel_rfl) (by kernel_rfl) (by kernel_rfl) (fun _ _ _ h => h) (by rfl) (by assumption) ?_ ?_
  rotate_left 1
  · (intro w9 hSw; (try dsimp only at hSw); go_simp); (first | done | with_reducible rfl)
  try simp only [Act.put, List.setIfInBounds_toArray, List.set_cons_zero, List.set_cons_succ]
  refine takeW (i := 9) (v := ?_) rfl (by kernel_rfl) (by kernel_rfl) (by kernel_rfl) (fun _ _ _ h => h) (by rfl) (by assumption) ?_ ?_
  rotate_left 1
  · (intro w9 hSw; (try dsimp only at hSw); go_simp); (first | done | with_reducible rfl)
  try simp only [Act.put, List.setIfInBounds_toArray, List.set_cons_zero, List.set_cons_succ]
  refine takeW (i := 10) (v := ?_) rfl (by kernel_rfl) (by kernel_rfl) (by kernel_rfl) (fun _ _ _ h => h) (by rfl) (by assumption) ?_ ?_
  rotate_left 1
  · (intro w9 hSw; (try dsimp only at hSw); go_simp); (first | done | with_reducible rfl)
  try simp only [Act.put, List.setIfInBounds_toArray, List.set_cons_zero, List.set_cons_succ]
  refine takeW (i := 11) (v := ?_) rfl (by kernel_rfl) (by kernel_rfl) (by kernel_rfl) (fun _ _ _ h => h) (by rfl) (by assumption) ?_ ?_
  rotate_left 1
  · (intro w9 hSw; (try dsimp only at hSw); go_simp); (first | done | with_reducible rfl)
  try simp only [Act.put, List.setIfInBounds_toArray, List.set_cons_zero, List.set_cons_succ]
  refine takeW (i := 12) (v := ?_) rfl (by kernel_rfl) (by kernel_rfl) (by kernel_rfl) (fun _ _ _ h => h) (by rfl) (by assumption) ?_ ?_
  rotate_left 1
  · (intro w9 hSw; (try dsimp only at hSw); go_simp); (first | done | with_reducible rfl)
  try simp only [Act.put, List.setIfInBounds_toArray, List.set_cons_zero, List.set_cons_succ]
  refine takeW (i := 13) (v := ?_) rfl (by kernel_rfl) (by kernel_rfl) (by kernel_rfl) (fun _ _ _ h => h) (by rfl) (by assumption) ?_ ?_
  rotate_left 1
  · (intro w9 hSw; (try dsimp only at hSw); go_simp); (first | done | with_reducible rfl)
  try simp only [Act.put, List.setIfInBounds_toArray, List.set_cons_zero, List.set_cons_succ]
  refine takeW (i := 14) (v := ?_) rfl (by kernel_rfl) (by kernel_rfl) (by kernel_rfl) (fun _ _ _ h => h) (by rfl) (by assumption) ?_ ?_
  rotate_left 1
  · (intro w9 hSw; (try dsimp only at hSw); go_simp); (first | done | with_reducible rfl)
  try simp only [Act.put, List.setIfInBounds_toArray, List.set_cons_zero, List.set_cons_succ]
  refine takeW (i := 15) (v := ?_) rfl (by kernel_rfl) (by kernel_rfl) (by kernel_rfl) (fun _ _ _ h => h) (by rfl) (by assumption) ?_ ?_
  rotate_left 1
  · (intro w9 hSw; (try dsimp only at hSw); go_simp); (first | done | with_reducible rfl)
  try simp only [Act.put, List.setIfInBounds_toArray, List.set_cons_zero, List.set_cons_succ]
  refine takeW (i := 16) (v := ?_) rfl (by kernel_rfl) (by kernel_rfl) (by kernel_rfl) (fun _ _ _ h => h) (by rfl) (by assumption) ?_ ?_
  rotate_left 1
  · (intro w9 hSw; (try dsimp only at hSw); go_simp); (first | done | with_reducible rfl)
  try simp only [Act.put, List.setIfInBounds_toArray, List.set_cons_zero, List.set_cons_succ]
  refine takeW (i := 17) (v := ?_) rfl (by kernel_rfl) (by kernel_rfl) (by kernel_rfl) (fun _ _ _ h => h) (by rfl) (by assumption) ?_ ?_
  rotate_left 1
  · (intro w9 hSw; (try dsimp only at hSw); go_simp); (first | done | with_reducible rfl)
  try simp only [Act.put, List.setIfInBounds_toArray, List.set_cons_zero, List.set_cons_succ]
  refine takeW (i := 18) (v := ?_) rfl (by kernel_rfl) (by kernel_rfl) (by kernel_rfl) (fun _ _ _ h => h) (by rfl) (by assumption) ?_ ?_
  rotate_left 1
  · (intro w9 hSw; (try dsimp only at hSw); go_simp); (first | done | with_reducible rfl)
  try simp only [Act.put, List.setIfInBounds_toArray, List.set_cons_zero, List.set_cons_succ]
  refine takeW (i := 19) (v := ?_) rfl (by kernel_rfl) (by kernel_rfl) (by kernel_rfl) (fun _ _ _ h => h) (by rfl) (by assumption) ?_ ?_
  rotate_left 1
  · (intro w9 hSw; (try dsimp only at hSw); go_simp); (first | done | with_reducible rfl)
  try simp only [Act.put, List.setIfInBounds_toArray, List.set_cons_zero, List.set_cons_succ]
  refine takeW (i := 20) (v := ?_) rfl (by kernel_rfl) (by kernel_rfl) (by kernel_rfl) (fun _ _ _ h => h) (by rfl) (by assumption) ?_ ?_
  rotate_left 1
  · (intro w9 hSw; (try dsimp only at hSw); go_simp); (first | done | with_reducible rfl)
  try simp only [Act.put, List.setIfInBounds_toArray, List.set_cons_zero, List.set_cons_succ]
  refine takeW (i := 21) (v := ?_) rfl (by kernel_rfl) (by kernel_rfl) (by kernel_rfl) (fun _ _ _ h => h) (by rfl) (by assumption) ?_ ?_
  rotate_left 1
  · (intro w9 hSw; (try dsimp only at hSw); go_simp); (first | done | with_reducible rfl)
  try simp only [Act.put, List.setIfInBounds_toArray, List.set_cons_zero, List.set_cons_succ]
  refine takeW (i := 22) (v := ?_) rfl (by kernel_rfl) (by kernel_rfl) (by kernel_rfl) (fun _ _ _ h => h) (by rfl) (by assumption) ?_ ?_
  rotate_left 1
  · (intro w9 hSw; (try dsimp only at hSw); go_simp); (first | done | with_reducible rfl)
  try simp only [Act.put, List.setIfInBounds_toArray, List.set_cons_zero, List.set_cons_succ]
  refine takeW (i := 23) (v := ?_) rfl (by kernel_rfl) (by kernel_rfl) (by kernel_rfl) (fun _ _ _ h => h) (by rfl) (by assumption) ?_ ?_
  rotate_left 1
  · (intro w9 hSw; (try dsimp only at hSw); go_simp); (first | done | with_reducible rfl)
  try simp only [Act.put, List.setIfInBounds_toArray, List.set_cons_zero, List.set_cons_succ]
  refine takeW (i := 24) (v := ?_) rfl (by kernel_rfl) (by kernel_rfl) (by kernel_rfl) (fun _ _ _ h => h) (by rfl) (by assumption) ?_ ?_
  rotate_left 1
  · (intro w9 hSw; (try dsimp only at hSw); go_simp); (first | done | with_reducible rfl)
  try simp only [Act.put, List.setIfInBounds_toArray, List.set_cons_zero, List.set_cons_succ]
  refine takeN (i := 25) rfl (by kernel_rfl) (by kernel_rfl) (by kernel_rfl) (fun _ _ _ h => h) (by rfl) (by assumption) ?_
  try simp only [Act.put, List.setIfInBounds_toArray, List.set_cons_zero, List.set_cons_succ]
  refine readyN (i := 26) (by kernel_rfl) rfl (by rfl) (by assumption) ?_
  try simp only [Act.put, List.setIfInBounds_toArray, List.set_cons_zero, List.set_cons_succ]
  refine takeN (i := 27) rfl (by kernel_rfl) (by kernel_rfl) (by kernel_rfl) (fun _ _ _ h => h) (by rfl) (by assumption) ?_
  try simp only [Act.put, List.setIfInBounds_toArray, List.set_cons_zero, List.set_cons_succ]
  refine takeN (i := 28) rfl (by kernel_rfl) (by kernel_rfl) (by kernel_rfl) (fun _ _ _ h => h) (by rfl) (by assumption) ?_
  try simp only [Act.put, List.setIfInBounds_toArray, List.set_cons_zero, List.set_cons_succ]
  refine takeN (i := 29) rfl (by kernel_rfl) (by kernel_rfl) (by kernel_rfl) (fun _ _ _ h => h) (by rfl) (by assumption) ?_
  try simp only [Act.put, List.setIfInBounds_toArray, List.set_cons_zero, List.set_cons_succ]
  refine takeN (i := 30) rfl (by kernel_rfl) (by kernel_rfl) (by kernel_rfl) (fun _ _ _ h => h) (by rfl) (by assumption) ?_
  try simp only [Act.put, List.setIfInBounds_toArray, List.set_cons_zero, List.set_cons_succ]
  refine takeN (i := 31) rfl (by kernel_rfl) (by kernel_rfl) (by kernel_rfl) (fun _ _ _ h => h) (by rfl) (by assumption) ?_
  try simp only [Act.put, List.setIfInBounds_toArray, List.set_cons_zero, List.set_cons_succ]
  refine takeW (i := 32) (v := ?_) rfl (by kernel_rfl) (by kernel_rfl) (by kernel_rfl) (fun _ _ _ h => h) (by rfl) (by assumption) ?_ ?_
  rotate_left 1
  · (intro w9 hSw; (try dsimp only at hSw); go_simp); (first | done | with_reducible rfl)
  try simp only [Act.put, List.setIfInBounds_toArray, List.set_cons_zero, List.set_cons_succ]
  refine takeW (i := 33) (v := ?_) rfl (by kernel_rfl) (by kernel_rfl) (by kernel_rfl) (fun _ _ _ h => h) (by rfl) (by assumption) ?_ ?_
  rotate_left 1
  · (intro w9 hSw; (try dsimp only at hSw); go_simp); (first | done | with_reducible rfl)
  try simp only [Act.put, List.setIfInBounds_toArray, List.set_cons_zero, List.set_cons_succ]
  refine wpAnyH_done (by kernel_rfl) ?_ _
  go_wp2_with fail
  clear HS hHeld
  have su2 := G0.size
  replace E : Below w.heap.size w u1.drew := E.trans (G0.mono E.size)
  replace F9 : Bk2 u1.drew (w1.heap.size) (.int .i64 0) (.int .i64 0) := F9.below G0 F9.lt
  replace hR : RS u1.drew (gl) xs := hR.below G0 hR.lt
  replace F12 : Bk2 u1.drew (w3.heap.size) (.int .i64 0) (.int .i64 0) := F12.below G0 F12.lt
  replace F14 : Bk2 u1.drew (w4.heap.size) (.int .i64 0) (.int .i64 0) := F14.below G0 F14.lt
  clear G0
  clear F9 F12 F14 hR
  (with_reducible refine (HP1.out _).mono ?_)
  rintro e w5 ⟨rfl, hb5⟩
  have sw5 := hb5.size
  replace E : Below w.heap.size w w5 := E.trans (hb5.mono E.size)
  clear hb5
  go_wp2_with fail
  obtain ⟨V6, hV6⟩ : ∃ V6 : World, V6 = (w5.alloc (.cells #[.int .i64 cp, .int .i64 ip] 24)) := ⟨_, rfl⟩
  have bV6 : Below w5.heap.size w5 V6 := by rw [hV6]; (repeat (first | with_reducible exact Below.refl _ _ | with_reducible refine Below.drew ?_ | with_reducible refine below_drewN ?_ _ | with_reducible refine Below.setCell ?_ (by first | (simp; done) | (simp; omega) | omega) _ | with_reducible refine Below.alloc ?_ (by first | (simp; done) | (simp; omega) | omega) _))
  have zV6 : w5.heap.size + 1 ≤ V6.heap.size := by rw [hV6]; simp
  have F18 : Bk2 V6 (w5.heap.size) (.int .i64 cp) (.int .i64 ip) := by rw [hV6]; exact (Bk2.newAt _ _ (by simp) _ _ _)
  rw [← hV6]
  clear hV6
  replace E : Below w.heap.size w V6 := E.trans (bV6.mono E.size)
  clear bV6
  (with_reducible refine (HP2.out _ (hT.below E (Nat.le_refl _))).mono ?_)
  rintro e w6 ⟨rfl, hb6⟩
  have sw6 := hb6.size
  replace E : Below w.heap.size w w6 := E.trans (hb6.mono E.size)
  replace F18 : Bk2 w6 (w5.heap.size) (.int .i64 cp) (.int .i64 ip) := F18.below hb6 F18.lt
  clear hb6
  go_upto_region 16 with fail
  obtain ⟨V7, hV7⟩ : ∃ V7 : World, V7 = (w6.alloc (.cells #[.int .i64 cp, .int .i64 ip] 24)) := ⟨_, rfl⟩
  have bV7 : Below w6.heap.size w6 V7 := by rw [hV7]; (repeat (first | with_reducible exact Below.refl _ _ | with_reducible refine Below.drew ?_ | with_reducible refine below_drewN ?_ _ | with_reducible refine Below.setCell ?_ (by first | (simp; done) | (simp; omega) | omega) _ | with_reducible refine Below.alloc ?_ (by first | (simp; done) | (simp; omega) | omega) _))
  have zV7 : w6.heap.size + 1 ≤ V7.heap.size := by rw [hV7]; simp
  have F21 : Bk2 V7 (w6.heap.size) (.int .i64 cp) (.int .i64 ip) := by rw [hV7]; exact (Bk2.newAt _ _ (by simp) _ _ _)
  rw [← hV7]
  clear hV7
  replace E : Below w.heap.size w V7 := E.trans (bV7.mono E.size)
  replace F18 : Bk2 V7 (w5.heap.size) (.int .i64 cp) (.int .i64 ip) := F18.below bV7 F18.lt
  clear bV7
  rcases HP3.out with ⟨hc0, hpl⟩ | ⟨hc1, hm, hk⟩
  · subst hc0
    have HPL := Lib.hid hpl
    clear hpl
    have t_F210 : V7.cell? ⟨w6.heap.size, 0, none⟩ = some ((.int .i64 0)) := F21.c0
    have t_F211 : V7.cell? ⟨w6.heap.size, 1, none⟩ = some ((.int .i64 ip)) := F21.c1
    go_wp2_with fail
    clear t_F210 t_F211
    (with_reducible refine (HPL.out _ (hT.below E (Nat.le_refl _))).mono ?_)
    rintro e w7 ⟨rfl, hb7⟩
    have sw7 := hb7.size
    replace E : Below w.heap.size w w7 := E.trans (hb7.mono E.size)
    replace F18 : Bk2 w7 (w5.heap.size) (.int .i64 0) (.int .i64 ip) := F18.below hb7 F18.lt
    replace F21 : Bk2 w7 (w6.heap.size) (.int .i64 0) (.int .i64 ip) := F21.below hb7 F21.lt
    clear hb7
    go_wp2_with fail
    (with_reducible refine (HO1.out _).mono ?_)
    rintro e w8 ⟨rfl, hb8⟩
    have sw8 := hb8.size
    replace E : Below w.heap.size w w8 := E.trans (hb8.mono E.size)
    replace F18 : Bk2 w8 (w5.heap.size) (.int .i64 0) (.int .i64 ip) := F18.below hb8 F18.lt
    replace F21 : Bk2 w8 (w6.heap.size) (.int .i64 0) (.int .i64 ip) := F21.below hb8 F21.lt
    clear hb8
    go_wp2_with fail
    obtain ⟨V10, hV10⟩ : ∃ V10 : World, V10 = (w8.alloc (.cells #[.int .i64 co, .int .i64 io] 24)) := ⟨_, rfl⟩
    have bV10 : Below w8.heap.size w8 V10 := by rw [hV10]; (repeat (first | with_reducible exact Below.refl _ _ | with_reducible refine Below.drew ?_ | with_reducible refine below_drewN ?_ _ | with_reducible refine Below.setCell ?_ (by first | (simp; done) | (simp; omega) | omega) _ | with_reducible refine Below.alloc ?_ (by first | (simp; done) | (simp; omega) | omega) _))
    have zV10 : w8.heap.size + 1 ≤ V10.heap.size := by rw [hV10]; simp
    have F23 : Bk2 V10 (w8.heap.size) (.int .i64 co) (.int .i64 io) := by rw [hV10]; exact (Bk2.newAt _ _ (by simp) _ _ _)
    rw [← hV10]
    clear hV10
    replace E : Below w.heap.size w V10 := E.trans (bV10.mono E.size)
    replace F18 : Bk2 V10 (w5.heap.size) (.int .i64 0) (.int .i64 ip) := F18.below bV10 F18.lt
    replace F21 : Bk2 V10 (w6.heap.size) (.int .i64 0) (.int .i64 ip) := F21.below bV10 F21.lt
    clear bV10
    (with_reducible refine (HO2.out _ (hT.below E (Nat.le_refl _))).mono ?_)
    rintro e w9 ⟨rfl, hb9⟩
    have sw9 := hb9.size
    replace E : Below w.heap.size w w9 := E.trans (hb9.mono E.size)
    replace F18 : Bk2 w9 (w5.heap.size) (.int .i64 0) (.int .i64 ip) := F18.below hb9 F18.lt
    replace F21 : Bk2 w9 (w6.heap.size) (.int .i64 0) (.int .i64 ip) := F21.below hb9 F21.lt
    replace F23 : Bk2 w9 (w8.heap.size) (.int .i64 co) (.int .i64 io) := F23.below hb9 F23.lt
    clear hb9
    go_upto_region 20 with fail
    obtain ⟨V11, hV11⟩ : ∃ V11 : World, V11 = (w9.alloc (.cells #[.int .i64 co, .int .i64 io] 24)) := ⟨_, rfl⟩
    have bV11 : Below w9.heap.size w9 V11 := by rw [hV11]; (repeat (first | with_reducible exact Below.refl _ _ | with_reducible refine Below.drew ?_ | with_reducible refine below_drewN ?_ _ | with_reducible refine Below.setCell ?_ (by first | (simp; done) | (simp; omega) | omega) _ | with_reducible refine Below.alloc ?_ (by first | (simp; done) | (simp; omega) | omega) _))
    have zV11 : w9.heap.size + 1 ≤ V11.heap.size := by rw [hV11]; simp
    have F25 : Bk2 V11 (w9.heap.size) (.int .i64 co) (.int .i64 io) := by rw [hV11]; exact (Bk2.newAt _ _ (by simp) _ _ _)
    rw [← hV11]
    clear hV11
    replace E : Below w.heap.size w V11 := E.trans (bV11.mono E.size)
    replace F18 : Bk2 V11 (w5.heap.size) (.int .i64 0) (.int .i64 ip) := F18.below bV11 F18.lt
    replace F21 : Bk2 V11 (w6.heap.size) (.int .i64 0) (.int .i64 ip) := F21.below bV11 F21.lt
    replace F23 : Bk2 V11 (w8.heap.size) (.int .i64 co) (.int .i64 io) := F23.below bV11 F23.lt
    clear bV11
    have t_F180 : V11.cell? ⟨w5.heap.size, 0, none⟩ = some ((.int .i64 0)) := F18.c0
    have t_F181 : V11.cell? ⟨w5.heap.size, 1, none⟩ = some ((.int .i64 ip)) := F18.c1
    have t_F210 : V11.cell? ⟨w6.heap.size, 0, none⟩ = some ((.int .i64 0)) := F21.c0
    have t_F211 : V11.cell? ⟨w6.heap.size, 1, none⟩ = some ((.int .i64 ip)) := F21.c1
    have t_F230 : V11.cell? ⟨w8.heap.size, 0, none⟩ = some ((.int .i64 co)) := F23.c0
    have t_F231 : V11.cell? ⟨w8.heap.size, 1, none⟩ = some ((.int .i64 io)) := F23.c1
    have t_F250 : V11.cell? ⟨w9.heap.size, 0, none⟩ = some ((.int .i64 co)) := F25.c0
    have t_F251 : V11.cell? ⟨w9.heap.size, 1, none⟩ = some ((.int .i64 io)) := F25.c1
    go_wp2_with fail
    clear t_F180 t_F181 t_F210 t_F211 t_F230 t_F231 t_F250 t_F251
    go_ret
    exact ⟨by first | rfl | (simp; done), E⟩
  · subst hm
    subst hk
    have d7 : (cp == 0) = false := beq_eq_false_iff_ne.2 (by omega)
    have t_F210 : V7.cell? ⟨w6.heap.size, 0, none⟩ = some ((.int .i64 cp)) := F21.c0
    have t_F211 : V7.cell? ⟨w6.heap.size, 1, none⟩ = some ((.int .i64 ip)) := F21.c1
    go_wp2_with fail
    clear t_F210 t_F211
    clear d7
    (with_reducible refine (HO1.out _).mono ?_)
    rintro e w8 ⟨rfl, hb8⟩
    have sw8 := hb8.size
    replace E : Below w.heap.size w w8 := E.trans (hb8.mono E.size)
    replace F18 : Bk2 w8 (w5.heap.size) (.int .i64 cp) (.int .i64 ip) := F18.below hb8 F18.lt
    replace F21 : Bk2 w8 (w6.heap.size) (.int .i64 cp) (.int .i64 ip) := F21.below hb8 F21.lt
    clear hb8
    go_wp2_with fail
    obtain ⟨V9, hV9⟩ : ∃ V9 : World, V9 = (w8.alloc (.cells #[.int .i64 co, .int .i64 io] 24)) := ⟨_, rfl⟩
    have bV9 : Below w8.heap.size w8 V9 := by rw [hV9]; (repeat (first | with_reducible exact Below.refl _ _ | with_reducible refine Below.drew ?_ | with_reducible refine below_drewN ?_ _ | with_reducible refine Below.setCell ?_ (by first | (simp; done) | (simp; omega) | omega) _ | with_reducible refine Below.alloc ?_ (by first | (simp; done) | (simp; omega) | omega) _))
    have zV9 : w8.heap.size + 1 ≤ V9.heap.size := by rw [hV9]; simp
    have F23 : Bk2 V9 (w8.heap.size) (.int .i64 co) (.int .i64 io) := by rw [hV9]; exact (Bk2.newAt _ _ (by simp) _ _ _)
    rw [← hV9]
    clear hV9
    replace E : Below w.heap.size w V9 := E.trans (bV9.mono E.size)
    replace F18 : Bk2 V9 (w5.heap.size) (.int .i64 cp) (.int .i64 ip) := F18.below bV9 F18.lt
    replace F21 : Bk2 V9 (w6.heap.size) (.int .i64 cp) (.int .i64 ip) := F21.below bV9 F21.lt
    clear bV9
    (with_reducible refine (HO2.out _ (hT.below E (Nat.le_refl _))).mono ?_)
    rintro e w9 ⟨rfl, hb9⟩
    have sw9 := hb9.size
    replace E : Below w.heap.size w w9 := E.trans (hb9.mono E.size)
    replace F18 : Bk2 w9 (w5.heap.size) (.int .i64 cp) (.int .i64 ip) := F18.below hb9 F18.lt
    replace F21 : Bk2 w9 (w6.heap.size) (.int .i64 cp) (.int .i64 ip) := F21.below hb9 F21.lt
    replace F23 : Bk2 w9 (w8.heap.size) (.int .i64 co) (.int .i64 io) := F23.below hb9 F23.lt
    clear hb9
    go_upto_region 20 with fail
    obtain ⟨V10, hV10⟩ : ∃ V10 : World, V10 = (w9.alloc (.cells #[.int .i64 co, .int .i64 io] 24)) := ⟨_, rfl⟩
    have bV10 : Below w9.heap.size w9 V10 := by rw [hV10]; (repeat (first | with_reducible exact Below.refl _ _ | with_reducible refine Below.drew ?_ | with_reducible refine below_drewN ?_ _ | with_reducible refine Below.setCell ?_ (by first | (simp; done) | (simp; omega) | omega) _ | with_reducible refine Below.alloc ?_ (by first | (simp; done) | (simp; omega) | omega) _))
    have zV10 : w9.heap.size + 1 ≤ V10.heap.size := by rw [hV10]; simp
    have F25 : Bk2 V10 (w9.heap.size) (.int .i64 co) (.int .i64 io) := by rw [hV10]; exact (Bk2.newAt _ _ (by simp) _ _ _)
    rw [← hV10]
    clear hV10
    replace E : Below w.heap.size w V10 := E.trans (bV10.mono E.size)
    replace F18 : Bk2 V10 (w5.heap.size) (.int .i64 cp) (.int .i64 ip) := F18.below bV10 F18.lt
    replace F21 : Bk2 V10 (w6.heap.size) (.int .i64 cp) (.int .i64 ip) := F21.below bV10 F21.lt
    replace F23 : Bk2 V10 (w8.heap.size) (.int .i64 co) (.int .i64 io) := F23.below bV10 F23.lt
    clear bV10
    have t_F180 : V10.cell? ⟨w5.heap.size, 0, none⟩ = some ((.int .i64 cp)) := F18.c0
    have t_F181 : V10.cell? ⟨w5.heap.size, 1, none⟩ = some ((.int .i64 ip)) := F18.c1
    have t_F210 : V10.cell? ⟨w6.heap.size, 0, none⟩ = some ((.int .i64 cp)) := F21.c0
    have t_F211 : V10.cell? ⟨w6.heap.size, 1, none⟩ = some ((.int .i64 ip)) := F21.c1
    have t_F230 : V10.cell? ⟨w8.heap.size, 0, none⟩ = some ((.int .i64 co)) := F23.c0
    have t_F231 : V10.cell? ⟨w8.heap.size, 1, none⟩ = some ((.int .i64 io)) := F23.c1
    have t_F250 : V10.cell? ⟨w9.heap.size, 0, none⟩ = some ((.int .i64 co)) := F25.c0
    have t_F251 : V10.cell? ⟨w9.heap.size, 1, none⟩ = some ((.int .i64 io)) := F25.c1
    go_wp2_with fail
    clear t_F180 t_F181 t_F210 t_F211 t_F230 t_F231 t_F250 t_F251
    go_ret
    exact ⟨by first | rfl | (simp; done), E⟩
set_option maxHeartbeats 8000000 in
theorem tells_out (w : World) (s : ByteArray) (a l q m kk cp ip o co io : Int) (hsz : s.size ≤ 1048576) (hT : Tabs w) (hs : s.size ≤ 16000) (HG : Hid (chkFrom s s.size 0 = none)) (hl : l < 1 ∨ ((nl s 0 s.size : Nat) : Int) + 1 < l) (hlin : Hid (∀ w, Calls Tryd.prog 9 #[.string s, .int .i64 l] w fun e w2 => e = .returned (.tuple #[.string ⟨#[]⟩, flt 4 (-2)]) ∧ Below w.heap.size w w2)) (HP : Hid (PosAll s a m kk cp ip)) (HO : Hid (OffAll s l q o co io)) :
    Calls Tryd.prog 3 #[.string s, .int .i64 a, .int .i64 l, .int .i64 q] w fun e w' => e = .returned (.bool true) ∧ Below w.heap.size w w' := by
  have hz : s.size ≤ 9223372036854775807 := by omega
  obtain ⟨hp1, hp2, hp3⟩ := HP.out
  have HP1 := Lib.hid hp1
  have HP2 := Lib.hid hp2
  have HP3 := Lib.hid hp3
  obtain ⟨ho1, ho2⟩ := HO.out
  have HO1 := Lib.hid ho1
  have HO2 := Lib.hid ho2
  clear hp1 hp2 hp3 ho1 ho2 HP HO
  obtain ⟨T, hTT⟩ : ∃ T, T = nl s 0 s.size := ⟨_, rfl⟩
  have HTT := Lib.hid hTT
  have hlines := Lib.hid (show ∀ w, Calls Tryd.prog 8 #[.string s] w fun e w2 => e = .returned (.tuple #[.int .i64 ((T : Int) + 1), flt 0 0]) ∧ Below w.heap.size w w2 from fun w => by rw [hTT]; exact lines_ok s w hs HG)
  have tle : T ≤ 16000 := by have := nl_le s 0 s.size; omega
  rw [← hTT] at hl
  clear hTT
  by_cases h1 : l < 1
  · have d2 : decide ((1 : Int) ≤ l) = false := decide_eq_false (by omega)
    clear hl h1
    have E : Below w.heap.size w w := Below.refl _ _
    go_enter Tryd.func3, Tryd.ntmps3
    go_wp2_with fail
    (with_reducible refine (places_any _).mono ?_)
    rintro e w0 ⟨rfl, hb0⟩
    have sw0 := hb0.size
    replace E : Below w.heap.size w w0 := E.trans (hb0.mono E.size)
    clear hb0
    go_wp2_with fail
    (with_reducible refine (sf_good s _ hs HG (hT.below E (Nat.le_refl _))).mono ?_)
    rintro e w1 ⟨rfl, hb1⟩
    have sw1 := hb1.size
    replace E : Below w.heap.size w w1 := E.trans (hb1.mono E.size)
    clear hb1
    go_wp2_with fail
    obtain ⟨V1, hV1⟩ : ∃ V1 : World, V1 = (w1.alloc (.cells #[.int .i64 0, .int .i64 0] 24)) := ⟨_, rfl⟩
    have bV1 : Below w1.heap.size w1 V1 := by rw [hV1]; (repeat (first | with_reducible exact Below.refl _ _ | with_reducible refine Below.drew ?_ | with_reducible refine below_drewN ?_ _ | with_reducible refine Below.setCell ?_ (by first | (simp; done) | (simp; omega) | omega) _ | with_reducible refine Below.alloc ?_ (by first | (simp; done) | (simp; omega) | omega) _))
    have zV1 : w1.heap.size + 1 ≤ V1.heap.size := by rw [hV1]; simp
    have F9 : Bk2 V1 (w1.heap.size) (.int .i64 0) (.int .i64 0) := by rw [hV1]; exact (Bk2.newAt _ _ (by simp) _ _ _)
    rw [← hV1]
    clear hV1
    replace E : Below w.heap.size w V1 := E.trans (bV1.mono E.size)
    clear bV1
    refine (lines_any s _ hsz).mono ?_
    rintro e w2 ⟨gl, cc, xs, rfl, hR, hxc, hcm, HLn, HLx, hgl, hb2⟩
    have HLn2 := Lib.hid (HLn.out.trans (by rw [← HTT.out] : nl s 0 s.size + 1 = T + 1))
    rw [HLn2.out]
    rw [HLn2.out] at hxc
    have sw2 := hb2.size
    replace E : Below w.heap.size w w2 := E.trans (hb2.mono E.size)
    replace F9 : Bk2 w2 (w1.heap.size) (.int .i64 0) (.int .i64 0) := F9.below hb2 F9.lt
    clear hb2
    go_wp2_with fail
    (with_reducible refine (hlines.out _).mono ?_)
    rintro e w3 ⟨rfl, hb3⟩
    have sw3 := hb3.size
    replace E : Below w.heap.size w w3 := E.trans (hb3.mono E.size)
    replace F9 : Bk2 w3 (w1.heap.size) (.int .i64 0) (.int .i64 0) := F9.below hb3 F9.lt
    replace hR : RS w3 (gl) xs := hR.below hb3 hR.lt
    clear hb3
    go_wp2_with fail
    obtain ⟨V3, hV3⟩ : ∃ V3 : World, V3 = (w3.alloc (.cells #[.int .i64 0, .int .i64 0] 24)) := ⟨_, rfl⟩
    have bV3 : Below w3.heap.size w3 V3 := by rw [hV3]; (repeat (first | with_reducible exact Below.refl _ _ | with_reducible refine Below.drew ?_ | with_reducible refine below_drewN ?_ _ | with_reducible refine Below.setCell ?_ (by first | (simp; done) | (simp; omega) | omega) _ | with_reducible refine Below.alloc ?_ (by first | (simp; done) | (simp; omega) | omega) _))
    have zV3 : w3.heap.size + 1 ≤ V3.heap.size := by rw [hV3]; simp
    have F12 : Bk2 V3 (w3.heap.size) (.int .i64 0) (.int .i64 0) := by rw [hV3]; exact (Bk2.newAt _ _ (by simp) _ _ _)
    rw [← hV3]
    clear hV3
    replace E : Below w.heap.size w V3 := E.trans (bV3.mono E.size)
    replace F9 : Bk2 V3 (w1.heap.size) (.int .i64 0) (.int .i64 0) := F9.below bV3 F9.lt
    replace hR : RS V3 (gl) xs := hR.below bV3 hR.lt
    clear bV3
    (with_reducible refine (hlin.out _).mono ?_)
    rintro e w4 ⟨rfl, hb4⟩
    have sw4 := hb4.size
    replace E : Below w.heap.size w w4 := E.trans (hb4.mono E.size)
    replace F9 : Bk2 w4 (w1.heap.size) (.int .i64 0) (.int .i64 0) := F9.below hb4 F9.lt
    replace hR : RS w4 (gl) xs := hR.below hb4 hR.lt
    replace F12 : Bk2 w4 (w3.heap.size) (.int .i64 0) (.int .i64 0) := F12.below hb4 F12.lt
    clear hb4
    go_upto_region 7 with fail
    obtain ⟨V4, hV4⟩ : ∃ V4 : World, V4 = (w4.alloc (.cells #[.int .i64 4, .int .i64 (-2)] 24)) := ⟨_, rfl⟩
    have bV4 : Below w4.heap.size w4 V4 := by rw [hV4]; (repeat (first | with_reducible exact Below.refl _ _ | with_reducible refine Below.drew ?_ | with_reducible refine below_drewN ?_ _ | with_reducible refine Below.setCell ?_ (by first | (simp; done) | (simp; omega) | omega) _ | with_reducible refine Below.alloc ?_ (by first | (simp; done) | (simp; omega) | omega) _))
    have zV4 : w4.heap.size + 1 ≤ V4.heap.size := by rw [hV4]; simp
    have F14 : Bk2 V4 (w4.heap.size) (.int .i64 4) (.int .i64 (-2)) := by rw [hV4]; exact (Bk2.newAt _ _ (by simp) _ _ _)
    rw [← hV4]
    clear hV4
    replace E : Below w.heap.size w V4 := E.trans (bV4.mono E.size)
    replace F9 : Bk2 V4 (w1.heap.size) (.int .i64 0) (.int .i64 0) := F9.below bV4 F9.lt
    replace hR : RS V4 (gl) xs := hR.below bV4 hR.lt
    replace F12 : Bk2 V4 (w3.heap.size) (.int .i64 0) (.int .i64 0) := F12.below bV4 F12.lt
    clear bV4
    have G0 : Below V4.heap.size V4 V4.drew := Below.drew (Below.refl _ _)
    have HS := Lib.hid (fun (u : World) (hu : Below V4.heap.size V4 u) => (⟨hu, (F9.below hu F9.lt).c0, (F9.below hu F9.lt).c1, (F12.below hu F12.lt).c0, (F12.below hu F12.lt).c1, (F14.below hu F14.lt).c0, (F14.below hu F14.lt).c1⟩ : Below V4.heap.size V4 u ∧ u.cell? ⟨w1.heap.size, 0, none⟩ = some (.int .i64 0) ∧ u.cell? ⟨w1.heap.size, 1, none⟩ = some (.int .i64 0) ∧ u.cell? ⟨w3.heap.size, 0, none⟩ = some (.int .i64 0) ∧ u.cell? ⟨w3.heap.size, 1, none⟩ = some (.int .i64 0) ∧ u.cell? ⟨w4.heap.size, 0, none⟩ = some (.int .i64 4) ∧ u.cell? ⟨w4.heap.size, 1, none⟩ = some (.int .i64 (-2))))
    refine wp_region_held_drew (S := (fun u => Below V4.heap.size V4 u ∧ u.cell? ⟨w1.heap.size, 0, none⟩ = some (.int .i64 0) ∧ u.cell? ⟨w1.heap.size, 1, none⟩ = some (.int .i64 0) ∧ u.cell? ⟨w3.heap.size, 0, none⟩ = some (.int .i64 0) ∧ u.cell? ⟨w3.heap.size, 1, none⟩ = some (.int .i64 0) ∧ u.cell? ⟨w4.heap.size, 0, none⟩ = some (.int .i64 4) ∧ u.cell? ⟨w4.heap.size, 1, none⟩ = some (.int .i64 (-2)))) (by kernel_rfl) (HS.out _ G0) (fun hHeld => ?_)
    refine takeW (i := 0) (v := ?_) rfl (by kernel_rfl) (by kernel_rfl) (by kernel_rfl) (fun _ _ _ h => h) (by rfl) (by assumption) ?_ ?_
    rotate_left 1
    · (intro w9 hSw; (try dsimp only at hSw); go_simp); (first | done | with_reducible rfl)
    try simp only [Act.put, List.setIfInBounds_toArray, List.set_cons_zero, List.set_cons_succ]
    refine takeW (i := 2) (v := ?_) rfl (by kernel_rfl) (by kernel_rfl) (by kernel_rfl) (fun _ _ _ h => h) (by rfl) (by assumption) ?_ ?_
    rotate_left 1
    · (intro w9 hSw; (try dsimp only at hSw); go_simp); (first | done | with_reducible rfl)
    try simp only [Act.put, List.setIfInBounds_toArray, List.set_cons_zero, List.set_cons_succ]
    refine readyW (i := 1) (by kernel_rfl) rfl (by rfl) (fun K hK => ?_)
    go_simp
    (go_at_call 10; (with_reducible refine (check_good s _ hs HG).mono ?_); rintro e u1 ⟨rfl, hq1⟩; have B1 : Below V4.heap.size V4 u1 := bnext G0 hq1)
    go_wp2_with fail
    refine hK.out _ _ (HS.out _ B1) (fun hHeld1 => ?_)
    clear hK K
    try simp only [Act.put, List.setIfInBounds_toArray, List.set_cons_zero, List.set_cons_succ]
    refine takeW (i := 3) (v := ?_) rfl (by kernel_rfl) (by kernel_rfl) (by kernel_rfl) (fun _ _ _ h => h) (by rfl) (by assumption) ?_ ?_
    rotate_left 1
    · (intro w9 hSw; (try dsimp only at hSw); go_simp); (first | done | with_reducible rfl)
    try simp only [Act.put, List.setIfInBounds_toArray, List.set_cons_zero, List.set_cons_succ]
    refine takeW (i := 4) (v := ?_) rfl (by kernel_rfl) (by kernel_rfl) (by kernel_rfl) (fun _ _ _ h => h) (by rfl) (by assumption) ?_ ?_
    rotate_left 1
    · (intro w9 hSw; (try dsimp only at hSw); go_simp); (first | done | with_reducible rfl)
    try simp only [Act.put, List.setIfInBounds_toArray, List.set_cons_zero, List.set_cons_succ]
    refine takeW (i := 5) (v := ?_) rfl (by kernel_rfl) (by kernel_rfl) (by kernel_rfl) (fun _ _ _ h => h) (by rfl) (by assumption) ?_ ?_
    rotate_left 1
    · (intro w9 hSw; (try dsimp only at hSw); go_simp); (first | done | with_reducible rfl)
    try simp only [Act.put, List.setIfInBounds_toArray, List.set_cons_zero, List.set_cons_succ]
    refine takeW (i := 6) (v := ?_) rfl (by kernel_rfl) (by kernel_rfl) (by kernel_rfl) (fun _ _ _ h => h) (by rfl) (by assumption) ?_ ?_
    rotate_left 1
    · (intro w9 hSw; (try dsimp only at hSw); go_simp); (first | done | with_reducible rfl)
    try simp only [Act.put, List.setIfInBounds_toArray, List.set_cons_zero, List.set_cons_succ]
    refine takeW (i := 7) (v := ?_) rfl (by kernel_rfl) (by kernel_rfl) (by kernel_rfl) (fun _ _ _ h => h) (by rfl) (by assumption) ?_ ?_
    rotate_left 1
    · (intro w9 hSw; (try dsimp only at hSw); go_simp); (first | done | with_reducible rfl)
    try simp only [Act.put, List.setIfInBounds_toArray, List.set_cons_zero, List.set_cons_succ]
    refine takeW (i := 8) (v := ?_) rfl (by kernel_rfl) (by kernel_rfl) (by kernel_rfl) (fun _ _ _ h => h) (by rfl) (by assumption) ?_ ?_
    rotate_left 1
    · (intro w9 hSw; (try dsimp only at hSw); go_simp); (first | done | with_reducible rfl)
    try simp only [Act.put, List.setIfInBounds_toArray, List.set_cons_zero, List.set_cons_succ]
    refine takeW (i := 9) (v := ?_) rfl (by kernel_rfl) (by kernel_rfl) (by kernel_rfl) (fun _ _ _ h => h) (by rfl) (by assumption) ?_ ?_
    rotate_left 1
    · (intro w9 hSw; (try dsimp only at hSw); go_simp); (first | done | with_reducible rfl)
    try simp only [Act.put, List.setIfInBounds_toArray, List.set_cons_zero, List.set_cons_succ]
    refine takeW (i := 10) (v := ?_) rfl (by kernel_rfl) (by kernel_rfl) (by kernel_rfl) (fun _ _ _ h => h) (by rfl) (by assumption) ?_ ?_
    rotate_left 1
    · (intro w9 hSw; (try dsimp only at hSw); go_simp); (first | done | with_reducible rfl)
    try simp only [Act.put, List.setIfInBounds_toArray, List.set_cons_zero, List.set_cons_succ]
    refine takeW (i := 11) (v := ?_) rfl (by kernel_rfl) (by kernel_rfl) (by kernel_rfl) (fun _ _ _ h => h) (by rfl) (by assumption) ?_ ?_
    rotate_left 1
    · (intro w9 hSw; (try dsimp only at hSw); go_simp); (first | done | with_reducible rfl)
    try simp only [Act.put, List.setIfInBounds_toArray, List.set_cons_zero, List.set_cons_succ]
    refine takeW (i := 12) (v := ?_) rfl (by kernel_rfl) (by kernel_rfl) (by kernel_rfl) (fun _ _ _ h => h) (by rfl) (by assumption) ?_ ?_
    rotate_left 1
    · (intro w9 hSw; (try dsimp only at hSw); go_simp); (first | done | with_reducible rfl)
    try simp only [Act.put, List.setIfInBounds_toArray, List.set_cons_zero, List.set_cons_succ]
    refine takeW (i := 13) (v := ?_) rfl (by kernel_rfl) (by kernel_rfl) (by kernel_rfl) (fun _ _ _ h => h) (by rfl) (by assumption) ?_ ?_
    rotate_left 1
    · (intro w9 hSw; (try dsimp only at hSw); go_simp); (first | done | with_reducible rfl)
    try simp only [Act.put, List.setIfInBounds_toArray, List.set_cons_zero, List.set_cons_succ]
    refine takeN (i := 14) rfl (by kernel_rfl) (by kernel_rfl) (by kernel_rfl) (fun _ _ _ h => h) (by rfl) (by assumption) ?_
    try simp only [Act.put, List.setIfInBounds_toArray, List.set_cons_zero, List.set_cons_succ]
    refine takeN (i := 15) rfl (by kernel_rfl) (by kernel_rfl) (by kernel_rfl) (fun _ _ _ h => h) (by rfl) (by assumption) ?_
    try simp only [Act.put, List.setIfInBounds_toArray, List.set_cons_zero, List.set_cons_succ]
    refine takeN (i := 16) rfl (by kernel_rfl) (by kernel_rfl) (by kernel_rfl) (fun _ _ _ h => h) (by rfl) (by assumption) ?_
    try simp only [Act.put, List.setIfInBounds_toArray, List.set_cons_zero, List.set_cons_succ]
    refine takeN (i := 17) rfl (by kernel_rfl) (by kernel_rfl) (by kernel_rfl) (fun _ _ _ h => h) (by rfl) (by assumption) ?_
    try simp only [Act.put, List.setIfInBounds_toArray, List.set_cons_zero, List.set_cons_succ]
    refine takeN (i := 18) rfl (by kernel_rfl) (by kernel_rfl) (by kernel_rfl) (fun _ _ _ h => h) (by rfl) (by assumption) ?_
    try simp only [Act.put, List.setIfInBounds_toArray, List.set_cons_zero, List.set_cons_succ]
    refine takeN (i := 19) rfl (by kernel_rfl) (by kernel_rfl) (by kernel_rfl) (fun _ _ _ h => h) (by rfl) (by assumption) ?_
    try simp only [Act.put, List.setIfInBounds_toArray, List.set_cons_zero, List.set_cons_succ]
    refine takeN (i := 20) rfl (by kernel_rfl) (by kernel_rfl) (by kernel_rfl) (fun _ _ _ h => h) (by rfl) (by assumption) ?_
    try simp only [Act.put, List.setIfInBounds_toArray, List.set_cons_zero, List.set_cons_succ]
    refine takeN (i := 21) rfl (by kernel_rfl) (by kernel_rfl) (by kernel_rfl) (fun _ _ _ h => h) (by rfl) (by assumption) ?_
    try simp only [Act.put, List.setIfInBounds_toArray, List.set_cons_zero, List.set_cons_succ]
    refine takeN (i := 22) rfl (by kernel_rfl) (by kernel_rfl) (by kernel_rfl) (fun _ _ _ h => h) (by rfl) (by assumption) ?_
    try simp only [Act.put, List.setIfInBounds_toArray, List.set_cons_zero, List.set_cons_succ]
    refine takeN (i := 23) rfl (by kernel_rfl) (by kernel_rfl) (by kernel_rfl) (fun _ _ _ h => h) (by rfl) (by assumption) ?_
    try simp only [Act.put, List.setIfInBounds_toArray, List.set_cons_zero, List.set_cons_succ]
    refine takeN (i := 24) rfl (by kernel_rfl) (by kernel_rfl) (by kernel_rfl) (fun _ _ _ h => h) (by rfl) (by assumption) ?_
    try simp only [Act.put, List.setIfInBounds_toArray, List.set_cons_zero, List.set_cons_succ]
    refine takeW (i := 25) (v := ?_) rfl (by kernel_rfl) (by kernel_rfl) (by kernel_rfl) (fun _ _ _ h => h) (by rfl) (by assumption) ?_ ?_
    rotate_left 1
    · (intro w9 hSw; (try dsimp only at hSw); go_simp); (first | done | with_reducible rfl)
    try simp only [Act.put, List.setIfInBounds_toArray, List.set_cons_zero, List.set_cons_succ]
    refine takeW (i := 26) (v := ?_) rfl (by kernel_rfl) (by kernel_rfl) (by kernel_rfl) (fun _ _ _ h => h) (by rfl) (by assumption) ?_ ?_
    rotate_left 1
    · (intro w9 hSw; (try dsimp only at hSw); go_simp); (first | done | with_reducible rfl)
    try simp only [Act.put, List.setIfInBounds_toArray, List.set_cons_zero, List.set_cons_succ]
    refine wpAnyH_done (by kernel_rfl) ?_ _
    go_upto_region 9 with fail
    clear HS G0 hHeld hHeld1 hq1
    have su1 := B1.size
    replace E : Below w.heap.size w u1 := E.trans (B1.mono E.size)
    replace F9 : Bk2 u1 (w1.heap.size) (.int .i64 0) (.int .i64 0) := F9.below B1 F9.lt
    replace hR : RS u1 (gl) xs := hR.below B1 hR.lt
    replace F12 : Bk2 u1 (w3.heap.size) (.int .i64 0) (.int .i64 0) := F12.below B1 F12.lt
    replace F14 : Bk2 u1 (w4.heap.size) (.int .i64 4) (.int .i64 (-2)) := F14.below B1 F14.lt
    clear B1
    have t_F90 : u1.cell? ⟨w1.heap.size, 0, none⟩ = some ((.int .i64 0)) := F9.c0
    have t_F91 : u1.cell? ⟨w1.heap.size, 1, none⟩ = some ((.int .i64 0)) := F9.c1
    go_upto_region 11 with fail
    clear t_F90 t_F91
    have G0 : Below u1.heap.size u1 u1.drew := Below.drew (Below.refl _ _)
    have HS := Lib.hid (fun (u : World) (hu : Below u1.heap.size u1 u) => (⟨hu, (F14.below hu F14.lt).c0, (F14.below hu F14.lt).c1⟩ : Below u1.heap.size u1 u ∧ u.cell? ⟨w4.heap.size, 0, none⟩ = some (.int .i64 4) ∧ u.cell? ⟨w4.heap.size, 1, none⟩ = some (.int .i64 (-2))))
    refine wp_region_held_drew (S := (fun u => Below u1.heap.size u1 u ∧ u.cell? ⟨w4.heap.size, 0, none⟩ = some (.int .i64 4) ∧ u.cell? ⟨w4.heap.size, 1, none⟩ = some (.int .i64 (-2)))) (by kernel_rfl) (HS.out _ G0) (fun hHeld => ?_)
    refine takeW (i := 0) (v := ?_) rfl (by kernel_rfl) (by kernel_rfl) (by kernel_rfl) (fun _ _ _ h => h) (by rfl) (by assumption) ?_ ?_
    rotate_left 1
    · (intro w9 hSw; (try dsimp only at hSw); go_simp); (first | done | with_reducible rfl)
    try simp only [Act.put, List.setIfInBounds_toArray, List.set_cons_zero, List.set_cons_succ]
    refine takeW (i := 1) (v := ?_) rfl (by kernel_rfl) (by kernel_rfl) (by kernel_rfl) (fun _ _ _ h => h) (by rfl) (by assumption) ?_ ?_
    rotate_left 1
    · (intro w9 hSw; (try dsimp only at hSw); go_simp); (first | done | with_reducible rfl)
    try simp only [Act.put, List.setIfInBounds_toArray, List.set_cons_zero, List.set_cons_succ]
    refine takeW (i := 2) (v := ?_) rfl (by kernel_rfl) (by kernel_rfl) (by kernel_rfl) (fun _ _ _ h => h) (by rfl) (by assumption) ?_ ?_
    rotate_left 1
    · (intro w9 hSw; (try dsimp only at hSw); go_simp); (first | done | with_reducible rfl)
    try simp only [Act.put, List.setIfInBounds_toArray, List.set_cons_zero, List.set_cons_succ]
    refine takeW (i := 3) (v := ?_) rfl (by kernel_rfl) (by kernel_rfl) (by kernel_rfl) (fun _ _ _ h => h) (by rfl) (by assumption) ?_ ?_
    rotate_left 1
    · (intro w9 hSw; (try dsimp only at hSw); go_simp); (first | done | with_reducible rfl)
    try simp only [Act.put, List.setIfInBounds_toArray, List.set_cons_zero, List.set_cons_succ]
    refine takeW (i := 4) (v := ?_) rfl (by kernel_rfl) (by kernel_rfl) (by kernel_rfl) (fun _ _ _ h => h) (by rfl) (by assumption) ?_ ?_
    rotate_left 1
    · (intro w9 hSw; (try dsimp only at hSw); go_simp); (first | done | with_reducible rfl)
    try simp only [Act.put, List.setIfInBounds_toArray, List.set_cons_zero, List.set_cons_succ]
    refine takeW (i := 5) (v := ?_) rfl (by kernel_rfl) (by kernel_rfl) (by kernel_rfl) (fun _ _ _ h => h) (by rfl) (by assumption) ?_ ?_
    rotate_left 1
    · (intro w9 hSw; (try dsimp only at hSw); go_simp); (first | done | with_reducible rfl)
    try simp only [Act.put, List.setIfInBounds_toArray, List.set_cons_zero, List.set_cons_succ]
    refine takeW (i := 6) (v := ?_) rfl (by kernel_rfl) (by kernel_rfl) (by kernel_rfl) (fun _ _ _ h => h) (by rfl) (by assumption) ?_ ?_
    rotate_left 1
    · (intro w9 hSw; (try dsimp only at hSw); go_simp); (first | done | with_reducible rfl)
    try simp only [Act.put, List.setIfInBounds_toArray, List.set_cons_zero, List.set_cons_succ]
    refine takeN (i := 7) rfl (by kernel_rfl) (by kernel_rfl) (by kernel_rfl) (fun _ _ _ h => h) (by rfl) (by assumption) ?_
    try simp only [Act.put, List.setIfInBounds_toArray, List.set_cons_zero, List.set_cons_succ]
    refine takeN (i := 8) rfl (by kernel_rfl) (by kernel_rfl) (by kernel_rfl) (fun _ _ _ h => h) (by rfl) (by assumption) ?_
    try simp only [Act.put, List.setIfInBounds_toArray, List.set_cons_zero, List.set_cons_succ]
    refine takeN (i := 9) rfl (by kernel_rfl) (by kernel_rfl) (by kernel_rfl) (fun _ _ _ h => h) (by rfl) (by assumption) ?_
    try simp only [Act.put, List.setIfInBounds_toArray, List.set_cons_zero, List.set_cons_succ]
    refine takeN (i := 10) rfl (by kernel_rfl) (by kernel_rfl) (by kernel_rfl) (fun _ _ _ h => h) (by rfl) (by assumption) ?_
    try simp only [Act.put, List.setIfInBounds_toArray, List.set_cons_zero, List.set_cons_succ]
    refine takeN (i := 11) rfl (by kernel_rfl) (by kernel_rfl) (by kernel_rfl) (fun _ _ _ h => h) (by rfl) (by assumption) ?_
    try simp only [Act.put, List.setIfInBounds_toArray, List.set_cons_zero, List.set_cons_succ]
    refine takeN (i := 12) rfl (by kernel_rfl) (by kernel_rfl) (by kernel_rfl) (fun _ _ _ h => h) (by rfl) (by assumption) ?_
    try simp only [Act.put, List.setIfInBounds_toArray, List.set_cons_zero, List.set_cons_succ]
    refine takeN (i := 13) rfl (by kernel_rfl) (by kernel_rfl) (by kernel_rfl) (fun _ _ _ h => h) (by rfl) (by assumption) ?_
    try simp only [Act.put, List.setIfInBounds_toArray, List.set_cons_zero, List.set_cons_succ]
    refine takeN (i := 14) rfl (by kernel_rfl) (by kernel_rfl) (by kernel_rfl) (fun _ _ _ h => h) (by rfl) (by assumption) ?_
    try simp only [Act.put, List.setIfInBounds_toArray, List.set_cons_zero, List.set_cons_succ]
    refine takeN (i := 15) rfl (by kernel_rfl) (by kernel_rfl) (by kernel_rfl) (fun _ _ _ h => h) (by rfl) (by assumption) ?_
    try simp only [Act.put, List.setIfInBounds_toArray, List.set_cons_zero, List.set_cons_succ]
    refine takeN (i := 16) rfl (by kernel_rfl) (by kernel_rfl) (by kernel_rfl) (fun _ _ _ h => h) (by rfl) (by assumption) ?_
    try simp only [Act.put, List.setIfInBounds_toArray, List.set_cons_zero, List.set_cons_succ]
    refine takeN (i := 17) rfl (by kernel_rfl) (by kernel_rfl) (by kernel_rfl) (fun _ _ _ h => h) (by rfl) (by assumption) ?_
    try simp only [Act.put, List.setIfInBounds_toArray, List.set_cons_zero, List.set_cons_succ]
    refine takeN (i := 18) rfl (by kernel_rfl) (by kernel_rfl) (by kernel_rfl) (fun _ _ _ h => h) (by rfl) (by assumption) ?_
    try simp only [Act.put, List.setIfInBounds_toArray, List.set_cons_zero, List.set_cons_succ]
    refine takeW (i := 19) (v := ?_) rfl (by kernel_rfl) (by kernel_rfl) (by kernel_rfl) (fun _ _ _ h => h) (by rfl) (by assumption) ?_ ?_
    rotate_left 1
    · (intro w9 hSw; (try dsimp only at hSw); go_simp); (first | done | with_reducible rfl)
    try simp only [Act.put, List.setIfInBounds_toArray, List.set_cons_zero, List.set_cons_succ]
    refine takeW (i := 20) (v := ?_) rfl (by kernel_rfl) (by kernel_rfl) (by kernel_rfl) (fun _ _ _ h => h) (by rfl) (by assumption) ?_ ?_
    rotate_left 1
    · (intro w9 hSw; (try dsimp only at hSw); go_simp); (first | done | with_reducible rfl)
    try simp only [Act.put, List.setIfInBounds_toArray, List.set_cons_zero, List.set_cons_succ]
    refine takeW (i := 21) (v := ?_) rfl (by kernel_rfl) (by kernel_rfl) (by kernel_rfl) (fun _ _ _ h => h) (by rfl) (by assumption) ?_ ?_
    rotate_left 1
    · (intro w9 hSw; (try dsimp only at hSw); go_simp); (first | done | with_reducible rfl)
    try simp only [Act.put, List.setIfInBounds_toArray, List.set_cons_zero, List.set_cons_succ]
    refine takeW (i := 22) (v := ?_) rfl (by kernel_rfl) (by kernel_rfl) (by kernel_rfl) (fun _ _ _ h => h) (by rfl) (by assumption) ?_ ?_
    rotate_left 1
    · (intro w9 hSw; (try dsimp only at hSw); go_simp); (first | done | with_reducible rfl)
    try simp only [Act.put, List.setIfInBounds_toArray, List.set_cons_zero, List.set_cons_succ]
    refine takeW (i := 23) (v := ?_) rfl (by kernel_rfl) (by kernel_rfl) (by kernel_rfl) (fun _ _ _ h => h) (by rfl) (by assumption) ?_ ?_
    rotate_left 1
    · (intro w9 hSw; (try dsimp only at hSw); go_simp); (first | done | with_reducible rfl)
    try simp only [Act.put, List.setIfInBounds_toArray, List.set_cons_zero, List.set_cons_succ]
    refine takeW (i := 24) (v := ?_) rfl (by kernel_rfl) (by kernel_rfl) (by kernel_rfl) (fun _ _ _ h => h) (by rfl) (by assumption) ?_ ?_
    rotate_left 1
    · (intro w9 hSw; (try dsimp only at hSw); go_simp); (first | done | with_reducible rfl)
    try simp only [Act.put, List.setIfInBounds_toArray, List.set_cons_zero, List.set_cons_succ]
    refine takeW (i := 25) (v := ?_) rfl (by kernel_rfl) (by kernel_rfl) (by kernel_rfl) (fun _ _ _ h => h) (by rfl) (by assumption) ?_ ?_
    rotate_left 1
    · (intro w9 hSw; (try dsimp only at hSw); go_simp); (first | done | with_reducible rfl)
    try simp only [Act.put, List.setIfInBounds_toArray, List.set_cons_zero, List.set_cons_succ]
    refine readyW (i := 26) (by kernel_rfl) rfl (by rfl) (fun K hK => ?_)
    go_simp
    (go_at_call 11; (with_reducible refine (at_any _ _ _).mono ?_); rintro e u2 ⟨rfl, hq2⟩; have B1 : Below u1.heap.size u1 u2 := bnext G0 hq2)
    go_wp2_with fail
    refine hK.out _ _ (HS.out _ B1) (fun hHeld1 => ?_)
    clear hK K
    try simp only [Act.put, List.setIfInBounds_toArray, List.set_cons_zero, List.set_cons_succ]
    refine takeW (i := 27) (v := ?_) rfl (by kernel_rfl) (by kernel_rfl) (by kernel_rfl) (fun _ _ _ h => h) (by rfl) (by assumption) ?_ ?_
    rotate_left 1
    · (intro w9 hSw; (try dsimp only at hSw); go_simp); (first | done | with_reducible rfl)
    try simp only [Act.put, List.setIfInBounds_toArray, List.set_cons_zero, List.set_cons_succ]
    refine takeW (i := 28) (v := ?_) rfl (by kernel_rfl) (by kernel_rfl) (by kernel_rfl) (fun _ _ _ h => h) (by rfl) (by assumption) ?_ ?_
    rotate_left 1
    · (intro w9 hSw; (try dsimp only at hSw); go_simp); (first | done | with_reducible rfl)
    try simp only [Act.put, List.setIfInBounds_toArray, List.set_cons_zero, List.set_cons_succ]
    refine takeW (i := 29) (v := ?_) rfl (by kernel_rfl) (by kernel_rfl) (by kernel_rfl) (fun _ _ _ h => h) (by rfl) (by assumption) ?_ ?_
    rotate_left 1
    · (intro w9 hSw; (try dsimp only at hSw); go_simp); (first | done | with_reducible rfl)
    try simp only [Act.put, List.setIfInBounds_toArray, List.set_cons_zero, List.set_cons_succ]
    refine takeW (i := 30) (v := ?_) rfl (by kernel_rfl) (by kernel_rfl) (by kernel_rfl) (fun _ _ _ h => h) (by rfl) (by assumption) ?_ ?_
    rotate_left 1
    · (intro w9 hSw; (try dsimp only at hSw); go_simp); (first | done | with_reducible rfl)
    try simp only [Act.put, List.setIfInBounds_toArray, List.set_cons_zero, List.set_cons_succ]
    refine takeW (i := 31) (v := ?_) rfl (by kernel_rfl) (by kernel_rfl) (by kernel_rfl) (fun _ _ _ h => h) (by rfl) (by assumption) ?_ ?_
    rotate_left 1
    · (intro w9 hSw; (try dsimp only at hSw); go_simp); (first | done | with_reducible rfl)
    try simp only [Act.put, List.setIfInBounds_toArray, List.set_cons_zero, List.set_cons_succ]
    refine takeW (i := 32) (v := ?_) rfl (by kernel_rfl) (by kernel_rfl) (by kernel_rfl) (fun _ _ _ h => h) (by rfl) (by assumption) ?_ ?_
    rotate_left 1
    · (intro w9 hSw; (try dsimp only at hSw); go_simp); (first | done | with_reducible rfl)
    try simp only [Act.put, List.setIfInBounds_toArray, List.set_cons_zero, List.set_cons_succ]
    refine takeW (i := 33) (v := ?_) rfl (by kernel_rfl) (by kernel_rfl) (by kernel_rfl) (fun _ _ _ h => h) (by rfl) (by assumption) ?_ ?_
    rotate_left 1
    · (intro w9 hSw; (try dsimp only at hSw); go_simp); (first | done | with_reducible rfl)
    try simp only [Act.put, List.setIfInBounds_toArray, List.set_cons_zero, List.set_cons_succ]
    refine wpAnyH_done (by kernel_rfl) ?_ _
    go_wp2_with fail
    clear HS G0 hHeld hHeld1 hq2
    have su2 := B1.size
    replace E : Below w.heap.size w u2 := E.trans (B1.mono E.size)
    replace F9 : Bk2 u2 (w1.heap.size) (.int .i64 0) (.int .i64 0) := F9.below B1 F9.lt
    replace hR : RS u2 (gl) xs := hR.below B1 hR.lt
    replace F12 : Bk2 u2 (w3.heap.size) (.int .i64 0) (.int .i64 0) := F12.below B1 F12.lt
    replace F14 : Bk2 u2 (w4.heap.size) (.int .i64 4) (.int .i64 (-2)) := F14.below B1 F14.lt
    clear B1
    clear F9 F12 F14 hR
    (with_reducible refine (HP1.out _).mono ?_)
    rintro e w5 ⟨rfl, hb5⟩
    have sw5 := hb5.size
    replace E : Below w.heap.size w w5 := E.trans (hb5.mono E.size)
    clear hb5
    go_wp2_with fail
    obtain ⟨V6, hV6⟩ : ∃ V6 : World, V6 = (w5.alloc (.cells #[.int .i64 cp, .int .i64 ip] 24)) := ⟨_, rfl⟩
    have bV6 : Below w5.heap.size w5 V6 := by rw [hV6]; (repeat (first | with_reducible exact Below.refl _ _ | with_reducible refine Below.drew ?_ | with_reducible refine below_drewN ?_ _ | with_reducible refine Below.setCell ?_ (by first | (simp; done) | (simp; omega) | omega) _ | with_reducible refine Below.alloc ?_ (by first | (simp; done) | (simp; omega) | omega) _))
    have zV6 : w5.heap.size + 1 ≤ V6.heap.size := by rw [hV6]; simp
    have F18 : Bk2 V6 (w5.heap.size) (.int .i64 cp) (.int .i64 ip) := by rw [hV6]; exact (Bk2.newAt _ _ (by simp) _ _ _)
    rw [← hV6]
    clear hV6
    replace E : Below w.heap.size w V6 := E.trans (bV6.mono E.size)
    clear bV6
    (with_reducible refine (HP2.out _ (hT.below E (Nat.le_refl _))).mono ?_)
    rintro e w6 ⟨rfl, hb6⟩
    have sw6 := hb6.size
    replace E : Below w.heap.size w w6 := E.trans (hb6.mono E.size)
    replace F18 : Bk2 w6 (w5.heap.size) (.int .i64 cp) (.int .i64 ip) := F18.below hb6 F18.lt
    clear hb6
    go_upto_region 16 with fail
    obtain ⟨V7, hV7⟩ : ∃ V7 : World, V7 = (w6.alloc (.cells #[.int .i64 cp, .int .i64 ip] 24)) := ⟨_, rfl⟩
    have bV7 : Below w6.heap.size w6 V7 := by rw [hV7]; (repeat (first | with_reducible exact Below.refl _ _ | with_reducible refine Below.drew ?_ | with_reducible refine below_drewN ?_ _ | with_reducible refine Below.setCell ?_ (by first | (simp; done) | (simp; omega) | omega) _ | with_reducible refine Below.alloc ?_ (by first | (simp; done) | (simp; omega) | omega) _))
    have zV7 : w6.heap.size + 1 ≤ V7.heap.size := by rw [hV7]; simp
    have F21 : Bk2 V7 (w6.heap.size) (.int .i64 cp) (.int .i64 ip) := by rw [hV7]; exact (Bk2.newAt _ _ (by simp) _ _ _)
    rw [← hV7]
    clear hV7
    replace E : Below w.heap.size w V7 := E.trans (bV7.mono E.size)
    replace F18 : Bk2 V7 (w5.heap.size) (.int .i64 cp) (.int .i64 ip) := F18.below bV7 F18.lt
    clear bV7
    rcases HP3.out with ⟨hc0, hpl⟩ | ⟨hc1, hm, hk⟩
    · subst hc0
      have HPL := Lib.hid hpl
      clear hpl
      have t_F210 : V7.cell? ⟨w6.heap.size, 0, none⟩ = some ((.int .i64 0)) := F21.c0
      have t_F211 : V7.cell? ⟨w6.heap.size, 1, none⟩ = some ((.int .i64 ip)) := F21.c1
      go_wp2_with fail
      clear t_F210 t_F211
      (with_reducible refine (HPL.out _ (hT.below E (Nat.le_refl _))).mono ?_)
      rintro e w7 ⟨rfl, hb7⟩
      have sw7 := hb7.size
      replace E : Below w.heap.size w w7 := E.trans (hb7.mono E.size)
      replace F18 : Bk2 w7 (w5.heap.size) (.int .i64 0) (.int .i64 ip) := F18.below hb7 F18.lt
      replace F21 : Bk2 w7 (w6.heap.size) (.int .i64 0) (.int .i64 ip) := F21.below hb7 F21.lt
      clear hb7
      go_wp2_with fail
      (with_reducible refine (HO1.out _).mono ?_)
      rintro e w8 ⟨rfl, hb8⟩
      have sw8 := hb8.size
      replace E : Below w.heap.size w w8 := E.trans (hb8.mono E.size)
      replace F18 : Bk2 w8 (w5.heap.size) (.int .i64 0) (.int .i64 ip) := F18.below hb8 F18.lt
      replace F21 : Bk2 w8 (w6.heap.size) (.int .i64 0) (.int .i64 ip) := F21.below hb8 F21.lt
      clear hb8
      go_wp2_with fail
      obtain ⟨V10, hV10⟩ : ∃ V10 : World, V10 = (w8.alloc (.cells #[.int .i64 co, .int .i64 io] 24)) := ⟨_, rfl⟩
      have bV10 : Below w8.heap.size w8 V10 := by rw [hV10]; (repeat (first | with_reducible exact Below.refl _ _ | with_reducible refine Below.drew ?_ | with_reducible refine below_drewN ?_ _ | with_reducible refine Below.setCell ?_ (by first | (simp; done) | (simp; omega) | omega) _ | with_reducible refine Below.alloc ?_ (by first | (simp; done) | (simp; omega) | omega) _))
      have zV10 : w8.heap.size + 1 ≤ V10.heap.size := by rw [hV10]; simp
      have F23 : Bk2 V10 (w8.heap.size) (.int .i64 co) (.int .i64 io) := by rw [hV10]; exact (Bk2.newAt _ _ (by simp) _ _ _)
      rw [← hV10]
      clear hV10
      replace E : Below w.heap.size w V10 := E.trans (bV10.mono E.size)
      replace F18 : Bk2 V10 (w5.heap.size) (.int .i64 0) (.int .i64 ip) := F18.below bV10 F18.lt
      replace F21 : Bk2 V10 (w6.heap.size) (.int .i64 0) (.int .i64 ip) := F21.below bV10 F21.lt
      clear bV10
      (with_reducible refine (HO2.out _ (hT.below E (Nat.le_refl _))).mono ?_)
      rintro e w9 ⟨rfl, hb9⟩
      have sw9 := hb9.size
      replace E : Below w.heap.size w w9 := E.trans (hb9.mono E.size)
      replace F18 : Bk2 w9 (w5.heap.size) (.int .i64 0) (.int .i64 ip) := F18.below hb9 F18.lt
      replace F21 : Bk2 w9 (w6.heap.size) (.int .i64 0) (.int .i64 ip) := F21.below hb9 F21.lt
      replace F23 : Bk2 w9 (w8.heap.size) (.int .i64 co) (.int .i64 io) := F23.below hb9 F23.lt
      clear hb9
      go_upto_region 20 with fail
      obtain ⟨V11, hV11⟩ : ∃ V11 : World, V11 = (w9.alloc (.cells #[.int .i64 co, .int .i64 io] 24)) := ⟨_, rfl⟩
      have bV11 : Below w9.heap.size w9 V11 := by rw [hV11]; (repeat (first | with_reducible exact Below.refl _ _ | with_reducible refine Below.drew ?_ | with_reducible refine below_drewN ?_ _ | with_reducible refine Below.setCell ?_ (by first | (simp; done) | (simp; omega) | omega) _ | with_reducible refine Below.alloc ?_ (by first | (simp; done) | (simp; omega) | omega) _))
      have zV11 : w9.heap.size + 1 ≤ V11.heap.size := by rw [hV11]; simp
      have F25 : Bk2 V11 (w9.heap.size) (.int .i64 co) (.int .i64 io) := by rw [hV11]; exact (Bk2.newAt _ _ (by simp) _ _ _)
      rw [← hV11]
      clear hV11
      replace E : Below w.heap.size w V11 := E.trans (bV11.mono E.size)
      replace F18 : Bk2 V11 (w5.heap.size) (.int .i64 0) (.int .i64 ip) := F18.below bV11 F18.lt
      replace F21 : Bk2 V11 (w6.heap.size) (.int .i64 0) (.int .i64 ip) := F21.below bV11 F21.lt
      replace F23 : Bk2 V11 (w8.heap.size) (.int .i64 co) (.int .i64 io) := F23.below bV11 F23.lt
      clear bV11
      have t_F180 : V11.cell? ⟨w5.heap.size, 0, none⟩ = some ((.int .i64 0)) := F18.c0
      have t_F181 : V11.cell? ⟨w5.heap.size, 1, none⟩ = some ((.int .i64 ip)) := F18.c1
      have t_F210 : V11.cell? ⟨w6.heap.size, 0, none⟩ = some ((.int .i64 0)) := F21.c0
      have t_F211 : V11.cell? ⟨w6.heap.size, 1, none⟩ = some ((.int .i64 ip)) := F21.c1
      have t_F230 : V11.cell? ⟨w8.heap.size, 0, none⟩ = some ((.int .i64 co)) := F23.c0
      have t_F231 : V11.cell? ⟨w8.heap.size, 1, none⟩ = some ((.int .i64 io)) := F23.c1
      have t_F250 : V11.cell? ⟨w9.heap.size, 0, none⟩ = some ((.int .i64 co)) := F25.c0
      have t_F251 : V11.cell? ⟨w9.heap.size, 1, none⟩ = some ((.int .i64 io)) := F25.c1
      go_wp2_with fail
      clear t_F180 t_F181 t_F210 t_F211 t_F230 t_F231 t_F250 t_F251
      go_ret
      exact ⟨by first | rfl | (simp; done), E⟩
    · subst hm
      subst hk
      have d7 : (cp == 0) = false := beq_eq_false_iff_ne.2 (by omega)
      have t_F210 : V7.cell? ⟨w6.heap.size, 0, none⟩ = some ((.int .i64 cp)) := F21.c0
      have t_F211 : V7.cell? ⟨w6.heap.size, 1, none⟩ = some ((.int .i64 ip)) := F21.c1
      go_wp2_with fail
      clear t_F210 t_F211
      clear d7
      (with_reducible refine (HO1.out _).mono ?_)
      rintro e w8 ⟨rfl, hb8⟩
      have sw8 := hb8.size
      replace E : Below w.heap.size w w8 := E.trans (hb8.mono E.size)
      replace F18 : Bk2 w8 (w5.heap.size) (.int .i64 cp) (.int .i64 ip) := F18.below hb8 F18.lt
      replace F21 : Bk2 w8 (w6.heap.size) (.int .i64 cp) (.int .i64 ip) := F21.below hb8 F21.lt
      clear hb8
      go_wp2_with fail
      obtain ⟨V9, hV9⟩ : ∃ V9 : World, V9 = (w8.alloc (.cells #[.int .i64 co, .int .i64 io] 24)) := ⟨_, rfl⟩
      have bV9 : Below w8.heap.size w8 V9 := by rw [hV9]; (repeat (first | with_reducible exact Below.refl _ _ | with_reducible refine Below.drew ?_ | with_reducible refine below_drewN ?_ _ | with_reducible refine Below.setCell ?_ (by first | (simp; done) | (simp; omega) | omega) _ | with_reducible refine Below.alloc ?_ (by first | (simp; done) | (simp; omega) | omega) _))
      have zV9 : w8.heap.size + 1 ≤ V9.heap.size := by rw [hV9]; simp
      have F23 : Bk2 V9 (w8.heap.size) (.int .i64 co) (.int .i64 io) := by rw [hV9]; exact (Bk2.newAt _ _ (by simp) _ _ _)
      rw [← hV9]
      clear hV9
      replace E : Below w.heap.size w V9 := E.trans (bV9.mono E.size)
      replace F18 : Bk2 V9 (w5.heap.size) (.int .i64 cp) (.int .i64 ip) := F18.below bV9 F18.lt
      replace F21 : Bk2 V9 (w6.heap.size) (.int .i64 cp) (.int .i64 ip) := F21.below bV9 F21.lt
      clear bV9
      (with_reducible refine (HO2.out _ (hT.below E (Nat.le_refl _))).mono ?_)
      rintro e w9 ⟨rfl, hb9⟩
      have sw9 := hb9.size
      replace E : Below w.heap.size w w9 := E.trans (hb9.mono E.size)
      replace F18 : Bk2 w9 (w5.heap.size) (.int .i64 cp) (.int .i64 ip) := F18.below hb9 F18.lt
      replace F21 : Bk2 w9 (w6.heap.size) (.int .i64 cp) (.int .i64 ip) := F21.below hb9 F21.lt
      replace F23 : Bk2 w9 (w8.heap.size) (.int .i64 co) (.int .i64 io) := F23.below hb9 F23.lt
      clear hb9
      go_upto_region 20 with fail
      obtain ⟨V10, hV10⟩ : ∃ V10 : World, V10 = (w9.alloc (.cells #[.int .i64 co, .int .i64 io] 24)) := ⟨_, rfl⟩
      have bV10 : Below w9.heap.size w9 V10 := by rw [hV10]; (repeat (first | with_reducible exact Below.refl _ _ | with_reducible refine Below.drew ?_ | with_reducible refine below_drewN ?_ _ | with_reducible refine Below.setCell ?_ (by first | (simp; done) | (simp; omega) | omega) _ | with_reducible refine Below.alloc ?_ (by first | (simp; done) | (simp; omega) | omega) _))
      have zV10 : w9.heap.size + 1 ≤ V10.heap.size := by rw [hV10]; simp
      have F25 : Bk2 V10 (w9.heap.size) (.int .i64 co) (.int .i64 io) := by rw [hV10]; exact (Bk2.newAt _ _ (by simp) _ _ _)
      rw [← hV10]
      clear hV10
      replace E : Below w.heap.size w V10 := E.trans (bV10.mono E.size)
      replace F18 : Bk2 V10 (w5.heap.size) (.int .i64 cp) (.int .i64 ip) := F18.below bV10 F18.lt
      replace F21 : Bk2 V10 (w6.heap.size) (.int .i64 cp) (.int .i64 ip) := F21.below bV10 F21.lt
      replace F23 : Bk2 V10 (w8.heap.size) (.int .i64 co) (.int .i64 io) := F23.below bV10 F23.lt
      clear bV10
      have t_F180 : V10.cell? ⟨w5.heap.size, 0, none⟩ = some ((.int .i64 cp)) := F18.c0
      have t_F181 : V10.cell? ⟨w5.heap.size, 1, none⟩ = some ((.int .i64 ip)) := F18.c1
      have t_F210 : V10.cell? ⟨w6.heap.size, 0, none⟩ = some ((.int .i64 cp)) := F21.c0
      have t_F211 : V10.cell? ⟨w6.heap.size, 1, none⟩ = some ((.int .i64 ip)) := F21.c1
      have t_F230 : V10.cell? ⟨w8.heap.size, 0, none⟩ = some ((.int .i64 co)) := F23.c0
      have t_F231 : V10.cell? ⟨w8.heap.size, 1, none⟩ = some ((.int .i64 io)) := F23.c1
      have t_F250 : V10.cell? ⟨w9.heap.size, 0, none⟩ = some ((.int .i64 co)) := F25.c0
      have t_F251 : V10.cell? ⟨w9.heap.size, 1, none⟩ = some ((.int .i64 io)) := F25.c1
      go_wp2_with fail
      clear t_F180 t_F181 t_F210 t_F211 t_F230 t_F231 t_F250 t_F251
      go_ret
      exact ⟨by first | rfl | (simp; done), E⟩
  · have d2 : decide ((1 : Int) ≤ l) = true := decide_eq_true (by omega)
    have d3 : decide (l ≤ (T : Int) + 1) = false := decide_eq_false (by omega)
    clear hl h1
    have E : Below w.heap.size w w := Below.refl _ _
    go_enter Tryd.func3, Tryd.ntmps3
    go_wp2_with fail
    (with_reducible refine (places_any _).mono ?_)
    rintro e w0 ⟨rfl, hb0⟩
    have sw0 := hb0.size
    replace E : Below w.heap.size w w0 := E.trans (hb0.mono E.size)
    clear hb0
    go_wp2_with fail
    (with_reducible refine (sf_good s _ hs HG (hT.below E (Nat.le_refl _))).mono ?_)
    rintro e w1 ⟨rfl, hb1⟩
    have sw1 := hb1.size
    replace E : Below w.heap.size w w1 := E.trans (hb1.mono E.size)
    clear hb1
    go_wp2_with fail
    obtain ⟨V1, hV1⟩ : ∃ V1 : World, V1 = (w1.alloc (.cells #[.int .i64 0, .int .i64 0] 24)) := ⟨_, rfl⟩
    have bV1 : Below w1.heap.size w1 V1 := by rw [hV1]; (repeat (first | with_reducible exact Below.refl _ _ | with_reducible refine Below.drew ?_ | with_reducible refine below_drewN ?_ _ | with_reducible refine Below.setCell ?_ (by first | (simp; done) | (simp; omega) | omega) _ | with_reducible refine Below.alloc ?_ (by first | (simp; done) | (simp; omega) | omega) _))
    have zV1 : w1.heap.size + 1 ≤ V1.heap.size := by rw [hV1]; simp
    have F9 : Bk2 V1 (w1.heap.size) (.int .i64 0) (.int .i64 0) := by rw [hV1]; exact (Bk2.newAt _ _ (by simp) _ _ _)
    rw [← hV1]
    clear hV1
    replace E : Below w.heap.size w V1 := E.trans (bV1.mono E.size)
    clear bV1
    refine (lines_any s _ hsz).mono ?_
    rintro e w2 ⟨gl, cc, xs, rfl, hR, hxc, hcm, HLn, HLx, hgl, hb2⟩
    have HLn2 := Lib.hid (HLn.out.trans (by rw [← HTT.out] : nl s 0 s.size + 1 = T + 1))
    rw [HLn2.out]
    rw [HLn2.out] at hxc
    have sw2 := hb2.size
    replace E : Below w.heap.size w w2 := E.trans (hb2.mono E.size)
    replace F9 : Bk2 w2 (w1.heap.size) (.int .i64 0) (.int .i64 0) := F9.below hb2 F9.lt
    clear hb2
    go_wp2_with fail
    (with_reducible refine (hlines.out _).mono ?_)
    rintro e w3 ⟨rfl, hb3⟩
    have sw3 := hb3.size
    replace E : Below w.heap.size w w3 := E.trans (hb3.mono E.size)
    replace F9 : Bk2 w3 (w1.heap.size) (.int .i64 0) (.int .i64 0) := F9.below hb3 F9.lt
    replace hR : RS w3 (gl) xs := hR.below hb3 hR.lt
    clear hb3
    go_wp2_with fail
    obtain ⟨V3, hV3⟩ : ∃ V3 : World, V3 = (w3.alloc (.cells #[.int .i64 0, .int .i64 0] 24)) := ⟨_, rfl⟩
    have bV3 : Below w3.heap.size w3 V3 := by rw [hV3]; (repeat (first | with_reducible exact Below.refl _ _ | with_reducible refine Below.drew ?_ | with_reducible refine below_drewN ?_ _ | with_reducible refine Below.setCell ?_ (by first | (simp; done) | (simp; omega) | omega) _ | with_reducible refine Below.alloc ?_ (by first | (simp; done) | (simp; omega) | omega) _))
    have zV3 : w3.heap.size + 1 ≤ V3.heap.size := by rw [hV3]; simp
    have F12 : Bk2 V3 (w3.heap.size) (.int .i64 0) (.int .i64 0) := by rw [hV3]; exact (Bk2.newAt _ _ (by simp) _ _ _)
    rw [← hV3]
    clear hV3
    replace E : Below w.heap.size w V3 := E.trans (bV3.mono E.size)
    replace F9 : Bk2 V3 (w1.heap.size) (.int .i64 0) (.int .i64 0) := F9.below bV3 F9.lt
    replace hR : RS V3 (gl) xs := hR.below bV3 hR.lt
    clear bV3
    (with_reducible refine (hlin.out _).mono ?_)
    rintro e w4 ⟨rfl, hb4⟩
    have sw4 := hb4.size
    replace E : Below w.heap.size w w4 := E.trans (hb4.mono E.size)
    replace F9 : Bk2 w4 (w1.heap.size) (.int .i64 0) (.int .i64 0) := F9.below hb4 F9.lt
    replace hR : RS w4 (gl) xs := hR.below hb4 hR.lt
    replace F12 : Bk2 w4 (w3.heap.size) (.int .i64 0) (.int .i64 0) := F12.below hb4 F12.lt
    clear hb4
    go_upto_region 7 with fail
    obtain ⟨V4, hV4⟩ : ∃ V4 : World, V4 = (w4.alloc (.cells #[.int .i64 4, .int .i64 (-2)] 24)) := ⟨_, rfl⟩
    have bV4 : Below w4.heap.size w4 V4 := by rw [hV4]; (repeat (first | with_reducible exact Below.refl _ _ | with_reducible refine Below.drew ?_ | with_reducible refine below_drewN ?_ _ | with_reducible refine Below.setCell ?_ (by first | (simp; done) | (simp; omega) | omega) _ | with_reducible refine Below.alloc ?_ (by first | (simp; done) | (simp; omega) | omega) _))
    have zV4 : w4.heap.size + 1 ≤ V4.heap.size := by rw [hV4]; simp
    have F14 : Bk2 V4 (w4.heap.size) (.int .i64 4) (.int .i64 (-2)) := by rw [hV4]; exact (Bk2.newAt _ _ (by simp) _ _ _)
    rw [← hV4]
    clear hV4
    replace E : Below w.heap.size w V4 := E.trans (bV4.mono E.size)
    replace F9 : Bk2 V4 (w1.heap.size) (.int .i64 0) (.int .i64 0) := F9.below bV4 F9.lt
    replace hR : RS V4 (gl) xs := hR.below bV4 hR.lt
    replace F12 : Bk2 V4 (w3.heap.size) (.int .i64 0) (.int .i64 0) := F12.below bV4 F12.lt
    clear bV4
    have G0 : Below V4.heap.size V4 V4.drew := Below.drew (Below.refl _ _)
    have HS := Lib.hid (fun (u : World) (hu : Below V4.heap.size V4 u) => (⟨hu, (F9.below hu F9.lt).c0, (F9.below hu F9.lt).c1, (F12.below hu F12.lt).c0, (F12.below hu F12.lt).c1, (F14.below hu F14.lt).c0, (F14.below hu F14.lt).c1⟩ : Below V4.heap.size V4 u ∧ u.cell? ⟨w1.heap.size, 0, none⟩ = some (.int .i64 0) ∧ u.cell? ⟨w1.heap.size, 1, none⟩ = some (.int .i64 0) ∧ u.cell? ⟨w3.heap.size, 0, none⟩ = some (.int .i64 0) ∧ u.cell? ⟨w3.heap.size, 1, none⟩ = some (.int .i64 0) ∧ u.cell? ⟨w4.heap.size, 0, none⟩ = some (.int .i64 4) ∧ u.cell? ⟨w4.heap.size, 1, none⟩ = some (.int .i64 (-2))))
    refine wp_region_held_drew (S := (fun u => Below V4.heap.size V4 u ∧ u.cell? ⟨w1.heap.size, 0, none⟩ = some (.int .i64 0) ∧ u.cell? ⟨w1.heap.size, 1, none⟩ = some (.int .i64 0) ∧ u.cell? ⟨w3.heap.size, 0, none⟩ = some (.int .i64 0) ∧ u.cell? ⟨w3.heap.size, 1, none⟩ = some (.int .i64 0) ∧ u.cell? ⟨w4.heap.size, 0, none⟩ = some (.int .i64 4) ∧ u.cell? ⟨w4.heap.size, 1, none⟩ = some (.int .i64 (-2)))) (by kernel_rfl) (HS.out _ G0) (fun hHeld => ?_)
    refine takeW (i := 0) (v := ?_) rfl (by kernel_rfl) (by kernel_rfl) (by kernel_rfl) (fun _ _ _ h => h) (by rfl) (by assumption) ?_ ?_
    rotate_left 1
    · (intro w9 hSw; (try dsimp only at hSw); go_simp); (first | done | with_reducible rfl)
    try simp only [Act.put, List.setIfInBounds_toArray, List.set_cons_zero, List.set_cons_succ]
    refine takeW (i := 2) (v := ?_) rfl (by kernel_rfl) (by kernel_rfl) (by kernel_rfl) (fun _ _ _ h => h) (by rfl) (by assumption) ?_ ?_
    rotate_left 1
    · (intro w9 hSw; (try dsimp only at hSw); go_simp); (first | done | with_reducible rfl)
    try simp only [Act.put, List.setIfInBounds_toArray, List.set_cons_zero, List.set_cons_succ]
    refine readyW (i := 1) (by kernel_rfl) rfl (by rfl) (fun K hK => ?_)
    go_simp
    (go_at_call 10; (with_reducible refine (check_good s _ hs HG).mono ?_); rintro e u1 ⟨rfl, hq1⟩; have B1 : Below V4.heap.size V4 u1 := bnext G0 hq1)
    go_wp2_with fail
    refine hK.out _ _ (HS.out _ B1) (fun hHeld1 => ?_)
    clear hK K
    try simp only [Act.put, List.setIfInBounds_toArray, List.set_cons_zero, List.set_cons_succ]
    refine takeW (i := 3) (v := ?_) rfl (by kernel_rfl) (by kernel_rfl) (by kernel_rfl) (fun _ _ _ h => h) (by rfl) (by assumption) ?_ ?_
    rotate_left 1
    · (intro w9 hSw; (try dsimp only at hSw); go_simp); (first | done | with_reducible rfl)
    try simp only [Act.put, List.setIfInBounds_toArray, List.set_cons_zero, List.set_cons_succ]
    refine takeW (i := 4) (v := ?_) rfl (by kernel_rfl) (by kernel_rfl) (by kernel_rfl) (fun _ _ _ h => h) (by rfl) (by assumption) ?_ ?_
    rotate_left 1
    · (intro w9 hSw; (try dsimp only at hSw); go_simp); (first | done | with_reducible rfl)
    try simp only [Act.put, List.setIfInBounds_toArray, List.set_cons_zero, List.set_cons_succ]
    refine takeW (i := 5) (v := ?_) rfl (by kernel_rfl) (by kernel_rfl) (by kernel_rfl) (fun _ _ _ h => h) (by rfl) (by assumption) ?_ ?_
    rotate_left 1
    · (intro w9 hSw; (try dsimp only at hSw); go_simp); (first | done | with_reducible rfl)
    try simp only [Act.put, List.setIfInBounds_toArray, List.set_cons_zero, List.set_cons_succ]
    refine takeW (i := 6) (v := ?_) rfl (by kernel_rfl) (by kernel_rfl) (by kernel_rfl) (fun _ _ _ h => h) (by rfl) (by assumption) ?_ ?_
    rotate_left 1
    · (intro w9 hSw; (try dsimp only at hSw); go_simp); (first | done | with_reducible rfl)
    try simp only [Act.put, List.setIfInBounds_toArray, List.set_cons_zero, List.set_cons_succ]
    refine takeW (i := 7) (v := ?_) rfl (by kernel_rfl) (by kernel_rfl) (by kernel_rfl) (fun _ _ _ h => h) (by rfl) (by assumption) ?_ ?_
    rotate_left 1
    · (intro w9 hSw; (try dsimp only at hSw); go_simp); (first | done | with_reducible rfl)
    try simp only [Act.put, List.setIfInBounds_toArray, List.set_cons_zero, List.set_cons_succ]
    refine takeW (i := 8) (v := ?_) rfl (by kernel_rfl) (by kernel_rfl) (by kernel_rfl) (fun _ _ _ h => h) (by rfl) (by assumption) ?_ ?_
    rotate_left 1
    · (intro w9 hSw; (try dsimp only at hSw); go_simp); (first | done | with_reducible rfl)
    try simp only [Act.put, List.setIfInBounds_toArray, List.set_cons_zero, List.set_cons_succ]
    refine takeW (i := 9) (v := ?_) rfl (by kernel_rfl) (by kernel_rfl) (by kernel_rfl) (fun _ _ _ h => h) (by rfl) (by assumption) ?_ ?_
    rotate_left 1
    · (intro w9 hSw; (try dsimp only at hSw); go_simp); (first | done | with_reducible rfl)
    try simp only [Act.put, List.setIfInBounds_toArray, List.set_cons_zero, List.set_cons_succ]
    refine takeW (i := 10) (v := ?_) rfl (by kernel_rfl) (by kernel_rfl) (by kernel_rfl) (fun _ _ _ h => h) (by rfl) (by assumption) ?_ ?_
    rotate_left 1
    · (intro w9 hSw; (try dsimp only at hSw); go_simp); (first | done | with_reducible rfl)
    try simp only [Act.put, List.setIfInBounds_toArray, List.set_cons_zero, List.set_cons_succ]
    refine takeW (i := 11) (v := ?_) rfl (by kernel_rfl) (by kernel_rfl) (by kernel_rfl) (fun _ _ _ h => h) (by rfl) (by assumption) ?_ ?_
    rotate_left 1
    · (intro w9 hSw; (try dsimp only at hSw); go_simp); (first | done | with_reducible rfl)
    try simp only [Act.put, List.setIfInBounds_toArray, List.set_cons_zero, List.set_cons_succ]
    refine takeW (i := 12) (v := ?_) rfl (by kernel_rfl) (by kernel_rfl) (by kernel_rfl) (fun _ _ _ h => h) (by rfl) (by assumption) ?_ ?_
    rotate_left 1
    · (intro w9 hSw; (try dsimp only at hSw); go_simp); (first | done | with_reducible rfl)
    try simp only [Act.put, List.setIfInBounds_toArray, List.set_cons_zero, List.set_cons_succ]
    refine takeW (i := 13) (v := ?_) rfl (by kernel_rfl) (by kernel_rfl) (by kernel_rfl) (fun _ _ _ h => h) (by rfl) (by assumption) ?_ ?_
    rotate_left 1
    · (intro w9 hSw; (try dsimp only at hSw); go_simp); (first | done | with_reducible rfl)
    try simp only [Act.put, List.setIfInBounds_toArray, List.set_cons_zero, List.set_cons_succ]
    refine takeN (i := 14) rfl (by kernel_rfl) (by kernel_rfl) (by kernel_rfl) (fun _ _ _ h => h) (by rfl) (by assumption) ?_
    try simp only [Act.put, List.setIfInBounds_toArray, List.set_cons_zero, List.set_cons_succ]
    refine takeN (i := 15) rfl (by kernel_rfl) (by kernel_rfl) (by kernel_rfl) (fun _ _ _ h => h) (by rfl) (by assumption) ?_
    try simp only [Act.put, List.setIfInBounds_toArray, List.set_cons_zero, List.set_cons_succ]
    refine takeN (i := 16) rfl (by kernel_rfl) (by kernel_rfl) (by kernel_rfl) (fun _ _ _ h => h) (by rfl) (by assumption) ?_
    try simp only [Act.put, List.setIfInBounds_toArray, List.set_cons_zero, List.set_cons_succ]
    refine takeN (i := 17) rfl (by kernel_rfl) (by kernel_rfl) (by kernel_rfl) (fun _ _ _ h => h) (by rfl) (by assumption) ?_
    try simp only [Act.put, List.setIfInBounds_toArray, List.set_cons_zero, List.set_cons_succ]
    refine takeN (i := 18) rfl (by kernel_rfl) (by kernel_rfl) (by kernel_rfl) (fun _ _ _ h => h) (by rfl) (by assumption) ?_
    try simp only [Act.put, List.setIfInBounds_toArray, List.set_cons_zero, List.set_cons_succ]
    refine takeN (i := 19) rfl (by kernel_rfl) (by kernel_rfl) (by kernel_rfl) (fun _ _ _ h => h) (by rfl) (by assumption) ?_
    try simp only [Act.put, List.setIfInBounds_toArray, List.set_cons_zero, List.set_cons_succ]
    refine takeN (i := 20) rfl (by kernel_rfl) (by kernel_rfl) (by kernel_rfl) (fun _ _ _ h => h) (by rfl) (by assumption) ?_
    try simp only [Act.put, List.setIfInBounds_toArray, List.set_cons_zero, List.set_cons_succ]
    refine takeN (i := 21) rfl (by kernel_rfl) (by kernel_rfl) (by kernel_rfl) (fun _ _ _ h => h) (by rfl) (by assumption) ?_
    try simp only [Act.put, List.setIfInBounds_toArray, List.set_cons_zero, List.set_cons_succ]
    refine takeN (i := 22) rfl (by kernel_rfl) (by kernel_rfl) (by kernel_rfl) (fun _ _ _ h => h) (by rfl) (by assumption) ?_
    try simp only [Act.put, List.setIfInBounds_toArray, List.set_cons_zero, List.set_cons_succ]
    refine takeN (i := 23) rfl (by kernel_rfl) (by kernel_rfl) (by kernel_rfl) (fun _ _ _ h => h) (by rfl) (by assumption) ?_
    try simp only [Act.put, List.setIfInBounds_toArray, List.set_cons_zero, List.set_cons_succ]
    refine takeN (i := 24) rfl (by kernel_rfl) (by kernel_rfl) (by kernel_rfl) (fun _ _ _ h => h) (by rfl) (by assumption) ?_
    try simp only [Act.put, List.setIfInBounds_toArray, List.set_cons_zero, List.set_cons_succ]
    refine takeW (i := 25) (v := ?_) rfl (by kernel_rfl) (by kernel_rfl) (by kernel_rfl) (fun _ _ _ h => h) (by rfl) (by assumption) ?_ ?_
    rotate_left 1
    · (intro w9 hSw; (try dsimp only at hSw); go_simp); (first | done | with_reducible rfl)
    try simp only [Act.put, List.setIfInBounds_toArray, List.set_cons_zero, List.set_cons_succ]
    refine takeW (i := 26) (v := ?_) rfl (by kernel_rfl) (by kernel_rfl) (by kernel_rfl) (fun _ _ _ h => h) (by rfl) (by assumption) ?_ ?_
    rotate_left 1
    · (intro w9 hSw; (try dsimp only at hSw); go_simp); (first | done | with_reducible rfl)
    try simp only [Act.put, List.setIfInBounds_toArray, List.set_cons_zero, List.set_cons_succ]
    refine wpAnyH_done (by kernel_rfl) ?_ _
    go_upto_region 9 with fail
    clear HS G0 hHeld hHeld1 hq1
    have su1 := B1.size
    replace E : Below w.heap.size w u1 := E.trans (B1.mono E.size)
    replace F9 : Bk2 u1 (w1.heap.size) (.int .i64 0) (.int .i64 0) := F9.below B1 F9.lt
    replace hR : RS u1 (gl) xs := hR.below B1 hR.lt
    replace F12 : Bk2 u1 (w3.heap.size) (.int .i64 0) (.int .i64 0) := F12.below B1 F12.lt
    replace F14 : Bk2 u1 (w4.heap.size) (.int .i64 4) (.int .i64 (-2)) := F14.below B1 F14.lt
    clear B1
    have t_F90 : u1.cell? ⟨w1.heap.size, 0, none⟩ = some ((.int .i64 0)) := F9.c0
    have t_F91 : u1.cell? ⟨w1.heap.size, 1, none⟩ = some ((.int .i64 0)) := F9.c1
    go_upto_region 11 with fail
    clear t_F90 t_F91
    have G0 : Below u1.heap.size u1 u1.drew := Below.drew (Below.refl _ _)
    have HS := Lib.hid (fun (u : World) (hu : Below u1.heap.size u1 u) => (⟨hu, (F14.below hu F14.lt).c0, (F14.below hu F14.lt).c1⟩ : Below u1.heap.size u1 u ∧ u.cell? ⟨w4.heap.size, 0, none⟩ = some (.int .i64 4) ∧ u.cell? ⟨w4.heap.size, 1, none⟩ = some (.int .i64 (-2))))
    refine wp_region_held_drew (S := (fun u => Below u1.heap.size u1 u ∧ u.cell? ⟨w4.heap.size, 0, none⟩ = some (.int .i64 4) ∧ u.cell? ⟨w4.heap.size, 1, none⟩ = some (.int .i64 (-2)))) (by kernel_rfl) (HS.out _ G0) (fun hHeld => ?_)
    refine takeW (i := 0) (v := ?_) rfl (by kernel_rfl) (by kernel_rfl) (by kernel_rfl) (fun _ _ _ h => h) (by rfl) (by assumption) ?_ ?_
    rotate_left 1
    · (intro w9 hSw; (try dsimp only at hSw); go_simp); (first | done | with_reducible rfl)
    try simp only [Act.put, List.setIfInBounds_toArray, List.set_cons_zero, List.set_cons_succ]
    refine takeW (i := 1) (v := ?_) rfl (by kernel_rfl) (by kernel_rfl) (by kernel_rfl) (fun _ _ _ h => h) (by rfl) (by assumption) ?_ ?_
    rotate_left 1
    · (intro w9 hSw; (try dsimp only at hSw); go_simp); (first | done | with_reducible rfl)
    try simp only [Act.put, List.setIfInBounds_toArray, List.set_cons_zero, List.set_cons_succ]
    refine takeW (i := 2) (v := ?_) rfl (by kernel_rfl) (by kernel_rfl) (by kernel_rfl) (fun _ _ _ h => h) (by rfl) (by assumption) ?_ ?_
    rotate_left 1
    · (intro w9 hSw; (try dsimp only at hSw); go_simp); (first | done | with_reducible rfl)
    try simp only [Act.put, List.setIfInBounds_toArray, List.set_cons_zero, List.set_cons_succ]
    refine takeW (i := 3) (v := ?_) rfl (by kernel_rfl) (by kernel_rfl) (by kernel_rfl) (fun _ _ _ h => h) (by rfl) (by assumption) ?_ ?_
    rotate_left 1
    · (intro w9 hSw; (try dsimp only at hSw); go_simp); (first | done | with_reducible rfl)
    try simp only [Act.put, List.setIfInBounds_toArray, List.set_cons_zero, List.set_cons_succ]
    refine takeW (i := 4) (v := ?_) rfl (by kernel_rfl) (by kernel_rfl) (by kernel_rfl) (fun _ _ _ h => h) (by rfl) (by assumption) ?_ ?_
    rotate_left 1
    · (intro w9 hSw; (try dsimp only at hSw); go_simp); (first | done | with_reducible rfl)
    try simp only [Act.put, List.setIfInBounds_toArray, List.set_cons_zero, List.set_cons_succ]
    refine takeW (i := 5) (v := ?_) rfl (by kernel_rfl) (by kernel_rfl) (by kernel_rfl) (fun _ _ _ h => h) (by rfl) (by assumption) ?_ ?_
    rotate_left 1
    · (intro w9 hSw; (try dsimp only at hSw); go_simp); (first | done | with_reducible rfl)
    try simp only [Act.put, List.setIfInBounds_toArray, List.set_cons_zero, List.set_cons_succ]
    refine takeW (i := 6) (v := ?_) rfl (by kernel_rfl) (by kernel_rfl) (by kernel_rfl) (fun _ _ _ h => h) (by rfl) (by assumption) ?_ ?_
    rotate_left 1
    · (intro w9 hSw; (try dsimp only at hSw); go_simp); (first | done | with_reducible rfl)
    try simp only [Act.put, List.setIfInBounds_toArray, List.set_cons_zero, List.set_cons_succ]
    refine takeN (i := 7) rfl (by kernel_rfl) (by kernel_rfl) (by kernel_rfl) (fun _ _ _ h => h) (by rfl) (by assumption) ?_
    try simp only [Act.put, List.setIfInBounds_toArray, List.set_cons_zero, List.set_cons_succ]
    refine takeN (i := 8) rfl (by kernel_rfl) (by kernel_rfl) (by kernel_rfl) (fun _ _ _ h => h) (by rfl) (by assumption) ?_
    try simp only [Act.put, List.setIfInBounds_toArray, List.set_cons_zero, List.set_cons_succ]
    refine takeN (i := 9) rfl (by kernel_rfl) (by kernel_rfl) (by kernel_rfl) (fun _ _ _ h => h) (by rfl) (by assumption) ?_
    try simp only [Act.put, List.setIfInBounds_toArray, List.set_cons_zero, List.set_cons_succ]
    refine takeN (i := 10) rfl (by kernel_rfl) (by kernel_rfl) (by kernel_rfl) (fun _ _ _ h => h) (by rfl) (by assumption) ?_
    try simp only [Act.put, List.setIfInBounds_toArray, List.set_cons_zero, List.set_cons_succ]
    refine takeN (i := 11) rfl (by kernel_rfl) (by kernel_rfl) (by kernel_rfl) (fun _ _ _ h => h) (by rfl) (by assumption) ?_
    try simp only [Act.put, List.setIfInBounds_toArray, List.set_cons_zero, List.set_cons_succ]
    refine takeN (i := 12) rfl (by kernel_rfl) (by kernel_rfl) (by kernel_rfl) (fun _ _ _ h => h) (by rfl) (by assumption) ?_
    try simp only [Act.put, List.setIfInBounds_toArray, List.set_cons_zero, List.set_cons_succ]
    refine takeN (i := 13) rfl (by kernel_rfl) (by kernel_rfl) (by kernel_rfl) (fun _ _ _ h => h) (by rfl) (by assumption) ?_
    try simp only [Act.put, List.setIfInBounds_toArray, List.set_cons_zero, List.set_cons_succ]
    refine takeN (i := 14) rfl (by kernel_rfl) (by kernel_rfl) (by kernel_rfl) (fun _ _ _ h => h) (by rfl) (by assumption) ?_
    try simp only [Act.put, List.setIfInBounds_toArray, List.set_cons_zero, List.set_cons_succ]
    refine takeN (i := 15) rfl (by kernel_rfl) (by kernel_rfl) (by kernel_rfl) (fun _ _ _ h => h) (by rfl) (by assumption) ?_
    try simp only [Act.put, List.setIfInBounds_toArray, List.set_cons_zero, List.set_cons_succ]
    refine takeN (i := 16) rfl (by kernel_rfl) (by kernel_rfl) (by kernel_rfl) (fun _ _ _ h => h) (by rfl) (by assumption) ?_
    try simp only [Act.put, List.setIfInBounds_toArray, List.set_cons_zero, List.set_cons_succ]
    refine takeN (i := 17) rfl (by kernel_rfl) (by kernel_rfl) (by kernel_rfl) (fun _ _ _ h => h) (by rfl) (by assumption) ?_
    try simp only [Act.put, List.setIfInBounds_toArray, List.set_cons_zero, List.set_cons_succ]
    refine takeN (i := 18) rfl (by kernel_rfl) (by kernel_rfl) (by kernel_rfl) (fun _ _ _ h => h) (by rfl) (by assumption) ?_
    try simp only [Act.put, List.setIfInBounds_toArray, List.set_cons_zero, List.set_cons_succ]
    refine takeW (i := 19) (v := ?_) rfl (by kernel_rfl) (by kernel_rfl) (by kernel_rfl) (fun _ _ _ h => h) (by rfl) (by assumption) ?_ ?_
    rotate_left 1
    · (intro w9 hSw; (try dsimp only at hSw); go_simp); (first | done | with_reducible rfl)
    try simp only [Act.put, List.setIfInBounds_toArray, List.set_cons_zero, List.set_cons_succ]
    refine takeW (i := 20) (v := ?_) rfl (by kernel_rfl) (by kernel_rfl) (by kernel_rfl) (fun _ _ _ h => h) (by rfl) (by assumption) ?_ ?_
    rotate_left 1
    · (intro w9 hSw; (try dsimp only at hSw); go_simp); (first | done | with_reducible rfl)
    try simp only [Act.put, List.setIfInBounds_toArray, List.set_cons_zero, List.set_cons_succ]
    refine takeW (i := 21) (v := ?_) rfl (by kernel_rfl) (by kernel_rfl) (by kernel_rfl) (fun _ _ _ h => h) (by rfl) (by assumption) ?_ ?_
    rotate_left 1
    · (intro w9 hSw; (try dsimp only at hSw); go_simp); (first | done | with_reducible rfl)
    try simp only [Act.put, List.setIfInBounds_toArray, List.set_cons_zero, List.set_cons_succ]
    refine takeW (i := 22) (v := ?_) rfl (by kernel_rfl) (by kernel_rfl) (by kernel_rfl) (fun _ _ _ h => h) (by rfl) (by assumption) ?_ ?_
    rotate_left 1
    · (intro w9 hSw; (try dsimp only at hSw); go_simp); (first | done | with_reducible rfl)
    try simp only [Act.put, List.setIfInBounds_toArray, List.set_cons_zero, List.set_cons_succ]
    refine takeW (i := 23) (v := ?_) rfl (by kernel_rfl) (by kernel_rfl) (by kernel_rfl) (fun _ _ _ h => h) (by rfl) (by assumption) ?_ ?_
    rotate_left 1
    · (intro w9 hSw; (try dsimp only at hSw); go_simp); (first | done | with_reducible rfl)
    try simp only [Act.put, List.setIfInBounds_toArray, List.set_cons_zero, List.set_cons_succ]
    refine takeW (i := 24) (v := ?_) rfl (by kernel_rfl) (by kernel_rfl) (by kernel_rfl) (fun _ _ _ h => h) (by rfl) (by assumption) ?_ ?_
    rotate_left 1
    · (intro w9 hSw; (try dsimp only at hSw); go_simp); (first | done | with_reducible rfl)
    try simp only [Act.put, List.setIfInBounds_toArray, List.set_cons_zero, List.set_cons_succ]
    refine takeW (i := 25) (v := ?_) rfl (by kernel_rfl) (by kernel_rfl) (by kernel_rfl) (fun _ _ _ h => h) (by rfl) (by assumption) ?_ ?_
    rotate_left 1
    · (intro w9 hSw; (try dsimp only at hSw); go_simp); (first | done | with_reducible rfl)
    try simp only [Act.put, List.setIfInBounds_toArray, List.set_cons_zero, List.set_cons_succ]
    refine readyW (i := 26) (by kernel_rfl) rfl (by rfl) (fun K hK => ?_)
    go_simp
    (go_at_call 11; (with_reducible refine (at_any _ _ _).mono ?_); rintro e u2 ⟨rfl, hq2⟩; have B1 : Below u1.heap.size u1 u2 := bnext G0 hq2)
    go_wp2_with fail
    refine hK.out _ _ (HS.out _ B1) (fun hHeld1 => ?_)
    clear hK K
    try simp only [Act.put, List.setIfInBounds_toArray, List.set_cons_zero, List.set_cons_succ]
    refine takeW (i := 27) (v := ?_) rfl (by kernel_rfl) (by kernel_rfl) (by kernel_rfl) (fun _ _ _ h => h) (by rfl) (by assumption) ?_ ?_
    rotate_left 1
    · (intro w9 hSw; (try dsimp only at hSw); go_simp); (first | done | with_reducible rfl)
    try simp only [Act.put, List.setIfInBounds_toArray, List.set_cons_zero, List.set_cons_succ]
    refine takeW (i := 28) (v := ?_) rfl (by kernel_rfl) (by kernel_rfl) (by kernel_rfl) (fun _ _ _ h => h) (by rfl) (by assumption) ?_ ?_
    rotate_left 1
    · (intro w9 hSw; (try dsimp only at hSw); go_simp); (first | done | with_reducible rfl)
    try simp only [Act.put, List.setIfInBounds_toArray, List.set_cons_zero, List.set_cons_succ]
    refine takeW (i := 29) (v := ?_) rfl (by kernel_rfl) (by kernel_rfl) (by kernel_rfl) (fun _ _ _ h => h) (by rfl) (by assumption) ?_ ?_
    rotate_left 1
    · (intro w9 hSw; (try dsimp only at hSw); go_simp); (first | done | with_reducible rfl)
    try simp only [Act.put, List.setIfInBounds_toArray, List.set_cons_zero, List.set_cons_succ]
    refine takeW (i := 30) (v := ?_) rfl (by kernel_rfl) (by kernel_rfl) (by kernel_rfl) (fun _ _ _ h => h) (by rfl) (by assumption) ?_ ?_
    rotate_left 1
    · (intro w9 hSw; (try dsimp only at hSw); go_simp); (first | done | with_reducible rfl)
    try simp only [Act.put, List.setIfInBounds_toArray, List.set_cons_zero, List.set_cons_succ]
    refine takeW (i := 31) (v := ?_) rfl (by kernel_rfl) (by kernel_rfl) (by kernel_rfl) (fun _ _ _ h => h) (by rfl) (by assumption) ?_ ?_
    rotate_left 1
    · (intro w9 hSw; (try dsimp only at hSw); go_simp); (first | done | with_reducible rfl)
    try simp only [Act.put, List.setIfInBounds_toArray, List.set_cons_zero, List.set_cons_succ]
    refine takeW (i := 32) (v := ?_) rfl (by kernel_rfl) (by kernel_rfl) (by kernel_rfl) (fun _ _ _ h => h) (by rfl) (by assumption) ?_ ?_
    rotate_left 1
    · (intro w9 hSw; (try dsimp only at hSw); go_simp); (first | done | with_reducible rfl)
    try simp only [Act.put, List.setIfInBounds_toArray, List.set_cons_zero, List.set_cons_succ]
    refine takeW (i := 33) (v := ?_) rfl (by kernel_rfl) (by kernel_rfl) (by kernel_rfl) (fun _ _ _ h => h) (by rfl) (by assumption) ?_ ?_
    rotate_left 1
    · (intro w9 hSw; (try dsimp only at hSw); go_simp); (first | done | with_reducible rfl)
    try simp only [Act.put, List.setIfInBounds_toArray, List.set_cons_zero, List.set_cons_succ]
    refine wpAnyH_done (by kernel_rfl) ?_ _
    go_wp2_with fail
    clear HS G0 hHeld hHeld1 hq2
    have su2 := B1.size
    replace E : Below w.heap.size w u2 := E.trans (B1.mono E.size)
    replace F9 : Bk2 u2 (w1.heap.size) (.int .i64 0) (.int .i64 0) := F9.below B1 F9.lt
    replace hR : RS u2 (gl) xs := hR.below B1 hR.lt
    replace F12 : Bk2 u2 (w3.heap.size) (.int .i64 0) (.int .i64 0) := F12.below B1 F12.lt
    replace F14 : Bk2 u2 (w4.heap.size) (.int .i64 4) (.int .i64 (-2)) := F14.below B1 F14.lt
    clear B1
    clear F9 F12 F14 hR
    (with_reducible refine (HP1.out _).mono ?_)
    rintro e w5 ⟨rfl, hb5⟩
    have sw5 := hb5.size
    replace E : Below w.heap.size w w5 := E.trans (hb5.mono E.size)
    clear hb5
    go_wp2_with fail
    obtain ⟨V6, hV6⟩ : ∃ V6 : World, V6 = (w5.alloc (.cells #[.int .i64 cp, .int .i64 ip] 24)) := ⟨_, rfl⟩
    have bV6 : Below w5.heap.size w5 V6 := by rw [hV6]; (repeat (first | with_reducible exact Below.refl _ _ | with_reducible refine Below.drew ?_ | with_reducible refine below_drewN ?_ _ | with_reducible refine Below.setCell ?_ (by first | (simp; done) | (simp; omega) | omega) _ | with_reducible refine Below.alloc ?_ (by first | (simp; done) | (simp; omega) | omega) _))
    have zV6 : w5.heap.size + 1 ≤ V6.heap.size := by rw [hV6]; simp
    have F18 : Bk2 V6 (w5.heap.size) (.int .i64 cp) (.int .i64 ip) := by rw [hV6]; exact (Bk2.newAt _ _ (by simp) _ _ _)
    rw [← hV6]
    clear hV6
    replace E : Below w.heap.size w V6 := E.trans (bV6.mono E.size)
    clear bV6
    (with_reducible refine (HP2.out _ (hT.below E (Nat.le_refl _))).mono ?_)
    rintro e w6 ⟨rfl, hb6⟩
    have sw6 := hb6.size
    replace E : Below w.heap.size w w6 := E.trans (hb6.mono E.size)
    replace F18 : Bk2 w6 (w5.heap.size) (.int .i64 cp) (.int .i64 ip) := F18.below hb6 F18.lt
    clear hb6
    go_upto_region 16 with fail
    obtain ⟨V7, hV7⟩ : ∃ V7 : World, V7 = (w6.alloc (.cells #[.int .i64 cp, .int .i64 ip] 24)) := ⟨_, rfl⟩
    have bV7 : Below w6.heap.size w6 V7 := by rw [hV7]; (repeat (first | with_reducible exact Below.refl _ _ | with_reducible refine Below.drew ?_ | with_reducible refine below_drewN ?_ _ | with_reducible refine Below.setCell ?_ (by first | (simp; done) | (simp; omega) | omega) _ | with_reducible refine Below.alloc ?_ (by first | (simp; done) | (simp; omega) | omega) _))
    have zV7 : w6.heap.size + 1 ≤ V7.heap.size := by rw [hV7]; simp
    have F21 : Bk2 V7 (w6.heap.size) (.int .i64 cp) (.int .i64 ip) := by rw [hV7]; exact (Bk2.newAt _ _ (by simp) _ _ _)
    rw [← hV7]
    clear hV7
    replace E : Below w.heap.size w V7 := E.trans (bV7.mono E.size)
    replace F18 : Bk2 V7 (w5.heap.size) (.int .i64 cp) (.int .i64 ip) := F18.below bV7 F18.lt
    clear bV7
    rcases HP3.out with ⟨hc0, hpl⟩ | ⟨hc1, hm, hk⟩
    · subst hc0
      have HPL := Lib.hid hpl
      clear hpl
      have t_F210 : V7.cell? ⟨w6.heap.size, 0, none⟩ = some ((.int .i64 0)) := F21.c0
      have t_F211 : V7.cell? ⟨w6.heap.size, 1, none⟩ = some ((.int .i64 ip)) := F21.c1
      go_wp2_with fail
      clear t_F210 t_F211
      (with_reducible refine (HPL.out _ (hT.below E (Nat.le_refl _))).mono ?_)
      rintro e w7 ⟨rfl, hb7⟩
      have sw7 := hb7.size
      replace E : Below w.heap.size w w7 := E.trans (hb7.mono E.size)
      replace F18 : Bk2 w7 (w5.heap.size) (.int .i64 0) (.int .i64 ip) := F18.below hb7 F18.lt
      replace F21 : Bk2 w7 (w6.heap.size) (.int .i64 0) (.int .i64 ip) := F21.below hb7 F21.lt
      clear hb7
      go_wp2_with fail
      (with_reducible refine (HO1.out _).mono ?_)
      rintro e w8 ⟨rfl, hb8⟩
      have sw8 := hb8.size
      replace E : Below w.heap.size w w8 := E.trans (hb8.mono E.size)
      replace F18 : Bk2 w8 (w5.heap.size) (.int .i64 0) (.int .i64 ip) := F18.below hb8 F18.lt
      replace F21 : Bk2 w8 (w6.heap.size) (.int .i64 0) (.int .i64 ip) := F21.below hb8 F21.lt
      clear hb8
      go_wp2_with fail
      obtain ⟨V10, hV10⟩ : ∃ V10 : World, V10 = (w8.alloc (.cells #[.int .i64 co, .int .i64 io] 24)) := ⟨_, rfl⟩
      have bV10 : Below w8.heap.size w8 V10 := by rw [hV10]; (repeat (first | with_reducible exact Below.refl _ _ | with_reducible refine Below.drew ?_ | with_reducible refine below_drewN ?_ _ | with_reducible refine Below.setCell ?_ (by first | (simp; done) | (simp; omega) | omega) _ | with_reducible refine Below.alloc ?_ (by first | (simp; done) | (simp; omega) | omega) _))
      have zV10 : w8.heap.size + 1 ≤ V10.heap.size := by rw [hV10]; simp
      have F23 : Bk2 V10 (w8.heap.size) (.int .i64 co) (.int .i64 io) := by rw [hV10]; exact (Bk2.newAt _ _ (by simp) _ _ _)
      rw [← hV10]
      clear hV10
      replace E : Below w.heap.size w V10 := E.trans (bV10.mono E.size)
      replace F18 : Bk2 V10 (w5.heap.size) (.int .i64 0) (.int .i64 ip) := F18.below bV10 F18.lt
      replace F21 : Bk2 V10 (w6.heap.size) (.int .i64 0) (.int .i64 ip) := F21.below bV10 F21.lt
      clear bV10
      (with_reducible refine (HO2.out _ (hT.below E (Nat.le_refl _))).mono ?_)
      rintro e w9 ⟨rfl, hb9⟩
      have sw9 := hb9.size
      replace E : Below w.heap.size w w9 := E.trans (hb9.mono E.size)
      replace F18 : Bk2 w9 (w5.heap.size) (.int .i64 0) (.int .i64 ip) := F18.below hb9 F18.lt
      replace F21 : Bk2 w9 (w6.heap.size) (.int .i64 0) (.int .i64 ip) := F21.below hb9 F21.lt
      replace F23 : Bk2 w9 (w8.heap.size) (.int .i64 co) (.int .i64 io) := F23.below hb9 F23.lt
      clear hb9
      go_upto_region 20 with fail
      obtain ⟨V11, hV11⟩ : ∃ V11 : World, V11 = (w9.alloc (.cells #[.int .i64 co, .int .i64 io] 24)) := ⟨_, rfl⟩
      have bV11 : Below w9.heap.size w9 V11 := by rw [hV11]; (repeat (first | with_reducible exact Below.refl _ _ | with_reducible refine Below.drew ?_ | with_reducible refine below_drewN ?_ _ | with_reducible refine Below.setCell ?_ (by first | (simp; done) | (simp; omega) | omega) _ | with_reducible refine Below.alloc ?_ (by first | (simp; done) | (simp; omega) | omega) _))
      have zV11 : w9.heap.size + 1 ≤ V11.heap.size := by rw [hV11]; simp
      have F25 : Bk2 V11 (w9.heap.size) (.int .i64 co) (.int .i64 io) := by rw [hV11]; exact (Bk2.newAt _ _ (by simp) _ _ _)
      rw [← hV11]
      clear hV11
      replace E : Below w.heap.size w V11 := E.trans (bV11.mono E.size)
      replace F18 : Bk2 V11 (w5.heap.size) (.int .i64 0) (.int .i64 ip) := F18.below bV11 F18.lt
      replace F21 : Bk2 V11 (w6.heap.size) (.int .i64 0) (.int .i64 ip) := F21.below bV11 F21.lt
      replace F23 : Bk2 V11 (w8.heap.size) (.int .i64 co) (.int .i64 io) := F23.below bV11 F23.lt
      clear bV11
      have t_F180 : V11.cell? ⟨w5.heap.size, 0, none⟩ = some ((.int .i64 0)) := F18.c0
      have t_F181 : V11.cell? ⟨w5.heap.size, 1, none⟩ = some ((.int .i64 ip)) := F18.c1
      have t_F210 : V11.cell? ⟨w6.heap.size, 0, none⟩ = some ((.int .i64 0)) := F21.c0
      have t_F211 : V11.cell? ⟨w6.heap.size, 1, none⟩ = some ((.int .i64 ip)) := F21.c1
      have t_F230 : V11.cell? ⟨w8.heap.size, 0, none⟩ = some ((.int .i64 co)) := F23.c0
      have t_F231 : V11.cell? ⟨w8.heap.size, 1, none⟩ = some ((.int .i64 io)) := F23.c1
      have t_F250 : V11.cell? ⟨w9.heap.size, 0, none⟩ = some ((.int .i64 co)) := F25.c0
      have t_F251 : V11.cell? ⟨w9.heap.size, 1, none⟩ = some ((.int .i64 io)) := F25.c1
      go_wp2_with fail
      clear t_F180 t_F181 t_F210 t_F211 t_F230 t_F231 t_F250 t_F251
      go_ret
      exact ⟨by first | rfl | (simp; done), E⟩
    · subst hm
      subst hk
      have d7 : (cp == 0) = false := beq_eq_false_iff_ne.2 (by omega)
      have t_F210 : V7.cell? ⟨w6.heap.size, 0, none⟩ = some ((.int .i64 cp)) := F21.c0
      have t_F211 : V7.cell? ⟨w6.heap.size, 1, none⟩ = some ((.int .i64 ip)) := F21.c1
      go_wp2_with fail
      clear t_F210 t_F211
      clear d7
      (with_reducible refine (HO1.out _).mono ?_)
      rintro e w8 ⟨rfl, hb8⟩
      have sw8 := hb8.size
      replace E : Below w.heap.size w w8 := E.trans (hb8.mono E.size)
      replace F18 : Bk2 w8 (w5.heap.size) (.int .i64 cp) (.int .i64 ip) := F18.below hb8 F18.lt
      replace F21 : Bk2 w8 (w6.heap.size) (.int .i64 cp) (.int .i64 ip) := F21.below hb8 F21.lt
      clear hb8
      go_wp2_with fail
      obtain ⟨V9, hV9⟩ : ∃ V9 : World, V9 = (w8.alloc (.cells #[.int .i64 co, .int .i64 io] 24)) := ⟨_, rfl⟩
      have bV9 : Below w8.heap.size w8 V9 := by rw [hV9]; (repeat (first | with_reducible exact Below.refl _ _ | with_reducible refine Below.drew ?_ | with_reducible refine below_drewN ?_ _ | with_reducible refine Below.setCell ?_ (by first | (simp; done) | (simp; omega) | omega) _ | with_reducible refine Below.alloc ?_ (by first | (simp; done) | (simp; omega) | omega) _))
      have zV9 : w8.heap.size + 1 ≤ V9.heap.size := by rw [hV9]; simp
      have F23 : Bk2 V9 (w8.heap.size) (.int .i64 co) (.int .i64 io) := by rw [hV9]; exact (Bk2.newAt _ _ (by simp) _ _ _)
      rw [← hV9]
      clear hV9
      replace E : Below w.heap.size w V9 := E.trans (bV9.mono E.size)
      replace F18 : Bk2 V9 (w5.heap.size) (.int .i64 cp) (.int .i64 ip) := F18.below bV9 F18.lt
      replace F21 : Bk2 V9 (w6.heap.size) (.int .i64 cp) (.int .i64 ip) := F21.below bV9 F21.lt
      clear bV9
      (with_reducible refine (HO2.out _ (hT.below E (Nat.le_refl _))).mono ?_)
      rintro e w9 ⟨rfl, hb9⟩
      have sw9 := hb9.size
      replace E : Below w.heap.size w w9 := E.trans (hb9.mono E.size)
      replace F18 : Bk2 w9 (w5.heap.size) (.int .i64 cp) (.int .i64 ip) := F18.below hb9 F18.lt
      replace F21 : Bk2 w9 (w6.heap.size) (.int .i64 cp) (.int .i64 ip) := F21.below hb9 F21.lt
      replace F23 : Bk2 w9 (w8.heap.size) (.int .i64 co) (.int .i64 io) := F23.below hb9 F23.lt
      clear hb9
      go_upto_region 20 with fail
      obtain ⟨V10, hV10⟩ : ∃ V10 : World, V10 = (w9.alloc (.cells #[.int .i64 co, .int .i64 io] 24)) := ⟨_, rfl⟩
      have bV10 : Below w9.heap.size w9 V10 := by rw [hV10]; (repeat (first | with_reducible exact Below.refl _ _ | with_reducible refine Below.drew ?_ | with_reducible refine below_drewN ?_ _ | with_reducible refine Below.setCell ?_ (by first | (simp; done) | (simp; omega) | omega) _ | with_reducible refine Below.alloc ?_ (by first | (simp; done) | (simp; omega) | omega) _))
      have zV10 : w9.heap.size + 1 ≤ V10.heap.size := by rw [hV10]; simp
      have F25 : Bk2 V10 (w9.heap.size) (.int .i64 co) (.int .i64 io) := by rw [hV10]; exact (Bk2.newAt _ _ (by simp) _ _ _)
      rw [← hV10]
      clear hV10
      replace E : Below w.heap.size w V10 := E.trans (bV10.mono E.size)
      replace F18 : Bk2 V10 (w5.heap.size) (.int .i64 cp) (.int .i64 ip) := F18.below bV10 F18.lt
      replace F21 : Bk2 V10 (w6.heap.size) (.int .i64 cp) (.int .i64 ip) := F21.below bV10 F21.lt
      replace F23 : Bk2 V10 (w8.heap.size) (.int .i64 co) (.int .i64 io) := F23.below bV10 F23.lt
      clear bV10
      have t_F180 : V10.cell? ⟨w5.heap.size, 0, none⟩ = some ((.int .i64 cp)) := F18.c0
      have t_F181 : V10.cell? ⟨w5.heap.size, 1, none⟩ = some ((.int .i64 ip)) := F18.c1
      have t_F210 : V10.cell? ⟨w6.heap.size, 0, none⟩ = some ((.int .i64 cp)) := F21.c0
      have t_F211 : V10.cell? ⟨w6.heap.size, 1, none⟩ = some ((.int .i64 ip)) := F21.c1
      have t_F230 : V10.cell? ⟨w8.heap.size, 0, none⟩ = some ((.int .i64 co)) := F23.c0
      have t_F231 : V10.cell? ⟨w8.heap.size, 1, none⟩ = some ((.int .i64 io)) := F23.c1
      have t_F250 : V10.cell? ⟨w9.heap.size, 0, none⟩ = some ((.int .i64 co)) := F25.c0
      have t_F251 : V10.cell? ⟨w9.heap.size, 1, none⟩ = some ((.int .i64 io)) := F25.c1
      go_wp2_with fail
      clear t_F180 t_F181 t_F210 t_F211 t_F230 t_F231 t_F250 t_F251
      go_ret
      exact ⟨by first | rfl | (simp; done), E⟩
theorem tells_any (w : World) (s : ByteArray) (a l q : Int) (hsz : s.size ≤ 1048576) (hT : Tabs w) :
    Calls Tryd.prog 3 #[.string s, .int .i64 a, .int .i64 l, .int .i64 q] w fun e w' => e = .returned (.bool true) ∧ Below w.heap.size w w' := by
  have hz : s.size ≤ 9223372036854775807 := by omega
  obtain ⟨x, c, i, hL, hx, hlin⟩ := lin_all s l hz
  obtain ⟨m, kk, cp, ip, hP⟩ := pos_all s a hz
  obtain ⟨o, co, io, hO⟩ := off_all s l q hsz
  rcases hL with ⟨hb, rfl⟩ | ⟨⟨hs, hg⟩, ⟨j, hl, hj, hX, rfl, rfl⟩ | ⟨hl, rfl, rfl, rfl⟩⟩
  · exact tells_bad w s a l q m kk cp ip o co io hsz hT (Lib.hid hb) (Lib.hid hlin) (Lib.hid hP) (Lib.hid hO)
  · exact tells_in w s a l q m kk cp ip o co io hsz hT j hl hj hs (Lib.hid hg) (Lib.hid hX) (Lib.hid hlin) (Lib.hid hP) (Lib.hid hO)
  · exact tells_out w s a l q m kk cp ip o co io hsz hT hs (Lib.hid hg) hl (Lib.hid hlin) (Lib.hid hP) (Lib.hid hO)
end Go.Proofs.YtlohapafpgihaaaDoor
