/- The reference's Moved of an integer. -/
import Derived.Test.YtpjfoggohhlbdaaVBit11
import Derived.Test.YtpjfoggohhlbdaaVBit9
import Derived.Test.YtpjfoggohhlbdaaVe
import Derived.Test.YtpjfoggohhlbdaaVd
import Derived.Deep.RegionHeld3
import Derived.Deep.DeepCutAuto
namespace Go.Proofs.Ytpjfoggohhlbdaa
open Go.RowKit
set_option maxHeartbeats 400000
set_option maxRecDepth 100000
set_option linter.unusedSimpArgs false
set_option linter.unusedVariables false

theorem mv_pos {p : Nat} {i : Int} {m : Bool} (h : m = false ∨ 0 ≤ i) : sval m (movedV p i) = zshift (sval m p) i := by
  unfold movedV zshift
  by_cases hi : i < 0
  · rw [if_pos hi, if_pos hi]
    rcases h with rfl | h
    · show ((p / _ : Nat) : Int) = ((p : Nat) : Int) / _
      rw [← Int.natCast_ediv]
    · omega
  · rw [if_neg hi, if_neg hi]
    cases m
    · show ((p * _ : Nat) : Int) = ((p : Nat) : Int) * _
      rw [← Int.natCast_mul]
    · show -((p * _ : Nat) : Int) = -((p : Nat) : Int) * _
      rw [Int.natCast_mul, Int.neg_mul]
theorem mv_neg {p : Nat} {i : Int} (hp : 0 < p) (hi : i < 0) : -((movedV (p - 1) i + 1 : Nat) : Int) = zshift (-((p : Nat) : Int)) i := by
  unfold movedV zshift
  rw [if_pos hi, if_pos hi, floor_neg hp (Nat.two_pow_pos _)]
theorem mv_le {p : Nat} {i : Int} (hi : i < 0) : movedV p i ≤ p := by
  unfold movedV; rw [if_pos hi]; exact Nat.div_le_self _ _
set_option maxHeartbeats 4000000 in
theorem imv_f (w : World) (B : Nat) (A : Option Addr) (k c p : Nat) (i : Int) (i1 : -9223372036854775808 ≤ i) (i2 : i ≤ 9223372036854775807) (xs : List Nat) (H : DRd w B A k c xs) (hB : B ≤ w.heap.size) (hk : k ≤ 100000) (hx : Rep 65536 xs p) (hi9 : i ≤ 1000000 ∨ p = 0) :
    Calls Try.prog 54 #[intv false A k c, .int .i64 i] w (GivesR w (zshift (sval false p) i)) := by
  have HX := Lib.hid hx
  have HI9 := Lib.hid hi9
  clear hx hi9
  have E : Below w.heap.size w w := Below.refl _ _
  go_enter Try.func54, Try.ntmps54
  go_upto_region 2 with fail
  obtain ⟨V0, hV0⟩ : ∃ V0 : World, V0 = ((w.alloc (.cells #[.bool false, .slice A k c] 37)).alloc (.cells #[.bool false, .slice none 0 0] 37)) := ⟨_, rfl⟩
  have bV0 : Below w.heap.size w V0 := by rw [hV0]; (repeat (first | with_reducible exact Below.refl _ _ | with_reducible refine Below.drew ?_ | with_reducible refine below_drewN ?_ _ | with_reducible refine Below.setCell ?_ (by first | (simp; done) | (simp; omega) | omega) _ | with_reducible refine Below.alloc ?_ (by first | (simp; done) | (simp; omega) | omega) _))
  have zV0 : w.heap.size + 2 ≤ V0.heap.size := by rw [hV0]; simp
  have PA : Bk2 V0 (w.heap.size) (.bool false) (.slice A k c) := by rw [hV0]; exact ((Bk2.newAt _ _ (by simp) _ _ _).alloc _)
  have PR : Bk2 V0 (w.heap.size + 1) (.bool false) (.slice none 0 0) := by rw [hV0]; exact (Bk2.newAt _ _ (by simp) _ _ _)
  rw [← hV0]
  clear hV0
  replace E : Below w.heap.size w V0 := E.trans (bV0.mono E.size)
  replace H : DRd V0 (B) A k c xs := H.below bV0 (by omega)
  clear bV0
  have ltA := PA.lt
  have HS := Lib.hid (fun (u : World) (hu : Below (w.heap.size + 1) V0 u) => (⟨(hu.cell (p := ⟨w.heap.size, 0, none⟩) (by show w.heap.size < _; omega)).trans PA.c0, (hu.cell (p := ⟨w.heap.size, 1, none⟩) (by show w.heap.size < _; omega)).trans PA.c1⟩ : u.cell? ⟨w.heap.size, 0, none⟩ = some (.bool false) ∧ u.cell? ⟨w.heap.size, 1, none⟩ = some (.slice A k c)))
  have G0 : Below V0.heap.size V0 V0.drew := Below.drew (Below.refl _ _)
  have G0m : Below (w.heap.size + 1) V0 V0.drew := G0.mono (by omega)
  have g0s := G0.size
  go_region_held3 (fun u => u.cell? ⟨w.heap.size, 0, none⟩ = some (.bool false) ∧ u.cell? ⟨w.heap.size, 1, none⟩ = some (.slice A k c)) (first | (refine HS.out _ ?_; (repeat (first | with_reducible exact G0m | with_reducible exact BN.mono (by omega) | fail | with_reducible exact Below.refl _ _ | with_reducible refine Below.drew ?_ | with_reducible refine below_drewN ?_ _ | with_reducible refine Below.setCell ?_ (by first | (simp; done) | (simp; omega) | omega) _)); done) | fail)
    (first
      | (go_at_call 47; (with_reducible refine (moved_any _ B A k c p i xs (H.below G0 (by omega)) (by omega) (by omega) HX.out HI9.out ⟨i1, i2⟩).mono ?_); rintro e u1 ⟨A1, k1, c1, x1, rfl, hd1, hr1, hb1⟩; have BN : Below V0.heap.size V0 u1 := bnext G0 hb1; have R1 := Lib.hid hr1; clear hr1; have PRq := PR.below BN PR.lt; obtain ⟨r0, r1, y0, y1, _⟩ := PRq)
      | fail)
  all_goals (go_wp2_with fail)
  all_goals
    have pr2 : Bk2 u1 (w.heap.size + 1) (.bool false) (.slice none 0 0) := ⟨r0, r1, y0, y1, by have := BN.size; have := PR.lt; omega⟩
    refine bodyPost_ret (v := intv false A1 k1 c1) (by simp [results, Try.results54, go_sem, r0, r1]) rfl ⟨false, A1, k1, c1, x1, _, rfl, ?_, R1.out, mv_pos (.inl rfl), ?_⟩
    · first | with_reducible exact (hd1.setBD pr2 (by simp) (by simp) _ _).more (by simp [World.setCell]) | with_reducible exact DRd.more (DRd.keep (hd1.setBD pr2 (by simp) (by simp) _ _) (fun _ _ => rfl)) (by simp [World.setCell])
    · (repeat (first | with_reducible exact E.trans (BN.mono E.size) | with_reducible refine Below.drew ?_ | with_reducible refine below_drewN ?_ _ | with_reducible refine Below.setCell ?_ (by first | (simp; done) | (simp; omega) | omega) _))
set_option maxHeartbeats 4000000 in
theorem imv_t (w : World) (B : Nat) (A : Option Addr) (k c p : Nat) (i : Int) (i1 : -9223372036854775808 ≤ i) (i2 : i ≤ 9223372036854775807) (xs : List Nat) (H : DRd w B A k c xs) (hB : B ≤ w.heap.size) (hk : k ≤ 100000) (hx : Rep 65536 xs p) (hi9 : i ≤ 1000000 ∨ p = 0) (hi : 0 ≤ i) :
    Calls Try.prog 54 #[intv true A k c, .int .i64 i] w (GivesR w (zshift (sval true p) i)) := by
  have HX := Lib.hid hx
  have HI9 := Lib.hid hi9
  clear hx hi9
  have E : Below w.heap.size w w := Below.refl _ _
  go_enter Try.func54, Try.ntmps54
  go_upto_region 2 with fail
  obtain ⟨V0, hV0⟩ : ∃ V0 : World, V0 = ((w.alloc (.cells #[.bool true, .slice A k c] 37)).alloc (.cells #[.bool false, .slice none 0 0] 37)) := ⟨_, rfl⟩
  have bV0 : Below w.heap.size w V0 := by rw [hV0]; (repeat (first | with_reducible exact Below.refl _ _ | with_reducible refine Below.drew ?_ | with_reducible refine below_drewN ?_ _ | with_reducible refine Below.setCell ?_ (by first | (simp; done) | (simp; omega) | omega) _ | with_reducible refine Below.alloc ?_ (by first | (simp; done) | (simp; omega) | omega) _))
  have zV0 : w.heap.size + 2 ≤ V0.heap.size := by rw [hV0]; simp
  have PA : Bk2 V0 (w.heap.size) (.bool true) (.slice A k c) := by rw [hV0]; exact ((Bk2.newAt _ _ (by simp) _ _ _).alloc _)
  have PR : Bk2 V0 (w.heap.size + 1) (.bool false) (.slice none 0 0) := by rw [hV0]; exact (Bk2.newAt _ _ (by simp) _ _ _)
  rw [← hV0]
  clear hV0
  replace E : Below w.heap.size w V0 := E.trans (bV0.mono E.size)
  replace H : DRd V0 (B) A k c xs := H.below bV0 (by omega)
  clear bV0
  have ltA := PA.lt
  have HS := Lib.hid (fun (u : World) (hu : Below (w.heap.size + 1) V0 u) => (⟨(hu.cell (p := ⟨w.heap.size, 0, none⟩) (by show w.heap.size < _; omega)).trans PA.c0, (hu.cell (p := ⟨w.heap.size, 1, none⟩) (by show w.heap.size < _; omega)).trans PA.c1⟩ : u.cell? ⟨w.heap.size, 0, none⟩ = some (.bool true) ∧ u.cell? ⟨w.heap.size, 1, none⟩ = some (.slice A k c)))
  have G0 : Below V0.heap.size V0 V0.drew := Below.drew (Below.refl _ _)
  have G0m : Below (w.heap.size + 1) V0 V0.drew := G0.mono (by omega)
  have g0s := G0.size
  go_region_held3 (fun u => u.cell? ⟨w.heap.size, 0, none⟩ = some (.bool true) ∧ u.cell? ⟨w.heap.size, 1, none⟩ = some (.slice A k c)) (first | (refine HS.out _ ?_; (repeat (first | with_reducible exact G0m | with_reducible exact BN.mono (by omega) | fail | with_reducible exact Below.refl _ _ | with_reducible refine Below.drew ?_ | with_reducible refine below_drewN ?_ _ | with_reducible refine Below.setCell ?_ (by first | (simp; done) | (simp; omega) | omega) _)); done) | fail)
    (first
      | (go_at_call 47; (with_reducible refine (moved_any _ B A k c p i xs (H.below G0 (by omega)) (by omega) (by omega) HX.out HI9.out ⟨i1, i2⟩).mono ?_); rintro e u1 ⟨A1, k1, c1, x1, rfl, hd1, hr1, hb1⟩; have BN : Below V0.heap.size V0 u1 := bnext G0 hb1; have R1 := Lib.hid hr1; clear hr1; have PRq := PR.below BN PR.lt; obtain ⟨r0, r1, y0, y1, _⟩ := PRq)
      | fail)
  all_goals (go_wp2_with fail)
  all_goals
    have pr2 : Bk2 u1 (w.heap.size + 1) (.bool false) (.slice none 0 0) := ⟨r0, r1, y0, y1, by have := BN.size; have := PR.lt; omega⟩
    refine bodyPost_ret (v := intv true A1 k1 c1) (by simp [results, Try.results54, go_sem, r0, r1]) rfl ⟨true, A1, k1, c1, x1, _, rfl, ?_, R1.out, mv_pos (.inr hi), ?_⟩
    · first | with_reducible exact (hd1.setBD pr2 (by simp) (by simp) _ _).more (by simp [World.setCell]) | with_reducible exact DRd.more (DRd.keep (hd1.setBD pr2 (by simp) (by simp) _ _) (fun _ _ => rfl)) (by simp [World.setCell])
    · (repeat (first | with_reducible exact E.trans (BN.mono E.size) | with_reducible refine Below.drew ?_ | with_reducible refine below_drewN ?_ _ | with_reducible refine Below.setCell ?_ (by first | (simp; done) | (simp; omega) | omega) _))
theorem kle {xs ys : List Nat} {p k k2 : Nat} (h : Rep 65536 ys (p - 1)) (hx : Rep 65536 xs p) (hl : xs.length = k) (hl2 : ys.length = k2) : k2 ≤ k := by
  have h1 := hx.lt_pow (by decide)
  rw [hl] at h1
  have := h.length_le (m := k) (by decide) (by omega)
  omega
theorem kle2 {xs ys : List Nat} {p k k2 : Nat} {i : Int} (h : Rep 65536 ys (movedV (p - 1) i)) (hx : Rep 65536 xs p) (hl : xs.length = k) (hl2 : ys.length = k2) (hi : i < 0) : k2 ≤ k := by
  have h1 := hx.lt_pow (by decide)
  rw [hl] at h1
  have h3 := mv_le (p := p - 1) hi
  have := h.length_le (m := k) (by decide) (by omega)
  omega
theorem plusv (w : World) (B : Nat) (A D : Option Addr) (n m c d : Nat) (xs ys : List Nat) (h : DRd w B A n c xs) (k : DRd w B D m d ys) (hB : B ≤ w.heap.size) (hn : n ≤ 1000000) (hm : m ≤ 1000000) :
    Calls Try.prog 76 #[.slice A n c, .slice D m d] w (GivesN w (vb 65536 xs + vb 65536 ys)) := by
  obtain ⟨M, hM1, hM2, hM3⟩ : ∃ M, n ≤ M ∧ m ≤ M ∧ (M = n ∨ M = m) := ⟨max n m, by omega, by omega, by omega⟩
  exact plus_any w B A D n m c d M xs ys h k hB hM1 hM2 (by omega) hM3
set_option maxHeartbeats 4000000 in
theorem imv_n (w : World) (B : Nat) (A : Option Addr) (k c p : Nat) (i : Int) (i1 : -9223372036854775808 ≤ i) (i2 : i ≤ 9223372036854775807) (xs : List Nat) (H : DRd w B A k c xs) (hB : B ≤ w.heap.size) (hk : k ≤ 100000) (h0 : 0 < k) (hx : Rep 65536 xs p) (hp : 1 ≤ p) (hi : i < 0) :
    Calls Try.prog 54 #[intv true A k c, .int .i64 i] w (GivesR w (zshift (sval true p) i)) := by
  have HX := Lib.hid hx
  have HP := Lib.hid hp
  clear hx hp
  have E : Below w.heap.size w w := Below.refl _ _
  go_enter Try.func54, Try.ntmps54
  go_upto_region 3 with fail
  obtain ⟨V0, hV0⟩ : ∃ V0 : World, V0 = ((w.alloc (.cells #[.bool true, .slice A k c] 37)).alloc (.cells #[.bool false, .slice none 0 0] 37)) := ⟨_, rfl⟩
  have bV0 : Below w.heap.size w V0 := by rw [hV0]; (repeat (first | with_reducible exact Below.refl _ _ | with_reducible refine Below.drew ?_ | with_reducible refine below_drewN ?_ _ | with_reducible refine Below.setCell ?_ (by first | (simp; done) | (simp; omega) | omega) _ | with_reducible refine Below.alloc ?_ (by first | (simp; done) | (simp; omega) | omega) _))
  have zV0 : w.heap.size + 2 ≤ V0.heap.size := by rw [hV0]; simp
  have PA : Bk2 V0 (w.heap.size) (.bool true) (.slice A k c) := by rw [hV0]; exact ((Bk2.newAt _ _ (by simp) _ _ _).alloc _)
  have PR : Bk2 V0 (w.heap.size + 1) (.bool false) (.slice none 0 0) := by rw [hV0]; exact (Bk2.newAt _ _ (by simp) _ _ _)
  rw [← hV0]
  clear hV0
  replace E : Below w.heap.size w V0 := E.trans (bV0.mono E.size)
  replace H : DRd V0 (B) A k c xs := H.below bV0 (by omega)
  clear bV0
  have ltA := PA.lt
  have HS := Lib.hid (fun (u : World) (hu : Below (w.heap.size + 1) V0 u) => (⟨(hu.cell (p := ⟨w.heap.size, 0, none⟩) (by show w.heap.size < _; omega)).trans PA.c0, (hu.cell (p := ⟨w.heap.size, 1, none⟩) (by show w.heap.size < _; omega)).trans PA.c1⟩ : u.cell? ⟨w.heap.size, 0, none⟩ = some (.bool true) ∧ u.cell? ⟨w.heap.size, 1, none⟩ = some (.slice A k c)))
  have G0 : Below V0.heap.size V0 V0.drew := Below.drew (Below.refl _ _)
  have G0m : Below (w.heap.size + 1) V0 V0.drew := G0.mono (by omega)
  have g0s := G0.size
  go_region_held3 (fun u => u.cell? ⟨w.heap.size, 0, none⟩ = some (.bool true) ∧ u.cell? ⟨w.heap.size, 1, none⟩ = some (.slice A k c)) (first | (refine HS.out _ ?_; (repeat (first | with_reducible exact G0m | with_reducible exact BN.mono (by omega) | with_reducible exact B4.mono (by omega) | with_reducible exact B3.mono (by omega) | with_reducible exact B2.mono (by omega) | with_reducible exact B1.mono (by omega) | with_reducible exact Below.refl _ _ | with_reducible refine Below.drew ?_ | with_reducible refine below_drewN ?_ _ | with_reducible refine Below.setCell ?_ (by first | (simp; done) | (simp; omega) | omega) _)); done) | fail)
    (first
      | (go_at_call 89; (with_reducible refine (small_1 _).mono ?_); rintro e u4 ⟨A4, k4, c4, x4, rfl, hd4, hr4, hb4⟩; have B4 : Below V0.heap.size V0 u4 := bnext B3 hb4; have L4 := rep_one' hr4 hd4.len.out; have VV4 := Lib.hid hr4.val; clear hr4; have hd3q := hd3.below hb4 (Nat.le_refl _))
      | (go_at_call 89; (with_reducible refine (small_1 _).mono ?_); rintro e u1 ⟨A1, k1, c1, x1, rfl, hd1, hr1, hb1⟩; have B1 : Below V0.heap.size V0 u1 := bnext G0 hb1; have L1 := rep_one' hr1 hd1.len.out; have VV1 := Lib.hid hr1.val; clear hr1; have PR1 := PR.below B1 PR.lt; have mk1 : True := trivial)
      | (go_at_call 77; (with_reducible refine (minus_any _ u1.heap.size A A1 k k1 c c1 xs x1 ((H.below B1 (by omega)).more (by have := B1.size; omega)) hd1 (Nat.le_refl _) (by omega) (by omega) (by rw [VV1.out, HX.out.val]; exact HP.out)).mono ?_); rintro e u2 ⟨A2, k2, c2, x2, rfl, hd2, hr2, hb2⟩; have R2 := Lib.hid hr2; have L2 := (by have h9 := hr2; rw [VV1.out, HX.out.val] at h9; exact kle h9 HX.out H.len.out hd2.len.out : k2 ≤ k); clear hr2; have B2 : Below V0.heap.size V0 u2 := bnext B1 hb2)
      | (go_at_call 47; (with_reducible refine (moved_any _ u2.heap.size A2 k2 c2 (p - 1) i x2 hd2 (Nat.le_refl _) (by omega) (by have h9 := R2.out; rw [VV1.out, HX.out.val] at h9; exact h9) (.inl (by omega)) ⟨i1, i2⟩).mono ?_); rintro e u3 ⟨A3, k3, c3, x3, rfl, hd3, hr3, hb3⟩; have R3 := Lib.hid hr3; have L3 := (kle2 hr3 HX.out H.len.out hd3.len.out hi : k3 ≤ k); clear hr3; have B3 : Below V0.heap.size V0 u3 := bnext B2 hb3)
      | (go_at_call 76; (with_reducible refine (plusv _ u4.heap.size A3 A4 k3 k4 c3 c4 x3 x4 (hd3q.more (by have := hb4.size; omega)) hd4 (Nat.le_refl _) (by omega) (by omega)).mono ?_); rintro e u5 ⟨A5, k5, c5, x5, rfl, hd5, hr5, hb5⟩; have R5 := Lib.hid hr5; clear hr5; have BN : Below V0.heap.size V0 u5 := bnext B4 hb5; have PRq := PR.below BN PR.lt; obtain ⟨r0, r1, y0, y1, _⟩ := PRq)
      | fail)
  all_goals (go_wp2_with fail)
  all_goals
    have pr2 : Bk2 u5 (w.heap.size + 1) (.bool false) (.slice none 0 0) := ⟨r0, r1, y0, y1, by have := BN.size; have := PR.lt; omega⟩
    refine bodyPost_ret (v := intv true A5 k5 c5) (by simp [results, Try.results54, go_sem, r0, r1]) rfl ⟨true, A5, k5, c5, x5, _, rfl, ?_, R5.out, (by rw [R3.out.val, VV4.out]; exact mv_neg HP.out hi), ?_⟩
    · first | with_reducible exact (hd5.setBD pr2 (by simp) (by simp) _ _).more (by simp [World.setCell]) | with_reducible exact DRd.more (DRd.keep (hd5.setBD pr2 (by simp) (by simp) _ _) (fun _ _ => rfl)) (by simp [World.setCell])
    · (repeat (first | with_reducible exact E.trans (BN.mono E.size) | with_reducible refine Below.drew ?_ | with_reducible refine below_drewN ?_ _ | with_reducible refine Below.setCell ?_ (by first | (simp; done) | (simp; omega) | omega) _))
end Go.Proofs.Ytpjfoggohhlbdaa
