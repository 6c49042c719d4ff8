/- The reference's Raised. -/
import Derived.Test.YtflmcgoijofpdaaGreatAPow6
import Derived.Test.YtflmcgoijofpdaaGreatAc
import Derived.Test.YtflmcgoijofpdaaGreatAFloorU
import Derived.Test.YtflmcgoijofpdaaGreatAe
namespace Go.Proofs.YtflmcgoijofpdaaGreat
open Go.RowKit
set_option maxHeartbeats 400000
set_option maxRecDepth 100000
set_option linter.unusedSimpArgs false
set_option linter.unusedVariables false

def RsPost (z : Int) (n : Nat) (w : World) (e : Ending) (w' : World) : Prop :=
  (∃ m A k c zs v, e = .returned (.tuple #[intv m A k c, .bool true]) ∧ DRd w' w'.heap.size A k c zs ∧ Rep 65536 zs v ∧ sval m v = z ^ n ∧ (z ^ n).natAbs < Top128 ∧ Below w.heap.size w w') ∨
  (e = .returned (.tuple #[intv false none 0 0, .bool false]) ∧ Top128 ≤ (z ^ n).natAbs ∧ Below w.heap.size w w')
def RsRel (s g : Nat) (m : Bool) (A : Option Addr) (k c : Nat) (z : Int) (n : Nat) (W : World) (i : Value) (wr : World) : Prop :=
  ∃ j mo Ao ko co zo vo, j ≤ n ∧ i = .int .i64 ((j : Nat) : Int) ∧ Bk2 wr s (.bool m) (.slice A k c) ∧ Bk2 wr (s + 1) (.bool false) (.slice none 0 0) ∧ Bk2 wr g (.bool mo) (.slice Ao ko co) ∧ DRd wr wr.heap.size Ao ko co zo ∧ Hid (Rep 65536 zo vo) ∧ Hid (sval mo vo = z ^ (n - j)) ∧ ko ≤ 256 ∧ Below s W wr
theorem len_256 {zs : List Nat} {v k : Nat} (h : Rep 65536 zs v) (hl : zs.length = k) (hk : k ≤ 256) : v < Top128 := by
  rcases Nat.lt_or_ge v Top128 with h1 | h1
  · exact h1
  · have := fits_len' h hl h1
    omega
theorem pow_over {z : Int} {k n : Nat} (h : Top128 ≤ (z ^ k).natAbs) (hk : k ≤ n) : Top128 ≤ (z ^ n).natAbs := by
  rw [Int.natAbs_pow] at h ⊢
  exact pw_over h hk
theorem rep_one {xs : List Nat} {k : Nat} (h : Rep 65536 xs 1) (hl : xs.length = k) : k ≤ 1 := by
  have := h.length_le (m := 1) (by decide) (by decide)
  omega
set_option maxHeartbeats 4000000 in
theorem raised_nil (w : World) (B : Nat) (m : Bool) (A : Option Addr) (c n : Nat) (xs : List Nat) (H : DRd w B A 0 c xs) (hB : B ≤ w.heap.size) (hn : 0 < n) (hn2 : n ≤ 10000) :
    Calls Tryz.prog 32 #[intv m A 0 c, .int .i64 (n : Int)] w (RsPost (sval m 0) n w) := by
  have E : Below w.heap.size w w := Below.refl _ _
  have hc0 := H.cap
  go_enter Tryz.func32, Tryz.ntmps32
  have hn1 : 0 < (n : Int) := by omega
  go_wp2_with fail
  obtain ⟨V0, hV0⟩ : ∃ V0 : World, V0 = ((w.alloc (.cells #[.bool m, .slice A 0 c] 40)).alloc (.cells #[.bool false, .slice none 0 0] 40)) := ⟨_, rfl⟩
  have bV0 : Below w.heap.size w V0 := by rw [hV0]; (repeat (first | with_reducible exact Below.refl _ _ | with_reducible refine Below.drew ?_ | with_reducible refine below_drewN ?_ _ | with_reducible refine Below.setCell ?_ (by first | (simp; done) | (simp; omega) | omega) _ | with_reducible refine Below.alloc ?_ (by first | (simp; done) | (simp; omega) | omega) _))
  have zV0 : w.heap.size + 2 ≤ V0.heap.size := by rw [hV0]; simp
  have PA : Bk2 V0 (w.heap.size) (.bool m) (.slice A 0 c) := by rw [hV0]; exact ((Bk2.newAt _ _ (by simp) _ _ _).alloc _)
  have PR : Bk2 V0 (w.heap.size + 1) (.bool false) (.slice none 0 0) := by rw [hV0]; exact (Bk2.newAt _ _ (by simp) _ _ _)
  rw [← hV0]
  clear hV0
  replace E := E.trans (bV0.mono E.size)
  replace H := H.below bV0 (by omega)
  clear bV0
  obtain ⟨r0, r1, _, _, _⟩ := PR
  refine bodyPost_ret (v := .tuple #[intv false none 0 0, .bool true]) (by simp [results, Tryz.results32, go_sem, r0, r1]) rfl (.inl ⟨false, none, 0, 0, [], 0, rfl, nil_drd _, ⟨(by intro x hx; cases hx), rfl, Top.nil⟩, ?_, ?_, E⟩)
  · have : sval m 0 = 0 := by cases m <;> rfl
    rw [this, Int.zero_pow (by omega)]; rfl
  · have : sval m 0 = 0 := by cases m <;> rfl
    rw [this, Int.zero_pow (by omega)]; exact lt_top (by decide)
set_option maxHeartbeats 4000000 in
theorem raised_zero (w : World) (B : Nat) (m : Bool) (A : Option Addr) (c : Nat) (xs : List Nat) (H : DRd w B A 0 c xs) (hB : B ≤ w.heap.size) (hx : Rep 65536 xs 0) :
    Calls Tryz.prog 32 #[intv m A 0 c, .int .i64 0] w (RsPost (sval m 0) 0 w) := by
  have HX := Lib.hid hx
  clear hx
  have E : Below w.heap.size w w := Below.refl _ _
  have hc0 := H.cap
  go_enter Tryz.func32, Tryz.ntmps32
  go_wp2_with fail
  obtain ⟨V0, hV0⟩ : ∃ V0 : World, V0 = ((w.alloc (.cells #[.bool m, .slice A 0 c] 40)).alloc (.cells #[.bool false, .slice none 0 0] 40)) := ⟨_, rfl⟩
  have bV0 : Below w.heap.size w V0 := by rw [hV0]; (repeat (first | with_reducible exact Below.refl _ _ | with_reducible refine Below.drew ?_ | with_reducible refine below_drewN ?_ _ | with_reducible refine Below.setCell ?_ (by first | (simp; done) | (simp; omega) | omega) _ | with_reducible refine Below.alloc ?_ (by first | (simp; done) | (simp; omega) | omega) _))
  have zV0 : w.heap.size + 2 ≤ V0.heap.size := by rw [hV0]; simp
  have PA : Bk2 V0 (w.heap.size) (.bool m) (.slice A 0 c) := by rw [hV0]; exact ((Bk2.newAt _ _ (by simp) _ _ _).alloc _)
  have PR : Bk2 V0 (w.heap.size + 1) (.bool false) (.slice none 0 0) := by rw [hV0]; exact (Bk2.newAt _ _ (by simp) _ _ _)
  rw [← hV0]
  clear hV0
  replace E := E.trans (bV0.mono E.size)
  replace H := H.below bV0 (by omega)
  clear bV0
  (with_reducible refine (small_one _).mono ?_)
  rintro e w3 ⟨A3, k3, c3, x3, rfl, hd3, hr3, hb3⟩
  have sw3 := hb3.size
  replace E := E.trans (hb3.mono E.size)
  replace H := H.below hb3 (by omega)
  replace PA := PA.below hb3 PA.lt
  replace PR := PR.below hb3 PR.lt
  clear hb3
  have R3 := Lib.hid hr3
  have kl3 := rep_one hr3 hd3.len.out
  have c3c := hd3.cap
  clear hr3
  go_upto_region 4 with fail
  obtain ⟨V1, hV1⟩ : ∃ V1 : World, V1 = (w3.alloc (.cells #[.bool false, .slice A3 k3 c3] 40)) := ⟨_, rfl⟩
  have bV1 : Below w3.heap.size w3 V1 := by rw [hV1]; (repeat (first | with_reducible exact Below.refl _ _ | with_reducible refine Below.drew ?_ | with_reducible refine below_drewN ?_ _ | with_reducible refine Below.setCell ?_ (by first | (simp; done) | (simp; omega) | omega) _ | with_reducible refine Below.alloc ?_ (by first | (simp; done) | (simp; omega) | omega) _))
  have zV1 : w3.heap.size + 1 ≤ V1.heap.size := by rw [hV1]; simp
  have PO : Bk2 V1 (w3.heap.size) (.bool false) (.slice A3 k3 c3) := by rw [hV1]; exact (Bk2.newAt _ _ (by simp) _ _ _)
  rw [← hV1]
  clear hV1
  replace E := E.trans (bV1.mono E.size)
  replace H := H.below bV1 (by omega)
  replace PA := PA.below bV1 PA.lt
  replace PR := PR.below bV1 PR.lt
  replace hd3 := hd3.below bV1 (by omega)
  clear bV1
  have G0 : Below V1.heap.size V1 V1.drew := Below.drew (Below.refl _ _)
  have HS := Lib.hid (fun (u : World) (hu : Below V1.heap.size V1 u) => (⟨hu, (PA.below hu PA.lt).c0, (PA.below hu PA.lt).c1⟩ : Below V1.heap.size V1 u ∧ u.cell? ⟨w.heap.size, 0, none⟩ = some (.bool m) ∧ u.cell? ⟨w.heap.size, 1, none⟩ = some (.slice A 0 c)))
  go_region_held3 (fun u => Below V1.heap.size V1 u ∧ u.cell? ⟨w.heap.size, 0, none⟩ = some (.bool m) ∧ u.cell? ⟨w.heap.size, 1, none⟩ = some (.slice A 0 c)) (first | with_reducible exact HS.out _ G0 | with_reducible exact HS.out _ B2 | with_reducible exact HS.out _ B1 | fail)
    (first
      | (go_at_call 40; (with_reducible refine (small_one _).mono ?_); rintro e u1 ⟨A4, k4, c4, x4, rfl, hd4, hr4, hb4⟩; have B1 : Below V1.heap.size V1 u1 := bnext G0 hb4)
      | (go_at_call 46; (with_reducible refine (compareD_any _ u1.heap.size A A4 0 k4 c c4 xs x4 ((H.below B1 (by omega)).more (by have := B1.size; omega)) hd4).mono ?_); rintro e u2 ⟨q, rfl, hci, dr, rfl⟩; have hcv := cmp_rep (by decide) hci H.len.out hd4.len.out HX.out hr4; have B2 : Below V1.heap.size V1 (u1.drewN dr) := below_drewN B1 dr; obtain rfl : q = -1 := (by unfold CmpV at hcv; omega); clear hci hcv)
      | fail)
  all_goals (go_upto_region 6 with fail)
  clear HS G0 hd4 hr4 hb4 B1
  obtain ⟨U4, hU4⟩ : ∃ U4 : World, U4 = u1.drewN dr := ⟨_, rfl⟩
  rw [← hU4] at B2
  rw [← hU4]
  clear hU4
  have s4 := B2.size
  replace E := E.trans (B2.mono E.size)
  replace H := H.below B2 (by omega)
  replace PA := PA.below B2 PA.lt
  replace PR := PR.below B2 PR.lt
  replace hd3 := hd3.below B2 (by omega)
  replace PO := PO.below B2 PO.lt
  clear B2
  have E9 := Lib.hid E
  have hgs : w.heap.size + 2 ≤ w3.heap.size := by omega
  obtain ⟨g, hg⟩ : ∃ g, g = w3.heap.size := ⟨_, rfl⟩
  rw [← hg] at hgs PO ⊢
  clear hg
  go_loopw [1] (RsRel w.heap.size g m A 0 c (sval m 0) 0 w) (fun i _ => (intOf i).toNat)
  case atStart => exact ⟨0, false, A3, k3, c3, x3, 1, Nat.le_refl _, rfl, PA, PR, PO, hd3.more (by omega), R3, Lib.hid (by rw [Nat.sub_self, Int.pow_zero]; rfl), by omega, E⟩
  case round =>
    obtain ⟨j, mo, Ao, ko, co, zo, vo, hj, rfl, P1, P2, P3, hdo, hro, hvo, hk256, hbw⟩ := hrel
    have hcc := hdo.cap
    rcases j with _ | j
    · clear E PA PR PO hd3 H
      have y_P20 := P2.c0
      have z_P20 := P2.z0
      have y_P21 := P2.c1
      have z_P21 := P2.z1
      have lt_P2 := P2.lt
      have t_P30 := P3.c0
      have t_P31 := P3.c1
      have lt_P3 := P3.lt
      go_wp2_with fail
      clear y_P20 z_P20 y_P21 z_P21 lt_P2 t_P30 t_P31 lt_P3
      obtain ⟨U0P2, hU0P2⟩ : ∃ U0P2 : World, U0P2 = ((wr.setCell ⟨w.heap.size + 1, 0, none⟩ (.bool mo)).setCell ⟨w.heap.size + 1, 1, none⟩ (.slice Ao ko co)) := ⟨_, rfl⟩
      have zU0P2 : U0P2.heap.size = wr.heap.size := by rw [hU0P2]; simp [World.setCell]
      replace hbw : Below w.heap.size w U0P2 := by rw [hU0P2]; exact (hbw.setCell (by first | (simp; done) | (simp; omega)) _).setCell (by first | (simp; done) | (simp; omega)) _
      replace P1 : Bk2 U0P2 (w.heap.size) (.bool m) (.slice A 0 c) := by rw [hU0P2]; exact P1.far2 (by omega) _ _
      replace P3 : Bk2 U0P2 (g) (.bool mo) (.slice Ao ko co) := by rw [hU0P2]; exact P3.far2 (by omega) _ _
      replace hdo : DRd U0P2 (wr.heap.size) Ao ko co zo := by rw [hU0P2]; first | exact hdo.setFar2 (by omega) _ _ | exact hdo.setBD P2 (by simp) (by simp) _ _
      replace P2 : Bk2 U0P2 (w.heap.size + 1) (.bool mo) (.slice Ao ko co) := by rw [hU0P2]; exact P2.set _ _
      rw [← hU0P2]
      clear hU0P2
      have zU0P2' := Nat.le_of_eq zU0P2
      replace zU0P2 := Nat.le_of_eq zU0P2.symm
      obtain ⟨r0, r1, _, _, _⟩ := P2
      refine bodyPost_ret (v := .tuple #[intv mo Ao ko co, .bool true]) (by simp [results, Tryz.results32, go_sem, r0, r1]) rfl (.inl ⟨mo, Ao, ko, co, zo, vo, rfl, hdo.more (by omega), hro.out, hvo.out, ?_, hbw⟩)
      have h9 := hvo.out
      rw [Nat.sub_zero] at h9
      rw [← h9, sval_abs]
      exact len_256 hro.out hdo.len.out hk256
    · omega
set_option maxHeartbeats 4000000 in
theorem raised_more (w : World) (B : Nat) (m : Bool) (A : Option Addr) (k c p n : Nat) (xs : List Nat) (H : DRd w B A k c xs) (hB : B ≤ w.heap.size) (hx : Rep 65536 xs p) (hk : k ≤ 100000) (h0 : 0 < k) (hp : 2 ≤ p) (hn : n ≤ 10000) :
    Calls Tryz.prog 32 #[intv m A k c, .int .i64 (n : Int)] w (RsPost (sval m p) n w) := by
  have HX := Lib.hid hx
  have HPM := Lib.hid hp
  have H0 := Lib.hid H
  clear hx hp
  have E : Below w.heap.size w w := Below.refl _ _
  have hc0 := H.cap
  go_enter Tryz.func32, Tryz.ntmps32
  have hk1 : 0 < (k : Int) := by omega
  have hn9 : (n : Int) ≤ 10000 := by omega
  go_wp2_with fail
  obtain ⟨V0, hV0⟩ : ∃ V0 : World, V0 = ((w.alloc (.cells #[.bool m, .slice A k c] 40)).alloc (.cells #[.bool false, .slice none 0 0] 40)) := ⟨_, rfl⟩
  have bV0 : Below w.heap.size w V0 := by rw [hV0]; (repeat (first | with_reducible exact Below.refl _ _ | with_reducible refine Below.drew ?_ | with_reducible refine below_drewN ?_ _ | with_reducible refine Below.setCell ?_ (by first | (simp; done) | (simp; omega) | omega) _ | with_reducible refine Below.alloc ?_ (by first | (simp; done) | (simp; omega) | omega) _))
  have zV0 : w.heap.size + 2 ≤ V0.heap.size := by rw [hV0]; simp
  have PA : Bk2 V0 (w.heap.size) (.bool m) (.slice A k c) := by rw [hV0]; exact ((Bk2.newAt _ _ (by simp) _ _ _).alloc _)
  have PR : Bk2 V0 (w.heap.size + 1) (.bool false) (.slice none 0 0) := by rw [hV0]; exact (Bk2.newAt _ _ (by simp) _ _ _)
  rw [← hV0]
  clear hV0
  replace E := E.trans (bV0.mono E.size)
  replace H := H.below bV0 (by omega)
  clear bV0
  (with_reducible refine (small_one _).mono ?_)
  rintro e w3 ⟨A3, k3, c3, x3, rfl, hd3, hr3, hb3⟩
  have sw3 := hb3.size
  replace E := E.trans (hb3.mono E.size)
  replace H := H.below hb3 (by omega)
  replace PA := PA.below hb3 PA.lt
  replace PR := PR.below hb3 PR.lt
  clear hb3
  have R3 := Lib.hid hr3
  have kl3 := rep_one hr3 hd3.len.out
  have c3c := hd3.cap
  clear hr3
  go_upto_region 4 with fail
  obtain ⟨V1, hV1⟩ : ∃ V1 : World, V1 = (w3.alloc (.cells #[.bool false, .slice A3 k3 c3] 40)) := ⟨_, rfl⟩
  have bV1 : Below w3.heap.size w3 V1 := by rw [hV1]; (repeat (first | with_reducible exact Below.refl _ _ | with_reducible refine Below.drew ?_ | with_reducible refine below_drewN ?_ _ | with_reducible refine Below.setCell ?_ (by first | (simp; done) | (simp; omega) | omega) _ | with_reducible refine Below.alloc ?_ (by first | (simp; done) | (simp; omega) | omega) _))
  have zV1 : w3.heap.size + 1 ≤ V1.heap.size := by rw [hV1]; simp
  have PO : Bk2 V1 (w3.heap.size) (.bool false) (.slice A3 k3 c3) := by rw [hV1]; exact (Bk2.newAt _ _ (by simp) _ _ _)
  rw [← hV1]
  clear hV1
  replace E := E.trans (bV1.mono E.size)
  replace H := H.below bV1 (by omega)
  replace PA := PA.below bV1 PA.lt
  replace PR := PR.below bV1 PR.lt
  replace hd3 := hd3.below bV1 (by omega)
  clear bV1
  have G0 : Below V1.heap.size V1 V1.drew := Below.drew (Below.refl _ _)
  have HS := Lib.hid (fun (u : World) (hu : Below V1.heap.size V1 u) => (⟨hu, (PA.below hu PA.lt).c0, (PA.below hu PA.lt).c1⟩ : Below V1.heap.size V1 u ∧ u.cell? ⟨w.heap.size, 0, none⟩ = some (.bool m) ∧ u.cell? ⟨w.heap.size, 1, none⟩ = some (.slice A k c)))
  go_region_held3 (fun u => Below V1.heap.size V1 u ∧ u.cell? ⟨w.heap.size, 0, none⟩ = some (.bool m) ∧ u.cell? ⟨w.heap.size, 1, none⟩ = some (.slice A k c)) (first | with_reducible exact HS.out _ G0 | with_reducible exact HS.out _ B2 | with_reducible exact HS.out _ B1 | fail)
    (first
      | (go_at_call 40; (with_reducible refine (small_one _).mono ?_); rintro e u1 ⟨A4, k4, c4, x4, rfl, hd4, hr4, hb4⟩; have B1 : Below V1.heap.size V1 u1 := bnext G0 hb4)
      | (go_at_call 46; (with_reducible refine (compareD_any _ u1.heap.size A A4 k k4 c c4 xs x4 ((H.below B1 (by omega)).more (by have := B1.size; omega)) hd4).mono ?_); rintro e u2 ⟨q, rfl, hci, dr, rfl⟩; have hcv := cmp_rep (by decide) hci H.len.out hd4.len.out HX.out hr4; have B2 : Below V1.heap.size V1 (u1.drewN dr) := below_drewN B1 dr; obtain rfl : q = 1 := (by have := HPM.out; unfold CmpV at hcv; omega); clear hci hcv)
      | fail)
  all_goals (go_upto_region 6 with fail)
  clear HS G0 hd4 hr4 hb4 B1
  obtain ⟨U4, hU4⟩ : ∃ U4 : World, U4 = u1.drewN dr := ⟨_, rfl⟩
  rw [← hU4] at B2
  rw [← hU4]
  clear hU4
  have s4 := B2.size
  replace E := E.trans (B2.mono E.size)
  replace H := H.below B2 (by omega)
  replace PA := PA.below B2 PA.lt
  replace PR := PR.below B2 PR.lt
  replace hd3 := hd3.below B2 (by omega)
  replace PO := PO.below B2 PO.lt
  clear B2
  have E9 := Lib.hid E
  have hgs : w.heap.size + 2 ≤ w3.heap.size := by omega
  obtain ⟨g, hg⟩ : ∃ g, g = w3.heap.size := ⟨_, rfl⟩
  rw [← hg] at hgs PO ⊢
  clear hg
  go_loopw [1] (RsRel w.heap.size g m A k c (sval m p) n w) (fun i _ => (intOf i).toNat)
  case atStart => exact ⟨n, false, A3, k3, c3, x3, 1, Nat.le_refl _, rfl, PA, PR, PO, hd3.more (by omega), R3, Lib.hid (by rw [Nat.sub_self, Int.pow_zero]; rfl), by omega, E⟩
  case round =>
    obtain ⟨j, mo, Ao, ko, co, zo, vo, hj, rfl, P1, P2, P3, hdo, hro, hvo, hk256, hbw⟩ := hrel
    have hcc := hdo.cap
    rcases j with _ | j
    · clear E PA PR PO hd3
      have y_P20 := P2.c0
      have z_P20 := P2.z0
      have y_P21 := P2.c1
      have z_P21 := P2.z1
      have lt_P2 := P2.lt
      have t_P30 := P3.c0
      have t_P31 := P3.c1
      have lt_P3 := P3.lt
      go_wp2_with fail
      clear y_P20 z_P20 y_P21 z_P21 lt_P2 t_P30 t_P31 lt_P3
      obtain ⟨U0P2, hU0P2⟩ : ∃ U0P2 : World, U0P2 = ((wr.setCell ⟨w.heap.size + 1, 0, none⟩ (.bool mo)).setCell ⟨w.heap.size + 1, 1, none⟩ (.slice Ao ko co)) := ⟨_, rfl⟩
      have zU0P2 : U0P2.heap.size = wr.heap.size := by rw [hU0P2]; simp [World.setCell]
      replace hbw : Below w.heap.size w U0P2 := by rw [hU0P2]; exact (hbw.setCell (by first | (simp; done) | (simp; omega)) _).setCell (by first | (simp; done) | (simp; omega)) _
      replace P1 : Bk2 U0P2 (w.heap.size) (.bool m) (.slice A k c) := by rw [hU0P2]; exact P1.far2 (by omega) _ _
      replace P3 : Bk2 U0P2 (g) (.bool mo) (.slice Ao ko co) := by rw [hU0P2]; exact P3.far2 (by omega) _ _
      replace hdo : DRd U0P2 (wr.heap.size) Ao ko co zo := by rw [hU0P2]; first | exact hdo.setFar2 (by omega) _ _ | exact hdo.setBD P2 (by simp) (by simp) _ _
      replace P2 : Bk2 U0P2 (w.heap.size + 1) (.bool mo) (.slice Ao ko co) := by rw [hU0P2]; exact P2.set _ _
      rw [← hU0P2]
      clear hU0P2
      have zU0P2' := Nat.le_of_eq zU0P2
      replace zU0P2 := Nat.le_of_eq zU0P2.symm
      obtain ⟨r0, r1, _, _, _⟩ := P2
      refine bodyPost_ret (v := .tuple #[intv mo Ao ko co, .bool true]) (by simp [results, Tryz.results32, go_sem, r0, r1]) rfl (.inl ⟨mo, Ao, ko, co, zo, vo, rfl, hdo.more (by omega), hro.out, hvo.out, ?_, hbw⟩)
      have h9 := hvo.out
      rw [Nat.sub_zero] at h9
      rw [← h9, sval_abs]
      exact len_256 hro.out hdo.len.out hk256
    · have H9 : DRd wr wr.heap.size A k c xs := (H0.out.below hbw hB).more (by have := hbw.size; omega)
      have ej : ((j + 1 : Nat) : Int) = (j : Int) + 1 := by omega
      have hj9 : (j : Int) ≤ 10000 := by omega
      clear E PA PR PO hd3 H
      have t_P30 := P3.c0
      have t_P31 := P3.c1
      have t_P10 := P1.c0
      have t_P11 := P1.c1
      go_wp2_with fail
      clear t_P30 t_P31 t_P10 t_P11
      (with_reducible refine (rtimes_any _ wr.heap.size mo m Ao A ko k co c vo p zo xs hdo H9 (Nat.le_refl _) hro.out HX.out (by omega) hk).mono ?_)
      rintro e w5 ⟨m5, A5, k5, c5, x5, v5, rfl, hd5, hr5, hv5, hb5⟩
      have sw5 := hb5.size
      replace hbw := hbw.trans (hb5.mono hbw.size)
      replace P1 := P1.below hb5 P1.lt
      replace P2 := P2.below hb5 P2.lt
      replace P3 := P3.below hb5 P3.lt
      replace hdo := hdo.below hb5 (by omega)
      replace H9 := H9.below hb5 (by omega)
      clear hb5
      have R5 := Lib.hid hr5
      rw [hvo.out, ← Int.pow_succ] at hv5
      have V5 := Lib.hid (show sval m5 v5 = sval m p ^ (n - j) by rw [hv5]; congr 1; omega)
      have c5c := hd5.cap
      clear hr5 hv5
      clear hdo H9
      rcases Nat.lt_or_ge 256 k5 with hf | hf
      · have y_P30 := P3.c0
        have z_P30 := P3.z0
        have y_P31 := P3.c1
        have z_P31 := P3.z1
        have lt_P3 := P3.lt
        go_wp2_with fail
        clear y_P30 z_P30 y_P31 z_P31 lt_P3
        obtain ⟨U1P3, hU1P3⟩ : ∃ U1P3 : World, U1P3 = ((w5.setCell ⟨g, 0, none⟩ (.bool m5)).setCell ⟨g, 1, none⟩ (.slice A5 k5 c5)) := ⟨_, rfl⟩
        have zU1P3 : U1P3.heap.size = w5.heap.size := by rw [hU1P3]; simp [World.setCell]
        replace hbw : Below w.heap.size w U1P3 := by rw [hU1P3]; exact (hbw.setCell (by first | (simp; done) | (simp; omega)) _).setCell (by first | (simp; done) | (simp; omega)) _
        replace P1 : Bk2 U1P3 (w.heap.size) (.bool m) (.slice A k c) := by rw [hU1P3]; exact P1.far2 (by omega) _ _
        replace P2 : Bk2 U1P3 (w.heap.size + 1) (.bool false) (.slice none 0 0) := by rw [hU1P3]; exact P2.far2 (by omega) _ _
        replace hd5 : DRd U1P3 (w5.heap.size) A5 k5 c5 x5 := by rw [hU1P3]; first | exact hd5.setFar2 (by omega) _ _ | exact hd5.setBD P3 (by simp) (by simp) _ _
        replace P3 : Bk2 U1P3 (g) (.bool m5) (.slice A5 k5 c5) := by rw [hU1P3]; exact P3.set _ _
        rw [← hU1P3]
        clear hU1P3
        have zU1P3' := Nat.le_of_eq zU1P3
        replace zU1P3 := Nat.le_of_eq zU1P3.symm
        (with_reducible refine (fits_any _ m5 A5 k5 c5 (by omega)).mono ?_)
        rintro e w6 ⟨rfl, hb6⟩
        have sw6 := hb6.size
        replace hbw := hbw.trans (hb6.mono hbw.size)
        replace P1 := P1.below hb6 P1.lt
        replace P2 := P2.below hb6 P2.lt
        replace P3 := P3.below hb6 P3.lt
        replace hd5 := hd5.below hb6 (by omega)
        clear hb6
        rw [decide_eq_false (by omega)]
        have y_P20 := P2.c0
        have z_P20 := P2.z0
        have y_P21 := P2.c1
        have z_P21 := P2.z1
        have lt_P2 := P2.lt
        go_wp2_with fail
        clear y_P20 z_P20 y_P21 z_P21 lt_P2
        obtain ⟨U2P2, hU2P2⟩ : ∃ U2P2 : World, U2P2 = ((w6.setCell ⟨w.heap.size + 1, 0, none⟩ (.bool false)).setCell ⟨w.heap.size + 1, 1, none⟩ (.slice none 0 0)) := ⟨_, rfl⟩
        have zU2P2 : U2P2.heap.size = w6.heap.size := by rw [hU2P2]; simp [World.setCell]
        replace hbw : Below w.heap.size w U2P2 := by rw [hU2P2]; exact (hbw.setCell (by first | (simp; done) | (simp; omega)) _).setCell (by first | (simp; done) | (simp; omega)) _
        replace P1 : Bk2 U2P2 (w.heap.size) (.bool m) (.slice A k c) := by rw [hU2P2]; exact P1.far2 (by omega) _ _
        replace P3 : Bk2 U2P2 (g) (.bool m5) (.slice A5 k5 c5) := by rw [hU2P2]; exact P3.far2 (by omega) _ _
        replace hd5 : DRd U2P2 (w5.heap.size) A5 k5 c5 x5 := by rw [hU2P2]; first | exact hd5.setFar2 (by omega) _ _ | exact hd5.setBD P2 (by simp) (by simp) _ _
        replace P2 : Bk2 U2P2 (w.heap.size + 1) (.bool false) (.slice none 0 0) := by rw [hU2P2]; exact P2.set _ _
        rw [← hU2P2]
        clear hU2P2
        have zU2P2' := Nat.le_of_eq zU2P2
        replace zU2P2 := Nat.le_of_eq zU2P2.symm
        obtain ⟨r0, r1, _, _, _⟩ := P2
        refine bodyPost_ret (v := .tuple #[intv false none 0 0, .bool false]) (by simp [results, Tryz.results32, go_sem, r0, r1]) rfl (.inr ⟨rfl, pow_over (k := n - j) ?_ (by omega), hbw⟩)
        rw [← V5.out, sval_abs]
        exact Nat.le_of_not_lt (fun h => by have := fits_len R5.out hd5.len.out h; omega)
      · have y_P30 := P3.c0
        have z_P30 := P3.z0
        have y_P31 := P3.c1
        have z_P31 := P3.z1
        have lt_P3 := P3.lt
        go_wp2_with fail
        clear y_P30 z_P30 y_P31 z_P31 lt_P3
        obtain ⟨U1P3, hU1P3⟩ : ∃ U1P3 : World, U1P3 = ((w5.setCell ⟨g, 0, none⟩ (.bool m5)).setCell ⟨g, 1, none⟩ (.slice A5 k5 c5)) := ⟨_, rfl⟩
        have zU1P3 : U1P3.heap.size = w5.heap.size := by rw [hU1P3]; simp [World.setCell]
        replace hbw : Below w.heap.size w U1P3 := by rw [hU1P3]; exact (hbw.setCell (by first | (simp; done) | (simp; omega)) _).setCell (by first | (simp; done) | (simp; omega)) _
        replace P1 : Bk2 U1P3 (w.heap.size) (.bool m) (.slice A k c) := by rw [hU1P3]; exact P1.far2 (by omega) _ _
        replace P2 : Bk2 U1P3 (w.heap.size + 1) (.bool false) (.slice none 0 0) := by rw [hU1P3]; exact P2.far2 (by omega) _ _
        replace hd5 : DRd U1P3 (w5.heap.size) A5 k5 c5 x5 := by rw [hU1P3]; first | exact hd5.setFar2 (by omega) _ _ | exact hd5.setBD P3 (by simp) (by simp) _ _
        replace P3 : Bk2 U1P3 (g) (.bool m5) (.slice A5 k5 c5) := by rw [hU1P3]; exact P3.set _ _
        rw [← hU1P3]
        clear hU1P3
        have zU1P3' := Nat.le_of_eq zU1P3
        replace zU1P3 := Nat.le_of_eq zU1P3.symm
        (with_reducible refine (fits_any _ m5 A5 k5 c5 (by omega)).mono ?_)
        rintro e w6 ⟨rfl, hb6⟩
        have sw6 := hb6.size
        replace hbw := hbw.trans (hb6.mono hbw.size)
        replace P1 := P1.below hb6 P1.lt
        replace P2 := P2.below hb6 P2.lt
        replace P3 := P3.below hb6 P3.lt
        replace hd5 := hd5.below hb6 (by omega)
        clear hb6
        rw [decide_eq_true (by omega)]
        go_wp2_with fail
        go_roundw
        case rel => exact ⟨j, m5, A5, k5, c5, x5, v5, by omega, by first | rfl | go_num, P1, P2, P3, hd5.more (by omega), R5, V5, hf, hbw⟩
        case measure => first | (simp [intOf]; done) | (simp [intOf]; omega)
set_option maxHeartbeats 4000000 in
theorem raised_onet (w : World) (B : Nat) (m : Bool) (A : Option Addr) (k c p n : Nat) (xs : List Nat) (H : DRd w B A k c xs) (hB : B ≤ w.heap.size) (hx : Rep 65536 xs p) (hk : k ≤ 100000) (h0 : 0 < k) (hp : p = 1) (hm : Hid (m = true)) (hn : n ≤ 10000) :
    Calls Tryz.prog 32 #[intv m A k c, .int .i64 (n : Int)] w (RsPost (sval m p) n w) := by
  have HX := Lib.hid hx
  have HPO := Lib.hid hp
  clear hx hp
  have E : Below w.heap.size w w := Below.refl _ _
  have hc0 := H.cap
  go_enter Tryz.func32, Tryz.ntmps32
  have hk1 : 0 < (k : Int) := by omega
  have hn9 : (n : Int) ≤ 10000 := by omega
  go_wp2_with fail
  obtain ⟨V0, hV0⟩ : ∃ V0 : World, V0 = ((w.alloc (.cells #[.bool m, .slice A k c] 40)).alloc (.cells #[.bool false, .slice none 0 0] 40)) := ⟨_, rfl⟩
  have bV0 : Below w.heap.size w V0 := by rw [hV0]; (repeat (first | with_reducible exact Below.refl _ _ | with_reducible refine Below.drew ?_ | with_reducible refine below_drewN ?_ _ | with_reducible refine Below.setCell ?_ (by first | (simp; done) | (simp; omega) | omega) _ | with_reducible refine Below.alloc ?_ (by first | (simp; done) | (simp; omega) | omega) _))
  have zV0 : w.heap.size + 2 ≤ V0.heap.size := by rw [hV0]; simp
  have PA : Bk2 V0 (w.heap.size) (.bool m) (.slice A k c) := by rw [hV0]; exact ((Bk2.newAt _ _ (by simp) _ _ _).alloc _)
  have PR : Bk2 V0 (w.heap.size + 1) (.bool false) (.slice none 0 0) := by rw [hV0]; exact (Bk2.newAt _ _ (by simp) _ _ _)
  rw [← hV0]
  clear hV0
  replace E := E.trans (bV0.mono E.size)
  replace H := H.below bV0 (by omega)
  clear bV0
  (with_reducible refine (small_one _).mono ?_)
  rintro e w3 ⟨A3, k3, c3, x3, rfl, hd3, hr3, hb3⟩
  have sw3 := hb3.size
  replace E := E.trans (hb3.mono E.size)
  replace H := H.below hb3 (by omega)
  replace PA := PA.below hb3 PA.lt
  replace PR := PR.below hb3 PR.lt
  clear hb3
  have R3 := Lib.hid hr3
  have kl3 := rep_one hr3 hd3.len.out
  have c3c := hd3.cap
  clear hr3
  go_upto_region 4 with fail
  obtain ⟨V1, hV1⟩ : ∃ V1 : World, V1 = (w3.alloc (.cells #[.bool false, .slice A3 k3 c3] 40)) := ⟨_, rfl⟩
  have bV1 : Below w3.heap.size w3 V1 := by rw [hV1]; (repeat (first | with_reducible exact Below.refl _ _ | with_reducible refine Below.drew ?_ | with_reducible refine below_drewN ?_ _ | with_reducible refine Below.setCell ?_ (by first | (simp; done) | (simp; omega) | omega) _ | with_reducible refine Below.alloc ?_ (by first | (simp; done) | (simp; omega) | omega) _))
  have zV1 : w3.heap.size + 1 ≤ V1.heap.size := by rw [hV1]; simp
  have PO : Bk2 V1 (w3.heap.size) (.bool false) (.slice A3 k3 c3) := by rw [hV1]; exact (Bk2.newAt _ _ (by simp) _ _ _)
  rw [← hV1]
  clear hV1
  replace E := E.trans (bV1.mono E.size)
  replace H := H.below bV1 (by omega)
  replace PA := PA.below bV1 PA.lt
  replace PR := PR.below bV1 PR.lt
  replace hd3 := hd3.below bV1 (by omega)
  clear bV1
  have G0 : Below V1.heap.size V1 V1.drew := Below.drew (Below.refl _ _)
  have HS := Lib.hid (fun (u : World) (hu : Below V1.heap.size V1 u) => (⟨hu, (PA.below hu PA.lt).c0, (PA.below hu PA.lt).c1⟩ : Below V1.heap.size V1 u ∧ u.cell? ⟨w.heap.size, 0, none⟩ = some (.bool m) ∧ u.cell? ⟨w.heap.size, 1, none⟩ = some (.slice A k c)))
  go_region_held3 (fun u => Below V1.heap.size V1 u ∧ u.cell? ⟨w.heap.size, 0, none⟩ = some (.bool m) ∧ u.cell? ⟨w.heap.size, 1, none⟩ = some (.slice A k c)) (first | with_reducible exact HS.out _ G0 | with_reducible exact HS.out _ B2 | with_reducible exact HS.out _ B1 | fail)
    (first
      | (go_at_call 40; (with_reducible refine (small_one _).mono ?_); rintro e u1 ⟨A4, k4, c4, x4, rfl, hd4, hr4, hb4⟩; have B1 : Below V1.heap.size V1 u1 := bnext G0 hb4)
      | (go_at_call 46; (with_reducible refine (compareD_any _ u1.heap.size A A4 k k4 c c4 xs x4 ((H.below B1 (by omega)).more (by have := B1.size; omega)) hd4).mono ?_); rintro e u2 ⟨q, rfl, hci, dr, rfl⟩; have hcv := cmp_rep (by decide) hci H.len.out hd4.len.out HX.out hr4; have B2 : Below V1.heap.size V1 (u1.drewN dr) := below_drewN B1 dr; obtain rfl : q = 0 := (by have := HPO.out; unfold CmpV at hcv; omega); clear hci hcv)
      | fail)
  all_goals (go_upto_region 5 with fail)
  clear HS G0 hd4 hr4 hb4 B1
  obtain ⟨U4, hU4⟩ : ∃ U4 : World, U4 = u1.drewN dr := ⟨_, rfl⟩
  rw [← hU4] at B2
  rw [← hU4]
  clear hU4
  have s4 := B2.size
  replace E := E.trans (B2.mono E.size)
  replace H := H.below B2 (by omega)
  replace PA := PA.below B2 PA.lt
  replace PR := PR.below B2 PR.lt
  replace hd3 := hd3.below B2 (by omega)
  replace PO := PO.below B2 PO.lt
  clear B2
  rw [hm.out] at PA
  have E9 := E
  clear PO hd3 H
  have t_PA0 := PA.c0
  have t_PA1 := PA.c1
  go_wp2_with fail
  clear t_PA0 t_PA1
  (with_reducible refine (small_one _).mono ?_)
  rintro e w5 ⟨A5, k5, c5, x5, rfl, hd5, hr5, hb5⟩
  have sw5 := hb5.size
  replace E := E.trans (hb5.mono E.size)
  replace PA := PA.below hb5 PA.lt
  replace PR := PR.below hb5 PR.lt
  clear hb5
  have R5 := Lib.hid hr5
  clear hr5
  have HSG := Lib.hid (show sval ((n : Int) % 2 == 1) 1 = sval m p ^ n by rw [HPO.out, pow_sign, hm.out, Nat.one_pow]; rw [odd_b, Bool.true_and])
  have y_PR0 := PR.c0
  have z_PR0 := PR.z0
  have y_PR1 := PR.c1
  have z_PR1 := PR.z1
  have lt_PR := PR.lt
  go_wp2_with fail
  clear y_PR0 z_PR0 y_PR1 z_PR1 lt_PR
  obtain ⟨U3PR, hU3PR⟩ : ∃ U3PR : World, U3PR = ((w5.setCell ⟨w.heap.size + 1, 0, none⟩ (.bool ((n : Int) % 2 == 1))).setCell ⟨w.heap.size + 1, 1, none⟩ (.slice A5 k5 c5)) := ⟨_, rfl⟩
  have zU3PR : U3PR.heap.size = w5.heap.size := by rw [hU3PR]; simp [World.setCell]
  replace E : Below w.heap.size w U3PR := by rw [hU3PR]; exact (E.setCell (by first | (simp; done) | (simp; omega)) _).setCell (by first | (simp; done) | (simp; omega)) _
  replace PA : Bk2 U3PR (w.heap.size) (.bool true) (.slice A k c) := by rw [hU3PR]; exact PA.far2 (by omega) _ _
  replace hd5 : DRd U3PR (w5.heap.size) A5 k5 c5 x5 := by rw [hU3PR]; first | exact hd5.setFar2 (by omega) _ _ | exact hd5.setBD PR (by simp) (by simp) _ _
  replace PR : Bk2 U3PR (w.heap.size + 1) (.bool ((n : Int) % 2 == 1)) (.slice A5 k5 c5) := by rw [hU3PR]; exact PR.set _ _
  rw [← hU3PR]
  clear hU3PR
  have zU3PR' := Nat.le_of_eq zU3PR
  replace zU3PR := Nat.le_of_eq zU3PR.symm
  obtain ⟨r0, r1, _, _, _⟩ := PR
  refine bodyPost_ret (v := .tuple #[intv ((n : Int) % 2 == 1) A5 k5 c5, .bool true]) (by simp [results, Tryz.results32, go_sem, r0, r1]) rfl (.inl ⟨((n : Int) % 2 == 1), A5, k5, c5, x5, 1, rfl, hd5.more (by omega), R5.out, HSG.out, ?_, E⟩)
  rw [← HSG.out, sval_abs]
  exact lt_top (by decide)
set_option maxHeartbeats 4000000 in
theorem raised_onef (w : World) (B : Nat) (m : Bool) (A : Option Addr) (k c p n : Nat) (xs : List Nat) (H : DRd w B A k c xs) (hB : B ≤ w.heap.size) (hx : Rep 65536 xs p) (hk : k ≤ 100000) (h0 : 0 < k) (hp : p = 1) (hm : Hid (m = false)) (hn : n ≤ 10000) :
    Calls Tryz.prog 32 #[intv m A k c, .int .i64 (n : Int)] w (RsPost (sval m p) n w) := by
  have HX := Lib.hid hx
  have HPO := Lib.hid hp
  clear hx hp
  have E : Below w.heap.size w w := Below.refl _ _
  have hc0 := H.cap
  go_enter Tryz.func32, Tryz.ntmps32
  have hk1 : 0 < (k : Int) := by omega
  have hn9 : (n : Int) ≤ 10000 := by omega
  go_wp2_with fail
  obtain ⟨V0, hV0⟩ : ∃ V0 : World, V0 = ((w.alloc (.cells #[.bool m, .slice A k c] 40)).alloc (.cells #[.bool false, .slice none 0 0] 40)) := ⟨_, rfl⟩
  have bV0 : Below w.heap.size w V0 := by rw [hV0]; (repeat (first | with_reducible exact Below.refl _ _ | with_reducible refine Below.drew ?_ | with_reducible refine below_drewN ?_ _ | with_reducible refine Below.setCell ?_ (by first | (simp; done) | (simp; omega) | omega) _ | with_reducible refine Below.alloc ?_ (by first | (simp; done) | (simp; omega) | omega) _))
  have zV0 : w.heap.size + 2 ≤ V0.heap.size := by rw [hV0]; simp
  have PA : Bk2 V0 (w.heap.size) (.bool m) (.slice A k c) := by rw [hV0]; exact ((Bk2.newAt _ _ (by simp) _ _ _).alloc _)
  have PR : Bk2 V0 (w.heap.size + 1) (.bool false) (.slice none 0 0) := by rw [hV0]; exact (Bk2.newAt _ _ (by simp) _ _ _)
  rw [← hV0]
  clear hV0
  replace E := E.trans (bV0.mono E.size)
  replace H := H.below bV0 (by omega)
  clear bV0
  (with_reducible refine (small_one _).mono ?_)
  rintro e w3 ⟨A3, k3, c3, x3, rfl, hd3, hr3, hb3⟩
  have sw3 := hb3.size
  replace E := E.trans (hb3.mono E.size)
  replace H := H.below hb3 (by omega)
  replace PA := PA.below hb3 PA.lt
  replace PR := PR.below hb3 PR.lt
  clear hb3
  have R3 := Lib.hid hr3
  have kl3 := rep_one hr3 hd3.len.out
  have c3c := hd3.cap
  clear hr3
  go_upto_region 4 with fail
  obtain ⟨V1, hV1⟩ : ∃ V1 : World, V1 = (w3.alloc (.cells #[.bool false, .slice A3 k3 c3] 40)) := ⟨_, rfl⟩
  have bV1 : Below w3.heap.size w3 V1 := by rw [hV1]; (repeat (first | with_reducible exact Below.refl _ _ | with_reducible refine Below.drew ?_ | with_reducible refine below_drewN ?_ _ | with_reducible refine Below.setCell ?_ (by first | (simp; done) | (simp; omega) | omega) _ | with_reducible refine Below.alloc ?_ (by first | (simp; done) | (simp; omega) | omega) _))
  have zV1 : w3.heap.size + 1 ≤ V1.heap.size := by rw [hV1]; simp
  have PO : Bk2 V1 (w3.heap.size) (.bool false) (.slice A3 k3 c3) := by rw [hV1]; exact (Bk2.newAt _ _ (by simp) _ _ _)
  rw [← hV1]
  clear hV1
  replace E := E.trans (bV1.mono E.size)
  replace H := H.below bV1 (by omega)
  replace PA := PA.below bV1 PA.lt
  replace PR := PR.below bV1 PR.lt
  replace hd3 := hd3.below bV1 (by omega)
  clear bV1
  have G0 : Below V1.heap.size V1 V1.drew := Below.drew (Below.refl _ _)
  have HS := Lib.hid (fun (u : World) (hu : Below V1.heap.size V1 u) => (⟨hu, (PA.below hu PA.lt).c0, (PA.below hu PA.lt).c1⟩ : Below V1.heap.size V1 u ∧ u.cell? ⟨w.heap.size, 0, none⟩ = some (.bool m) ∧ u.cell? ⟨w.heap.size, 1, none⟩ = some (.slice A k c)))
  go_region_held3 (fun u => Below V1.heap.size V1 u ∧ u.cell? ⟨w.heap.size, 0, none⟩ = some (.bool m) ∧ u.cell? ⟨w.heap.size, 1, none⟩ = some (.slice A k c)) (first | with_reducible exact HS.out _ G0 | with_reducible exact HS.out _ B2 | with_reducible exact HS.out _ B1 | fail)
    (first
      | (go_at_call 40; (with_reducible refine (small_one _).mono ?_); rintro e u1 ⟨A4, k4, c4, x4, rfl, hd4, hr4, hb4⟩; have B1 : Below V1.heap.size V1 u1 := bnext G0 hb4)
      | (go_at_call 46; (with_reducible refine (compareD_any _ u1.heap.size A A4 k k4 c c4 xs x4 ((H.below B1 (by omega)).more (by have := B1.size; omega)) hd4).mono ?_); rintro e u2 ⟨q, rfl, hci, dr, rfl⟩; have hcv := cmp_rep (by decide) hci H.len.out hd4.len.out HX.out hr4; have B2 : Below V1.heap.size V1 (u1.drewN dr) := below_drewN B1 dr; obtain rfl : q = 0 := (by have := HPO.out; unfold CmpV at hcv; omega); clear hci hcv)
      | fail)
  all_goals (go_upto_region 5 with fail)
  clear HS G0 hd4 hr4 hb4 B1
  obtain ⟨U4, hU4⟩ : ∃ U4 : World, U4 = u1.drewN dr := ⟨_, rfl⟩
  rw [← hU4] at B2
  rw [← hU4]
  clear hU4
  have s4 := B2.size
  replace E := E.trans (B2.mono E.size)
  replace H := H.below B2 (by omega)
  replace PA := PA.below B2 PA.lt
  replace PR := PR.below B2 PR.lt
  replace hd3 := hd3.below B2 (by omega)
  replace PO := PO.below B2 PO.lt
  clear B2
  rw [hm.out] at PA
  have E9 := E
  clear PO hd3 H
  have t_PA0 := PA.c0
  have t_PA1 := PA.c1
  go_wp2_with fail
  clear t_PA0 t_PA1
  (with_reducible refine (small_one _).mono ?_)
  rintro e w5 ⟨A5, k5, c5, x5, rfl, hd5, hr5, hb5⟩
  have sw5 := hb5.size
  replace E := E.trans (hb5.mono E.size)
  replace PA := PA.below hb5 PA.lt
  replace PR := PR.below hb5 PR.lt
  clear hb5
  have R5 := Lib.hid hr5
  clear hr5
  have HSG := Lib.hid (show sval false 1 = sval m p ^ n by rw [HPO.out, pow_sign, hm.out, Nat.one_pow]; rfl)
  have y_PR0 := PR.c0
  have z_PR0 := PR.z0
  have y_PR1 := PR.c1
  have z_PR1 := PR.z1
  have lt_PR := PR.lt
  go_wp2_with fail
  clear y_PR0 z_PR0 y_PR1 z_PR1 lt_PR
  obtain ⟨U3PR, hU3PR⟩ : ∃ U3PR : World, U3PR = ((w5.setCell ⟨w.heap.size + 1, 0, none⟩ (.bool false)).setCell ⟨w.heap.size + 1, 1, none⟩ (.slice A5 k5 c5)) := ⟨_, rfl⟩
  have zU3PR : U3PR.heap.size = w5.heap.size := by rw [hU3PR]; simp [World.setCell]
  replace E : Below w.heap.size w U3PR := by rw [hU3PR]; exact (E.setCell (by first | (simp; done) | (simp; omega)) _).setCell (by first | (simp; done) | (simp; omega)) _
  replace PA : Bk2 U3PR (w.heap.size) (.bool false) (.slice A k c) := by rw [hU3PR]; exact PA.far2 (by omega) _ _
  replace hd5 : DRd U3PR (w5.heap.size) A5 k5 c5 x5 := by rw [hU3PR]; first | exact hd5.setFar2 (by omega) _ _ | exact hd5.setBD PR (by simp) (by simp) _ _
  replace PR : Bk2 U3PR (w.heap.size + 1) (.bool false) (.slice A5 k5 c5) := by rw [hU3PR]; exact PR.set _ _
  rw [← hU3PR]
  clear hU3PR
  have zU3PR' := Nat.le_of_eq zU3PR
  replace zU3PR := Nat.le_of_eq zU3PR.symm
  obtain ⟨r0, r1, _, _, _⟩ := PR
  refine bodyPost_ret (v := .tuple #[intv false A5 k5 c5, .bool true]) (by simp [results, Tryz.results32, go_sem, r0, r1]) rfl (.inl ⟨false, A5, k5, c5, x5, 1, rfl, hd5.more (by omega), R5.out, HSG.out, ?_, E⟩)
  rw [← HSG.out, sval_abs]
  exact lt_top (by decide)
theorem raised_any (w : World) (B : Nat) (m : Bool) (A : Option Addr) (k c p n : Nat) (xs : List Nat) (H : DRd w B A k c xs) (hB : B ≤ w.heap.size) (hx : Rep 65536 xs p) (hk : k ≤ 100000) (hn : n ≤ 10000) :
    Calls Tryz.prog 32 #[intv m A k c, .int .i64 (n : Int)] w (RsPost (sval m p) n w) := by
  rcases Nat.eq_zero_or_pos k with rfl | h0
  · obtain rfl : p = 0 := rep_nil hx H.len.out rfl
    rcases Nat.eq_zero_or_pos n with rfl | h1
    · exact raised_zero w B m A c xs H hB hx
    · exact raised_nil w B m A c n xs H hB h1 hn
  · rcases Nat.lt_or_ge p 2 with h1 | h1
    · have h2 := rep_posD hx H.len.out h0
      have h3 : p = 1 := by omega
      by_cases hm : m = true
      · exact raised_onet w B m A k c p n xs H hB hx hk h0 h3 (Lib.hid hm) hn
      · exact raised_onef w B m A k c p n xs H hB hx hk h0 h3 (Lib.hid (by simpa using hm)) hn
    · exact raised_more w B m A k c p n xs H hB hx hk h0 h1 hn
end Go.Proofs.YtflmcgoijofpdaaGreat
