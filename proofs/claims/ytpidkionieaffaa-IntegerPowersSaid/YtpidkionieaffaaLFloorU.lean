/- The reference's Floor, where it is rounded. -/
import Derived.Test.YtpidkionieaffaaLFloorD
import Derived.Test.YtpidkionieaffaaLDvs1
namespace Go.Proofs.Ytpidkionieaffaa
open Go.RowKit
set_option maxHeartbeats 400000
set_option maxRecDepth 100000
set_option linter.unusedSimpArgs false
set_option linter.unusedVariables false

theorem mx (a b c : Nat) (ha : a ≤ c) (hb : b ≤ c) : ∃ M, a ≤ M ∧ b ≤ M ∧ M ≤ c ∧ (M = a ∨ M = b) := by rcases Nat.le_total a b with h | h; exact ⟨b, h, Nat.le_refl _, hb, .inr rfl⟩; exact ⟨a, Nat.le_refl _, h, ha, .inl rfl⟩
theorem small_one (w : World) : Calls Try.prog 89 #[.int .i64 1] w (GivesN w 1) := by
  have := small_any w 1 (by decide)
  exact this
set_option maxHeartbeats 4000000 in
theorem floor_uf (w : World) (B : Nat) (A D : Option Addr) (k l c d p v : Nat) (xs ys : List Nat) (H : DRd w B A k c xs) (K : DRd w B D l d ys) (hB : B ≤ w.heap.size) (hx : Hid (Rep 65536 xs p)) (hy : Hid (Rep 65536 ys v)) (hv : 0 < v) (hk : k ≤ 100000) (hl : l ≤ 100000) (h0 : 0 < p % v) :
    Calls Try.prog 43 #[intv false A k c, intv true D l d] w (FlPost (sval false p) (sval true v) w) := by
  have E : Below w.heap.size w w := Below.refl _ _
  go_enter Try.func43, Try.ntmps43
  go_wp2_with fail
  obtain ⟨V0, hV0⟩ : ∃ V0 : World, V0 = ((((w.alloc (.cells #[.bool false, .slice A k c] 37)).alloc (.cells #[.bool true, .slice D l d] 37)).alloc (.cells #[.bool false, .slice none 0 0] 37)).alloc (.cells #[.bool false, .slice none 0 0] 37)) := ⟨_, rfl⟩
  have bV0 : Below w.heap.size w V0 := by rw [hV0]; (repeat (first | with_reducible exact Below.refl _ _ | with_reducible refine Below.drew ?_ | with_reducible refine below_drewN ?_ _ | with_reducible refine Below.setCell ?_ (by first | (simp; done) | (simp; omega) | omega) _ | with_reducible refine Below.alloc ?_ (by first | (simp; done) | (simp; omega) | omega) _))
  have zV0 : w.heap.size + 4 ≤ V0.heap.size := by rw [hV0]; simp
  have PA : Bk2 V0 (w.heap.size) (.bool false) (.slice A k c) := by rw [hV0]; exact ((((Bk2.newAt _ _ (by simp) _ _ _).alloc _).alloc _).alloc _)
  have PB : Bk2 V0 (w.heap.size + 1) (.bool true) (.slice D l d) := by rw [hV0]; exact (((Bk2.newAt _ _ (by simp) _ _ _).alloc _).alloc _)
  have P1 : Bk2 V0 (w.heap.size + 2) (.bool false) (.slice none 0 0) := by rw [hV0]; exact ((Bk2.newAt _ _ (by simp) _ _ _).alloc _)
  have P2 : Bk2 V0 (w.heap.size + 3) (.bool false) (.slice none 0 0) := by rw [hV0]; exact (Bk2.newAt _ _ (by simp) _ _ _)
  rw [← hV0]
  clear hV0
  replace E : Below w.heap.size w V0 := E.trans (bV0.mono E.size)
  replace H : DRd V0 (B) A k c xs := H.below bV0 (by omega)
  replace K : DRd V0 (B) D l d ys := K.below bV0 (by omega)
  clear bV0
  (with_reducible refine (divideD_any _ B A D k l c d p v xs ys H K (by omega) hx.out hy.out hv hk hl).mono ?_)
  rintro e w1 ⟨A1, k1, c1, x1, A2, k2, c2, x2, rfl, hd1, hr1, hd2, hr2, hb1⟩
  have sw1 := hb1.size
  replace E : Below w.heap.size w w1 := E.trans (hb1.mono E.size)
  replace H : DRd w1 (B) A k c xs := H.below hb1 (by omega)
  replace K : DRd w1 (B) D l d ys := K.below hb1 (by omega)
  replace PA : Bk2 w1 (w.heap.size) (.bool false) (.slice A k c) := PA.below hb1 PA.lt
  replace PB : Bk2 w1 (w.heap.size + 1) (.bool true) (.slice D l d) := PB.below hb1 PB.lt
  replace P1 : Bk2 w1 (w.heap.size + 2) (.bool false) (.slice none 0 0) := P1.below hb1 P1.lt
  replace P2 : Bk2 w1 (w.heap.size + 3) (.bool false) (.slice none 0 0) := P2.below hb1 P2.lt
  clear hb1
  have R1 := Lib.hid hr1
  have R2 := Lib.hid hr2
  clear hr1 hr2
  have kc1 := hd1.cap
  have kc2 := hd2.cap
  have hz : 0 < p % v := h0
  have hk2 : 0 < k2 := by rcases rep_zero_len R2.out hd2.len.out with ⟨_, e⟩ | ⟨e, _⟩ <;> omega
  have hk1 : k1 ≤ 100000 := by have := rep_len_le hx.out R1.out H.len.out hd1.len.out (Nat.div_le_self _ _); omega
  have hk2l : k2 ≤ l := rep_len_le hy.out R2.out K.len.out hd2.len.out (Nat.le_of_lt (Nat.mod_lt _ hv))
  have hvr : vb 65536 x2 ≤ vb 65536 ys := by rw [R2.out.val, hy.out.val]; exact Nat.le_of_lt (Nat.mod_lt _ hv)
  have cA := PA.c0
  have cB := PB.c0
  have cC := PB.c1
  have hk2' : (0 : Int) < (k2 : Int) := by omega
  go_upto_region 3 with fail
  clear cA cB cC
  have G0 : Below w1.heap.size w1 w1.drew := Below.drew (Below.refl _ _)
  have HS := Lib.hid (fun (u : World) (hu : Below w1.heap.size w1 u) => (⟨hu, (PB.below hu PB.lt).c0, (PB.below hu PB.lt).c1⟩ : Below w1.heap.size w1 u ∧ u.cell? ⟨w.heap.size + 1, 0, none⟩ = some (.bool true) ∧ u.cell? ⟨w.heap.size + 1, 1, none⟩ = some (.slice D l d)))
  go_region_held3 (fun u => Below w1.heap.size w1 u ∧ u.cell? ⟨w.heap.size + 1, 0, none⟩ = some (.bool true) ∧ u.cell? ⟨w.heap.size + 1, 1, none⟩ = some (.slice D l d)) (first | with_reducible exact HS.out _ G0 | with_reducible exact HS.out _ B3 | with_reducible exact HS.out _ B2 | with_reducible exact HS.out _ B1 | fail)
    (first
      | (go_at_call 89; (with_reducible refine (small_one _).mono ?_); rintro e y1 ⟨As, ks, cs, xs1, rfl, hds, hrs, hb1⟩; have B1 : Below w1.heap.size w1 y1 := bnext G0 hb1; have hks := len16 hrs hds.len.out (by decide); have RS := Lib.hid hrs; clear hrs; obtain ⟨M, hM1, hM2, hM3, hM4⟩ := mx k1 ks 100000 hk1 hks)
      | (go_at_call 76; (with_reducible refine (plus_any _ _ A1 As k1 ks c1 cs M x1 xs1 ((hd1.below B1 (Nat.le_refl _)).more B1.size) hds (Nat.le_refl _) hM1 hM2 (by omega) hM4).mono ?_); rintro e y2 ⟨Aq, kq, cq, xq, rfl, hdq, hrq, hb2⟩; have B2 : Below w1.heap.size w1 y2 := bnext B1 hb2; rw [R1.out.val, RS.out.val] at hrq; have RQ := Lib.hid hrq; clear hrq)
      | (go_at_call 77; (with_reducible refine (minus_any _ _ D A2 l k2 d c2 ys x2 ((K.below B2 (by omega)).more (by have := B2.size; omega)) ((hd2.below B2 (Nat.le_refl _)).more B2.size) (Nat.le_refl _) hk2l (by omega) hvr).mono ?_); rintro e y3 ⟨Ar, kr, cr, xr, rfl, hdr, hrr, hb3⟩; have B3 : Below w1.heap.size w1 y3 := bnext B2 hb3; rw [hy.out.val, R2.out.val] at hrr; have RR := Lib.hid hrr; clear hrr)
      | fail)
  clear HS G0
  have s3 := B3.size
  replace hdq := hdq.below hb3 (Nat.le_refl _)
  replace E : Below w.heap.size w y3 := E.trans (B3.mono E.size)
  replace H : DRd y3 (B) A k c xs := H.below B3 (by omega)
  replace K : DRd y3 (B) D l d ys := K.below B3 (by omega)
  replace PA : Bk2 y3 (w.heap.size) (.bool false) (.slice A k c) := PA.below B3 PA.lt
  replace PB : Bk2 y3 (w.heap.size + 1) (.bool true) (.slice D l d) := PB.below B3 PB.lt
  replace P1 : Bk2 y3 (w.heap.size + 2) (.bool false) (.slice none 0 0) := P1.below B3 P1.lt
  replace P2 : Bk2 y3 (w.heap.size + 3) (.bool false) (.slice none 0 0) := P2.below B3 P2.lt
  have sy := hb3.size
  have sB2 := B2.size
  clear B1 B2 B3 hb2 hb3 hd1 hd2 hds
  have PA0 := PA.c0
  have PA1 := PA.c1
  have PAl := PA.lt
  have PB0 := PB.c0
  have PB1 := PB.c1
  have PBl := PB.lt
  have P10 := P1.c0
  have P11 := P1.c1
  have P1l := P1.lt
  have P1z0 := P1.z0
  have P1z1 := P1.z1
  have P20 := P2.c0
  have P21 := P2.c1
  have P2l := P2.lt
  have P2z0 := P2.z0
  have P2z1 := P2.z1
  go_upto_region 4 with fail
  go_region
  all_goals (go_wp2_with fail)
  clear PA0 PA1 PAl PB0 PB1 PBl P10 P11 P1l P1z0 P1z1 P20 P21 P2l P2z0 P2z1
  obtain ⟨U9P1, hU9P1⟩ : ∃ U9P1 : World, U9P1 = ((y3.setCell ⟨w.heap.size + 2, 0, none⟩ (.bool true)).setCell ⟨w.heap.size + 2, 1, none⟩ (.slice Aq kq cq)) := ⟨_, rfl⟩
  have zU9P1 : U9P1.heap.size = y3.heap.size := by rw [hU9P1]; simp [World.setCell]
  replace E : Below w.heap.size w U9P1 := by rw [hU9P1]; exact (E.setCell (by first | (simp; done) | (simp; omega)) _).setCell (by first | (simp; done) | (simp; omega)) _
  replace H : DRd U9P1 (B) A k c xs := by rw [hU9P1]; first | exact H.setFar2 (by omega) _ _ | exact H.setBD P1 (by simp) (by simp) _ _
  replace K : DRd U9P1 (B) D l d ys := by rw [hU9P1]; first | exact K.setFar2 (by omega) _ _ | exact K.setBD P1 (by simp) (by simp) _ _
  replace PA : Bk2 U9P1 (w.heap.size) (.bool false) (.slice A k c) := by rw [hU9P1]; exact PA.far2 (by omega) _ _
  replace PB : Bk2 U9P1 (w.heap.size + 1) (.bool true) (.slice D l d) := by rw [hU9P1]; exact PB.far2 (by omega) _ _
  replace P2 : Bk2 U9P1 (w.heap.size + 3) (.bool false) (.slice none 0 0) := by rw [hU9P1]; exact P2.far2 (by omega) _ _
  replace hdq : DRd U9P1 (y2.heap.size) Aq kq cq xq := by rw [hU9P1]; first | exact hdq.setFar2 (by omega) _ _ | exact hdq.setBD P1 (by simp) (by simp) _ _
  replace hdr : DRd U9P1 (y3.heap.size) Ar kr cr xr := by rw [hU9P1]; first | exact hdr.setFar2 (by omega) _ _ | exact hdr.setBD P1 (by simp) (by simp) _ _
  replace P1 : Bk2 U9P1 (w.heap.size + 2) (.bool true) (.slice Aq kq cq) := by rw [hU9P1]; exact P1.set _ _
  rw [← hU9P1]
  clear hU9P1
  have zU9P1' := Nat.le_of_eq zU9P1
  replace zU9P1 := Nat.le_of_eq zU9P1.symm
  obtain ⟨U9P2, hU9P2⟩ : ∃ U9P2 : World, U9P2 = ((U9P1.setCell ⟨w.heap.size + 3, 0, none⟩ (.bool true)).setCell ⟨w.heap.size + 3, 1, none⟩ (.slice Ar kr cr)) := ⟨_, rfl⟩
  have zU9P2 : U9P2.heap.size = U9P1.heap.size := by rw [hU9P2]; simp [World.setCell]
  replace E : Below w.heap.size w U9P2 := by rw [hU9P2]; exact (E.setCell (by first | (simp; done) | (simp; omega)) _).setCell (by first | (simp; done) | (simp; omega)) _
  replace H : DRd U9P2 (B) A k c xs := by rw [hU9P2]; first | exact H.setFar2 (by omega) _ _ | exact H.setBD P2 (by simp) (by simp) _ _
  replace K : DRd U9P2 (B) D l d ys := by rw [hU9P2]; first | exact K.setFar2 (by omega) _ _ | exact K.setBD P2 (by simp) (by simp) _ _
  replace PA : Bk2 U9P2 (w.heap.size) (.bool false) (.slice A k c) := by rw [hU9P2]; exact PA.far2 (by omega) _ _
  replace PB : Bk2 U9P2 (w.heap.size + 1) (.bool true) (.slice D l d) := by rw [hU9P2]; exact PB.far2 (by omega) _ _
  replace P1 : Bk2 U9P2 (w.heap.size + 2) (.bool true) (.slice Aq kq cq) := by rw [hU9P2]; exact P1.far2 (by omega) _ _
  replace hdq : DRd U9P2 (y2.heap.size) Aq kq cq xq := by rw [hU9P2]; first | exact hdq.setFar2 (by omega) _ _ | exact hdq.setBD P2 (by simp) (by simp) _ _
  replace hdr : DRd U9P2 (y3.heap.size) Ar kr cr xr := by rw [hU9P2]; first | exact hdr.setFar2 (by omega) _ _ | exact hdr.setBD P2 (by simp) (by simp) _ _
  replace P2 : Bk2 U9P2 (w.heap.size + 3) (.bool true) (.slice Ar kr cr) := by rw [hU9P2]; exact P2.set _ _
  rw [← hU9P2]
  clear hU9P2
  have zU9P2' := Nat.le_of_eq zU9P2
  replace zU9P2 := Nat.le_of_eq zU9P2.symm
  have f0 := (P1.drew).c0
  have f1 := (P1.drew).c1
  have r0 := (P2.drew).c0
  have r1 := (P2.drew).c1
  refine bodyPost_ret (v := .tuple #[intv true Aq kq cq, intv true Ar kr cr]) (by simp [results, Try.results43, go_sem, f0, f1, r0, r1]) rfl ⟨_, _, _, _, _, _, _, _, _, _, _, _, _, _, rfl, ((hdq.keep (w' := World.drew U9P2) (fun _ _ => rfl)).more (by show y2.heap.size ≤ U9P2.heap.size; omega)), RQ.out, rfl, ((hdr.keep (w' := World.drew U9P2) (fun _ _ => rfl)).more (by show y3.heap.size ≤ U9P2.heap.size; omega)), RR.out, rfl, floor_up hv hz (by decide), Below.drew E⟩
set_option maxHeartbeats 4000000 in
theorem floor_ut (w : World) (B : Nat) (A D : Option Addr) (k l c d p v : Nat) (xs ys : List Nat) (H : DRd w B A k c xs) (K : DRd w B D l d ys) (hB : B ≤ w.heap.size) (hx : Hid (Rep 65536 xs p)) (hy : Hid (Rep 65536 ys v)) (hv : 0 < v) (hk : k ≤ 100000) (hl : l ≤ 100000) (h0 : 0 < p % v) :
    Calls Try.prog 43 #[intv true A k c, intv false D l d] w (FlPost (sval true p) (sval false v) w) := by
  have E : Below w.heap.size w w := Below.refl _ _
  go_enter Try.func43, Try.ntmps43
  go_wp2_with fail
  obtain ⟨V0, hV0⟩ : ∃ V0 : World, V0 = ((((w.alloc (.cells #[.bool true, .slice A k c] 37)).alloc (.cells #[.bool false, .slice D l d] 37)).alloc (.cells #[.bool false, .slice none 0 0] 37)).alloc (.cells #[.bool false, .slice none 0 0] 37)) := ⟨_, rfl⟩
  have bV0 : Below w.heap.size w V0 := by rw [hV0]; (repeat (first | with_reducible exact Below.refl _ _ | with_reducible refine Below.drew ?_ | with_reducible refine below_drewN ?_ _ | with_reducible refine Below.setCell ?_ (by first | (simp; done) | (simp; omega) | omega) _ | with_reducible refine Below.alloc ?_ (by first | (simp; done) | (simp; omega) | omega) _))
  have zV0 : w.heap.size + 4 ≤ V0.heap.size := by rw [hV0]; simp
  have PA : Bk2 V0 (w.heap.size) (.bool true) (.slice A k c) := by rw [hV0]; exact ((((Bk2.newAt _ _ (by simp) _ _ _).alloc _).alloc _).alloc _)
  have PB : Bk2 V0 (w.heap.size + 1) (.bool false) (.slice D l d) := by rw [hV0]; exact (((Bk2.newAt _ _ (by simp) _ _ _).alloc _).alloc _)
  have P1 : Bk2 V0 (w.heap.size + 2) (.bool false) (.slice none 0 0) := by rw [hV0]; exact ((Bk2.newAt _ _ (by simp) _ _ _).alloc _)
  have P2 : Bk2 V0 (w.heap.size + 3) (.bool false) (.slice none 0 0) := by rw [hV0]; exact (Bk2.newAt _ _ (by simp) _ _ _)
  rw [← hV0]
  clear hV0
  replace E : Below w.heap.size w V0 := E.trans (bV0.mono E.size)
  replace H : DRd V0 (B) A k c xs := H.below bV0 (by omega)
  replace K : DRd V0 (B) D l d ys := K.below bV0 (by omega)
  clear bV0
  (with_reducible refine (divideD_any _ B A D k l c d p v xs ys H K (by omega) hx.out hy.out hv hk hl).mono ?_)
  rintro e w1 ⟨A1, k1, c1, x1, A2, k2, c2, x2, rfl, hd1, hr1, hd2, hr2, hb1⟩
  have sw1 := hb1.size
  replace E : Below w.heap.size w w1 := E.trans (hb1.mono E.size)
  replace H : DRd w1 (B) A k c xs := H.below hb1 (by omega)
  replace K : DRd w1 (B) D l d ys := K.below hb1 (by omega)
  replace PA : Bk2 w1 (w.heap.size) (.bool true) (.slice A k c) := PA.below hb1 PA.lt
  replace PB : Bk2 w1 (w.heap.size + 1) (.bool false) (.slice D l d) := PB.below hb1 PB.lt
  replace P1 : Bk2 w1 (w.heap.size + 2) (.bool false) (.slice none 0 0) := P1.below hb1 P1.lt
  replace P2 : Bk2 w1 (w.heap.size + 3) (.bool false) (.slice none 0 0) := P2.below hb1 P2.lt
  clear hb1
  have R1 := Lib.hid hr1
  have R2 := Lib.hid hr2
  clear hr1 hr2
  have kc1 := hd1.cap
  have kc2 := hd2.cap
  have hz : 0 < p % v := h0
  have hk2 : 0 < k2 := by rcases rep_zero_len R2.out hd2.len.out with ⟨_, e⟩ | ⟨e, _⟩ <;> omega
  have hk1 : k1 ≤ 100000 := by have := rep_len_le hx.out R1.out H.len.out hd1.len.out (Nat.div_le_self _ _); omega
  have hk2l : k2 ≤ l := rep_len_le hy.out R2.out K.len.out hd2.len.out (Nat.le_of_lt (Nat.mod_lt _ hv))
  have hvr : vb 65536 x2 ≤ vb 65536 ys := by rw [R2.out.val, hy.out.val]; exact Nat.le_of_lt (Nat.mod_lt _ hv)
  have cA := PA.c0
  have cB := PB.c0
  have cC := PB.c1
  have hk2' : (0 : Int) < (k2 : Int) := by omega
  go_upto_region 3 with fail
  clear cA cB cC
  have G0 : Below w1.heap.size w1 w1.drew := Below.drew (Below.refl _ _)
  have HS := Lib.hid (fun (u : World) (hu : Below w1.heap.size w1 u) => (⟨hu, (PB.below hu PB.lt).c0, (PB.below hu PB.lt).c1⟩ : Below w1.heap.size w1 u ∧ u.cell? ⟨w.heap.size + 1, 0, none⟩ = some (.bool false) ∧ u.cell? ⟨w.heap.size + 1, 1, none⟩ = some (.slice D l d)))
  go_region_held3 (fun u => Below w1.heap.size w1 u ∧ u.cell? ⟨w.heap.size + 1, 0, none⟩ = some (.bool false) ∧ u.cell? ⟨w.heap.size + 1, 1, none⟩ = some (.slice D l d)) (first | with_reducible exact HS.out _ G0 | with_reducible exact HS.out _ B3 | with_reducible exact HS.out _ B2 | with_reducible exact HS.out _ B1 | fail)
    (first
      | (go_at_call 89; (with_reducible refine (small_one _).mono ?_); rintro e y1 ⟨As, ks, cs, xs1, rfl, hds, hrs, hb1⟩; have B1 : Below w1.heap.size w1 y1 := bnext G0 hb1; have hks := len16 hrs hds.len.out (by decide); have RS := Lib.hid hrs; clear hrs; obtain ⟨M, hM1, hM2, hM3, hM4⟩ := mx k1 ks 100000 hk1 hks)
      | (go_at_call 76; (with_reducible refine (plus_any _ _ A1 As k1 ks c1 cs M x1 xs1 ((hd1.below B1 (Nat.le_refl _)).more B1.size) hds (Nat.le_refl _) hM1 hM2 (by omega) hM4).mono ?_); rintro e y2 ⟨Aq, kq, cq, xq, rfl, hdq, hrq, hb2⟩; have B2 : Below w1.heap.size w1 y2 := bnext B1 hb2; rw [R1.out.val, RS.out.val] at hrq; have RQ := Lib.hid hrq; clear hrq)
      | (go_at_call 77; (with_reducible refine (minus_any _ _ D A2 l k2 d c2 ys x2 ((K.below B2 (by omega)).more (by have := B2.size; omega)) ((hd2.below B2 (Nat.le_refl _)).more B2.size) (Nat.le_refl _) hk2l (by omega) hvr).mono ?_); rintro e y3 ⟨Ar, kr, cr, xr, rfl, hdr, hrr, hb3⟩; have B3 : Below w1.heap.size w1 y3 := bnext B2 hb3; rw [hy.out.val, R2.out.val] at hrr; have RR := Lib.hid hrr; clear hrr)
      | fail)
  clear HS G0
  have s3 := B3.size
  replace hdq := hdq.below hb3 (Nat.le_refl _)
  replace E : Below w.heap.size w y3 := E.trans (B3.mono E.size)
  replace H : DRd y3 (B) A k c xs := H.below B3 (by omega)
  replace K : DRd y3 (B) D l d ys := K.below B3 (by omega)
  replace PA : Bk2 y3 (w.heap.size) (.bool true) (.slice A k c) := PA.below B3 PA.lt
  replace PB : Bk2 y3 (w.heap.size + 1) (.bool false) (.slice D l d) := PB.below B3 PB.lt
  replace P1 : Bk2 y3 (w.heap.size + 2) (.bool false) (.slice none 0 0) := P1.below B3 P1.lt
  replace P2 : Bk2 y3 (w.heap.size + 3) (.bool false) (.slice none 0 0) := P2.below B3 P2.lt
  have sy := hb3.size
  have sB2 := B2.size
  clear B1 B2 B3 hb2 hb3 hd1 hd2 hds
  have PA0 := PA.c0
  have PA1 := PA.c1
  have PAl := PA.lt
  have PB0 := PB.c0
  have PB1 := PB.c1
  have PBl := PB.lt
  have P10 := P1.c0
  have P11 := P1.c1
  have P1l := P1.lt
  have P1z0 := P1.z0
  have P1z1 := P1.z1
  have P20 := P2.c0
  have P21 := P2.c1
  have P2l := P2.lt
  have P2z0 := P2.z0
  have P2z1 := P2.z1
  go_upto_region 4 with fail
  go_region
  all_goals (go_wp2_with fail)
  clear PA0 PA1 PAl PB0 PB1 PBl P10 P11 P1l P1z0 P1z1 P20 P21 P2l P2z0 P2z1
  obtain ⟨U9P1, hU9P1⟩ : ∃ U9P1 : World, U9P1 = ((y3.setCell ⟨w.heap.size + 2, 0, none⟩ (.bool true)).setCell ⟨w.heap.size + 2, 1, none⟩ (.slice Aq kq cq)) := ⟨_, rfl⟩
  have zU9P1 : U9P1.heap.size = y3.heap.size := by rw [hU9P1]; simp [World.setCell]
  replace E : Below w.heap.size w U9P1 := by rw [hU9P1]; exact (E.setCell (by first | (simp; done) | (simp; omega)) _).setCell (by first | (simp; done) | (simp; omega)) _
  replace H : DRd U9P1 (B) A k c xs := by rw [hU9P1]; first | exact H.setFar2 (by omega) _ _ | exact H.setBD P1 (by simp) (by simp) _ _
  replace K : DRd U9P1 (B) D l d ys := by rw [hU9P1]; first | exact K.setFar2 (by omega) _ _ | exact K.setBD P1 (by simp) (by simp) _ _
  replace PA : Bk2 U9P1 (w.heap.size) (.bool true) (.slice A k c) := by rw [hU9P1]; exact PA.far2 (by omega) _ _
  replace PB : Bk2 U9P1 (w.heap.size + 1) (.bool false) (.slice D l d) := by rw [hU9P1]; exact PB.far2 (by omega) _ _
  replace P2 : Bk2 U9P1 (w.heap.size + 3) (.bool false) (.slice none 0 0) := by rw [hU9P1]; exact P2.far2 (by omega) _ _
  replace hdq : DRd U9P1 (y2.heap.size) Aq kq cq xq := by rw [hU9P1]; first | exact hdq.setFar2 (by omega) _ _ | exact hdq.setBD P1 (by simp) (by simp) _ _
  replace hdr : DRd U9P1 (y3.heap.size) Ar kr cr xr := by rw [hU9P1]; first | exact hdr.setFar2 (by omega) _ _ | exact hdr.setBD P1 (by simp) (by simp) _ _
  replace P1 : Bk2 U9P1 (w.heap.size + 2) (.bool true) (.slice Aq kq cq) := by rw [hU9P1]; exact P1.set _ _
  rw [← hU9P1]
  clear hU9P1
  have zU9P1' := Nat.le_of_eq zU9P1
  replace zU9P1 := Nat.le_of_eq zU9P1.symm
  obtain ⟨U9P2, hU9P2⟩ : ∃ U9P2 : World, U9P2 = ((U9P1.setCell ⟨w.heap.size + 3, 0, none⟩ (.bool false)).setCell ⟨w.heap.size + 3, 1, none⟩ (.slice Ar kr cr)) := ⟨_, rfl⟩
  have zU9P2 : U9P2.heap.size = U9P1.heap.size := by rw [hU9P2]; simp [World.setCell]
  replace E : Below w.heap.size w U9P2 := by rw [hU9P2]; exact (E.setCell (by first | (simp; done) | (simp; omega)) _).setCell (by first | (simp; done) | (simp; omega)) _
  replace H : DRd U9P2 (B) A k c xs := by rw [hU9P2]; first | exact H.setFar2 (by omega) _ _ | exact H.setBD P2 (by simp) (by simp) _ _
  replace K : DRd U9P2 (B) D l d ys := by rw [hU9P2]; first | exact K.setFar2 (by omega) _ _ | exact K.setBD P2 (by simp) (by simp) _ _
  replace PA : Bk2 U9P2 (w.heap.size) (.bool true) (.slice A k c) := by rw [hU9P2]; exact PA.far2 (by omega) _ _
  replace PB : Bk2 U9P2 (w.heap.size + 1) (.bool false) (.slice D l d) := by rw [hU9P2]; exact PB.far2 (by omega) _ _
  replace P1 : Bk2 U9P2 (w.heap.size + 2) (.bool true) (.slice Aq kq cq) := by rw [hU9P2]; exact P1.far2 (by omega) _ _
  replace hdq : DRd U9P2 (y2.heap.size) Aq kq cq xq := by rw [hU9P2]; first | exact hdq.setFar2 (by omega) _ _ | exact hdq.setBD P2 (by simp) (by simp) _ _
  replace hdr : DRd U9P2 (y3.heap.size) Ar kr cr xr := by rw [hU9P2]; first | exact hdr.setFar2 (by omega) _ _ | exact hdr.setBD P2 (by simp) (by simp) _ _
  replace P2 : Bk2 U9P2 (w.heap.size + 3) (.bool false) (.slice Ar kr cr) := by rw [hU9P2]; exact P2.set _ _
  rw [← hU9P2]
  clear hU9P2
  have zU9P2' := Nat.le_of_eq zU9P2
  replace zU9P2 := Nat.le_of_eq zU9P2.symm
  have f0 := (P1.drew).c0
  have f1 := (P1.drew).c1
  have r0 := (P2.drew).c0
  have r1 := (P2.drew).c1
  refine bodyPost_ret (v := .tuple #[intv true Aq kq cq, intv false Ar kr cr]) (by simp [results, Try.results43, go_sem, f0, f1, r0, r1]) rfl ⟨_, _, _, _, _, _, _, _, _, _, _, _, _, _, rfl, ((hdq.keep (w' := World.drew U9P2) (fun _ _ => rfl)).more (by show y2.heap.size ≤ U9P2.heap.size; omega)), RQ.out, rfl, ((hdr.keep (w' := World.drew U9P2) (fun _ _ => rfl)).more (by show y3.heap.size ≤ U9P2.heap.size; omega)), RR.out, rfl, floor_up hv hz (by decide), Below.drew E⟩
theorem floorD_any (w : World) (B : Nat) (m n : Bool) (A D : Option Addr) (k l c d p v : Nat) (xs ys : List Nat) (H : DRd w B A k c xs) (K : DRd w B D l d ys) (hB : B ≤ w.heap.size) (hx : Rep 65536 xs p) (hy : Rep 65536 ys v) (hv : 0 < v) (hk : k ≤ 100000) (hl : l ≤ 100000) :
    Calls Try.prog 43 #[intv m A k c, intv n D l d] w (FlPost (sval m p) (sval n v) w) := by
  cases m <;> cases n
  · exact floor_ff w B A D k l c d p v xs ys H K hB hx hy hv hk hl
  · rcases Nat.eq_zero_or_pos (p % v) with e | e
    · exact floor_zf w B A D k l c d p v xs ys H K hB hx hy hv hk hl e
    · exact floor_uf w B A D k l c d p v xs ys H K hB hx hy hv hk hl e
  · rcases Nat.eq_zero_or_pos (p % v) with e | e
    · exact floor_zt w B A D k l c d p v xs ys H K hB hx hy hv hk hl e
    · exact floor_ut w B A D k l c d p v xs ys H K hB hx hy hv hk hl e
  · exact floor_tt w B A D k l c d p v xs ys H K hB hx hy hv hk hl
end Go.Proofs.Ytpidkionieaffaa
