/- The program's Parse. -/
import Derived.Test.YtflmcgoijofpdaaGreatCTxt1
import Derived.Test.YtflmcgoijofpdaaGreatCDig56
import Derived.Test.YtflmcgoijofpdaaGreatCy
namespace Go.Proofs.YtflmcgoijofpdaaGreat
open Go.RowKit
set_option maxHeartbeats 400000
set_option maxRecDepth 100000
set_option linter.unusedSimpArgs false
set_option linter.unusedVariables false

def bval (s : ByteArray) (n y : Nat) : Nat := vb y ((List.range n).map fun t => dval (bat s t)).reverse
theorem sp_val {s : ByteArray} {n y : Nat} {cs : List Nat} (hl : cs.length = n) (h : SpIs s y n cs) : cs = (List.range n).map fun t => dval (bat s t) := by
  refine List.ext_getElem (by simp [hl]) fun t h1 h2 => ?_
  have h3 := (h t (by omega)).1
  rw [List.getD_eq_getElem?_getD, List.getElem?_eq_getElem h1] at h3
  simpa using h3
theorem sp_dig {s : ByteArray} {n y : Nat} {cs : List Nat} (hl : cs.length = n) (h : SpIs s y n cs) : Dig y cs :=
  Dig.of_at fun j hj => by rw [(h j (by omega)).1]; exact (h j (by omega)).2
set_option maxHeartbeats 2000000 in
theorem iparse_none (w : World) (s : ByteArray) (y : Nat) (hy : 2 ≤ y ∧ y ≤ 36) (hl : s.size ≤ 4097) (hsp : ∀ u, Calls Tryz.prog 144 #[.string s, .int .i64 (y : Int)] u (SpNone u)) :
    Calls Tryz.prog 128 #[.string s, .int .i64 (y : Int)] w (GivesVF w 0 1 (-1)) := by
  have E : Below w.heap.size w w := Below.refl _ _
  go_enter Tryz.func128, Tryz.ntmps128
  go_wp2_with fail
  obtain ⟨V0, hV0⟩ : ∃ V0 : World, V0 = ((w.alloc (.cells #[.bool false, .slice none 0 0] 24)).alloc (.cells #[.int .i64 0, .int .i64 0] 28)) := ⟨_, rfl⟩
  have bV0 : Below w.heap.size w V0 := by rw [hV0]; (repeat (first | with_reducible exact Below.refl _ _ | with_reducible refine Below.drew ?_ | with_reducible refine below_drewN ?_ _ | with_reducible refine Below.setCell ?_ (by first | (simp; done) | (simp; omega) | omega) _ | with_reducible refine Below.alloc ?_ (by first | (simp; done) | (simp; omega) | omega) _))
  have zV0 : w.heap.size + 2 ≤ V0.heap.size := by rw [hV0]; simp
  have PR : Bk2 V0 (w.heap.size) (.bool false) (.slice none 0 0) := by rw [hV0]; exact ((Bk2.newAt _ _ (by simp) _ _ _).alloc _)
  have PF : Bk2 V0 (w.heap.size + 1) (.int .i64 0) (.int .i64 0) := by rw [hV0]; exact (Bk2.newAt _ _ (by simp) _ _ _)
  rw [← hV0]
  clear hV0
  replace E := E.trans (bV0.mono E.size)
  clear bV0
  (with_reducible refine (icheckBase_ok _ (y : Int) (by omega)).mono ?_)
  rintro e w1 ⟨rfl, hb1⟩
  have sw1 := hb1.size
  replace E := E.trans (hb1.mono E.size)
  replace PR := PR.below hb1 PR.lt
  replace PF := PF.below hb1 PF.lt
  clear hb1
  have hl' : (s.size : Int) ≤ 4097 := by omega
  go_wp2_with fail
  obtain ⟨V1, hV1⟩ : ∃ V1 : World, V1 = (w1.alloc (.cells #[.int .i64 0, .int .i64 0] 28)) := ⟨_, rfl⟩
  have bV1 : Below w1.heap.size w1 V1 := by rw [hV1]; (repeat (first | with_reducible exact Below.refl _ _ | with_reducible refine Below.drew ?_ | with_reducible refine below_drewN ?_ _ | with_reducible refine Below.setCell ?_ (by first | (simp; done) | (simp; omega) | omega) _ | with_reducible refine Below.alloc ?_ (by first | (simp; done) | (simp; omega) | omega) _))
  have zV1 : w1.heap.size + 1 ≤ V1.heap.size := by rw [hV1]; simp
  have F6 : Bk2 V1 (w1.heap.size) (.int .i64 0) (.int .i64 0) := by rw [hV1]; exact (Bk2.newAt _ _ (by simp) _ _ _)
  rw [← hV1]
  clear hV1
  replace E := E.trans (bV1.mono E.size)
  replace PR := PR.below bV1 PR.lt
  replace PF := PF.below bV1 PF.lt
  clear bV1
  clear F6
  refine (hsp _).mono ?_
  rintro e w2 ⟨rfl, hb2⟩
  have sw2 := hb2.size
  replace E := E.trans (hb2.mono E.size)
  replace PR := PR.below hb2 PR.lt
  replace PF := PF.below hb2 PF.lt
  clear hb2
  have y_PR0 := PR.c0
  have z_PR0 := PR.z0
  have y_PR1 := PR.c1
  have z_PR1 := PR.z1
  have lt_PR := PR.lt
  have y_PF0 := PF.c0
  have z_PF0 := PF.z0
  have y_PF1 := PF.c1
  have z_PF1 := PF.z1
  have lt_PF := PF.lt
  go_wp2_with fail
  clear y_PR0 z_PR0 y_PR1 z_PR1 lt_PR y_PF0 z_PF0 y_PF1 z_PF1 lt_PF
  obtain ⟨U2PR, hU2PR⟩ : ∃ U2PR : World, U2PR = ((w2.setCell ⟨w.heap.size, 0, none⟩ (.bool false)).setCell ⟨w.heap.size, 1, none⟩ (.slice none 0 0)) := ⟨_, rfl⟩
  have zU2PR : U2PR.heap.size = w2.heap.size := by rw [hU2PR]; simp [World.setCell]
  replace E : Below w.heap.size w U2PR := by rw [hU2PR]; exact (E.setCell (by first | (simp; done) | (simp; omega)) _).setCell (by first | (simp; done) | (simp; omega)) _
  replace PF : Bk2 U2PR (w.heap.size + 1) (.int .i64 0) (.int .i64 0) := by rw [hU2PR]; exact PF.far2 (by omega) _ _
  replace PR : Bk2 U2PR (w.heap.size) (.bool false) (.slice none 0 0) := by rw [hU2PR]; exact PR.set _ _
  rw [← hU2PR]
  clear hU2PR
  have zU2PR' := Nat.le_of_eq zU2PR
  replace zU2PR := Nat.le_of_eq zU2PR.symm
  obtain ⟨U2PF, hU2PF⟩ : ∃ U2PF : World, U2PF = ((U2PR.setCell ⟨w.heap.size + 1, 0, none⟩ (.int .i64 1)).setCell ⟨w.heap.size + 1, 1, none⟩ (.int .i64 (-1))) := ⟨_, rfl⟩
  have zU2PF : U2PF.heap.size = U2PR.heap.size := by rw [hU2PF]; simp [World.setCell]
  replace E : Below w.heap.size w U2PF := by rw [hU2PF]; exact (E.setCell (by first | (simp; done) | (simp; omega)) _).setCell (by first | (simp; done) | (simp; omega)) _
  replace PR : Bk2 U2PF (w.heap.size) (.bool false) (.slice none 0 0) := by rw [hU2PF]; exact PR.far2 (by omega) _ _
  replace PF : Bk2 U2PF (w.heap.size + 1) (.int .i64 1) (.int .i64 (-1)) := by rw [hU2PF]; exact PF.set _ _
  rw [← hU2PF]
  clear hU2PF
  have zU2PF' := Nat.le_of_eq zU2PF
  replace zU2PF := Nat.le_of_eq zU2PF.symm
  obtain ⟨f0, f1, _, _, _⟩ := PF
  obtain ⟨r0, r1, _, _, _⟩ := PR
  refine bodyPost_ret (v := .tuple #[intv false none 0 0, flt 1 (-1)]) (by simp [results, Tryz.results128, go_sem, f0, f1, r0, r1]) rfl ⟨false, none, 0, 0, [], rfl, nil_lrd _, irep0, E⟩
theorem top_big : Top128 ≤ Big := by
  obtain ⟨m, hm⟩ : ∃ m, m = 128 := ⟨_, rfl⟩
  rw [top128 hm, big_pow (m := m + 472) (by omega)]
  exact Nat.pow_le_pow_right (by decide) (by omega)
set_option maxHeartbeats 4000000 in
theorem iparse_some (w : World) (s : ByteArray) (y : Nat) (n : Nat) (b : ByteArray) (neg : Bool) (hy : 2 ≤ y ∧ y ≤ 36) (hl : s.size ≤ 4097) (hn : 0 < n) (hn2 : n ≤ 4097) (hsp : ∀ u, Calls Tryz.prog 144 #[.string s, .int .i64 (y : Int)] u (fun e u' => ∃ g cs, e = .returned (.tuple #[.bool neg, .slice (some ⟨g, 0, none⟩) n n]) ∧ R64 u' g cs ∧ cs.length = n ∧ Dig 65536 cs ∧ u.heap.size ≤ g ∧ SpIs b y n cs ∧ Below u.heap.size u u')) :
    Calls Tryz.prog 128 #[.string s, .int .i64 (y : Int)] w (GivesVL w (sval neg (bval b n y))) := by
  have E : Below w.heap.size w w := Below.refl _ _
  go_enter Tryz.func128, Tryz.ntmps128
  go_wp2_with fail
  obtain ⟨V0, hV0⟩ : ∃ V0 : World, V0 = ((w.alloc (.cells #[.bool false, .slice none 0 0] 24)).alloc (.cells #[.int .i64 0, .int .i64 0] 28)) := ⟨_, rfl⟩
  have bV0 : Below w.heap.size w V0 := by rw [hV0]; (repeat (first | with_reducible exact Below.refl _ _ | with_reducible refine Below.drew ?_ | with_reducible refine below_drewN ?_ _ | with_reducible refine Below.setCell ?_ (by first | (simp; done) | (simp; omega) | omega) _ | with_reducible refine Below.alloc ?_ (by first | (simp; done) | (simp; omega) | omega) _))
  have zV0 : w.heap.size + 2 ≤ V0.heap.size := by rw [hV0]; simp
  have PR : Bk2 V0 (w.heap.size) (.bool false) (.slice none 0 0) := by rw [hV0]; exact ((Bk2.newAt _ _ (by simp) _ _ _).alloc _)
  have PF : Bk2 V0 (w.heap.size + 1) (.int .i64 0) (.int .i64 0) := by rw [hV0]; exact (Bk2.newAt _ _ (by simp) _ _ _)
  rw [← hV0]
  clear hV0
  replace E := E.trans (bV0.mono E.size)
  clear bV0
  (with_reducible refine (icheckBase_ok _ (y : Int) (by omega)).mono ?_)
  rintro e w1 ⟨rfl, hb1⟩
  have sw1 := hb1.size
  replace E := E.trans (hb1.mono E.size)
  replace PR := PR.below hb1 PR.lt
  replace PF := PF.below hb1 PF.lt
  clear hb1
  have hl' : (s.size : Int) ≤ 4097 := by omega
  go_wp2_with fail
  obtain ⟨V1, hV1⟩ : ∃ V1 : World, V1 = (w1.alloc (.cells #[.int .i64 0, .int .i64 0] 28)) := ⟨_, rfl⟩
  have bV1 : Below w1.heap.size w1 V1 := by rw [hV1]; (repeat (first | with_reducible exact Below.refl _ _ | with_reducible refine Below.drew ?_ | with_reducible refine below_drewN ?_ _ | with_reducible refine Below.setCell ?_ (by first | (simp; done) | (simp; omega) | omega) _ | with_reducible refine Below.alloc ?_ (by first | (simp; done) | (simp; omega) | omega) _))
  have zV1 : w1.heap.size + 1 ≤ V1.heap.size := by rw [hV1]; simp
  have F6 : Bk2 V1 (w1.heap.size) (.int .i64 0) (.int .i64 0) := by rw [hV1]; exact (Bk2.newAt _ _ (by simp) _ _ _)
  rw [← hV1]
  clear hV1
  replace E := E.trans (bV1.mono E.size)
  replace PR := PR.below bV1 PR.lt
  replace PF := PF.below bV1 PF.lt
  clear bV1
  clear F6
  refine (hsp _).mono ?_
  rintro e w2 ⟨g, cs, rfl, hR, hcl, hD, hg, hS, hb2⟩
  have sw2 := hb2.size
  have hn9 : 0 < (n : Int) := by omega
  have hn8 : (n : Int) ≤ 4097 := by omega
  have hd0 := R64.lift hR hD hcl (c := n) ⟨Nat.le_refl _, by omega⟩
  have HB := Lib.hid (sp_val hcl hS)
  have HD := Lib.hid (sp_dig hcl hS)
  clear hR hcl hD hS hg
  replace E := E.trans (hb2.mono E.size)
  replace PR := PR.below hb2 PR.lt
  replace PF := PF.below hb2 PF.lt
  clear hb2
  go_wp2_with fail
  refine (from_ok _ w2.heap.size (some ⟨g, 0, none⟩) n n y cs hd0 (Nat.le_refl _) HD.out hy).mono ?_
  rintro e w3 hgb
  rw [HB.out] at hgb
  replace hgb : GivesB w2 (bval b n y) e w3 := hgb
  clear hd0
  rcases hgb with ⟨hlt, A3, k3, c3, x3, rfl, hl3, hr3, hb3⟩ | ⟨hge, A3, k3, c3, x3, rfl, hl3, hr3, hb3⟩
  · have sw3 := hb3.size
    have R3 := Lib.hid hr3
    clear hr3
    replace E := E.trans (hb3.mono E.size)
    replace PR := PR.below hb3 PR.lt
    replace PF := PF.below hb3 PF.lt
    clear hb3
    go_wp2_with fail
    obtain ⟨V3, hV3⟩ : ∃ V3 : World, V3 = (w3.alloc (.cells #[.int .i64 0, .int .i64 0] 28)) := ⟨_, rfl⟩
    have bV3 : Below w3.heap.size w3 V3 := by rw [hV3]; (repeat (first | with_reducible exact Below.refl _ _ | with_reducible refine Below.drew ?_ | with_reducible refine below_drewN ?_ _ | with_reducible refine Below.setCell ?_ (by first | (simp; done) | (simp; omega) | omega) _ | with_reducible refine Below.alloc ?_ (by first | (simp; done) | (simp; omega) | omega) _))
    have zV3 : w3.heap.size + 1 ≤ V3.heap.size := by rw [hV3]; simp
    have F10 : Bk2 V3 (w3.heap.size) (.int .i64 0) (.int .i64 0) := by rw [hV3]; exact (Bk2.newAt _ _ (by simp) _ _ _)
    rw [← hV3]
    clear hV3
    replace E := E.trans (bV3.mono E.size)
    replace PR := PR.below bV3 PR.lt
    replace PF := PF.below bV3 PF.lt
    replace hl3 := hl3.below bV3 (by omega)
    clear bV3
    clear F10
    refine (ilimited_any _ neg A3 k3 c3 (bval b n y) x3 (hl3.more (by omega)) R3.out).mono ?_
    rintro e w4 hv
    have hv2 : ∃ f1 f2 z m A k c zs, e = .returned (.tuple #[intv m A k c, flt f1 f2]) ∧ LRd w4 w4.heap.size A k c zs ∧ IRep m zs z ∧ Below V3.heap.size V3 w4 ∧ (((sval neg (bval b n y)).natAbs < Top128 ∧ z = sval neg (bval b n y) ∧ f1 = 0 ∧ f2 = 0) ∨ (Top128 ≤ (sval neg (bval b n y)).natAbs ∧ z = 0 ∧ f1 = 14 ∧ f2 = -1)) := by
      rcases hv with ⟨h1, m, A, k, c, zs, h2, h3, h4, h5⟩ | ⟨h1, m, A, k, c, zs, h2, h3, h4, h5⟩
      · exact ⟨0, 0, _, m, A, k, c, zs, h2, h3, h4, h5, .inl ⟨h1, rfl, rfl, rfl⟩⟩
      · exact ⟨14, -1, _, m, A, k, c, zs, h2, h3, h4, h5, .inr ⟨h1, rfl, rfl, rfl⟩⟩
    clear hv
    obtain ⟨f4, g4, z4, m4, A4, k4, c4, x4, rfl, hl4, hr4, hb4, hy4⟩ := hv2
    have R4 := Lib.hid hr4
    have Y4 := Lib.hid hy4
    have sw4 := hb4.size
    clear hr4 hy4
    clear hl3
    replace E := E.trans (hb4.mono E.size)
    replace PR := PR.below hb4 PR.lt
    replace PF := PF.below hb4 PF.lt
    clear hb4
    have y_PR0 := PR.c0
    have z_PR0 := PR.z0
    have y_PR1 := PR.c1
    have z_PR1 := PR.z1
    have lt_PR := PR.lt
    have y_PF0 := PF.c0
    have z_PF0 := PF.z0
    have y_PF1 := PF.c1
    have z_PF1 := PF.z1
    have lt_PF := PF.lt
    go_wp2_with fail
    clear y_PR0 z_PR0 y_PR1 z_PR1 lt_PR y_PF0 z_PF0 y_PF1 z_PF1 lt_PF
    obtain ⟨U4PR, hU4PR⟩ : ∃ U4PR : World, U4PR = ((w4.setCell ⟨w.heap.size, 0, none⟩ (.bool m4)).setCell ⟨w.heap.size, 1, none⟩ (.slice A4 k4 c4)) := ⟨_, rfl⟩
    have zU4PR : U4PR.heap.size = w4.heap.size := by rw [hU4PR]; simp [World.setCell]
    replace E : Below w.heap.size w U4PR := by rw [hU4PR]; exact (E.setCell (by first | (simp; done) | (simp; omega)) _).setCell (by first | (simp; done) | (simp; omega)) _
    replace PF : Bk2 U4PR (w.heap.size + 1) (.int .i64 0) (.int .i64 0) := by rw [hU4PR]; exact PF.far2 (by omega) _ _
    replace hl4 : LRd U4PR (w4.heap.size) A4 k4 c4 x4 := by rw [hU4PR]; first | exact hl4.setB PR (by simp) (by simp) _ _ | exact hl4.setFar2 (by omega) _ _
    replace PR : Bk2 U4PR (w.heap.size) (.bool m4) (.slice A4 k4 c4) := by rw [hU4PR]; exact PR.set _ _
    rw [← hU4PR]
    clear hU4PR
    have zU4PR' := Nat.le_of_eq zU4PR
    replace zU4PR := Nat.le_of_eq zU4PR.symm
    obtain ⟨U4PF, hU4PF⟩ : ∃ U4PF : World, U4PF = ((U4PR.setCell ⟨w.heap.size + 1, 0, none⟩ (.int .i64 f4)).setCell ⟨w.heap.size + 1, 1, none⟩ (.int .i64 g4)) := ⟨_, rfl⟩
    have zU4PF : U4PF.heap.size = U4PR.heap.size := by rw [hU4PF]; simp [World.setCell]
    replace E : Below w.heap.size w U4PF := by rw [hU4PF]; exact (E.setCell (by first | (simp; done) | (simp; omega)) _).setCell (by first | (simp; done) | (simp; omega)) _
    replace PR : Bk2 U4PF (w.heap.size) (.bool m4) (.slice A4 k4 c4) := by rw [hU4PF]; exact PR.far2 (by omega) _ _
    replace hl4 : LRd U4PF (w4.heap.size) A4 k4 c4 x4 := by rw [hU4PF]; first | exact hl4.setB PF (by simp) (by simp) _ _ | exact hl4.setFar2 (by omega) _ _
    replace PF : Bk2 U4PF (w.heap.size + 1) (.int .i64 f4) (.int .i64 g4) := by rw [hU4PF]; exact PF.set _ _
    rw [← hU4PF]
    clear hU4PF
    have zU4PF' := Nat.le_of_eq zU4PF
    replace zU4PF := Nat.le_of_eq zU4PF.symm
    obtain ⟨f0, f1, _, _, _⟩ := PF
    obtain ⟨r0, r1, _, _, _⟩ := PR
    refine bodyPost_ret (v := .tuple #[intv m4 A4 k4 c4, flt f4 g4]) (by simp [results, Tryz.results128, go_sem, f0, f1, r0, r1]) rfl ?_
    have hl9 := hl4.more (B' := U4PF.heap.size) (by omega)
    rcases Y4.out with ⟨h1, rfl, rfl, rfl⟩ | ⟨h1, rfl, rfl, rfl⟩
    · exact .inl ⟨h1, m4, A4, k4, c4, x4, rfl, hl9, R4.out, E⟩
    · exact .inr ⟨h1, m4, A4, k4, c4, x4, rfl, hl9, R4.out, E⟩
  · have sw3 := hb3.size
    have c3c := hl3.cap
    clear hr3 hl3
    replace E := E.trans (hb3.mono E.size)
    replace PR := PR.below hb3 PR.lt
    replace PF := PF.below hb3 PF.lt
    clear hb3
    go_wp2_with fail
    obtain ⟨V3, hV3⟩ : ∃ V3 : World, V3 = (w3.alloc (.cells #[.int .i64 14, .int .i64 (-1)] 28)) := ⟨_, rfl⟩
    have bV3 : Below w3.heap.size w3 V3 := by rw [hV3]; (repeat (first | with_reducible exact Below.refl _ _ | with_reducible refine Below.drew ?_ | with_reducible refine below_drewN ?_ _ | with_reducible refine Below.setCell ?_ (by first | (simp; done) | (simp; omega) | omega) _ | with_reducible refine Below.alloc ?_ (by first | (simp; done) | (simp; omega) | omega) _))
    have zV3 : w3.heap.size + 1 ≤ V3.heap.size := by rw [hV3]; simp
    have F10 : Bk2 V3 (w3.heap.size) (.int .i64 14) (.int .i64 (-1)) := by rw [hV3]; exact (Bk2.newAt _ _ (by simp) _ _ _)
    rw [← hV3]
    clear hV3
    replace E := E.trans (bV3.mono E.size)
    replace PR := PR.below bV3 PR.lt
    replace PF := PF.below bV3 PF.lt
    clear bV3
    clear F10
    (with_reducible refine (tooLarge_any _).mono ?_)
    rintro e w5 ⟨rfl, hb5⟩
    have sw5 := hb5.size
    replace E := E.trans (hb5.mono E.size)
    replace PR := PR.below hb5 PR.lt
    replace PF := PF.below hb5 PF.lt
    clear hb5
    have y_PR0 := PR.c0
    have z_PR0 := PR.z0
    have y_PR1 := PR.c1
    have z_PR1 := PR.z1
    have lt_PR := PR.lt
    have y_PF0 := PF.c0
    have z_PF0 := PF.z0
    have y_PF1 := PF.c1
    have z_PF1 := PF.z1
    have lt_PF := PF.lt
    go_wp2_with fail
    clear y_PR0 z_PR0 y_PR1 z_PR1 lt_PR y_PF0 z_PF0 y_PF1 z_PF1 lt_PF
    obtain ⟨U4PR, hU4PR⟩ : ∃ U4PR : World, U4PR = ((w5.setCell ⟨w.heap.size, 0, none⟩ (.bool false)).setCell ⟨w.heap.size, 1, none⟩ (.slice none 0 0)) := ⟨_, rfl⟩
    have zU4PR : U4PR.heap.size = w5.heap.size := by rw [hU4PR]; simp [World.setCell]
    replace E : Below w.heap.size w U4PR := by rw [hU4PR]; exact (E.setCell (by first | (simp; done) | (simp; omega)) _).setCell (by first | (simp; done) | (simp; omega)) _
    replace PF : Bk2 U4PR (w.heap.size + 1) (.int .i64 0) (.int .i64 0) := by rw [hU4PR]; exact PF.far2 (by omega) _ _
    replace PR : Bk2 U4PR (w.heap.size) (.bool false) (.slice none 0 0) := by rw [hU4PR]; exact PR.set _ _
    rw [← hU4PR]
    clear hU4PR
    have zU4PR' := Nat.le_of_eq zU4PR
    replace zU4PR := Nat.le_of_eq zU4PR.symm
    obtain ⟨U4PF, hU4PF⟩ : ∃ U4PF : World, U4PF = ((U4PR.setCell ⟨w.heap.size + 1, 0, none⟩ (.int .i64 14)).setCell ⟨w.heap.size + 1, 1, none⟩ (.int .i64 (-1))) := ⟨_, rfl⟩
    have zU4PF : U4PF.heap.size = U4PR.heap.size := by rw [hU4PF]; simp [World.setCell]
    replace E : Below w.heap.size w U4PF := by rw [hU4PF]; exact (E.setCell (by first | (simp; done) | (simp; omega)) _).setCell (by first | (simp; done) | (simp; omega)) _
    replace PR : Bk2 U4PF (w.heap.size) (.bool false) (.slice none 0 0) := by rw [hU4PF]; exact PR.far2 (by omega) _ _
    replace PF : Bk2 U4PF (w.heap.size + 1) (.int .i64 14) (.int .i64 (-1)) := by rw [hU4PF]; exact PF.set _ _
    rw [← hU4PF]
    clear hU4PF
    have zU4PF' := Nat.le_of_eq zU4PF
    replace zU4PF := Nat.le_of_eq zU4PF.symm
    obtain ⟨f0, f1, _, _, _⟩ := PF
    obtain ⟨r0, r1, _, _, _⟩ := PR
    refine bodyPost_ret (v := .tuple #[intv false none 0 0, flt 14 (-1)]) (by simp [results, Tryz.results128, go_sem, f0, f1, r0, r1]) rfl (.inr ⟨?_, false, none, 0, 0, [], rfl, nil_lrd _, irep0, E⟩)
    rw [sval_abs]; exact Nat.le_trans top_big hge
end Go.Proofs.YtflmcgoijofpdaaGreat
