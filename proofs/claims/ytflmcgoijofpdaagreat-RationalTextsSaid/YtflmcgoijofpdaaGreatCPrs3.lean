/- The program's Parse of ratios. -/
import Derived.Test.YtflmcgoijofpdaaGreatCPrs2
import Derived.Test.YtflmcgoijofpdaaGreatCi
namespace Go.Proofs.YtflmcgoijofpdaaGreat
open Go.RowKit
set_option maxHeartbeats 400000
set_option maxRecDepth 100000
set_option linter.unusedSimpArgs false
set_option linter.unusedVariables false

def DPart (b : ByteArray) (fd : Bool) (z f g : Int) : Prop := (fd = true ∧ DenIs b z f g) ∨ (fd = false ∧ z = 1 ∧ f = 0 ∧ g = 0)
def PpRes (a b : ByteArray) (fd : Bool) (x : RV) (c : Int) : Prop :=
  ∃ z1 f1 g1 z2 f2 g2, NumIs a z1 f1 g1 ∧ DPart b fd z2 f2 g2 ∧ ((c = 1 ∧ (f1 = 1 ∨ f2 = 1) ∧ Zr x) ∨ (c = 14 ∧ ¬ (f1 = 1 ∨ f2 = 1) ∧ (f1 ≠ 0 ∨ f2 ≠ 0) ∧ Zr x) ∨ (c = 0 ∧ f1 = 0 ∧ f2 = 0 ∧ IRep x.num.neg x.num.xs z1 ∧ IRep x.den.neg x.den.xs z2))
def GivesPp (w : World) (a b : ByteArray) (fd : Bool) (e : Ending) (w' : World) : Prop := ∃ (x : RV) (c : Int), e = .returned (.tuple #[x.v, .int .i64 c]) ∧ x.at w' w'.heap.size ∧ PpRes a b fd x c ∧ Below w.heap.size w w'
theorem zr_nil : Zr ⟨⟨false, none, 0, 0, []⟩, ⟨false, none, 0, 0, []⟩⟩ := ⟨IRep.zero, IRep.zero⟩
set_option maxHeartbeats 8000000 in
theorem ppt_false (w : World) (t a b : ByteArray) (ha : a.size ≤ 4097) (hb : b.size ≤ 4097) (HC : ∀ u, Calls Tryz.prog 127 #[.string t, .string ⟨#[47]⟩] u (fun e u' => e = .returned (.tuple #[.string a, .string b, .bool false]) ∧ Below u.heap.size u u')) :
    Calls Tryz.prog 100 #[.string t] w (GivesPp w a b false) := by
  have E : Below w.heap.size w w := Below.refl _ _
  go_enter Tryz.func100, Tryz.ntmps100
  go_wp2_with fail
  obtain ⟨V0, hV0⟩ : ∃ V0 : World, V0 = (w.alloc (.cells #[.bool false, .slice none 0 0, .bool false, .slice none 0 0] 26)) := ⟨_, rfl⟩
  have bV0 : Below w.heap.size w V0 := by rw [hV0]; (repeat (first | with_reducible exact Below.refl _ _ | with_reducible refine Below.drew ?_ | with_reducible refine below_drewN ?_ _ | with_reducible refine Below.setCell ?_ (by first | (simp; done) | (simp; omega) | omega) _ | with_reducible refine Below.alloc ?_ (by first | (simp; done) | (simp; omega) | omega) _))
  have zV0 : w.heap.size + 1 ≤ V0.heap.size := by rw [hV0]; simp
  have PR : Bk4 V0 (w.heap.size) (.bool false) (.slice none 0 0) (.bool false) (.slice none 0 0) := by rw [hV0]; exact (Bk4.newAt _ _ (by first | omega | (simp; done) | (simp; omega)) _ _ _ _ _)
  rw [← hV0]
  clear hV0
  replace E := E.trans (bV0.mono E.size)
  clear bV0
  (with_reducible refine (HC _).mono ?_)
  rintro e w1 ⟨rfl, hb1⟩
  have sw1 := hb1.size
  replace E := E.trans (hb1.mono E.size)
  replace PR := PR.below hb1 PR.lt
  clear hb1
  go_wp2_with fail
  (with_reducible refine (iparse_u _ a ha).mono ?_)
  rintro e w2 ⟨z1, f1, g1, hN, m, A, k, c, xs, rfl, hl1, hr1, hb2⟩
  have sw2 := hb2.size
  replace E := E.trans (hb2.mono E.size)
  replace PR := PR.below hb2 PR.lt
  clear hb2
  have NI := Lib.hid hN
  have R1 := Lib.hid hr1
  clear hr1 hN
  go_wp2_with fail
  obtain ⟨V2, hV2⟩ : ∃ V2 : World, V2 = ((w2.alloc (.cells #[.bool m, .slice A k c] 24)).alloc (.cells #[.int .i64 f1, .int .i64 g1] 28)) := ⟨_, rfl⟩
  have bV2 : Below w2.heap.size w2 V2 := by rw [hV2]; (repeat (first | with_reducible exact Below.refl _ _ | with_reducible refine Below.drew ?_ | with_reducible refine below_drewN ?_ _ | with_reducible refine Below.setCell ?_ (by first | (simp; done) | (simp; omega) | omega) _ | with_reducible refine Below.alloc ?_ (by first | (simp; done) | (simp; omega) | omega) _))
  have zV2 : w2.heap.size + 2 ≤ V2.heap.size := by rw [hV2]; simp
  have P7 : Bk2 V2 (w2.heap.size) (.bool m) (.slice A k c) := by rw [hV2]; exact ((Bk2.newAt _ _ (by first | omega | (simp; done) | (simp; omega)) _ _ _).alloc _)
  have F8 : Bk2 V2 (w2.heap.size + 1) (.int .i64 f1) (.int .i64 g1) := by rw [hV2]; exact (Bk2.newAt _ _ (by first | omega | (simp; done) | (simp; omega)) _ _ _)
  rw [← hV2]
  clear hV2
  replace E := E.trans (bV2.mono E.size)
  replace PR := PR.below bV2 PR.lt
  replace hl1 := hl1.below bV2 (by omega)
  clear bV2
  (with_reducible refine (iof_any _ 1 (by decide) (by decide)).mono ?_)
  rintro e w3 ⟨m2, A2, k2, c2, x2, rfl, hl2, hr2, hb3⟩
  have sw3 := hb3.size
  replace E := E.trans (hb3.mono E.size)
  replace PR := PR.below hb3 PR.lt
  replace hl1 := hl1.below hb3 (by omega)
  replace P7 := P7.below hb3 P7.lt
  replace F8 := F8.below hb3 F8.lt
  clear hb3
  have R2 := Lib.hid hr2
  clear hr2
  go_upto_region 6 with fail
  obtain ⟨V3, hV3⟩ : ∃ V3 : World, V3 = ((w3.alloc (.cells #[.bool m2, .slice A2 k2 c2] 24)).alloc (.cells #[.int .i64 0, .int .i64 0] 28)) := ⟨_, rfl⟩
  have bV3 : Below w3.heap.size w3 V3 := by rw [hV3]; (repeat (first | with_reducible exact Below.refl _ _ | with_reducible refine Below.drew ?_ | with_reducible refine below_drewN ?_ _ | with_reducible refine Below.setCell ?_ (by first | (simp; done) | (simp; omega) | omega) _ | with_reducible refine Below.alloc ?_ (by first | (simp; done) | (simp; omega) | omega) _))
  have zV3 : w3.heap.size + 2 ≤ V3.heap.size := by rw [hV3]; simp
  have P9 : Bk2 V3 (w3.heap.size) (.bool m2) (.slice A2 k2 c2) := by rw [hV3]; exact ((Bk2.newAt _ _ (by first | omega | (simp; done) | (simp; omega)) _ _ _).alloc _)
  have F10 : Bk2 V3 (w3.heap.size + 1) (.int .i64 0) (.int .i64 0) := by rw [hV3]; exact (Bk2.newAt _ _ (by first | omega | (simp; done) | (simp; omega)) _ _ _)
  rw [← hV3]
  clear hV3
  replace E := E.trans (bV3.mono E.size)
  replace PR := PR.below bV3 PR.lt
  replace hl1 := hl1.below bV3 (by omega)
  replace P7 := P7.below bV3 P7.lt
  replace F8 := F8.below bV3 F8.lt
  replace hl2 := hl2.below bV3 (by omega)
  clear bV3
  rcases NI.out with ⟨hn, rfl, rfl, rfl⟩ | ⟨hn, hn1, rfl, rfl, rfl⟩ | ⟨hn, hn1, rfl, rfl, rfl⟩
  · clear hn
    · have y_PR0 := PR.c0
      have z_PR0 := PR.z0
      have y_PR1 := PR.c1
      have z_PR1 := PR.z1
      have y_PR2 := PR.c2
      have z_PR2 := PR.z2
      have y_PR3 := PR.c3
      have z_PR3 := PR.z3
      have lt_PR := PR.lt
      have t_F80 := F8.c0
      have t_F81 := F8.c1
      have lt_F8 := F8.lt
      have t_F100 := F10.c0
      have t_F101 := F10.c1
      have lt_F10 := F10.lt
      go_wp2_with fail
      clear y_PR0 z_PR0 y_PR1 z_PR1 y_PR2 z_PR2 y_PR3 z_PR3 lt_PR t_F80 t_F81 lt_F8 t_F100 t_F101 lt_F10
      obtain ⟨U4PR, hU4PR⟩ : ∃ U4PR : World, U4PR = ((((V3.setCell ⟨w.heap.size, 0, none⟩ (.bool false)).setCell ⟨w.heap.size, 1, none⟩ (.slice none 0 0)).setCell ⟨w.heap.size, 2, none⟩ (.bool false)).setCell ⟨w.heap.size, 3, none⟩ (.slice none 0 0)) := ⟨_, rfl⟩
      have zU4PR : U4PR.heap.size = V3.heap.size := by rw [hU4PR]; simp [World.setCell]
      replace E : Below w.heap.size w U4PR := by rw [hU4PR]; exact ((((E.setCell (by first | (simp; done) | (simp; omega)) _).setCell (by first | (simp; done) | (simp; omega)) _).setCell (by first | (simp; done) | (simp; omega)) _).setCell (by first | (simp; done) | (simp; omega)) _)
      replace hl1 : LRd U4PR (w2.heap.size) A k c xs := by rw [hU4PR]; first | exact hl1.set4 PR (by simp) (by simp) (by simp) (by simp) _ _ _ _ | exact hl1.set4O (by omega) _ _ _ _
      replace P7 : Bk2 U4PR (w2.heap.size) (.bool m) (.slice A k c) := by rw [hU4PR]; exact P7.far4 (by omega) _ _ _ _
      replace F8 : Bk2 U4PR (w2.heap.size + 1) (.int .i64 1) (.int .i64 (-1)) := by rw [hU4PR]; exact F8.far4 (by omega) _ _ _ _
      replace hl2 : LRd U4PR (w3.heap.size) A2 k2 c2 x2 := by rw [hU4PR]; first | exact hl2.set4 PR (by simp) (by simp) (by simp) (by simp) _ _ _ _ | exact hl2.set4O (by omega) _ _ _ _
      replace P9 : Bk2 U4PR (w3.heap.size) (.bool m2) (.slice A2 k2 c2) := by rw [hU4PR]; exact P9.far4 (by omega) _ _ _ _
      replace F10 : Bk2 U4PR (w3.heap.size + 1) (.int .i64 0) (.int .i64 0) := by rw [hU4PR]; exact F10.far4 (by omega) _ _ _ _
      replace PR : Bk4 U4PR (w.heap.size) (.bool false) (.slice none 0 0) (.bool false) (.slice none 0 0) := by rw [hU4PR]; exact PR.set _ _ _ _
      rw [← hU4PR]
      clear hU4PR
      have zU4PR' := Nat.le_of_eq zU4PR
      replace zU4PR := Nat.le_of_eq zU4PR.symm
      obtain ⟨r0, r1, r2, r3, _, _, _, _, _⟩ := PR
      refine bodyPost_ret (v := .tuple #[ratv false none 0 0 false none 0 0, .int .i64 1]) (by simp [results, Tryz.results100, go_sem, r0, r1, r2, r3]) rfl ⟨⟨⟨false, none, 0, 0, []⟩, ⟨false, none, 0, 0, []⟩⟩, 1, rfl, ⟨nil_lrd _, nil_lrd _⟩, ⟨_, _, _, _, _, _, NI.out, (.inr ⟨rfl, rfl, rfl, rfl⟩), (.inl ⟨rfl, by decide, zr_nil⟩)⟩, E⟩
  · clear hn hn1
    · have y_PR0 := PR.c0
      have z_PR0 := PR.z0
      have y_PR1 := PR.c1
      have z_PR1 := PR.z1
      have y_PR2 := PR.c2
      have z_PR2 := PR.z2
      have y_PR3 := PR.c3
      have z_PR3 := PR.z3
      have lt_PR := PR.lt
      have t_F80 := F8.c0
      have t_F81 := F8.c1
      have lt_F8 := F8.lt
      have t_F100 := F10.c0
      have t_F101 := F10.c1
      have lt_F10 := F10.lt
      go_wp2_with fail
      clear y_PR0 z_PR0 y_PR1 z_PR1 y_PR2 z_PR2 y_PR3 z_PR3 lt_PR t_F80 t_F81 lt_F8 t_F100 t_F101 lt_F10
      obtain ⟨U4PR, hU4PR⟩ : ∃ U4PR : World, U4PR = ((((V3.setCell ⟨w.heap.size, 0, none⟩ (.bool false)).setCell ⟨w.heap.size, 1, none⟩ (.slice none 0 0)).setCell ⟨w.heap.size, 2, none⟩ (.bool false)).setCell ⟨w.heap.size, 3, none⟩ (.slice none 0 0)) := ⟨_, rfl⟩
      have zU4PR : U4PR.heap.size = V3.heap.size := by rw [hU4PR]; simp [World.setCell]
      replace E : Below w.heap.size w U4PR := by rw [hU4PR]; exact ((((E.setCell (by first | (simp; done) | (simp; omega)) _).setCell (by first | (simp; done) | (simp; omega)) _).setCell (by first | (simp; done) | (simp; omega)) _).setCell (by first | (simp; done) | (simp; omega)) _)
      replace hl1 : LRd U4PR (w2.heap.size) A k c xs := by rw [hU4PR]; first | exact hl1.set4 PR (by simp) (by simp) (by simp) (by simp) _ _ _ _ | exact hl1.set4O (by omega) _ _ _ _
      replace P7 : Bk2 U4PR (w2.heap.size) (.bool m) (.slice A k c) := by rw [hU4PR]; exact P7.far4 (by omega) _ _ _ _
      replace F8 : Bk2 U4PR (w2.heap.size + 1) (.int .i64 14) (.int .i64 (-1)) := by rw [hU4PR]; exact F8.far4 (by omega) _ _ _ _
      replace hl2 : LRd U4PR (w3.heap.size) A2 k2 c2 x2 := by rw [hU4PR]; first | exact hl2.set4 PR (by simp) (by simp) (by simp) (by simp) _ _ _ _ | exact hl2.set4O (by omega) _ _ _ _
      replace P9 : Bk2 U4PR (w3.heap.size) (.bool m2) (.slice A2 k2 c2) := by rw [hU4PR]; exact P9.far4 (by omega) _ _ _ _
      replace F10 : Bk2 U4PR (w3.heap.size + 1) (.int .i64 0) (.int .i64 0) := by rw [hU4PR]; exact F10.far4 (by omega) _ _ _ _
      replace PR : Bk4 U4PR (w.heap.size) (.bool false) (.slice none 0 0) (.bool false) (.slice none 0 0) := by rw [hU4PR]; exact PR.set _ _ _ _
      rw [← hU4PR]
      clear hU4PR
      have zU4PR' := Nat.le_of_eq zU4PR
      replace zU4PR := Nat.le_of_eq zU4PR.symm
      obtain ⟨r0, r1, r2, r3, _, _, _, _, _⟩ := PR
      refine bodyPost_ret (v := .tuple #[ratv false none 0 0 false none 0 0, .int .i64 14]) (by simp [results, Tryz.results100, go_sem, r0, r1, r2, r3]) rfl ⟨⟨⟨false, none, 0, 0, []⟩, ⟨false, none, 0, 0, []⟩⟩, 14, rfl, ⟨nil_lrd _, nil_lrd _⟩, ⟨_, _, _, _, _, _, NI.out, (.inr ⟨rfl, rfl, rfl, rfl⟩), (.inr (.inl ⟨rfl, by decide, by decide, zr_nil⟩))⟩, E⟩
  · clear hn hn1
    · have y_PR0 := PR.c0
      have z_PR0 := PR.z0
      have y_PR1 := PR.c1
      have z_PR1 := PR.z1
      have y_PR2 := PR.c2
      have z_PR2 := PR.z2
      have y_PR3 := PR.c3
      have z_PR3 := PR.z3
      have lt_PR := PR.lt
      have t_F80 := F8.c0
      have t_F81 := F8.c1
      have lt_F8 := F8.lt
      have t_F100 := F10.c0
      have t_F101 := F10.c1
      have lt_F10 := F10.lt
      have t_P70 := P7.c0
      have t_P71 := P7.c1
      have lt_P7 := P7.lt
      have t_P90 := P9.c0
      have t_P91 := P9.c1
      have lt_P9 := P9.lt
      go_wp2_with fail
      clear y_PR0 z_PR0 y_PR1 z_PR1 y_PR2 z_PR2 y_PR3 z_PR3 lt_PR t_F80 t_F81 lt_F8 t_F100 t_F101 lt_F10 t_P70 t_P71 lt_P7 t_P90 t_P91 lt_P9
      obtain ⟨U4PR, hU4PR⟩ : ∃ U4PR : World, U4PR = ((((V3.setCell ⟨w.heap.size, 0, none⟩ (.bool m)).setCell ⟨w.heap.size, 1, none⟩ (.slice A k c)).setCell ⟨w.heap.size, 2, none⟩ (.bool m2)).setCell ⟨w.heap.size, 3, none⟩ (.slice A2 k2 c2)) := ⟨_, rfl⟩
      have zU4PR : U4PR.heap.size = V3.heap.size := by rw [hU4PR]; simp [World.setCell]
      replace E : Below w.heap.size w U4PR := by rw [hU4PR]; exact ((((E.setCell (by first | (simp; done) | (simp; omega)) _).setCell (by first | (simp; done) | (simp; omega)) _).setCell (by first | (simp; done) | (simp; omega)) _).setCell (by first | (simp; done) | (simp; omega)) _)
      replace hl1 : LRd U4PR (w2.heap.size) A k c xs := by rw [hU4PR]; first | exact hl1.set4 PR (by simp) (by simp) (by simp) (by simp) _ _ _ _ | exact hl1.set4O (by omega) _ _ _ _
      replace P7 : Bk2 U4PR (w2.heap.size) (.bool m) (.slice A k c) := by rw [hU4PR]; exact P7.far4 (by omega) _ _ _ _
      replace F8 : Bk2 U4PR (w2.heap.size + 1) (.int .i64 0) (.int .i64 0) := by rw [hU4PR]; exact F8.far4 (by omega) _ _ _ _
      replace hl2 : LRd U4PR (w3.heap.size) A2 k2 c2 x2 := by rw [hU4PR]; first | exact hl2.set4 PR (by simp) (by simp) (by simp) (by simp) _ _ _ _ | exact hl2.set4O (by omega) _ _ _ _
      replace P9 : Bk2 U4PR (w3.heap.size) (.bool m2) (.slice A2 k2 c2) := by rw [hU4PR]; exact P9.far4 (by omega) _ _ _ _
      replace F10 : Bk2 U4PR (w3.heap.size + 1) (.int .i64 0) (.int .i64 0) := by rw [hU4PR]; exact F10.far4 (by omega) _ _ _ _
      replace PR : Bk4 U4PR (w.heap.size) (.bool m) (.slice A k c) (.bool m2) (.slice A2 k2 c2) := by rw [hU4PR]; exact PR.set _ _ _ _
      rw [← hU4PR]
      clear hU4PR
      have zU4PR' := Nat.le_of_eq zU4PR
      replace zU4PR := Nat.le_of_eq zU4PR.symm
      obtain ⟨r0, r1, r2, r3, _, _, _, _, _⟩ := PR
      refine bodyPost_ret (v := .tuple #[ratv m A k c m2 A2 k2 c2, .int .i64 0]) (by simp [results, Tryz.results100, go_sem, r0, r1, r2, r3]) rfl ⟨⟨⟨m, A, k, c, xs⟩, ⟨m2, A2, k2, c2, x2⟩⟩, 0, rfl, ⟨hl1.more (by omega), hl2.more (by omega)⟩, ⟨_, _, _, _, _, _, NI.out, (.inr ⟨rfl, rfl, rfl, rfl⟩), .inr (.inr ⟨rfl, rfl, rfl, R1.out, R2.out⟩)⟩, E⟩
set_option maxHeartbeats 8000000 in
theorem ppt_true (w : World) (t a b : ByteArray) (ha : a.size ≤ 4097) (hb : b.size ≤ 4097) (HC : ∀ u, Calls Tryz.prog 127 #[.string t, .string ⟨#[47]⟩] u (fun e u' => e = .returned (.tuple #[.string a, .string b, .bool true]) ∧ Below u.heap.size u u')) :
    Calls Tryz.prog 100 #[.string t] w (GivesPp w a b true) := by
  have E : Below w.heap.size w w := Below.refl _ _
  go_enter Tryz.func100, Tryz.ntmps100
  go_wp2_with fail
  obtain ⟨V0, hV0⟩ : ∃ V0 : World, V0 = (w.alloc (.cells #[.bool false, .slice none 0 0, .bool false, .slice none 0 0] 26)) := ⟨_, rfl⟩
  have bV0 : Below w.heap.size w V0 := by rw [hV0]; (repeat (first | with_reducible exact Below.refl _ _ | with_reducible refine Below.drew ?_ | with_reducible refine below_drewN ?_ _ | with_reducible refine Below.setCell ?_ (by first | (simp; done) | (simp; omega) | omega) _ | with_reducible refine Below.alloc ?_ (by first | (simp; done) | (simp; omega) | omega) _))
  have zV0 : w.heap.size + 1 ≤ V0.heap.size := by rw [hV0]; simp
  have PR : Bk4 V0 (w.heap.size) (.bool false) (.slice none 0 0) (.bool false) (.slice none 0 0) := by rw [hV0]; exact (Bk4.newAt _ _ (by first | omega | (simp; done) | (simp; omega)) _ _ _ _ _)
  rw [← hV0]
  clear hV0
  replace E := E.trans (bV0.mono E.size)
  clear bV0
  (with_reducible refine (HC _).mono ?_)
  rintro e w1 ⟨rfl, hb1⟩
  have sw1 := hb1.size
  replace E := E.trans (hb1.mono E.size)
  replace PR := PR.below hb1 PR.lt
  clear hb1
  go_wp2_with fail
  (with_reducible refine (iparse_u _ a ha).mono ?_)
  rintro e w2 ⟨z1, f1, g1, hN, m, A, k, c, xs, rfl, hl1, hr1, hb2⟩
  have sw2 := hb2.size
  replace E := E.trans (hb2.mono E.size)
  replace PR := PR.below hb2 PR.lt
  clear hb2
  have NI := Lib.hid hN
  have R1 := Lib.hid hr1
  clear hr1 hN
  go_wp2_with fail
  obtain ⟨V2, hV2⟩ : ∃ V2 : World, V2 = ((w2.alloc (.cells #[.bool m, .slice A k c] 24)).alloc (.cells #[.int .i64 f1, .int .i64 g1] 28)) := ⟨_, rfl⟩
  have bV2 : Below w2.heap.size w2 V2 := by rw [hV2]; (repeat (first | with_reducible exact Below.refl _ _ | with_reducible refine Below.drew ?_ | with_reducible refine below_drewN ?_ _ | with_reducible refine Below.setCell ?_ (by first | (simp; done) | (simp; omega) | omega) _ | with_reducible refine Below.alloc ?_ (by first | (simp; done) | (simp; omega) | omega) _))
  have zV2 : w2.heap.size + 2 ≤ V2.heap.size := by rw [hV2]; simp
  have P7 : Bk2 V2 (w2.heap.size) (.bool m) (.slice A k c) := by rw [hV2]; exact ((Bk2.newAt _ _ (by first | omega | (simp; done) | (simp; omega)) _ _ _).alloc _)
  have F8 : Bk2 V2 (w2.heap.size + 1) (.int .i64 f1) (.int .i64 g1) := by rw [hV2]; exact (Bk2.newAt _ _ (by first | omega | (simp; done) | (simp; omega)) _ _ _)
  rw [← hV2]
  clear hV2
  replace E := E.trans (bV2.mono E.size)
  replace PR := PR.below bV2 PR.lt
  replace hl1 := hl1.below bV2 (by omega)
  clear bV2
  (with_reducible refine (iof_any _ 1 (by decide) (by decide)).mono ?_)
  rintro e w3 ⟨m2, A2, k2, c2, x2, rfl, hl2, hr2, hb3⟩
  have sw3 := hb3.size
  replace E := E.trans (hb3.mono E.size)
  replace PR := PR.below hb3 PR.lt
  replace hl1 := hl1.below hb3 (by omega)
  replace P7 := P7.below hb3 P7.lt
  replace F8 := F8.below hb3 F8.lt
  clear hb3
  have R2 := Lib.hid hr2
  clear hr2
  go_wp2_with fail
  obtain ⟨V3, hV3⟩ : ∃ V3 : World, V3 = ((w3.alloc (.cells #[.bool m2, .slice A2 k2 c2] 24)).alloc (.cells #[.int .i64 0, .int .i64 0] 28)) := ⟨_, rfl⟩
  have bV3 : Below w3.heap.size w3 V3 := by rw [hV3]; (repeat (first | with_reducible exact Below.refl _ _ | with_reducible refine Below.drew ?_ | with_reducible refine below_drewN ?_ _ | with_reducible refine Below.setCell ?_ (by first | (simp; done) | (simp; omega) | omega) _ | with_reducible refine Below.alloc ?_ (by first | (simp; done) | (simp; omega) | omega) _))
  have zV3 : w3.heap.size + 2 ≤ V3.heap.size := by rw [hV3]; simp
  have P9 : Bk2 V3 (w3.heap.size) (.bool m2) (.slice A2 k2 c2) := by rw [hV3]; exact ((Bk2.newAt _ _ (by first | omega | (simp; done) | (simp; omega)) _ _ _).alloc _)
  have F10 : Bk2 V3 (w3.heap.size + 1) (.int .i64 0) (.int .i64 0) := by rw [hV3]; exact (Bk2.newAt _ _ (by first | omega | (simp; done) | (simp; omega)) _ _ _)
  rw [← hV3]
  clear hV3
  replace E := E.trans (bV3.mono E.size)
  replace PR := PR.below bV3 PR.lt
  replace hl1 := hl1.below bV3 (by omega)
  replace P7 := P7.below bV3 P7.lt
  replace F8 := F8.below bV3 F8.lt
  replace hl2 := hl2.below bV3 (by omega)
  clear bV3
  (with_reducible refine (pden_any _ b hb).mono ?_)
  rintro e w4 ⟨z2, f2, g2, hD, m3, A3, k3, c3, x3, rfl, hl3, hr3, hb4⟩
  have sw4 := hb4.size
  replace E := E.trans (hb4.mono E.size)
  replace PR := PR.below hb4 PR.lt
  replace hl1 := hl1.below hb4 (by omega)
  replace P7 := P7.below hb4 P7.lt
  replace F8 := F8.below hb4 F8.lt
  replace hl2 := hl2.below hb4 (by omega)
  replace P9 := P9.below hb4 P9.lt
  replace F10 := F10.below hb4 F10.lt
  clear hb4
  have DI := Lib.hid hD
  have R3 := Lib.hid hr3
  clear hr3 hD
  clear hl2
  have y_P90 := P9.c0
  have z_P90 := P9.z0
  have y_P91 := P9.c1
  have z_P91 := P9.z1
  have lt_P9 := P9.lt
  have y_F100 := F10.c0
  have z_F100 := F10.z0
  have y_F101 := F10.c1
  have z_F101 := F10.z1
  have lt_F10 := F10.lt
  go_upto_region 6 with fail
  clear y_P90 z_P90 y_P91 z_P91 lt_P9 y_F100 z_F100 y_F101 z_F101 lt_F10
  obtain ⟨U4P9, hU4P9⟩ : ∃ U4P9 : World, U4P9 = ((w4.setCell ⟨w3.heap.size, 0, none⟩ (.bool m3)).setCell ⟨w3.heap.size, 1, none⟩ (.slice A3 k3 c3)) := ⟨_, rfl⟩
  have zU4P9 : U4P9.heap.size = w4.heap.size := by rw [hU4P9]; simp [World.setCell]
  replace E : Below w.heap.size w U4P9 := by rw [hU4P9]; exact ((E.setCell (by first | (simp; done) | (simp; omega)) _).setCell (by first | (simp; done) | (simp; omega)) _)
  replace PR : Bk4 U4P9 (w.heap.size) (.bool false) (.slice none 0 0) (.bool false) (.slice none 0 0) := by rw [hU4P9]; exact PR.far2 (by omega) _ _
  replace hl1 : LRd U4P9 (w2.heap.size) A k c xs := by rw [hU4P9]; first | exact hl1.setB P9 (by simp) (by simp) _ _ | exact hl1.setFarL (by omega) _ _
  replace P7 : Bk2 U4P9 (w2.heap.size) (.bool m) (.slice A k c) := by rw [hU4P9]; exact P7.far2 (by omega) _ _
  replace F8 : Bk2 U4P9 (w2.heap.size + 1) (.int .i64 f1) (.int .i64 g1) := by rw [hU4P9]; exact F8.far2 (by omega) _ _
  replace F10 : Bk2 U4P9 (w3.heap.size + 1) (.int .i64 0) (.int .i64 0) := by rw [hU4P9]; exact F10.far2 (by omega) _ _
  replace hl3 : LRd U4P9 (w4.heap.size) A3 k3 c3 x3 := by rw [hU4P9]; first | exact hl3.setB P9 (by simp) (by simp) _ _ | exact hl3.setFarL (by omega) _ _
  replace P9 : Bk2 U4P9 (w3.heap.size) (.bool m3) (.slice A3 k3 c3) := by rw [hU4P9]; exact P9.set _ _
  rw [← hU4P9]
  clear hU4P9
  have zU4P9' := Nat.le_of_eq zU4P9
  replace zU4P9 := Nat.le_of_eq zU4P9.symm
  obtain ⟨U4F10, hU4F10⟩ : ∃ U4F10 : World, U4F10 = ((U4P9.setCell ⟨w3.heap.size + 1, 0, none⟩ (.int .i64 f2)).setCell ⟨w3.heap.size + 1, 1, none⟩ (.int .i64 g2)) := ⟨_, rfl⟩
  have zU4F10 : U4F10.heap.size = U4P9.heap.size := by rw [hU4F10]; simp [World.setCell]
  replace E : Below w.heap.size w U4F10 := by rw [hU4F10]; exact ((E.setCell (by first | (simp; done) | (simp; omega)) _).setCell (by first | (simp; done) | (simp; omega)) _)
  replace PR : Bk4 U4F10 (w.heap.size) (.bool false) (.slice none 0 0) (.bool false) (.slice none 0 0) := by rw [hU4F10]; exact PR.far2 (by omega) _ _
  replace hl1 : LRd U4F10 (w2.heap.size) A k c xs := by rw [hU4F10]; first | exact hl1.setB F10 (by simp) (by simp) _ _ | exact hl1.setFarL (by omega) _ _
  replace P7 : Bk2 U4F10 (w2.heap.size) (.bool m) (.slice A k c) := by rw [hU4F10]; exact P7.far2 (by omega) _ _
  replace F8 : Bk2 U4F10 (w2.heap.size + 1) (.int .i64 f1) (.int .i64 g1) := by rw [hU4F10]; exact F8.far2 (by omega) _ _
  replace P9 : Bk2 U4F10 (w3.heap.size) (.bool m3) (.slice A3 k3 c3) := by rw [hU4F10]; exact P9.far2 (by omega) _ _
  replace hl3 : LRd U4F10 (w4.heap.size) A3 k3 c3 x3 := by rw [hU4F10]; first | exact hl3.setB F10 (by simp) (by simp) _ _ | exact hl3.setFarL (by omega) _ _
  replace F10 : Bk2 U4F10 (w3.heap.size + 1) (.int .i64 f2) (.int .i64 g2) := by rw [hU4F10]; exact F10.set _ _
  rw [← hU4F10]
  clear hU4F10
  have zU4F10' := Nat.le_of_eq zU4F10
  replace zU4F10 := Nat.le_of_eq zU4F10.symm
  rcases NI.out with ⟨hn, rfl, rfl, rfl⟩ | ⟨hn, hn1, rfl, rfl, rfl⟩ | ⟨hn, hn1, rfl, rfl, rfl⟩
  · clear hn
    rcases DI.out with ⟨hd, rfl, rfl, rfl⟩ | ⟨hd, hd1, rfl, rfl, rfl⟩ | ⟨hd, hd1, rfl, rfl, rfl⟩
    · clear hd
      have y_PR0 := PR.c0
      have z_PR0 := PR.z0
      have y_PR1 := PR.c1
      have z_PR1 := PR.z1
      have y_PR2 := PR.c2
      have z_PR2 := PR.z2
      have y_PR3 := PR.c3
      have z_PR3 := PR.z3
      have lt_PR := PR.lt
      have t_F80 := F8.c0
      have t_F81 := F8.c1
      have lt_F8 := F8.lt
      have t_F100 := F10.c0
      have t_F101 := F10.c1
      have lt_F10 := F10.lt
      go_wp2_with fail
      clear y_PR0 z_PR0 y_PR1 z_PR1 y_PR2 z_PR2 y_PR3 z_PR3 lt_PR t_F80 t_F81 lt_F8 t_F100 t_F101 lt_F10
      obtain ⟨U5PR, hU5PR⟩ : ∃ U5PR : World, U5PR = ((((U4F10.setCell ⟨w.heap.size, 0, none⟩ (.bool false)).setCell ⟨w.heap.size, 1, none⟩ (.slice none 0 0)).setCell ⟨w.heap.size, 2, none⟩ (.bool false)).setCell ⟨w.heap.size, 3, none⟩ (.slice none 0 0)) := ⟨_, rfl⟩
      have zU5PR : U5PR.heap.size = U4F10.heap.size := by rw [hU5PR]; simp [World.setCell]
      replace E : Below w.heap.size w U5PR := by rw [hU5PR]; exact ((((E.setCell (by first | (simp; done) | (simp; omega)) _).setCell (by first | (simp; done) | (simp; omega)) _).setCell (by first | (simp; done) | (simp; omega)) _).setCell (by first | (simp; done) | (simp; omega)) _)
      replace hl1 : LRd U5PR (w2.heap.size) A k c xs := by rw [hU5PR]; first | exact hl1.set4 PR (by simp) (by simp) (by simp) (by simp) _ _ _ _ | exact hl1.set4O (by omega) _ _ _ _
      replace P7 : Bk2 U5PR (w2.heap.size) (.bool m) (.slice A k c) := by rw [hU5PR]; exact P7.far4 (by omega) _ _ _ _
      replace F8 : Bk2 U5PR (w2.heap.size + 1) (.int .i64 1) (.int .i64 (-1)) := by rw [hU5PR]; exact F8.far4 (by omega) _ _ _ _
      replace P9 : Bk2 U5PR (w3.heap.size) (.bool m3) (.slice A3 k3 c3) := by rw [hU5PR]; exact P9.far4 (by omega) _ _ _ _
      replace F10 : Bk2 U5PR (w3.heap.size + 1) (.int .i64 1) (.int .i64 (-1)) := by rw [hU5PR]; exact F10.far4 (by omega) _ _ _ _
      replace hl3 : LRd U5PR (w4.heap.size) A3 k3 c3 x3 := by rw [hU5PR]; first | exact hl3.set4 PR (by simp) (by simp) (by simp) (by simp) _ _ _ _ | exact hl3.set4O (by omega) _ _ _ _
      replace PR : Bk4 U5PR (w.heap.size) (.bool false) (.slice none 0 0) (.bool false) (.slice none 0 0) := by rw [hU5PR]; exact PR.set _ _ _ _
      rw [← hU5PR]
      clear hU5PR
      have zU5PR' := Nat.le_of_eq zU5PR
      replace zU5PR := Nat.le_of_eq zU5PR.symm
      obtain ⟨r0, r1, r2, r3, _, _, _, _, _⟩ := PR
      refine bodyPost_ret (v := .tuple #[ratv false none 0 0 false none 0 0, .int .i64 1]) (by simp [results, Tryz.results100, go_sem, r0, r1, r2, r3]) rfl ⟨⟨⟨false, none, 0, 0, []⟩, ⟨false, none, 0, 0, []⟩⟩, 1, rfl, ⟨nil_lrd _, nil_lrd _⟩, ⟨_, _, _, _, _, _, NI.out, (.inl ⟨rfl, DI.out⟩), (.inl ⟨rfl, by decide, zr_nil⟩)⟩, E⟩
    · clear hd hd1
      have y_PR0 := PR.c0
      have z_PR0 := PR.z0
      have y_PR1 := PR.c1
      have z_PR1 := PR.z1
      have y_PR2 := PR.c2
      have z_PR2 := PR.z2
      have y_PR3 := PR.c3
      have z_PR3 := PR.z3
      have lt_PR := PR.lt
      have t_F80 := F8.c0
      have t_F81 := F8.c1
      have lt_F8 := F8.lt
      have t_F100 := F10.c0
      have t_F101 := F10.c1
      have lt_F10 := F10.lt
      go_wp2_with fail
      clear y_PR0 z_PR0 y_PR1 z_PR1 y_PR2 z_PR2 y_PR3 z_PR3 lt_PR t_F80 t_F81 lt_F8 t_F100 t_F101 lt_F10
      obtain ⟨U5PR, hU5PR⟩ : ∃ U5PR : World, U5PR = ((((U4F10.setCell ⟨w.heap.size, 0, none⟩ (.bool false)).setCell ⟨w.heap.size, 1, none⟩ (.slice none 0 0)).setCell ⟨w.heap.size, 2, none⟩ (.bool false)).setCell ⟨w.heap.size, 3, none⟩ (.slice none 0 0)) := ⟨_, rfl⟩
      have zU5PR : U5PR.heap.size = U4F10.heap.size := by rw [hU5PR]; simp [World.setCell]
      replace E : Below w.heap.size w U5PR := by rw [hU5PR]; exact ((((E.setCell (by first | (simp; done) | (simp; omega)) _).setCell (by first | (simp; done) | (simp; omega)) _).setCell (by first | (simp; done) | (simp; omega)) _).setCell (by first | (simp; done) | (simp; omega)) _)
      replace hl1 : LRd U5PR (w2.heap.size) A k c xs := by rw [hU5PR]; first | exact hl1.set4 PR (by simp) (by simp) (by simp) (by simp) _ _ _ _ | exact hl1.set4O (by omega) _ _ _ _
      replace P7 : Bk2 U5PR (w2.heap.size) (.bool m) (.slice A k c) := by rw [hU5PR]; exact P7.far4 (by omega) _ _ _ _
      replace F8 : Bk2 U5PR (w2.heap.size + 1) (.int .i64 1) (.int .i64 (-1)) := by rw [hU5PR]; exact F8.far4 (by omega) _ _ _ _
      replace P9 : Bk2 U5PR (w3.heap.size) (.bool m3) (.slice A3 k3 c3) := by rw [hU5PR]; exact P9.far4 (by omega) _ _ _ _
      replace F10 : Bk2 U5PR (w3.heap.size + 1) (.int .i64 14) (.int .i64 (-1)) := by rw [hU5PR]; exact F10.far4 (by omega) _ _ _ _
      replace hl3 : LRd U5PR (w4.heap.size) A3 k3 c3 x3 := by rw [hU5PR]; first | exact hl3.set4 PR (by simp) (by simp) (by simp) (by simp) _ _ _ _ | exact hl3.set4O (by omega) _ _ _ _
      replace PR : Bk4 U5PR (w.heap.size) (.bool false) (.slice none 0 0) (.bool false) (.slice none 0 0) := by rw [hU5PR]; exact PR.set _ _ _ _
      rw [← hU5PR]
      clear hU5PR
      have zU5PR' := Nat.le_of_eq zU5PR
      replace zU5PR := Nat.le_of_eq zU5PR.symm
      obtain ⟨r0, r1, r2, r3, _, _, _, _, _⟩ := PR
      refine bodyPost_ret (v := .tuple #[ratv false none 0 0 false none 0 0, .int .i64 1]) (by simp [results, Tryz.results100, go_sem, r0, r1, r2, r3]) rfl ⟨⟨⟨false, none, 0, 0, []⟩, ⟨false, none, 0, 0, []⟩⟩, 1, rfl, ⟨nil_lrd _, nil_lrd _⟩, ⟨_, _, _, _, _, _, NI.out, (.inl ⟨rfl, DI.out⟩), (.inl ⟨rfl, by decide, zr_nil⟩)⟩, E⟩
    · clear hd hd1
      have y_PR0 := PR.c0
      have z_PR0 := PR.z0
      have y_PR1 := PR.c1
      have z_PR1 := PR.z1
      have y_PR2 := PR.c2
      have z_PR2 := PR.z2
      have y_PR3 := PR.c3
      have z_PR3 := PR.z3
      have lt_PR := PR.lt
      have t_F80 := F8.c0
      have t_F81 := F8.c1
      have lt_F8 := F8.lt
      have t_F100 := F10.c0
      have t_F101 := F10.c1
      have lt_F10 := F10.lt
      go_wp2_with fail
      clear y_PR0 z_PR0 y_PR1 z_PR1 y_PR2 z_PR2 y_PR3 z_PR3 lt_PR t_F80 t_F81 lt_F8 t_F100 t_F101 lt_F10
      obtain ⟨U5PR, hU5PR⟩ : ∃ U5PR : World, U5PR = ((((U4F10.setCell ⟨w.heap.size, 0, none⟩ (.bool false)).setCell ⟨w.heap.size, 1, none⟩ (.slice none 0 0)).setCell ⟨w.heap.size, 2, none⟩ (.bool false)).setCell ⟨w.heap.size, 3, none⟩ (.slice none 0 0)) := ⟨_, rfl⟩
      have zU5PR : U5PR.heap.size = U4F10.heap.size := by rw [hU5PR]; simp [World.setCell]
      replace E : Below w.heap.size w U5PR := by rw [hU5PR]; exact ((((E.setCell (by first | (simp; done) | (simp; omega)) _).setCell (by first | (simp; done) | (simp; omega)) _).setCell (by first | (simp; done) | (simp; omega)) _).setCell (by first | (simp; done) | (simp; omega)) _)
      replace hl1 : LRd U5PR (w2.heap.size) A k c xs := by rw [hU5PR]; first | exact hl1.set4 PR (by simp) (by simp) (by simp) (by simp) _ _ _ _ | exact hl1.set4O (by omega) _ _ _ _
      replace P7 : Bk2 U5PR (w2.heap.size) (.bool m) (.slice A k c) := by rw [hU5PR]; exact P7.far4 (by omega) _ _ _ _
      replace F8 : Bk2 U5PR (w2.heap.size + 1) (.int .i64 1) (.int .i64 (-1)) := by rw [hU5PR]; exact F8.far4 (by omega) _ _ _ _
      replace P9 : Bk2 U5PR (w3.heap.size) (.bool m3) (.slice A3 k3 c3) := by rw [hU5PR]; exact P9.far4 (by omega) _ _ _ _
      replace F10 : Bk2 U5PR (w3.heap.size + 1) (.int .i64 0) (.int .i64 0) := by rw [hU5PR]; exact F10.far4 (by omega) _ _ _ _
      replace hl3 : LRd U5PR (w4.heap.size) A3 k3 c3 x3 := by rw [hU5PR]; first | exact hl3.set4 PR (by simp) (by simp) (by simp) (by simp) _ _ _ _ | exact hl3.set4O (by omega) _ _ _ _
      replace PR : Bk4 U5PR (w.heap.size) (.bool false) (.slice none 0 0) (.bool false) (.slice none 0 0) := by rw [hU5PR]; exact PR.set _ _ _ _
      rw [← hU5PR]
      clear hU5PR
      have zU5PR' := Nat.le_of_eq zU5PR
      replace zU5PR := Nat.le_of_eq zU5PR.symm
      obtain ⟨r0, r1, r2, r3, _, _, _, _, _⟩ := PR
      refine bodyPost_ret (v := .tuple #[ratv false none 0 0 false none 0 0, .int .i64 1]) (by simp [results, Tryz.results100, go_sem, r0, r1, r2, r3]) rfl ⟨⟨⟨false, none, 0, 0, []⟩, ⟨false, none, 0, 0, []⟩⟩, 1, rfl, ⟨nil_lrd _, nil_lrd _⟩, ⟨_, _, _, _, _, _, NI.out, (.inl ⟨rfl, DI.out⟩), (.inl ⟨rfl, by decide, zr_nil⟩)⟩, E⟩
  · clear hn hn1
    rcases DI.out with ⟨hd, rfl, rfl, rfl⟩ | ⟨hd, hd1, rfl, rfl, rfl⟩ | ⟨hd, hd1, rfl, rfl, rfl⟩
    · clear hd
      have y_PR0 := PR.c0
      have z_PR0 := PR.z0
      have y_PR1 := PR.c1
      have z_PR1 := PR.z1
      have y_PR2 := PR.c2
      have z_PR2 := PR.z2
      have y_PR3 := PR.c3
      have z_PR3 := PR.z3
      have lt_PR := PR.lt
      have t_F80 := F8.c0
      have t_F81 := F8.c1
      have lt_F8 := F8.lt
      have t_F100 := F10.c0
      have t_F101 := F10.c1
      have lt_F10 := F10.lt
      go_wp2_with fail
      clear y_PR0 z_PR0 y_PR1 z_PR1 y_PR2 z_PR2 y_PR3 z_PR3 lt_PR t_F80 t_F81 lt_F8 t_F100 t_F101 lt_F10
      obtain ⟨U5PR, hU5PR⟩ : ∃ U5PR : World, U5PR = ((((U4F10.setCell ⟨w.heap.size, 0, none⟩ (.bool false)).setCell ⟨w.heap.size, 1, none⟩ (.slice none 0 0)).setCell ⟨w.heap.size, 2, none⟩ (.bool false)).setCell ⟨w.heap.size, 3, none⟩ (.slice none 0 0)) := ⟨_, rfl⟩
      have zU5PR : U5PR.heap.size = U4F10.heap.size := by rw [hU5PR]; simp [World.setCell]
      replace E : Below w.heap.size w U5PR := by rw [hU5PR]; exact ((((E.setCell (by first | (simp; done) | (simp; omega)) _).setCell (by first | (simp; done) | (simp; omega)) _).setCell (by first | (simp; done) | (simp; omega)) _).setCell (by first | (simp; done) | (simp; omega)) _)
      replace hl1 : LRd U5PR (w2.heap.size) A k c xs := by rw [hU5PR]; first | exact hl1.set4 PR (by simp) (by simp) (by simp) (by simp) _ _ _ _ | exact hl1.set4O (by omega) _ _ _ _
      replace P7 : Bk2 U5PR (w2.heap.size) (.bool m) (.slice A k c) := by rw [hU5PR]; exact P7.far4 (by omega) _ _ _ _
      replace F8 : Bk2 U5PR (w2.heap.size + 1) (.int .i64 14) (.int .i64 (-1)) := by rw [hU5PR]; exact F8.far4 (by omega) _ _ _ _
      replace P9 : Bk2 U5PR (w3.heap.size) (.bool m3) (.slice A3 k3 c3) := by rw [hU5PR]; exact P9.far4 (by omega) _ _ _ _
      replace F10 : Bk2 U5PR (w3.heap.size + 1) (.int .i64 1) (.int .i64 (-1)) := by rw [hU5PR]; exact F10.far4 (by omega) _ _ _ _
      replace hl3 : LRd U5PR (w4.heap.size) A3 k3 c3 x3 := by rw [hU5PR]; first | exact hl3.set4 PR (by simp) (by simp) (by simp) (by simp) _ _ _ _ | exact hl3.set4O (by omega) _ _ _ _
      replace PR : Bk4 U5PR (w.heap.size) (.bool false) (.slice none 0 0) (.bool false) (.slice none 0 0) := by rw [hU5PR]; exact PR.set _ _ _ _
      rw [← hU5PR]
      clear hU5PR
      have zU5PR' := Nat.le_of_eq zU5PR
      replace zU5PR := Nat.le_of_eq zU5PR.symm
      obtain ⟨r0, r1, r2, r3, _, _, _, _, _⟩ := PR
      refine bodyPost_ret (v := .tuple #[ratv false none 0 0 false none 0 0, .int .i64 1]) (by simp [results, Tryz.results100, go_sem, r0, r1, r2, r3]) rfl ⟨⟨⟨false, none, 0, 0, []⟩, ⟨false, none, 0, 0, []⟩⟩, 1, rfl, ⟨nil_lrd _, nil_lrd _⟩, ⟨_, _, _, _, _, _, NI.out, (.inl ⟨rfl, DI.out⟩), (.inl ⟨rfl, by decide, zr_nil⟩)⟩, E⟩
    · clear hd hd1
      have y_PR0 := PR.c0
      have z_PR0 := PR.z0
      have y_PR1 := PR.c1
      have z_PR1 := PR.z1
      have y_PR2 := PR.c2
      have z_PR2 := PR.z2
      have y_PR3 := PR.c3
      have z_PR3 := PR.z3
      have lt_PR := PR.lt
      have t_F80 := F8.c0
      have t_F81 := F8.c1
      have lt_F8 := F8.lt
      have t_F100 := F10.c0
      have t_F101 := F10.c1
      have lt_F10 := F10.lt
      go_wp2_with fail
      clear y_PR0 z_PR0 y_PR1 z_PR1 y_PR2 z_PR2 y_PR3 z_PR3 lt_PR t_F80 t_F81 lt_F8 t_F100 t_F101 lt_F10
      obtain ⟨U5PR, hU5PR⟩ : ∃ U5PR : World, U5PR = ((((U4F10.setCell ⟨w.heap.size, 0, none⟩ (.bool false)).setCell ⟨w.heap.size, 1, none⟩ (.slice none 0 0)).setCell ⟨w.heap.size, 2, none⟩ (.bool false)).setCell ⟨w.heap.size, 3, none⟩ (.slice none 0 0)) := ⟨_, rfl⟩
      have zU5PR : U5PR.heap.size = U4F10.heap.size := by rw [hU5PR]; simp [World.setCell]
      replace E : Below w.heap.size w U5PR := by rw [hU5PR]; exact ((((E.setCell (by first | (simp; done) | (simp; omega)) _).setCell (by first | (simp; done) | (simp; omega)) _).setCell (by first | (simp; done) | (simp; omega)) _).setCell (by first | (simp; done) | (simp; omega)) _)
      replace hl1 : LRd U5PR (w2.heap.size) A k c xs := by rw [hU5PR]; first | exact hl1.set4 PR (by simp) (by simp) (by simp) (by simp) _ _ _ _ | exact hl1.set4O (by omega) _ _ _ _
      replace P7 : Bk2 U5PR (w2.heap.size) (.bool m) (.slice A k c) := by rw [hU5PR]; exact P7.far4 (by omega) _ _ _ _
      replace F8 : Bk2 U5PR (w2.heap.size + 1) (.int .i64 14) (.int .i64 (-1)) := by rw [hU5PR]; exact F8.far4 (by omega) _ _ _ _
      replace P9 : Bk2 U5PR (w3.heap.size) (.bool m3) (.slice A3 k3 c3) := by rw [hU5PR]; exact P9.far4 (by omega) _ _ _ _
      replace F10 : Bk2 U5PR (w3.heap.size + 1) (.int .i64 14) (.int .i64 (-1)) := by rw [hU5PR]; exact F10.far4 (by omega) _ _ _ _
      replace hl3 : LRd U5PR (w4.heap.size) A3 k3 c3 x3 := by rw [hU5PR]; first | exact hl3.set4 PR (by simp) (by simp) (by simp) (by simp) _ _ _ _ | exact hl3.set4O (by omega) _ _ _ _
      replace PR : Bk4 U5PR (w.heap.size) (.bool false) (.slice none 0 0) (.bool false) (.slice none 0 0) := by rw [hU5PR]; exact PR.set _ _ _ _
      rw [← hU5PR]
      clear hU5PR
      have zU5PR' := Nat.le_of_eq zU5PR
      replace zU5PR := Nat.le_of_eq zU5PR.symm
      obtain ⟨r0, r1, r2, r3, _, _, _, _, _⟩ := PR
      refine bodyPost_ret (v := .tuple #[ratv false none 0 0 false none 0 0, .int .i64 14]) (by simp [results, Tryz.results100, go_sem, r0, r1, r2, r3]) rfl ⟨⟨⟨false, none, 0, 0, []⟩, ⟨false, none, 0, 0, []⟩⟩, 14, rfl, ⟨nil_lrd _, nil_lrd _⟩, ⟨_, _, _, _, _, _, NI.out, (.inl ⟨rfl, DI.out⟩), (.inr (.inl ⟨rfl, by decide, by decide, zr_nil⟩))⟩, E⟩
    · clear hd hd1
      have y_PR0 := PR.c0
      have z_PR0 := PR.z0
      have y_PR1 := PR.c1
      have z_PR1 := PR.z1
      have y_PR2 := PR.c2
      have z_PR2 := PR.z2
      have y_PR3 := PR.c3
      have z_PR3 := PR.z3
      have lt_PR := PR.lt
      have t_F80 := F8.c0
      have t_F81 := F8.c1
      have lt_F8 := F8.lt
      have t_F100 := F10.c0
      have t_F101 := F10.c1
      have lt_F10 := F10.lt
      go_wp2_with fail
      clear y_PR0 z_PR0 y_PR1 z_PR1 y_PR2 z_PR2 y_PR3 z_PR3 lt_PR t_F80 t_F81 lt_F8 t_F100 t_F101 lt_F10
      obtain ⟨U5PR, hU5PR⟩ : ∃ U5PR : World, U5PR = ((((U4F10.setCell ⟨w.heap.size, 0, none⟩ (.bool false)).setCell ⟨w.heap.size, 1, none⟩ (.slice none 0 0)).setCell ⟨w.heap.size, 2, none⟩ (.bool false)).setCell ⟨w.heap.size, 3, none⟩ (.slice none 0 0)) := ⟨_, rfl⟩
      have zU5PR : U5PR.heap.size = U4F10.heap.size := by rw [hU5PR]; simp [World.setCell]
      replace E : Below w.heap.size w U5PR := by rw [hU5PR]; exact ((((E.setCell (by first | (simp; done) | (simp; omega)) _).setCell (by first | (simp; done) | (simp; omega)) _).setCell (by first | (simp; done) | (simp; omega)) _).setCell (by first | (simp; done) | (simp; omega)) _)
      replace hl1 : LRd U5PR (w2.heap.size) A k c xs := by rw [hU5PR]; first | exact hl1.set4 PR (by simp) (by simp) (by simp) (by simp) _ _ _ _ | exact hl1.set4O (by omega) _ _ _ _
      replace P7 : Bk2 U5PR (w2.heap.size) (.bool m) (.slice A k c) := by rw [hU5PR]; exact P7.far4 (by omega) _ _ _ _
      replace F8 : Bk2 U5PR (w2.heap.size + 1) (.int .i64 14) (.int .i64 (-1)) := by rw [hU5PR]; exact F8.far4 (by omega) _ _ _ _
      replace P9 : Bk2 U5PR (w3.heap.size) (.bool m3) (.slice A3 k3 c3) := by rw [hU5PR]; exact P9.far4 (by omega) _ _ _ _
      replace F10 : Bk2 U5PR (w3.heap.size + 1) (.int .i64 0) (.int .i64 0) := by rw [hU5PR]; exact F10.far4 (by omega) _ _ _ _
      replace hl3 : LRd U5PR (w4.heap.size) A3 k3 c3 x3 := by rw [hU5PR]; first | exact hl3.set4 PR (by simp) (by simp) (by simp) (by simp) _ _ _ _ | exact hl3.set4O (by omega) _ _ _ _
      replace PR : Bk4 U5PR (w.heap.size) (.bool false) (.slice none 0 0) (.bool false) (.slice none 0 0) := by rw [hU5PR]; exact PR.set _ _ _ _
      rw [← hU5PR]
      clear hU5PR
      have zU5PR' := Nat.le_of_eq zU5PR
      replace zU5PR := Nat.le_of_eq zU5PR.symm
      obtain ⟨r0, r1, r2, r3, _, _, _, _, _⟩ := PR
      refine bodyPost_ret (v := .tuple #[ratv false none 0 0 false none 0 0, .int .i64 14]) (by simp [results, Tryz.results100, go_sem, r0, r1, r2, r3]) rfl ⟨⟨⟨false, none, 0, 0, []⟩, ⟨false, none, 0, 0, []⟩⟩, 14, rfl, ⟨nil_lrd _, nil_lrd _⟩, ⟨_, _, _, _, _, _, NI.out, (.inl ⟨rfl, DI.out⟩), (.inr (.inl ⟨rfl, by decide, by decide, zr_nil⟩))⟩, E⟩
  · clear hn hn1
    rcases DI.out with ⟨hd, rfl, rfl, rfl⟩ | ⟨hd, hd1, rfl, rfl, rfl⟩ | ⟨hd, hd1, rfl, rfl, rfl⟩
    · clear hd
      have y_PR0 := PR.c0
      have z_PR0 := PR.z0
      have y_PR1 := PR.c1
      have z_PR1 := PR.z1
      have y_PR2 := PR.c2
      have z_PR2 := PR.z2
      have y_PR3 := PR.c3
      have z_PR3 := PR.z3
      have lt_PR := PR.lt
      have t_F80 := F8.c0
      have t_F81 := F8.c1
      have lt_F8 := F8.lt
      have t_F100 := F10.c0
      have t_F101 := F10.c1
      have lt_F10 := F10.lt
      go_wp2_with fail
      clear y_PR0 z_PR0 y_PR1 z_PR1 y_PR2 z_PR2 y_PR3 z_PR3 lt_PR t_F80 t_F81 lt_F8 t_F100 t_F101 lt_F10
      obtain ⟨U5PR, hU5PR⟩ : ∃ U5PR : World, U5PR = ((((U4F10.setCell ⟨w.heap.size, 0, none⟩ (.bool false)).setCell ⟨w.heap.size, 1, none⟩ (.slice none 0 0)).setCell ⟨w.heap.size, 2, none⟩ (.bool false)).setCell ⟨w.heap.size, 3, none⟩ (.slice none 0 0)) := ⟨_, rfl⟩
      have zU5PR : U5PR.heap.size = U4F10.heap.size := by rw [hU5PR]; simp [World.setCell]
      replace E : Below w.heap.size w U5PR := by rw [hU5PR]; exact ((((E.setCell (by first | (simp; done) | (simp; omega)) _).setCell (by first | (simp; done) | (simp; omega)) _).setCell (by first | (simp; done) | (simp; omega)) _).setCell (by first | (simp; done) | (simp; omega)) _)
      replace hl1 : LRd U5PR (w2.heap.size) A k c xs := by rw [hU5PR]; first | exact hl1.set4 PR (by simp) (by simp) (by simp) (by simp) _ _ _ _ | exact hl1.set4O (by omega) _ _ _ _
      replace P7 : Bk2 U5PR (w2.heap.size) (.bool m) (.slice A k c) := by rw [hU5PR]; exact P7.far4 (by omega) _ _ _ _
      replace F8 : Bk2 U5PR (w2.heap.size + 1) (.int .i64 0) (.int .i64 0) := by rw [hU5PR]; exact F8.far4 (by omega) _ _ _ _
      replace P9 : Bk2 U5PR (w3.heap.size) (.bool m3) (.slice A3 k3 c3) := by rw [hU5PR]; exact P9.far4 (by omega) _ _ _ _
      replace F10 : Bk2 U5PR (w3.heap.size + 1) (.int .i64 1) (.int .i64 (-1)) := by rw [hU5PR]; exact F10.far4 (by omega) _ _ _ _
      replace hl3 : LRd U5PR (w4.heap.size) A3 k3 c3 x3 := by rw [hU5PR]; first | exact hl3.set4 PR (by simp) (by simp) (by simp) (by simp) _ _ _ _ | exact hl3.set4O (by omega) _ _ _ _
      replace PR : Bk4 U5PR (w.heap.size) (.bool false) (.slice none 0 0) (.bool false) (.slice none 0 0) := by rw [hU5PR]; exact PR.set _ _ _ _
      rw [← hU5PR]
      clear hU5PR
      have zU5PR' := Nat.le_of_eq zU5PR
      replace zU5PR := Nat.le_of_eq zU5PR.symm
      obtain ⟨r0, r1, r2, r3, _, _, _, _, _⟩ := PR
      refine bodyPost_ret (v := .tuple #[ratv false none 0 0 false none 0 0, .int .i64 1]) (by simp [results, Tryz.results100, go_sem, r0, r1, r2, r3]) rfl ⟨⟨⟨false, none, 0, 0, []⟩, ⟨false, none, 0, 0, []⟩⟩, 1, rfl, ⟨nil_lrd _, nil_lrd _⟩, ⟨_, _, _, _, _, _, NI.out, (.inl ⟨rfl, DI.out⟩), (.inl ⟨rfl, by decide, zr_nil⟩)⟩, E⟩
    · clear hd hd1
      have y_PR0 := PR.c0
      have z_PR0 := PR.z0
      have y_PR1 := PR.c1
      have z_PR1 := PR.z1
      have y_PR2 := PR.c2
      have z_PR2 := PR.z2
      have y_PR3 := PR.c3
      have z_PR3 := PR.z3
      have lt_PR := PR.lt
      have t_F80 := F8.c0
      have t_F81 := F8.c1
      have lt_F8 := F8.lt
      have t_F100 := F10.c0
      have t_F101 := F10.c1
      have lt_F10 := F10.lt
      go_wp2_with fail
      clear y_PR0 z_PR0 y_PR1 z_PR1 y_PR2 z_PR2 y_PR3 z_PR3 lt_PR t_F80 t_F81 lt_F8 t_F100 t_F101 lt_F10
      obtain ⟨U5PR, hU5PR⟩ : ∃ U5PR : World, U5PR = ((((U4F10.setCell ⟨w.heap.size, 0, none⟩ (.bool false)).setCell ⟨w.heap.size, 1, none⟩ (.slice none 0 0)).setCell ⟨w.heap.size, 2, none⟩ (.bool false)).setCell ⟨w.heap.size, 3, none⟩ (.slice none 0 0)) := ⟨_, rfl⟩
      have zU5PR : U5PR.heap.size = U4F10.heap.size := by rw [hU5PR]; simp [World.setCell]
      replace E : Below w.heap.size w U5PR := by rw [hU5PR]; exact ((((E.setCell (by first | (simp; done) | (simp; omega)) _).setCell (by first | (simp; done) | (simp; omega)) _).setCell (by first | (simp; done) | (simp; omega)) _).setCell (by first | (simp; done) | (simp; omega)) _)
      replace hl1 : LRd U5PR (w2.heap.size) A k c xs := by rw [hU5PR]; first | exact hl1.set4 PR (by simp) (by simp) (by simp) (by simp) _ _ _ _ | exact hl1.set4O (by omega) _ _ _ _
      replace P7 : Bk2 U5PR (w2.heap.size) (.bool m) (.slice A k c) := by rw [hU5PR]; exact P7.far4 (by omega) _ _ _ _
      replace F8 : Bk2 U5PR (w2.heap.size + 1) (.int .i64 0) (.int .i64 0) := by rw [hU5PR]; exact F8.far4 (by omega) _ _ _ _
      replace P9 : Bk2 U5PR (w3.heap.size) (.bool m3) (.slice A3 k3 c3) := by rw [hU5PR]; exact P9.far4 (by omega) _ _ _ _
      replace F10 : Bk2 U5PR (w3.heap.size + 1) (.int .i64 14) (.int .i64 (-1)) := by rw [hU5PR]; exact F10.far4 (by omega) _ _ _ _
      replace hl3 : LRd U5PR (w4.heap.size) A3 k3 c3 x3 := by rw [hU5PR]; first | exact hl3.set4 PR (by simp) (by simp) (by simp) (by simp) _ _ _ _ | exact hl3.set4O (by omega) _ _ _ _
      replace PR : Bk4 U5PR (w.heap.size) (.bool false) (.slice none 0 0) (.bool false) (.slice none 0 0) := by rw [hU5PR]; exact PR.set _ _ _ _
      rw [← hU5PR]
      clear hU5PR
      have zU5PR' := Nat.le_of_eq zU5PR
      replace zU5PR := Nat.le_of_eq zU5PR.symm
      obtain ⟨r0, r1, r2, r3, _, _, _, _, _⟩ := PR
      refine bodyPost_ret (v := .tuple #[ratv false none 0 0 false none 0 0, .int .i64 14]) (by simp [results, Tryz.results100, go_sem, r0, r1, r2, r3]) rfl ⟨⟨⟨false, none, 0, 0, []⟩, ⟨false, none, 0, 0, []⟩⟩, 14, rfl, ⟨nil_lrd _, nil_lrd _⟩, ⟨_, _, _, _, _, _, NI.out, (.inl ⟨rfl, DI.out⟩), (.inr (.inl ⟨rfl, by decide, by decide, zr_nil⟩))⟩, E⟩
    · clear hd hd1
      have y_PR0 := PR.c0
      have z_PR0 := PR.z0
      have y_PR1 := PR.c1
      have z_PR1 := PR.z1
      have y_PR2 := PR.c2
      have z_PR2 := PR.z2
      have y_PR3 := PR.c3
      have z_PR3 := PR.z3
      have lt_PR := PR.lt
      have t_F80 := F8.c0
      have t_F81 := F8.c1
      have lt_F8 := F8.lt
      have t_F100 := F10.c0
      have t_F101 := F10.c1
      have lt_F10 := F10.lt
      have t_P70 := P7.c0
      have t_P71 := P7.c1
      have lt_P7 := P7.lt
      have t_P90 := P9.c0
      have t_P91 := P9.c1
      have lt_P9 := P9.lt
      go_wp2_with fail
      clear y_PR0 z_PR0 y_PR1 z_PR1 y_PR2 z_PR2 y_PR3 z_PR3 lt_PR t_F80 t_F81 lt_F8 t_F100 t_F101 lt_F10 t_P70 t_P71 lt_P7 t_P90 t_P91 lt_P9
      obtain ⟨U5PR, hU5PR⟩ : ∃ U5PR : World, U5PR = ((((U4F10.setCell ⟨w.heap.size, 0, none⟩ (.bool m)).setCell ⟨w.heap.size, 1, none⟩ (.slice A k c)).setCell ⟨w.heap.size, 2, none⟩ (.bool m3)).setCell ⟨w.heap.size, 3, none⟩ (.slice A3 k3 c3)) := ⟨_, rfl⟩
      have zU5PR : U5PR.heap.size = U4F10.heap.size := by rw [hU5PR]; simp [World.setCell]
      replace E : Below w.heap.size w U5PR := by rw [hU5PR]; exact ((((E.setCell (by first | (simp; done) | (simp; omega)) _).setCell (by first | (simp; done) | (simp; omega)) _).setCell (by first | (simp; done) | (simp; omega)) _).setCell (by first | (simp; done) | (simp; omega)) _)
      replace hl1 : LRd U5PR (w2.heap.size) A k c xs := by rw [hU5PR]; first | exact hl1.set4 PR (by simp) (by simp) (by simp) (by simp) _ _ _ _ | exact hl1.set4O (by omega) _ _ _ _
      replace P7 : Bk2 U5PR (w2.heap.size) (.bool m) (.slice A k c) := by rw [hU5PR]; exact P7.far4 (by omega) _ _ _ _
      replace F8 : Bk2 U5PR (w2.heap.size + 1) (.int .i64 0) (.int .i64 0) := by rw [hU5PR]; exact F8.far4 (by omega) _ _ _ _
      replace P9 : Bk2 U5PR (w3.heap.size) (.bool m3) (.slice A3 k3 c3) := by rw [hU5PR]; exact P9.far4 (by omega) _ _ _ _
      replace F10 : Bk2 U5PR (w3.heap.size + 1) (.int .i64 0) (.int .i64 0) := by rw [hU5PR]; exact F10.far4 (by omega) _ _ _ _
      replace hl3 : LRd U5PR (w4.heap.size) A3 k3 c3 x3 := by rw [hU5PR]; first | exact hl3.set4 PR (by simp) (by simp) (by simp) (by simp) _ _ _ _ | exact hl3.set4O (by omega) _ _ _ _
      replace PR : Bk4 U5PR (w.heap.size) (.bool m) (.slice A k c) (.bool m3) (.slice A3 k3 c3) := by rw [hU5PR]; exact PR.set _ _ _ _
      rw [← hU5PR]
      clear hU5PR
      have zU5PR' := Nat.le_of_eq zU5PR
      replace zU5PR := Nat.le_of_eq zU5PR.symm
      obtain ⟨r0, r1, r2, r3, _, _, _, _, _⟩ := PR
      refine bodyPost_ret (v := .tuple #[ratv m A k c m3 A3 k3 c3, .int .i64 0]) (by simp [results, Tryz.results100, go_sem, r0, r1, r2, r3]) rfl ⟨⟨⟨m, A, k, c, xs⟩, ⟨m3, A3, k3, c3, x3⟩⟩, 0, rfl, ⟨hl1.more (by omega), hl3.more (by omega)⟩, ⟨_, _, _, _, _, _, NI.out, (.inl ⟨rfl, DI.out⟩), .inr (.inr ⟨rfl, rfl, rfl, R1.out, R3.out⟩)⟩, E⟩
theorem ppt_any (w : World) (t a b : ByteArray) (fd : Bool) (ha : a.size ≤ 4097) (hb : b.size ≤ 4097) (HC : ∀ u, Calls Tryz.prog 127 #[.string t, .string ⟨#[47]⟩] u (fun e u' => e = .returned (.tuple #[.string a, .string b, .bool fd]) ∧ Below u.heap.size u u')) :
    Calls Tryz.prog 100 #[.string t] w (GivesPp w a b fd) := by
  cases fd
  · exact ppt_false w t a b ha hb HC
  · exact ppt_true w t a b ha hb HC
/-- What becomes of the text of a ratio. -/
def PsRes (t a b : ByteArray) (fd : Bool) (r : RV) (f g : Int) : Prop :=
  (4000 < t.size ∧ f = 3 ∧ g = -1 ∧ Zr r) ∨ (t.size ≤ 4000 ∧ ∃ z1 f1 g1 z2 f2 g2, NumIs a z1 f1 g1 ∧ DPart b fd z2 f2 g2 ∧
    (((f1 = 1 ∨ f2 = 1) ∧ f = 1 ∧ g = -1 ∧ Zr r) ∨ (¬ (f1 = 1 ∨ f2 = 1) ∧ (f1 ≠ 0 ∨ f2 ≠ 0) ∧ f = 14 ∧ g = -1 ∧ Zr r) ∨ (f1 = 0 ∧ f2 = 0 ∧ Nat.gcd z1.natAbs z2.natAbs ≠ 1 ∧ f = 6 ∧ g = -1 ∧ Zr r) ∨ (f1 = 0 ∧ f2 = 0 ∧ Nat.gcd z1.natAbs z2.natAbs = 1 ∧ f = 0 ∧ g = 0 ∧ IRep r.num.neg r.num.xs z1 ∧ IRep r.den.neg r.den.xs z2)))
theorem txn_bd {t : ByteArray} {z g : Int} (h : NumIs t z 0 g) : z.natAbs < Top128 := by
  rcases h with ⟨_, _, h, _⟩ | ⟨_, _, _, h, _⟩ | ⟨_, h1, h2, _⟩
  · cases h
  · cases h
  · rw [h2]; exact h1
theorem txd_bd {b : ByteArray} {fd : Bool} {z g : Int} (h : DPart b fd z 0 g) : 0 < z ∧ z.natAbs < Top128 := by
  rcases h with ⟨_, h⟩ | ⟨_, rfl, _⟩
  · rcases h with ⟨_, _, h, _⟩ | ⟨_, _, _, h, _⟩ | ⟨h0, h1, h2, _⟩
    · cases h
    · cases h
    · rw [h2]; exact ⟨by have := h0.2.2; omega, h1⟩
  · exact ⟨by decide, lt_top (by decide)⟩
set_option maxHeartbeats 8000000 in
theorem prs_long (w : World) (t a b : ByteArray) (fd : Bool) (hl : 4000 < t.size) :
    Calls Tryz.prog 52 #[.string t] w (GivesFR w (PsRes t a b fd)) := by
  have E : Below w.heap.size w w := Below.refl _ _
  go_enter Tryz.func52, Tryz.ntmps52
  have hg : decide ((4000 : Int) < (t.size : Int)) = true := decide_eq_true (by omega)
  go_upto_region 1 with fail
  obtain ⟨V0, hV0⟩ : ∃ V0 : World, V0 = ((w.alloc (.cells #[.bool false, .slice none 0 0, .bool false, .slice none 0 0] 26)).alloc (.cells #[.int .i64 0, .int .i64 0] 28)) := ⟨_, rfl⟩
  have bV0 : Below w.heap.size w V0 := by rw [hV0]; (repeat (first | with_reducible exact Below.refl _ _ | with_reducible refine Below.drew ?_ | with_reducible refine below_drewN ?_ _ | with_reducible refine Below.setCell ?_ (by first | (simp; done) | (simp; omega) | omega) _ | with_reducible refine Below.alloc ?_ (by first | (simp; done) | (simp; omega) | omega) _))
  have zV0 : w.heap.size + 2 ≤ V0.heap.size := by rw [hV0]; simp
  have PR : Bk4 V0 (w.heap.size) (.bool false) (.slice none 0 0) (.bool false) (.slice none 0 0) := by rw [hV0]; exact ((Bk4.newAt _ _ (by first | omega | (simp; done) | (simp; omega)) _ _ _ _ _).alloc _)
  have PF : Bk2 V0 (w.heap.size + 1) (.int .i64 0) (.int .i64 0) := by rw [hV0]; exact (Bk2.newAt _ _ (by first | omega | (simp; done) | (simp; omega)) _ _ _)
  rw [← hV0]
  clear hV0
  replace E := E.trans (bV0.mono E.size)
  clear bV0
  have y_PR0 := PR.c0
  have z_PR0 := PR.z0
  have y_PR1 := PR.c1
  have z_PR1 := PR.z1
  have y_PR2 := PR.c2
  have z_PR2 := PR.z2
  have y_PR3 := PR.c3
  have z_PR3 := PR.z3
  have lt_PR := PR.lt
  have y_PF0 := PF.c0
  have z_PF0 := PF.z0
  have y_PF1 := PF.c1
  have z_PF1 := PF.z1
  have lt_PF := PF.lt
  go_wp2_with fail
  clear y_PR0 z_PR0 y_PR1 z_PR1 y_PR2 z_PR2 y_PR3 z_PR3 lt_PR y_PF0 z_PF0 y_PF1 z_PF1 lt_PF
  obtain ⟨U1PR, hU1PR⟩ : ∃ U1PR : World, U1PR = ((((V0.setCell ⟨w.heap.size, 0, none⟩ (.bool false)).setCell ⟨w.heap.size, 1, none⟩ (.slice none 0 0)).setCell ⟨w.heap.size, 2, none⟩ (.bool false)).setCell ⟨w.heap.size, 3, none⟩ (.slice none 0 0)) := ⟨_, rfl⟩
  have zU1PR : U1PR.heap.size = V0.heap.size := by rw [hU1PR]; simp [World.setCell]
  replace E : Below w.heap.size w U1PR := by rw [hU1PR]; exact ((((E.setCell (by first | (simp; done) | (simp; omega)) _).setCell (by first | (simp; done) | (simp; omega)) _).setCell (by first | (simp; done) | (simp; omega)) _).setCell (by first | (simp; done) | (simp; omega)) _)
  replace PF : Bk2 U1PR (w.heap.size + 1) (.int .i64 0) (.int .i64 0) := by rw [hU1PR]; exact PF.far4 (by omega) _ _ _ _
  replace PR : Bk4 U1PR (w.heap.size) (.bool false) (.slice none 0 0) (.bool false) (.slice none 0 0) := by rw [hU1PR]; exact PR.set _ _ _ _
  rw [← hU1PR]
  clear hU1PR
  have zU1PR' := Nat.le_of_eq zU1PR
  replace zU1PR := Nat.le_of_eq zU1PR.symm
  obtain ⟨U1PF, hU1PF⟩ : ∃ U1PF : World, U1PF = ((U1PR.setCell ⟨w.heap.size + 1, 0, none⟩ (.int .i64 3)).setCell ⟨w.heap.size + 1, 1, none⟩ (.int .i64 (-1))) := ⟨_, rfl⟩
  have zU1PF : U1PF.heap.size = U1PR.heap.size := by rw [hU1PF]; simp [World.setCell]
  replace E : Below w.heap.size w U1PF := by rw [hU1PF]; exact ((E.setCell (by first | (simp; done) | (simp; omega)) _).setCell (by first | (simp; done) | (simp; omega)) _)
  replace PR : Bk4 U1PF (w.heap.size) (.bool false) (.slice none 0 0) (.bool false) (.slice none 0 0) := by rw [hU1PF]; exact PR.far2 (by omega) _ _
  replace PF : Bk2 U1PF (w.heap.size + 1) (.int .i64 3) (.int .i64 (-1)) := by rw [hU1PF]; exact PF.set _ _
  rw [← hU1PF]
  clear hU1PF
  have zU1PF' := Nat.le_of_eq zU1PF
  replace zU1PF := Nat.le_of_eq zU1PF.symm
  obtain ⟨f0, f1, _, _, _⟩ := PF
  obtain ⟨r0, r1, r2, r3, _, _, _, _, _⟩ := PR
  refine bodyPost_ret (v := .tuple #[ratv false none 0 0 false none 0 0, flt 3 (-1)]) (by simp [results, Tryz.results52, go_sem, r0, r1, r2, r3, f0, f1]) rfl ⟨⟨⟨false, none, 0, 0, []⟩, ⟨false, none, 0, 0, []⟩⟩, 3, -1, rfl, ⟨nil_lrd _, nil_lrd _⟩, .inl ⟨by omega, rfl, rfl, zr_nil⟩, E⟩
set_option maxHeartbeats 8000000 in
theorem prs_some (w : World) (t a b : ByteArray) (fd : Bool) (hl : t.size ≤ 4000) (ha : a.size ≤ 4097) (hb : b.size ≤ 4097) (HC : ∀ u, Calls Tryz.prog 127 #[.string t, .string ⟨#[47]⟩] u (fun e u' => e = .returned (.tuple #[.string a, .string b, .bool fd]) ∧ Below u.heap.size u u')) :
    Calls Tryz.prog 52 #[.string t] w (GivesFR w (PsRes t a b fd)) := by
  have E : Below w.heap.size w w := Below.refl _ _
  go_enter Tryz.func52, Tryz.ntmps52
  have hg : decide ((4000 : Int) < (t.size : Int)) = false := decide_eq_false (by omega)
  go_wp2_with fail
  obtain ⟨V0, hV0⟩ : ∃ V0 : World, V0 = ((w.alloc (.cells #[.bool false, .slice none 0 0, .bool false, .slice none 0 0] 26)).alloc (.cells #[.int .i64 0, .int .i64 0] 28)) := ⟨_, rfl⟩
  have bV0 : Below w.heap.size w V0 := by rw [hV0]; (repeat (first | with_reducible exact Below.refl _ _ | with_reducible refine Below.drew ?_ | with_reducible refine below_drewN ?_ _ | with_reducible refine Below.setCell ?_ (by first | (simp; done) | (simp; omega) | omega) _ | with_reducible refine Below.alloc ?_ (by first | (simp; done) | (simp; omega) | omega) _))
  have zV0 : w.heap.size + 2 ≤ V0.heap.size := by rw [hV0]; simp
  have PR : Bk4 V0 (w.heap.size) (.bool false) (.slice none 0 0) (.bool false) (.slice none 0 0) := by rw [hV0]; exact ((Bk4.newAt _ _ (by first | omega | (simp; done) | (simp; omega)) _ _ _ _ _).alloc _)
  have PF : Bk2 V0 (w.heap.size + 1) (.int .i64 0) (.int .i64 0) := by rw [hV0]; exact (Bk2.newAt _ _ (by first | omega | (simp; done) | (simp; omega)) _ _ _)
  rw [← hV0]
  clear hV0
  replace E := E.trans (bV0.mono E.size)
  clear bV0
  clear hg
  (with_reducible refine (ppt_any _ t a b fd ha hb HC).mono ?_)
  rintro e w1 ⟨x, c, rfl, hx, hP, hb1⟩
  have sw1 := hb1.size
  replace E := E.trans (hb1.mono E.size)
  replace PR := PR.below hb1 PR.lt
  replace PF := PF.below hb1 PF.lt
  clear hb1
  obtain ⟨z1, f1, g1, z2, f2, g2, hn, hd, hc⟩ := hP
  have NI := Lib.hid hn
  have DI := Lib.hid hd
  clear hn hd
  have Hx1 : LRd w1 w1.heap.size x.num.A x.num.n x.num.c x.num.xs := hx.1
  have Hx2 : LRd w1 w1.heap.size x.den.A x.den.n x.den.c x.den.xs := hx.2
  clear hx
  rcases hc with ⟨rfl, hf, _⟩ | ⟨rfl, hf, hf2, _⟩ | ⟨rfl, rfl, rfl, i1, i2⟩
  · have HF := Lib.hid hf
    clear hf
    go_upto_region 5 with fail
    obtain ⟨V1, hV1⟩ : ∃ V1 : World, V1 = (w1.alloc (.cells #[.bool x.num.neg, .slice x.num.A x.num.n x.num.c, .bool x.den.neg, .slice x.den.A x.den.n x.den.c] 26)) := ⟨_, rfl⟩
    have bV1 : Below w1.heap.size w1 V1 := by rw [hV1]; (repeat (first | with_reducible exact Below.refl _ _ | with_reducible refine Below.drew ?_ | with_reducible refine below_drewN ?_ _ | with_reducible refine Below.setCell ?_ (by first | (simp; done) | (simp; omega) | omega) _ | with_reducible refine Below.alloc ?_ (by first | (simp; done) | (simp; omega) | omega) _))
    have zV1 : w1.heap.size + 1 ≤ V1.heap.size := by rw [hV1]; simp
    have P4 : Bk4 V1 (w1.heap.size) (.bool x.num.neg) (.slice x.num.A x.num.n x.num.c) (.bool x.den.neg) (.slice x.den.A x.den.n x.den.c) := by rw [hV1]; exact (Bk4.newAt _ _ (by first | omega | (simp; done) | (simp; omega)) _ _ _ _ _)
    rw [← hV1]
    clear hV1
    replace E := E.trans (bV1.mono E.size)
    replace PR := PR.below bV1 PR.lt
    replace PF := PF.below bV1 PF.lt
    replace Hx1 := Hx1.below bV1 (by omega)
    replace Hx2 := Hx2.below bV1 (by omega)
    clear bV1
    have y_PR0 := PR.c0
    have z_PR0 := PR.z0
    have y_PR1 := PR.c1
    have z_PR1 := PR.z1
    have y_PR2 := PR.c2
    have z_PR2 := PR.z2
    have y_PR3 := PR.c3
    have z_PR3 := PR.z3
    have lt_PR := PR.lt
    have y_PF0 := PF.c0
    have z_PF0 := PF.z0
    have y_PF1 := PF.c1
    have z_PF1 := PF.z1
    have lt_PF := PF.lt
    go_wp2_with fail
    clear y_PR0 z_PR0 y_PR1 z_PR1 y_PR2 z_PR2 y_PR3 z_PR3 lt_PR y_PF0 z_PF0 y_PF1 z_PF1 lt_PF
    obtain ⟨U2PR, hU2PR⟩ : ∃ U2PR : World, U2PR = ((((V1.setCell ⟨w.heap.size, 0, none⟩ (.bool false)).setCell ⟨w.heap.size, 1, none⟩ (.slice none 0 0)).setCell ⟨w.heap.size, 2, none⟩ (.bool false)).setCell ⟨w.heap.size, 3, none⟩ (.slice none 0 0)) := ⟨_, rfl⟩
    have zU2PR : U2PR.heap.size = V1.heap.size := by rw [hU2PR]; simp [World.setCell]
    replace E : Below w.heap.size w U2PR := by rw [hU2PR]; exact ((((E.setCell (by first | (simp; done) | (simp; omega)) _).setCell (by first | (simp; done) | (simp; omega)) _).setCell (by first | (simp; done) | (simp; omega)) _).setCell (by first | (simp; done) | (simp; omega)) _)
    replace PF : Bk2 U2PR (w.heap.size + 1) (.int .i64 0) (.int .i64 0) := by rw [hU2PR]; exact PF.far4 (by omega) _ _ _ _
    replace Hx1 : LRd U2PR (w1.heap.size) x.num.A x.num.n x.num.c x.num.xs := by rw [hU2PR]; first | exact Hx1.set4 PR (by simp) (by simp) (by simp) (by simp) _ _ _ _ | exact Hx1.set4O (by omega) _ _ _ _
    replace Hx2 : LRd U2PR (w1.heap.size) x.den.A x.den.n x.den.c x.den.xs := by rw [hU2PR]; first | exact Hx2.set4 PR (by simp) (by simp) (by simp) (by simp) _ _ _ _ | exact Hx2.set4O (by omega) _ _ _ _
    replace P4 : Bk4 U2PR (w1.heap.size) (.bool x.num.neg) (.slice x.num.A x.num.n x.num.c) (.bool x.den.neg) (.slice x.den.A x.den.n x.den.c) := by rw [hU2PR]; exact P4.far4 (by omega) _ _ _ _
    replace PR : Bk4 U2PR (w.heap.size) (.bool false) (.slice none 0 0) (.bool false) (.slice none 0 0) := by rw [hU2PR]; exact PR.set _ _ _ _
    rw [← hU2PR]
    clear hU2PR
    have zU2PR' := Nat.le_of_eq zU2PR
    replace zU2PR := Nat.le_of_eq zU2PR.symm
    obtain ⟨U2PF, hU2PF⟩ : ∃ U2PF : World, U2PF = ((U2PR.setCell ⟨w.heap.size + 1, 0, none⟩ (.int .i64 1)).setCell ⟨w.heap.size + 1, 1, none⟩ (.int .i64 (-1))) := ⟨_, rfl⟩
    have zU2PF : U2PF.heap.size = U2PR.heap.size := by rw [hU2PF]; simp [World.setCell]
    replace E : Below w.heap.size w U2PF := by rw [hU2PF]; exact ((E.setCell (by first | (simp; done) | (simp; omega)) _).setCell (by first | (simp; done) | (simp; omega)) _)
    replace PR : Bk4 U2PF (w.heap.size) (.bool false) (.slice none 0 0) (.bool false) (.slice none 0 0) := by rw [hU2PF]; exact PR.far2 (by omega) _ _
    replace Hx1 : LRd U2PF (w1.heap.size) x.num.A x.num.n x.num.c x.num.xs := by rw [hU2PF]; first | exact Hx1.setB PF (by simp) (by simp) _ _ | exact Hx1.setFarL (by omega) _ _
    replace Hx2 : LRd U2PF (w1.heap.size) x.den.A x.den.n x.den.c x.den.xs := by rw [hU2PF]; first | exact Hx2.setB PF (by simp) (by simp) _ _ | exact Hx2.setFarL (by omega) _ _
    replace P4 : Bk4 U2PF (w1.heap.size) (.bool x.num.neg) (.slice x.num.A x.num.n x.num.c) (.bool x.den.neg) (.slice x.den.A x.den.n x.den.c) := by rw [hU2PF]; exact P4.far2 (by omega) _ _
    replace PF : Bk2 U2PF (w.heap.size + 1) (.int .i64 1) (.int .i64 (-1)) := by rw [hU2PF]; exact PF.set _ _
    rw [← hU2PF]
    clear hU2PF
    have zU2PF' := Nat.le_of_eq zU2PF
    replace zU2PF := Nat.le_of_eq zU2PF.symm
    obtain ⟨f0, f1, _, _, _⟩ := PF
    obtain ⟨r0, r1, r2, r3, _, _, _, _, _⟩ := PR
    refine bodyPost_ret (v := .tuple #[ratv false none 0 0 false none 0 0, flt 1 (-1)]) (by simp [results, Tryz.results52, go_sem, r0, r1, r2, r3, f0, f1]) rfl ⟨⟨⟨false, none, 0, 0, []⟩, ⟨false, none, 0, 0, []⟩⟩, 1, -1, rfl, ⟨nil_lrd _, nil_lrd _⟩, .inr ⟨by omega, _, _, _, _, _, _, NI.out, DI.out, .inl ⟨HF.out, rfl, rfl, zr_nil⟩⟩, E⟩
  · have HF := Lib.hid hf
    clear hf
    have HF2 := Lib.hid hf2
    clear hf2
    go_upto_region 5 with fail
    obtain ⟨V1, hV1⟩ : ∃ V1 : World, V1 = (w1.alloc (.cells #[.bool x.num.neg, .slice x.num.A x.num.n x.num.c, .bool x.den.neg, .slice x.den.A x.den.n x.den.c] 26)) := ⟨_, rfl⟩
    have bV1 : Below w1.heap.size w1 V1 := by rw [hV1]; (repeat (first | with_reducible exact Below.refl _ _ | with_reducible refine Below.drew ?_ | with_reducible refine below_drewN ?_ _ | with_reducible refine Below.setCell ?_ (by first | (simp; done) | (simp; omega) | omega) _ | with_reducible refine Below.alloc ?_ (by first | (simp; done) | (simp; omega) | omega) _))
    have zV1 : w1.heap.size + 1 ≤ V1.heap.size := by rw [hV1]; simp
    have P4 : Bk4 V1 (w1.heap.size) (.bool x.num.neg) (.slice x.num.A x.num.n x.num.c) (.bool x.den.neg) (.slice x.den.A x.den.n x.den.c) := by rw [hV1]; exact (Bk4.newAt _ _ (by first | omega | (simp; done) | (simp; omega)) _ _ _ _ _)
    rw [← hV1]
    clear hV1
    replace E := E.trans (bV1.mono E.size)
    replace PR := PR.below bV1 PR.lt
    replace PF := PF.below bV1 PF.lt
    replace Hx1 := Hx1.below bV1 (by omega)
    replace Hx2 := Hx2.below bV1 (by omega)
    clear bV1
    have y_PR0 := PR.c0
    have z_PR0 := PR.z0
    have y_PR1 := PR.c1
    have z_PR1 := PR.z1
    have y_PR2 := PR.c2
    have z_PR2 := PR.z2
    have y_PR3 := PR.c3
    have z_PR3 := PR.z3
    have lt_PR := PR.lt
    have y_PF0 := PF.c0
    have z_PF0 := PF.z0
    have y_PF1 := PF.c1
    have z_PF1 := PF.z1
    have lt_PF := PF.lt
    go_wp2_with fail
    clear y_PR0 z_PR0 y_PR1 z_PR1 y_PR2 z_PR2 y_PR3 z_PR3 lt_PR y_PF0 z_PF0 y_PF1 z_PF1 lt_PF
    obtain ⟨U2PR, hU2PR⟩ : ∃ U2PR : World, U2PR = ((((V1.setCell ⟨w.heap.size, 0, none⟩ (.bool false)).setCell ⟨w.heap.size, 1, none⟩ (.slice none 0 0)).setCell ⟨w.heap.size, 2, none⟩ (.bool false)).setCell ⟨w.heap.size, 3, none⟩ (.slice none 0 0)) := ⟨_, rfl⟩
    have zU2PR : U2PR.heap.size = V1.heap.size := by rw [hU2PR]; simp [World.setCell]
    replace E : Below w.heap.size w U2PR := by rw [hU2PR]; exact ((((E.setCell (by first | (simp; done) | (simp; omega)) _).setCell (by first | (simp; done) | (simp; omega)) _).setCell (by first | (simp; done) | (simp; omega)) _).setCell (by first | (simp; done) | (simp; omega)) _)
    replace PF : Bk2 U2PR (w.heap.size + 1) (.int .i64 0) (.int .i64 0) := by rw [hU2PR]; exact PF.far4 (by omega) _ _ _ _
    replace Hx1 : LRd U2PR (w1.heap.size) x.num.A x.num.n x.num.c x.num.xs := by rw [hU2PR]; first | exact Hx1.set4 PR (by simp) (by simp) (by simp) (by simp) _ _ _ _ | exact Hx1.set4O (by omega) _ _ _ _
    replace Hx2 : LRd U2PR (w1.heap.size) x.den.A x.den.n x.den.c x.den.xs := by rw [hU2PR]; first | exact Hx2.set4 PR (by simp) (by simp) (by simp) (by simp) _ _ _ _ | exact Hx2.set4O (by omega) _ _ _ _
    replace P4 : Bk4 U2PR (w1.heap.size) (.bool x.num.neg) (.slice x.num.A x.num.n x.num.c) (.bool x.den.neg) (.slice x.den.A x.den.n x.den.c) := by rw [hU2PR]; exact P4.far4 (by omega) _ _ _ _
    replace PR : Bk4 U2PR (w.heap.size) (.bool false) (.slice none 0 0) (.bool false) (.slice none 0 0) := by rw [hU2PR]; exact PR.set _ _ _ _
    rw [← hU2PR]
    clear hU2PR
    have zU2PR' := Nat.le_of_eq zU2PR
    replace zU2PR := Nat.le_of_eq zU2PR.symm
    obtain ⟨U2PF, hU2PF⟩ : ∃ U2PF : World, U2PF = ((U2PR.setCell ⟨w.heap.size + 1, 0, none⟩ (.int .i64 14)).setCell ⟨w.heap.size + 1, 1, none⟩ (.int .i64 (-1))) := ⟨_, rfl⟩
    have zU2PF : U2PF.heap.size = U2PR.heap.size := by rw [hU2PF]; simp [World.setCell]
    replace E : Below w.heap.size w U2PF := by rw [hU2PF]; exact ((E.setCell (by first | (simp; done) | (simp; omega)) _).setCell (by first | (simp; done) | (simp; omega)) _)
    replace PR : Bk4 U2PF (w.heap.size) (.bool false) (.slice none 0 0) (.bool false) (.slice none 0 0) := by rw [hU2PF]; exact PR.far2 (by omega) _ _
    replace Hx1 : LRd U2PF (w1.heap.size) x.num.A x.num.n x.num.c x.num.xs := by rw [hU2PF]; first | exact Hx1.setB PF (by simp) (by simp) _ _ | exact Hx1.setFarL (by omega) _ _
    replace Hx2 : LRd U2PF (w1.heap.size) x.den.A x.den.n x.den.c x.den.xs := by rw [hU2PF]; first | exact Hx2.setB PF (by simp) (by simp) _ _ | exact Hx2.setFarL (by omega) _ _
    replace P4 : Bk4 U2PF (w1.heap.size) (.bool x.num.neg) (.slice x.num.A x.num.n x.num.c) (.bool x.den.neg) (.slice x.den.A x.den.n x.den.c) := by rw [hU2PF]; exact P4.far2 (by omega) _ _
    replace PF : Bk2 U2PF (w.heap.size + 1) (.int .i64 14) (.int .i64 (-1)) := by rw [hU2PF]; exact PF.set _ _
    rw [← hU2PF]
    clear hU2PF
    have zU2PF' := Nat.le_of_eq zU2PF
    replace zU2PF := Nat.le_of_eq zU2PF.symm
    obtain ⟨f0, f1, _, _, _⟩ := PF
    obtain ⟨r0, r1, r2, r3, _, _, _, _, _⟩ := PR
    refine bodyPost_ret (v := .tuple #[ratv false none 0 0 false none 0 0, flt 14 (-1)]) (by simp [results, Tryz.results52, go_sem, r0, r1, r2, r3, f0, f1]) rfl ⟨⟨⟨false, none, 0, 0, []⟩, ⟨false, none, 0, 0, []⟩⟩, 14, -1, rfl, ⟨nil_lrd _, nil_lrd _⟩, .inr ⟨by omega, _, _, _, _, _, _, NI.out, DI.out, .inr (.inl ⟨HF.out, HF2.out, rfl, rfl, zr_nil⟩)⟩, E⟩
  · have I1 := Lib.hid i1
    have I2 := Lib.hid i2
    have NB := Lib.hid (txn_bd NI.out)
    have DB := Lib.hid (txd_bd DI.out)
    clear i1 i2
    go_upto_region 6 with fail
    obtain ⟨V1, hV1⟩ : ∃ V1 : World, V1 = (w1.alloc (.cells #[.bool x.num.neg, .slice x.num.A x.num.n x.num.c, .bool x.den.neg, .slice x.den.A x.den.n x.den.c] 26)) := ⟨_, rfl⟩
    have bV1 : Below w1.heap.size w1 V1 := by rw [hV1]; (repeat (first | with_reducible exact Below.refl _ _ | with_reducible refine Below.drew ?_ | with_reducible refine below_drewN ?_ _ | with_reducible refine Below.setCell ?_ (by first | (simp; done) | (simp; omega) | omega) _ | with_reducible refine Below.alloc ?_ (by first | (simp; done) | (simp; omega) | omega) _))
    have zV1 : w1.heap.size + 1 ≤ V1.heap.size := by rw [hV1]; simp
    have P4 : Bk4 V1 (w1.heap.size) (.bool x.num.neg) (.slice x.num.A x.num.n x.num.c) (.bool x.den.neg) (.slice x.den.A x.den.n x.den.c) := by rw [hV1]; exact (Bk4.newAt _ _ (by first | omega | (simp; done) | (simp; omega)) _ _ _ _ _)
    rw [← hV1]
    clear hV1
    replace E := E.trans (bV1.mono E.size)
    replace PR := PR.below bV1 PR.lt
    replace PF := PF.below bV1 PF.lt
    replace Hx1 := Hx1.below bV1 (by omega)
    replace Hx2 := Hx2.below bV1 (by omega)
    clear bV1
    have RR := Lib.hid (rrow1 V1 w1.heap.size x (rv_at Hx1 Hx2) (by omega))
    have p_P40 := P4.c0
    have p_P41 := P4.c1
    have p_P42 := P4.c2
    have p_P43 := P4.c3
    go_wp2_with fail
    clear p_P40 p_P41 p_P42 p_P43
    obtain ⟨V2, hV2⟩ : ∃ V2 : World, V2 = (V1.alloc (.cells #[.bool x.num.neg, .slice x.num.A x.num.n x.num.c, .bool x.den.neg, .slice x.den.A x.den.n x.den.c] 26)) := ⟨_, rfl⟩
    have bV2 : Below V1.heap.size V1 V2 := by rw [hV2]; (repeat (first | with_reducible exact Below.refl _ _ | with_reducible refine Below.drew ?_ | with_reducible refine below_drewN ?_ _ | with_reducible refine Below.setCell ?_ (by first | (simp; done) | (simp; omega) | omega) _ | with_reducible refine Below.alloc ?_ (by first | (simp; done) | (simp; omega) | omega) _))
    have zV2 : V1.heap.size + 1 ≤ V2.heap.size := by rw [hV2]; simp
    replace RR : Hid (RRow V2 w1.heap.size V1.heap.size [x]) := by rw [hV2]; exact RR
    rw [← hV2]
    clear hV2
    replace E := E.trans (bV2.mono E.size)
    replace PR := PR.below bV2 PR.lt
    replace PF := PF.below bV2 PF.lt
    replace Hx1 := Hx1.below bV2 (by omega)
    replace Hx2 := Hx2.below bV2 (by omega)
    replace P4 := P4.below bV2 P4.lt
    clear bV2
    (with_reducible refine (rcheck_any _ w1.heap.size V1.heap.size 1 [x] RR.out rfl (by omega) (by omega)).mono ?_)
    rintro e w5 ⟨rfl, hb5⟩
    have sw5 := hb5.size
    replace E := E.trans (hb5.mono E.size)
    replace PR := PR.below hb5 PR.lt
    replace PF := PF.below hb5 PF.lt
    replace Hx1 := Hx1.below hb5 (by omega)
    replace Hx2 := Hx2.below hb5 (by omega)
    replace P4 := P4.below hb5 P4.lt
    clear hb5
    clear RR
    by_cases hg : Nat.gcd z1.natAbs z2.natAbs = 1
    · have HG := Lib.hid hg
      clear hg
      rw [rf0 (rv_ok I1.out I2.out Hx2.len.out NB.out DB.out.2 DB.out.1 HG.out)]
      have t_P40 : (w5.alloc (.cells #[.int .i64 0, .int .i64 0] 28)).cell? ⟨w1.heap.size, 0, none⟩ = some ((.bool x.num.neg)) := (P4.alloc _).c0
      have t_P41 : (w5.alloc (.cells #[.int .i64 0, .int .i64 0] 28)).cell? ⟨w1.heap.size, 1, none⟩ = some ((.slice x.num.A x.num.n x.num.c)) := (P4.alloc _).c1
      have t_P42 : (w5.alloc (.cells #[.int .i64 0, .int .i64 0] 28)).cell? ⟨w1.heap.size, 2, none⟩ = some ((.bool x.den.neg)) := (P4.alloc _).c2
      have t_P43 : (w5.alloc (.cells #[.int .i64 0, .int .i64 0] 28)).cell? ⟨w1.heap.size, 3, none⟩ = some ((.slice x.den.A x.den.n x.den.c)) := (P4.alloc _).c3
      go_upto_region 9 with fail
      clear t_P40 t_P41 t_P42 t_P43
      obtain ⟨V3, hV3⟩ : ∃ V3 : World, V3 = (w5.alloc (.cells #[.int .i64 0, .int .i64 0] 28)) := ⟨_, rfl⟩
      have bV3 : Below w5.heap.size w5 V3 := by rw [hV3]; (repeat (first | with_reducible exact Below.refl _ _ | with_reducible refine Below.drew ?_ | with_reducible refine below_drewN ?_ _ | with_reducible refine Below.setCell ?_ (by first | (simp; done) | (simp; omega) | omega) _ | with_reducible refine Below.alloc ?_ (by first | (simp; done) | (simp; omega) | omega) _))
      have zV3 : w5.heap.size + 1 ≤ V3.heap.size := by rw [hV3]; simp
      have F6 : Bk2 V3 (w5.heap.size) (.int .i64 0) (.int .i64 0) := by rw [hV3]; exact (Bk2.newAt _ _ (by first | omega | (simp; done) | (simp; omega)) _ _ _)
      rw [← hV3]
      clear hV3
      replace E := E.trans (bV3.mono E.size)
      replace PR := PR.below bV3 PR.lt
      replace PF := PF.below bV3 PF.lt
      replace Hx1 := Hx1.below bV3 (by omega)
      replace Hx2 := Hx2.below bV3 (by omega)
      replace P4 := P4.below bV3 P4.lt
      clear bV3
      clear F6
      have y_PR0 := PR.c0
      have z_PR0 := PR.z0
      have y_PR1 := PR.c1
      have z_PR1 := PR.z1
      have y_PR2 := PR.c2
      have z_PR2 := PR.z2
      have y_PR3 := PR.c3
      have z_PR3 := PR.z3
      have lt_PR := PR.lt
      have y_PF0 := PF.c0
      have z_PF0 := PF.z0
      have y_PF1 := PF.c1
      have z_PF1 := PF.z1
      have lt_PF := PF.lt
      have t_P40 := P4.c0
      have t_P41 := P4.c1
      have t_P42 := P4.c2
      have t_P43 := P4.c3
      have lt_P4 := P4.lt
      go_wp2_with fail
      clear y_PR0 z_PR0 y_PR1 z_PR1 y_PR2 z_PR2 y_PR3 z_PR3 lt_PR y_PF0 z_PF0 y_PF1 z_PF1 lt_PF t_P40 t_P41 t_P42 t_P43 lt_P4
      obtain ⟨U4PR, hU4PR⟩ : ∃ U4PR : World, U4PR = ((((V3.setCell ⟨w.heap.size, 0, none⟩ (.bool x.num.neg)).setCell ⟨w.heap.size, 1, none⟩ (.slice x.num.A x.num.n x.num.c)).setCell ⟨w.heap.size, 2, none⟩ (.bool x.den.neg)).setCell ⟨w.heap.size, 3, none⟩ (.slice x.den.A x.den.n x.den.c)) := ⟨_, rfl⟩
      have zU4PR : U4PR.heap.size = V3.heap.size := by rw [hU4PR]; simp [World.setCell]
      replace E : Below w.heap.size w U4PR := by rw [hU4PR]; exact ((((E.setCell (by first | (simp; done) | (simp; omega)) _).setCell (by first | (simp; done) | (simp; omega)) _).setCell (by first | (simp; done) | (simp; omega)) _).setCell (by first | (simp; done) | (simp; omega)) _)
      replace PF : Bk2 U4PR (w.heap.size + 1) (.int .i64 0) (.int .i64 0) := by rw [hU4PR]; exact PF.far4 (by omega) _ _ _ _
      replace Hx1 : LRd U4PR (w1.heap.size) x.num.A x.num.n x.num.c x.num.xs := by rw [hU4PR]; first | exact Hx1.set4 PR (by simp) (by simp) (by simp) (by simp) _ _ _ _ | exact Hx1.set4O (by omega) _ _ _ _
      replace Hx2 : LRd U4PR (w1.heap.size) x.den.A x.den.n x.den.c x.den.xs := by rw [hU4PR]; first | exact Hx2.set4 PR (by simp) (by simp) (by simp) (by simp) _ _ _ _ | exact Hx2.set4O (by omega) _ _ _ _
      replace P4 : Bk4 U4PR (w1.heap.size) (.bool x.num.neg) (.slice x.num.A x.num.n x.num.c) (.bool x.den.neg) (.slice x.den.A x.den.n x.den.c) := by rw [hU4PR]; exact P4.far4 (by omega) _ _ _ _
      replace PR : Bk4 U4PR (w.heap.size) (.bool x.num.neg) (.slice x.num.A x.num.n x.num.c) (.bool x.den.neg) (.slice x.den.A x.den.n x.den.c) := by rw [hU4PR]; exact PR.set _ _ _ _
      rw [← hU4PR]
      clear hU4PR
      have zU4PR' := Nat.le_of_eq zU4PR
      replace zU4PR := Nat.le_of_eq zU4PR.symm
      obtain ⟨U4PF, hU4PF⟩ : ∃ U4PF : World, U4PF = ((U4PR.setCell ⟨w.heap.size + 1, 0, none⟩ (.int .i64 0)).setCell ⟨w.heap.size + 1, 1, none⟩ (.int .i64 0)) := ⟨_, rfl⟩
      have zU4PF : U4PF.heap.size = U4PR.heap.size := by rw [hU4PF]; simp [World.setCell]
      replace E : Below w.heap.size w U4PF := by rw [hU4PF]; exact ((E.setCell (by first | (simp; done) | (simp; omega)) _).setCell (by first | (simp; done) | (simp; omega)) _)
      replace PR : Bk4 U4PF (w.heap.size) (.bool x.num.neg) (.slice x.num.A x.num.n x.num.c) (.bool x.den.neg) (.slice x.den.A x.den.n x.den.c) := by rw [hU4PF]; exact PR.far2 (by omega) _ _
      replace Hx1 : LRd U4PF (w1.heap.size) x.num.A x.num.n x.num.c x.num.xs := by rw [hU4PF]; first | exact Hx1.setB PF (by simp) (by simp) _ _ | exact Hx1.setFarL (by omega) _ _
      replace Hx2 : LRd U4PF (w1.heap.size) x.den.A x.den.n x.den.c x.den.xs := by rw [hU4PF]; first | exact Hx2.setB PF (by simp) (by simp) _ _ | exact Hx2.setFarL (by omega) _ _
      replace P4 : Bk4 U4PF (w1.heap.size) (.bool x.num.neg) (.slice x.num.A x.num.n x.num.c) (.bool x.den.neg) (.slice x.den.A x.den.n x.den.c) := by rw [hU4PF]; exact P4.far2 (by omega) _ _
      replace PF : Bk2 U4PF (w.heap.size + 1) (.int .i64 0) (.int .i64 0) := by rw [hU4PF]; exact PF.set _ _
      rw [← hU4PF]
      clear hU4PF
      have zU4PF' := Nat.le_of_eq zU4PF
      replace zU4PF := Nat.le_of_eq zU4PF.symm
      obtain ⟨f0, f1, _, _, _⟩ := PF
      obtain ⟨r0, r1, r2, r3, _, _, _, _, _⟩ := PR
      refine bodyPost_ret (v := .tuple #[x.v, flt 0 0]) (by simp [results, Tryz.results52, go_sem, r0, r1, r2, r3, f0, f1]) rfl ⟨x, 0, 0, rfl, rv_at (Hx1.more (by omega)) (Hx2.more (by omega)), .inr ⟨by omega, _, _, _, _, _, _, NI.out, DI.out, .inr (.inr (.inr ⟨rfl, rfl, HG.out, rfl, rfl, I1.out, I2.out⟩))⟩, E⟩
    · have HG := Lib.hid hg
      clear hg
      have nok : x.ok = false := by
        cases ho : x.ok
        · rfl
        · exfalso
          have V := RV.val ho (rv_at Hx1 Hx2)
          obtain ⟨e1, e2⟩ := rv_vals I1.out I2.out
          have := V.low
          rw [e1, e2] at this
          exact HG.out this
      rw [rf1 nok]
      clear nok
      go_upto_region 8 with fail
      obtain ⟨V3, hV3⟩ : ∃ V3 : World, V3 = (w5.alloc (.cells #[.int .i64 6, .int .i64 (-1)] 28)) := ⟨_, rfl⟩
      have bV3 : Below w5.heap.size w5 V3 := by rw [hV3]; (repeat (first | with_reducible exact Below.refl _ _ | with_reducible refine Below.drew ?_ | with_reducible refine below_drewN ?_ _ | with_reducible refine Below.setCell ?_ (by first | (simp; done) | (simp; omega) | omega) _ | with_reducible refine Below.alloc ?_ (by first | (simp; done) | (simp; omega) | omega) _))
      have zV3 : w5.heap.size + 1 ≤ V3.heap.size := by rw [hV3]; simp
      have F6 : Bk2 V3 (w5.heap.size) (.int .i64 6) (.int .i64 (-1)) := by rw [hV3]; exact (Bk2.newAt _ _ (by first | omega | (simp; done) | (simp; omega)) _ _ _)
      rw [← hV3]
      clear hV3
      replace E := E.trans (bV3.mono E.size)
      replace PR := PR.below bV3 PR.lt
      replace PF := PF.below bV3 PF.lt
      replace Hx1 := Hx1.below bV3 (by omega)
      replace Hx2 := Hx2.below bV3 (by omega)
      replace P4 := P4.below bV3 P4.lt
      clear bV3
      have lt6 := F6.lt
      have ltR := PR.lt
      have ltF := PF.lt
      obtain ⟨_, _, _, _, _⟩ := F6
      obtain ⟨f0, f1, z0, z1', _⟩ := PF
      obtain ⟨r0, r1, r2, r3, y0, y1, y2, y3, _⟩ := PR
      go_region
      go_wp2_with fail
      refine bodyPost_ret (v := .tuple #[ratv false none 0 0 false none 0 0, flt 6 (-1)]) (by simp [results, Tryz.results52, go_sem, r0, r1, r2, r3, f0, f1]) rfl ⟨⟨⟨false, none, 0, 0, []⟩, ⟨false, none, 0, 0, []⟩⟩, 6, -1, rfl, ⟨nil_lrd _, nil_lrd _⟩, .inr ⟨by omega, _, _, _, _, _, _, NI.out, DI.out, .inr (.inr (.inl ⟨rfl, rfl, HG.out, rfl, rfl, zr_nil⟩))⟩, ?_⟩
      (repeat (first | with_reducible exact E | with_reducible refine Below.drew ?_ | with_reducible refine below_drewN ?_ _ | with_reducible refine Below.setCell ?_ (by first | (simp; done) | (simp; omega) | omega) _))
/-- How a text is cut. -/
def TB (t a b : ByteArray) (fd : Bool) : Prop := (SlNo t ∧ a = t ∧ b = ⟨#[]⟩ ∧ fd = false) ∨ (∃ i, SlAt t i ∧ a = t.extract 0 i ∧ b = t.extract (i + 1) t.size ∧ fd = true)
theorem tb_any (t : ByteArray) : ∃ a b fd, TB t a b fd := by
  rcases sl_cases t with h | ⟨i, h⟩
  · exact ⟨_, _, _, .inl ⟨h, rfl, rfl, rfl⟩⟩
  · exact ⟨_, _, _, .inr ⟨i, h, rfl, rfl, rfl⟩⟩
theorem prs_any (w : World) (t a b : ByteArray) (fd : Bool) (ht : TB t a b fd) :
    Calls Tryz.prog 52 #[.string t] w (GivesFR w (PsRes t a b fd)) := by
  rcases Nat.lt_or_ge 4000 t.size with hl | hl
  · exact prs_long w t a b fd hl
  · rcases ht with ⟨h, rfl, rfl, rfl⟩ | ⟨i, h, rfl, rfl, rfl⟩
    · exact prs_some w _ _ _ _ hl (by omega) (by decide) fun u => cut_no _ u h
    · exact prs_some w _ _ _ _ hl (by simp; omega) (by simp; omega) fun u => cut_at _ u i h (by omega)
end Go.Proofs.YtflmcgoijofpdaaGreat
