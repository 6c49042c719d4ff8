/- The reference: OffsetOf. -/
import Derived.Test.YtlohapafpgihaaaDoorSk
import Derived.Deep.DeepCutAuto
namespace Go.Proofs.YtlohapafpgihaaaDoor
open Go.RowKit
set_option maxHeartbeats 400000
set_option maxRecDepth 100000
set_option linter.unusedSimpArgs false
set_option linter.unusedVariables false

theorem nb_ext {s : ByteArray} {b t : Nat} (ht : t ≤ s.size) : ∀ k, b + k ≤ t → nb (s.extract b t) 0 k = nb s b k
  | 0, _ => rfl
  | k + 1, h => by
    rw [nb_succ, nb_succ, nb_ext ht k (by omega), Nat.zero_add, by_ext (by omega) ht]
set_option maxHeartbeats 4000000 in
theorem of_b (s : ByteArray) (l k : Int) (w : World) (hs : s.size ≤ 1048576) {c i : Int} (h : Hid (SFB s c i)) (hT : Tabs w) :
    Calls Tryd.prog 16 #[.string s, .int .i64 l, .int .i64 k] w fun e w' => e = .returned (.tuple #[.int .i64 0, flt c i]) ∧ Below w.heap.size w w' := by
  have hc1 := h.out.code
  go_enter Tryd.func16, Tryd.ntmps16
  go_wp2_with fail
  refine (sf_b s _ h (hT.below (bl1 w _) (Nat.le_refl _))).mono ?_
  rintro e w1 ⟨rfl, hb1⟩
  have P6 : Bk2 w1 w.heap.size (.int .i64 0) (.int .i64 0) := (Bk2.newAt w _ rfl _ _ _).below hb1 (by simp)
  have s1 : w.heap.size + 1 ≤ w1.heap.size := by have := hb1.size; simpa using this
  have E1 : Below w.heap.size w w1 := ((Below.refl _ _).alloc (Nat.le_refl _) _).trans (hb1.mono (by simp))
  clear hb1
  have lt6 := P6.lt
  have z0 : w1.cell? ⟨w.heap.size, 0, none⟩ = some (.int .i64 0) := P6.c0
  have z1 : w1.cell? ⟨w.heap.size, 1, none⟩ = some (.int .i64 0) := P6.c1
  have z2 : w1.frozen? ⟨w.heap.size, 0, none⟩ = false := P6.z0
  have z3 : w1.frozen? ⟨w.heap.size, 1, none⟩ = false := P6.z1
  have hT1 : Tabs w1 := hT.below E1 (Nat.le_refl _)
  have d1 : (c != 0) = true := by rw [bne_iff_ne]; omega
  go_upto_region 4 with (go_at_call 7; refine (lines_any s _ (by omega)).mono ?_; rintro e w2 ⟨g, cc, xs, rfl, hR, hxc, hcm, HLn, HLx, hgw, hb2⟩; have Bw2 : Below w1.heap.size w1 w2 := (by refine Below.trans ?_ (hb2.mono (by first | (simp; done) | (simp; omega) | omega)); (repeat (first | with_reducible exact Below.refl _ _ | with_reducible refine Below.drew ?_ | with_reducible refine Below.alloc ?_ (by first | (simp; done) | (simp; omega) | omega) _))); have Sw2 := Bw2.size; have Pw2 := P6.below Bw2 P6.lt; have BNw2 : Below w.heap.size w w2 := E1.trans (Bw2.mono (by omega)); have Tw2 := hT1.below Bw2 (Nat.le_refl _); obtain ⟨y0, y1, y2, y3, _⟩ := id Pw2; have F8 := (Bk2.newAt w1 _ rfl (.int .i64 c) (.int .i64 i) 24).below hb2 (by simp); obtain ⟨x0, x1, x2, x3, x4⟩ := id F8)
  clear d1
  go_region
  go_wp2
  refine bodyPost_ret (v := .tuple #[.int .i64 0, flt c i]) (by simp [results, Tryd.results16, go_sem, y0, y1]) rfl ⟨rfl, ?_⟩
  exact (by (repeat (first | with_reducible exact BNw2 | with_reducible refine Below.drew ?_ | with_reducible refine below_drewN ?_ _ | with_reducible refine Below.setCell ?_ (by first | (simp; done) | (simp; omega) | omega) _ | with_reducible refine Below.alloc ?_ (by first | (simp; done) | (simp; omega) | omega) _)))
set_option maxHeartbeats 4000000 in
theorem of_r (s : ByteArray) (l k : Int) (w : World) (hs : s.size ≤ 16000) (hg : Hid (chkFrom s s.size 0 = none)) (hT : Tabs w) (h : l < 1 ∨ ((nl s 0 s.size : Nat) : Int) + 1 < l) :
    Calls Tryd.prog 16 #[.string s, .int .i64 l, .int .i64 k] w fun e w' => e = .returned (.tuple #[.int .i64 0, flt 4 (-2)]) ∧ Below w.heap.size w w' := by
  by_cases hl : l < 1
  · go_enter Tryd.func16, Tryd.ntmps16
    go_wp2_with fail
    refine (sf_good s _ hs hg (hT.below (bl1 w _) (Nat.le_refl _))).mono ?_
    rintro e w1 ⟨rfl, hb1⟩
    have P6 : Bk2 w1 w.heap.size (.int .i64 0) (.int .i64 0) := (Bk2.newAt w _ rfl _ _ _).below hb1 (by simp)
    have s1 : w.heap.size + 1 ≤ w1.heap.size := by have := hb1.size; simpa using this
    have E1 : Below w.heap.size w w1 := ((Below.refl _ _).alloc (Nat.le_refl _) _).trans (hb1.mono (by simp))
    clear hb1
    have lt6 := P6.lt
    have z0 : w1.cell? ⟨w.heap.size, 0, none⟩ = some (.int .i64 0) := P6.c0
    have z1 : w1.cell? ⟨w.heap.size, 1, none⟩ = some (.int .i64 0) := P6.c1
    have z2 : w1.frozen? ⟨w.heap.size, 0, none⟩ = false := P6.z0
    have z3 : w1.frozen? ⟨w.heap.size, 1, none⟩ = false := P6.z1
    have hT1 : Tabs w1 := hT.below E1 (Nat.le_refl _)
    go_upto_region 5 with (go_at_call 7; refine (lines_any s _ (by omega)).mono ?_; rintro e w2 ⟨g, cc, xs, rfl, hR, hxc, hcm, HLn, HLx, hgw, hb2⟩; have Bw2 : Below w1.heap.size w1 w2 := (by refine Below.trans ?_ (hb2.mono (by first | (simp; done) | (simp; omega) | omega)); (repeat (first | with_reducible exact Below.refl _ _ | with_reducible refine Below.drew ?_ | with_reducible refine Below.alloc ?_ (by first | (simp; done) | (simp; omega) | omega) _))); have Sw2 := Bw2.size; have Pw2 := P6.below Bw2 P6.lt; have BNw2 : Below w.heap.size w w2 := E1.trans (Bw2.mono (by omega)); have Tw2 := hT1.below Bw2 (Nat.le_refl _); obtain ⟨y0, y1, y2, y3, _⟩ := id Pw2; have F8 := (Bk2.newAt w1 _ rfl (.int .i64 0) (.int .i64 0) 24).below hb2 (by simp); obtain ⟨x0, x1, x2, x3, x4⟩ := id F8)
    have d1 : decide (l < 1) = true := decide_eq_true (by omega)
    clear h hl
    go_wp2_with (go_at_call 11; refine (at_any _ _ _).mono ?_; rintro e w3 ⟨rfl, hb2⟩; have Bw3 : Below w1.heap.size w1 w3 := (by refine Below.trans ?_ (hb2.mono (by first | (simp; done) | (simp; omega) | omega)); (repeat (first | with_reducible exact Below.refl _ _ | with_reducible exact Bw2 | with_reducible refine Below.drew ?_ | with_reducible refine Below.alloc ?_ (by first | (simp; done) | (simp; omega) | omega) _))); have Sw3 := Bw3.size; have Pw3 := P6.below Bw3 P6.lt; have BNw3 : Below w.heap.size w w3 := E1.trans (Bw3.mono (by omega)); have Tw3 := hT1.below Bw3 (Nat.le_refl _); obtain ⟨y0, y1, y2, y3, _⟩ := id Pw3)
    obtain ⟨f0, f1, _, _, _⟩ := Pw3.set (.int .i64 4) (.int .i64 (-2))
    refine bodyPost_ret (v := .tuple #[.int .i64 0, flt 4 (-2)]) (by simp [results, Tryd.results16, go_sem, f0, f1]) rfl ⟨rfl, ?_⟩
    exact (by (repeat (first | with_reducible exact BNw3 | with_reducible refine Below.drew ?_ | with_reducible refine below_drewN ?_ _ | with_reducible refine Below.setCell ?_ (by first | (simp; done) | (simp; omega) | omega) _ | with_reducible refine Below.alloc ?_ (by first | (simp; done) | (simp; omega) | omega) _)))
  · go_enter Tryd.func16, Tryd.ntmps16
    go_wp2_with fail
    refine (sf_good s _ hs hg (hT.below (bl1 w _) (Nat.le_refl _))).mono ?_
    rintro e w1 ⟨rfl, hb1⟩
    have P6 : Bk2 w1 w.heap.size (.int .i64 0) (.int .i64 0) := (Bk2.newAt w _ rfl _ _ _).below hb1 (by simp)
    have s1 : w.heap.size + 1 ≤ w1.heap.size := by have := hb1.size; simpa using this
    have E1 : Below w.heap.size w w1 := ((Below.refl _ _).alloc (Nat.le_refl _) _).trans (hb1.mono (by simp))
    clear hb1
    have lt6 := P6.lt
    have z0 : w1.cell? ⟨w.heap.size, 0, none⟩ = some (.int .i64 0) := P6.c0
    have z1 : w1.cell? ⟨w.heap.size, 1, none⟩ = some (.int .i64 0) := P6.c1
    have z2 : w1.frozen? ⟨w.heap.size, 0, none⟩ = false := P6.z0
    have z3 : w1.frozen? ⟨w.heap.size, 1, none⟩ = false := P6.z1
    have hT1 : Tabs w1 := hT.below E1 (Nat.le_refl _)
    go_upto_region 5 with (go_at_call 7; refine (lines_any s _ (by omega)).mono ?_; rintro e w2 ⟨g, cc, xs, rfl, hR, hxc, hcm, HLn, HLx, hgw, hb2⟩; have Bw2 : Below w1.heap.size w1 w2 := (by refine Below.trans ?_ (hb2.mono (by first | (simp; done) | (simp; omega) | omega)); (repeat (first | with_reducible exact Below.refl _ _ | with_reducible refine Below.drew ?_ | with_reducible refine Below.alloc ?_ (by first | (simp; done) | (simp; omega) | omega) _))); have Sw2 := Bw2.size; have Pw2 := P6.below Bw2 P6.lt; have BNw2 : Below w.heap.size w w2 := E1.trans (Bw2.mono (by omega)); have Tw2 := hT1.below Bw2 (Nat.le_refl _); obtain ⟨y0, y1, y2, y3, _⟩ := id Pw2; have F8 := (Bk2.newAt w1 _ rfl (.int .i64 0) (.int .i64 0) 24).below hb2 (by simp); obtain ⟨x0, x1, x2, x3, x4⟩ := id F8)
    have d1 : decide (l < 1) = false := decide_eq_false (by omega)
    have d2 : decide ((xs.length : Int) < l) = true := decide_eq_true (by have := HLn.out; omega)
    clear h hl
    go_wp2_with (go_at_call 11; refine (at_any _ _ _).mono ?_; rintro e w3 ⟨rfl, hb2⟩; have Bw3 : Below w1.heap.size w1 w3 := (by refine Below.trans ?_ (hb2.mono (by first | (simp; done) | (simp; omega) | omega)); (repeat (first | with_reducible exact Below.refl _ _ | with_reducible exact Bw2 | with_reducible refine Below.drew ?_ | with_reducible refine Below.alloc ?_ (by first | (simp; done) | (simp; omega) | omega) _))); have Sw3 := Bw3.size; have Pw3 := P6.below Bw3 P6.lt; have BNw3 : Below w.heap.size w w3 := E1.trans (Bw3.mono (by omega)); have Tw3 := hT1.below Bw3 (Nat.le_refl _); obtain ⟨y0, y1, y2, y3, _⟩ := id Pw3)
    obtain ⟨f0, f1, _, _, _⟩ := Pw3.set (.int .i64 4) (.int .i64 (-2))
    refine bodyPost_ret (v := .tuple #[.int .i64 0, flt 4 (-2)]) (by simp [results, Tryd.results16, go_sem, f0, f1]) rfl ⟨rfl, ?_⟩
    exact (by (repeat (first | with_reducible exact BNw3 | with_reducible refine Below.drew ?_ | with_reducible refine below_drewN ?_ _ | with_reducible refine Below.setCell ?_ (by first | (simp; done) | (simp; omega) | omega) _ | with_reducible refine Below.alloc ?_ (by first | (simp; done) | (simp; omega) | omega) _)))
set_option maxHeartbeats 4000000 in
theorem of_c (s : ByteArray) (j : Nat) (k : Int) (w : World) (hs : s.size ≤ 16000) (hg : Hid (chkFrom s s.size 0 = none)) (hT : Tabs w) (hj : j ≤ nl s 0 s.size) (hk : Hid (∀ b t, LB s j b → LE s b t → k < 1 ∨ ((nb s b (t - b) : Nat) : Int) + 1 < k)) :
    Calls Tryd.prog 16 #[.string s, .int .i64 ((j : Int) + 1), .int .i64 k] w fun e w' => e = .returned (.tuple #[.int .i64 0, flt 4 (-3)]) ∧ Below w.heap.size w w' := by
  have nlz := nl_le s 0 s.size
  go_enter Tryd.func16, Tryd.ntmps16
  go_wp2_with fail
  refine (sf_good s _ hs hg (hT.below (bl1 w _) (Nat.le_refl _))).mono ?_
  rintro e w1 ⟨rfl, hb1⟩
  have P6 : Bk2 w1 w.heap.size (.int .i64 0) (.int .i64 0) := (Bk2.newAt w _ rfl _ _ _).below hb1 (by simp)
  have s1 : w.heap.size + 1 ≤ w1.heap.size := by have := hb1.size; simpa using this
  have E1 : Below w.heap.size w w1 := ((Below.refl _ _).alloc (Nat.le_refl _) _).trans (hb1.mono (by simp))
  clear hb1
  have lt6 := P6.lt
  have z0 : w1.cell? ⟨w.heap.size, 0, none⟩ = some (.int .i64 0) := P6.c0
  have z1 : w1.cell? ⟨w.heap.size, 1, none⟩ = some (.int .i64 0) := P6.c1
  have z2 : w1.frozen? ⟨w.heap.size, 0, none⟩ = false := P6.z0
  have z3 : w1.frozen? ⟨w.heap.size, 1, none⟩ = false := P6.z1
  have hT1 : Tabs w1 := hT.below E1 (Nat.le_refl _)
  go_upto_region 5 with (go_at_call 7; refine (lines_any s _ (by omega)).mono ?_; rintro e w2 ⟨g, cc, xs, rfl, hR, hxc, hcm, HLn, HLx, hgw, hb2⟩; have Bw2 : Below w1.heap.size w1 w2 := (by refine Below.trans ?_ (hb2.mono (by first | (simp; done) | (simp; omega) | omega)); (repeat (first | with_reducible exact Below.refl _ _ | with_reducible refine Below.drew ?_ | with_reducible refine Below.alloc ?_ (by first | (simp; done) | (simp; omega) | omega) _))); have Sw2 := Bw2.size; have Pw2 := P6.below Bw2 P6.lt; have BNw2 : Below w.heap.size w w2 := E1.trans (Bw2.mono (by omega)); have Tw2 := hT1.below Bw2 (Nat.le_refl _); obtain ⟨y0, y1, y2, y3, _⟩ := id Pw2; have F8 := (Bk2.newAt w1 _ rfl (.int .i64 0) (.int .i64 0) 24).below hb2 (by simp); obtain ⟨x0, x1, x2, x3, x4⟩ := id F8)
  have hjx : j < xs.length := by have := HLn.out; omega
  have d1 : decide ((j : Int) + 1 < 1) = false := decide_eq_false (by omega)
  have d1' : decide ((j : Int) < 0) = false := decide_eq_false (by omega)
  have d2 : decide ((xs.length : Int) < (j : Int) + 1) = false := decide_eq_false (by omega)
  have d2' : decide (xs.length < j + 1) = false := decide_eq_false (by omega)
  obtain ⟨x, hx⟩ : ∃ x, xs[j]? = some x := ⟨_, List.getElem?_eq_getElem hjx⟩
  obtain ⟨b, t, hLB, hLE, hxe⟩ := HLx.out j x hx
  have q8 := hR.cell hx
  have b1 : b ≤ t := hLE.1
  have b2 : t ≤ s.size := hLE.2.1
  have szx : x.size = t - b := by rw [hxe, ByteArray.size_extract]; omega
  have sx16 : x.size ≤ 16000 := by omega
  have hxg := Lib.hid (show chkFrom x x.size 0 = none by rw [hxe]; exact chk_part hg.out (lb_bd (good_of hg.out) hLB) (le_bd hLE) hLE.1)
  have HM := Lib.hid (show nb x 0 x.size = nb s b (t - b) by rw [szx, hxe]; exact nb_ext b2 (t - b) (by omega))
  have hkk := hk.out b t hLB hLE
  have j1 : (0 : Int) ≤ (j : Int) := by omega
  have j2 : (j : Int) < (xs.length : Int) := by omega
  have zx16 := Lib.hid szx
  clear hLB hLE hxe hx szx
  by_cases h1 : k < 1
  · have d3 : decide (k < 1) = true := decide_eq_true h1
    clear hkk h1
    go_wp2_with (go_at_call 11; refine (at_any _ _ _).mono ?_; rintro e w3 ⟨rfl, hb2⟩; have Bw3 : Below w1.heap.size w1 w3 := (by refine Below.trans ?_ (hb2.mono (by first | (simp; done) | (simp; omega) | omega)); (repeat (first | with_reducible exact Below.refl _ _ | with_reducible exact Bw2 | with_reducible refine Below.drew ?_ | with_reducible refine Below.alloc ?_ (by first | (simp; done) | (simp; omega) | omega) _))); have Sw3 := Bw3.size; have Pw3 := P6.below Bw3 P6.lt; have BNw3 : Below w.heap.size w w3 := E1.trans (Bw3.mono (by omega)); have Tw3 := hT1.below Bw3 (Nat.le_refl _); obtain ⟨y0, y1, y2, y3, _⟩ := id Pw3)
    obtain ⟨f0, f1, _, _, _⟩ := Pw3.set (.int .i64 4) (.int .i64 (-3))
    refine bodyPost_ret (v := .tuple #[.int .i64 0, flt 4 (-3)]) (by simp [results, Tryd.results16, go_sem, f0, f1]) rfl ⟨rfl, ?_⟩
    exact (by (repeat (first | with_reducible exact BNw3 | with_reducible refine Below.drew ?_ | with_reducible refine below_drewN ?_ _ | with_reducible refine Below.setCell ?_ (by first | (simp; done) | (simp; omega) | omega) _ | with_reducible refine Below.alloc ?_ (by first | (simp; done) | (simp; omega) | omega) _)))
  · have d3 : decide (k < 1) = false := decide_eq_false h1
    go_wp2_with (first | (go_at_call 29; refine (chars_any x _ sx16 hxg Tw2).mono ?_; rintro e w3 ⟨A3, c3, zs, rfl, hown3, hzc1, hzc2, HZ, hzl, hb3⟩; have Bw3 : Below w1.heap.size w1 w3 := (by refine Below.trans ?_ (hb3.mono (by first | (simp; done) | (simp; omega) | omega)); (repeat (first | with_reducible exact Below.refl _ _ | with_reducible exact Bw2 | with_reducible refine Below.drew ?_ | with_reducible refine Below.alloc ?_ (by first | (simp; done) | (simp; omega) | omega) _))); have Sw3 := Bw3.size; have Pw3 := P6.below Bw3 P6.lt; have BNw3 : Below w.heap.size w w3 := E1.trans (Bw3.mono (by omega)); have Tw3 := hT1.below Bw3 (Nat.le_refl _); obtain ⟨y0, y1, y2, y3, _⟩ := id Pw3; have l16 : zs.length ≤ 16000 := (by omega); have d4 : decide ((zs.length : Int) + 1 < k) = true := decide_eq_true (by have := HZ.out.1; have := HM.out; omega)) | (go_at_call 11; refine (at_any _ _ _).mono ?_; rintro e w4 ⟨rfl, hb2⟩; have Bw4 : Below w1.heap.size w1 w4 := (by refine Below.trans ?_ (hb2.mono (by first | (simp; done) | (simp; omega) | omega)); (repeat (first | with_reducible exact Below.refl _ _ | with_reducible exact Bw3 | with_reducible refine Below.drew ?_ | with_reducible refine Below.alloc ?_ (by first | (simp; done) | (simp; omega) | omega) _))); have Sw4 := Bw4.size; have Pw4 := P6.below Bw4 P6.lt; have BNw4 : Below w.heap.size w w4 := E1.trans (Bw4.mono (by omega)); have Tw4 := hT1.below Bw4 (Nat.le_refl _); obtain ⟨y0, y1, y2, y3, _⟩ := id Pw4))
    obtain ⟨f0, f1, _, _, _⟩ := Pw4.set (.int .i64 4) (.int .i64 (-3))
    refine bodyPost_ret (v := .tuple #[.int .i64 0, flt 4 (-3)]) (by simp [results, Tryd.results16, go_sem, f0, f1]) rfl ⟨rfl, ?_⟩
    exact (by (repeat (first | with_reducible exact BNw4 | with_reducible refine Below.drew ?_ | with_reducible refine below_drewN ?_ _ | with_reducible refine Below.setCell ?_ (by first | (simp; done) | (simp; omega) | omega) _ | with_reducible refine Below.alloc ?_ (by first | (simp; done) | (simp; omega) | omega) _)))
set_option maxHeartbeats 4000000 in
theorem of_ok (s : ByteArray) (o j k : Nat) (w : World) (hs : s.size ≤ 16000) (hg : Hid (chkFrom s s.size 0 = none)) (hT : Tabs w) (hBd : Hid (Bd s o)) (hP : Hid (PI s o (j + 1) (k + 1))) (hj : j ≤ nl s 0 s.size) (hk : Hid (∀ b t, LB s j b → LE s b t → k ≤ nb s b (t - b))) :
    Calls Tryd.prog 16 #[.string s, .int .i64 ((j : Int) + 1), .int .i64 ((k : Int) + 1)] w fun e w' => e = .returned (.tuple #[.int .i64 (o : Int), flt 0 0]) ∧ Below w.heap.size w w' := by
  have nlz := nl_le s 0 s.size
  have ho : o ≤ s.size := hBd.out.1
  go_enter Tryd.func16, Tryd.ntmps16
  go_wp2_with fail
  refine (sf_good s _ hs hg (hT.below (bl1 w _) (Nat.le_refl _))).mono ?_
  rintro e w1 ⟨rfl, hb1⟩
  have P6 : Bk2 w1 w.heap.size (.int .i64 0) (.int .i64 0) := (Bk2.newAt w _ rfl _ _ _).below hb1 (by simp)
  have s1 : w.heap.size + 1 ≤ w1.heap.size := by have := hb1.size; simpa using this
  have E1 : Below w.heap.size w w1 := ((Below.refl _ _).alloc (Nat.le_refl _) _).trans (hb1.mono (by simp))
  clear hb1
  have lt6 := P6.lt
  have z0 : w1.cell? ⟨w.heap.size, 0, none⟩ = some (.int .i64 0) := P6.c0
  have z1 : w1.cell? ⟨w.heap.size, 1, none⟩ = some (.int .i64 0) := P6.c1
  have z2 : w1.frozen? ⟨w.heap.size, 0, none⟩ = false := P6.z0
  have z3 : w1.frozen? ⟨w.heap.size, 1, none⟩ = false := P6.z1
  have hT1 : Tabs w1 := hT.below E1 (Nat.le_refl _)
  go_upto_region 5 with (go_at_call 7; refine (lines_any s _ (by omega)).mono ?_; rintro e w2 ⟨g, cc, xs, rfl, hR, hxc, hcm, HLn, HLx, hgw, hb2⟩; have Bw2 : Below w1.heap.size w1 w2 := (by refine Below.trans ?_ (hb2.mono (by first | (simp; done) | (simp; omega) | omega)); (repeat (first | with_reducible exact Below.refl _ _ | with_reducible refine Below.drew ?_ | with_reducible refine Below.alloc ?_ (by first | (simp; done) | (simp; omega) | omega) _))); have Sw2 := Bw2.size; have Pw2 := P6.below Bw2 P6.lt; have BNw2 : Below w.heap.size w w2 := E1.trans (Bw2.mono (by omega)); have Tw2 := hT1.below Bw2 (Nat.le_refl _); obtain ⟨y0, y1, y2, y3, _⟩ := id Pw2; have F8 := (Bk2.newAt w1 _ rfl (.int .i64 0) (.int .i64 0) 24).below hb2 (by simp); obtain ⟨x0, x1, x2, x3, x4⟩ := id F8)
  have hjx : j < xs.length := by have := HLn.out; omega
  have d1 : decide ((j : Int) + 1 < 1) = false := decide_eq_false (by omega)
  have d1' : decide ((j : Int) < 0) = false := decide_eq_false (by omega)
  have d2 : decide ((xs.length : Int) < (j : Int) + 1) = false := decide_eq_false (by omega)
  have d2' : decide (xs.length < j + 1) = false := decide_eq_false (by omega)
  obtain ⟨x, hx⟩ : ∃ x, xs[j]? = some x := ⟨_, List.getElem?_eq_getElem hjx⟩
  obtain ⟨b, t, hLB, hLE, hxe⟩ := HLx.out j x hx
  have q8 := hR.cell hx
  have b1 : b ≤ t := hLE.1
  have b2 : t ≤ s.size := hLE.2.1
  have szx : x.size = t - b := by rw [hxe, ByteArray.size_extract]; omega
  have sx16 : x.size ≤ 16000 := by omega
  have hxg := Lib.hid (show chkFrom x x.size 0 = none by rw [hxe]; exact chk_part hg.out (lb_bd (good_of hg.out) hLB) (le_bd hLE) hLE.1)
  have HM := Lib.hid (show nb x 0 x.size = nb s b (t - b) by rw [szx, hxe]; exact nb_ext b2 (t - b) (by omega))
  have hkk := hk.out b t hLB hLE
  have j1 : (0 : Int) ≤ (j : Int) := by omega
  have j2 : (j : Int) < (xs.length : Int) := by omega
  have zx16 := Lib.hid szx
  clear hLB hLE hxe hx szx
  have nbz := nb_le s b (t - b)
  have d3 : decide ((k : Int) + 1 < 1) = false := decide_eq_false (by omega)
  have d3' : decide ((k : Int) < 0) = false := decide_eq_false (by omega)
  go_wp2_with (go_at_call 29; refine (chars_any x _ sx16 hxg Tw2).mono ?_; rintro e w3 ⟨A3, c3, zs, rfl, hown3, hzc1, hzc2, HZ, hzl, hb3⟩; have Bw3 : Below w1.heap.size w1 w3 := (by refine Below.trans ?_ (hb3.mono (by first | (simp; done) | (simp; omega) | omega)); (repeat (first | with_reducible exact Below.refl _ _ | with_reducible exact Bw2 | with_reducible refine Below.drew ?_ | with_reducible refine Below.alloc ?_ (by first | (simp; done) | (simp; omega) | omega) _))); have Sw3 := Bw3.size; have Pw3 := P6.below Bw3 P6.lt; have BNw3 : Below w.heap.size w w3 := E1.trans (Bw3.mono (by omega)); have Tw3 := hT1.below Bw3 (Nat.le_refl _); obtain ⟨y0, y1, y2, y3, _⟩ := id Pw3; have l16 : zs.length ≤ 16000 := (by omega); have d4 : decide ((zs.length : Int) < (k : Int)) = false := decide_eq_false (by have := HZ.out.1; have := HM.out; omega); have d4' : decide ((zs.length : Int) + 1 < (k : Int) + 1) = false := decide_eq_false (by have := HZ.out.1; have := HM.out; omega); have d4n : decide (zs.length < k) = false := decide_eq_false (by have := HZ.out.1; have := HM.out; omega))
  go_loopw [10] (fun s10 wr => ∃ i : Nat, s10 = .int .i64 (i : Int) ∧ i ≤ o ∧ Below w1.heap.size w1 wr) (fun s10 _ => o + 1 - (intOf s10).toNat)
  case atStart => exact ⟨0, rfl, by omega, Bw3⟩
  case round =>
    obtain ⟨i, rfl, hi, Bwr⟩ := hrel
    clear y0 y1 y2 y3 q8 x0 x1 x2 x3 x4
    have hTr := hT1.below Bwr (Nat.le_refl _)
    have Twr := hTr
    have Swr := Bwr.size
    have hile : i ≤ s.size := by omega
    have e1 : decide ((i : Int) ≤ (s.size : Int)) = true := decide_eq_true (by omega)
    by_cases hlt : i < s.size
    · have e2 : decide ((i : Int) < (s.size : Int)) = true := decide_eq_true (by omega)
      have i1 : (0 : Int) ≤ (i : Int) := by omega
      have i2 : (i : Int) < (s.size : Int) := by omega
      by_cases h2 : by_ s i / 64 = 2
      · have hne : i ≠ o := fun e => hBd.out.2 (by omega) (by rw [← e]; exact h2)
        go_wp2_with (go_at_call 19; refine (widths_any s _ hs hTr).mono ?_; rintro e w4 ⟨gq, ys, rfl, hRy, HLy, HWy, hgy, hb4⟩; have Bw4 : Below w1.heap.size w1 w4 := (by refine Below.trans ?_ (hb4.mono (by first | (simp; done) | (simp; omega) | omega)); (repeat (first | with_reducible exact Below.refl _ _ | with_reducible exact Bwr | with_reducible refine Below.drew ?_ | with_reducible refine Below.alloc ?_ (by first | (simp; done) | (simp; omega) | omega) _))); have Sw4 := Bw4.size; have Pw4 := P6.below Bw4 P6.lt; have BNw4 : Below w.heap.size w w4 := E1.trans (Bw4.mono (by omega)); have Tw4 := hT1.below Bw4 (Nat.le_refl _); obtain ⟨y0, y1, y2, y3, _⟩ := id Pw4; have q0 := hRy.cell (j := i) (by rw [HLy.out]; exact hlt); rw [wd_two hg HWy hlt h2] at q0)
        go_roundw
        case rel => exact ⟨i + 1, by go_num, by omega, Bw4⟩
        case measure => simp [intOf]; omega
      · have hBi : Bd s i := ⟨hile, fun _ => h2⟩
        go_upto_region 14 with (first | (go_at_call 19; refine (widths_any s _ hs hTr).mono ?_; rintro e w4 ⟨gq, ys, rfl, hRy, HLy, HWy, hgy, hb4⟩; have Bw4 : Below w1.heap.size w1 w4 := (by refine Below.trans ?_ (hb4.mono (by first | (simp; done) | (simp; omega) | omega)); (repeat (first | with_reducible exact Below.refl _ _ | with_reducible exact Bwr | with_reducible refine Below.drew ?_ | with_reducible refine Below.alloc ?_ (by first | (simp; done) | (simp; omega) | omega) _))); have Sw4 := Bw4.size; have Pw4 := P6.below Bw4 P6.lt; have BNw4 : Below w.heap.size w w4 := E1.trans (Bw4.mono (by omega)); have Tw4 := hT1.below Bw4 (Nat.le_refl _); obtain ⟨y0, y1, y2, y3, _⟩ := id Pw4; have q0 := hRy.cell (j := i) (by rw [HLy.out]; exact hlt); obtain ⟨n, hn, hn1⟩ := wd_one hg HWy hlt h2; rw [hn] at q0; have e0 : ((n : Int) == 0) = false := beq_eq_false_iff_ne.2 (by omega)) | (go_at_call 14; refine (place_any s i _ hs hg hile Tw4).mono ?_; rintro e w5 ⟨l5, c5, rfl, HP5, hl5, hc5, hb5⟩; have Bw5 : Below w1.heap.size w1 w5 := (by refine Below.trans ?_ (hb5.mono (by first | (simp; done) | (simp; omega) | omega)); (repeat (first | with_reducible exact Below.refl _ _ | with_reducible exact Bw4 | with_reducible refine Below.drew ?_ | with_reducible refine Below.alloc ?_ (by first | (simp; done) | (simp; omega) | omega) _))); have Sw5 := Bw5.size; have Pw5 := P6.below Bw5 P6.lt; have BNw5 : Below w.heap.size w w5 := E1.trans (Bw5.mono (by omega)); have Tw5 := hT1.below Bw5 (Nat.le_refl _); obtain ⟨y0, y1, y2, y3, _⟩ := id Pw5))
        by_cases hio : i = o
        · obtain ⟨u1, u2⟩ := pi_uniq HP5.out (by rw [hio]; exact hP.out)
          have e3 : ((l5 : Int) == (j : Int) + 1) = true := beq_iff_eq.2 (by omega)
          have e4 : ((c5 : Int) == (k : Int) + 1) = true := beq_iff_eq.2 (by omega)
          subst hio
          clear u1 u2
          go_wp2_with fail
          obtain ⟨f0, f1, _, _, _⟩ := Pw5.set (.int .i64 0) (.int .i64 0)
          refine bodyPost_ret (v := .tuple #[.int .i64 (i : Int), flt 0 0]) (by simp [results, Tryd.results16, go_sem, f0, f1]) rfl ⟨rfl, ?_⟩
          exact (by (repeat (first | with_reducible exact BNw5 | with_reducible refine Below.drew ?_ | with_reducible refine below_drewN ?_ _ | with_reducible refine Below.setCell ?_ (by first | (simp; done) | (simp; omega) | omega) _ | with_reducible refine Below.alloc ?_ (by first | (simp; done) | (simp; omega) | omega) _)))
        · have hno := off_no (good_of hg.out) hBd.out hP.out (show i < o by omega) hBi HP5.out
          by_cases hl : l5 = j + 1
          · have e3 : ((l5 : Int) == (j : Int) + 1) = true := beq_iff_eq.2 (by omega)
            have e4 : ((c5 : Int) == (k : Int) + 1) = false := beq_eq_false_iff_ne.2 (by omega)
            clear hl hno
            go_wp2_with fail
            go_roundw
            case rel => exact ⟨i + 1, by go_num, by omega, Bw5⟩
            case measure => simp [intOf]; omega
          · have e3 : ((l5 : Int) == (j : Int) + 1) = false := beq_eq_false_iff_ne.2 (by omega)
            clear hl hno
            go_wp2_with fail
            go_roundw
            case rel => exact ⟨i + 1, by go_num, by omega, Bw5⟩
            case measure => simp [intOf]; omega
    · have e2 : decide ((i : Int) < (s.size : Int)) = false := decide_eq_false (by omega)
      have hBi : Bd s i := ⟨hile, fun h => absurd h hlt⟩
      go_upto_region 14 with (go_at_call 14; refine (place_any s i _ hs hg hile Twr).mono ?_; rintro e w5 ⟨l5, c5, rfl, HP5, hl5, hc5, hb5⟩; have Bw5 : Below w1.heap.size w1 w5 := (by refine Below.trans ?_ (hb5.mono (by first | (simp; done) | (simp; omega) | omega)); (repeat (first | with_reducible exact Below.refl _ _ | with_reducible exact Bwr | with_reducible refine Below.drew ?_ | with_reducible refine Below.alloc ?_ (by first | (simp; done) | (simp; omega) | omega) _))); have Sw5 := Bw5.size; have Pw5 := P6.below Bw5 P6.lt; have BNw5 : Below w.heap.size w w5 := E1.trans (Bw5.mono (by omega)); have Tw5 := hT1.below Bw5 (Nat.le_refl _); obtain ⟨y0, y1, y2, y3, _⟩ := id Pw5)
      by_cases hio : i = o
      · obtain ⟨u1, u2⟩ := pi_uniq HP5.out (by rw [hio]; exact hP.out)
        have e3 : ((l5 : Int) == (j : Int) + 1) = true := beq_iff_eq.2 (by omega)
        have e4 : ((c5 : Int) == (k : Int) + 1) = true := beq_iff_eq.2 (by omega)
        subst hio
        clear u1 u2
        go_wp2_with fail
        obtain ⟨f0, f1, _, _, _⟩ := Pw5.set (.int .i64 0) (.int .i64 0)
        refine bodyPost_ret (v := .tuple #[.int .i64 (i : Int), flt 0 0]) (by simp [results, Tryd.results16, go_sem, f0, f1]) rfl ⟨rfl, ?_⟩
        exact (by (repeat (first | with_reducible exact BNw5 | with_reducible refine Below.drew ?_ | with_reducible refine below_drewN ?_ _ | with_reducible refine Below.setCell ?_ (by first | (simp; done) | (simp; omega) | omega) _ | with_reducible refine Below.alloc ?_ (by first | (simp; done) | (simp; omega) | omega) _)))
      · have hno := off_no (good_of hg.out) hBd.out hP.out (show i < o by omega) hBi HP5.out
        by_cases hl : l5 = j + 1
        · have e3 : ((l5 : Int) == (j : Int) + 1) = true := beq_iff_eq.2 (by omega)
          have e4 : ((c5 : Int) == (k : Int) + 1) = false := beq_eq_false_iff_ne.2 (by omega)
          clear hl hno
          go_wp2_with fail
          go_roundw
          case rel => exact ⟨i + 1, by go_num, by omega, Bw5⟩
          case measure => simp [intOf]; omega
        · have e3 : ((l5 : Int) == (j : Int) + 1) = false := beq_eq_false_iff_ne.2 (by omega)
          clear hl hno
          go_wp2_with fail
          go_roundw
          case rel => exact ⟨i + 1, by go_num, by omega, Bw5⟩
          case measure => simp [intOf]; omega
end Go.Proofs.YtlohapafpgihaaaDoor
