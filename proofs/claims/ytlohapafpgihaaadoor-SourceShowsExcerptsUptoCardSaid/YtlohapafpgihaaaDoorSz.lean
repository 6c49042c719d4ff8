/- The reference: ExcerptOf, where all is right. -/
import Derived.Test.YtlohapafpgihaaaDoorSy
import Derived.Deep.DeepCutAuto
namespace Go.Proofs.YtlohapafpgihaaaDoor
open Go.RowKit
set_option maxHeartbeats 400000
set_option maxRecDepth 100000
set_option linter.unusedSimpArgs false
set_option linter.unusedVariables false

set_option maxHeartbeats 4000000 in
theorem eo_a (s x : ByteArray) (j k wd M : Nat) (o : Int) (w : World) (hs : s.size ≤ 16000) (HXG : Hid (chkFrom x x.size 0 = none)) (HX : Hid (LnAt s j x)) (hj : j ≤ nl s 0 s.size) (sx16 : x.size ≤ 16000) (HM : Hid (nb x 0 x.size = M)) (hM2 : M ≤ 16000) (hk : k ≤ 16000) (hw1 : 20 ≤ wd) (hw2 : wd ≤ 200) (hf : ∀ w, Tabs w → Calls Tryd.prog 16 #[.string s, .int .i64 ((j : Int) + 1), .int .i64 ((k : Int) + 1)] w fun e w2 => e = .returned (.tuple #[.int .i64 o, flt 0 0]) ∧ Below w.heap.size w w2) (hT : Tabs w) (hMw : M ≤ wd) :
    Calls Tryd.prog 18 #[.string s, .int .i64 ((j : Int) + 1), .int .i64 ((k : Int) + 1), .int .i64 (wd : Int)] w fun e w' => e = .returned (.tuple #[.string (((x ++ ⟨#[10]⟩) ++ spc k) ++ ⟨#[94]⟩), flt 0 0]) ∧ Below w.heap.size w w' := by
  have sq : (spc k).size ≤ 1000000 := by rw [spc_size]; omega
  have nlz := nl_le s 0 s.size
  have d1 : decide ((wd : Int) < 20) = false := decide_eq_false (by omega)
  have d1n : decide (wd < 20) = false := decide_eq_false (by omega)
  have d2 : decide ((200 : Int) < (wd : Int)) = false := decide_eq_false (by omega)
  have d2n : decide (200 < wd) = false := decide_eq_false (by omega)
  have j1 : (0 : Int) ≤ (j : Int) := by omega
  have wj : IntKind.i64.wrap (j : Int) = (j : Int) := IntWalk.i64_in _ (by omega)
  go_enter Tryd.func18, Tryd.ntmps18
  go_wp2_with fail
  refine (hf _ (hT.below (bl1 w _) (Nat.le_refl _))).mono ?_
  rintro e w1 ⟨rfl, hb1⟩
  have P6 : Bk2 w1 w.heap.size (.int .i64 0) (.int .i64 0) := (Bk2.newAt w _ rfl _ _ _).below hb1 (by simp)
  have s1 : w.heap.size + 1 ≤ w1.heap.size := by have := hb1.size; simpa using this
  have E1 : Below w.heap.size w w1 := ((Below.refl _ _).alloc (Nat.le_refl _) _).trans (hb1.mono (by simp))
  clear hb1
  have lt6 := P6.lt
  have z0 : w1.cell? ⟨w.heap.size, 0, none⟩ = some (.int .i64 0) := P6.c0
  have z1 : w1.cell? ⟨w.heap.size, 1, none⟩ = some (.int .i64 0) := P6.c1
  have z2 : w1.frozen? ⟨w.heap.size, 0, none⟩ = false := P6.z0
  have z3 : w1.frozen? ⟨w.heap.size, 1, none⟩ = false := P6.z1
  have hT1 : Tabs w1 := hT.below E1 (Nat.le_refl _)
  go_upto_region 8 with (first | (go_at_call 7; refine (lines_any s _ (by omega)).mono ?_; rintro e w2 ⟨g, cc, xs, rfl, hR, hxc, hcm, HLn, HLx, hgw, hb2⟩; have Bw2 : Below w1.heap.size w1 w2 := (by refine Below.trans ?_ (hb2.mono (by first | (simp; done) | (simp; omega) | omega)); (repeat (first | with_reducible exact Below.refl _ _ | with_reducible refine Below.drew ?_ | with_reducible refine Below.alloc ?_ (by first | (simp; done) | (simp; omega) | omega) _))); have Sw2 := Bw2.size; have Pw2 := P6.below Bw2 P6.lt; have BNw2 : Below w.heap.size w w2 := E1.trans (Bw2.mono (by omega)); have Tw2 := hT1.below Bw2 (Nat.le_refl _); obtain ⟨y0, y1, y2, y3, _⟩ := id Pw2; have F8 := (Bk2.newAt w1 _ rfl (.int .i64 0) (.int .i64 0) 24).below hb2 (by simp); obtain ⟨x0, x1, x2, x3, x4⟩ := id F8; have hjx : j < xs.length := (by have := HLn.out; omega); obtain ⟨x', hx'⟩ : ∃ x', xs[j]? = some x' := ⟨_, List.getElem?_eq_getElem hjx⟩; have hx2 : xs[j]? = some x := (by rw [ln_uniq HX.out (HLx.out j x' hx')]; exact hx'); have q8 := hR.cell hx2; have j2 : (j : Int) < (xs.length : Int) := (by omega); clear hx2 hx') | (go_at_call 29; refine (chars_any x _ sx16 HXG Tw2).mono ?_; rintro e w3 ⟨A3, c3, zs, rfl, hown3, hzc1, hzc2, HZ, hzl, hb3⟩; have Bw3 : Below w1.heap.size w1 w3 := (by refine Below.trans ?_ (hb3.mono (by first | (simp; done) | (simp; omega) | omega)); (repeat (first | with_reducible exact Below.refl _ _ | with_reducible exact Bw2 | with_reducible refine Below.drew ?_ | with_reducible refine Below.alloc ?_ (by first | (simp; done) | (simp; omega) | omega) _))); have Sw3 := Bw3.size; have Pw3 := P6.below Bw3 P6.lt; have BNw3 : Below w.heap.size w w3 := E1.trans (Bw3.mono (by omega)); have Tw3 := hT1.below Bw3 (Nat.le_refl _); obtain ⟨y0, y1, y2, y3, _⟩ := id Pw3; have HZM := Lib.hid (HZ.out.1.trans HM.out); rw [HZM.out]; have hMc : M ≤ c3 := (by have := HZM.out; omega)))
  have d4 : decide ((wd : Int) < (M : Int)) = false := decide_eq_false (by omega)
  have d4n : decide (wd < M) = false := decide_eq_false (by omega)
  by_cases h0 : M = 0
  · subst h0
    have hx0 : x = ⟨#[]⟩ := by
      have h1 := HM.out
      rcases Nat.eq_zero_or_pos x.size with h2 | h2
      · exact ByteArray.ext (Array.eq_empty_of_size_eq_zero h2)
      · exfalso
        have h3 := nb_lt (s := x) (a := 0) (b := x.size) (good_of HXG.out).1 (Nat.le_refl _) h2
        have : nb x 0 0 = 0 := rfl
        omega
    subst hx0
    go_wp2_with (first | (go_at_call 32; refine (join_no A3 c3 _).mono ?_; rintro e w4 ⟨rfl, hb4⟩; have Bw4 : Below w1.heap.size w1 w4 := (by refine Below.trans ?_ (hb4.mono (by first | (simp; done) | (simp; omega) | omega)); (repeat (first | with_reducible exact Below.refl _ _ | with_reducible exact Bw3 | with_reducible refine Below.drew ?_ | with_reducible refine Below.alloc ?_ (by first | (simp; done) | (simp; omega) | omega) _))); have Sw4 := Bw4.size; have Pw4 := P6.below Bw4 P6.lt; have BNw4 : Below w.heap.size w w4 := E1.trans (Bw4.mono (by omega)); have Tw4 := hT1.below Bw4 (Nat.le_refl _); obtain ⟨y0, y1, y2, y3, _⟩ := id Pw4) | (go_at_call 31; refine (rep_sp k _ (by omega)).mono ?_; rintro e w5 ⟨rfl, hb5⟩; have Bw5 : Below w1.heap.size w1 w5 := (by refine Below.trans ?_ (hb5.mono (by first | (simp; done) | (simp; omega) | omega)); (repeat (first | with_reducible exact Below.refl _ _ | with_reducible exact Bw4 | with_reducible refine Below.drew ?_ | with_reducible refine Below.alloc ?_ (by first | (simp; done) | (simp; omega) | omega) _))); have Sw5 := Bw5.size; have Pw5 := P6.below Bw5 P6.lt; have BNw5 : Below w.heap.size w w5 := E1.trans (Bw5.mono (by omega)); have Tw5 := hT1.below Bw5 (Nat.le_refl _); obtain ⟨y0, y1, y2, y3, _⟩ := id Pw5))
    refine bodyPost_ret (v := .tuple #[.string ((((⟨#[]⟩ : ByteArray) ++ ⟨#[10]⟩) ++ spc k) ++ ⟨#[94]⟩), flt 0 0]) (by simp [results, Tryd.results18, go_sem, y0, y1]) rfl ⟨rfl, (by (repeat (first | with_reducible exact BNw5 | with_reducible refine Below.drew ?_ | with_reducible refine below_drewN ?_ _ | with_reducible refine Below.setCell ?_ (by first | (simp; done) | (simp; omega) | omega) _ | with_reducible refine Below.alloc ?_ (by first | (simp; done) | (simp; omega) | omega) _)))⟩
  · have hc' : zs.length ≤ c3 := hzc1
    obtain ⟨g3, rfl, hg3, hRS, _, _⟩ := RS.of_own hown3 (by have := HZM.out; omega)
    have hg3l := hRS.lt
    have HFL := Lib.hid (show (zs.map (·.data.toList)).flatten = x.data.toList by
      have h1 := cat_part (good_of HXG.out) HZ.out M 0 x.size (good_of HXG.out).1 ⟨Nat.le_refl _, fun h => by omega⟩ (by omega) (by rw [HM.out]; show M = 0 + M; omega)
      rw [show nb x 0 0 = 0 from rfl, List.drop_zero, List.take_of_length_le (by have := HZM.out; omega), ext_all] at h1
      exact h1)
    go_wp2_with (first | (go_at_call 32; refine (join_any g3 0 c3 M zs x _ (fun i y hy => by rw [Nat.zero_add]; exact hRS.cell hy) hg3l HZM.out hMc HFL sx16 hM2).mono ?_; rintro e w4 ⟨rfl, hb4⟩; have Bw4 : Below w1.heap.size w1 w4 := (by refine Below.trans ?_ (hb4.mono (by first | (simp; done) | (simp; omega) | omega)); (repeat (first | with_reducible exact Below.refl _ _ | with_reducible exact Bw3 | with_reducible refine Below.drew ?_ | with_reducible refine Below.alloc ?_ (by first | (simp; done) | (simp; omega) | omega) _))); have Sw4 := Bw4.size; have Pw4 := P6.below Bw4 P6.lt; have BNw4 : Below w.heap.size w w4 := E1.trans (Bw4.mono (by omega)); have Tw4 := hT1.below Bw4 (Nat.le_refl _); obtain ⟨y0, y1, y2, y3, _⟩ := id Pw4) | (go_at_call 31; refine (rep_sp k _ (by omega)).mono ?_; rintro e w5 ⟨rfl, hb5⟩; have Bw5 : Below w1.heap.size w1 w5 := (by refine Below.trans ?_ (hb5.mono (by first | (simp; done) | (simp; omega) | omega)); (repeat (first | with_reducible exact Below.refl _ _ | with_reducible exact Bw4 | with_reducible refine Below.drew ?_ | with_reducible refine Below.alloc ?_ (by first | (simp; done) | (simp; omega) | omega) _))); have Sw5 := Bw5.size; have Pw5 := P6.below Bw5 P6.lt; have BNw5 : Below w.heap.size w w5 := E1.trans (Bw5.mono (by omega)); have Tw5 := hT1.below Bw5 (Nat.le_refl _); obtain ⟨y0, y1, y2, y3, _⟩ := id Pw5))
    refine bodyPost_ret (v := .tuple #[.string (((x ++ ⟨#[10]⟩) ++ spc k) ++ ⟨#[94]⟩), flt 0 0]) (by simp [results, Tryd.results18, go_sem, y0, y1]) rfl ⟨rfl, (by (repeat (first | with_reducible exact BNw5 | with_reducible refine Below.drew ?_ | with_reducible refine below_drewN ?_ _ | with_reducible refine Below.setCell ?_ (by first | (simp; done) | (simp; omega) | omega) _ | with_reducible refine Below.alloc ?_ (by first | (simp; done) | (simp; omega) | omega) _)))⟩
set_option maxHeartbeats 4000000 in
theorem eo_b1 (s x : ByteArray) (j k wd M : Nat) (o : Int) (w : World) (hs : s.size ≤ 16000) (HXG : Hid (chkFrom x x.size 0 = none)) (HX : Hid (LnAt s j x)) (hj : j ≤ nl s 0 s.size) (sx16 : x.size ≤ 16000) (HM : Hid (nb x 0 x.size = M)) (hM2 : M ≤ 16000) (hk : k ≤ 16000) (hw1 : 20 ≤ wd) (hw2 : wd ≤ 200) (hf : ∀ w, Tabs w → Calls Tryd.prog 16 #[.string s, .int .i64 ((j : Int) + 1), .int .i64 ((k : Int) + 1)] w fun e w2 => e = .returned (.tuple #[.int .i64 o, flt 0 0]) ∧ Below w.heap.size w w2) (hT : Tabs w) (hMw : wd < M) (hb : (k : Int) - (wd : Int) / 2 < 0) (a z : Nat) (ha : Hid (Bd x a ∧ nb x 0 a = 0)) (he : Hid (Bd x z ∧ nb x 0 z = 0 + wd)) :
    Calls Tryd.prog 18 #[.string s, .int .i64 ((j : Int) + 1), .int .i64 ((k : Int) + 1), .int .i64 (wd : Int)] w fun e w' => e = .returned (.tuple #[.string (((x.extract a z ++ ⟨#[10]⟩) ++ spc (k - 0)) ++ ⟨#[94]⟩), flt 0 0]) ∧ Below w.heap.size w w' := by
  have c0 : IntKind.i64.wrap ((k : Int) + 1 - 1) = (k : Int) := by rw [show (k : Int) + 1 - 1 = k by omega]; exact IntWalk.i64_in _ (by omega)
  have e2 : (wd : Int).tdiv 2 = (wd : Int) / 2 := Int.tdiv_eq_ediv_of_nonneg (by omega)
  have c1 : IntKind.i64.wrap ((wd : Int) / 2) = (wd : Int) / 2 := IntWalk.i64_in _ (by omega)
  have c2 : IntKind.i64.wrap ((k : Int) - (wd : Int) / 2) = (k : Int) - (wd : Int) / 2 := IntWalk.i64_in _ (by omega)
  have c7 : IntKind.i64.wrap ((M : Int) - (wd : Int)) = (M : Int) - (wd : Int) := IntWalk.i64_in _ (by omega)
  obtain ⟨q, hq⟩ : ∃ q, q = k - 0 := ⟨_, rfl⟩
  obtain ⟨T, hTE⟩ : ∃ T, T = x.extract a z := ⟨_, rfl⟩
  have sT : T.size ≤ 16000 := by rw [hTE, ByteArray.size_extract]; omega
  have fk : 0 ≤ k := by omega
  have fM : 0 + wd ≤ M := by omega
  have sq : (spc q).size ≤ 1000000 := by rw [spc_size]; omega
  have q16 : q ≤ 1000000 := by omega
  have HTE := Lib.hid hTE
  rw [← hq, ← hTE]
  have HQ : IntKind.i64.wrap ((k : Int) - (0 : Int)) = (q : Int) := by rw [show (k : Int) - (0 : Int) = (q : Int) by omega]; exact IntWalk.i64_in _ (by omega)
  have HFE := Lib.hid hb
  have HDA := Lib.hid (hb)
  obtain rfl : k = q := by omega
  clear hTE hq hb
  have nlz := nl_le s 0 s.size
  have d1 : decide ((wd : Int) < 20) = false := decide_eq_false (by omega)
  have d1n : decide (wd < 20) = false := decide_eq_false (by omega)
  have d2 : decide ((200 : Int) < (wd : Int)) = false := decide_eq_false (by omega)
  have d2n : decide (200 < wd) = false := decide_eq_false (by omega)
  have j1 : (0 : Int) ≤ (j : Int) := by omega
  have wj : IntKind.i64.wrap (j : Int) = (j : Int) := IntWalk.i64_in _ (by omega)
  go_enter Tryd.func18, Tryd.ntmps18
  go_wp2_with fail
  refine (hf _ (hT.below (bl1 w _) (Nat.le_refl _))).mono ?_
  rintro e w1 ⟨rfl, hb1⟩
  have P6 : Bk2 w1 w.heap.size (.int .i64 0) (.int .i64 0) := (Bk2.newAt w _ rfl _ _ _).below hb1 (by simp)
  have s1 : w.heap.size + 1 ≤ w1.heap.size := by have := hb1.size; simpa using this
  have E1 : Below w.heap.size w w1 := ((Below.refl _ _).alloc (Nat.le_refl _) _).trans (hb1.mono (by simp))
  clear hb1
  have lt6 := P6.lt
  have z0 : w1.cell? ⟨w.heap.size, 0, none⟩ = some (.int .i64 0) := P6.c0
  have z1 : w1.cell? ⟨w.heap.size, 1, none⟩ = some (.int .i64 0) := P6.c1
  have z2 : w1.frozen? ⟨w.heap.size, 0, none⟩ = false := P6.z0
  have z3 : w1.frozen? ⟨w.heap.size, 1, none⟩ = false := P6.z1
  have hT1 : Tabs w1 := hT.below E1 (Nat.le_refl _)
  go_upto_region 8 with (first | (go_at_call 7; refine (lines_any s _ (by omega)).mono ?_; rintro e w2 ⟨g, cc, xs, rfl, hR, hxc, hcm, HLn, HLx, hgw, hb2⟩; have Bw2 : Below w1.heap.size w1 w2 := (by refine Below.trans ?_ (hb2.mono (by first | (simp; done) | (simp; omega) | omega)); (repeat (first | with_reducible exact Below.refl _ _ | with_reducible refine Below.drew ?_ | with_reducible refine Below.alloc ?_ (by first | (simp; done) | (simp; omega) | omega) _))); have Sw2 := Bw2.size; have Pw2 := P6.below Bw2 P6.lt; have BNw2 : Below w.heap.size w w2 := E1.trans (Bw2.mono (by omega)); have Tw2 := hT1.below Bw2 (Nat.le_refl _); obtain ⟨y0, y1, y2, y3, _⟩ := id Pw2; have F8 := (Bk2.newAt w1 _ rfl (.int .i64 0) (.int .i64 0) 24).below hb2 (by simp); obtain ⟨x0, x1, x2, x3, x4⟩ := id F8; have hjx : j < xs.length := (by have := HLn.out; omega); obtain ⟨x', hx'⟩ : ∃ x', xs[j]? = some x' := ⟨_, List.getElem?_eq_getElem hjx⟩; have hx2 : xs[j]? = some x := (by rw [ln_uniq HX.out (HLx.out j x' hx')]; exact hx'); have q8 := hR.cell hx2; have j2 : (j : Int) < (xs.length : Int) := (by omega); clear hx2 hx') | (go_at_call 29; refine (chars_any x _ sx16 HXG Tw2).mono ?_; rintro e w3 ⟨A3, c3, zs, rfl, hown3, hzc1, hzc2, HZ, hzl, hb3⟩; have Bw3 : Below w1.heap.size w1 w3 := (by refine Below.trans ?_ (hb3.mono (by first | (simp; done) | (simp; omega) | omega)); (repeat (first | with_reducible exact Below.refl _ _ | with_reducible exact Bw2 | with_reducible refine Below.drew ?_ | with_reducible refine Below.alloc ?_ (by first | (simp; done) | (simp; omega) | omega) _))); have Sw3 := Bw3.size; have Pw3 := P6.below Bw3 P6.lt; have BNw3 : Below w.heap.size w w3 := E1.trans (Bw3.mono (by omega)); have Tw3 := hT1.below Bw3 (Nat.le_refl _); obtain ⟨y0, y1, y2, y3, _⟩ := id Pw3; have HZM := Lib.hid (HZ.out.1.trans HM.out); rw [HZM.out]; have hMc : M ≤ c3 := (by have := HZM.out; omega)))
  have d4 : decide ((wd : Int) < (M : Int)) = true := decide_eq_true (by omega)
  have d4n : decide (wd < M) = true := decide_eq_true (by omega)
  have hb := HDA.out
  skip
  have dA : decide ((k : Int) - (wd : Int) / 2 < 0) = true := decide_eq_true hb
  have dB : decide ((M : Int) - (wd : Int) < 0) = false := decide_eq_false (by omega)
  clear hb
  obtain ⟨g3, rfl, hg3, hRS, _, _⟩ := RS.of_own hown3 (by have := HZM.out; omega)
  have hg3l := hRS.lt
  have HFL := Lib.hid (show (((zs.drop 0).take wd).map (·.data.toList)).flatten = T.data.toList by
    have h1 := cat_part (good_of HXG.out) HZ.out wd a z ha.out.1 he.out.1 (ch_le he.out.1 ha.out.1.1 (by rw [ha.out.2, he.out.2]; omega)) (by rw [ha.out.2, he.out.2])
    rw [ha.out.2, ← HTE.out] at h1
    exact h1)
  have HLY := Lib.hid (show ((zs.drop 0).take wd).length = wd by rw [List.length_take, List.length_drop]; have := HZM.out; omega)
  have HCY := Lib.hid (show ∀ (i : Nat) y, ((zs.drop 0).take wd)[i]? = some y → w3.cell? ⟨g3, 0 + i, none⟩ = some (.string y) from fun i y hy => by
    have hi : i < wd := by have := (List.getElem?_eq_some_iff.1 hy).1; rw [HLY.out] at this; exact this
    rw [List.getElem?_take, if_pos hi, List.getElem?_drop] at hy
    exact hRS.cell hy)
  go_upto_region 14 with fail
  have i0 : (0 : Int) ≤ (0 : Int) := by omega
  have i1 : (0 : Int) ≤ (0 : Int) + (wd : Int) := by omega
  have i2 : (0 : Int) + (wd : Int) ≤ (c3 : Int) := by omega
  have w0 : IntKind.i64.wrap ((0 : Int) + (wd : Int)) = (0 : Int) + (wd : Int) := IntWalk.i64_in _ (by omega)
  go_wp2_with (first | (go_at_call 32; refine (join_any g3 0 _ wd ((zs.drop 0).take wd) T _ HCY.out hg3l HLY.out (by omega) HFL sT (by omega)).mono ?_; rintro e w4 ⟨rfl, hb4⟩; have Bw4 : Below w1.heap.size w1 w4 := (by refine Below.trans ?_ (hb4.mono (by first | (simp; done) | (simp; omega) | omega)); (repeat (first | with_reducible exact Below.refl _ _ | with_reducible exact Bw3 | with_reducible refine Below.drew ?_ | with_reducible refine Below.alloc ?_ (by first | (simp; done) | (simp; omega) | omega) _))); have Sw4 := Bw4.size; have Pw4 := P6.below Bw4 P6.lt; have BNw4 : Below w.heap.size w w4 := E1.trans (Bw4.mono (by omega)); have Tw4 := hT1.below Bw4 (Nat.le_refl _); obtain ⟨y0, y1, y2, y3, _⟩ := id Pw4) | (go_at_call 31; refine (rep_sp k _ (by omega)).mono ?_; rintro e w5 ⟨rfl, hb5⟩; have Bw5 : Below w1.heap.size w1 w5 := (by refine Below.trans ?_ (hb5.mono (by first | (simp; done) | (simp; omega) | omega)); (repeat (first | with_reducible exact Below.refl _ _ | with_reducible exact Bw4 | with_reducible refine Below.drew ?_ | with_reducible refine Below.alloc ?_ (by first | (simp; done) | (simp; omega) | omega) _))); have Sw5 := Bw5.size; have Pw5 := P6.below Bw5 P6.lt; have BNw5 : Below w.heap.size w w5 := E1.trans (Bw5.mono (by omega)); have Tw5 := hT1.below Bw5 (Nat.le_refl _); obtain ⟨y0, y1, y2, y3, _⟩ := id Pw5))
  refine bodyPost_ret (v := .tuple #[.string (((T ++ ⟨#[10]⟩) ++ spc k) ++ ⟨#[94]⟩), flt 0 0]) (by simp [results, Tryd.results18, go_sem, y0, y1]) rfl ⟨rfl, (by (repeat (first | with_reducible exact BNw5 | with_reducible refine Below.drew ?_ | with_reducible refine below_drewN ?_ _ | with_reducible refine Below.setCell ?_ (by first | (simp; done) | (simp; omega) | omega) _ | with_reducible refine Below.alloc ?_ (by first | (simp; done) | (simp; omega) | omega) _)))⟩
set_option maxHeartbeats 4000000 in
theorem eo_b2 (s x : ByteArray) (j k wd M : Nat) (o : Int) (w : World) (hs : s.size ≤ 16000) (HXG : Hid (chkFrom x x.size 0 = none)) (HX : Hid (LnAt s j x)) (hj : j ≤ nl s 0 s.size) (sx16 : x.size ≤ 16000) (HM : Hid (nb x 0 x.size = M)) (hM2 : M ≤ 16000) (hk : k ≤ 16000) (hw1 : 20 ≤ wd) (hw2 : wd ≤ 200) (hf : ∀ w, Tabs w → Calls Tryd.prog 16 #[.string s, .int .i64 ((j : Int) + 1), .int .i64 ((k : Int) + 1)] w fun e w2 => e = .returned (.tuple #[.int .i64 o, flt 0 0]) ∧ Below w.heap.size w w2) (hT : Tabs w) (hMw : wd < M) (hb : 0 ≤ (k : Int) - (wd : Int) / 2) (hb2 : (M : Int) - (wd : Int) < (k : Int) - (wd : Int) / 2) (F : Nat) (hF : (M : Int) - (wd : Int) = (F : Int)) (a z : Nat) (ha : Hid (Bd x a ∧ nb x 0 a = F)) (he : Hid (Bd x z ∧ nb x 0 z = F + wd)) :
    Calls Tryd.prog 18 #[.string s, .int .i64 ((j : Int) + 1), .int .i64 ((k : Int) + 1), .int .i64 (wd : Int)] w fun e w' => e = .returned (.tuple #[.string (((x.extract a z ++ ⟨#[10]⟩) ++ spc (k - F)) ++ ⟨#[94]⟩), flt 0 0]) ∧ Below w.heap.size w w' := by
  have c0 : IntKind.i64.wrap ((k : Int) + 1 - 1) = (k : Int) := by rw [show (k : Int) + 1 - 1 = k by omega]; exact IntWalk.i64_in _ (by omega)
  have e2 : (wd : Int).tdiv 2 = (wd : Int) / 2 := Int.tdiv_eq_ediv_of_nonneg (by omega)
  have c1 : IntKind.i64.wrap ((wd : Int) / 2) = (wd : Int) / 2 := IntWalk.i64_in _ (by omega)
  have c2 : IntKind.i64.wrap ((k : Int) - (wd : Int) / 2) = (k : Int) - (wd : Int) / 2 := IntWalk.i64_in _ (by omega)
  have c7 : IntKind.i64.wrap ((M : Int) - (wd : Int)) = (M : Int) - (wd : Int) := IntWalk.i64_in _ (by omega)
  obtain ⟨q, hq⟩ : ∃ q, q = k - F := ⟨_, rfl⟩
  obtain ⟨T, hTE⟩ : ∃ T, T = x.extract a z := ⟨_, rfl⟩
  have sT : T.size ≤ 16000 := by rw [hTE, ByteArray.size_extract]; omega
  have fk : F ≤ k := by omega
  have fM : F + wd ≤ M := by omega
  have sq : (spc q).size ≤ 1000000 := by rw [spc_size]; omega
  have q16 : q ≤ 1000000 := by omega
  have HTE := Lib.hid hTE
  rw [← hq, ← hTE]
  have HQ : IntKind.i64.wrap ((k : Int) - (F : Int)) = (q : Int) := by rw [show (k : Int) - (F : Int) = (q : Int) by omega]; exact IntWalk.i64_in _ (by omega)
  have HFE := Lib.hid hF
  have HDA := Lib.hid (And.intro hb hb2)
  skip
  clear hTE hq hF hb2 hb
  have nlz := nl_le s 0 s.size
  have d1 : decide ((wd : Int) < 20) = false := decide_eq_false (by omega)
  have d1n : decide (wd < 20) = false := decide_eq_false (by omega)
  have d2 : decide ((200 : Int) < (wd : Int)) = false := decide_eq_false (by omega)
  have d2n : decide (200 < wd) = false := decide_eq_false (by omega)
  have j1 : (0 : Int) ≤ (j : Int) := by omega
  have wj : IntKind.i64.wrap (j : Int) = (j : Int) := IntWalk.i64_in _ (by omega)
  go_enter Tryd.func18, Tryd.ntmps18
  go_wp2_with fail
  refine (hf _ (hT.below (bl1 w _) (Nat.le_refl _))).mono ?_
  rintro e w1 ⟨rfl, hb1⟩
  have P6 : Bk2 w1 w.heap.size (.int .i64 0) (.int .i64 0) := (Bk2.newAt w _ rfl _ _ _).below hb1 (by simp)
  have s1 : w.heap.size + 1 ≤ w1.heap.size := by have := hb1.size; simpa using this
  have E1 : Below w.heap.size w w1 := ((Below.refl _ _).alloc (Nat.le_refl _) _).trans (hb1.mono (by simp))
  clear hb1
  have lt6 := P6.lt
  have z0 : w1.cell? ⟨w.heap.size, 0, none⟩ = some (.int .i64 0) := P6.c0
  have z1 : w1.cell? ⟨w.heap.size, 1, none⟩ = some (.int .i64 0) := P6.c1
  have z2 : w1.frozen? ⟨w.heap.size, 0, none⟩ = false := P6.z0
  have z3 : w1.frozen? ⟨w.heap.size, 1, none⟩ = false := P6.z1
  have hT1 : Tabs w1 := hT.below E1 (Nat.le_refl _)
  go_upto_region 8 with (first | (go_at_call 7; refine (lines_any s _ (by omega)).mono ?_; rintro e w2 ⟨g, cc, xs, rfl, hR, hxc, hcm, HLn, HLx, hgw, hb2⟩; have Bw2 : Below w1.heap.size w1 w2 := (by refine Below.trans ?_ (hb2.mono (by first | (simp; done) | (simp; omega) | omega)); (repeat (first | with_reducible exact Below.refl _ _ | with_reducible refine Below.drew ?_ | with_reducible refine Below.alloc ?_ (by first | (simp; done) | (simp; omega) | omega) _))); have Sw2 := Bw2.size; have Pw2 := P6.below Bw2 P6.lt; have BNw2 : Below w.heap.size w w2 := E1.trans (Bw2.mono (by omega)); have Tw2 := hT1.below Bw2 (Nat.le_refl _); obtain ⟨y0, y1, y2, y3, _⟩ := id Pw2; have F8 := (Bk2.newAt w1 _ rfl (.int .i64 0) (.int .i64 0) 24).below hb2 (by simp); obtain ⟨x0, x1, x2, x3, x4⟩ := id F8; have hjx : j < xs.length := (by have := HLn.out; omega); obtain ⟨x', hx'⟩ : ∃ x', xs[j]? = some x' := ⟨_, List.getElem?_eq_getElem hjx⟩; have hx2 : xs[j]? = some x := (by rw [ln_uniq HX.out (HLx.out j x' hx')]; exact hx'); have q8 := hR.cell hx2; have j2 : (j : Int) < (xs.length : Int) := (by omega); clear hx2 hx') | (go_at_call 29; refine (chars_any x _ sx16 HXG Tw2).mono ?_; rintro e w3 ⟨A3, c3, zs, rfl, hown3, hzc1, hzc2, HZ, hzl, hb3⟩; have Bw3 : Below w1.heap.size w1 w3 := (by refine Below.trans ?_ (hb3.mono (by first | (simp; done) | (simp; omega) | omega)); (repeat (first | with_reducible exact Below.refl _ _ | with_reducible exact Bw2 | with_reducible refine Below.drew ?_ | with_reducible refine Below.alloc ?_ (by first | (simp; done) | (simp; omega) | omega) _))); have Sw3 := Bw3.size; have Pw3 := P6.below Bw3 P6.lt; have BNw3 : Below w.heap.size w w3 := E1.trans (Bw3.mono (by omega)); have Tw3 := hT1.below Bw3 (Nat.le_refl _); obtain ⟨y0, y1, y2, y3, _⟩ := id Pw3; have HZM := Lib.hid (HZ.out.1.trans HM.out); rw [HZM.out]; have hMc : M ≤ c3 := (by have := HZM.out; omega)))
  have d4 : decide ((wd : Int) < (M : Int)) = true := decide_eq_true (by omega)
  have d4n : decide (wd < M) = true := decide_eq_true (by omega)
  have hb := HDA.out
  obtain ⟨hb, hb2⟩ := hb
  have dA : decide ((k : Int) - (wd : Int) / 2 < 0) = false := decide_eq_false (by omega)
  have dB : decide ((M : Int) - (wd : Int) < (k : Int) - (wd : Int) / 2) = true := decide_eq_true hb2
  clear hb hb2
  obtain ⟨g3, rfl, hg3, hRS, _, _⟩ := RS.of_own hown3 (by have := HZM.out; omega)
  have hg3l := hRS.lt
  have HFL := Lib.hid (show (((zs.drop F).take wd).map (·.data.toList)).flatten = T.data.toList by
    have h1 := cat_part (good_of HXG.out) HZ.out wd a z ha.out.1 he.out.1 (ch_le he.out.1 ha.out.1.1 (by rw [ha.out.2, he.out.2]; omega)) (by rw [ha.out.2, he.out.2])
    rw [ha.out.2, ← HTE.out] at h1
    exact h1)
  have HLY := Lib.hid (show ((zs.drop F).take wd).length = wd by rw [List.length_take, List.length_drop]; have := HZM.out; omega)
  have HCY := Lib.hid (show ∀ (i : Nat) y, ((zs.drop F).take wd)[i]? = some y → w3.cell? ⟨g3, F + i, none⟩ = some (.string y) from fun i y hy => by
    have hi : i < wd := by have := (List.getElem?_eq_some_iff.1 hy).1; rw [HLY.out] at this; exact this
    rw [List.getElem?_take, if_pos hi, List.getElem?_drop] at hy
    exact hRS.cell hy)
  go_upto_region 14 with fail
  rw [HFE.out]
  have i0 : (0 : Int) ≤ (F : Int) := by omega
  have i1 : (F : Int) ≤ (F : Int) + (wd : Int) := by omega
  have i2 : (F : Int) + (wd : Int) ≤ (c3 : Int) := by omega
  have w0 : IntKind.i64.wrap ((F : Int) + (wd : Int)) = (F : Int) + (wd : Int) := IntWalk.i64_in _ (by omega)
  go_wp2_with (first | (go_at_call 32; refine (join_any g3 F _ wd ((zs.drop F).take wd) T _ HCY.out hg3l HLY.out (by omega) HFL sT (by omega)).mono ?_; rintro e w4 ⟨rfl, hb4⟩; have Bw4 : Below w1.heap.size w1 w4 := (by refine Below.trans ?_ (hb4.mono (by first | (simp; done) | (simp; omega) | omega)); (repeat (first | with_reducible exact Below.refl _ _ | with_reducible exact Bw3 | with_reducible refine Below.drew ?_ | with_reducible refine Below.alloc ?_ (by first | (simp; done) | (simp; omega) | omega) _))); have Sw4 := Bw4.size; have Pw4 := P6.below Bw4 P6.lt; have BNw4 : Below w.heap.size w w4 := E1.trans (Bw4.mono (by omega)); have Tw4 := hT1.below Bw4 (Nat.le_refl _); obtain ⟨y0, y1, y2, y3, _⟩ := id Pw4) | (go_at_call 31; refine (rep_sp q _ (by omega)).mono ?_; rintro e w5 ⟨rfl, hb5⟩; have Bw5 : Below w1.heap.size w1 w5 := (by refine Below.trans ?_ (hb5.mono (by first | (simp; done) | (simp; omega) | omega)); (repeat (first | with_reducible exact Below.refl _ _ | with_reducible exact Bw4 | with_reducible refine Below.drew ?_ | with_reducible refine Below.alloc ?_ (by first | (simp; done) | (simp; omega) | omega) _))); have Sw5 := Bw5.size; have Pw5 := P6.below Bw5 P6.lt; have BNw5 : Below w.heap.size w w5 := E1.trans (Bw5.mono (by omega)); have Tw5 := hT1.below Bw5 (Nat.le_refl _); obtain ⟨y0, y1, y2, y3, _⟩ := id Pw5))
  refine bodyPost_ret (v := .tuple #[.string (((T ++ ⟨#[10]⟩) ++ spc q) ++ ⟨#[94]⟩), flt 0 0]) (by simp [results, Tryd.results18, go_sem, y0, y1]) rfl ⟨rfl, (by (repeat (first | with_reducible exact BNw5 | with_reducible refine Below.drew ?_ | with_reducible refine below_drewN ?_ _ | with_reducible refine Below.setCell ?_ (by first | (simp; done) | (simp; omega) | omega) _ | with_reducible refine Below.alloc ?_ (by first | (simp; done) | (simp; omega) | omega) _)))⟩
set_option maxHeartbeats 4000000 in
theorem eo_b3 (s x : ByteArray) (j k wd M : Nat) (o : Int) (w : World) (hs : s.size ≤ 16000) (HXG : Hid (chkFrom x x.size 0 = none)) (HX : Hid (LnAt s j x)) (hj : j ≤ nl s 0 s.size) (sx16 : x.size ≤ 16000) (HM : Hid (nb x 0 x.size = M)) (hM2 : M ≤ 16000) (hk : k ≤ 16000) (hw1 : 20 ≤ wd) (hw2 : wd ≤ 200) (hf : ∀ w, Tabs w → Calls Tryd.prog 16 #[.string s, .int .i64 ((j : Int) + 1), .int .i64 ((k : Int) + 1)] w fun e w2 => e = .returned (.tuple #[.int .i64 o, flt 0 0]) ∧ Below w.heap.size w w2) (hT : Tabs w) (hMw : wd < M) (hb : 0 ≤ (k : Int) - (wd : Int) / 2) (hb2 : (k : Int) - (wd : Int) / 2 ≤ (M : Int) - (wd : Int)) (F : Nat) (hF : (k : Int) - (wd : Int) / 2 = (F : Int)) (a z : Nat) (ha : Hid (Bd x a ∧ nb x 0 a = F)) (he : Hid (Bd x z ∧ nb x 0 z = F + wd)) :
    Calls Tryd.prog 18 #[.string s, .int .i64 ((j : Int) + 1), .int .i64 ((k : Int) + 1), .int .i64 (wd : Int)] w fun e w' => e = .returned (.tuple #[.string (((x.extract a z ++ ⟨#[10]⟩) ++ spc (k - F)) ++ ⟨#[94]⟩), flt 0 0]) ∧ Below w.heap.size w w' := by
  have c0 : IntKind.i64.wrap ((k : Int) + 1 - 1) = (k : Int) := by rw [show (k : Int) + 1 - 1 = k by omega]; exact IntWalk.i64_in _ (by omega)
  have e2 : (wd : Int).tdiv 2 = (wd : Int) / 2 := Int.tdiv_eq_ediv_of_nonneg (by omega)
  have c1 : IntKind.i64.wrap ((wd : Int) / 2) = (wd : Int) / 2 := IntWalk.i64_in _ (by omega)
  have c2 : IntKind.i64.wrap ((k : Int) - (wd : Int) / 2) = (k : Int) - (wd : Int) / 2 := IntWalk.i64_in _ (by omega)
  have c7 : IntKind.i64.wrap ((M : Int) - (wd : Int)) = (M : Int) - (wd : Int) := IntWalk.i64_in _ (by omega)
  obtain ⟨q, hq⟩ : ∃ q, q = k - F := ⟨_, rfl⟩
  obtain ⟨T, hTE⟩ : ∃ T, T = x.extract a z := ⟨_, rfl⟩
  have sT : T.size ≤ 16000 := by rw [hTE, ByteArray.size_extract]; omega
  have fk : F ≤ k := by omega
  have fM : F + wd ≤ M := by omega
  have sq : (spc q).size ≤ 1000000 := by rw [spc_size]; omega
  have q16 : q ≤ 1000000 := by omega
  have HTE := Lib.hid hTE
  rw [← hq, ← hTE]
  have HQ : IntKind.i64.wrap ((k : Int) - (F : Int)) = (q : Int) := by rw [show (k : Int) - (F : Int) = (q : Int) by omega]; exact IntWalk.i64_in _ (by omega)
  have HFE := Lib.hid hF
  have HDA := Lib.hid (And.intro hb hb2)
  skip
  clear hTE hq hF hb2 hb
  have nlz := nl_le s 0 s.size
  have d1 : decide ((wd : Int) < 20) = false := decide_eq_false (by omega)
  have d1n : decide (wd < 20) = false := decide_eq_false (by omega)
  have d2 : decide ((200 : Int) < (wd : Int)) = false := decide_eq_false (by omega)
  have d2n : decide (200 < wd) = false := decide_eq_false (by omega)
  have j1 : (0 : Int) ≤ (j : Int) := by omega
  have wj : IntKind.i64.wrap (j : Int) = (j : Int) := IntWalk.i64_in _ (by omega)
  go_enter Tryd.func18, Tryd.ntmps18
  go_wp2_with fail
  refine (hf _ (hT.below (bl1 w _) (Nat.le_refl _))).mono ?_
  rintro e w1 ⟨rfl, hb1⟩
  have P6 : Bk2 w1 w.heap.size (.int .i64 0) (.int .i64 0) := (Bk2.newAt w _ rfl _ _ _).below hb1 (by simp)
  have s1 : w.heap.size + 1 ≤ w1.heap.size := by have := hb1.size; simpa using this
  have E1 : Below w.heap.size w w1 := ((Below.refl _ _).alloc (Nat.le_refl _) _).trans (hb1.mono (by simp))
  clear hb1
  have lt6 := P6.lt
  have z0 : w1.cell? ⟨w.heap.size, 0, none⟩ = some (.int .i64 0) := P6.c0
  have z1 : w1.cell? ⟨w.heap.size, 1, none⟩ = some (.int .i64 0) := P6.c1
  have z2 : w1.frozen? ⟨w.heap.size, 0, none⟩ = false := P6.z0
  have z3 : w1.frozen? ⟨w.heap.size, 1, none⟩ = false := P6.z1
  have hT1 : Tabs w1 := hT.below E1 (Nat.le_refl _)
  go_upto_region 8 with (first | (go_at_call 7; refine (lines_any s _ (by omega)).mono ?_; rintro e w2 ⟨g, cc, xs, rfl, hR, hxc, hcm, HLn, HLx, hgw, hb2⟩; have Bw2 : Below w1.heap.size w1 w2 := (by refine Below.trans ?_ (hb2.mono (by first | (simp; done) | (simp; omega) | omega)); (repeat (first | with_reducible exact Below.refl _ _ | with_reducible refine Below.drew ?_ | with_reducible refine Below.alloc ?_ (by first | (simp; done) | (simp; omega) | omega) _))); have Sw2 := Bw2.size; have Pw2 := P6.below Bw2 P6.lt; have BNw2 : Below w.heap.size w w2 := E1.trans (Bw2.mono (by omega)); have Tw2 := hT1.below Bw2 (Nat.le_refl _); obtain ⟨y0, y1, y2, y3, _⟩ := id Pw2; have F8 := (Bk2.newAt w1 _ rfl (.int .i64 0) (.int .i64 0) 24).below hb2 (by simp); obtain ⟨x0, x1, x2, x3, x4⟩ := id F8; have hjx : j < xs.length := (by have := HLn.out; omega); obtain ⟨x', hx'⟩ : ∃ x', xs[j]? = some x' := ⟨_, List.getElem?_eq_getElem hjx⟩; have hx2 : xs[j]? = some x := (by rw [ln_uniq HX.out (HLx.out j x' hx')]; exact hx'); have q8 := hR.cell hx2; have j2 : (j : Int) < (xs.length : Int) := (by omega); clear hx2 hx') | (go_at_call 29; refine (chars_any x _ sx16 HXG Tw2).mono ?_; rintro e w3 ⟨A3, c3, zs, rfl, hown3, hzc1, hzc2, HZ, hzl, hb3⟩; have Bw3 : Below w1.heap.size w1 w3 := (by refine Below.trans ?_ (hb3.mono (by first | (simp; done) | (simp; omega) | omega)); (repeat (first | with_reducible exact Below.refl _ _ | with_reducible exact Bw2 | with_reducible refine Below.drew ?_ | with_reducible refine Below.alloc ?_ (by first | (simp; done) | (simp; omega) | omega) _))); have Sw3 := Bw3.size; have Pw3 := P6.below Bw3 P6.lt; have BNw3 : Below w.heap.size w w3 := E1.trans (Bw3.mono (by omega)); have Tw3 := hT1.below Bw3 (Nat.le_refl _); obtain ⟨y0, y1, y2, y3, _⟩ := id Pw3; have HZM := Lib.hid (HZ.out.1.trans HM.out); rw [HZM.out]; have hMc : M ≤ c3 := (by have := HZM.out; omega)))
  have d4 : decide ((wd : Int) < (M : Int)) = true := decide_eq_true (by omega)
  have d4n : decide (wd < M) = true := decide_eq_true (by omega)
  have hb := HDA.out
  obtain ⟨hb, hb2⟩ := hb
  have dA : decide ((k : Int) - (wd : Int) / 2 < 0) = false := decide_eq_false (by omega)
  have dB : decide ((M : Int) - (wd : Int) < (k : Int) - (wd : Int) / 2) = false := decide_eq_false (by omega)
  clear hb hb2
  obtain ⟨g3, rfl, hg3, hRS, _, _⟩ := RS.of_own hown3 (by have := HZM.out; omega)
  have hg3l := hRS.lt
  have HFL := Lib.hid (show (((zs.drop F).take wd).map (·.data.toList)).flatten = T.data.toList by
    have h1 := cat_part (good_of HXG.out) HZ.out wd a z ha.out.1 he.out.1 (ch_le he.out.1 ha.out.1.1 (by rw [ha.out.2, he.out.2]; omega)) (by rw [ha.out.2, he.out.2])
    rw [ha.out.2, ← HTE.out] at h1
    exact h1)
  have HLY := Lib.hid (show ((zs.drop F).take wd).length = wd by rw [List.length_take, List.length_drop]; have := HZM.out; omega)
  have HCY := Lib.hid (show ∀ (i : Nat) y, ((zs.drop F).take wd)[i]? = some y → w3.cell? ⟨g3, F + i, none⟩ = some (.string y) from fun i y hy => by
    have hi : i < wd := by have := (List.getElem?_eq_some_iff.1 hy).1; rw [HLY.out] at this; exact this
    rw [List.getElem?_take, if_pos hi, List.getElem?_drop] at hy
    exact hRS.cell hy)
  go_upto_region 14 with fail
  rw [HFE.out]
  have i0 : (0 : Int) ≤ (F : Int) := by omega
  have i1 : (F : Int) ≤ (F : Int) + (wd : Int) := by omega
  have i2 : (F : Int) + (wd : Int) ≤ (c3 : Int) := by omega
  have w0 : IntKind.i64.wrap ((F : Int) + (wd : Int)) = (F : Int) + (wd : Int) := IntWalk.i64_in _ (by omega)
  go_wp2_with (first | (go_at_call 32; refine (join_any g3 F _ wd ((zs.drop F).take wd) T _ HCY.out hg3l HLY.out (by omega) HFL sT (by omega)).mono ?_; rintro e w4 ⟨rfl, hb4⟩; have Bw4 : Below w1.heap.size w1 w4 := (by refine Below.trans ?_ (hb4.mono (by first | (simp; done) | (simp; omega) | omega)); (repeat (first | with_reducible exact Below.refl _ _ | with_reducible exact Bw3 | with_reducible refine Below.drew ?_ | with_reducible refine Below.alloc ?_ (by first | (simp; done) | (simp; omega) | omega) _))); have Sw4 := Bw4.size; have Pw4 := P6.below Bw4 P6.lt; have BNw4 : Below w.heap.size w w4 := E1.trans (Bw4.mono (by omega)); have Tw4 := hT1.below Bw4 (Nat.le_refl _); obtain ⟨y0, y1, y2, y3, _⟩ := id Pw4) | (go_at_call 31; refine (rep_sp q _ (by omega)).mono ?_; rintro e w5 ⟨rfl, hb5⟩; have Bw5 : Below w1.heap.size w1 w5 := (by refine Below.trans ?_ (hb5.mono (by first | (simp; done) | (simp; omega) | omega)); (repeat (first | with_reducible exact Below.refl _ _ | with_reducible exact Bw4 | with_reducible refine Below.drew ?_ | with_reducible refine Below.alloc ?_ (by first | (simp; done) | (simp; omega) | omega) _))); have Sw5 := Bw5.size; have Pw5 := P6.below Bw5 P6.lt; have BNw5 : Below w.heap.size w w5 := E1.trans (Bw5.mono (by omega)); have Tw5 := hT1.below Bw5 (Nat.le_refl _); obtain ⟨y0, y1, y2, y3, _⟩ := id Pw5))
  refine bodyPost_ret (v := .tuple #[.string (((T ++ ⟨#[10]⟩) ++ spc q) ++ ⟨#[94]⟩), flt 0 0]) (by simp [results, Tryd.results18, go_sem, y0, y1]) rfl ⟨rfl, (by (repeat (first | with_reducible exact BNw5 | with_reducible refine Below.drew ?_ | with_reducible refine below_drewN ?_ _ | with_reducible refine Below.setCell ?_ (by first | (simp; done) | (simp; omega) | omega) _ | with_reducible refine Below.alloc ?_ (by first | (simp; done) | (simp; omega) | omega) _)))⟩
end Go.Proofs.YtlohapafpgihaaaDoor
