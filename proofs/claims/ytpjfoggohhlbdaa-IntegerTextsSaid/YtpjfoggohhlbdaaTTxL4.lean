/- IntegerTexts: the law, where the integer and the base are good. -/
import Derived.Test.YtpjfoggohhlbdaaTTxt8
import Derived.Test.YtpjfoggohhlbdaaTAri1
import Derived.Deep.RegionHeld3
import Derived.Deep.DeepCutAuto
namespace Go.Proofs.Ytpjfoggohhlbdaa
open Go.RowKit
set_option maxHeartbeats 400000
set_option maxRecDepth 100000
set_option linter.unusedSimpArgs false
set_option linter.unusedVariables false

theorem same_irep {m n : Bool} {xs ys : List Nat} {z : Int} (h : IRep m xs z) (k : IRep n ys z) : (decide (m = n) && sameB xs ys) = true := by
  have e : m = n := by rw [h.sgn, k.sgn]
  have e2 : xs = ys := h.rep.unique (by decide) k.rep
  rw [e, e2]
  simp [sameB]
set_option maxHeartbeats 8000000 in
theorem txt_gl (w : World) (a : IV) (y : Nat) (s : ByteArray) (hs9 : s.size ≤ 9223372036854775807) (HA : a.at w w.heap.size) (oa : a.ok = true) (hy : 2 ≤ y ∧ y ≤ 36) (HL : Hid (4097 < s.size)) :
    Calls Try.prog 8 #[a.v, .int .i64 (y : Int), .string s] w (fun e w' => e = .returned (.bool true) ∧ Below w.heap.size w w') := by
  have hs8 : (s.size : Int) ≤ 9223372036854775807 := by omega
  replace HA : LRd w w.heap.size a.A a.n a.c a.xs := HA
  have VA : ivld a.neg a.xs = true := oa
  obtain ⟨va9, hlen9⟩ := IV.vld oa
  have hn9 : a.n ≤ 128 := by have := HA.len.out; omega
  have HF := Lib.hid (show a.val.natAbs < Top128 from by
    have h1 : Rep 4294967296 a.xs (vb 4294967296 a.xs) := ⟨HA.lim, rfl, (vld_top va9).1⟩
    show (sval a.neg (vb 4294967296 a.xs)).natAbs < _
    rw [sval_abs]
    exact lt128 h1 rfl hlen9)
  have IA := Lib.hid (IV.irep oa HA.lim)
  have SAME := Lib.hid (show ∀ m xs, IRep m xs a.val → (decide (m = a.neg) && sameB xs a.xs) = true from fun m xs h => same_irep h IA.out)
  clear va9 hlen9
  have E : Below w.heap.size w w := Below.refl _ _
  have hy1 : 2 ≤ (y : Int) := by omega
  have hy2 : (y : Int) ≤ 36 := by omega
  go_enter Try.func8, Try.ntmps8
  go_wp2_with fail
  obtain ⟨V0, hV0⟩ : ∃ V0 : World, V0 = (w.alloc (.cells #[.bool a.neg, .slice a.A a.n a.c] 24)) := ⟨_, rfl⟩
  have bV0 : Below w.heap.size w V0 := by rw [hV0]; (repeat (first | with_reducible exact Below.refl _ _ | with_reducible refine Below.drew ?_ | with_reducible refine below_drewN ?_ _ | with_reducible refine Below.setCell ?_ (by first | (simp; done) | (simp; omega) | omega) _ | with_reducible refine Below.alloc ?_ (by first | (simp; done) | (simp; omega) | omega) _))
  have zV0 : w.heap.size + 1 ≤ V0.heap.size := by rw [hV0]; simp
  have PA : Bk2 V0 (w.heap.size) (.bool a.neg) (.slice a.A a.n a.c) := by rw [hV0]; exact (Bk2.newAt _ _ (by simp) _ _ _)
  rw [← hV0]
  clear hV0
  replace E : Below w.heap.size w V0 := E.trans (bV0.mono E.size)
  replace HA : LRd V0 (w.heap.size) a.A a.n a.c a.xs := HA.below bV0 (by omega)
  clear bV0
  refine (itext_ok _ w.heap.size a y HA (by omega) oa hy).mono ?_
  rintro e w1 ⟨l, hT, rfl, hb1⟩
  have HT := Lib.hid hT
  clear hT
  have sw1 := hb1.size
  replace E : Below w.heap.size w w1 := E.trans (hb1.mono E.size)
  replace HA : LRd w1 (w.heap.size) a.A a.n a.c a.xs := HA.below hb1 (by omega)
  replace PA : Bk2 w1 (w.heap.size) (.bool a.neg) (.slice a.A a.n a.c) := PA.below hb1 PA.lt
  clear hb1
  go_wp2_with fail
  obtain ⟨V1, hV1⟩ : ∃ V1 : World, V1 = (w1.alloc (.cells #[.int .i64 0, .int .i64 0] 26)) := ⟨_, rfl⟩
  have bV1 : Below w1.heap.size w1 V1 := by rw [hV1]; (repeat (first | with_reducible exact Below.refl _ _ | with_reducible refine Below.drew ?_ | with_reducible refine below_drewN ?_ _ | with_reducible refine Below.setCell ?_ (by first | (simp; done) | (simp; omega) | omega) _ | with_reducible refine Below.alloc ?_ (by first | (simp; done) | (simp; omega) | omega) _))
  have zV1 : w1.heap.size + 1 ≤ V1.heap.size := by rw [hV1]; simp
  have FT : Bk2 V1 (w1.heap.size) (.int .i64 0) (.int .i64 0) := by rw [hV1]; exact (Bk2.newAt _ _ (by simp) _ _ _)
  rw [← hV1]
  clear hV1
  replace E : Below w.heap.size w V1 := E.trans (bV1.mono E.size)
  replace HA : LRd V1 (w.heap.size) a.A a.n a.c a.xs := HA.below bV1 (by omega)
  replace PA : Bk2 V1 (w.heap.size) (.bool a.neg) (.slice a.A a.n a.c) := PA.below bV1 PA.lt
  clear bV1
  refine (iparse_long _ s y hy HL.out (by omega)).mono ?_
  rintro e w2 ⟨m4, A4, k4, c4, x4, rfl, hl4, hr4, hb4⟩
  obtain ⟨rfl, rfl⟩ := irep_nilT hr4 hl4.len.out
  have sw2 := hb4.size
  clear hl4 hr4
  replace E : Below w.heap.size w w2 := E.trans (hb4.mono E.size)
  replace HA : LRd w2 (w.heap.size) a.A a.n a.c a.xs := HA.below hb4 (by omega)
  replace PA : Bk2 w2 (w.heap.size) (.bool a.neg) (.slice a.A a.n a.c) := PA.below hb4 PA.lt
  replace FT : Bk2 w2 (w1.heap.size) (.int .i64 0) (.int .i64 0) := FT.below hb4 FT.lt
  clear hb4
  go_wp2_with fail
  obtain ⟨V2, hV2⟩ : ∃ V2 : World, V2 = ((w2.alloc (.cells #[.bool false, .slice A4 0 c4] 24)).alloc (.cells #[.int .i64 3, .int .i64 (-1)] 26)) := ⟨_, rfl⟩
  have bV2 : Below w2.heap.size w2 V2 := by rw [hV2]; (repeat (first | with_reducible exact Below.refl _ _ | with_reducible refine Below.drew ?_ | with_reducible refine below_drewN ?_ _ | with_reducible refine Below.setCell ?_ (by first | (simp; done) | (simp; omega) | omega) _ | with_reducible refine Below.alloc ?_ (by first | (simp; done) | (simp; omega) | omega) _))
  have zV2 : w2.heap.size + 2 ≤ V2.heap.size := by rw [hV2]; simp
  have PX : Bk2 V2 (w2.heap.size) (.bool false) (.slice A4 0 c4) := by rw [hV2]; exact ((Bk2.newAt _ _ (by simp) _ _ _).alloc _)
  have FX : Bk2 V2 (w2.heap.size + 1) (.int .i64 3) (.int .i64 (-1)) := by rw [hV2]; exact (Bk2.newAt _ _ (by simp) _ _ _)
  rw [← hV2]
  clear hV2
  replace E : Below w.heap.size w V2 := E.trans (bV2.mono E.size)
  replace HA : LRd V2 (w.heap.size) a.A a.n a.c a.xs := HA.below bV2 (by omega)
  replace PA : Bk2 V2 (w.heap.size) (.bool a.neg) (.slice a.A a.n a.c) := PA.below bV2 PA.lt
  replace FT : Bk2 V2 (w1.heap.size) (.int .i64 0) (.int .i64 0) := FT.below bV2 FT.lt
  clear bV2
  (with_reducible refine (counts_any _).mono ?_)
  rintro e w3 ⟨rfl, hb3⟩
  have sw3 := hb3.size
  replace E : Below w.heap.size w w3 := E.trans (hb3.mono E.size)
  replace HA : LRd w3 (w.heap.size) a.A a.n a.c a.xs := HA.below hb3 (by omega)
  replace PA : Bk2 w3 (w.heap.size) (.bool a.neg) (.slice a.A a.n a.c) := PA.below hb3 PA.lt
  replace FT : Bk2 w3 (w1.heap.size) (.int .i64 0) (.int .i64 0) := FT.below hb3 FT.lt
  replace PX : Bk2 w3 (w2.heap.size) (.bool false) (.slice A4 0 c4) := PX.below hb3 PX.lt
  replace FX : Bk2 w3 (w2.heap.size + 1) (.int .i64 3) (.int .i64 (-1)) := FX.below hb3 FX.lt
  clear hb3
  have t_PA0 : (w3.alloc (.cells #[.int .i64 0, .int .i64 0] 26)).cell? ⟨w.heap.size, 0, none⟩ = some ((.bool a.neg)) := (PA.alloc _).c0
  have t_PA1 : (w3.alloc (.cells #[.int .i64 0, .int .i64 0] 26)).cell? ⟨w.heap.size, 1, none⟩ = some ((.slice a.A a.n a.c)) := (PA.alloc _).c1
  go_wp2_with fail
  clear t_PA0 t_PA1
  obtain ⟨V3, hV3⟩ : ∃ V3 : World, V3 = (w3.alloc (.cells #[.int .i64 0, .int .i64 0] 26)) := ⟨_, rfl⟩
  have bV3 : Below w3.heap.size w3 V3 := by rw [hV3]; (repeat (first | with_reducible exact Below.refl _ _ | with_reducible refine Below.drew ?_ | with_reducible refine below_drewN ?_ _ | with_reducible refine Below.setCell ?_ (by first | (simp; done) | (simp; omega) | omega) _ | with_reducible refine Below.alloc ?_ (by first | (simp; done) | (simp; omega) | omega) _))
  have zV3 : w3.heap.size + 1 ≤ V3.heap.size := by rw [hV3]; simp
  have FW : Bk2 V3 (w3.heap.size) (.int .i64 0) (.int .i64 0) := by rw [hV3]; exact (Bk2.newAt _ _ (by simp) _ _ _)
  rw [← hV3]
  clear hV3
  replace E : Below w.heap.size w V3 := E.trans (bV3.mono E.size)
  replace HA : LRd V3 (w.heap.size) a.A a.n a.c a.xs := HA.below bV3 (by omega)
  replace PA : Bk2 V3 (w.heap.size) (.bool a.neg) (.slice a.A a.n a.c) := PA.below bV3 PA.lt
  replace FT : Bk2 V3 (w1.heap.size) (.int .i64 0) (.int .i64 0) := FT.below bV3 FT.lt
  replace PX : Bk2 V3 (w2.heap.size) (.bool false) (.slice A4 0 c4) := PX.below bV3 PX.lt
  replace FX : Bk2 V3 (w2.heap.size + 1) (.int .i64 3) (.int .i64 (-1)) := FX.below bV3 FX.lt
  clear bV3
  (with_reducible refine (intOk_any _ w.heap.size a.neg a.A a.n a.c a.xs HA (by omega)).mono ?_)
  rintro e w5 ⟨rfl, hb5⟩
  have sw5 := hb5.size
  replace E : Below w.heap.size w w5 := E.trans (hb5.mono E.size)
  replace HA : LRd w5 (w.heap.size) a.A a.n a.c a.xs := HA.below hb5 (by omega)
  replace PA : Bk2 w5 (w.heap.size) (.bool a.neg) (.slice a.A a.n a.c) := PA.below hb5 PA.lt
  replace FT : Bk2 w5 (w1.heap.size) (.int .i64 0) (.int .i64 0) := FT.below hb5 FT.lt
  replace PX : Bk2 w5 (w2.heap.size) (.bool false) (.slice A4 0 c4) := PX.below hb5 PX.lt
  replace FX : Bk2 w5 (w2.heap.size + 1) (.int .i64 3) (.int .i64 (-1)) := FX.below hb5 FX.lt
  replace FW : Bk2 w5 (w3.heap.size) (.int .i64 0) (.int .i64 0) := FW.below hb5 FW.lt
  clear hb5
  rw [VA]
  have t_FT0 : w5.cell? ⟨w1.heap.size, 0, none⟩ = some ((.int .i64 0)) := FT.c0
  have t_FT1 : w5.cell? ⟨w1.heap.size, 1, none⟩ = some ((.int .i64 0)) := FT.c1
  have t_FW0 : w5.cell? ⟨w3.heap.size, 0, none⟩ = some ((.int .i64 0)) := FW.c0
  have t_FW1 : w5.cell? ⟨w3.heap.size, 1, none⟩ = some ((.int .i64 0)) := FW.c1
  go_wp2_with fail
  clear t_FT0 t_FT1 t_FW0 t_FW1
  have hfit : (TxVal ⟨l.toArray⟩ y).natAbs < Top128 ∧ TxVal ⟨l.toArray⟩ y = a.val ∧ TxOk ⟨l.toArray⟩ y := by
    obtain ⟨h1, h2⟩ := text_back hy HT.out
    exact ⟨by rw [h2]; exact HF.out, h2, h1⟩
  have hll : (⟨l.toArray⟩ : ByteArray).size ≤ 4097 := text_len hy.1 HT.out HF.out
  have HX := Lib.hid hfit
  have HLL := Lib.hid hll
  clear hfit hll
  refine (iparse_ok _ ⟨l.toArray⟩ y hy HLL.out HX.out.2.2).mono ?_
  rintro e w6 (⟨_, m6, A6, k6, c6, x6, rfl, hl6, hr6, hb6⟩ | ⟨h1, _⟩)
  rotate_left
  · exact absurd HX.out.1 (by omega)
  rw [HX.out.2.1] at hr6
  have R6 := Lib.hid hr6
  clear hr6
  have sw6 := hb6.size
  replace E : Below w.heap.size w w6 := E.trans (hb6.mono E.size)
  replace HA : LRd w6 (w.heap.size) a.A a.n a.c a.xs := HA.below hb6 (by omega)
  replace PA : Bk2 w6 (w.heap.size) (.bool a.neg) (.slice a.A a.n a.c) := PA.below hb6 PA.lt
  replace FT : Bk2 w6 (w1.heap.size) (.int .i64 0) (.int .i64 0) := FT.below hb6 FT.lt
  replace PX : Bk2 w6 (w2.heap.size) (.bool false) (.slice A4 0 c4) := PX.below hb6 PX.lt
  replace FX : Bk2 w6 (w2.heap.size + 1) (.int .i64 3) (.int .i64 (-1)) := FX.below hb6 FX.lt
  replace FW : Bk2 w6 (w3.heap.size) (.int .i64 0) (.int .i64 0) := FW.below hb6 FW.lt
  clear hb6
  have t_PA0 : ((w6.alloc (.cells #[.bool m6, .slice A6 k6 c6] 24)).alloc (.cells #[.int .i64 0, .int .i64 0] 26)).cell? ⟨w.heap.size, 0, none⟩ = some ((.bool a.neg)) := ((PA.alloc _).alloc _).c0
  have t_PA1 : ((w6.alloc (.cells #[.bool m6, .slice A6 k6 c6] 24)).alloc (.cells #[.int .i64 0, .int .i64 0] 26)).cell? ⟨w.heap.size, 1, none⟩ = some ((.slice a.A a.n a.c)) := ((PA.alloc _).alloc _).c1
  go_wp2_with fail
  clear t_PA0 t_PA1
  obtain ⟨V5, hV5⟩ : ∃ V5 : World, V5 = ((w6.alloc (.cells #[.bool m6, .slice A6 k6 c6] 24)).alloc (.cells #[.int .i64 0, .int .i64 0] 26)) := ⟨_, rfl⟩
  have bV5 : Below w6.heap.size w6 V5 := by rw [hV5]; (repeat (first | with_reducible exact Below.refl _ _ | with_reducible refine Below.drew ?_ | with_reducible refine below_drewN ?_ _ | with_reducible refine Below.setCell ?_ (by first | (simp; done) | (simp; omega) | omega) _ | with_reducible refine Below.alloc ?_ (by first | (simp; done) | (simp; omega) | omega) _))
  have zV5 : w6.heap.size + 2 ≤ V5.heap.size := by rw [hV5]; simp
  have P13 : Bk2 V5 (w6.heap.size) (.bool m6) (.slice A6 k6 c6) := by rw [hV5]; exact ((Bk2.newAt _ _ (by simp) _ _ _).alloc _)
  have F14 : Bk2 V5 (w6.heap.size + 1) (.int .i64 0) (.int .i64 0) := by rw [hV5]; exact (Bk2.newAt _ _ (by simp) _ _ _)
  rw [← hV5]
  clear hV5
  replace E : Below w.heap.size w V5 := E.trans (bV5.mono E.size)
  replace HA : LRd V5 (w.heap.size) a.A a.n a.c a.xs := HA.below bV5 (by omega)
  replace PA : Bk2 V5 (w.heap.size) (.bool a.neg) (.slice a.A a.n a.c) := PA.below bV5 PA.lt
  replace FT : Bk2 V5 (w1.heap.size) (.int .i64 0) (.int .i64 0) := FT.below bV5 FT.lt
  replace PX : Bk2 V5 (w2.heap.size) (.bool false) (.slice A4 0 c4) := PX.below bV5 PX.lt
  replace FX : Bk2 V5 (w2.heap.size + 1) (.int .i64 3) (.int .i64 (-1)) := FX.below bV5 FX.lt
  replace FW : Bk2 V5 (w3.heap.size) (.int .i64 0) (.int .i64 0) := FW.below bV5 FW.lt
  replace hl6 : LRd V5 (w6.heap.size) A6 k6 c6 x6 := hl6.below bV5 (by omega)
  clear bV5
  (with_reducible refine (intOf_any _ w.heap.size a.neg a.A a.n a.c a.xs HA (by omega) (by omega)).mono ?_)
  rintro e w17 ⟨m7, A7, k7, c7, x7, v7, rfl, hd7, hr7, hv7, hb7⟩
  have sw17 := hb7.size
  replace E : Below w.heap.size w w17 := E.trans (hb7.mono E.size)
  replace HA : LRd w17 (w.heap.size) a.A a.n a.c a.xs := HA.below hb7 (by omega)
  replace PA : Bk2 w17 (w.heap.size) (.bool a.neg) (.slice a.A a.n a.c) := PA.below hb7 PA.lt
  replace FT : Bk2 w17 (w1.heap.size) (.int .i64 0) (.int .i64 0) := FT.below hb7 FT.lt
  replace PX : Bk2 w17 (w2.heap.size) (.bool false) (.slice A4 0 c4) := PX.below hb7 PX.lt
  replace FX : Bk2 w17 (w2.heap.size + 1) (.int .i64 3) (.int .i64 (-1)) := FX.below hb7 FX.lt
  replace FW : Bk2 w17 (w3.heap.size) (.int .i64 0) (.int .i64 0) := FW.below hb7 FW.lt
  replace hl6 : LRd w17 (w6.heap.size) A6 k6 c6 x6 := hl6.below hb7 (by omega)
  replace P13 : Bk2 w17 (w6.heap.size) (.bool m6) (.slice A6 k6 c6) := P13.below hb7 P13.lt
  replace F14 : Bk2 w17 (w6.heap.size + 1) (.int .i64 0) (.int .i64 0) := F14.below hb7 F14.lt
  clear hb7
  have R7 := Lib.hid hr7
  have V7 := Lib.hid (show sval m7 v7 = a.val from hv7)
  clear hr7 hv7
  have hvt : v7 < Top128 := by have h1 := HF.out; rw [← V7.out, sval_abs] at h1; exact h1
  have VT := Lib.hid hvt
  have hk7 : k7 ≤ 100000 := len512 R7.out hd7.len.out (top_sq (by omega))
  clear hvt
  go_wp2_with fail
  (with_reducible refine (textOf_any _ w17.heap.size m7 A7 k7 c7 y v7 x7 hd7 (by omega) hk7 R7.out hy VT.out).mono ?_)
  rintro e w8 ⟨l8, hT8, rfl, hb8⟩
  have sw8 := hb8.size
  replace E : Below w.heap.size w w8 := E.trans (hb8.mono E.size)
  replace HA : LRd w8 (w.heap.size) a.A a.n a.c a.xs := HA.below hb8 (by omega)
  replace PA : Bk2 w8 (w.heap.size) (.bool a.neg) (.slice a.A a.n a.c) := PA.below hb8 PA.lt
  replace FT : Bk2 w8 (w1.heap.size) (.int .i64 0) (.int .i64 0) := FT.below hb8 FT.lt
  replace PX : Bk2 w8 (w2.heap.size) (.bool false) (.slice A4 0 c4) := PX.below hb8 PX.lt
  replace FX : Bk2 w8 (w2.heap.size + 1) (.int .i64 3) (.int .i64 (-1)) := FX.below hb8 FX.lt
  replace FW : Bk2 w8 (w3.heap.size) (.int .i64 0) (.int .i64 0) := FW.below hb8 FW.lt
  replace hl6 : LRd w8 (w6.heap.size) A6 k6 c6 x6 := hl6.below hb8 (by omega)
  replace P13 : Bk2 w8 (w6.heap.size) (.bool m6) (.slice A6 k6 c6) := P13.below hb8 P13.lt
  replace F14 : Bk2 w8 (w6.heap.size + 1) (.int .i64 0) (.int .i64 0) := F14.below hb8 F14.lt
  replace hd7 : DRd w8 (w17.heap.size) A7 k7 c7 x7 := hd7.below hb8 (by omega)
  clear hb8
  rw [V7.out] at hT8
  obtain rfl : l8 = l := TextIs.uniq (by omega) hT8 HT.out
  clear hT8
  clear hd7
  have t_F140 : w8.cell? ⟨w6.heap.size + 1, 0, none⟩ = some ((.int .i64 0)) := F14.c0
  have t_F141 : w8.cell? ⟨w6.heap.size + 1, 1, none⟩ = some ((.int .i64 0)) := F14.c1
  have t_P130 : w8.cell? ⟨w6.heap.size, 0, none⟩ = some ((.bool m6)) := P13.c0
  have t_P131 : w8.cell? ⟨w6.heap.size, 1, none⟩ = some ((.slice A6 k6 c6)) := P13.c1
  have t_PA0 : w8.cell? ⟨w.heap.size, 0, none⟩ = some ((.bool a.neg)) := PA.c0
  have t_PA1 : w8.cell? ⟨w.heap.size, 1, none⟩ = some ((.slice a.A a.n a.c)) := PA.c1
  go_wp2_with fail
  clear t_F140 t_F141 t_P130 t_P131 t_PA0 t_PA1
  (with_reducible refine (sameInts_any _ w8.heap.size m6 a.neg A6 a.A k6 a.n c6 a.c x6 a.xs (hl6.more (by omega)) (HA.more (by omega)) (Nat.le_refl _)).mono ?_)
  rintro e w10 ⟨rfl, hb10⟩
  have sw10 := hb10.size
  replace E : Below w.heap.size w w10 := E.trans (hb10.mono E.size)
  replace HA : LRd w10 (w.heap.size) a.A a.n a.c a.xs := HA.below hb10 (by omega)
  replace PA : Bk2 w10 (w.heap.size) (.bool a.neg) (.slice a.A a.n a.c) := PA.below hb10 PA.lt
  replace FT : Bk2 w10 (w1.heap.size) (.int .i64 0) (.int .i64 0) := FT.below hb10 FT.lt
  replace PX : Bk2 w10 (w2.heap.size) (.bool false) (.slice A4 0 c4) := PX.below hb10 PX.lt
  replace FX : Bk2 w10 (w2.heap.size + 1) (.int .i64 3) (.int .i64 (-1)) := FX.below hb10 FX.lt
  replace FW : Bk2 w10 (w3.heap.size) (.int .i64 0) (.int .i64 0) := FW.below hb10 FW.lt
  replace hl6 : LRd w10 (w6.heap.size) A6 k6 c6 x6 := hl6.below hb10 (by omega)
  replace P13 : Bk2 w10 (w6.heap.size) (.bool m6) (.slice A6 k6 c6) := P13.below hb10 P13.lt
  replace F14 : Bk2 w10 (w6.heap.size + 1) (.int .i64 0) (.int .i64 0) := F14.below hb10 F14.lt
  clear hb10
  rw [SAME.out m6 x6 R6.out]
  clear hl6
  have hl7 : 4097 < (s.size : Int) := by have := HL.out; omega
  have t_FT0 : w10.cell? ⟨w1.heap.size, 0, none⟩ = some ((.int .i64 0)) := FT.c0
  have t_FT1 : w10.cell? ⟨w1.heap.size, 1, none⟩ = some ((.int .i64 0)) := FT.c1
  go_wp2_with fail
  clear t_FT0 t_FT1
  clear HA
  clear PA
  clear FT
  clear FW
  clear P13
  clear F14
  have sz9 := PX.lt
  have G0 : Below w10.heap.size w10 w10.drew := Below.drew (Below.refl _ _)
  have HS := Lib.hid (fun (u : World) (hu : Below w10.heap.size w10 u) => (⟨hu, (PX.below hu PX.lt).c0, (PX.below hu PX.lt).c1, (FX.below hu FX.lt).c0, (FX.below hu FX.lt).c1⟩ : Below w10.heap.size w10 u ∧ u.cell? ⟨w2.heap.size, 0, none⟩ = some (.bool false) ∧ u.cell? ⟨w2.heap.size, 1, none⟩ = some (.slice A4 0 c4) ∧ u.cell? ⟨w2.heap.size + 1, 0, none⟩ = some (.int .i64 3) ∧ u.cell? ⟨w2.heap.size + 1, 1, none⟩ = some (.int .i64 (-1))))
  go_region_held3 (fun u => Below w10.heap.size w10 u ∧ u.cell? ⟨w2.heap.size, 0, none⟩ = some (.bool false) ∧ u.cell? ⟨w2.heap.size, 1, none⟩ = some (.slice A4 0 c4) ∧ u.cell? ⟨w2.heap.size + 1, 0, none⟩ = some (.int .i64 3) ∧ u.cell? ⟨w2.heap.size + 1, 1, none⟩ = some (.int .i64 (-1))) (first | with_reducible exact HS.out _ G0 | with_reducible exact HS.out _ B2 | with_reducible exact HS.out _ B1 | fail)
    (first
      | (go_at_call 25; (with_reducible refine (at_any _ _ _).mono ?_); rintro e y1 ⟨rfl, hb1⟩; have B1 : Below w10.heap.size w10 y1 := bnext G0 hb1)
      | (go_at_call 26; (with_reducible refine (noInt_any _ false A4 0 c4 (by omega)).mono ?_); rintro e y2 ⟨rfl, hb2⟩; have B2 : Below w10.heap.size w10 y2 := bnext B1 hb2; rw [show (!false && decide (0 = 0)) = true from rfl])
      | fail)
  all_goals (go_wp2_with fail)
  all_goals go_ret
  all_goals exact ⟨by first | rfl | (simp; done), E.trans (B2.mono E.size)⟩
set_option maxHeartbeats 8000000 in
theorem txt_gs (w : World) (a : IV) (y : Nat) (s : ByteArray) (hs9 : s.size ≤ 9223372036854775807) (HA : a.at w w.heap.size) (oa : a.ok = true) (hy : 2 ≤ y ∧ y ≤ 36) (HL : Hid (s.size ≤ 4097)) (HOK : Hid (¬ TxOk s y)) :
    Calls Try.prog 8 #[a.v, .int .i64 (y : Int), .string s] w (fun e w' => e = .returned (.bool true) ∧ Below w.heap.size w w') := by
  have hs8 : (s.size : Int) ≤ 9223372036854775807 := by omega
  replace HA : LRd w w.heap.size a.A a.n a.c a.xs := HA
  have VA : ivld a.neg a.xs = true := oa
  obtain ⟨va9, hlen9⟩ := IV.vld oa
  have hn9 : a.n ≤ 128 := by have := HA.len.out; omega
  have HF := Lib.hid (show a.val.natAbs < Top128 from by
    have h1 : Rep 4294967296 a.xs (vb 4294967296 a.xs) := ⟨HA.lim, rfl, (vld_top va9).1⟩
    show (sval a.neg (vb 4294967296 a.xs)).natAbs < _
    rw [sval_abs]
    exact lt128 h1 rfl hlen9)
  have IA := Lib.hid (IV.irep oa HA.lim)
  have SAME := Lib.hid (show ∀ m xs, IRep m xs a.val → (decide (m = a.neg) && sameB xs a.xs) = true from fun m xs h => same_irep h IA.out)
  clear va9 hlen9
  have E : Below w.heap.size w w := Below.refl _ _
  have hy1 : 2 ≤ (y : Int) := by omega
  have hy2 : (y : Int) ≤ 36 := by omega
  go_enter Try.func8, Try.ntmps8
  go_wp2_with fail
  obtain ⟨V0, hV0⟩ : ∃ V0 : World, V0 = (w.alloc (.cells #[.bool a.neg, .slice a.A a.n a.c] 24)) := ⟨_, rfl⟩
  have bV0 : Below w.heap.size w V0 := by rw [hV0]; (repeat (first | with_reducible exact Below.refl _ _ | with_reducible refine Below.drew ?_ | with_reducible refine below_drewN ?_ _ | with_reducible refine Below.setCell ?_ (by first | (simp; done) | (simp; omega) | omega) _ | with_reducible refine Below.alloc ?_ (by first | (simp; done) | (simp; omega) | omega) _))
  have zV0 : w.heap.size + 1 ≤ V0.heap.size := by rw [hV0]; simp
  have PA : Bk2 V0 (w.heap.size) (.bool a.neg) (.slice a.A a.n a.c) := by rw [hV0]; exact (Bk2.newAt _ _ (by simp) _ _ _)
  rw [← hV0]
  clear hV0
  replace E : Below w.heap.size w V0 := E.trans (bV0.mono E.size)
  replace HA : LRd V0 (w.heap.size) a.A a.n a.c a.xs := HA.below bV0 (by omega)
  clear bV0
  refine (itext_ok _ w.heap.size a y HA (by omega) oa hy).mono ?_
  rintro e w1 ⟨l, hT, rfl, hb1⟩
  have HT := Lib.hid hT
  clear hT
  have sw1 := hb1.size
  replace E : Below w.heap.size w w1 := E.trans (hb1.mono E.size)
  replace HA : LRd w1 (w.heap.size) a.A a.n a.c a.xs := HA.below hb1 (by omega)
  replace PA : Bk2 w1 (w.heap.size) (.bool a.neg) (.slice a.A a.n a.c) := PA.below hb1 PA.lt
  clear hb1
  go_wp2_with fail
  obtain ⟨V1, hV1⟩ : ∃ V1 : World, V1 = (w1.alloc (.cells #[.int .i64 0, .int .i64 0] 26)) := ⟨_, rfl⟩
  have bV1 : Below w1.heap.size w1 V1 := by rw [hV1]; (repeat (first | with_reducible exact Below.refl _ _ | with_reducible refine Below.drew ?_ | with_reducible refine below_drewN ?_ _ | with_reducible refine Below.setCell ?_ (by first | (simp; done) | (simp; omega) | omega) _ | with_reducible refine Below.alloc ?_ (by first | (simp; done) | (simp; omega) | omega) _))
  have zV1 : w1.heap.size + 1 ≤ V1.heap.size := by rw [hV1]; simp
  have FT : Bk2 V1 (w1.heap.size) (.int .i64 0) (.int .i64 0) := by rw [hV1]; exact (Bk2.newAt _ _ (by simp) _ _ _)
  rw [← hV1]
  clear hV1
  replace E : Below w.heap.size w V1 := E.trans (bV1.mono E.size)
  replace HA : LRd V1 (w.heap.size) a.A a.n a.c a.xs := HA.below bV1 (by omega)
  replace PA : Bk2 V1 (w.heap.size) (.bool a.neg) (.slice a.A a.n a.c) := PA.below bV1 PA.lt
  clear bV1
  refine (iparse_syntax _ s y hy HL.out HOK.out).mono ?_
  rintro e w2 ⟨m4, A4, k4, c4, x4, rfl, hl4, hr4, hb4⟩
  obtain ⟨rfl, rfl⟩ := irep_nilT hr4 hl4.len.out
  have sw2 := hb4.size
  clear hl4 hr4
  replace E : Below w.heap.size w w2 := E.trans (hb4.mono E.size)
  replace HA : LRd w2 (w.heap.size) a.A a.n a.c a.xs := HA.below hb4 (by omega)
  replace PA : Bk2 w2 (w.heap.size) (.bool a.neg) (.slice a.A a.n a.c) := PA.below hb4 PA.lt
  replace FT : Bk2 w2 (w1.heap.size) (.int .i64 0) (.int .i64 0) := FT.below hb4 FT.lt
  clear hb4
  go_wp2_with fail
  obtain ⟨V2, hV2⟩ : ∃ V2 : World, V2 = ((w2.alloc (.cells #[.bool false, .slice A4 0 c4] 24)).alloc (.cells #[.int .i64 1, .int .i64 (-1)] 26)) := ⟨_, rfl⟩
  have bV2 : Below w2.heap.size w2 V2 := by rw [hV2]; (repeat (first | with_reducible exact Below.refl _ _ | with_reducible refine Below.drew ?_ | with_reducible refine below_drewN ?_ _ | with_reducible refine Below.setCell ?_ (by first | (simp; done) | (simp; omega) | omega) _ | with_reducible refine Below.alloc ?_ (by first | (simp; done) | (simp; omega) | omega) _))
  have zV2 : w2.heap.size + 2 ≤ V2.heap.size := by rw [hV2]; simp
  have PX : Bk2 V2 (w2.heap.size) (.bool false) (.slice A4 0 c4) := by rw [hV2]; exact ((Bk2.newAt _ _ (by simp) _ _ _).alloc _)
  have FX : Bk2 V2 (w2.heap.size + 1) (.int .i64 1) (.int .i64 (-1)) := by rw [hV2]; exact (Bk2.newAt _ _ (by simp) _ _ _)
  rw [← hV2]
  clear hV2
  replace E : Below w.heap.size w V2 := E.trans (bV2.mono E.size)
  replace HA : LRd V2 (w.heap.size) a.A a.n a.c a.xs := HA.below bV2 (by omega)
  replace PA : Bk2 V2 (w.heap.size) (.bool a.neg) (.slice a.A a.n a.c) := PA.below bV2 PA.lt
  replace FT : Bk2 V2 (w1.heap.size) (.int .i64 0) (.int .i64 0) := FT.below bV2 FT.lt
  clear bV2
  (with_reducible refine (counts_any _).mono ?_)
  rintro e w3 ⟨rfl, hb3⟩
  have sw3 := hb3.size
  replace E : Below w.heap.size w w3 := E.trans (hb3.mono E.size)
  replace HA : LRd w3 (w.heap.size) a.A a.n a.c a.xs := HA.below hb3 (by omega)
  replace PA : Bk2 w3 (w.heap.size) (.bool a.neg) (.slice a.A a.n a.c) := PA.below hb3 PA.lt
  replace FT : Bk2 w3 (w1.heap.size) (.int .i64 0) (.int .i64 0) := FT.below hb3 FT.lt
  replace PX : Bk2 w3 (w2.heap.size) (.bool false) (.slice A4 0 c4) := PX.below hb3 PX.lt
  replace FX : Bk2 w3 (w2.heap.size + 1) (.int .i64 1) (.int .i64 (-1)) := FX.below hb3 FX.lt
  clear hb3
  have t_PA0 : (w3.alloc (.cells #[.int .i64 0, .int .i64 0] 26)).cell? ⟨w.heap.size, 0, none⟩ = some ((.bool a.neg)) := (PA.alloc _).c0
  have t_PA1 : (w3.alloc (.cells #[.int .i64 0, .int .i64 0] 26)).cell? ⟨w.heap.size, 1, none⟩ = some ((.slice a.A a.n a.c)) := (PA.alloc _).c1
  go_wp2_with fail
  clear t_PA0 t_PA1
  obtain ⟨V3, hV3⟩ : ∃ V3 : World, V3 = (w3.alloc (.cells #[.int .i64 0, .int .i64 0] 26)) := ⟨_, rfl⟩
  have bV3 : Below w3.heap.size w3 V3 := by rw [hV3]; (repeat (first | with_reducible exact Below.refl _ _ | with_reducible refine Below.drew ?_ | with_reducible refine below_drewN ?_ _ | with_reducible refine Below.setCell ?_ (by first | (simp; done) | (simp; omega) | omega) _ | with_reducible refine Below.alloc ?_ (by first | (simp; done) | (simp; omega) | omega) _))
  have zV3 : w3.heap.size + 1 ≤ V3.heap.size := by rw [hV3]; simp
  have FW : Bk2 V3 (w3.heap.size) (.int .i64 0) (.int .i64 0) := by rw [hV3]; exact (Bk2.newAt _ _ (by simp) _ _ _)
  rw [← hV3]
  clear hV3
  replace E : Below w.heap.size w V3 := E.trans (bV3.mono E.size)
  replace HA : LRd V3 (w.heap.size) a.A a.n a.c a.xs := HA.below bV3 (by omega)
  replace PA : Bk2 V3 (w.heap.size) (.bool a.neg) (.slice a.A a.n a.c) := PA.below bV3 PA.lt
  replace FT : Bk2 V3 (w1.heap.size) (.int .i64 0) (.int .i64 0) := FT.below bV3 FT.lt
  replace PX : Bk2 V3 (w2.heap.size) (.bool false) (.slice A4 0 c4) := PX.below bV3 PX.lt
  replace FX : Bk2 V3 (w2.heap.size + 1) (.int .i64 1) (.int .i64 (-1)) := FX.below bV3 FX.lt
  clear bV3
  (with_reducible refine (intOk_any _ w.heap.size a.neg a.A a.n a.c a.xs HA (by omega)).mono ?_)
  rintro e w5 ⟨rfl, hb5⟩
  have sw5 := hb5.size
  replace E : Below w.heap.size w w5 := E.trans (hb5.mono E.size)
  replace HA : LRd w5 (w.heap.size) a.A a.n a.c a.xs := HA.below hb5 (by omega)
  replace PA : Bk2 w5 (w.heap.size) (.bool a.neg) (.slice a.A a.n a.c) := PA.below hb5 PA.lt
  replace FT : Bk2 w5 (w1.heap.size) (.int .i64 0) (.int .i64 0) := FT.below hb5 FT.lt
  replace PX : Bk2 w5 (w2.heap.size) (.bool false) (.slice A4 0 c4) := PX.below hb5 PX.lt
  replace FX : Bk2 w5 (w2.heap.size + 1) (.int .i64 1) (.int .i64 (-1)) := FX.below hb5 FX.lt
  replace FW : Bk2 w5 (w3.heap.size) (.int .i64 0) (.int .i64 0) := FW.below hb5 FW.lt
  clear hb5
  rw [VA]
  have t_FT0 : w5.cell? ⟨w1.heap.size, 0, none⟩ = some ((.int .i64 0)) := FT.c0
  have t_FT1 : w5.cell? ⟨w1.heap.size, 1, none⟩ = some ((.int .i64 0)) := FT.c1
  have t_FW0 : w5.cell? ⟨w3.heap.size, 0, none⟩ = some ((.int .i64 0)) := FW.c0
  have t_FW1 : w5.cell? ⟨w3.heap.size, 1, none⟩ = some ((.int .i64 0)) := FW.c1
  go_wp2_with fail
  clear t_FT0 t_FT1 t_FW0 t_FW1
  have hfit : (TxVal ⟨l.toArray⟩ y).natAbs < Top128 ∧ TxVal ⟨l.toArray⟩ y = a.val ∧ TxOk ⟨l.toArray⟩ y := by
    obtain ⟨h1, h2⟩ := text_back hy HT.out
    exact ⟨by rw [h2]; exact HF.out, h2, h1⟩
  have hll : (⟨l.toArray⟩ : ByteArray).size ≤ 4097 := text_len hy.1 HT.out HF.out
  have HX := Lib.hid hfit
  have HLL := Lib.hid hll
  clear hfit hll
  refine (iparse_ok _ ⟨l.toArray⟩ y hy HLL.out HX.out.2.2).mono ?_
  rintro e w6 (⟨_, m6, A6, k6, c6, x6, rfl, hl6, hr6, hb6⟩ | ⟨h1, _⟩)
  rotate_left
  · exact absurd HX.out.1 (by omega)
  rw [HX.out.2.1] at hr6
  have R6 := Lib.hid hr6
  clear hr6
  have sw6 := hb6.size
  replace E : Below w.heap.size w w6 := E.trans (hb6.mono E.size)
  replace HA : LRd w6 (w.heap.size) a.A a.n a.c a.xs := HA.below hb6 (by omega)
  replace PA : Bk2 w6 (w.heap.size) (.bool a.neg) (.slice a.A a.n a.c) := PA.below hb6 PA.lt
  replace FT : Bk2 w6 (w1.heap.size) (.int .i64 0) (.int .i64 0) := FT.below hb6 FT.lt
  replace PX : Bk2 w6 (w2.heap.size) (.bool false) (.slice A4 0 c4) := PX.below hb6 PX.lt
  replace FX : Bk2 w6 (w2.heap.size + 1) (.int .i64 1) (.int .i64 (-1)) := FX.below hb6 FX.lt
  replace FW : Bk2 w6 (w3.heap.size) (.int .i64 0) (.int .i64 0) := FW.below hb6 FW.lt
  clear hb6
  have t_PA0 : ((w6.alloc (.cells #[.bool m6, .slice A6 k6 c6] 24)).alloc (.cells #[.int .i64 0, .int .i64 0] 26)).cell? ⟨w.heap.size, 0, none⟩ = some ((.bool a.neg)) := ((PA.alloc _).alloc _).c0
  have t_PA1 : ((w6.alloc (.cells #[.bool m6, .slice A6 k6 c6] 24)).alloc (.cells #[.int .i64 0, .int .i64 0] 26)).cell? ⟨w.heap.size, 1, none⟩ = some ((.slice a.A a.n a.c)) := ((PA.alloc _).alloc _).c1
  go_wp2_with fail
  clear t_PA0 t_PA1
  obtain ⟨V5, hV5⟩ : ∃ V5 : World, V5 = ((w6.alloc (.cells #[.bool m6, .slice A6 k6 c6] 24)).alloc (.cells #[.int .i64 0, .int .i64 0] 26)) := ⟨_, rfl⟩
  have bV5 : Below w6.heap.size w6 V5 := by rw [hV5]; (repeat (first | with_reducible exact Below.refl _ _ | with_reducible refine Below.drew ?_ | with_reducible refine below_drewN ?_ _ | with_reducible refine Below.setCell ?_ (by first | (simp; done) | (simp; omega) | omega) _ | with_reducible refine Below.alloc ?_ (by first | (simp; done) | (simp; omega) | omega) _))
  have zV5 : w6.heap.size + 2 ≤ V5.heap.size := by rw [hV5]; simp
  have P13 : Bk2 V5 (w6.heap.size) (.bool m6) (.slice A6 k6 c6) := by rw [hV5]; exact ((Bk2.newAt _ _ (by simp) _ _ _).alloc _)
  have F14 : Bk2 V5 (w6.heap.size + 1) (.int .i64 0) (.int .i64 0) := by rw [hV5]; exact (Bk2.newAt _ _ (by simp) _ _ _)
  rw [← hV5]
  clear hV5
  replace E : Below w.heap.size w V5 := E.trans (bV5.mono E.size)
  replace HA : LRd V5 (w.heap.size) a.A a.n a.c a.xs := HA.below bV5 (by omega)
  replace PA : Bk2 V5 (w.heap.size) (.bool a.neg) (.slice a.A a.n a.c) := PA.below bV5 PA.lt
  replace FT : Bk2 V5 (w1.heap.size) (.int .i64 0) (.int .i64 0) := FT.below bV5 FT.lt
  replace PX : Bk2 V5 (w2.heap.size) (.bool false) (.slice A4 0 c4) := PX.below bV5 PX.lt
  replace FX : Bk2 V5 (w2.heap.size + 1) (.int .i64 1) (.int .i64 (-1)) := FX.below bV5 FX.lt
  replace FW : Bk2 V5 (w3.heap.size) (.int .i64 0) (.int .i64 0) := FW.below bV5 FW.lt
  replace hl6 : LRd V5 (w6.heap.size) A6 k6 c6 x6 := hl6.below bV5 (by omega)
  clear bV5
  (with_reducible refine (intOf_any _ w.heap.size a.neg a.A a.n a.c a.xs HA (by omega) (by omega)).mono ?_)
  rintro e w17 ⟨m7, A7, k7, c7, x7, v7, rfl, hd7, hr7, hv7, hb7⟩
  have sw17 := hb7.size
  replace E : Below w.heap.size w w17 := E.trans (hb7.mono E.size)
  replace HA : LRd w17 (w.heap.size) a.A a.n a.c a.xs := HA.below hb7 (by omega)
  replace PA : Bk2 w17 (w.heap.size) (.bool a.neg) (.slice a.A a.n a.c) := PA.below hb7 PA.lt
  replace FT : Bk2 w17 (w1.heap.size) (.int .i64 0) (.int .i64 0) := FT.below hb7 FT.lt
  replace PX : Bk2 w17 (w2.heap.size) (.bool false) (.slice A4 0 c4) := PX.below hb7 PX.lt
  replace FX : Bk2 w17 (w2.heap.size + 1) (.int .i64 1) (.int .i64 (-1)) := FX.below hb7 FX.lt
  replace FW : Bk2 w17 (w3.heap.size) (.int .i64 0) (.int .i64 0) := FW.below hb7 FW.lt
  replace hl6 : LRd w17 (w6.heap.size) A6 k6 c6 x6 := hl6.below hb7 (by omega)
  replace P13 : Bk2 w17 (w6.heap.size) (.bool m6) (.slice A6 k6 c6) := P13.below hb7 P13.lt
  replace F14 : Bk2 w17 (w6.heap.size + 1) (.int .i64 0) (.int .i64 0) := F14.below hb7 F14.lt
  clear hb7
  have R7 := Lib.hid hr7
  have V7 := Lib.hid (show sval m7 v7 = a.val from hv7)
  clear hr7 hv7
  have hvt : v7 < Top128 := by have h1 := HF.out; rw [← V7.out, sval_abs] at h1; exact h1
  have VT := Lib.hid hvt
  have hk7 : k7 ≤ 100000 := len512 R7.out hd7.len.out (top_sq (by omega))
  clear hvt
  go_wp2_with fail
  (with_reducible refine (textOf_any _ w17.heap.size m7 A7 k7 c7 y v7 x7 hd7 (by omega) hk7 R7.out hy VT.out).mono ?_)
  rintro e w8 ⟨l8, hT8, rfl, hb8⟩
  have sw8 := hb8.size
  replace E : Below w.heap.size w w8 := E.trans (hb8.mono E.size)
  replace HA : LRd w8 (w.heap.size) a.A a.n a.c a.xs := HA.below hb8 (by omega)
  replace PA : Bk2 w8 (w.heap.size) (.bool a.neg) (.slice a.A a.n a.c) := PA.below hb8 PA.lt
  replace FT : Bk2 w8 (w1.heap.size) (.int .i64 0) (.int .i64 0) := FT.below hb8 FT.lt
  replace PX : Bk2 w8 (w2.heap.size) (.bool false) (.slice A4 0 c4) := PX.below hb8 PX.lt
  replace FX : Bk2 w8 (w2.heap.size + 1) (.int .i64 1) (.int .i64 (-1)) := FX.below hb8 FX.lt
  replace FW : Bk2 w8 (w3.heap.size) (.int .i64 0) (.int .i64 0) := FW.below hb8 FW.lt
  replace hl6 : LRd w8 (w6.heap.size) A6 k6 c6 x6 := hl6.below hb8 (by omega)
  replace P13 : Bk2 w8 (w6.heap.size) (.bool m6) (.slice A6 k6 c6) := P13.below hb8 P13.lt
  replace F14 : Bk2 w8 (w6.heap.size + 1) (.int .i64 0) (.int .i64 0) := F14.below hb8 F14.lt
  replace hd7 : DRd w8 (w17.heap.size) A7 k7 c7 x7 := hd7.below hb8 (by omega)
  clear hb8
  rw [V7.out] at hT8
  obtain rfl : l8 = l := TextIs.uniq (by omega) hT8 HT.out
  clear hT8
  clear hd7
  have t_F140 : w8.cell? ⟨w6.heap.size + 1, 0, none⟩ = some ((.int .i64 0)) := F14.c0
  have t_F141 : w8.cell? ⟨w6.heap.size + 1, 1, none⟩ = some ((.int .i64 0)) := F14.c1
  have t_P130 : w8.cell? ⟨w6.heap.size, 0, none⟩ = some ((.bool m6)) := P13.c0
  have t_P131 : w8.cell? ⟨w6.heap.size, 1, none⟩ = some ((.slice A6 k6 c6)) := P13.c1
  have t_PA0 : w8.cell? ⟨w.heap.size, 0, none⟩ = some ((.bool a.neg)) := PA.c0
  have t_PA1 : w8.cell? ⟨w.heap.size, 1, none⟩ = some ((.slice a.A a.n a.c)) := PA.c1
  go_wp2_with fail
  clear t_F140 t_F141 t_P130 t_P131 t_PA0 t_PA1
  (with_reducible refine (sameInts_any _ w8.heap.size m6 a.neg A6 a.A k6 a.n c6 a.c x6 a.xs (hl6.more (by omega)) (HA.more (by omega)) (Nat.le_refl _)).mono ?_)
  rintro e w10 ⟨rfl, hb10⟩
  have sw10 := hb10.size
  replace E : Below w.heap.size w w10 := E.trans (hb10.mono E.size)
  replace HA : LRd w10 (w.heap.size) a.A a.n a.c a.xs := HA.below hb10 (by omega)
  replace PA : Bk2 w10 (w.heap.size) (.bool a.neg) (.slice a.A a.n a.c) := PA.below hb10 PA.lt
  replace FT : Bk2 w10 (w1.heap.size) (.int .i64 0) (.int .i64 0) := FT.below hb10 FT.lt
  replace PX : Bk2 w10 (w2.heap.size) (.bool false) (.slice A4 0 c4) := PX.below hb10 PX.lt
  replace FX : Bk2 w10 (w2.heap.size + 1) (.int .i64 1) (.int .i64 (-1)) := FX.below hb10 FX.lt
  replace FW : Bk2 w10 (w3.heap.size) (.int .i64 0) (.int .i64 0) := FW.below hb10 FW.lt
  replace hl6 : LRd w10 (w6.heap.size) A6 k6 c6 x6 := hl6.below hb10 (by omega)
  replace P13 : Bk2 w10 (w6.heap.size) (.bool m6) (.slice A6 k6 c6) := P13.below hb10 P13.lt
  replace F14 : Bk2 w10 (w6.heap.size + 1) (.int .i64 0) (.int .i64 0) := F14.below hb10 F14.lt
  clear hb10
  rw [SAME.out m6 x6 R6.out]
  clear hl6
  have hl7 : (s.size : Int) ≤ 4097 := by have := HL.out; omega
  have t_FT0 : w10.cell? ⟨w1.heap.size, 0, none⟩ = some ((.int .i64 0)) := FT.c0
  have t_FT1 : w10.cell? ⟨w1.heap.size, 1, none⟩ = some ((.int .i64 0)) := FT.c1
  go_wp2_with fail
  clear t_FT0 t_FT1
  (with_reducible refine (itx_bad _ s y hy HL.out HOK.out).mono ?_)
  rintro e w7 ⟨rfl, hb7⟩
  have sw7 := hb7.size
  replace E : Below w.heap.size w w7 := E.trans (hb7.mono E.size)
  replace HA : LRd w7 (w.heap.size) a.A a.n a.c a.xs := HA.below hb7 (by omega)
  replace PA : Bk2 w7 (w.heap.size) (.bool a.neg) (.slice a.A a.n a.c) := PA.below hb7 PA.lt
  replace FT : Bk2 w7 (w1.heap.size) (.int .i64 0) (.int .i64 0) := FT.below hb7 FT.lt
  replace PX : Bk2 w7 (w2.heap.size) (.bool false) (.slice A4 0 c4) := PX.below hb7 PX.lt
  replace FX : Bk2 w7 (w2.heap.size + 1) (.int .i64 1) (.int .i64 (-1)) := FX.below hb7 FX.lt
  replace FW : Bk2 w7 (w3.heap.size) (.int .i64 0) (.int .i64 0) := FW.below hb7 FW.lt
  replace P13 : Bk2 w7 (w6.heap.size) (.bool m6) (.slice A6 k6 c6) := P13.below hb7 P13.lt
  replace F14 : Bk2 w7 (w6.heap.size + 1) (.int .i64 0) (.int .i64 0) := F14.below hb7 F14.lt
  clear hb7
  go_wp2_with fail
  obtain ⟨V9, hV9⟩ : ∃ V9 : World, V9 = (w7.alloc (.cells #[.bool false, .slice none 0 0] 37)) := ⟨_, rfl⟩
  have bV9 : Below w7.heap.size w7 V9 := by rw [hV9]; (repeat (first | with_reducible exact Below.refl _ _ | with_reducible refine Below.drew ?_ | with_reducible refine below_drewN ?_ _ | with_reducible refine Below.setCell ?_ (by first | (simp; done) | (simp; omega) | omega) _ | with_reducible refine Below.alloc ?_ (by first | (simp; done) | (simp; omega) | omega) _))
  have zV9 : w7.heap.size + 1 ≤ V9.heap.size := by rw [hV9]; simp
  have PQ : Bk2 V9 (w7.heap.size) (.bool false) (.slice none 0 0) := by rw [hV9]; exact (Bk2.newAt _ _ (by simp) _ _ _)
  rw [← hV9]
  clear hV9
  replace E : Below w.heap.size w V9 := E.trans (bV9.mono E.size)
  replace HA : LRd V9 (w.heap.size) a.A a.n a.c a.xs := HA.below bV9 (by omega)
  replace PA : Bk2 V9 (w.heap.size) (.bool a.neg) (.slice a.A a.n a.c) := PA.below bV9 PA.lt
  replace FT : Bk2 V9 (w1.heap.size) (.int .i64 0) (.int .i64 0) := FT.below bV9 FT.lt
  replace PX : Bk2 V9 (w2.heap.size) (.bool false) (.slice A4 0 c4) := PX.below bV9 PX.lt
  replace FX : Bk2 V9 (w2.heap.size + 1) (.int .i64 1) (.int .i64 (-1)) := FX.below bV9 FX.lt
  replace FW : Bk2 V9 (w3.heap.size) (.int .i64 0) (.int .i64 0) := FW.below bV9 FW.lt
  replace P13 : Bk2 V9 (w6.heap.size) (.bool m6) (.slice A6 k6 c6) := P13.below bV9 P13.lt
  replace F14 : Bk2 V9 (w6.heap.size + 1) (.int .i64 0) (.int .i64 0) := F14.below bV9 F14.lt
  clear bV9
  clear HA
  clear PA
  clear FT
  clear FW
  clear P13
  clear F14
  clear PQ
  have sz9 := PX.lt
  have G0 : Below V9.heap.size V9 V9.drew := Below.drew (Below.refl _ _)
  have HS := Lib.hid (fun (u : World) (hu : Below V9.heap.size V9 u) => (⟨hu, (PX.below hu PX.lt).c0, (PX.below hu PX.lt).c1, (FX.below hu FX.lt).c0, (FX.below hu FX.lt).c1⟩ : Below V9.heap.size V9 u ∧ u.cell? ⟨w2.heap.size, 0, none⟩ = some (.bool false) ∧ u.cell? ⟨w2.heap.size, 1, none⟩ = some (.slice A4 0 c4) ∧ u.cell? ⟨w2.heap.size + 1, 0, none⟩ = some (.int .i64 1) ∧ u.cell? ⟨w2.heap.size + 1, 1, none⟩ = some (.int .i64 (-1))))
  go_region_held3 (fun u => Below V9.heap.size V9 u ∧ u.cell? ⟨w2.heap.size, 0, none⟩ = some (.bool false) ∧ u.cell? ⟨w2.heap.size, 1, none⟩ = some (.slice A4 0 c4) ∧ u.cell? ⟨w2.heap.size + 1, 0, none⟩ = some (.int .i64 1) ∧ u.cell? ⟨w2.heap.size + 1, 1, none⟩ = some (.int .i64 (-1))) (first | with_reducible exact HS.out _ G0 | with_reducible exact HS.out _ B2 | with_reducible exact HS.out _ B1 | fail)
    (first
      | (go_at_call 25; (with_reducible refine (at_any _ _ _).mono ?_); rintro e y1 ⟨rfl, hb1⟩; have B1 : Below V9.heap.size V9 y1 := bnext G0 hb1)
      | (go_at_call 26; (with_reducible refine (noInt_any _ false A4 0 c4 (by omega)).mono ?_); rintro e y2 ⟨rfl, hb2⟩; have B2 : Below V9.heap.size V9 y2 := bnext B1 hb2; rw [show (!false && decide (0 = 0)) = true from rfl])
      | fail)
  all_goals (go_wp2_with fail)
  all_goals go_ret
  all_goals exact ⟨by first | rfl | (simp; done), E.trans (B2.mono E.size)⟩
set_option maxHeartbeats 8000000 in
theorem txt_gv (w : World) (a : IV) (y : Nat) (s : ByteArray) (hs9 : s.size ≤ 9223372036854775807) (HA : a.at w w.heap.size) (oa : a.ok = true) (hy : 2 ≤ y ∧ y ≤ 36) (HL : Hid (s.size ≤ 4097)) (HOK : Hid (TxOk s y)) :
    Calls Try.prog 8 #[a.v, .int .i64 (y : Int), .string s] w (fun e w' => e = .returned (.bool true) ∧ Below w.heap.size w w') := by
  have hs8 : (s.size : Int) ≤ 9223372036854775807 := by omega
  replace HA : LRd w w.heap.size a.A a.n a.c a.xs := HA
  have VA : ivld a.neg a.xs = true := oa
  obtain ⟨va9, hlen9⟩ := IV.vld oa
  have hn9 : a.n ≤ 128 := by have := HA.len.out; omega
  have HF := Lib.hid (show a.val.natAbs < Top128 from by
    have h1 : Rep 4294967296 a.xs (vb 4294967296 a.xs) := ⟨HA.lim, rfl, (vld_top va9).1⟩
    show (sval a.neg (vb 4294967296 a.xs)).natAbs < _
    rw [sval_abs]
    exact lt128 h1 rfl hlen9)
  have IA := Lib.hid (IV.irep oa HA.lim)
  have SAME := Lib.hid (show ∀ m xs, IRep m xs a.val → (decide (m = a.neg) && sameB xs a.xs) = true from fun m xs h => same_irep h IA.out)
  clear va9 hlen9
  have E : Below w.heap.size w w := Below.refl _ _
  have hy1 : 2 ≤ (y : Int) := by omega
  have hy2 : (y : Int) ≤ 36 := by omega
  go_enter Try.func8, Try.ntmps8
  go_wp2_with fail
  obtain ⟨V0, hV0⟩ : ∃ V0 : World, V0 = (w.alloc (.cells #[.bool a.neg, .slice a.A a.n a.c] 24)) := ⟨_, rfl⟩
  have bV0 : Below w.heap.size w V0 := by rw [hV0]; (repeat (first | with_reducible exact Below.refl _ _ | with_reducible refine Below.drew ?_ | with_reducible refine below_drewN ?_ _ | with_reducible refine Below.setCell ?_ (by first | (simp; done) | (simp; omega) | omega) _ | with_reducible refine Below.alloc ?_ (by first | (simp; done) | (simp; omega) | omega) _))
  have zV0 : w.heap.size + 1 ≤ V0.heap.size := by rw [hV0]; simp
  have PA : Bk2 V0 (w.heap.size) (.bool a.neg) (.slice a.A a.n a.c) := by rw [hV0]; exact (Bk2.newAt _ _ (by simp) _ _ _)
  rw [← hV0]
  clear hV0
  replace E : Below w.heap.size w V0 := E.trans (bV0.mono E.size)
  replace HA : LRd V0 (w.heap.size) a.A a.n a.c a.xs := HA.below bV0 (by omega)
  clear bV0
  refine (itext_ok _ w.heap.size a y HA (by omega) oa hy).mono ?_
  rintro e w1 ⟨l, hT, rfl, hb1⟩
  have HT := Lib.hid hT
  clear hT
  have sw1 := hb1.size
  replace E : Below w.heap.size w w1 := E.trans (hb1.mono E.size)
  replace HA : LRd w1 (w.heap.size) a.A a.n a.c a.xs := HA.below hb1 (by omega)
  replace PA : Bk2 w1 (w.heap.size) (.bool a.neg) (.slice a.A a.n a.c) := PA.below hb1 PA.lt
  clear hb1
  go_wp2_with fail
  obtain ⟨V1, hV1⟩ : ∃ V1 : World, V1 = (w1.alloc (.cells #[.int .i64 0, .int .i64 0] 26)) := ⟨_, rfl⟩
  have bV1 : Below w1.heap.size w1 V1 := by rw [hV1]; (repeat (first | with_reducible exact Below.refl _ _ | with_reducible refine Below.drew ?_ | with_reducible refine below_drewN ?_ _ | with_reducible refine Below.setCell ?_ (by first | (simp; done) | (simp; omega) | omega) _ | with_reducible refine Below.alloc ?_ (by first | (simp; done) | (simp; omega) | omega) _))
  have zV1 : w1.heap.size + 1 ≤ V1.heap.size := by rw [hV1]; simp
  have FT : Bk2 V1 (w1.heap.size) (.int .i64 0) (.int .i64 0) := by rw [hV1]; exact (Bk2.newAt _ _ (by simp) _ _ _)
  rw [← hV1]
  clear hV1
  replace E : Below w.heap.size w V1 := E.trans (bV1.mono E.size)
  replace HA : LRd V1 (w.heap.size) a.A a.n a.c a.xs := HA.below bV1 (by omega)
  replace PA : Bk2 V1 (w.heap.size) (.bool a.neg) (.slice a.A a.n a.c) := PA.below bV1 PA.lt
  clear bV1
  refine (iparse_ok _ s y hy HL.out HOK.out).mono ?_
  rintro e w2 hv
  obtain ⟨z4, f4, g4, hy4, m4, A4, k4, c4, x4, rfl, hl4, hr4, hb4⟩ := vl_yr hv
  clear hv
  have R4 := Lib.hid hr4
  have Y4 := Lib.hid hy4
  have sw2 := hb4.size
  clear hr4 hy4
  replace E : Below w.heap.size w w2 := E.trans (hb4.mono E.size)
  replace HA : LRd w2 (w.heap.size) a.A a.n a.c a.xs := HA.below hb4 (by omega)
  replace PA : Bk2 w2 (w.heap.size) (.bool a.neg) (.slice a.A a.n a.c) := PA.below hb4 PA.lt
  replace FT : Bk2 w2 (w1.heap.size) (.int .i64 0) (.int .i64 0) := FT.below hb4 FT.lt
  clear hb4
  go_wp2_with fail
  obtain ⟨V2, hV2⟩ : ∃ V2 : World, V2 = ((w2.alloc (.cells #[.bool m4, .slice A4 k4 c4] 24)).alloc (.cells #[.int .i64 f4, .int .i64 g4] 26)) := ⟨_, rfl⟩
  have bV2 : Below w2.heap.size w2 V2 := by rw [hV2]; (repeat (first | with_reducible exact Below.refl _ _ | with_reducible refine Below.drew ?_ | with_reducible refine below_drewN ?_ _ | with_reducible refine Below.setCell ?_ (by first | (simp; done) | (simp; omega) | omega) _ | with_reducible refine Below.alloc ?_ (by first | (simp; done) | (simp; omega) | omega) _))
  have zV2 : w2.heap.size + 2 ≤ V2.heap.size := by rw [hV2]; simp
  have PX : Bk2 V2 (w2.heap.size) (.bool m4) (.slice A4 k4 c4) := by rw [hV2]; exact ((Bk2.newAt _ _ (by simp) _ _ _).alloc _)
  have FX : Bk2 V2 (w2.heap.size + 1) (.int .i64 f4) (.int .i64 g4) := by rw [hV2]; exact (Bk2.newAt _ _ (by simp) _ _ _)
  rw [← hV2]
  clear hV2
  replace E : Below w.heap.size w V2 := E.trans (bV2.mono E.size)
  replace HA : LRd V2 (w.heap.size) a.A a.n a.c a.xs := HA.below bV2 (by omega)
  replace PA : Bk2 V2 (w.heap.size) (.bool a.neg) (.slice a.A a.n a.c) := PA.below bV2 PA.lt
  replace FT : Bk2 V2 (w1.heap.size) (.int .i64 0) (.int .i64 0) := FT.below bV2 FT.lt
  replace hl4 : LRd V2 (w2.heap.size) A4 k4 c4 x4 := hl4.below bV2 (by omega)
  clear bV2
  (with_reducible refine (counts_any _).mono ?_)
  rintro e w3 ⟨rfl, hb3⟩
  have sw3 := hb3.size
  replace E : Below w.heap.size w w3 := E.trans (hb3.mono E.size)
  replace HA : LRd w3 (w.heap.size) a.A a.n a.c a.xs := HA.below hb3 (by omega)
  replace PA : Bk2 w3 (w.heap.size) (.bool a.neg) (.slice a.A a.n a.c) := PA.below hb3 PA.lt
  replace FT : Bk2 w3 (w1.heap.size) (.int .i64 0) (.int .i64 0) := FT.below hb3 FT.lt
  replace hl4 : LRd w3 (w2.heap.size) A4 k4 c4 x4 := hl4.below hb3 (by omega)
  replace PX : Bk2 w3 (w2.heap.size) (.bool m4) (.slice A4 k4 c4) := PX.below hb3 PX.lt
  replace FX : Bk2 w3 (w2.heap.size + 1) (.int .i64 f4) (.int .i64 g4) := FX.below hb3 FX.lt
  clear hb3
  have t_PA0 : (w3.alloc (.cells #[.int .i64 0, .int .i64 0] 26)).cell? ⟨w.heap.size, 0, none⟩ = some ((.bool a.neg)) := (PA.alloc _).c0
  have t_PA1 : (w3.alloc (.cells #[.int .i64 0, .int .i64 0] 26)).cell? ⟨w.heap.size, 1, none⟩ = some ((.slice a.A a.n a.c)) := (PA.alloc _).c1
  go_wp2_with fail
  clear t_PA0 t_PA1
  obtain ⟨V3, hV3⟩ : ∃ V3 : World, V3 = (w3.alloc (.cells #[.int .i64 0, .int .i64 0] 26)) := ⟨_, rfl⟩
  have bV3 : Below w3.heap.size w3 V3 := by rw [hV3]; (repeat (first | with_reducible exact Below.refl _ _ | with_reducible refine Below.drew ?_ | with_reducible refine below_drewN ?_ _ | with_reducible refine Below.setCell ?_ (by first | (simp; done) | (simp; omega) | omega) _ | with_reducible refine Below.alloc ?_ (by first | (simp; done) | (simp; omega) | omega) _))
  have zV3 : w3.heap.size + 1 ≤ V3.heap.size := by rw [hV3]; simp
  have FW : Bk2 V3 (w3.heap.size) (.int .i64 0) (.int .i64 0) := by rw [hV3]; exact (Bk2.newAt _ _ (by simp) _ _ _)
  rw [← hV3]
  clear hV3
  replace E : Below w.heap.size w V3 := E.trans (bV3.mono E.size)
  replace HA : LRd V3 (w.heap.size) a.A a.n a.c a.xs := HA.below bV3 (by omega)
  replace PA : Bk2 V3 (w.heap.size) (.bool a.neg) (.slice a.A a.n a.c) := PA.below bV3 PA.lt
  replace FT : Bk2 V3 (w1.heap.size) (.int .i64 0) (.int .i64 0) := FT.below bV3 FT.lt
  replace hl4 : LRd V3 (w2.heap.size) A4 k4 c4 x4 := hl4.below bV3 (by omega)
  replace PX : Bk2 V3 (w2.heap.size) (.bool m4) (.slice A4 k4 c4) := PX.below bV3 PX.lt
  replace FX : Bk2 V3 (w2.heap.size + 1) (.int .i64 f4) (.int .i64 g4) := FX.below bV3 FX.lt
  clear bV3
  (with_reducible refine (intOk_any _ w.heap.size a.neg a.A a.n a.c a.xs HA (by omega)).mono ?_)
  rintro e w5 ⟨rfl, hb5⟩
  have sw5 := hb5.size
  replace E : Below w.heap.size w w5 := E.trans (hb5.mono E.size)
  replace HA : LRd w5 (w.heap.size) a.A a.n a.c a.xs := HA.below hb5 (by omega)
  replace PA : Bk2 w5 (w.heap.size) (.bool a.neg) (.slice a.A a.n a.c) := PA.below hb5 PA.lt
  replace FT : Bk2 w5 (w1.heap.size) (.int .i64 0) (.int .i64 0) := FT.below hb5 FT.lt
  replace hl4 : LRd w5 (w2.heap.size) A4 k4 c4 x4 := hl4.below hb5 (by omega)
  replace PX : Bk2 w5 (w2.heap.size) (.bool m4) (.slice A4 k4 c4) := PX.below hb5 PX.lt
  replace FX : Bk2 w5 (w2.heap.size + 1) (.int .i64 f4) (.int .i64 g4) := FX.below hb5 FX.lt
  replace FW : Bk2 w5 (w3.heap.size) (.int .i64 0) (.int .i64 0) := FW.below hb5 FW.lt
  clear hb5
  rw [VA]
  have t_FT0 : w5.cell? ⟨w1.heap.size, 0, none⟩ = some ((.int .i64 0)) := FT.c0
  have t_FT1 : w5.cell? ⟨w1.heap.size, 1, none⟩ = some ((.int .i64 0)) := FT.c1
  have t_FW0 : w5.cell? ⟨w3.heap.size, 0, none⟩ = some ((.int .i64 0)) := FW.c0
  have t_FW1 : w5.cell? ⟨w3.heap.size, 1, none⟩ = some ((.int .i64 0)) := FW.c1
  go_wp2_with fail
  clear t_FT0 t_FT1 t_FW0 t_FW1
  have hfit : (TxVal ⟨l.toArray⟩ y).natAbs < Top128 ∧ TxVal ⟨l.toArray⟩ y = a.val ∧ TxOk ⟨l.toArray⟩ y := by
    obtain ⟨h1, h2⟩ := text_back hy HT.out
    exact ⟨by rw [h2]; exact HF.out, h2, h1⟩
  have hll : (⟨l.toArray⟩ : ByteArray).size ≤ 4097 := text_len hy.1 HT.out HF.out
  have HX := Lib.hid hfit
  have HLL := Lib.hid hll
  clear hfit hll
  refine (iparse_ok _ ⟨l.toArray⟩ y hy HLL.out HX.out.2.2).mono ?_
  rintro e w6 (⟨_, m6, A6, k6, c6, x6, rfl, hl6, hr6, hb6⟩ | ⟨h1, _⟩)
  rotate_left
  · exact absurd HX.out.1 (by omega)
  rw [HX.out.2.1] at hr6
  have R6 := Lib.hid hr6
  clear hr6
  have sw6 := hb6.size
  replace E : Below w.heap.size w w6 := E.trans (hb6.mono E.size)
  replace HA : LRd w6 (w.heap.size) a.A a.n a.c a.xs := HA.below hb6 (by omega)
  replace PA : Bk2 w6 (w.heap.size) (.bool a.neg) (.slice a.A a.n a.c) := PA.below hb6 PA.lt
  replace FT : Bk2 w6 (w1.heap.size) (.int .i64 0) (.int .i64 0) := FT.below hb6 FT.lt
  replace hl4 : LRd w6 (w2.heap.size) A4 k4 c4 x4 := hl4.below hb6 (by omega)
  replace PX : Bk2 w6 (w2.heap.size) (.bool m4) (.slice A4 k4 c4) := PX.below hb6 PX.lt
  replace FX : Bk2 w6 (w2.heap.size + 1) (.int .i64 f4) (.int .i64 g4) := FX.below hb6 FX.lt
  replace FW : Bk2 w6 (w3.heap.size) (.int .i64 0) (.int .i64 0) := FW.below hb6 FW.lt
  clear hb6
  have t_PA0 : ((w6.alloc (.cells #[.bool m6, .slice A6 k6 c6] 24)).alloc (.cells #[.int .i64 0, .int .i64 0] 26)).cell? ⟨w.heap.size, 0, none⟩ = some ((.bool a.neg)) := ((PA.alloc _).alloc _).c0
  have t_PA1 : ((w6.alloc (.cells #[.bool m6, .slice A6 k6 c6] 24)).alloc (.cells #[.int .i64 0, .int .i64 0] 26)).cell? ⟨w.heap.size, 1, none⟩ = some ((.slice a.A a.n a.c)) := ((PA.alloc _).alloc _).c1
  go_wp2_with fail
  clear t_PA0 t_PA1
  obtain ⟨V5, hV5⟩ : ∃ V5 : World, V5 = ((w6.alloc (.cells #[.bool m6, .slice A6 k6 c6] 24)).alloc (.cells #[.int .i64 0, .int .i64 0] 26)) := ⟨_, rfl⟩
  have bV5 : Below w6.heap.size w6 V5 := by rw [hV5]; (repeat (first | with_reducible exact Below.refl _ _ | with_reducible refine Below.drew ?_ | with_reducible refine below_drewN ?_ _ | with_reducible refine Below.setCell ?_ (by first | (simp; done) | (simp; omega) | omega) _ | with_reducible refine Below.alloc ?_ (by first | (simp; done) | (simp; omega) | omega) _))
  have zV5 : w6.heap.size + 2 ≤ V5.heap.size := by rw [hV5]; simp
  have P13 : Bk2 V5 (w6.heap.size) (.bool m6) (.slice A6 k6 c6) := by rw [hV5]; exact ((Bk2.newAt _ _ (by simp) _ _ _).alloc _)
  have F14 : Bk2 V5 (w6.heap.size + 1) (.int .i64 0) (.int .i64 0) := by rw [hV5]; exact (Bk2.newAt _ _ (by simp) _ _ _)
  rw [← hV5]
  clear hV5
  replace E : Below w.heap.size w V5 := E.trans (bV5.mono E.size)
  replace HA : LRd V5 (w.heap.size) a.A a.n a.c a.xs := HA.below bV5 (by omega)
  replace PA : Bk2 V5 (w.heap.size) (.bool a.neg) (.slice a.A a.n a.c) := PA.below bV5 PA.lt
  replace FT : Bk2 V5 (w1.heap.size) (.int .i64 0) (.int .i64 0) := FT.below bV5 FT.lt
  replace hl4 : LRd V5 (w2.heap.size) A4 k4 c4 x4 := hl4.below bV5 (by omega)
  replace PX : Bk2 V5 (w2.heap.size) (.bool m4) (.slice A4 k4 c4) := PX.below bV5 PX.lt
  replace FX : Bk2 V5 (w2.heap.size + 1) (.int .i64 f4) (.int .i64 g4) := FX.below bV5 FX.lt
  replace FW : Bk2 V5 (w3.heap.size) (.int .i64 0) (.int .i64 0) := FW.below bV5 FW.lt
  replace hl6 : LRd V5 (w6.heap.size) A6 k6 c6 x6 := hl6.below bV5 (by omega)
  clear bV5
  (with_reducible refine (intOf_any _ w.heap.size a.neg a.A a.n a.c a.xs HA (by omega) (by omega)).mono ?_)
  rintro e w17 ⟨m7, A7, k7, c7, x7, v7, rfl, hd7, hr7, hv7, hb7⟩
  have sw17 := hb7.size
  replace E : Below w.heap.size w w17 := E.trans (hb7.mono E.size)
  replace HA : LRd w17 (w.heap.size) a.A a.n a.c a.xs := HA.below hb7 (by omega)
  replace PA : Bk2 w17 (w.heap.size) (.bool a.neg) (.slice a.A a.n a.c) := PA.below hb7 PA.lt
  replace FT : Bk2 w17 (w1.heap.size) (.int .i64 0) (.int .i64 0) := FT.below hb7 FT.lt
  replace hl4 : LRd w17 (w2.heap.size) A4 k4 c4 x4 := hl4.below hb7 (by omega)
  replace PX : Bk2 w17 (w2.heap.size) (.bool m4) (.slice A4 k4 c4) := PX.below hb7 PX.lt
  replace FX : Bk2 w17 (w2.heap.size + 1) (.int .i64 f4) (.int .i64 g4) := FX.below hb7 FX.lt
  replace FW : Bk2 w17 (w3.heap.size) (.int .i64 0) (.int .i64 0) := FW.below hb7 FW.lt
  replace hl6 : LRd w17 (w6.heap.size) A6 k6 c6 x6 := hl6.below hb7 (by omega)
  replace P13 : Bk2 w17 (w6.heap.size) (.bool m6) (.slice A6 k6 c6) := P13.below hb7 P13.lt
  replace F14 : Bk2 w17 (w6.heap.size + 1) (.int .i64 0) (.int .i64 0) := F14.below hb7 F14.lt
  clear hb7
  have R7 := Lib.hid hr7
  have V7 := Lib.hid (show sval m7 v7 = a.val from hv7)
  clear hr7 hv7
  have hvt : v7 < Top128 := by have h1 := HF.out; rw [← V7.out, sval_abs] at h1; exact h1
  have VT := Lib.hid hvt
  have hk7 : k7 ≤ 100000 := len512 R7.out hd7.len.out (top_sq (by omega))
  clear hvt
  go_wp2_with fail
  (with_reducible refine (textOf_any _ w17.heap.size m7 A7 k7 c7 y v7 x7 hd7 (by omega) hk7 R7.out hy VT.out).mono ?_)
  rintro e w8 ⟨l8, hT8, rfl, hb8⟩
  have sw8 := hb8.size
  replace E : Below w.heap.size w w8 := E.trans (hb8.mono E.size)
  replace HA : LRd w8 (w.heap.size) a.A a.n a.c a.xs := HA.below hb8 (by omega)
  replace PA : Bk2 w8 (w.heap.size) (.bool a.neg) (.slice a.A a.n a.c) := PA.below hb8 PA.lt
  replace FT : Bk2 w8 (w1.heap.size) (.int .i64 0) (.int .i64 0) := FT.below hb8 FT.lt
  replace hl4 : LRd w8 (w2.heap.size) A4 k4 c4 x4 := hl4.below hb8 (by omega)
  replace PX : Bk2 w8 (w2.heap.size) (.bool m4) (.slice A4 k4 c4) := PX.below hb8 PX.lt
  replace FX : Bk2 w8 (w2.heap.size + 1) (.int .i64 f4) (.int .i64 g4) := FX.below hb8 FX.lt
  replace FW : Bk2 w8 (w3.heap.size) (.int .i64 0) (.int .i64 0) := FW.below hb8 FW.lt
  replace hl6 : LRd w8 (w6.heap.size) A6 k6 c6 x6 := hl6.below hb8 (by omega)
  replace P13 : Bk2 w8 (w6.heap.size) (.bool m6) (.slice A6 k6 c6) := P13.below hb8 P13.lt
  replace F14 : Bk2 w8 (w6.heap.size + 1) (.int .i64 0) (.int .i64 0) := F14.below hb8 F14.lt
  replace hd7 : DRd w8 (w17.heap.size) A7 k7 c7 x7 := hd7.below hb8 (by omega)
  clear hb8
  rw [V7.out] at hT8
  obtain rfl : l8 = l := TextIs.uniq (by omega) hT8 HT.out
  clear hT8
  clear hd7
  have t_F140 : w8.cell? ⟨w6.heap.size + 1, 0, none⟩ = some ((.int .i64 0)) := F14.c0
  have t_F141 : w8.cell? ⟨w6.heap.size + 1, 1, none⟩ = some ((.int .i64 0)) := F14.c1
  have t_P130 : w8.cell? ⟨w6.heap.size, 0, none⟩ = some ((.bool m6)) := P13.c0
  have t_P131 : w8.cell? ⟨w6.heap.size, 1, none⟩ = some ((.slice A6 k6 c6)) := P13.c1
  have t_PA0 : w8.cell? ⟨w.heap.size, 0, none⟩ = some ((.bool a.neg)) := PA.c0
  have t_PA1 : w8.cell? ⟨w.heap.size, 1, none⟩ = some ((.slice a.A a.n a.c)) := PA.c1
  go_wp2_with fail
  clear t_F140 t_F141 t_P130 t_P131 t_PA0 t_PA1
  (with_reducible refine (sameInts_any _ w8.heap.size m6 a.neg A6 a.A k6 a.n c6 a.c x6 a.xs (hl6.more (by omega)) (HA.more (by omega)) (Nat.le_refl _)).mono ?_)
  rintro e w10 ⟨rfl, hb10⟩
  have sw10 := hb10.size
  replace E : Below w.heap.size w w10 := E.trans (hb10.mono E.size)
  replace HA : LRd w10 (w.heap.size) a.A a.n a.c a.xs := HA.below hb10 (by omega)
  replace PA : Bk2 w10 (w.heap.size) (.bool a.neg) (.slice a.A a.n a.c) := PA.below hb10 PA.lt
  replace FT : Bk2 w10 (w1.heap.size) (.int .i64 0) (.int .i64 0) := FT.below hb10 FT.lt
  replace hl4 : LRd w10 (w2.heap.size) A4 k4 c4 x4 := hl4.below hb10 (by omega)
  replace PX : Bk2 w10 (w2.heap.size) (.bool m4) (.slice A4 k4 c4) := PX.below hb10 PX.lt
  replace FX : Bk2 w10 (w2.heap.size + 1) (.int .i64 f4) (.int .i64 g4) := FX.below hb10 FX.lt
  replace FW : Bk2 w10 (w3.heap.size) (.int .i64 0) (.int .i64 0) := FW.below hb10 FW.lt
  replace hl6 : LRd w10 (w6.heap.size) A6 k6 c6 x6 := hl6.below hb10 (by omega)
  replace P13 : Bk2 w10 (w6.heap.size) (.bool m6) (.slice A6 k6 c6) := P13.below hb10 P13.lt
  replace F14 : Bk2 w10 (w6.heap.size + 1) (.int .i64 0) (.int .i64 0) := F14.below hb10 F14.lt
  clear hb10
  rw [SAME.out m6 x6 R6.out]
  clear hl6
  have hl7 : (s.size : Int) ≤ 4097 := by have := HL.out; omega
  have t_FT0 : w10.cell? ⟨w1.heap.size, 0, none⟩ = some ((.int .i64 0)) := FT.c0
  have t_FT1 : w10.cell? ⟨w1.heap.size, 1, none⟩ = some ((.int .i64 0)) := FT.c1
  go_wp2_with fail
  clear t_FT0 t_FT1
  (with_reducible refine (itx_ok _ s y hy HL.out HOK.out).mono ?_)
  rintro e w7 ⟨A5, k5, c5, x5, v5, rfl, hd5, hr5, hv5, hb7⟩
  have sw7 := hb7.size
  replace E : Below w.heap.size w w7 := E.trans (hb7.mono E.size)
  replace HA : LRd w7 (w.heap.size) a.A a.n a.c a.xs := HA.below hb7 (by omega)
  replace PA : Bk2 w7 (w.heap.size) (.bool a.neg) (.slice a.A a.n a.c) := PA.below hb7 PA.lt
  replace FT : Bk2 w7 (w1.heap.size) (.int .i64 0) (.int .i64 0) := FT.below hb7 FT.lt
  replace hl4 : LRd w7 (w2.heap.size) A4 k4 c4 x4 := hl4.below hb7 (by omega)
  replace PX : Bk2 w7 (w2.heap.size) (.bool m4) (.slice A4 k4 c4) := PX.below hb7 PX.lt
  replace FX : Bk2 w7 (w2.heap.size + 1) (.int .i64 f4) (.int .i64 g4) := FX.below hb7 FX.lt
  replace FW : Bk2 w7 (w3.heap.size) (.int .i64 0) (.int .i64 0) := FW.below hb7 FW.lt
  replace P13 : Bk2 w7 (w6.heap.size) (.bool m6) (.slice A6 k6 c6) := P13.below hb7 P13.lt
  replace F14 : Bk2 w7 (w6.heap.size + 1) (.int .i64 0) (.int .i64 0) := F14.below hb7 F14.lt
  clear hb7
  have R5 := Lib.hid hr5
  have V5 := Lib.hid hv5
  clear hr5 hv5
  have t_PX0 : (w7.alloc (.cells #[.bool (TxNeg s), .slice A5 k5 c5] 37)).cell? ⟨w2.heap.size, 0, none⟩ = some ((.bool m4)) := (PX.alloc _).c0
  have t_PX1 : (w7.alloc (.cells #[.bool (TxNeg s), .slice A5 k5 c5] 37)).cell? ⟨w2.heap.size, 1, none⟩ = some ((.slice A4 k4 c4)) := (PX.alloc _).c1
  have t_FX0 : (w7.alloc (.cells #[.bool (TxNeg s), .slice A5 k5 c5] 37)).cell? ⟨w2.heap.size + 1, 0, none⟩ = some ((.int .i64 f4)) := (FX.alloc _).c0
  have t_FX1 : (w7.alloc (.cells #[.bool (TxNeg s), .slice A5 k5 c5] 37)).cell? ⟨w2.heap.size + 1, 1, none⟩ = some ((.int .i64 g4)) := (FX.alloc _).c1
  go_wp2_with fail
  clear t_PX0 t_PX1 t_FX0 t_FX1
  obtain ⟨V9, hV9⟩ : ∃ V9 : World, V9 = (w7.alloc (.cells #[.bool (TxNeg s), .slice A5 k5 c5] 37)) := ⟨_, rfl⟩
  have bV9 : Below w7.heap.size w7 V9 := by rw [hV9]; (repeat (first | with_reducible exact Below.refl _ _ | with_reducible refine Below.drew ?_ | with_reducible refine below_drewN ?_ _ | with_reducible refine Below.setCell ?_ (by first | (simp; done) | (simp; omega) | omega) _ | with_reducible refine Below.alloc ?_ (by first | (simp; done) | (simp; omega) | omega) _))
  have zV9 : w7.heap.size + 1 ≤ V9.heap.size := by rw [hV9]; simp
  have PQ : Bk2 V9 (w7.heap.size) (.bool (TxNeg s)) (.slice A5 k5 c5) := by rw [hV9]; exact (Bk2.newAt _ _ (by simp) _ _ _)
  rw [← hV9]
  clear hV9
  replace E : Below w.heap.size w V9 := E.trans (bV9.mono E.size)
  replace HA : LRd V9 (w.heap.size) a.A a.n a.c a.xs := HA.below bV9 (by omega)
  replace PA : Bk2 V9 (w.heap.size) (.bool a.neg) (.slice a.A a.n a.c) := PA.below bV9 PA.lt
  replace FT : Bk2 V9 (w1.heap.size) (.int .i64 0) (.int .i64 0) := FT.below bV9 FT.lt
  replace hl4 : LRd V9 (w2.heap.size) A4 k4 c4 x4 := hl4.below bV9 (by omega)
  replace PX : Bk2 V9 (w2.heap.size) (.bool m4) (.slice A4 k4 c4) := PX.below bV9 PX.lt
  replace FX : Bk2 V9 (w2.heap.size + 1) (.int .i64 f4) (.int .i64 g4) := FX.below bV9 FX.lt
  replace FW : Bk2 V9 (w3.heap.size) (.int .i64 0) (.int .i64 0) := FW.below bV9 FW.lt
  replace P13 : Bk2 V9 (w6.heap.size) (.bool m6) (.slice A6 k6 c6) := P13.below bV9 P13.lt
  replace F14 : Bk2 V9 (w6.heap.size + 1) (.int .i64 0) (.int .i64 0) := F14.below bV9 F14.lt
  replace hd5 : DRd V9 (w7.heap.size) A5 k5 c5 x5 := hd5.below bV9 (by omega)
  clear bV9
  have hk5 : k5 ≤ 100000 := by
    have h2 := txv_lt hy HOK.out
    rw [← V5.out, sval_abs] at h2
    have h1 := R5.out.length_le (by decide) h2
    rw [hd5.len.out] at h1
    have := HL.out
    omega
  refine (yields_any _ V9.heap.size (IV.mk m4 A4 k4 c4 x4) (TxNeg s) A5 k5 c5 v5 x5 (TxVal s y) z4 f4 g4 (hl4.more (by omega)) (hd5.more (by omega)) (Nat.le_refl _) Y4.out R4.out R5.out V5.out hk5).mono ?_
  rintro e w9 ⟨rfl, hb9⟩
  have E9 := E.trans (hb9.mono E.size)
  go_wp2_with fail
  go_ret
  exact ⟨by first | rfl | (simp; done), E9⟩
end Go.Proofs.Ytpjfoggohhlbdaa
