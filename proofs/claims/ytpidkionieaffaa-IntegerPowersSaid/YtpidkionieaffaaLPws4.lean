/- IntegerPowers: the law, where the rest of the power is refused (zero). -/
import Derived.Test.YtpidkionieaffaaLPws0
import Derived.Test.YtpidkionieaffaaLPow6
import Derived.Test.YtpidkionieaffaaLRng1
import Derived.Deep.Cut
import Derived.Deep.CutRange
import Derived.Deep.DeepCutAuto
import Derived.Deep.CutBlock
namespace Go.Proofs.Ytpidkionieaffaa
open Go.RowKit
set_option maxHeartbeats 400000
set_option maxRecDepth 100000
set_option linter.unusedSimpArgs false
set_option linter.unusedVariables false

set_option maxHeartbeats 16000000 in
theorem pws_zero (w : World) (a b c : IV) (i : Int) (i1 : -9223372036854775808 ≤ i) (i2 : i ≤ 9223372036854775807) (HA : a.at w w.heap.size) (HB : b.at w w.heap.size) (HC : c.at w w.heap.size) (oa : a.ok = true) (ob : b.ok = true) (oc : c.ok = true) (hb : Hid (b.neg = false)) (hc : Hid (c.neg = false)) (h0 : Hid (c.n = 0)) :
    Calls Try.prog 6 #[a.v, .int .i64 i, b.v, c.v] w (fun e w' => e = .returned (.bool true) ∧ Below w.heap.size w w') := by
  replace HA : LRd w w.heap.size a.A a.n a.c a.xs := HA
  replace HB : LRd w w.heap.size b.A b.n b.c b.xs := HB
  replace HC : LRd w w.heap.size c.A c.n c.c c.xs := HC
  have hf : ffault [a, b, c] 0 = (0, 0) := three_ok oa ob oc
  have E : Below w.heap.size w w := Below.refl _ _
  go_enter Try.func6, Try.ntmps6
  go_wp2_with fail
  obtain ⟨V0, hV0⟩ : ∃ V0 : World, V0 = (((w.alloc (.cells #[.bool a.neg, .slice a.A a.n a.c] 24)).alloc (.cells #[.bool b.neg, .slice b.A b.n b.c] 24)).alloc (.cells #[.bool c.neg, .slice c.A c.n c.c] 24)) := ⟨_, rfl⟩
  have bV0 : Below w.heap.size w V0 := by rw [hV0]; (repeat (first | with_reducible exact Below.refl _ _ | with_reducible refine Below.drew ?_ | with_reducible refine below_drewN ?_ _ | with_reducible refine Below.setCell ?_ (by first | (simp; done) | (simp; omega) | omega) _ | with_reducible refine Below.alloc ?_ (by first | (simp; done) | (simp; omega) | omega) _))
  have zV0 : w.heap.size + 3 ≤ V0.heap.size := by rw [hV0]; simp
  have PA : Bk2 V0 (w.heap.size) (.bool a.neg) (.slice a.A a.n a.c) := by rw [hV0]; exact (((Bk2.newAt _ _ (by simp) _ _ _).alloc _).alloc _)
  have PB : Bk2 V0 (w.heap.size + 1) (.bool b.neg) (.slice b.A b.n b.c) := by rw [hV0]; exact ((Bk2.newAt _ _ (by simp) _ _ _).alloc _)
  have PC : Bk2 V0 (w.heap.size + 2) (.bool c.neg) (.slice c.A c.n c.c) := by rw [hV0]; exact (Bk2.newAt _ _ (by simp) _ _ _)
  rw [← hV0]
  clear hV0
  replace E : Below w.heap.size w V0 := E.trans (bV0.mono E.size)
  replace HA : LRd V0 (w.heap.size) a.A a.n a.c a.xs := HA.below bV0 (by omega)
  replace HB : LRd V0 (w.heap.size) b.A b.n b.c b.xs := HB.below bV0 (by omega)
  replace HC : LRd V0 (w.heap.size) c.A c.n c.c c.xs := HC.below bV0 (by omega)
  clear bV0
  refine (ipow_any _ w.heap.size a i HA (by omega)).mono ?_
  rintro e w9 ⟨z9, g1, g2, hpw, n9, A9, k9, c9, x9, rfl, hl9, hr9, hb9⟩
  have PW := Lib.hid hpw
  have I9 := Lib.hid hr9
  clear hpw hr9
  have sw9 := hb9.size
  replace E : Below w.heap.size w w9 := E.trans (hb9.mono E.size)
  replace HA : LRd w9 (w.heap.size) a.A a.n a.c a.xs := HA.below hb9 (by omega)
  replace HB : LRd w9 (w.heap.size) b.A b.n b.c b.xs := HB.below hb9 (by omega)
  replace HC : LRd w9 (w.heap.size) c.A c.n c.c c.xs := HC.below hb9 (by omega)
  replace PA : Bk2 w9 (w.heap.size) (.bool a.neg) (.slice a.A a.n a.c) := PA.below hb9 PA.lt
  replace PB : Bk2 w9 (w.heap.size + 1) (.bool b.neg) (.slice b.A b.n b.c) := PB.below hb9 PB.lt
  replace PC : Bk2 w9 (w.heap.size + 2) (.bool c.neg) (.slice c.A c.n c.c) := PC.below hb9 PC.lt
  clear hb9
  have t_PA0 : ((w9.alloc (.cells #[.bool n9, .slice A9 k9 c9] 24)).alloc (.cells #[.int .i64 g1, .int .i64 g2] 26)).cell? ⟨w.heap.size, 0, none⟩ = some ((.bool a.neg)) := ((PA.alloc _).alloc _).c0
  have t_PA1 : ((w9.alloc (.cells #[.bool n9, .slice A9 k9 c9] 24)).alloc (.cells #[.int .i64 g1, .int .i64 g2] 26)).cell? ⟨w.heap.size, 1, none⟩ = some ((.slice a.A a.n a.c)) := ((PA.alloc _).alloc _).c1
  have t_PB0 : ((w9.alloc (.cells #[.bool n9, .slice A9 k9 c9] 24)).alloc (.cells #[.int .i64 g1, .int .i64 g2] 26)).cell? ⟨w.heap.size + 1, 0, none⟩ = some ((.bool b.neg)) := ((PB.alloc _).alloc _).c0
  have t_PB1 : ((w9.alloc (.cells #[.bool n9, .slice A9 k9 c9] 24)).alloc (.cells #[.int .i64 g1, .int .i64 g2] 26)).cell? ⟨w.heap.size + 1, 1, none⟩ = some ((.slice b.A b.n b.c)) := ((PB.alloc _).alloc _).c1
  have t_PC0 : ((w9.alloc (.cells #[.bool n9, .slice A9 k9 c9] 24)).alloc (.cells #[.int .i64 g1, .int .i64 g2] 26)).cell? ⟨w.heap.size + 2, 0, none⟩ = some ((.bool c.neg)) := ((PC.alloc _).alloc _).c0
  have t_PC1 : ((w9.alloc (.cells #[.bool n9, .slice A9 k9 c9] 24)).alloc (.cells #[.int .i64 g1, .int .i64 g2] 26)).cell? ⟨w.heap.size + 2, 1, none⟩ = some ((.slice c.A c.n c.c)) := ((PC.alloc _).alloc _).c1
  go_wp2_with fail
  clear t_PA0 t_PA1 t_PB0 t_PB1 t_PC0 t_PC1
  obtain ⟨V1, hV1⟩ : ∃ V1 : World, V1 = ((w9.alloc (.cells #[.bool n9, .slice A9 k9 c9] 24)).alloc (.cells #[.int .i64 g1, .int .i64 g2] 26)) := ⟨_, rfl⟩
  have bV1 : Below w9.heap.size w9 V1 := by rw [hV1]; (repeat (first | with_reducible exact Below.refl _ _ | with_reducible refine Below.drew ?_ | with_reducible refine below_drewN ?_ _ | with_reducible refine Below.setCell ?_ (by first | (simp; done) | (simp; omega) | omega) _ | with_reducible refine Below.alloc ?_ (by first | (simp; done) | (simp; omega) | omega) _))
  have zV1 : w9.heap.size + 2 ≤ V1.heap.size := by rw [hV1]; simp
  have P9 : Bk2 V1 (w9.heap.size) (.bool n9) (.slice A9 k9 c9) := by rw [hV1]; exact ((Bk2.newAt _ _ (by simp) _ _ _).alloc _)
  have F10 : Bk2 V1 (w9.heap.size + 1) (.int .i64 g1) (.int .i64 g2) := by rw [hV1]; exact (Bk2.newAt _ _ (by simp) _ _ _)
  rw [← hV1]
  clear hV1
  replace E : Below w.heap.size w V1 := E.trans (bV1.mono E.size)
  replace HA : LRd V1 (w.heap.size) a.A a.n a.c a.xs := HA.below bV1 (by omega)
  replace HB : LRd V1 (w.heap.size) b.A b.n b.c b.xs := HB.below bV1 (by omega)
  replace HC : LRd V1 (w.heap.size) c.A c.n c.c c.xs := HC.below bV1 (by omega)
  replace PA : Bk2 V1 (w.heap.size) (.bool a.neg) (.slice a.A a.n a.c) := PA.below bV1 PA.lt
  replace PB : Bk2 V1 (w.heap.size + 1) (.bool b.neg) (.slice b.A b.n b.c) := PB.below bV1 PB.lt
  replace PC : Bk2 V1 (w.heap.size + 2) (.bool c.neg) (.slice c.A c.n c.c) := PC.below bV1 PC.lt
  replace hl9 : LRd V1 (w9.heap.size) A9 k9 c9 x9 := hl9.below bV1 (by omega)
  clear bV1
  refine (ipm_zero _ w.heap.size a b c HA HB HC (by omega) oa ob oc hb hc h0).mono ?_
  rintro e w11 ⟨n11, A11, k11, c11, x11, rfl, hl11, hr11, hb11⟩
  have I11 := Lib.hid hr11
  clear hr11
  have sw11 := hb11.size
  replace E : Below w.heap.size w w11 := E.trans (hb11.mono E.size)
  replace HA : LRd w11 (w.heap.size) a.A a.n a.c a.xs := HA.below hb11 (by omega)
  replace HB : LRd w11 (w.heap.size) b.A b.n b.c b.xs := HB.below hb11 (by omega)
  replace HC : LRd w11 (w.heap.size) c.A c.n c.c c.xs := HC.below hb11 (by omega)
  replace PA : Bk2 w11 (w.heap.size) (.bool a.neg) (.slice a.A a.n a.c) := PA.below hb11 PA.lt
  replace PB : Bk2 w11 (w.heap.size + 1) (.bool b.neg) (.slice b.A b.n b.c) := PB.below hb11 PB.lt
  replace PC : Bk2 w11 (w.heap.size + 2) (.bool c.neg) (.slice c.A c.n c.c) := PC.below hb11 PC.lt
  replace hl9 : LRd w11 (w9.heap.size) A9 k9 c9 x9 := hl9.below hb11 (by omega)
  replace P9 : Bk2 w11 (w9.heap.size) (.bool n9) (.slice A9 k9 c9) := P9.below hb11 P9.lt
  replace F10 : Bk2 w11 (w9.heap.size + 1) (.int .i64 g1) (.int .i64 g2) := F10.below hb11 F10.lt
  clear hb11
  go_wp2_with fail
  obtain ⟨V2, hV2⟩ : ∃ V2 : World, V2 = ((w11.alloc (.cells #[.bool n11, .slice A11 k11 c11] 24)).alloc (.cells #[.int .i64 22, .int .i64 (-3)] 26)) := ⟨_, rfl⟩
  have bV2 : Below w11.heap.size w11 V2 := by rw [hV2]; (repeat (first | with_reducible exact Below.refl _ _ | with_reducible refine Below.drew ?_ | with_reducible refine below_drewN ?_ _ | with_reducible refine Below.setCell ?_ (by first | (simp; done) | (simp; omega) | omega) _ | with_reducible refine Below.alloc ?_ (by first | (simp; done) | (simp; omega) | omega) _))
  have zV2 : w11.heap.size + 2 ≤ V2.heap.size := by rw [hV2]; simp
  have P11 : Bk2 V2 (w11.heap.size) (.bool n11) (.slice A11 k11 c11) := by rw [hV2]; exact ((Bk2.newAt _ _ (by simp) _ _ _).alloc _)
  have F12 : Bk2 V2 (w11.heap.size + 1) (.int .i64 22) (.int .i64 (-3)) := by rw [hV2]; exact (Bk2.newAt _ _ (by simp) _ _ _)
  rw [← hV2]
  clear hV2
  replace E : Below w.heap.size w V2 := E.trans (bV2.mono E.size)
  replace HA : LRd V2 (w.heap.size) a.A a.n a.c a.xs := HA.below bV2 (by omega)
  replace HB : LRd V2 (w.heap.size) b.A b.n b.c b.xs := HB.below bV2 (by omega)
  replace HC : LRd V2 (w.heap.size) c.A c.n c.c c.xs := HC.below bV2 (by omega)
  replace PA : Bk2 V2 (w.heap.size) (.bool a.neg) (.slice a.A a.n a.c) := PA.below bV2 PA.lt
  replace PB : Bk2 V2 (w.heap.size + 1) (.bool b.neg) (.slice b.A b.n b.c) := PB.below bV2 PB.lt
  replace PC : Bk2 V2 (w.heap.size + 2) (.bool c.neg) (.slice c.A c.n c.c) := PC.below bV2 PC.lt
  replace hl9 : LRd V2 (w9.heap.size) A9 k9 c9 x9 := hl9.below bV2 (by omega)
  replace P9 : Bk2 V2 (w9.heap.size) (.bool n9) (.slice A9 k9 c9) := P9.below bV2 P9.lt
  replace F10 : Bk2 V2 (w9.heap.size + 1) (.int .i64 g1) (.int .i64 g2) := F10.below bV2 F10.lt
  replace hl11 : LRd V2 (w11.heap.size) A11 k11 c11 x11 := hl11.below bV2 (by omega)
  clear bV2
  (with_reducible refine (counts_any _).mono ?_)
  rintro e w13 ⟨rfl, hb13⟩
  have sw13 := hb13.size
  replace E : Below w.heap.size w w13 := E.trans (hb13.mono E.size)
  replace HA : LRd w13 (w.heap.size) a.A a.n a.c a.xs := HA.below hb13 (by omega)
  replace HB : LRd w13 (w.heap.size) b.A b.n b.c b.xs := HB.below hb13 (by omega)
  replace HC : LRd w13 (w.heap.size) c.A c.n c.c c.xs := HC.below hb13 (by omega)
  replace PA : Bk2 w13 (w.heap.size) (.bool a.neg) (.slice a.A a.n a.c) := PA.below hb13 PA.lt
  replace PB : Bk2 w13 (w.heap.size + 1) (.bool b.neg) (.slice b.A b.n b.c) := PB.below hb13 PB.lt
  replace PC : Bk2 w13 (w.heap.size + 2) (.bool c.neg) (.slice c.A c.n c.c) := PC.below hb13 PC.lt
  replace hl9 : LRd w13 (w9.heap.size) A9 k9 c9 x9 := hl9.below hb13 (by omega)
  replace P9 : Bk2 w13 (w9.heap.size) (.bool n9) (.slice A9 k9 c9) := P9.below hb13 P9.lt
  replace F10 : Bk2 w13 (w9.heap.size + 1) (.int .i64 g1) (.int .i64 g2) := F10.below hb13 F10.lt
  replace hl11 : LRd w13 (w11.heap.size) A11 k11 c11 x11 := hl11.below hb13 (by omega)
  replace P11 : Bk2 w13 (w11.heap.size) (.bool n11) (.slice A11 k11 c11) := P11.below hb13 P11.lt
  replace F12 : Bk2 w13 (w11.heap.size + 1) (.int .i64 22) (.int .i64 (-3)) := F12.below hb13 F12.lt
  clear hb13
  go_upto_block 0 with fail
  go_cut [] (fun wx => Below w13.heap.size w13 wx)
  case first =>
    have E0 : Below w13.heap.size w13 w13 := Below.refl _ _
    clear E PB PC P11 F12 HB HC hl11
    have t_PA0 : w13.cell? ⟨w.heap.size, 0, none⟩ = some ((.bool a.neg)) := PA.c0
    have t_PA1 : w13.cell? ⟨w.heap.size, 1, none⟩ = some ((.slice a.A a.n a.c)) := PA.c1
    go_wp2_with fail
    clear t_PA0 t_PA1
    (with_reducible refine (intOk_any _ w.heap.size a.neg a.A a.n a.c a.xs HA (by omega)).mono ?_)
    rintro e w14 ⟨rfl, hb14⟩
    have sw14 := hb14.size
    replace HA : LRd w14 (w.heap.size) a.A a.n a.c a.xs := HA.below hb14 (by omega)
    replace PA : Bk2 w14 (w.heap.size) (.bool a.neg) (.slice a.A a.n a.c) := PA.below hb14 PA.lt
    replace hl9 : LRd w14 (w9.heap.size) A9 k9 c9 x9 := hl9.below hb14 (by omega)
    replace P9 : Bk2 w14 (w9.heap.size) (.bool n9) (.slice A9 k9 c9) := P9.below hb14 P9.lt
    replace F10 : Bk2 w14 (w9.heap.size + 1) (.int .i64 g1) (.int .i64 g2) := F10.below hb14 F10.lt
    replace E0 : Below w13.heap.size w13 w14 := E0.trans (hb14.mono E0.size)
    clear hb14
    obtain ⟨va, hva⟩ : ∃ va, ivld a.neg a.xs = va := ⟨_, rfl⟩
    rw [hva]
    have HVA := Lib.hid hva
    clear hva
    rcases PW.out with ⟨na, rfl, rfl, rfl⟩ | ⟨oa, hz, rfl, rfl, rfl⟩ | ⟨oa, n, rfl, hn, hyr⟩
    · obtain rfl : va = false := HVA.out.symm.trans na
      obtain ⟨rfl, rfl⟩ := irep_nil I9.out hl9.len.out
      go_upto_region 9 with fail
      have G0 : Below w14.heap.size w14 w14.drew := Below.drew (Below.refl _ _)
      have HS := Lib.hid (fun (u : World) (hu : Below w14.heap.size w14 u) => (⟨hu, (P9.below hu P9.lt).c0, (P9.below hu P9.lt).c1, (F10.below hu F10.lt).c0, (F10.below hu F10.lt).c1⟩ : Below w14.heap.size w14 u ∧ u.cell? ⟨w9.heap.size, 0, none⟩ = some (.bool false) ∧ u.cell? ⟨w9.heap.size, 1, none⟩ = some (.slice A9 0 c9) ∧ u.cell? ⟨w9.heap.size + 1, 0, none⟩ = some (.int .i64 6) ∧ u.cell? ⟨w9.heap.size + 1, 1, none⟩ = some (.int .i64 (-1))))
      go_region_held3 (fun u => Below w14.heap.size w14 u ∧ u.cell? ⟨w9.heap.size, 0, none⟩ = some (.bool false) ∧ u.cell? ⟨w9.heap.size, 1, none⟩ = some (.slice A9 0 c9) ∧ u.cell? ⟨w9.heap.size + 1, 0, none⟩ = some (.int .i64 6) ∧ u.cell? ⟨w9.heap.size + 1, 1, none⟩ = some (.int .i64 (-1))) (first | with_reducible exact HS.out _ G0 | with_reducible exact HS.out _ B2 | with_reducible exact HS.out _ B1 | fail)
        (first
          | (go_at_call 25; (with_reducible refine (at_any _ _ _).mono ?_); rintro e u1 ⟨rfl, hB1⟩; have B1 : Below w14.heap.size w14 u1 := bnext G0 hB1)
          | (go_at_call 26; (with_reducible refine (noInt_any _ false A9 0 c9 (by omega)).mono ?_); rintro e u2 ⟨rfl, hB2⟩; have B2 : Below w14.heap.size w14 u2 := bnext B1 hB2; rw [show (!false && decide (0 = 0)) = true from rfl])
          | fail)
      all_goals (go_wp2_with fail)
      all_goals go_meet
      all_goals (case rel => exact E0.trans (B2.mono E0.size))
    · obtain rfl : va = true := HVA.out.symm.trans oa
      obtain ⟨rfl, rfl⟩ := irep_nil I9.out hl9.len.out
      rcases hz with hz | hz
      · go_upto_region 12 with fail
        have G0 : Below w14.heap.size w14 w14.drew := Below.drew (Below.refl _ _)
        have HS := Lib.hid (fun (u : World) (hu : Below w14.heap.size w14 u) => (⟨hu, (P9.below hu P9.lt).c0, (P9.below hu P9.lt).c1, (F10.below hu F10.lt).c0, (F10.below hu F10.lt).c1⟩ : Below w14.heap.size w14 u ∧ u.cell? ⟨w9.heap.size, 0, none⟩ = some (.bool false) ∧ u.cell? ⟨w9.heap.size, 1, none⟩ = some (.slice A9 0 c9) ∧ u.cell? ⟨w9.heap.size + 1, 0, none⟩ = some (.int .i64 4) ∧ u.cell? ⟨w9.heap.size + 1, 1, none⟩ = some (.int .i64 (-2))))
        go_region_held3 (fun u => Below w14.heap.size w14 u ∧ u.cell? ⟨w9.heap.size, 0, none⟩ = some (.bool false) ∧ u.cell? ⟨w9.heap.size, 1, none⟩ = some (.slice A9 0 c9) ∧ u.cell? ⟨w9.heap.size + 1, 0, none⟩ = some (.int .i64 4) ∧ u.cell? ⟨w9.heap.size + 1, 1, none⟩ = some (.int .i64 (-2))) (first | with_reducible exact HS.out _ G0 | with_reducible exact HS.out _ B2 | with_reducible exact HS.out _ B1 | fail)
          (first
            | (go_at_call 25; (with_reducible refine (at_any _ _ _).mono ?_); rintro e u1 ⟨rfl, hB1⟩; have B1 : Below w14.heap.size w14 u1 := bnext G0 hB1)
            | (go_at_call 26; (with_reducible refine (noInt_any _ false A9 0 c9 (by omega)).mono ?_); rintro e u2 ⟨rfl, hB2⟩; have B2 : Below w14.heap.size w14 u2 := bnext B1 hB2; rw [show (!false && decide (0 = 0)) = true from rfl])
            | fail)
        all_goals (go_wp2_with fail)
        all_goals go_meet
        all_goals (case rel => exact E0.trans (B2.mono E0.size))
      · go_upto_region 12 with fail
        have G0 : Below w14.heap.size w14 w14.drew := Below.drew (Below.refl _ _)
        have HS := Lib.hid (fun (u : World) (hu : Below w14.heap.size w14 u) => (⟨hu, (P9.below hu P9.lt).c0, (P9.below hu P9.lt).c1, (F10.below hu F10.lt).c0, (F10.below hu F10.lt).c1⟩ : Below w14.heap.size w14 u ∧ u.cell? ⟨w9.heap.size, 0, none⟩ = some (.bool false) ∧ u.cell? ⟨w9.heap.size, 1, none⟩ = some (.slice A9 0 c9) ∧ u.cell? ⟨w9.heap.size + 1, 0, none⟩ = some (.int .i64 4) ∧ u.cell? ⟨w9.heap.size + 1, 1, none⟩ = some (.int .i64 (-2))))
        go_region_held3 (fun u => Below w14.heap.size w14 u ∧ u.cell? ⟨w9.heap.size, 0, none⟩ = some (.bool false) ∧ u.cell? ⟨w9.heap.size, 1, none⟩ = some (.slice A9 0 c9) ∧ u.cell? ⟨w9.heap.size + 1, 0, none⟩ = some (.int .i64 4) ∧ u.cell? ⟨w9.heap.size + 1, 1, none⟩ = some (.int .i64 (-2))) (first | with_reducible exact HS.out _ G0 | with_reducible exact HS.out _ B2 | with_reducible exact HS.out _ B1 | fail)
          (first
            | (go_at_call 25; (with_reducible refine (at_any _ _ _).mono ?_); rintro e u1 ⟨rfl, hB1⟩; have B1 : Below w14.heap.size w14 u1 := bnext G0 hB1)
            | (go_at_call 26; (with_reducible refine (noInt_any _ false A9 0 c9 (by omega)).mono ?_); rintro e u2 ⟨rfl, hB2⟩; have B2 : Below w14.heap.size w14 u2 := bnext B1 hB2; rw [show (!false && decide (0 = 0)) = true from rfl])
            | fail)
        all_goals (go_wp2_with fail)
        all_goals go_meet
        all_goals (case rel => exact E0.trans (B2.mono E0.size))
    · obtain rfl : va = true := HVA.out.symm.trans oa
      have hn1 : (0 : Int) ≤ (n : Int) := by omega
      have hn2 : (n : Int) ≤ 10000 := by omega
      have YY := Lib.hid hyr
      clear hyr
      have t_PA0 : w14.cell? ⟨w.heap.size, 0, none⟩ = some ((.bool a.neg)) := PA.c0
      have t_PA1 : w14.cell? ⟨w.heap.size, 1, none⟩ = some ((.slice a.A a.n a.c)) := PA.c1
      go_wp2_with fail
      clear t_PA0 t_PA1
      (with_reducible refine (intOf_any _ w.heap.size a.neg a.A a.n a.c a.xs HA (by omega) (by have := HA.len.out; have := (IV.vld oa).2; omega)).mono ?_)
      rintro e w15 ⟨mp, Ap, kp, cp, xp, vp, rfl, hdp, hrp, hvp, hb15⟩
      have sw15 := hb15.size
      replace HA : LRd w15 (w.heap.size) a.A a.n a.c a.xs := HA.below hb15 (by omega)
      replace PA : Bk2 w15 (w.heap.size) (.bool a.neg) (.slice a.A a.n a.c) := PA.below hb15 PA.lt
      replace hl9 : LRd w15 (w9.heap.size) A9 k9 c9 x9 := hl9.below hb15 (by omega)
      replace P9 : Bk2 w15 (w9.heap.size) (.bool n9) (.slice A9 k9 c9) := P9.below hb15 P9.lt
      replace F10 : Bk2 w15 (w9.heap.size + 1) (.int .i64 g1) (.int .i64 g2) := F10.below hb15 F10.lt
      replace E0 : Below w13.heap.size w13 w15 := E0.trans (hb15.mono E0.size)
      clear hb15
      have VP := Lib.hid (show sval mp vp = a.val from hvp)
      have KP := len512 hrp hdp.len.out (top_sq (by have := abs_sval VP.out; have e2 := IV.abs a; have := lt128 (⟨HA.lim, rfl, (vld_top (IV.vld oa).1).1⟩ : Rep 4294967296 a.xs (vb 4294967296 a.xs)) rfl (IV.vld oa).2; omega))
      have RP := Lib.hid hrp
      clear hrp hvp
      go_wp2_with fail
      refine (raised_any _ w15.heap.size mp Ap kp cp vp n xp hdp (by omega) RP.out KP hn).mono ?_
      rintro e w16 hrs
      rw [VP.out] at hrs
      rcases hrs with ⟨mr, Ar, kr, cr, xr, vr, rfl, hdr, hrr, hvr, hsm, hb16⟩ | ⟨rfl, hbig, hb16⟩
      · have sw16 := hb16.size
        obtain ⟨rfl, rfl, rfl⟩ : z9 = a.val ^ n ∧ g1 = 0 ∧ g2 = 0 := by
          rcases YY.out with ⟨_, h1, h2, h3⟩ | ⟨h1, _⟩
          · exact ⟨h1, h2, h3⟩
          · exact absurd hsm (Nat.not_lt_of_le h1)
        have KR := len512 hrr hdr.len.out (top_sq (by have := abs_sval hvr; omega))
        have RR := Lib.hid hrr
        have VR := Lib.hid hvr
        have SM := Lib.hid hsm
        clear hrr hvr hsm
        clear hdp
        replace HA : LRd w16 (w.heap.size) a.A a.n a.c a.xs := HA.below hb16 (by omega)
        replace PA : Bk2 w16 (w.heap.size) (.bool a.neg) (.slice a.A a.n a.c) := PA.below hb16 PA.lt
        replace hl9 : LRd w16 (w9.heap.size) A9 k9 c9 x9 := hl9.below hb16 (by omega)
        replace P9 : Bk2 w16 (w9.heap.size) (.bool n9) (.slice A9 k9 c9) := P9.below hb16 P9.lt
        replace F10 : Bk2 w16 (w9.heap.size + 1) (.int .i64 0) (.int .i64 0) := F10.below hb16 F10.lt
        replace E0 : Below w13.heap.size w13 w16 := E0.trans (hb16.mono E0.size)
        clear hb16
        go_upto_region 6 with fail
        obtain ⟨V6, hV6⟩ : ∃ V6 : World, V6 = (w16.alloc (.cells #[.bool mr, .slice Ar kr cr] 37)) := ⟨_, rfl⟩
        have bV6 : Below w16.heap.size w16 V6 := by rw [hV6]; (repeat (first | with_reducible exact Below.refl _ _ | with_reducible refine Below.drew ?_ | with_reducible refine below_drewN ?_ _ | with_reducible refine Below.setCell ?_ (by first | (simp; done) | (simp; omega) | omega) _ | with_reducible refine Below.alloc ?_ (by first | (simp; done) | (simp; omega) | omega) _))
        have zV6 : w16.heap.size + 1 ≤ V6.heap.size := by rw [hV6]; simp
        have P13 : Bk2 V6 (w16.heap.size) (.bool mr) (.slice Ar kr cr) := by rw [hV6]; exact (Bk2.newAt _ _ (by simp) _ _ _)
        rw [← hV6]
        clear hV6
        replace HA : LRd V6 (w.heap.size) a.A a.n a.c a.xs := HA.below bV6 (by omega)
        replace PA : Bk2 V6 (w.heap.size) (.bool a.neg) (.slice a.A a.n a.c) := PA.below bV6 PA.lt
        replace hl9 : LRd V6 (w9.heap.size) A9 k9 c9 x9 := hl9.below bV6 (by omega)
        replace P9 : Bk2 V6 (w9.heap.size) (.bool n9) (.slice A9 k9 c9) := P9.below bV6 P9.lt
        replace F10 : Bk2 V6 (w9.heap.size + 1) (.int .i64 0) (.int .i64 0) := F10.below bV6 F10.lt
        replace E0 : Below w13.heap.size w13 V6 := E0.trans (bV6.mono E0.size)
        replace hdr : DRd V6 (w16.heap.size) Ar kr cr xr := hdr.below bV6 (by omega)
        clear bV6
        have G0 : Below V6.heap.size V6 V6.drew := Below.drew (Below.refl _ _)
        have HS := Lib.hid (fun (u : World) (hu : Below V6.heap.size V6 u) => (⟨hu, (P9.below hu P9.lt).c0, (P9.below hu P9.lt).c1, (F10.below hu F10.lt).c0, (F10.below hu F10.lt).c1, (P13.below hu P13.lt).c0, (P13.below hu P13.lt).c1⟩ : Below V6.heap.size V6 u ∧ u.cell? ⟨w9.heap.size, 0, none⟩ = some (.bool n9) ∧ u.cell? ⟨w9.heap.size, 1, none⟩ = some (.slice A9 k9 c9) ∧ u.cell? ⟨w9.heap.size + 1, 0, none⟩ = some (.int .i64 0) ∧ u.cell? ⟨w9.heap.size + 1, 1, none⟩ = some (.int .i64 0) ∧ u.cell? ⟨w16.heap.size, 0, none⟩ = some (.bool mr) ∧ u.cell? ⟨w16.heap.size, 1, none⟩ = some (.slice Ar kr cr)))
        refine wp_region_held_drew (S := (fun u => Below V6.heap.size V6 u ∧ u.cell? ⟨w9.heap.size, 0, none⟩ = some (.bool n9) ∧ u.cell? ⟨w9.heap.size, 1, none⟩ = some (.slice A9 k9 c9) ∧ u.cell? ⟨w9.heap.size + 1, 0, none⟩ = some (.int .i64 0) ∧ u.cell? ⟨w9.heap.size + 1, 1, none⟩ = some (.int .i64 0) ∧ u.cell? ⟨w16.heap.size, 0, none⟩ = some (.bool mr) ∧ u.cell? ⟨w16.heap.size, 1, none⟩ = some (.slice Ar kr cr))) (by kernel_rfl) (HS.out _ G0) (fun hHeld => ?_)
        refine takeW (i := 0) (v := ?_) rfl (by kernel_rfl) (by kernel_rfl) (by kernel_rfl) (fun _ _ _ h => h) (by rfl) (by assumption) ?_ ?_
        rotate_left 1
        · (intro w9 hSw; (try dsimp only at hSw); go_simp); (first | done | with_reducible rfl)
        try simp only [Act.put, List.setIfInBounds_toArray, List.set_cons_zero, List.set_cons_succ]
        refine takeW (i := 1) (v := ?_) rfl (by kernel_rfl) (by kernel_rfl) (by kernel_rfl) (fun _ _ _ h => h) (by rfl) (by assumption) ?_ ?_
        rotate_left 1
        · (intro w9 hSw; (try dsimp only at hSw); go_simp); (first | done | with_reducible rfl)
        try simp only [Act.put, List.setIfInBounds_toArray, List.set_cons_zero, List.set_cons_succ]
        refine takeW (i := 2) (v := ?_) rfl (by kernel_rfl) (by kernel_rfl) (by kernel_rfl) (fun _ _ _ h => h) (by rfl) (by assumption) ?_ ?_
        rotate_left 1
        · (intro w9 hSw; (try dsimp only at hSw); go_simp); (first | done | with_reducible rfl)
        try simp only [Act.put, List.setIfInBounds_toArray, List.set_cons_zero, List.set_cons_succ]
        refine takeW (i := 3) (v := ?_) rfl (by kernel_rfl) (by kernel_rfl) (by kernel_rfl) (fun _ _ _ h => h) (by rfl) (by assumption) ?_ ?_
        rotate_left 1
        · (intro w9 hSw; (try dsimp only at hSw); go_simp); (first | done | with_reducible rfl)
        try simp only [Act.put, List.setIfInBounds_toArray, List.set_cons_zero, List.set_cons_succ]
        refine takeW (i := 4) (v := ?_) rfl (by kernel_rfl) (by kernel_rfl) (by kernel_rfl) (fun _ _ _ h => h) (by rfl) (by assumption) ?_ ?_
        rotate_left 1
        · (intro w9 hSw; (try dsimp only at hSw); go_simp); (first | done | with_reducible rfl)
        try simp only [Act.put, List.setIfInBounds_toArray, List.set_cons_zero, List.set_cons_succ]
        refine takeW (i := 5) (v := ?_) rfl (by kernel_rfl) (by kernel_rfl) (by kernel_rfl) (fun _ _ _ h => h) (by rfl) (by assumption) ?_ ?_
        rotate_left 1
        · (intro w9 hSw; (try dsimp only at hSw); go_simp); (first | done | with_reducible rfl)
        try simp only [Act.put, List.setIfInBounds_toArray, List.set_cons_zero, List.set_cons_succ]
        refine readyW (i := 6) (by kernel_rfl) rfl (by rfl) (fun K hK => ?_)
        go_simp
        (go_at_call 30; (with_reducible refine (yields_any' _ _ n9 A9 k9 c9 x9 mr Ar kr cr vr xr (a.val ^ n) (a.val ^ n) 0 0 ((hl9.below G0 (by omega)).more (by have := G0.size; omega)) ((hdr.below G0 (by omega)).more (by have := G0.size; omega)) (Nat.le_refl _) (yr_fit SM.out) I9.out RR.out VR.out KR).mono ?_); rintro e u1 ⟨rfl, hb1⟩; have B1 : Below V6.heap.size V6 u1 := bnext G0 hb1)
        go_wp2_with fail
        refine hK.out _ _ (HS.out _ B1) (fun hHeld1 => ?_)
        clear hK K
        try simp only [Act.put, List.setIfInBounds_toArray, List.set_cons_zero, List.set_cons_succ]
        refine takeW (i := 7) (v := ?_) rfl (by kernel_rfl) (by kernel_rfl) (by kernel_rfl) (fun _ _ _ h => h) (by rfl) (by assumption) ?_ ?_
        rotate_left 1
        · (intro w9 hSw; (try dsimp only at hSw); go_simp); (first | done | with_reducible rfl)
        try simp only [Act.put, List.setIfInBounds_toArray, List.set_cons_zero, List.set_cons_succ]
        refine takeW (i := 8) (v := ?_) rfl (by kernel_rfl) (by kernel_rfl) (by kernel_rfl) (fun _ _ _ h => h) (by rfl) (by assumption) ?_ ?_
        rotate_left 1
        · (intro w9 hSw; (try dsimp only at hSw); go_simp); (first | done | with_reducible rfl)
        try simp only [Act.put, List.setIfInBounds_toArray, List.set_cons_zero, List.set_cons_succ]
        refine takeW (i := 9) (v := ?_) rfl (by kernel_rfl) (by kernel_rfl) (by kernel_rfl) (fun _ _ _ h => h) (by rfl) (by assumption) ?_ ?_
        rotate_left 1
        · (intro w9 hSw; (try dsimp only at hSw); go_simp); (first | done | with_reducible rfl)
        try simp only [Act.put, List.setIfInBounds_toArray, List.set_cons_zero, List.set_cons_succ]
        refine takeW (i := 10) (v := ?_) rfl (by kernel_rfl) (by kernel_rfl) (by kernel_rfl) (fun _ _ _ h => h) (by rfl) (by assumption) ?_ ?_
        rotate_left 1
        · (intro w9 hSw; (try dsimp only at hSw); go_simp); (first | done | with_reducible rfl)
        try simp only [Act.put, List.setIfInBounds_toArray, List.set_cons_zero, List.set_cons_succ]
        refine takeW (i := 11) (v := ?_) rfl (by kernel_rfl) (by kernel_rfl) (by kernel_rfl) (fun _ _ _ h => h) (by rfl) (by assumption) ?_ ?_
        rotate_left 1
        · (intro w9 hSw; (try dsimp only at hSw); go_simp); (first | done | with_reducible rfl)
        try simp only [Act.put, List.setIfInBounds_toArray, List.set_cons_zero, List.set_cons_succ]
        refine takeW (i := 12) (v := ?_) rfl (by kernel_rfl) (by kernel_rfl) (by kernel_rfl) (fun _ _ _ h => h) (by rfl) (by assumption) ?_ ?_
        rotate_left 1
        · (intro w9 hSw; (try dsimp only at hSw); go_simp); (first | done | with_reducible rfl)
        try simp only [Act.put, List.setIfInBounds_toArray, List.set_cons_zero, List.set_cons_succ]
        refine takeN (i := 13) rfl (by kernel_rfl) (by kernel_rfl) (by kernel_rfl) (fun _ _ _ h => h) (by rfl) (by assumption) ?_
        try simp only [Act.put, List.setIfInBounds_toArray, List.set_cons_zero, List.set_cons_succ]
        refine readyN (i := 14) (by kernel_rfl) rfl (by rfl) (by assumption) ?_
        try simp only [Act.put, List.setIfInBounds_toArray, List.set_cons_zero, List.set_cons_succ]
        refine takeN (i := 15) rfl (by kernel_rfl) (by kernel_rfl) (by kernel_rfl) (fun _ _ _ h => h) (by rfl) (by assumption) ?_
        try simp only [Act.put, List.setIfInBounds_toArray, List.set_cons_zero, List.set_cons_succ]
        refine takeN (i := 16) rfl (by kernel_rfl) (by kernel_rfl) (by kernel_rfl) (fun _ _ _ h => h) (by rfl) (by assumption) ?_
        try simp only [Act.put, List.setIfInBounds_toArray, List.set_cons_zero, List.set_cons_succ]
        refine takeN (i := 17) rfl (by kernel_rfl) (by kernel_rfl) (by kernel_rfl) (fun _ _ _ h => h) (by rfl) (by assumption) ?_
        try simp only [Act.put, List.setIfInBounds_toArray, List.set_cons_zero, List.set_cons_succ]
        refine readyN (i := 18) (by kernel_rfl) rfl (by rfl) (by assumption) ?_
        try simp only [Act.put, List.setIfInBounds_toArray, List.set_cons_zero, List.set_cons_succ]
        refine takeN (i := 19) rfl (by kernel_rfl) (by kernel_rfl) (by kernel_rfl) (fun _ _ _ h => h) (by rfl) (by assumption) ?_
        try simp only [Act.put, List.setIfInBounds_toArray, List.set_cons_zero, List.set_cons_succ]
        refine takeN (i := 20) rfl (by kernel_rfl) (by kernel_rfl) (by kernel_rfl) (fun _ _ _ h => h) (by rfl) (by assumption) ?_
        try simp only [Act.put, List.setIfInBounds_toArray, List.set_cons_zero, List.set_cons_succ]
        refine takeW (i := 21) (v := ?_) rfl (by kernel_rfl) (by kernel_rfl) (by kernel_rfl) (fun _ _ _ h => h) (by rfl) (by assumption) ?_ ?_
        rotate_left 1
        · (intro w9 hSw; (try dsimp only at hSw); go_simp); (first | done | with_reducible rfl)
        try simp only [Act.put, List.setIfInBounds_toArray, List.set_cons_zero, List.set_cons_succ]
        refine takeW (i := 22) (v := ?_) rfl (by kernel_rfl) (by kernel_rfl) (by kernel_rfl) (fun _ _ _ h => h) (by rfl) (by assumption) ?_ ?_
        rotate_left 1
        · (intro w9 hSw; (try dsimp only at hSw); go_simp); (first | done | with_reducible rfl)
        try simp only [Act.put, List.setIfInBounds_toArray, List.set_cons_zero, List.set_cons_succ]
        refine wpAnyH_done (by kernel_rfl) ?_ _
        go_wp2_with fail
        go_meet
        case rel => exact E0.trans (B1.mono E0.size)
      · have sw16 := hb16.size
        obtain ⟨rfl, rfl, rfl⟩ : z9 = 0 ∧ g1 = 14 ∧ g2 = -1 := by
          rcases YY.out with ⟨h1, _⟩ | ⟨_, h1, h2, h3⟩
          · exact absurd h1 (Nat.not_lt_of_le hbig)
          · exact ⟨h1, h2, h3⟩
        obtain ⟨rfl, rfl⟩ := irep_nil I9.out hl9.len.out
        clear hbig
        clear hdp hl9
        replace HA : LRd w16 (w.heap.size) a.A a.n a.c a.xs := HA.below hb16 (by omega)
        replace PA : Bk2 w16 (w.heap.size) (.bool a.neg) (.slice a.A a.n a.c) := PA.below hb16 PA.lt
        replace P9 : Bk2 w16 (w9.heap.size) (.bool false) (.slice A9 0 c9) := P9.below hb16 P9.lt
        replace F10 : Bk2 w16 (w9.heap.size + 1) (.int .i64 14) (.int .i64 (-1)) := F10.below hb16 F10.lt
        replace E0 : Below w13.heap.size w13 w16 := E0.trans (hb16.mono E0.size)
        clear hb16
        go_upto_region 6 with fail
        obtain ⟨V6, hV6⟩ : ∃ V6 : World, V6 = (w16.alloc (.cells #[.bool false, .slice none 0 0] 37)) := ⟨_, rfl⟩
        have bV6 : Below w16.heap.size w16 V6 := by rw [hV6]; (repeat (first | with_reducible exact Below.refl _ _ | with_reducible refine Below.drew ?_ | with_reducible refine below_drewN ?_ _ | with_reducible refine Below.setCell ?_ (by first | (simp; done) | (simp; omega) | omega) _ | with_reducible refine Below.alloc ?_ (by first | (simp; done) | (simp; omega) | omega) _))
        have zV6 : w16.heap.size + 1 ≤ V6.heap.size := by rw [hV6]; simp
        have P13 : Bk2 V6 (w16.heap.size) (.bool false) (.slice none 0 0) := by rw [hV6]; exact (Bk2.newAt _ _ (by simp) _ _ _)
        rw [← hV6]
        clear hV6
        replace HA : LRd V6 (w.heap.size) a.A a.n a.c a.xs := HA.below bV6 (by omega)
        replace PA : Bk2 V6 (w.heap.size) (.bool a.neg) (.slice a.A a.n a.c) := PA.below bV6 PA.lt
        replace P9 : Bk2 V6 (w9.heap.size) (.bool false) (.slice A9 0 c9) := P9.below bV6 P9.lt
        replace F10 : Bk2 V6 (w9.heap.size + 1) (.int .i64 14) (.int .i64 (-1)) := F10.below bV6 F10.lt
        replace E0 : Below w13.heap.size w13 V6 := E0.trans (bV6.mono E0.size)
        clear bV6
        have G0 : Below V6.heap.size V6 V6.drew := Below.drew (Below.refl _ _)
        have HS := Lib.hid (fun (u : World) (hu : Below V6.heap.size V6 u) => (⟨hu, (P9.below hu P9.lt).c0, (P9.below hu P9.lt).c1, (F10.below hu F10.lt).c0, (F10.below hu F10.lt).c1, (P13.below hu P13.lt).c0, (P13.below hu P13.lt).c1⟩ : Below V6.heap.size V6 u ∧ u.cell? ⟨w9.heap.size, 0, none⟩ = some (.bool false) ∧ u.cell? ⟨w9.heap.size, 1, none⟩ = some (.slice A9 0 c9) ∧ u.cell? ⟨w9.heap.size + 1, 0, none⟩ = some (.int .i64 14) ∧ u.cell? ⟨w9.heap.size + 1, 1, none⟩ = some (.int .i64 (-1)) ∧ u.cell? ⟨w16.heap.size, 0, none⟩ = some (.bool false) ∧ u.cell? ⟨w16.heap.size, 1, none⟩ = some (.slice none 0 0)))
        refine wp_region_held_drew (S := (fun u => Below V6.heap.size V6 u ∧ u.cell? ⟨w9.heap.size, 0, none⟩ = some (.bool false) ∧ u.cell? ⟨w9.heap.size, 1, none⟩ = some (.slice A9 0 c9) ∧ u.cell? ⟨w9.heap.size + 1, 0, none⟩ = some (.int .i64 14) ∧ u.cell? ⟨w9.heap.size + 1, 1, none⟩ = some (.int .i64 (-1)) ∧ u.cell? ⟨w16.heap.size, 0, none⟩ = some (.bool false) ∧ u.cell? ⟨w16.heap.size, 1, none⟩ = some (.slice none 0 0))) (by kernel_rfl) (HS.out _ G0) (fun hHeld => ?_)
        refine takeW (i := 0) (v := ?_) rfl (by kernel_rfl) (by kernel_rfl) (by kernel_rfl) (fun _ _ _ h => h) (by rfl) (by assumption) ?_ ?_
        rotate_left 1
        · (intro w9 hSw; (try dsimp only at hSw); go_simp); (first | done | with_reducible rfl)
        try simp only [Act.put, List.setIfInBounds_toArray, List.set_cons_zero, List.set_cons_succ]
        refine takeW (i := 1) (v := ?_) rfl (by kernel_rfl) (by kernel_rfl) (by kernel_rfl) (fun _ _ _ h => h) (by rfl) (by assumption) ?_ ?_
        rotate_left 1
        · (intro w9 hSw; (try dsimp only at hSw); go_simp); (first | done | with_reducible rfl)
        try simp only [Act.put, List.setIfInBounds_toArray, List.set_cons_zero, List.set_cons_succ]
        refine takeN (i := 2) rfl (by kernel_rfl) (by kernel_rfl) (by kernel_rfl) (fun _ _ _ h => h) (by rfl) (by assumption) ?_
        try simp only [Act.put, List.setIfInBounds_toArray, List.set_cons_zero, List.set_cons_succ]
        refine takeN (i := 3) rfl (by kernel_rfl) (by kernel_rfl) (by kernel_rfl) (fun _ _ _ h => h) (by rfl) (by assumption) ?_
        try simp only [Act.put, List.setIfInBounds_toArray, List.set_cons_zero, List.set_cons_succ]
        refine takeN (i := 4) rfl (by kernel_rfl) (by kernel_rfl) (by kernel_rfl) (fun _ _ _ h => h) (by rfl) (by assumption) ?_
        try simp only [Act.put, List.setIfInBounds_toArray, List.set_cons_zero, List.set_cons_succ]
        refine takeN (i := 5) rfl (by kernel_rfl) (by kernel_rfl) (by kernel_rfl) (fun _ _ _ h => h) (by rfl) (by assumption) ?_
        try simp only [Act.put, List.setIfInBounds_toArray, List.set_cons_zero, List.set_cons_succ]
        refine readyN (i := 6) (by kernel_rfl) rfl (by rfl) (by assumption) ?_
        try simp only [Act.put, List.setIfInBounds_toArray, List.set_cons_zero, List.set_cons_succ]
        refine takeN (i := 7) rfl (by kernel_rfl) (by kernel_rfl) (by kernel_rfl) (fun _ _ _ h => h) (by rfl) (by assumption) ?_
        try simp only [Act.put, List.setIfInBounds_toArray, List.set_cons_zero, List.set_cons_succ]
        refine takeW (i := 8) (v := ?_) rfl (by kernel_rfl) (by kernel_rfl) (by kernel_rfl) (fun _ _ _ h => h) (by rfl) (by assumption) ?_ ?_
        rotate_left 1
        · (intro w9 hSw; (try dsimp only at hSw); go_simp); (first | done | with_reducible rfl)
        try simp only [Act.put, List.setIfInBounds_toArray, List.set_cons_zero, List.set_cons_succ]
        refine takeW (i := 9) (v := ?_) rfl (by kernel_rfl) (by kernel_rfl) (by kernel_rfl) (fun _ _ _ h => h) (by rfl) (by assumption) ?_ ?_
        rotate_left 1
        · (intro w9 hSw; (try dsimp only at hSw); go_simp); (first | done | with_reducible rfl)
        try simp only [Act.put, List.setIfInBounds_toArray, List.set_cons_zero, List.set_cons_succ]
        refine takeW (i := 10) (v := ?_) rfl (by kernel_rfl) (by kernel_rfl) (by kernel_rfl) (fun _ _ _ h => h) (by rfl) (by assumption) ?_ ?_
        rotate_left 1
        · (intro w9 hSw; (try dsimp only at hSw); go_simp); (first | done | with_reducible rfl)
        try simp only [Act.put, List.setIfInBounds_toArray, List.set_cons_zero, List.set_cons_succ]
        refine takeW (i := 11) (v := ?_) rfl (by kernel_rfl) (by kernel_rfl) (by kernel_rfl) (fun _ _ _ h => h) (by rfl) (by assumption) ?_ ?_
        rotate_left 1
        · (intro w9 hSw; (try dsimp only at hSw); go_simp); (first | done | with_reducible rfl)
        try simp only [Act.put, List.setIfInBounds_toArray, List.set_cons_zero, List.set_cons_succ]
        refine takeW (i := 12) (v := ?_) rfl (by kernel_rfl) (by kernel_rfl) (by kernel_rfl) (fun _ _ _ h => h) (by rfl) (by assumption) ?_ ?_
        rotate_left 1
        · (intro w9 hSw; (try dsimp only at hSw); go_simp); (first | done | with_reducible rfl)
        try simp only [Act.put, List.setIfInBounds_toArray, List.set_cons_zero, List.set_cons_succ]
        refine takeW (i := 13) (v := ?_) rfl (by kernel_rfl) (by kernel_rfl) (by kernel_rfl) (fun _ _ _ h => h) (by rfl) (by assumption) ?_ ?_
        rotate_left 1
        · (intro w9 hSw; (try dsimp only at hSw); go_simp); (first | done | with_reducible rfl)
        try simp only [Act.put, List.setIfInBounds_toArray, List.set_cons_zero, List.set_cons_succ]
        refine readyW (i := 14) (by kernel_rfl) rfl (by rfl) (fun K hK => ?_)
        go_simp
        (go_at_call 25; (with_reducible refine (at_any _ _ _).mono ?_); rintro e u1 ⟨rfl, hB1⟩; have B1 : Below V6.heap.size V6 u1 := bnext G0 hB1)
        go_wp2_with fail
        refine hK.out _ _ (HS.out _ B1) (fun hHeld1 => ?_)
        clear hK K
        try simp only [Act.put, List.setIfInBounds_toArray, List.set_cons_zero, List.set_cons_succ]
        refine takeW (i := 15) (v := ?_) rfl (by kernel_rfl) (by kernel_rfl) (by kernel_rfl) (fun _ _ _ h => h) (by rfl) (by assumption) ?_ ?_
        rotate_left 1
        · (intro w9 hSw; (try dsimp only at hSw); go_simp); (first | done | with_reducible rfl)
        try simp only [Act.put, List.setIfInBounds_toArray, List.set_cons_zero, List.set_cons_succ]
        refine takeW (i := 16) (v := ?_) rfl (by kernel_rfl) (by kernel_rfl) (by kernel_rfl) (fun _ _ _ h => h) (by rfl) (by assumption) ?_ ?_
        rotate_left 1
        · (intro w9 hSw; (try dsimp only at hSw); go_simp); (first | done | with_reducible rfl)
        try simp only [Act.put, List.setIfInBounds_toArray, List.set_cons_zero, List.set_cons_succ]
        refine takeW (i := 17) (v := ?_) rfl (by kernel_rfl) (by kernel_rfl) (by kernel_rfl) (fun _ _ _ h => h) (by rfl) (by assumption) ?_ ?_
        rotate_left 1
        · (intro w9 hSw; (try dsimp only at hSw); go_simp); (first | done | with_reducible rfl)
        try simp only [Act.put, List.setIfInBounds_toArray, List.set_cons_zero, List.set_cons_succ]
        refine readyW (i := 18) (by kernel_rfl) rfl (by rfl) (fun K hK => ?_)
        go_simp
        (go_at_call 26; (with_reducible refine (noInt_any _ false A9 0 c9 (by omega)).mono ?_); rintro e u2 ⟨rfl, hB2⟩; have B2 : Below V6.heap.size V6 u2 := bnext B1 hB2; rw [show (!false && decide (0 = 0)) = true from rfl])
        go_wp2_with fail
        refine hK.out _ _ (HS.out _ B2) (fun hHeld2 => ?_)
        clear hK K
        try simp only [Act.put, List.setIfInBounds_toArray, List.set_cons_zero, List.set_cons_succ]
        refine takeW (i := 19) (v := ?_) rfl (by kernel_rfl) (by kernel_rfl) (by kernel_rfl) (fun _ _ _ h => h) (by rfl) (by assumption) ?_ ?_
        rotate_left 1
        · (intro w9 hSw; (try dsimp only at hSw); go_simp); (first | done | with_reducible rfl)
        try simp only [Act.put, List.setIfInBounds_toArray, List.set_cons_zero, List.set_cons_succ]
        refine takeW (i := 20) (v := ?_) rfl (by kernel_rfl) (by kernel_rfl) (by kernel_rfl) (fun _ _ _ h => h) (by rfl) (by assumption) ?_ ?_
        rotate_left 1
        · (intro w9 hSw; (try dsimp only at hSw); go_simp); (first | done | with_reducible rfl)
        try simp only [Act.put, List.setIfInBounds_toArray, List.set_cons_zero, List.set_cons_succ]
        refine takeW (i := 21) (v := ?_) rfl (by kernel_rfl) (by kernel_rfl) (by kernel_rfl) (fun _ _ _ h => h) (by rfl) (by assumption) ?_ ?_
        rotate_left 1
        · (intro w9 hSw; (try dsimp only at hSw); go_simp); (first | done | with_reducible rfl)
        try simp only [Act.put, List.setIfInBounds_toArray, List.set_cons_zero, List.set_cons_succ]
        refine takeW (i := 22) (v := ?_) rfl (by kernel_rfl) (by kernel_rfl) (by kernel_rfl) (fun _ _ _ h => h) (by rfl) (by assumption) ?_ ?_
        rotate_left 1
        · (intro w9 hSw; (try dsimp only at hSw); go_simp); (first | done | with_reducible rfl)
        try simp only [Act.put, List.setIfInBounds_toArray, List.set_cons_zero, List.set_cons_succ]
        refine wpAnyH_done (by kernel_rfl) ?_ _
        go_wp2_with fail
        go_meet
        case rel => exact E0.trans (B2.mono E0.size)
  case rest =>
  have sX := hcut.size
  clear P9 F10 hl9
  replace E : Below w.heap.size w wc := E.trans (hcut.mono E.size)
  replace HA : LRd wc (w.heap.size) a.A a.n a.c a.xs := HA.below hcut (by omega)
  replace HB : LRd wc (w.heap.size) b.A b.n b.c b.xs := HB.below hcut (by omega)
  replace HC : LRd wc (w.heap.size) c.A c.n c.c c.xs := HC.below hcut (by omega)
  replace PA : Bk2 wc (w.heap.size) (.bool a.neg) (.slice a.A a.n a.c) := PA.below hcut PA.lt
  replace PB : Bk2 wc (w.heap.size + 1) (.bool b.neg) (.slice b.A b.n b.c) := PB.below hcut PB.lt
  replace PC : Bk2 wc (w.heap.size + 2) (.bool c.neg) (.slice c.A c.n c.c) := PC.below hcut PC.lt
  replace hl11 : LRd wc (w11.heap.size) A11 k11 c11 x11 := hl11.below hcut (by omega)
  replace P11 : Bk2 wc (w11.heap.size) (.bool n11) (.slice A11 k11 c11) := P11.below hcut P11.lt
  replace F12 : Bk2 wc (w11.heap.size + 1) (.int .i64 22) (.int .i64 (-3)) := F12.below hcut F12.lt
  clear hcut
  obtain ⟨rfl, rfl⟩ := irep_nil I11.out hl11.len.out
  clear hl11
  have IR := Lib.hid (irow3 wc w.heap.size a b c HA HB HC (by omega))
  have p_PA0 : wc.cell? ⟨w.heap.size, 0, none⟩ = some ((.bool a.neg)) := PA.c0
  have p_PA1 : wc.cell? ⟨w.heap.size, 1, none⟩ = some ((.slice a.A a.n a.c)) := PA.c1
  have p_PB0 : wc.cell? ⟨w.heap.size + 1, 0, none⟩ = some ((.bool b.neg)) := PB.c0
  have p_PB1 : wc.cell? ⟨w.heap.size + 1, 1, none⟩ = some ((.slice b.A b.n b.c)) := PB.c1
  have p_PC0 : wc.cell? ⟨w.heap.size + 2, 0, none⟩ = some ((.bool c.neg)) := PC.c0
  have p_PC1 : wc.cell? ⟨w.heap.size + 2, 1, none⟩ = some ((.slice c.A c.n c.c)) := PC.c1
  go_wp2_with fail
  clear p_PA0 p_PA1 p_PB0 p_PB1 p_PC0 p_PC1
  obtain ⟨V3, hV3⟩ : ∃ V3 : World, V3 = (wc.alloc (.cells #[.bool a.neg, .slice a.A a.n a.c, .bool b.neg, .slice b.A b.n b.c, .bool c.neg, .slice c.A c.n c.c] 24)) := ⟨_, rfl⟩
  have bV3 : Below wc.heap.size wc V3 := by rw [hV3]; (repeat (first | with_reducible exact Below.refl _ _ | with_reducible refine Below.drew ?_ | with_reducible refine below_drewN ?_ _ | with_reducible refine Below.setCell ?_ (by first | (simp; done) | (simp; omega) | omega) _ | with_reducible refine Below.alloc ?_ (by first | (simp; done) | (simp; omega) | omega) _))
  have zV3 : wc.heap.size + 1 ≤ V3.heap.size := by rw [hV3]; simp
  replace IR : Hid (IRow V3 w.heap.size wc.heap.size [a, b, c]) := by have h9 := IR.out; rw [hV3]; exact h9
  rw [← hV3]
  clear hV3
  replace E : Below w.heap.size w V3 := E.trans (bV3.mono E.size)
  replace HA : LRd V3 (w.heap.size) a.A a.n a.c a.xs := HA.below bV3 (by omega)
  replace HB : LRd V3 (w.heap.size) b.A b.n b.c b.xs := HB.below bV3 (by omega)
  replace HC : LRd V3 (w.heap.size) c.A c.n c.c c.xs := HC.below bV3 (by omega)
  replace PA : Bk2 V3 (w.heap.size) (.bool a.neg) (.slice a.A a.n a.c) := PA.below bV3 PA.lt
  replace PB : Bk2 V3 (w.heap.size + 1) (.bool b.neg) (.slice b.A b.n b.c) := PB.below bV3 PB.lt
  replace PC : Bk2 V3 (w.heap.size + 2) (.bool c.neg) (.slice c.A c.n c.c) := PC.below bV3 PC.lt
  replace P11 : Bk2 V3 (w11.heap.size) (.bool false) (.slice A11 0 c11) := P11.below bV3 P11.lt
  replace F12 : Bk2 V3 (w11.heap.size + 1) (.int .i64 22) (.int .i64 (-3)) := F12.below bV3 F12.lt
  clear bV3
  (with_reducible refine (faults_any _ w.heap.size wc.heap.size 3 [a, b, c] IR.out rfl (by omega) (by omega)).mono ?_)
  rintro e w20 ⟨rfl, hb20⟩
  have sw20 := hb20.size
  replace E : Below w.heap.size w w20 := E.trans (hb20.mono E.size)
  replace HA : LRd w20 (w.heap.size) a.A a.n a.c a.xs := HA.below hb20 (by omega)
  replace HB : LRd w20 (w.heap.size) b.A b.n b.c b.xs := HB.below hb20 (by omega)
  replace HC : LRd w20 (w.heap.size) c.A c.n c.c c.xs := HC.below hb20 (by omega)
  replace PA : Bk2 w20 (w.heap.size) (.bool a.neg) (.slice a.A a.n a.c) := PA.below hb20 PA.lt
  replace PB : Bk2 w20 (w.heap.size + 1) (.bool b.neg) (.slice b.A b.n b.c) := PB.below hb20 PB.lt
  replace PC : Bk2 w20 (w.heap.size + 2) (.bool c.neg) (.slice c.A c.n c.c) := PC.below hb20 PC.lt
  replace P11 : Bk2 w20 (w11.heap.size) (.bool false) (.slice A11 0 c11) := P11.below hb20 P11.lt
  replace F12 : Bk2 w20 (w11.heap.size + 1) (.int .i64 22) (.int .i64 (-3)) := F12.below hb20 F12.lt
  clear hb20
  rw [hf]
  clear IR
  have t_PB0 : (w20.alloc (.cells #[.int .i64 0, .int .i64 0] 26)).cell? ⟨w.heap.size + 1, 0, none⟩ = some ((.bool b.neg)) := (PB.alloc _).c0
  have t_PB1 : (w20.alloc (.cells #[.int .i64 0, .int .i64 0] 26)).cell? ⟨w.heap.size + 1, 1, none⟩ = some ((.slice b.A b.n b.c)) := (PB.alloc _).c1
  have t_PC0 : (w20.alloc (.cells #[.int .i64 0, .int .i64 0] 26)).cell? ⟨w.heap.size + 2, 0, none⟩ = some ((.bool c.neg)) := (PC.alloc _).c0
  have t_PC1 : (w20.alloc (.cells #[.int .i64 0, .int .i64 0] 26)).cell? ⟨w.heap.size + 2, 1, none⟩ = some ((.slice c.A c.n c.c)) := (PC.alloc _).c1
  go_upto_region 15 with fail
  clear t_PB0 t_PB1 t_PC0 t_PC1
  obtain ⟨V4, hV4⟩ : ∃ V4 : World, V4 = (w20.alloc (.cells #[.int .i64 0, .int .i64 0] 26)) := ⟨_, rfl⟩
  have bV4 : Below w20.heap.size w20 V4 := by rw [hV4]; (repeat (first | with_reducible exact Below.refl _ _ | with_reducible refine Below.drew ?_ | with_reducible refine below_drewN ?_ _ | with_reducible refine Below.setCell ?_ (by first | (simp; done) | (simp; omega) | omega) _ | with_reducible refine Below.alloc ?_ (by first | (simp; done) | (simp; omega) | omega) _))
  have zV4 : w20.heap.size + 1 ≤ V4.heap.size := by rw [hV4]; simp
  have F15 : Bk2 V4 (w20.heap.size) (.int .i64 0) (.int .i64 0) := by rw [hV4]; exact (Bk2.newAt _ _ (by simp) _ _ _)
  rw [← hV4]
  clear hV4
  replace E : Below w.heap.size w V4 := E.trans (bV4.mono E.size)
  replace HA : LRd V4 (w.heap.size) a.A a.n a.c a.xs := HA.below bV4 (by omega)
  replace HB : LRd V4 (w.heap.size) b.A b.n b.c b.xs := HB.below bV4 (by omega)
  replace HC : LRd V4 (w.heap.size) c.A c.n c.c c.xs := HC.below bV4 (by omega)
  replace PA : Bk2 V4 (w.heap.size) (.bool a.neg) (.slice a.A a.n a.c) := PA.below bV4 PA.lt
  replace PB : Bk2 V4 (w.heap.size + 1) (.bool b.neg) (.slice b.A b.n b.c) := PB.below bV4 PB.lt
  replace PC : Bk2 V4 (w.heap.size + 2) (.bool c.neg) (.slice c.A c.n c.c) := PC.below bV4 PC.lt
  replace P11 : Bk2 V4 (w11.heap.size) (.bool false) (.slice A11 0 c11) := P11.below bV4 P11.lt
  replace F12 : Bk2 V4 (w11.heap.size + 1) (.int .i64 22) (.int .i64 (-3)) := F12.below bV4 F12.lt
  clear bV4
  rw [hb.out] at PB
  rw [hc.out] at PC
  have t_F150 : V4.cell? ⟨w20.heap.size, 0, none⟩ = some ((.int .i64 0)) := F15.c0
  have t_F151 : V4.cell? ⟨w20.heap.size, 1, none⟩ = some ((.int .i64 0)) := F15.c1
  have t_PB0 : V4.cell? ⟨w.heap.size + 1, 0, none⟩ = some ((.bool false)) := PB.c0
  have t_PB1 : V4.cell? ⟨w.heap.size + 1, 1, none⟩ = some ((.slice b.A b.n b.c)) := PB.c1
  have t_PC0 : V4.cell? ⟨w.heap.size + 2, 0, none⟩ = some ((.bool false)) := PC.c0
  have t_PC1 : V4.cell? ⟨w.heap.size + 2, 1, none⟩ = some ((.slice c.A c.n c.c)) := PC.c1
  go_wp2_with fail
  clear t_F150 t_F151 t_PB0 t_PB1 t_PC0 t_PC1
  (with_reducible refine (noInt_any _ false c.A c.n c.c (by have := HC.len.out; have := (IV.vld oc).2; omega)).mono ?_)
  rintro e w24 ⟨rfl, hq0⟩
  have sw24 := hq0.size
  replace E : Below w.heap.size w w24 := E.trans (hq0.mono E.size)
  replace HA : LRd w24 (w.heap.size) a.A a.n a.c a.xs := HA.below hq0 (by omega)
  replace HB : LRd w24 (w.heap.size) b.A b.n b.c b.xs := HB.below hq0 (by omega)
  replace HC : LRd w24 (w.heap.size) c.A c.n c.c c.xs := HC.below hq0 (by omega)
  replace PA : Bk2 w24 (w.heap.size) (.bool a.neg) (.slice a.A a.n a.c) := PA.below hq0 PA.lt
  replace PB : Bk2 w24 (w.heap.size + 1) (.bool false) (.slice b.A b.n b.c) := PB.below hq0 PB.lt
  replace PC : Bk2 w24 (w.heap.size + 2) (.bool false) (.slice c.A c.n c.c) := PC.below hq0 PC.lt
  replace P11 : Bk2 w24 (w11.heap.size) (.bool false) (.slice A11 0 c11) := P11.below hq0 P11.lt
  replace F12 : Bk2 w24 (w11.heap.size + 1) (.int .i64 22) (.int .i64 (-3)) := F12.below hq0 F12.lt
  replace F15 : Bk2 w24 (w20.heap.size) (.int .i64 0) (.int .i64 0) := F15.below hq0 F15.lt
  clear hq0
  rw [show (!false && decide (c.n = 0)) = true by rw [decide_eq_true h0.out]; rfl]
  go_wp2_with fail
  (with_reducible refine (at_any _ _ _).mono ?_)
  rintro e w25 ⟨rfl, hq1⟩
  have sw25 := hq1.size
  replace E : Below w.heap.size w w25 := E.trans (hq1.mono E.size)
  replace HA : LRd w25 (w.heap.size) a.A a.n a.c a.xs := HA.below hq1 (by omega)
  replace HB : LRd w25 (w.heap.size) b.A b.n b.c b.xs := HB.below hq1 (by omega)
  replace HC : LRd w25 (w.heap.size) c.A c.n c.c c.xs := HC.below hq1 (by omega)
  replace PA : Bk2 w25 (w.heap.size) (.bool a.neg) (.slice a.A a.n a.c) := PA.below hq1 PA.lt
  replace PB : Bk2 w25 (w.heap.size + 1) (.bool false) (.slice b.A b.n b.c) := PB.below hq1 PB.lt
  replace PC : Bk2 w25 (w.heap.size + 2) (.bool false) (.slice c.A c.n c.c) := PC.below hq1 PC.lt
  replace P11 : Bk2 w25 (w11.heap.size) (.bool false) (.slice A11 0 c11) := P11.below hq1 P11.lt
  replace F12 : Bk2 w25 (w11.heap.size + 1) (.int .i64 22) (.int .i64 (-3)) := F12.below hq1 F12.lt
  replace F15 : Bk2 w25 (w20.heap.size) (.int .i64 0) (.int .i64 0) := F15.below hq1 F15.lt
  clear hq1
  have y_F150 : w25.cell? ⟨w20.heap.size, 0, none⟩ = some ((.int .i64 0)) := F15.c0
  have z_F150 : w25.frozen? ⟨w20.heap.size, 0, none⟩ = false := F15.z0
  have y_F151 : w25.cell? ⟨w20.heap.size, 1, none⟩ = some ((.int .i64 0)) := F15.c1
  have z_F151 : w25.frozen? ⟨w20.heap.size, 1, none⟩ = false := F15.z1
  have lt_F15 := F15.lt
  have t_F120 : w25.cell? ⟨w11.heap.size + 1, 0, none⟩ = some ((.int .i64 22)) := F12.c0
  have t_F121 : w25.cell? ⟨w11.heap.size + 1, 1, none⟩ = some ((.int .i64 (-3))) := F12.c1
  have lt_F12 := F12.lt
  have t_P110 : w25.cell? ⟨w11.heap.size, 0, none⟩ = some ((.bool false)) := P11.c0
  have t_P111 : w25.cell? ⟨w11.heap.size, 1, none⟩ = some ((.slice A11 0 c11)) := P11.c1
  have lt_P11 := P11.lt
  go_wp2_with fail
  clear y_F150 z_F150 y_F151 z_F151 lt_F15 t_F120 t_F121 lt_F12 t_P110 t_P111 lt_P11
  obtain ⟨U6F15, hU6F15⟩ : ∃ U6F15 : World, U6F15 = ((w25.setCell ⟨w20.heap.size, 0, none⟩ (.int .i64 22)).setCell ⟨w20.heap.size, 1, none⟩ (.int .i64 (-3))) := ⟨_, rfl⟩
  have zU6F15 : U6F15.heap.size = w25.heap.size := by rw [hU6F15]; simp [World.setCell]
  replace E : Below w.heap.size w U6F15 := by rw [hU6F15]; exact (E.setCell (by first | (simp; done) | (simp; omega)) _).setCell (by first | (simp; done) | (simp; omega)) _
  replace HA : LRd U6F15 (w.heap.size) a.A a.n a.c a.xs := by rw [hU6F15]; first | exact HA.setB F15 (by simp) (by simp) _ _ | exact HA.setFar2 (by omega) _ _
  replace HB : LRd U6F15 (w.heap.size) b.A b.n b.c b.xs := by rw [hU6F15]; first | exact HB.setB F15 (by simp) (by simp) _ _ | exact HB.setFar2 (by omega) _ _
  replace HC : LRd U6F15 (w.heap.size) c.A c.n c.c c.xs := by rw [hU6F15]; first | exact HC.setB F15 (by simp) (by simp) _ _ | exact HC.setFar2 (by omega) _ _
  replace PA : Bk2 U6F15 (w.heap.size) (.bool a.neg) (.slice a.A a.n a.c) := by rw [hU6F15]; exact PA.far2 (by omega) _ _
  replace PB : Bk2 U6F15 (w.heap.size + 1) (.bool false) (.slice b.A b.n b.c) := by rw [hU6F15]; exact PB.far2 (by omega) _ _
  replace PC : Bk2 U6F15 (w.heap.size + 2) (.bool false) (.slice c.A c.n c.c) := by rw [hU6F15]; exact PC.far2 (by omega) _ _
  replace P11 : Bk2 U6F15 (w11.heap.size) (.bool false) (.slice A11 0 c11) := by rw [hU6F15]; exact P11.far2 (by omega) _ _
  replace F12 : Bk2 U6F15 (w11.heap.size + 1) (.int .i64 22) (.int .i64 (-3)) := by rw [hU6F15]; exact F12.far2 (by omega) _ _
  replace F15 : Bk2 U6F15 (w20.heap.size) (.int .i64 22) (.int .i64 (-3)) := by rw [hU6F15]; exact F15.set _ _
  rw [← hU6F15]
  clear hU6F15
  have zU6F15' := Nat.le_of_eq zU6F15
  replace zU6F15 := Nat.le_of_eq zU6F15.symm
  (with_reducible refine (noInt_any _ false A11 0 c11 (by omega)).mono ?_)
  rintro e w30 ⟨rfl, hq⟩
  have sw30 := hq.size
  replace E : Below w.heap.size w w30 := E.trans (hq.mono E.size)
  replace HA : LRd w30 (w.heap.size) a.A a.n a.c a.xs := HA.below hq (by omega)
  replace HB : LRd w30 (w.heap.size) b.A b.n b.c b.xs := HB.below hq (by omega)
  replace HC : LRd w30 (w.heap.size) c.A c.n c.c c.xs := HC.below hq (by omega)
  replace PA : Bk2 w30 (w.heap.size) (.bool a.neg) (.slice a.A a.n a.c) := PA.below hq PA.lt
  replace PB : Bk2 w30 (w.heap.size + 1) (.bool false) (.slice b.A b.n b.c) := PB.below hq PB.lt
  replace PC : Bk2 w30 (w.heap.size + 2) (.bool false) (.slice c.A c.n c.c) := PC.below hq PC.lt
  replace P11 : Bk2 w30 (w11.heap.size) (.bool false) (.slice A11 0 c11) := P11.below hq P11.lt
  replace F12 : Bk2 w30 (w11.heap.size + 1) (.int .i64 22) (.int .i64 (-3)) := F12.below hq F12.lt
  replace F15 : Bk2 w30 (w20.heap.size) (.int .i64 22) (.int .i64 (-3)) := F15.below hq F15.lt
  clear hq
  rw [show (!false && decide (0 = 0)) = true from rfl]
  go_wp2_with fail
  go_ret
  exact ⟨by first | rfl | (simp; done), E⟩
end Go.Proofs.Ytpidkionieaffaa
