/- IntegerPowers: numbers, and the law where the rest has the exponent 0. -/
import Derived.Test.YtpidkionieaffaaLPws1
import Derived.Test.YtpidkionieaffaaLFloorU
import Derived.Test.YtpidkionieaffaaLe
import Derived.Test.YtpidkionieaffaaLj
namespace Go.Proofs.Ytpidkionieaffaa
open Go.RowKit
set_option maxHeartbeats 400000
set_option maxRecDepth 100000
set_option linter.unusedSimpArgs false
set_option linter.unusedVariables false

theorem floor_emod {x m q r : Int} (h : FloorOf x m q r) (hm : 0 < m) : r = x % m := by
  obtain ⟨h1, h2⟩ := h
  have h0 : 0 ≤ r ∧ r < m := by omega
  rw [h1, Int.add_comm, Int.add_mul_emod_self_right, Int.emod_eq_of_lt h0.1 h0.2]
theorem pv_even {x m : Int} {k e : Nat} (he : e = 2 * k) : (x ^ k % m) * (x ^ k % m) % m = x ^ e % m := by
  rw [he, ← Int.mul_emod, ← Int.pow_add]
  congr 2
  omega
theorem pv_odd {x m : Int} {k e : Nat} (he : e = 2 * k + 1) : ((x ^ k % m) * (x ^ k % m) % m * x) % m = x ^ e % m := by
  rw [pv_even (e := 2 * k) rfl, he, Int.pow_succ, Int.mul_emod, Int.emod_emod_of_dvd _ (Int.dvd_refl m), ← Int.mul_emod]
theorem emod_abs {x m : Int} {T : Nat} (hm : 0 < m) (h : m.natAbs < T) : (x % m).natAbs < T := by
  have h1 := Int.emod_nonneg x (by omega : m ≠ 0)
  have h2 := Int.emod_lt_of_pos x hm
  omega
set_option maxHeartbeats 16000000 in
theorem pws_one (w : World) (a b c : IV) (i : Int) (i1 : -9223372036854775808 ≤ i) (i2 : i ≤ 9223372036854775807) (HA : a.at w w.heap.size) (HB : b.at w w.heap.size) (HC : c.at w w.heap.size) (oa : a.ok = true) (ob : b.ok = true) (oc : c.ok = true) (hb : Hid (b.neg = false)) (hc : Hid (c.neg = false)) (h0 : 0 < c.n) (hz : Hid (b.n = 0)) :
    Calls Try.prog 6 #[a.v, .int .i64 i, b.v, c.v] w (fun e w' => e = .returned (.bool true) ∧ Below w.heap.size w w') := by
  replace HA : LRd w w.heap.size a.A a.n a.c a.xs := HA
  replace HB : LRd w w.heap.size b.A b.n b.c b.xs := HB
  replace HC : LRd w w.heap.size c.A c.n c.c c.xs := HC
  have hlb : b.xs.length = b.n := HB.len.out
  have BZ := Lib.hid (show vb 4294967296 b.xs = 0 by rw [List.length_eq_zero_iff.1 (show b.xs.length = 0 by have := hz.out; omega)]; rfl)
  clear hlb
  have hf : ffault [a, b, c] 0 = (0, 0) := three_ok oa ob oc
  have E : Below w.heap.size w w := Below.refl _ _
  go_enter Try.func6, Try.ntmps6
  go_wp2_with fail
  obtain ⟨V0, hV0⟩ : ∃ V0 : World, V0 = (((w.alloc (.cells #[.bool a.neg, .slice a.A a.n a.c] 24)).alloc (.cells #[.bool b.neg, .slice b.A b.n b.c] 24)).alloc (.cells #[.bool c.neg, .slice c.A c.n c.c] 24)) := ⟨_, rfl⟩
  have bV0 : Below w.heap.size w V0 := by rw [hV0]; (repeat (first | with_reducible exact Below.refl _ _ | with_reducible refine Below.drew ?_ | with_reducible refine below_drewN ?_ _ | with_reducible refine Below.setCell ?_ (by first | (simp; done) | (simp; omega) | omega) _ | with_reducible refine Below.alloc ?_ (by first | (simp; done) | (simp; omega) | omega) _))
  have zV0 : w.heap.size + 3 ≤ V0.heap.size := by rw [hV0]; simp
  have PA : Bk2 V0 (w.heap.size) (.bool a.neg) (.slice a.A a.n a.c) := by rw [hV0]; exact (((Bk2.newAt _ _ (by simp) _ _ _).alloc _).alloc _)
  have PB : Bk2 V0 (w.heap.size + 1) (.bool b.neg) (.slice b.A b.n b.c) := by rw [hV0]; exact ((Bk2.newAt _ _ (by simp) _ _ _).alloc _)
  have PC : Bk2 V0 (w.heap.size + 2) (.bool c.neg) (.slice c.A c.n c.c) := by rw [hV0]; exact (Bk2.newAt _ _ (by simp) _ _ _)
  rw [← hV0]
  clear hV0
  replace E : Below w.heap.size w V0 := E.trans (bV0.mono E.size)
  replace HA : LRd V0 (w.heap.size) a.A a.n a.c a.xs := HA.below bV0 (by omega)
  replace HB : LRd V0 (w.heap.size) b.A b.n b.c b.xs := HB.below bV0 (by omega)
  replace HC : LRd V0 (w.heap.size) c.A c.n c.c c.xs := HC.below bV0 (by omega)
  clear bV0
  refine (ipow_any _ w.heap.size a i HA (by omega)).mono ?_
  rintro e w9 ⟨z9, g1, g2, hpw, n9, A9, k9, c9, x9, rfl, hl9, hr9, hb9⟩
  have PW := Lib.hid hpw
  have I9 := Lib.hid hr9
  clear hpw hr9
  have sw9 := hb9.size
  replace E : Below w.heap.size w w9 := E.trans (hb9.mono E.size)
  replace HA : LRd w9 (w.heap.size) a.A a.n a.c a.xs := HA.below hb9 (by omega)
  replace HB : LRd w9 (w.heap.size) b.A b.n b.c b.xs := HB.below hb9 (by omega)
  replace HC : LRd w9 (w.heap.size) c.A c.n c.c c.xs := HC.below hb9 (by omega)
  replace PA : Bk2 w9 (w.heap.size) (.bool a.neg) (.slice a.A a.n a.c) := PA.below hb9 PA.lt
  replace PB : Bk2 w9 (w.heap.size + 1) (.bool b.neg) (.slice b.A b.n b.c) := PB.below hb9 PB.lt
  replace PC : Bk2 w9 (w.heap.size + 2) (.bool c.neg) (.slice c.A c.n c.c) := PC.below hb9 PC.lt
  clear hb9
  have t_PA0 : ((w9.alloc (.cells #[.bool n9, .slice A9 k9 c9] 24)).alloc (.cells #[.int .i64 g1, .int .i64 g2] 26)).cell? ⟨w.heap.size, 0, none⟩ = some ((.bool a.neg)) := ((PA.alloc _).alloc _).c0
  have t_PA1 : ((w9.alloc (.cells #[.bool n9, .slice A9 k9 c9] 24)).alloc (.cells #[.int .i64 g1, .int .i64 g2] 26)).cell? ⟨w.heap.size, 1, none⟩ = some ((.slice a.A a.n a.c)) := ((PA.alloc _).alloc _).c1
  have t_PB0 : ((w9.alloc (.cells #[.bool n9, .slice A9 k9 c9] 24)).alloc (.cells #[.int .i64 g1, .int .i64 g2] 26)).cell? ⟨w.heap.size + 1, 0, none⟩ = some ((.bool b.neg)) := ((PB.alloc _).alloc _).c0
  have t_PB1 : ((w9.alloc (.cells #[.bool n9, .slice A9 k9 c9] 24)).alloc (.cells #[.int .i64 g1, .int .i64 g2] 26)).cell? ⟨w.heap.size + 1, 1, none⟩ = some ((.slice b.A b.n b.c)) := ((PB.alloc _).alloc _).c1
  have t_PC0 : ((w9.alloc (.cells #[.bool n9, .slice A9 k9 c9] 24)).alloc (.cells #[.int .i64 g1, .int .i64 g2] 26)).cell? ⟨w.heap.size + 2, 0, none⟩ = some ((.bool c.neg)) := ((PC.alloc _).alloc _).c0
  have t_PC1 : ((w9.alloc (.cells #[.bool n9, .slice A9 k9 c9] 24)).alloc (.cells #[.int .i64 g1, .int .i64 g2] 26)).cell? ⟨w.heap.size + 2, 1, none⟩ = some ((.slice c.A c.n c.c)) := ((PC.alloc _).alloc _).c1
  go_wp2_with fail
  clear t_PA0 t_PA1 t_PB0 t_PB1 t_PC0 t_PC1
  obtain ⟨V1, hV1⟩ : ∃ V1 : World, V1 = ((w9.alloc (.cells #[.bool n9, .slice A9 k9 c9] 24)).alloc (.cells #[.int .i64 g1, .int .i64 g2] 26)) := ⟨_, rfl⟩
  have bV1 : Below w9.heap.size w9 V1 := by rw [hV1]; (repeat (first | with_reducible exact Below.refl _ _ | with_reducible refine Below.drew ?_ | with_reducible refine below_drewN ?_ _ | with_reducible refine Below.setCell ?_ (by first | (simp; done) | (simp; omega) | omega) _ | with_reducible refine Below.alloc ?_ (by first | (simp; done) | (simp; omega) | omega) _))
  have zV1 : w9.heap.size + 2 ≤ V1.heap.size := by rw [hV1]; simp
  have P9 : Bk2 V1 (w9.heap.size) (.bool n9) (.slice A9 k9 c9) := by rw [hV1]; exact ((Bk2.newAt _ _ (by simp) _ _ _).alloc _)
  have F10 : Bk2 V1 (w9.heap.size + 1) (.int .i64 g1) (.int .i64 g2) := by rw [hV1]; exact (Bk2.newAt _ _ (by simp) _ _ _)
  rw [← hV1]
  clear hV1
  replace E : Below w.heap.size w V1 := E.trans (bV1.mono E.size)
  replace HA : LRd V1 (w.heap.size) a.A a.n a.c a.xs := HA.below bV1 (by omega)
  replace HB : LRd V1 (w.heap.size) b.A b.n b.c b.xs := HB.below bV1 (by omega)
  replace HC : LRd V1 (w.heap.size) c.A c.n c.c c.xs := HC.below bV1 (by omega)
  replace PA : Bk2 V1 (w.heap.size) (.bool a.neg) (.slice a.A a.n a.c) := PA.below bV1 PA.lt
  replace PB : Bk2 V1 (w.heap.size + 1) (.bool b.neg) (.slice b.A b.n b.c) := PB.below bV1 PB.lt
  replace PC : Bk2 V1 (w.heap.size + 2) (.bool c.neg) (.slice c.A c.n c.c) := PC.below bV1 PC.lt
  replace hl9 : LRd V1 (w9.heap.size) A9 k9 c9 x9 := hl9.below bV1 (by omega)
  clear bV1
  refine (ipm_ok _ w.heap.size a b c HA HB HC (by omega) oa ob oc hb hc h0).mono ?_
  rintro e w11 ⟨n11, A11, k11, c11, x11, rfl, hl11, hr11, hb11⟩
  have I11 := Lib.hid hr11
  clear hr11
  have sw11 := hb11.size
  replace E : Below w.heap.size w w11 := E.trans (hb11.mono E.size)
  replace HA : LRd w11 (w.heap.size) a.A a.n a.c a.xs := HA.below hb11 (by omega)
  replace HB : LRd w11 (w.heap.size) b.A b.n b.c b.xs := HB.below hb11 (by omega)
  replace HC : LRd w11 (w.heap.size) c.A c.n c.c c.xs := HC.below hb11 (by omega)
  replace PA : Bk2 w11 (w.heap.size) (.bool a.neg) (.slice a.A a.n a.c) := PA.below hb11 PA.lt
  replace PB : Bk2 w11 (w.heap.size + 1) (.bool b.neg) (.slice b.A b.n b.c) := PB.below hb11 PB.lt
  replace PC : Bk2 w11 (w.heap.size + 2) (.bool c.neg) (.slice c.A c.n c.c) := PC.below hb11 PC.lt
  replace hl9 : LRd w11 (w9.heap.size) A9 k9 c9 x9 := hl9.below hb11 (by omega)
  replace P9 : Bk2 w11 (w9.heap.size) (.bool n9) (.slice A9 k9 c9) := P9.below hb11 P9.lt
  replace F10 : Bk2 w11 (w9.heap.size + 1) (.int .i64 g1) (.int .i64 g2) := F10.below hb11 F10.lt
  clear hb11
  go_wp2_with fail
  obtain ⟨V2, hV2⟩ : ∃ V2 : World, V2 = ((w11.alloc (.cells #[.bool n11, .slice A11 k11 c11] 24)).alloc (.cells #[.int .i64 0, .int .i64 0] 26)) := ⟨_, rfl⟩
  have bV2 : Below w11.heap.size w11 V2 := by rw [hV2]; (repeat (first | with_reducible exact Below.refl _ _ | with_reducible refine Below.drew ?_ | with_reducible refine below_drewN ?_ _ | with_reducible refine Below.setCell ?_ (by first | (simp; done) | (simp; omega) | omega) _ | with_reducible refine Below.alloc ?_ (by first | (simp; done) | (simp; omega) | omega) _))
  have zV2 : w11.heap.size + 2 ≤ V2.heap.size := by rw [hV2]; simp
  have P11 : Bk2 V2 (w11.heap.size) (.bool n11) (.slice A11 k11 c11) := by rw [hV2]; exact ((Bk2.newAt _ _ (by simp) _ _ _).alloc _)
  have F12 : Bk2 V2 (w11.heap.size + 1) (.int .i64 0) (.int .i64 0) := by rw [hV2]; exact (Bk2.newAt _ _ (by simp) _ _ _)
  rw [← hV2]
  clear hV2
  replace E : Below w.heap.size w V2 := E.trans (bV2.mono E.size)
  replace HA : LRd V2 (w.heap.size) a.A a.n a.c a.xs := HA.below bV2 (by omega)
  replace HB : LRd V2 (w.heap.size) b.A b.n b.c b.xs := HB.below bV2 (by omega)
  replace HC : LRd V2 (w.heap.size) c.A c.n c.c c.xs := HC.below bV2 (by omega)
  replace PA : Bk2 V2 (w.heap.size) (.bool a.neg) (.slice a.A a.n a.c) := PA.below bV2 PA.lt
  replace PB : Bk2 V2 (w.heap.size + 1) (.bool b.neg) (.slice b.A b.n b.c) := PB.below bV2 PB.lt
  replace PC : Bk2 V2 (w.heap.size + 2) (.bool c.neg) (.slice c.A c.n c.c) := PC.below bV2 PC.lt
  replace hl9 : LRd V2 (w9.heap.size) A9 k9 c9 x9 := hl9.below bV2 (by omega)
  replace P9 : Bk2 V2 (w9.heap.size) (.bool n9) (.slice A9 k9 c9) := P9.below bV2 P9.lt
  replace F10 : Bk2 V2 (w9.heap.size + 1) (.int .i64 g1) (.int .i64 g2) := F10.below bV2 F10.lt
  replace hl11 : LRd V2 (w11.heap.size) A11 k11 c11 x11 := hl11.below bV2 (by omega)
  clear bV2
  (with_reducible refine (counts_any _).mono ?_)
  rintro e w13 ⟨rfl, hb13⟩
  have sw13 := hb13.size
  replace E : Below w.heap.size w w13 := E.trans (hb13.mono E.size)
  replace HA : LRd w13 (w.heap.size) a.A a.n a.c a.xs := HA.below hb13 (by omega)
  replace HB : LRd w13 (w.heap.size) b.A b.n b.c b.xs := HB.below hb13 (by omega)
  replace HC : LRd w13 (w.heap.size) c.A c.n c.c c.xs := HC.below hb13 (by omega)
  replace PA : Bk2 w13 (w.heap.size) (.bool a.neg) (.slice a.A a.n a.c) := PA.below hb13 PA.lt
  replace PB : Bk2 w13 (w.heap.size + 1) (.bool b.neg) (.slice b.A b.n b.c) := PB.below hb13 PB.lt
  replace PC : Bk2 w13 (w.heap.size + 2) (.bool c.neg) (.slice c.A c.n c.c) := PC.below hb13 PC.lt
  replace hl9 : LRd w13 (w9.heap.size) A9 k9 c9 x9 := hl9.below hb13 (by omega)
  replace P9 : Bk2 w13 (w9.heap.size) (.bool n9) (.slice A9 k9 c9) := P9.below hb13 P9.lt
  replace F10 : Bk2 w13 (w9.heap.size + 1) (.int .i64 g1) (.int .i64 g2) := F10.below hb13 F10.lt
  replace hl11 : LRd w13 (w11.heap.size) A11 k11 c11 x11 := hl11.below hb13 (by omega)
  replace P11 : Bk2 w13 (w11.heap.size) (.bool n11) (.slice A11 k11 c11) := P11.below hb13 P11.lt
  replace F12 : Bk2 w13 (w11.heap.size + 1) (.int .i64 0) (.int .i64 0) := F12.below hb13 F12.lt
  clear hb13
  go_upto_block 0 with fail
  go_cut [] (fun wx => Below w13.heap.size w13 wx)
  case first =>
    have E0 : Below w13.heap.size w13 w13 := Below.refl _ _
    clear E PB PC P11 F12 HB HC hl11
    have t_PA0 : w13.cell? ⟨w.heap.size, 0, none⟩ = some ((.bool a.neg)) := PA.c0
    have t_PA1 : w13.cell? ⟨w.heap.size, 1, none⟩ = some ((.slice a.A a.n a.c)) := PA.c1
    go_wp2_with fail
    clear t_PA0 t_PA1
    (with_reducible refine (intOk_any _ w.heap.size a.neg a.A a.n a.c a.xs HA (by omega)).mono ?_)
    rintro e w14 ⟨rfl, hb14⟩
    have sw14 := hb14.size
    replace HA : LRd w14 (w.heap.size) a.A a.n a.c a.xs := HA.below hb14 (by omega)
    replace PA : Bk2 w14 (w.heap.size) (.bool a.neg) (.slice a.A a.n a.c) := PA.below hb14 PA.lt
    replace hl9 : LRd w14 (w9.heap.size) A9 k9 c9 x9 := hl9.below hb14 (by omega)
    replace P9 : Bk2 w14 (w9.heap.size) (.bool n9) (.slice A9 k9 c9) := P9.below hb14 P9.lt
    replace F10 : Bk2 w14 (w9.heap.size + 1) (.int .i64 g1) (.int .i64 g2) := F10.below hb14 F10.lt
    replace E0 : Below w13.heap.size w13 w14 := E0.trans (hb14.mono E0.size)
    clear hb14
    obtain ⟨va, hva⟩ : ∃ va, ivld a.neg a.xs = va := ⟨_, rfl⟩
    rw [hva]
    have HVA := Lib.hid hva
    clear hva
    rcases PW.out with ⟨na, rfl, rfl, rfl⟩ | ⟨oa, hz, rfl, rfl, rfl⟩ | ⟨oa, n, rfl, hn, hyr⟩
    · obtain rfl : va = false := HVA.out.symm.trans na
      obtain ⟨rfl, rfl⟩ := irep_nil I9.out hl9.len.out
      go_upto_region 9 with fail
      have G0 : Below w14.heap.size w14 w14.drew := Below.drew (Below.refl _ _)
      have HS := Lib.hid (fun (u : World) (hu : Below w14.heap.size w14 u) => (⟨hu, (P9.below hu P9.lt).c0, (P9.below hu P9.lt).c1, (F10.below hu F10.lt).c0, (F10.below hu F10.lt).c1⟩ : Below w14.heap.size w14 u ∧ u.cell? ⟨w9.heap.size, 0, none⟩ = some (.bool false) ∧ u.cell? ⟨w9.heap.size, 1, none⟩ = some (.slice A9 0 c9) ∧ u.cell? ⟨w9.heap.size + 1, 0, none⟩ = some (.int .i64 6) ∧ u.cell? ⟨w9.heap.size + 1, 1, none⟩ = some (.int .i64 (-1))))
      go_region_held3 (fun u => Below w14.heap.size w14 u ∧ u.cell? ⟨w9.heap.size, 0, none⟩ = some (.bool false) ∧ u.cell? ⟨w9.heap.size, 1, none⟩ = some (.slice A9 0 c9) ∧ u.cell? ⟨w9.heap.size + 1, 0, none⟩ = some (.int .i64 6) ∧ u.cell? ⟨w9.heap.size + 1, 1, none⟩ = some (.int .i64 (-1))) (first | with_reducible exact HS.out _ G0 | with_reducible exact HS.out _ B2 | with_reducible exact HS.out _ B1 | fail)
        (first
          | (go_at_call 25; (with_reducible refine (at_any _ _ _).mono ?_); rintro e u1 ⟨rfl, hB1⟩; have B1 : Below w14.heap.size w14 u1 := bnext G0 hB1)
          | (go_at_call 26; (with_reducible refine (noInt_any _ false A9 0 c9 (by omega)).mono ?_); rintro e u2 ⟨rfl, hB2⟩; have B2 : Below w14.heap.size w14 u2 := bnext B1 hB2; rw [show (!false && decide (0 = 0)) = true from rfl])
          | fail)
      all_goals (go_wp2_with fail)
      all_goals go_meet
      all_goals (case rel => exact E0.trans (B2.mono E0.size))
    · obtain rfl : va = true := HVA.out.symm.trans oa
      obtain ⟨rfl, rfl⟩ := irep_nil I9.out hl9.len.out
      rcases hz with hz | hz
      · go_upto_region 12 with fail
        have G0 : Below w14.heap.size w14 w14.drew := Below.drew (Below.refl _ _)
        have HS := Lib.hid (fun (u : World) (hu : Below w14.heap.size w14 u) => (⟨hu, (P9.below hu P9.lt).c0, (P9.below hu P9.lt).c1, (F10.below hu F10.lt).c0, (F10.below hu F10.lt).c1⟩ : Below w14.heap.size w14 u ∧ u.cell? ⟨w9.heap.size, 0, none⟩ = some (.bool false) ∧ u.cell? ⟨w9.heap.size, 1, none⟩ = some (.slice A9 0 c9) ∧ u.cell? ⟨w9.heap.size + 1, 0, none⟩ = some (.int .i64 4) ∧ u.cell? ⟨w9.heap.size + 1, 1, none⟩ = some (.int .i64 (-2))))
        go_region_held3 (fun u => Below w14.heap.size w14 u ∧ u.cell? ⟨w9.heap.size, 0, none⟩ = some (.bool false) ∧ u.cell? ⟨w9.heap.size, 1, none⟩ = some (.slice A9 0 c9) ∧ u.cell? ⟨w9.heap.size + 1, 0, none⟩ = some (.int .i64 4) ∧ u.cell? ⟨w9.heap.size + 1, 1, none⟩ = some (.int .i64 (-2))) (first | with_reducible exact HS.out _ G0 | with_reducible exact HS.out _ B2 | with_reducible exact HS.out _ B1 | fail)
          (first
            | (go_at_call 25; (with_reducible refine (at_any _ _ _).mono ?_); rintro e u1 ⟨rfl, hB1⟩; have B1 : Below w14.heap.size w14 u1 := bnext G0 hB1)
            | (go_at_call 26; (with_reducible refine (noInt_any _ false A9 0 c9 (by omega)).mono ?_); rintro e u2 ⟨rfl, hB2⟩; have B2 : Below w14.heap.size w14 u2 := bnext B1 hB2; rw [show (!false && decide (0 = 0)) = true from rfl])
            | fail)
        all_goals (go_wp2_with fail)
        all_goals go_meet
        all_goals (case rel => exact E0.trans (B2.mono E0.size))
      · go_upto_region 12 with fail
        have G0 : Below w14.heap.size w14 w14.drew := Below.drew (Below.refl _ _)
        have HS := Lib.hid (fun (u : World) (hu : Below w14.heap.size w14 u) => (⟨hu, (P9.below hu P9.lt).c0, (P9.below hu P9.lt).c1, (F10.below hu F10.lt).c0, (F10.below hu F10.lt).c1⟩ : Below w14.heap.size w14 u ∧ u.cell? ⟨w9.heap.size, 0, none⟩ = some (.bool false) ∧ u.cell? ⟨w9.heap.size, 1, none⟩ = some (.slice A9 0 c9) ∧ u.cell? ⟨w9.heap.size + 1, 0, none⟩ = some (.int .i64 4) ∧ u.cell? ⟨w9.heap.size + 1, 1, none⟩ = some (.int .i64 (-2))))
        go_region_held3 (fun u => Below w14.heap.size w14 u ∧ u.cell? ⟨w9.heap.size, 0, none⟩ = some (.bool false) ∧ u.cell? ⟨w9.heap.size, 1, none⟩ = some (.slice A9 0 c9) ∧ u.cell? ⟨w9.heap.size + 1, 0, none⟩ = some (.int .i64 4) ∧ u.cell? ⟨w9.heap.size + 1, 1, none⟩ = some (.int .i64 (-2))) (first | with_reducible exact HS.out _ G0 | with_reducible exact HS.out _ B2 | with_reducible exact HS.out _ B1 | fail)
          (first
            | (go_at_call 25; (with_reducible refine (at_any _ _ _).mono ?_); rintro e u1 ⟨rfl, hB1⟩; have B1 : Below w14.heap.size w14 u1 := bnext G0 hB1)
            | (go_at_call 26; (with_reducible refine (noInt_any _ false A9 0 c9 (by omega)).mono ?_); rintro e u2 ⟨rfl, hB2⟩; have B2 : Below w14.heap.size w14 u2 := bnext B1 hB2; rw [show (!false && decide (0 = 0)) = true from rfl])
            | fail)
        all_goals (go_wp2_with fail)
        all_goals go_meet
        all_goals (case rel => exact E0.trans (B2.mono E0.size))
    · obtain rfl : va = true := HVA.out.symm.trans oa
      have hn1 : (0 : Int) ≤ (n : Int) := by omega
      have hn2 : (n : Int) ≤ 10000 := by omega
      have YY := Lib.hid hyr
      clear hyr
      have t_PA0 : w14.cell? ⟨w.heap.size, 0, none⟩ = some ((.bool a.neg)) := PA.c0
      have t_PA1 : w14.cell? ⟨w.heap.size, 1, none⟩ = some ((.slice a.A a.n a.c)) := PA.c1
      go_wp2_with fail
      clear t_PA0 t_PA1
      (with_reducible refine (intOf_any _ w.heap.size a.neg a.A a.n a.c a.xs HA (by omega) (by have := HA.len.out; have := (IV.vld oa).2; omega)).mono ?_)
      rintro e w15 ⟨mp, Ap, kp, cp, xp, vp, rfl, hdp, hrp, hvp, hb15⟩
      have sw15 := hb15.size
      replace HA : LRd w15 (w.heap.size) a.A a.n a.c a.xs := HA.below hb15 (by omega)
      replace PA : Bk2 w15 (w.heap.size) (.bool a.neg) (.slice a.A a.n a.c) := PA.below hb15 PA.lt
      replace hl9 : LRd w15 (w9.heap.size) A9 k9 c9 x9 := hl9.below hb15 (by omega)
      replace P9 : Bk2 w15 (w9.heap.size) (.bool n9) (.slice A9 k9 c9) := P9.below hb15 P9.lt
      replace F10 : Bk2 w15 (w9.heap.size + 1) (.int .i64 g1) (.int .i64 g2) := F10.below hb15 F10.lt
      replace E0 : Below w13.heap.size w13 w15 := E0.trans (hb15.mono E0.size)
      clear hb15
      have VP := Lib.hid (show sval mp vp = a.val from hvp)
      have KP := len512 hrp hdp.len.out (top_sq (by have := abs_sval VP.out; have e2 := IV.abs a; have := lt128 (⟨HA.lim, rfl, (vld_top (IV.vld oa).1).1⟩ : Rep 4294967296 a.xs (vb 4294967296 a.xs)) rfl (IV.vld oa).2; omega))
      have RP := Lib.hid hrp
      clear hrp hvp
      go_wp2_with fail
      refine (raised_any _ w15.heap.size mp Ap kp cp vp n xp hdp (by omega) RP.out KP hn).mono ?_
      rintro e w16 hrs
      rw [VP.out] at hrs
      rcases hrs with ⟨mr, Ar, kr, cr, xr, vr, rfl, hdr, hrr, hvr, hsm, hb16⟩ | ⟨rfl, hbig, hb16⟩
      · have sw16 := hb16.size
        obtain ⟨rfl, rfl, rfl⟩ : z9 = a.val ^ n ∧ g1 = 0 ∧ g2 = 0 := by
          rcases YY.out with ⟨_, h1, h2, h3⟩ | ⟨h1, _⟩
          · exact ⟨h1, h2, h3⟩
          · exact absurd hsm (Nat.not_lt_of_le h1)
        have KR := len512 hrr hdr.len.out (top_sq (by have := abs_sval hvr; omega))
        have RR := Lib.hid hrr
        have VR := Lib.hid hvr
        have SM := Lib.hid hsm
        clear hrr hvr hsm
        clear hdp
        replace HA : LRd w16 (w.heap.size) a.A a.n a.c a.xs := HA.below hb16 (by omega)
        replace PA : Bk2 w16 (w.heap.size) (.bool a.neg) (.slice a.A a.n a.c) := PA.below hb16 PA.lt
        replace hl9 : LRd w16 (w9.heap.size) A9 k9 c9 x9 := hl9.below hb16 (by omega)
        replace P9 : Bk2 w16 (w9.heap.size) (.bool n9) (.slice A9 k9 c9) := P9.below hb16 P9.lt
        replace F10 : Bk2 w16 (w9.heap.size + 1) (.int .i64 0) (.int .i64 0) := F10.below hb16 F10.lt
        replace E0 : Below w13.heap.size w13 w16 := E0.trans (hb16.mono E0.size)
        clear hb16
        go_upto_region 6 with fail
        obtain ⟨V6, hV6⟩ : ∃ V6 : World, V6 = (w16.alloc (.cells #[.bool mr, .slice Ar kr cr] 37)) := ⟨_, rfl⟩
        have bV6 : Below w16.heap.size w16 V6 := by rw [hV6]; (repeat (first | with_reducible exact Below.refl _ _ | with_reducible refine Below.drew ?_ | with_reducible refine below_drewN ?_ _ | with_reducible refine Below.setCell ?_ (by first | (simp; done) | (simp; omega) | omega) _ | with_reducible refine Below.alloc ?_ (by first | (simp; done) | (simp; omega) | omega) _))
        have zV6 : w16.heap.size + 1 ≤ V6.heap.size := by rw [hV6]; simp
        have P13 : Bk2 V6 (w16.heap.size) (.bool mr) (.slice Ar kr cr) := by rw [hV6]; exact (Bk2.newAt _ _ (by simp) _ _ _)
        rw [← hV6]
        clear hV6
        replace HA : LRd V6 (w.heap.size) a.A a.n a.c a.xs := HA.below bV6 (by omega)
        replace PA : Bk2 V6 (w.heap.size) (.bool a.neg) (.slice a.A a.n a.c) := PA.below bV6 PA.lt
        replace hl9 : LRd V6 (w9.heap.size) A9 k9 c9 x9 := hl9.below bV6 (by omega)
        replace P9 : Bk2 V6 (w9.heap.size) (.bool n9) (.slice A9 k9 c9) := P9.below bV6 P9.lt
        replace F10 : Bk2 V6 (w9.heap.size + 1) (.int .i64 0) (.int .i64 0) := F10.below bV6 F10.lt
        replace E0 : Below w13.heap.size w13 V6 := E0.trans (bV6.mono E0.size)
        replace hdr : DRd V6 (w16.heap.size) Ar kr cr xr := hdr.below bV6 (by omega)
        clear bV6
        have G0 : Below V6.heap.size V6 V6.drew := Below.drew (Below.refl _ _)
        have HS := Lib.hid (fun (u : World) (hu : Below V6.heap.size V6 u) => (⟨hu, (P9.below hu P9.lt).c0, (P9.below hu P9.lt).c1, (F10.below hu F10.lt).c0, (F10.below hu F10.lt).c1, (P13.below hu P13.lt).c0, (P13.below hu P13.lt).c1⟩ : Below V6.heap.size V6 u ∧ u.cell? ⟨w9.heap.size, 0, none⟩ = some (.bool n9) ∧ u.cell? ⟨w9.heap.size, 1, none⟩ = some (.slice A9 k9 c9) ∧ u.cell? ⟨w9.heap.size + 1, 0, none⟩ = some (.int .i64 0) ∧ u.cell? ⟨w9.heap.size + 1, 1, none⟩ = some (.int .i64 0) ∧ u.cell? ⟨w16.heap.size, 0, none⟩ = some (.bool mr) ∧ u.cell? ⟨w16.heap.size, 1, none⟩ = some (.slice Ar kr cr)))
        refine wp_region_held_drew (S := (fun u => Below V6.heap.size V6 u ∧ u.cell? ⟨w9.heap.size, 0, none⟩ = some (.bool n9) ∧ u.cell? ⟨w9.heap.size, 1, none⟩ = some (.slice A9 k9 c9) ∧ u.cell? ⟨w9.heap.size + 1, 0, none⟩ = some (.int .i64 0) ∧ u.cell? ⟨w9.heap.size + 1, 1, none⟩ = some (.int .i64 0) ∧ u.cell? ⟨w16.heap.size, 0, none⟩ = some (.bool mr) ∧ u.cell? ⟨w16.heap.size, 1, none⟩ = some (.slice Ar kr cr))) (by kernel_rfl) (HS.out _ G0) (fun hHeld => ?_)
        refine takeW (i := 0) (v := ?_) rfl (by kernel_rfl) (by kernel_rfl) (by kernel_rfl) (fun _ _ _ h => h) (by rfl) (by assumption) ?_ ?_
        rotate_left 1
        · (intro w9 hSw; (try dsimp only at hSw); go_simp); (first | done | with_reducible rfl)
        try simp only [Act.put, List.setIfInBounds_toArray, List.set_cons_zero, List.set_cons_succ]
        refine takeW (i := 1) (v := ?_) rfl (by kernel_rfl) (by kernel_rfl) (by kernel_rfl) (fun _ _ _ h => h) (by rfl) (by assumption) ?_ ?_
        rotate_left 1
        · (intro w9 hSw; (try dsimp only at hSw); go_simp); (first | done | with_reducible rfl)
        try simp only [Act.put, List.setIfInBounds_toArray, List.set_cons_zero, List.set_cons_succ]
        refine takeW (i := 2) (v := ?_) rfl (by kernel_rfl) (by kernel_rfl) (by kernel_rfl) (fun _ _ _ h => h) (by rfl) (by assumption) ?_ ?_
        rotate_left 1
        · (intro w9 hSw; (try dsimp only at hSw); go_simp); (first | done | with_reducible rfl)
        try simp only [Act.put, List.setIfInBounds_toArray, List.set_cons_zero, List.set_cons_succ]
        refine takeW (i := 3) (v := ?_) rfl (by kernel_rfl) (by kernel_rfl) (by kernel_rfl) (fun _ _ _ h => h) (by rfl) (by assumption) ?_ ?_
        rotate_left 1
        · (intro w9 hSw; (try dsimp only at hSw); go_simp); (first | done | with_reducible rfl)
        try simp only [Act.put, List.setIfInBounds_toArray, List.set_cons_zero, List.set_cons_succ]
        refine takeW (i := 4) (v := ?_) rfl (by kernel_rfl) (by kernel_rfl) (by kernel_rfl) (fun _ _ _ h => h) (by rfl) (by assumption) ?_ ?_
        rotate_left 1
        · (intro w9 hSw; (try dsimp only at hSw); go_simp); (first | done | with_reducible rfl)
        try simp only [Act.put, List.setIfInBounds_toArray, List.set_cons_zero, List.set_cons_succ]
        refine takeW (i := 5) (v := ?_) rfl (by kernel_rfl) (by kernel_rfl) (by kernel_rfl) (fun _ _ _ h => h) (by rfl) (by assumption) ?_ ?_
        rotate_left 1
        · (intro w9 hSw; (try dsimp only at hSw); go_simp); (first | done | with_reducible rfl)
        try simp only [Act.put, List.setIfInBounds_toArray, List.set_cons_zero, List.set_cons_succ]
        refine readyW (i := 6) (by kernel_rfl) rfl (by rfl) (fun K hK => ?_)
        go_simp
        (go_at_call 30; (with_reducible refine (yields_any' _ _ n9 A9 k9 c9 x9 mr Ar kr cr vr xr (a.val ^ n) (a.val ^ n) 0 0 ((hl9.below G0 (by omega)).more (by have := G0.size; omega)) ((hdr.below G0 (by omega)).more (by have := G0.size; omega)) (Nat.le_refl _) (yr_fit SM.out) I9.out RR.out VR.out KR).mono ?_); rintro e u1 ⟨rfl, hb1⟩; have B1 : Below V6.heap.size V6 u1 := bnext G0 hb1)
        go_wp2_with fail
        refine hK.out _ _ (HS.out _ B1) (fun hHeld1 => ?_)
        clear hK K
        try simp only [Act.put, List.setIfInBounds_toArray, List.set_cons_zero, List.set_cons_succ]
        refine takeW (i := 7) (v := ?_) rfl (by kernel_rfl) (by kernel_rfl) (by kernel_rfl) (fun _ _ _ h => h) (by rfl) (by assumption) ?_ ?_
        rotate_left 1
        · (intro w9 hSw; (try dsimp only at hSw); go_simp); (first | done | with_reducible rfl)
        try simp only [Act.put, List.setIfInBounds_toArray, List.set_cons_zero, List.set_cons_succ]
        refine takeW (i := 8) (v := ?_) rfl (by kernel_rfl) (by kernel_rfl) (by kernel_rfl) (fun _ _ _ h => h) (by rfl) (by assumption) ?_ ?_
        rotate_left 1
        · (intro w9 hSw; (try dsimp only at hSw); go_simp); (first | done | with_reducible rfl)
        try simp only [Act.put, List.setIfInBounds_toArray, List.set_cons_zero, List.set_cons_succ]
        refine takeW (i := 9) (v := ?_) rfl (by kernel_rfl) (by kernel_rfl) (by kernel_rfl) (fun _ _ _ h => h) (by rfl) (by assumption) ?_ ?_
        rotate_left 1
        · (intro w9 hSw; (try dsimp only at hSw); go_simp); (first | done | with_reducible rfl)
        try simp only [Act.put, List.setIfInBounds_toArray, List.set_cons_zero, List.set_cons_succ]
        refine takeW (i := 10) (v := ?_) rfl (by kernel_rfl) (by kernel_rfl) (by kernel_rfl) (fun _ _ _ h => h) (by rfl) (by assumption) ?_ ?_
        rotate_left 1
        · (intro w9 hSw; (try dsimp only at hSw); go_simp); (first | done | with_reducible rfl)
        try simp only [Act.put, List.setIfInBounds_toArray, List.set_cons_zero, List.set_cons_succ]
        refine takeW (i := 11) (v := ?_) rfl (by kernel_rfl) (by kernel_rfl) (by kernel_rfl) (fun _ _ _ h => h) (by rfl) (by assumption) ?_ ?_
        rotate_left 1
        · (intro w9 hSw; (try dsimp only at hSw); go_simp); (first | done | with_reducible rfl)
        try simp only [Act.put, List.setIfInBounds_toArray, List.set_cons_zero, List.set_cons_succ]
        refine takeW (i := 12) (v := ?_) rfl (by kernel_rfl) (by kernel_rfl) (by kernel_rfl) (fun _ _ _ h => h) (by rfl) (by assumption) ?_ ?_
        rotate_left 1
        · (intro w9 hSw; (try dsimp only at hSw); go_simp); (first | done | with_reducible rfl)
        try simp only [Act.put, List.setIfInBounds_toArray, List.set_cons_zero, List.set_cons_succ]
        refine takeN (i := 13) rfl (by kernel_rfl) (by kernel_rfl) (by kernel_rfl) (fun _ _ _ h => h) (by rfl) (by assumption) ?_
        try simp only [Act.put, List.setIfInBounds_toArray, List.set_cons_zero, List.set_cons_succ]
        refine readyN (i := 14) (by kernel_rfl) rfl (by rfl) (by assumption) ?_
        try simp only [Act.put, List.setIfInBounds_toArray, List.set_cons_zero, List.set_cons_succ]
        refine takeN (i := 15) rfl (by kernel_rfl) (by kernel_rfl) (by kernel_rfl) (fun _ _ _ h => h) (by rfl) (by assumption) ?_
        try simp only [Act.put, List.setIfInBounds_toArray, List.set_cons_zero, List.set_cons_succ]
        refine takeN (i := 16) rfl (by kernel_rfl) (by kernel_rfl) (by kernel_rfl) (fun _ _ _ h => h) (by rfl) (by assumption) ?_
        try simp only [Act.put, List.setIfInBounds_toArray, List.set_cons_zero, List.set_cons_succ]
        refine takeN (i := 17) rfl (by kernel_rfl) (by kernel_rfl) (by kernel_rfl) (fun _ _ _ h => h) (by rfl) (by assumption) ?_
        try simp only [Act.put, List.setIfInBounds_toArray, List.set_cons_zero, List.set_cons_succ]
        refine readyN (i := 18) (by kernel_rfl) rfl (by rfl) (by assumption) ?_
        try simp only [Act.put, List.setIfInBounds_toArray, List.set_cons_zero, List.set_cons_succ]
        refine takeN (i := 19) rfl (by kernel_rfl) (by kernel_rfl) (by kernel_rfl) (fun _ _ _ h => h) (by rfl) (by assumption) ?_
        try simp only [Act.put, List.setIfInBounds_toArray, List.set_cons_zero, List.set_cons_succ]
        refine takeN (i := 20) rfl (by kernel_rfl) (by kernel_rfl) (by kernel_rfl) (fun _ _ _ h => h) (by rfl) (by assumption) ?_
        try simp only [Act.put, List.setIfInBounds_toArray, List.set_cons_zero, List.set_cons_succ]
        refine takeW (i := 21) (v := ?_) rfl (by kernel_rfl) (by kernel_rfl) (by kernel_rfl) (fun _ _ _ h => h) (by rfl) (by assumption) ?_ ?_
        rotate_left 1
        · (intro w9 hSw; (try dsimp only at hSw); go_simp); (first | done | with_reducible rfl)
        try simp only [Act.put, List.setIfInBounds_toArray, List.set_cons_zero, List.set_cons_succ]
        refine takeW (i := 22) (v := ?_) rfl (by kernel_rfl) (by kernel_rfl) (by kernel_rfl) (fun _ _ _ h => h) (by rfl) (by assumption) ?_ ?_
        rotate_left 1
        · (intro w9 hSw; (try dsimp only at hSw); go_simp); (first | done | with_reducible rfl)
        try simp only [Act.put, List.setIfInBounds_toArray, List.set_cons_zero, List.set_cons_succ]
        refine wpAnyH_done (by kernel_rfl) ?_ _
        go_wp2_with fail
        go_meet
        case rel => exact E0.trans (B1.mono E0.size)
      · have sw16 := hb16.size
        obtain ⟨rfl, rfl, rfl⟩ : z9 = 0 ∧ g1 = 14 ∧ g2 = -1 := by
          rcases YY.out with ⟨h1, _⟩ | ⟨_, h1, h2, h3⟩
          · exact absurd h1 (Nat.not_lt_of_le hbig)
          · exact ⟨h1, h2, h3⟩
        obtain ⟨rfl, rfl⟩ := irep_nil I9.out hl9.len.out
        clear hbig
        clear hdp hl9
        replace HA : LRd w16 (w.heap.size) a.A a.n a.c a.xs := HA.below hb16 (by omega)
        replace PA : Bk2 w16 (w.heap.size) (.bool a.neg) (.slice a.A a.n a.c) := PA.below hb16 PA.lt
        replace P9 : Bk2 w16 (w9.heap.size) (.bool false) (.slice A9 0 c9) := P9.below hb16 P9.lt
        replace F10 : Bk2 w16 (w9.heap.size + 1) (.int .i64 14) (.int .i64 (-1)) := F10.below hb16 F10.lt
        replace E0 : Below w13.heap.size w13 w16 := E0.trans (hb16.mono E0.size)
        clear hb16
        go_upto_region 6 with fail
        obtain ⟨V6, hV6⟩ : ∃ V6 : World, V6 = (w16.alloc (.cells #[.bool false, .slice none 0 0] 37)) := ⟨_, rfl⟩
        have bV6 : Below w16.heap.size w16 V6 := by rw [hV6]; (repeat (first | with_reducible exact Below.refl _ _ | with_reducible refine Below.drew ?_ | with_reducible refine below_drewN ?_ _ | with_reducible refine Below.setCell ?_ (by first | (simp; done) | (simp; omega) | omega) _ | with_reducible refine Below.alloc ?_ (by first | (simp; done) | (simp; omega) | omega) _))
        have zV6 : w16.heap.size + 1 ≤ V6.heap.size := by rw [hV6]; simp
        have P13 : Bk2 V6 (w16.heap.size) (.bool false) (.slice none 0 0) := by rw [hV6]; exact (Bk2.newAt _ _ (by simp) _ _ _)
        rw [← hV6]
        clear hV6
        replace HA : LRd V6 (w.heap.size) a.A a.n a.c a.xs := HA.below bV6 (by omega)
        replace PA : Bk2 V6 (w.heap.size) (.bool a.neg) (.slice a.A a.n a.c) := PA.below bV6 PA.lt
        replace P9 : Bk2 V6 (w9.heap.size) (.bool false) (.slice A9 0 c9) := P9.below bV6 P9.lt
        replace F10 : Bk2 V6 (w9.heap.size + 1) (.int .i64 14) (.int .i64 (-1)) := F10.below bV6 F10.lt
        replace E0 : Below w13.heap.size w13 V6 := E0.trans (bV6.mono E0.size)
        clear bV6
        have G0 : Below V6.heap.size V6 V6.drew := Below.drew (Below.refl _ _)
        have HS := Lib.hid (fun (u : World) (hu : Below V6.heap.size V6 u) => (⟨hu, (P9.below hu P9.lt).c0, (P9.below hu P9.lt).c1, (F10.below hu F10.lt).c0, (F10.below hu F10.lt).c1, (P13.below hu P13.lt).c0, (P13.below hu P13.lt).c1⟩ : Below V6.heap.size V6 u ∧ u.cell? ⟨w9.heap.size, 0, none⟩ = some (.bool false) ∧ u.cell? ⟨w9.heap.size, 1, none⟩ = some (.slice A9 0 c9) ∧ u.cell? ⟨w9.heap.size + 1, 0, none⟩ = some (.int .i64 14) ∧ u.cell? ⟨w9.heap.size + 1, 1, none⟩ = some (.int .i64 (-1)) ∧ u.cell? ⟨w16.heap.size, 0, none⟩ = some (.bool false) ∧ u.cell? ⟨w16.heap.size, 1, none⟩ = some (.slice none 0 0)))
        refine wp_region_held_drew (S := (fun u => Below V6.heap.size V6 u ∧ u.cell? ⟨w9.heap.size, 0, none⟩ = some (.bool false) ∧ u.cell? ⟨w9.heap.size, 1, none⟩ = some (.slice A9 0 c9) ∧ u.cell? ⟨w9.heap.size + 1, 0, none⟩ = some (.int .i64 14) ∧ u.cell? ⟨w9.heap.size + 1, 1, none⟩ = some (.int .i64 (-1)) ∧ u.cell? ⟨w16.heap.size, 0, none⟩ = some (.bool false) ∧ u.cell? ⟨w16.heap.size, 1, none⟩ = some (.slice none 0 0))) (by kernel_rfl) (HS.out _ G0) (fun hHeld => ?_)
        refine takeW (i := 0) (v := ?_) rfl (by kernel_rfl) (by kernel_rfl) (by kernel_rfl) (fun _ _ _ h => h) (by rfl) (by assumption) ?_ ?_
        rotate_left 1
        · (intro w9 hSw; (try dsimp only at hSw); go_simp); (first | done | with_reducible rfl)
        try simp only [Act.put, List.setIfInBounds_toArray, List.set_cons_zero, List.set_cons_succ]
        refine takeW (i := 1) (v := ?_) rfl (by kernel_rfl) (by kernel_rfl) (by kernel_rfl) (fun _ _ _ h => h) (by rfl) (by assumption) ?_ ?_
        rotate_left 1
        · (intro w9 hSw; (try dsimp only at hSw); go_simp); (first | done | with_reducible rfl)
        try simp only [Act.put, List.setIfInBounds_toArray, List.set_cons_zero, List.set_cons_succ]
        refine takeN (i := 2) rfl (by kernel_rfl) (by kernel_rfl) (by kernel_rfl) (fun _ _ _ h => h) (by rfl) (by assumption) ?_
        try simp only [Act.put, List.setIfInBounds_toArray, List.set_cons_zero, List.set_cons_succ]
        refine takeN (i := 3) rfl (by kernel_rfl) (by kernel_rfl) (by kernel_rfl) (fun _ _ _ h => h) (by rfl) (by assumption) ?_
        try simp only [Act.put, List.setIfInBounds_toArray, List.set_cons_zero, List.set_cons_succ]
        refine takeN (i := 4) rfl (by kernel_rfl) (by kernel_rfl) (by kernel_rfl) (fun _ _ _ h => h) (by rfl) (by assumption) ?_
        try simp only [Act.put, List.setIfInBounds_toArray, List.set_cons_zero, List.set_cons_succ]
        refine takeN (i := 5) rfl (by kernel_rfl) (by kernel_rfl) (by kernel_rfl) (fun _ _ _ h => h) (by rfl) (by assumption) ?_
        try simp only [Act.put, List.setIfInBounds_toArray, List.set_cons_zero, List.set_cons_succ]
        refine readyN (i := 6) (by kernel_rfl) rfl (by rfl) (by assumption) ?_
        try simp only [Act.put, List.setIfInBounds_toArray, List.set_cons_zero, List.set_cons_succ]
        refine takeN (i := 7) rfl (by kernel_rfl) (by kernel_rfl) (by kernel_rfl) (fun _ _ _ h => h) (by rfl) (by assumption) ?_
        try simp only [Act.put, List.setIfInBounds_toArray, List.set_cons_zero, List.set_cons_succ]
        refine takeW (i := 8) (v := ?_) rfl (by kernel_rfl) (by kernel_rfl) (by kernel_rfl) (fun _ _ _ h => h) (by rfl) (by assumption) ?_ ?_
        rotate_left 1
        · (intro w9 hSw; (try dsimp only at hSw); go_simp); (first | done | with_reducible rfl)
        try simp only [Act.put, List.setIfInBounds_toArray, List.set_cons_zero, List.set_cons_succ]
        refine takeW (i := 9) (v := ?_) rfl (by kernel_rfl) (by kernel_rfl) (by kernel_rfl) (fun _ _ _ h => h) (by rfl) (by assumption) ?_ ?_
        rotate_left 1
        · (intro w9 hSw; (try dsimp only at hSw); go_simp); (first | done | with_reducible rfl)
        try simp only [Act.put, List.setIfInBounds_toArray, List.set_cons_zero, List.set_cons_succ]
        refine takeW (i := 10) (v := ?_) rfl (by kernel_rfl) (by kernel_rfl) (by kernel_rfl) (fun _ _ _ h => h) (by rfl) (by assumption) ?_ ?_
        rotate_left 1
        · (intro w9 hSw; (try dsimp only at hSw); go_simp); (first | done | with_reducible rfl)
        try simp only [Act.put, List.setIfInBounds_toArray, List.set_cons_zero, List.set_cons_succ]
        refine takeW (i := 11) (v := ?_) rfl (by kernel_rfl) (by kernel_rfl) (by kernel_rfl) (fun _ _ _ h => h) (by rfl) (by assumption) ?_ ?_
        rotate_left 1
        · (intro w9 hSw; (try dsimp only at hSw); go_simp); (first | done | with_reducible rfl)
        try simp only [Act.put, List.setIfInBounds_toArray, List.set_cons_zero, List.set_cons_succ]
        refine takeW (i := 12) (v := ?_) rfl (by kernel_rfl) (by kernel_rfl) (by kernel_rfl) (fun _ _ _ h => h) (by rfl) (by assumption) ?_ ?_
        rotate_left 1
        · (intro w9 hSw; (try dsimp only at hSw); go_simp); (first | done | with_reducible rfl)
        try simp only [Act.put, List.setIfInBounds_toArray, List.set_cons_zero, List.set_cons_succ]
        refine takeW (i := 13) (v := ?_) rfl (by kernel_rfl) (by kernel_rfl) (by kernel_rfl) (fun _ _ _ h => h) (by rfl) (by assumption) ?_ ?_
        rotate_left 1
        · (intro w9 hSw; (try dsimp only at hSw); go_simp); (first | done | with_reducible rfl)
        try simp only [Act.put, List.setIfInBounds_toArray, List.set_cons_zero, List.set_cons_succ]
        refine readyW (i := 14) (by kernel_rfl) rfl (by rfl) (fun K hK => ?_)
        go_simp
        (go_at_call 25; (with_reducible refine (at_any _ _ _).mono ?_); rintro e u1 ⟨rfl, hB1⟩; have B1 : Below V6.heap.size V6 u1 := bnext G0 hB1)
        go_wp2_with fail
        refine hK.out _ _ (HS.out _ B1) (fun hHeld1 => ?_)
        clear hK K
        try simp only [Act.put, List.setIfInBounds_toArray, List.set_cons_zero, List.set_cons_succ]
        refine takeW (i := 15) (v := ?_) rfl (by kernel_rfl) (by kernel_rfl) (by kernel_rfl) (fun _ _ _ h => h) (by rfl) (by assumption) ?_ ?_
        rotate_left 1
        · (intro w9 hSw; (try dsimp only at hSw); go_simp); (first | done | with_reducible rfl)
        try simp only [Act.put, List.setIfInBounds_toArray, List.set_cons_zero, List.set_cons_succ]
        refine takeW (i := 16) (v := ?_) rfl (by kernel_rfl) (by kernel_rfl) (by kernel_rfl) (fun _ _ _ h => h) (by rfl) (by assumption) ?_ ?_
        rotate_left 1
        · (intro w9 hSw; (try dsimp only at hSw); go_simp); (first | done | with_reducible rfl)
        try simp only [Act.put, List.setIfInBounds_toArray, List.set_cons_zero, List.set_cons_succ]
        refine takeW (i := 17) (v := ?_) rfl (by kernel_rfl) (by kernel_rfl) (by kernel_rfl) (fun _ _ _ h => h) (by rfl) (by assumption) ?_ ?_
        rotate_left 1
        · (intro w9 hSw; (try dsimp only at hSw); go_simp); (first | done | with_reducible rfl)
        try simp only [Act.put, List.setIfInBounds_toArray, List.set_cons_zero, List.set_cons_succ]
        refine readyW (i := 18) (by kernel_rfl) rfl (by rfl) (fun K hK => ?_)
        go_simp
        (go_at_call 26; (with_reducible refine (noInt_any _ false A9 0 c9 (by omega)).mono ?_); rintro e u2 ⟨rfl, hB2⟩; have B2 : Below V6.heap.size V6 u2 := bnext B1 hB2; rw [show (!false && decide (0 = 0)) = true from rfl])
        go_wp2_with fail
        refine hK.out _ _ (HS.out _ B2) (fun hHeld2 => ?_)
        clear hK K
        try simp only [Act.put, List.setIfInBounds_toArray, List.set_cons_zero, List.set_cons_succ]
        refine takeW (i := 19) (v := ?_) rfl (by kernel_rfl) (by kernel_rfl) (by kernel_rfl) (fun _ _ _ h => h) (by rfl) (by assumption) ?_ ?_
        rotate_left 1
        · (intro w9 hSw; (try dsimp only at hSw); go_simp); (first | done | with_reducible rfl)
        try simp only [Act.put, List.setIfInBounds_toArray, List.set_cons_zero, List.set_cons_succ]
        refine takeW (i := 20) (v := ?_) rfl (by kernel_rfl) (by kernel_rfl) (by kernel_rfl) (fun _ _ _ h => h) (by rfl) (by assumption) ?_ ?_
        rotate_left 1
        · (intro w9 hSw; (try dsimp only at hSw); go_simp); (first | done | with_reducible rfl)
        try simp only [Act.put, List.setIfInBounds_toArray, List.set_cons_zero, List.set_cons_succ]
        refine takeW (i := 21) (v := ?_) rfl (by kernel_rfl) (by kernel_rfl) (by kernel_rfl) (fun _ _ _ h => h) (by rfl) (by assumption) ?_ ?_
        rotate_left 1
        · (intro w9 hSw; (try dsimp only at hSw); go_simp); (first | done | with_reducible rfl)
        try simp only [Act.put, List.setIfInBounds_toArray, List.set_cons_zero, List.set_cons_succ]
        refine takeW (i := 22) (v := ?_) rfl (by kernel_rfl) (by kernel_rfl) (by kernel_rfl) (fun _ _ _ h => h) (by rfl) (by assumption) ?_ ?_
        rotate_left 1
        · (intro w9 hSw; (try dsimp only at hSw); go_simp); (first | done | with_reducible rfl)
        try simp only [Act.put, List.setIfInBounds_toArray, List.set_cons_zero, List.set_cons_succ]
        refine wpAnyH_done (by kernel_rfl) ?_ _
        go_wp2_with fail
        go_meet
        case rel => exact E0.trans (B2.mono E0.size)
  case rest =>
  have sX := hcut.size
  clear P9 F10 hl9
  replace E : Below w.heap.size w wc := E.trans (hcut.mono E.size)
  replace HA : LRd wc (w.heap.size) a.A a.n a.c a.xs := HA.below hcut (by omega)
  replace HB : LRd wc (w.heap.size) b.A b.n b.c b.xs := HB.below hcut (by omega)
  replace HC : LRd wc (w.heap.size) c.A c.n c.c c.xs := HC.below hcut (by omega)
  replace PA : Bk2 wc (w.heap.size) (.bool a.neg) (.slice a.A a.n a.c) := PA.below hcut PA.lt
  replace PB : Bk2 wc (w.heap.size + 1) (.bool b.neg) (.slice b.A b.n b.c) := PB.below hcut PB.lt
  replace PC : Bk2 wc (w.heap.size + 2) (.bool c.neg) (.slice c.A c.n c.c) := PC.below hcut PC.lt
  replace hl11 : LRd wc (w11.heap.size) A11 k11 c11 x11 := hl11.below hcut (by omega)
  replace P11 : Bk2 wc (w11.heap.size) (.bool n11) (.slice A11 k11 c11) := P11.below hcut P11.lt
  replace F12 : Bk2 wc (w11.heap.size + 1) (.int .i64 0) (.int .i64 0) := F12.below hcut F12.lt
  clear hcut
  have IR := Lib.hid (irow3 wc w.heap.size a b c HA HB HC (by omega))
  have p_PA0 : wc.cell? ⟨w.heap.size, 0, none⟩ = some ((.bool a.neg)) := PA.c0
  have p_PA1 : wc.cell? ⟨w.heap.size, 1, none⟩ = some ((.slice a.A a.n a.c)) := PA.c1
  have p_PB0 : wc.cell? ⟨w.heap.size + 1, 0, none⟩ = some ((.bool b.neg)) := PB.c0
  have p_PB1 : wc.cell? ⟨w.heap.size + 1, 1, none⟩ = some ((.slice b.A b.n b.c)) := PB.c1
  have p_PC0 : wc.cell? ⟨w.heap.size + 2, 0, none⟩ = some ((.bool c.neg)) := PC.c0
  have p_PC1 : wc.cell? ⟨w.heap.size + 2, 1, none⟩ = some ((.slice c.A c.n c.c)) := PC.c1
  go_wp2_with fail
  clear p_PA0 p_PA1 p_PB0 p_PB1 p_PC0 p_PC1
  obtain ⟨V3, hV3⟩ : ∃ V3 : World, V3 = (wc.alloc (.cells #[.bool a.neg, .slice a.A a.n a.c, .bool b.neg, .slice b.A b.n b.c, .bool c.neg, .slice c.A c.n c.c] 24)) := ⟨_, rfl⟩
  have bV3 : Below wc.heap.size wc V3 := by rw [hV3]; (repeat (first | with_reducible exact Below.refl _ _ | with_reducible refine Below.drew ?_ | with_reducible refine below_drewN ?_ _ | with_reducible refine Below.setCell ?_ (by first | (simp; done) | (simp; omega) | omega) _ | with_reducible refine Below.alloc ?_ (by first | (simp; done) | (simp; omega) | omega) _))
  have zV3 : wc.heap.size + 1 ≤ V3.heap.size := by rw [hV3]; simp
  replace IR : Hid (IRow V3 w.heap.size wc.heap.size [a, b, c]) := by have h9 := IR.out; rw [hV3]; exact h9
  rw [← hV3]
  clear hV3
  replace E : Below w.heap.size w V3 := E.trans (bV3.mono E.size)
  replace HA : LRd V3 (w.heap.size) a.A a.n a.c a.xs := HA.below bV3 (by omega)
  replace HB : LRd V3 (w.heap.size) b.A b.n b.c b.xs := HB.below bV3 (by omega)
  replace HC : LRd V3 (w.heap.size) c.A c.n c.c c.xs := HC.below bV3 (by omega)
  replace PA : Bk2 V3 (w.heap.size) (.bool a.neg) (.slice a.A a.n a.c) := PA.below bV3 PA.lt
  replace PB : Bk2 V3 (w.heap.size + 1) (.bool b.neg) (.slice b.A b.n b.c) := PB.below bV3 PB.lt
  replace PC : Bk2 V3 (w.heap.size + 2) (.bool c.neg) (.slice c.A c.n c.c) := PC.below bV3 PC.lt
  replace hl11 : LRd V3 (w11.heap.size) A11 k11 c11 x11 := hl11.below bV3 (by omega)
  replace P11 : Bk2 V3 (w11.heap.size) (.bool n11) (.slice A11 k11 c11) := P11.below bV3 P11.lt
  replace F12 : Bk2 V3 (w11.heap.size + 1) (.int .i64 0) (.int .i64 0) := F12.below bV3 F12.lt
  clear bV3
  (with_reducible refine (faults_any _ w.heap.size wc.heap.size 3 [a, b, c] IR.out rfl (by omega) (by omega)).mono ?_)
  rintro e w20 ⟨rfl, hb20⟩
  have sw20 := hb20.size
  replace E : Below w.heap.size w w20 := E.trans (hb20.mono E.size)
  replace HA : LRd w20 (w.heap.size) a.A a.n a.c a.xs := HA.below hb20 (by omega)
  replace HB : LRd w20 (w.heap.size) b.A b.n b.c b.xs := HB.below hb20 (by omega)
  replace HC : LRd w20 (w.heap.size) c.A c.n c.c c.xs := HC.below hb20 (by omega)
  replace PA : Bk2 w20 (w.heap.size) (.bool a.neg) (.slice a.A a.n a.c) := PA.below hb20 PA.lt
  replace PB : Bk2 w20 (w.heap.size + 1) (.bool b.neg) (.slice b.A b.n b.c) := PB.below hb20 PB.lt
  replace PC : Bk2 w20 (w.heap.size + 2) (.bool c.neg) (.slice c.A c.n c.c) := PC.below hb20 PC.lt
  replace hl11 : LRd w20 (w11.heap.size) A11 k11 c11 x11 := hl11.below hb20 (by omega)
  replace P11 : Bk2 w20 (w11.heap.size) (.bool n11) (.slice A11 k11 c11) := P11.below hb20 P11.lt
  replace F12 : Bk2 w20 (w11.heap.size + 1) (.int .i64 0) (.int .i64 0) := F12.below hb20 F12.lt
  clear hb20
  rw [hf]
  clear IR
  have t_PB0 : (w20.alloc (.cells #[.int .i64 0, .int .i64 0] 26)).cell? ⟨w.heap.size + 1, 0, none⟩ = some ((.bool b.neg)) := (PB.alloc _).c0
  have t_PB1 : (w20.alloc (.cells #[.int .i64 0, .int .i64 0] 26)).cell? ⟨w.heap.size + 1, 1, none⟩ = some ((.slice b.A b.n b.c)) := (PB.alloc _).c1
  have t_PC0 : (w20.alloc (.cells #[.int .i64 0, .int .i64 0] 26)).cell? ⟨w.heap.size + 2, 0, none⟩ = some ((.bool c.neg)) := (PC.alloc _).c0
  have t_PC1 : (w20.alloc (.cells #[.int .i64 0, .int .i64 0] 26)).cell? ⟨w.heap.size + 2, 1, none⟩ = some ((.slice c.A c.n c.c)) := (PC.alloc _).c1
  go_upto_region 15 with fail
  clear t_PB0 t_PB1 t_PC0 t_PC1
  obtain ⟨V4, hV4⟩ : ∃ V4 : World, V4 = (w20.alloc (.cells #[.int .i64 0, .int .i64 0] 26)) := ⟨_, rfl⟩
  have bV4 : Below w20.heap.size w20 V4 := by rw [hV4]; (repeat (first | with_reducible exact Below.refl _ _ | with_reducible refine Below.drew ?_ | with_reducible refine below_drewN ?_ _ | with_reducible refine Below.setCell ?_ (by first | (simp; done) | (simp; omega) | omega) _ | with_reducible refine Below.alloc ?_ (by first | (simp; done) | (simp; omega) | omega) _))
  have zV4 : w20.heap.size + 1 ≤ V4.heap.size := by rw [hV4]; simp
  have F15 : Bk2 V4 (w20.heap.size) (.int .i64 0) (.int .i64 0) := by rw [hV4]; exact (Bk2.newAt _ _ (by simp) _ _ _)
  rw [← hV4]
  clear hV4
  replace E : Below w.heap.size w V4 := E.trans (bV4.mono E.size)
  replace HA : LRd V4 (w.heap.size) a.A a.n a.c a.xs := HA.below bV4 (by omega)
  replace HB : LRd V4 (w.heap.size) b.A b.n b.c b.xs := HB.below bV4 (by omega)
  replace HC : LRd V4 (w.heap.size) c.A c.n c.c c.xs := HC.below bV4 (by omega)
  replace PA : Bk2 V4 (w.heap.size) (.bool a.neg) (.slice a.A a.n a.c) := PA.below bV4 PA.lt
  replace PB : Bk2 V4 (w.heap.size + 1) (.bool b.neg) (.slice b.A b.n b.c) := PB.below bV4 PB.lt
  replace PC : Bk2 V4 (w.heap.size + 2) (.bool c.neg) (.slice c.A c.n c.c) := PC.below bV4 PC.lt
  replace hl11 : LRd V4 (w11.heap.size) A11 k11 c11 x11 := hl11.below bV4 (by omega)
  replace P11 : Bk2 V4 (w11.heap.size) (.bool n11) (.slice A11 k11 c11) := P11.below bV4 P11.lt
  replace F12 : Bk2 V4 (w11.heap.size + 1) (.int .i64 0) (.int .i64 0) := F12.below bV4 F12.lt
  clear bV4
  rw [hb.out] at PB
  rw [hc.out] at PC
  have TC := Lib.hid (show vb 4294967296 c.xs < Top128 from lt128 (⟨HC.lim, rfl, (vld_top (IV.vld oc).1).1⟩ : Rep 4294967296 c.xs (vb 4294967296 c.xs)) rfl (IV.vld oc).2)
  have MP := Lib.hid (show 0 < vb 4294967296 c.xs from rep_pos4' (⟨HC.lim, rfl, (vld_top (IV.vld oc).1).1⟩ : Rep 4294967296 c.xs (vb 4294967296 c.xs)) HC.len.out h0)
  have CV := Lib.hid (show c.val = sval false (vb 4294967296 c.xs) by rw [sval_val, hc.out])
  have CP := Lib.hid (show 0 < c.val by have h1 : c.val = ((vb 4294967296 c.xs : Nat) : Int) := CV.out; have := MP.out; omega)
  have CT := Lib.hid (show c.val.natAbs < Top128 by rw [IV.abs]; exact TC.out)
  have hcl : c.n ≤ 128 := by have := HC.len.out; have := (IV.vld oc).2; omega
  have hbl : b.n ≤ 128 := by have := HB.len.out; have := (IV.vld ob).2; omega
  have t_F150 : V4.cell? ⟨w20.heap.size, 0, none⟩ = some ((.int .i64 0)) := F15.c0
  have t_F151 : V4.cell? ⟨w20.heap.size, 1, none⟩ = some ((.int .i64 0)) := F15.c1
  have t_PB0 : V4.cell? ⟨w.heap.size + 1, 0, none⟩ = some ((.bool false)) := PB.c0
  have t_PB1 : V4.cell? ⟨w.heap.size + 1, 1, none⟩ = some ((.slice b.A b.n b.c)) := PB.c1
  have t_PC0 : V4.cell? ⟨w.heap.size + 2, 0, none⟩ = some ((.bool false)) := PC.c0
  have t_PC1 : V4.cell? ⟨w.heap.size + 2, 1, none⟩ = some ((.slice c.A c.n c.c)) := PC.c1
  go_wp2_with fail
  clear t_F150 t_F151 t_PB0 t_PB1 t_PC0 t_PC1
  (with_reducible refine (noInt_any _ false c.A c.n c.c (by omega)).mono ?_)
  rintro e w24 ⟨rfl, hq0⟩
  have sw24 := hq0.size
  replace E : Below w.heap.size w w24 := E.trans (hq0.mono E.size)
  replace HA : LRd w24 (w.heap.size) a.A a.n a.c a.xs := HA.below hq0 (by omega)
  replace HB : LRd w24 (w.heap.size) b.A b.n b.c b.xs := HB.below hq0 (by omega)
  replace HC : LRd w24 (w.heap.size) c.A c.n c.c c.xs := HC.below hq0 (by omega)
  replace PA : Bk2 w24 (w.heap.size) (.bool a.neg) (.slice a.A a.n a.c) := PA.below hq0 PA.lt
  replace PB : Bk2 w24 (w.heap.size + 1) (.bool false) (.slice b.A b.n b.c) := PB.below hq0 PB.lt
  replace PC : Bk2 w24 (w.heap.size + 2) (.bool false) (.slice c.A c.n c.c) := PC.below hq0 PC.lt
  replace hl11 : LRd w24 (w11.heap.size) A11 k11 c11 x11 := hl11.below hq0 (by omega)
  replace P11 : Bk2 w24 (w11.heap.size) (.bool n11) (.slice A11 k11 c11) := P11.below hq0 P11.lt
  replace F12 : Bk2 w24 (w11.heap.size + 1) (.int .i64 0) (.int .i64 0) := F12.below hq0 F12.lt
  replace F15 : Bk2 w24 (w20.heap.size) (.int .i64 0) (.int .i64 0) := F15.below hq0 F15.lt
  clear hq0
  rw [show (!false && decide (c.n = 0)) = false by rw [decide_eq_false (by omega)]; rfl]
  have t_F150 : w24.cell? ⟨w20.heap.size, 0, none⟩ = some ((.int .i64 0)) := F15.c0
  have t_F151 : w24.cell? ⟨w20.heap.size, 1, none⟩ = some ((.int .i64 0)) := F15.c1
  have t_PC0 : w24.cell? ⟨w.heap.size + 2, 0, none⟩ = some ((.bool false)) := PC.c0
  have t_PC1 : w24.cell? ⟨w.heap.size + 2, 1, none⟩ = some ((.slice c.A c.n c.c)) := PC.c1
  go_wp2_with fail
  clear t_F150 t_F151 t_PC0 t_PC1
  clear F15
  (with_reducible refine (intOf_any _ w.heap.size false c.A c.n c.c c.xs HC (by omega) (by omega)).mono ?_)
  rintro e w25 ⟨mM, AM, kM, cM, xM, vM, rfl, hdM, hrM, hvM, hbM⟩
  have sw25 := hbM.size
  replace E : Below w.heap.size w w25 := E.trans (hbM.mono E.size)
  replace HA : LRd w25 (w.heap.size) a.A a.n a.c a.xs := HA.below hbM (by omega)
  replace HB : LRd w25 (w.heap.size) b.A b.n b.c b.xs := HB.below hbM (by omega)
  replace HC : LRd w25 (w.heap.size) c.A c.n c.c c.xs := HC.below hbM (by omega)
  replace PA : Bk2 w25 (w.heap.size) (.bool a.neg) (.slice a.A a.n a.c) := PA.below hbM PA.lt
  replace PB : Bk2 w25 (w.heap.size + 1) (.bool false) (.slice b.A b.n b.c) := PB.below hbM PB.lt
  replace PC : Bk2 w25 (w.heap.size + 2) (.bool false) (.slice c.A c.n c.c) := PC.below hbM PC.lt
  replace hl11 : LRd w25 (w11.heap.size) A11 k11 c11 x11 := hl11.below hbM (by omega)
  replace P11 : Bk2 w25 (w11.heap.size) (.bool n11) (.slice A11 k11 c11) := P11.below hbM P11.lt
  replace F12 : Bk2 w25 (w11.heap.size + 1) (.int .i64 0) (.int .i64 0) := F12.below hbM F12.lt
  clear hbM
  have VM := Lib.hid (show sval mM vM = c.val by rw [CV.out]; exact hvM)
  have KM := len512 hrM hdM.len.out (top_sq (by have := abs_sval VM.out; have := CT.out; omega))
  have hvM0 : 0 < vM := by have := abs_sval VM.out; have := CP.out; omega
  have RM := Lib.hid hrM
  clear hrM hvM
  go_wp2_with fail
  (with_reducible refine (number_any _ 1 (by omega) (by omega)).mono ?_)
  rintro e w26 ⟨m1, A1, k1, c1, x1, v1, rfl, hd1, hr1, hv1, hbN⟩
  have sw26 := hbN.size
  replace E : Below w.heap.size w w26 := E.trans (hbN.mono E.size)
  replace HA : LRd w26 (w.heap.size) a.A a.n a.c a.xs := HA.below hbN (by omega)
  replace HB : LRd w26 (w.heap.size) b.A b.n b.c b.xs := HB.below hbN (by omega)
  replace HC : LRd w26 (w.heap.size) c.A c.n c.c c.xs := HC.below hbN (by omega)
  replace PA : Bk2 w26 (w.heap.size) (.bool a.neg) (.slice a.A a.n a.c) := PA.below hbN PA.lt
  replace PB : Bk2 w26 (w.heap.size + 1) (.bool false) (.slice b.A b.n b.c) := PB.below hbN PB.lt
  replace PC : Bk2 w26 (w.heap.size + 2) (.bool false) (.slice c.A c.n c.c) := PC.below hbN PC.lt
  replace hl11 : LRd w26 (w11.heap.size) A11 k11 c11 x11 := hl11.below hbN (by omega)
  replace P11 : Bk2 w26 (w11.heap.size) (.bool n11) (.slice A11 k11 c11) := P11.below hbN P11.lt
  replace F12 : Bk2 w26 (w11.heap.size + 1) (.int .i64 0) (.int .i64 0) := F12.below hbN F12.lt
  replace hdM : DRd w26 (w25.heap.size) AM kM cM xM := hdM.below hbN (by omega)
  clear hbN
  have V1 := Lib.hid hv1
  have K1 := len512 hr1 hd1.len.out (top_sq (by have := abs_sval hv1; have := top_i64; omega))
  have R1 := Lib.hid hr1
  clear hr1 hv1
  have t_PB0 : ((w26.alloc (.cells #[.bool mM, .slice AM kM cM] 37)).alloc (.cells #[.bool m1, .slice A1 k1 c1] 37)).cell? ⟨w.heap.size + 1, 0, none⟩ = some ((.bool false)) := ((PB.alloc _).alloc _).c0
  have t_PB1 : ((w26.alloc (.cells #[.bool mM, .slice AM kM cM] 37)).alloc (.cells #[.bool m1, .slice A1 k1 c1] 37)).cell? ⟨w.heap.size + 1, 1, none⟩ = some ((.slice b.A b.n b.c)) := ((PB.alloc _).alloc _).c1
  go_wp2_with fail
  clear t_PB0 t_PB1
  obtain ⟨V8, hV8⟩ : ∃ V8 : World, V8 = ((w26.alloc (.cells #[.bool mM, .slice AM kM cM] 37)).alloc (.cells #[.bool m1, .slice A1 k1 c1] 37)) := ⟨_, rfl⟩
  have bV8 : Below w26.heap.size w26 V8 := by rw [hV8]; (repeat (first | with_reducible exact Below.refl _ _ | with_reducible refine Below.drew ?_ | with_reducible refine below_drewN ?_ _ | with_reducible refine Below.setCell ?_ (by first | (simp; done) | (simp; omega) | omega) _ | with_reducible refine Below.alloc ?_ (by first | (simp; done) | (simp; omega) | omega) _))
  have zV8 : w26.heap.size + 2 ≤ V8.heap.size := by rw [hV8]; simp
  have P16 : Bk2 V8 (w26.heap.size) (.bool mM) (.slice AM kM cM) := by rw [hV8]; exact ((Bk2.newAt _ _ (by simp) _ _ _).alloc _)
  have P17 : Bk2 V8 (w26.heap.size + 1) (.bool m1) (.slice A1 k1 c1) := by rw [hV8]; exact (Bk2.newAt _ _ (by simp) _ _ _)
  rw [← hV8]
  clear hV8
  replace E : Below w.heap.size w V8 := E.trans (bV8.mono E.size)
  replace HA : LRd V8 (w.heap.size) a.A a.n a.c a.xs := HA.below bV8 (by omega)
  replace HB : LRd V8 (w.heap.size) b.A b.n b.c b.xs := HB.below bV8 (by omega)
  replace HC : LRd V8 (w.heap.size) c.A c.n c.c c.xs := HC.below bV8 (by omega)
  replace PA : Bk2 V8 (w.heap.size) (.bool a.neg) (.slice a.A a.n a.c) := PA.below bV8 PA.lt
  replace PB : Bk2 V8 (w.heap.size + 1) (.bool false) (.slice b.A b.n b.c) := PB.below bV8 PB.lt
  replace PC : Bk2 V8 (w.heap.size + 2) (.bool false) (.slice c.A c.n c.c) := PC.below bV8 PC.lt
  replace hl11 : LRd V8 (w11.heap.size) A11 k11 c11 x11 := hl11.below bV8 (by omega)
  replace P11 : Bk2 V8 (w11.heap.size) (.bool n11) (.slice A11 k11 c11) := P11.below bV8 P11.lt
  replace F12 : Bk2 V8 (w11.heap.size + 1) (.int .i64 0) (.int .i64 0) := F12.below bV8 F12.lt
  replace hdM : DRd V8 (w25.heap.size) AM kM cM xM := hdM.below bV8 (by omega)
  replace hd1 : DRd V8 (w26.heap.size) A1 k1 c1 x1 := hd1.below bV8 (by omega)
  clear bV8
  (with_reducible refine (noInt_any _ false b.A b.n b.c (by omega)).mono ?_)
  rintro e w27 ⟨rfl, hq2⟩
  have sw27 := hq2.size
  replace E : Below w.heap.size w w27 := E.trans (hq2.mono E.size)
  replace HA : LRd w27 (w.heap.size) a.A a.n a.c a.xs := HA.below hq2 (by omega)
  replace HB : LRd w27 (w.heap.size) b.A b.n b.c b.xs := HB.below hq2 (by omega)
  replace HC : LRd w27 (w.heap.size) c.A c.n c.c c.xs := HC.below hq2 (by omega)
  replace PA : Bk2 w27 (w.heap.size) (.bool a.neg) (.slice a.A a.n a.c) := PA.below hq2 PA.lt
  replace PB : Bk2 w27 (w.heap.size + 1) (.bool false) (.slice b.A b.n b.c) := PB.below hq2 PB.lt
  replace PC : Bk2 w27 (w.heap.size + 2) (.bool false) (.slice c.A c.n c.c) := PC.below hq2 PC.lt
  replace hl11 : LRd w27 (w11.heap.size) A11 k11 c11 x11 := hl11.below hq2 (by omega)
  replace P11 : Bk2 w27 (w11.heap.size) (.bool n11) (.slice A11 k11 c11) := P11.below hq2 P11.lt
  replace F12 : Bk2 w27 (w11.heap.size + 1) (.int .i64 0) (.int .i64 0) := F12.below hq2 F12.lt
  replace hdM : DRd w27 (w25.heap.size) AM kM cM xM := hdM.below hq2 (by omega)
  replace hd1 : DRd w27 (w26.heap.size) A1 k1 c1 x1 := hd1.below hq2 (by omega)
  replace P16 : Bk2 w27 (w26.heap.size) (.bool mM) (.slice AM kM cM) := P16.below hq2 P16.lt
  replace P17 : Bk2 w27 (w26.heap.size + 1) (.bool m1) (.slice A1 k1 c1) := P17.below hq2 P17.lt
  clear hq2
  rw [show (!false && decide (b.n = 0)) = true by rw [decide_eq_true hz.out]; rfl]
  clear HA HB HC PA PB PC
  have t_P160 : w27.cell? ⟨w26.heap.size, 0, none⟩ = some ((.bool mM)) := P16.c0
  have t_P161 : w27.cell? ⟨w26.heap.size, 1, none⟩ = some ((.slice AM kM cM)) := P16.c1
  have t_P170 : w27.cell? ⟨w26.heap.size + 1, 0, none⟩ = some ((.bool m1)) := P17.c0
  have t_P171 : w27.cell? ⟨w26.heap.size + 1, 1, none⟩ = some ((.slice A1 k1 c1)) := P17.c1
  go_wp2_with fail
  clear t_P160 t_P161 t_P170 t_P171
  (with_reducible refine (floorD_any _ w27.heap.size m1 mM A1 AM k1 kM c1 cM v1 vM x1 xM (hd1.more (by omega)) (hdM.more (by omega)) (by omega) R1.out RM.out hvM0 K1 KM).mono ?_)
  rintro e wfz ⟨mqz, Aqz, kqz, cqz, xqz, vqz, mrz, Arz, krz, crz, xrz, vrz, qz, rz, rfl, hdqz, hrqz, hvqz, hdrz, hrrz, hvrz, hflz, hbfz⟩
  have swfz := hbfz.size
  replace E : Below w.heap.size w wfz := E.trans (hbfz.mono E.size)
  replace hl11 : LRd wfz (w11.heap.size) A11 k11 c11 x11 := hl11.below hbfz (by omega)
  replace P11 : Bk2 wfz (w11.heap.size) (.bool n11) (.slice A11 k11 c11) := P11.below hbfz P11.lt
  replace F12 : Bk2 wfz (w11.heap.size + 1) (.int .i64 0) (.int .i64 0) := F12.below hbfz F12.lt
  replace hdM : DRd wfz (w25.heap.size) AM kM cM xM := hdM.below hbfz (by omega)
  replace hd1 : DRd wfz (w26.heap.size) A1 k1 c1 x1 := hd1.below hbfz (by omega)
  replace P16 : Bk2 wfz (w26.heap.size) (.bool mM) (.slice AM kM cM) := P16.below hbfz P16.lt
  replace P17 : Bk2 wfz (w26.heap.size + 1) (.bool m1) (.slice A1 k1 c1) := P17.below hbfz P17.lt
  clear hbfz
  have hqcz := hdqz.cap
  rw [V1.out, VM.out] at hflz
  have VRz := Lib.hid (hvrz.trans (floor_emod hflz CP.out))
  have KRz := len512 hrrz hdrz.len.out (top_sq (by have := abs_sval VRz.out; have := emod_abs (x := 1) CP.out CT.out; omega))
  have RRz := Lib.hid hrrz
  clear hdqz hrqz hvqz hvrz hflz hrrz
  clear P16 hdM hd1
  have y_P170 : wfz.cell? ⟨w26.heap.size + 1, 0, none⟩ = some ((.bool m1)) := P17.c0
  have z_P170 : wfz.frozen? ⟨w26.heap.size + 1, 0, none⟩ = false := P17.z0
  have y_P171 : wfz.cell? ⟨w26.heap.size + 1, 1, none⟩ = some ((.slice A1 k1 c1)) := P17.c1
  have z_P171 : wfz.frozen? ⟨w26.heap.size + 1, 1, none⟩ = false := P17.z1
  have lt_P17 := P17.lt
  have t_F120 : wfz.cell? ⟨w11.heap.size + 1, 0, none⟩ = some ((.int .i64 0)) := F12.c0
  have t_F121 : wfz.cell? ⟨w11.heap.size + 1, 1, none⟩ = some ((.int .i64 0)) := F12.c1
  have lt_F12 := F12.lt
  have t_P110 : wfz.cell? ⟨w11.heap.size, 0, none⟩ = some ((.bool n11)) := P11.c0
  have t_P111 : wfz.cell? ⟨w11.heap.size, 1, none⟩ = some ((.slice A11 k11 c11)) := P11.c1
  have lt_P11 := P11.lt
  go_wp2_with fail
  clear y_P170 z_P170 y_P171 z_P171 lt_P17 t_F120 t_F121 lt_F12 t_P110 t_P111 lt_P11
  obtain ⟨U10P17, hU10P17⟩ : ∃ U10P17 : World, U10P17 = ((wfz.setCell ⟨w26.heap.size + 1, 0, none⟩ (.bool mrz)).setCell ⟨w26.heap.size + 1, 1, none⟩ (.slice Arz krz crz)) := ⟨_, rfl⟩
  have zU10P17 : U10P17.heap.size = wfz.heap.size := by rw [hU10P17]; simp [World.setCell]
  replace E : Below w.heap.size w U10P17 := by rw [hU10P17]; exact (E.setCell (by first | (simp; done) | (simp; omega)) _).setCell (by first | (simp; done) | (simp; omega)) _
  replace hl11 : LRd U10P17 (w11.heap.size) A11 k11 c11 x11 := by rw [hU10P17]; first | exact hl11.setB P17 (by simp) (by simp) _ _ | exact hl11.setFar2 (by omega) _ _
  replace P11 : Bk2 U10P17 (w11.heap.size) (.bool n11) (.slice A11 k11 c11) := by rw [hU10P17]; exact P11.far2 (by omega) _ _
  replace F12 : Bk2 U10P17 (w11.heap.size + 1) (.int .i64 0) (.int .i64 0) := by rw [hU10P17]; exact F12.far2 (by omega) _ _
  replace hdrz : DRd U10P17 (wfz.heap.size) Arz krz crz xrz := by rw [hU10P17]; first | exact hdrz.setFar2 (by omega) _ _ | exact hdrz.setBD P17 (by simp) (by simp) _ _
  replace P17 : Bk2 U10P17 (w26.heap.size + 1) (.bool mrz) (.slice Arz krz crz) := by rw [hU10P17]; exact P17.set _ _
  rw [← hU10P17]
  clear hU10P17
  have zU10P17' := Nat.le_of_eq zU10P17
  replace zU10P17 := Nat.le_of_eq zU10P17.symm
  (with_reducible refine (sameInt_any _ _ n11 mrz A11 Arz k11 krz c11 crz vrz (a.val ^ vb 4294967296 b.xs % c.val) x11 xrz (hl11.more (by omega)) (hdrz.more (by omega)) (Nat.le_refl _) I11.out RRz.out (by rw [VRz.out, BZ.out, Int.pow_zero]) KRz).mono ?_)
  rintro e w40 ⟨rfl, hb40⟩
  have sw40 := hb40.size
  replace E : Below w.heap.size w w40 := E.trans (hb40.mono E.size)
  replace hl11 : LRd w40 (w11.heap.size) A11 k11 c11 x11 := hl11.below hb40 (by omega)
  replace P11 : Bk2 w40 (w11.heap.size) (.bool n11) (.slice A11 k11 c11) := P11.below hb40 P11.lt
  replace F12 : Bk2 w40 (w11.heap.size + 1) (.int .i64 0) (.int .i64 0) := F12.below hb40 F12.lt
  replace P17 : Bk2 w40 (w26.heap.size + 1) (.bool mrz) (.slice Arz krz crz) := P17.below hb40 P17.lt
  replace hdrz : DRd w40 (wfz.heap.size) Arz krz crz xrz := hdrz.below hb40 (by omega)
  clear hb40
  go_wp2_with fail
  go_ret
  exact ⟨by first | rfl | (simp; done), E⟩
end Go.Proofs.Ytpidkionieaffaa
