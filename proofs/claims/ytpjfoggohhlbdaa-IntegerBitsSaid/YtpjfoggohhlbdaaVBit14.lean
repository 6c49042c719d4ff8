/- The reference's Bitwise: Xor. -/
import Derived.Test.YtpjfoggohhlbdaaVBit12
namespace Go.Proofs.Ytpjfoggohhlbdaa
open Go.RowKit
set_option maxHeartbeats 400000
set_option maxRecDepth 100000
set_option linter.unusedSimpArgs false
set_option linter.unusedVariables false

set_option maxHeartbeats 16000000 in
theorem bitwise_xor (w : World) (B : Nat) (m m2 : Bool) (A D : Option Addr) (k c l d p q : Nat) (xs ys : List Nat) (HA : DRd w B A k c xs) (HB : DRd w B D l d ys) (hB : B ≤ w.heap.size) (hk : k ≤ 100000) (hl : l ≤ 100000) (hx : Rep 65536 xs p) (hy : Rep 65536 ys q) :
    Calls Try.prog 55 #[intv m A k c, intv m2 D l d, .int .i64 2] w (BwPost (fun p q => p != q) (sval m p) (sval m2 q) w) := by
  have HX := Lib.hid hx
  have HY := Lib.hid hy
  clear hx hy
  have E : Below w.heap.size w w := Below.refl _ _
  go_enter Try.func55, Try.ntmps55
  go_upto_region 1 with fail
  obtain ⟨V0, hV0⟩ : ∃ V0 : World, V0 = (((w.alloc (.cells #[.bool m, .slice A k c] 37)).alloc (.cells #[.bool m2, .slice D l d] 37)).alloc (.cells #[.bool false, .slice none 0 0] 37)) := ⟨_, rfl⟩
  have bV0 : Below w.heap.size w V0 := by rw [hV0]; (repeat (first | with_reducible exact Below.refl _ _ | with_reducible refine Below.drew ?_ | with_reducible refine below_drewN ?_ _ | with_reducible refine Below.setCell ?_ (by first | (simp; done) | (simp; omega) | omega) _ | with_reducible refine Below.alloc ?_ (by first | (simp; done) | (simp; omega) | omega) _))
  have zV0 : w.heap.size + 3 ≤ V0.heap.size := by rw [hV0]; simp
  have PA : Bk2 V0 (w.heap.size) (.bool m) (.slice A k c) := by rw [hV0]; exact (((Bk2.newAt _ _ (by simp) _ _ _).alloc _).alloc _)
  have PB : Bk2 V0 (w.heap.size + 1) (.bool m2) (.slice D l d) := by rw [hV0]; exact ((Bk2.newAt _ _ (by simp) _ _ _).alloc _)
  have PR : Bk2 V0 (w.heap.size + 2) (.bool false) (.slice none 0 0) := by rw [hV0]; exact (Bk2.newAt _ _ (by simp) _ _ _)
  rw [← hV0]
  clear hV0
  replace E : Below w.heap.size w V0 := E.trans (bV0.mono E.size)
  replace HA : DRd V0 (B) A k c xs := HA.below bV0 (by omega)
  replace HB : DRd V0 (B) D l d ys := HB.below bV0 (by omega)
  clear bV0
  have G0 : Below V0.heap.size V0 V0.drew := Below.drew (Below.refl _ _)
  have HS := Lib.hid (fun (u : World) (hu : Below V0.heap.size V0 u) => (⟨hu, (PA.below hu PA.lt).c0, (PA.below hu PA.lt).c1, (PB.below hu PB.lt).c0, (PB.below hu PB.lt).c1⟩ : Below V0.heap.size V0 u ∧ u.cell? ⟨w.heap.size, 0, none⟩ = some (.bool m) ∧ u.cell? ⟨w.heap.size, 1, none⟩ = some (.slice A k c) ∧ u.cell? ⟨w.heap.size + 1, 0, none⟩ = some (.bool m2) ∧ u.cell? ⟨w.heap.size + 1, 1, none⟩ = some (.slice D l d)))
  go_region_held3 (fun u => Below V0.heap.size V0 u ∧ u.cell? ⟨w.heap.size, 0, none⟩ = some (.bool m) ∧ u.cell? ⟨w.heap.size, 1, none⟩ = some (.slice A k c) ∧ u.cell? ⟨w.heap.size + 1, 0, none⟩ = some (.bool m2) ∧ u.cell? ⟨w.heap.size + 1, 1, none⟩ = some (.slice D l d)) (first | with_reducible exact HS.out _ G0 | with_reducible exact HS.out _ B2 | with_reducible exact HS.out _ B1 | fail)
    (first
      | (go_at_call 29; (with_reducible refine (ones_any _ V0.heap.size A k c xs ((HA.below G0 (by omega)).more (by omega)) (by have := G0.size; omega) (by omega)).mono ?_); rintro e u1 ⟨A1, k1, c1, x1, rfl, hO1, hr1, hb1⟩; have B1 : Below V0.heap.size V0 u1 := bnext G0 hb1; have R1 := Lib.hid hr1; have L1 := Lib.hid hO1.len.out; have kb1 := digD_len2 HX.out HA.len.out (by have h9 := hr1; rw [HX.out.val] at h9; exact h9) hO1.len.out; clear hr1 hO1)
      | (go_at_call 29; (with_reducible refine (ones_any _ V0.heap.size D l d ys ((HB.below B1 (by omega)).more (by omega)) (by have := B1.size; omega) (by omega)).mono ?_); rintro e u2 ⟨A2, k2, c2, x2, rfl, hO2, hr2, hb2⟩; have B2 : Below V0.heap.size V0 u2 := bnext B1 hb2; have R2 := Lib.hid hr2; have L2 := Lib.hid hO2.len.out; have kb2 := digD_len2 HY.out HB.len.out (by have h9 := hr2; rw [HY.out.val] at h9; exact h9) hO2.len.out; clear hr2 hO2)
      | fail)
  clear HS G0 hb1 hb2 B1
  have hw1 : IntKind.i64.wrap ((k1 : Int) + (k2 : Int)) = (k1 : Int) + (k2 : Int) := IntWalk.i64_in _ (by omega)
  have hw2 : IntKind.i64.wrap ((k1 : Int) + (k2 : Int) + 2) = (k1 : Int) + (k2 : Int) + 2 := IntWalk.i64_in _ (by omega)
  obtain ⟨N, hN⟩ : ∃ N : Nat, N = k1 + k2 + 2 := ⟨_, rfl⟩
  have hNi : (k1 : Int) + (k2 : Int) + 2 = (N : Int) := by omega
  have hNa : k1 + 1 ≤ N ∧ k2 + 1 ≤ N ∧ 2 ≤ N ∧ N ≤ 10000000 := by omega
  obtain ⟨na, nb', n2, nM⟩ := hNa
  first | (rw [hw1, hw2, hNi]) | (rw [hNi]) | (simp only [hw1, hw2, hNi])
  clear hw1 hw2 hNi hN
  have s2 := B2.size
  replace E : Below w.heap.size w u2 := E.trans (B2.mono E.size)
  replace HA : DRd u2 (B) A k c xs := HA.below B2 (by omega)
  replace HB : DRd u2 (B) D l d ys := HB.below B2 (by omega)
  replace PA : Bk2 u2 (w.heap.size) (.bool m) (.slice A k c) := PA.below B2 PA.lt
  replace PB : Bk2 u2 (w.heap.size + 1) (.bool m2) (.slice D l d) := PB.below B2 PB.lt
  replace PR : Bk2 u2 (w.heap.size + 2) (.bool false) (.slice none 0 0) := PR.below B2 PR.lt
  clear B2
  go_upto_region 2 with fail
  have G0 : Below u2.heap.size u2 u2.drew := Below.drew (Below.refl _ _)
  have HS := Lib.hid (fun (u : World) (hu : Below u2.heap.size u2 u) => (⟨hu, (PA.below hu PA.lt).c0, (PA.below hu PA.lt).c1, (PB.below hu PB.lt).c0, (PB.below hu PB.lt).c1⟩ : Below u2.heap.size u2 u ∧ u.cell? ⟨w.heap.size, 0, none⟩ = some (.bool m) ∧ u.cell? ⟨w.heap.size, 1, none⟩ = some (.slice A k c) ∧ u.cell? ⟨w.heap.size + 1, 0, none⟩ = some (.bool m2) ∧ u.cell? ⟨w.heap.size + 1, 1, none⟩ = some (.slice D l d)))
  have g0s := G0.size
  go_region_held3 (fun u => Below u2.heap.size u2 u ∧ u.cell? ⟨w.heap.size, 0, none⟩ = some (.bool m) ∧ u.cell? ⟨w.heap.size, 1, none⟩ = some (.slice A k c) ∧ u.cell? ⟨w.heap.size + 1, 0, none⟩ = some (.bool m2) ∧ u.cell? ⟨w.heap.size + 1, 1, none⟩ = some (.slice D l d)) (first | with_reducible exact HS.out _ G0 | with_reducible exact HS.out _ B2 | with_reducible exact HS.out _ B1 | fail)
    (first
      | (go_at_call 99; (with_reducible refine (twos_any _ u2.heap.size m A k c N p xs ((HA.below G0 (by omega)).more (by omega)) (by have := G0.size; omega) hk (by omega) nM HX.out).mono ?_); rintro e u3 ⟨gx, cx, X, rfl, hRx, hlx, hgx, hcx1, hcx2, hbx, hb3⟩; have B1 : Below u2.heap.size u2 u3 := bnext G0 hb3; have HBX := Lib.hid hbx; clear hbx)
      | (go_at_call 99; (with_reducible refine (twos_any _ u2.heap.size m2 D l d N q ys ((HB.below B1 (by omega)).more (by omega)) (by have := B1.size; omega) hl (by omega) nM HY.out).mono ?_); rintro e u4 ⟨gy, cy, Y, rfl, hRy, hly, hgy, hcy1, hcy2, hby, hb4⟩; have B2 : Below u2.heap.size u2 u4 := bnext B1 hb4; have HBY := Lib.hid hby; clear hby; have hgxy : gx < gy := (by have := hRx.lt; omega); have hRx2 := hRx.below hb4 hRx.lt)
      | fail)
  clear HS G0 hRx hb3 hb4
  have s4 := B2.size
  have sb1 := B1.size
  clear B1
  clear HA HB PA PB
  replace E : Below w.heap.size w u4 := E.trans (B2.mono E.size)
  replace PR : Bk2 u4 (w.heap.size + 2) (.bool false) (.slice none 0 0) := PR.below B2 PR.lt
  clear B2
  have hgw : w.heap.size + 3 ≤ gx := by omega
  go_wp2_with fail
  go_loopw [10] (BwRel (fun p q => p != q) N gx gy X Y u4) (fun i _ => N - (intOf i).toNat)
  case atStart => exact ⟨0, X, by omega, rfl, hRx2, hRy, hlx, Lib.hid (fun t ht => by rw [if_neg (Nat.not_lt_zero _)]), Below.refl _ _⟩
  case round =>
    obtain ⟨j, xs', hj, rfl, hR, hRY, hrl, HI, hbw⟩ := hrel
    have hsw := hbw.size
    have hgl := hR.lt
    have hgly := hRY.lt
    by_cases h1 : j < N
    · have hcx := hR.cell (j := j) (by omega)
      have hcy := hRY.cell (j := j) (by omega)
      have hfr := hR.frozen j
      have hX9 : xs'.getD j false = X.getD j false := by rw [HI.out j h1, if_neg (Nat.lt_irrefl j)]
      obtain ⟨a, ha⟩ : ∃ a, a = X.getD j false := ⟨_, rfl⟩
      obtain ⟨b, hb⟩ : ∃ b, b = Y.getD j false := ⟨_, rfl⟩
      have hst := Lib.hid (bw_step (f := (fun p q => p != q)) hrl h1 HI.out ha hb)
      have HP1 := Lib.hid (hR.put j ((fun p q => p != q) a b))
      have HP2 := Lib.hid (hRY.far (p := ⟨gx, j, none⟩) (by show gy ≠ gx; omega) (.bool ((fun p q => p != q) a b)))
      rw [hX9, ← ha] at hcx
      rw [← hb] at hcy
      have HRY := Lib.hid hRY
      clear hX9 ha hb hR hRY HI
      go_upto_region 7 with fail
      go_region
      all_goals (go_wp2_with fail)
      all_goals
          go_roundw
          (case rel => exact ⟨j + 1, _, by omega, by go_num, (by first | exact HP1.out | exact HP1.out.drew | exact HP1.out.drewN _ | (have h9 := HP1.out; simp at h9 ⊢; exact h9)), (by first | exact HP2.out | exact HP2.out.drew | exact HP2.out.drewN _ | (have h9 := HP2.out; simp at h9 ⊢; exact h9)), by rw [List.length_set]; exact hrl, hst, (by (repeat (first | with_reducible exact hbw | with_reducible refine Below.drew ?_ | with_reducible refine below_drewN ?_ _ | with_reducible refine Below.setCell ?_ (by first | (simp; done) | omega) _)))⟩)
          (case measure => first | (simp [intOf]; done) | (simp [intOf]; omega))
    · obtain rfl : j = N := by omega
      have hcl := hR.cell (j := j - 1) (by omega)
      have e9 : ((j : Int) - 1) = ((j - 1 : Nat) : Int) := by omega
      have PR2 : Bk2 wr (w.heap.size + 2) (.bool false) (.slice none 0 0) := PR.below hbw (by omega)
      have E2 : Below w.heap.size w wr := E.trans (hbw.mono (by omega))
      have HD := Lib.hid (show ∀ t, t < j → xs'.getD t false = (fun p q => p != q) (zbit (sval m p) t) (zbit (sval m2 q) t) from fun t ht => by rw [HI.out t ht, if_pos ht, HBX.out t ht, HBY.out t ht])
      have HLp := Lib.hid (show p < 2 ^ k1 from by have h9 := R1.out.lt_pow (by decide); rw [HX.out.val, L1.out] at h9; exact h9)
      have HLq := Lib.hid (show q < 2 ^ k2 from by have h9 := R2.out.lt_pow (by decide); rw [HY.out.val, L2.out] at h9; exact h9)
      have HSG := Lib.hid (show ∃ sa sb, (∀ t, k1 ≤ t → zbit (sval m p) t = sa) ∧ (∀ t, k2 ≤ t → zbit (sval m2 q) t = sb) ∧ xs'.getD (j - 1) false = (fun p q => p != q) sa sb from by
        obtain ⟨sa, hsa⟩ := high2 m HLp.out
        obtain ⟨sb, hsb⟩ := high2 m2 HLq.out
        exact ⟨sa, sb, hsa, hsb, by rw [HD.out _ (by omega), hsa _ (by omega), hsb _ (by omega)]⟩)
      clear PR E hbw HI hRx2 hRy hRY
      obtain ⟨lb, hlb⟩ : ∃ lb, lb = xs'.getD (j - 1) false := ⟨_, rfl⟩
      rw [← hlb] at hcl HSG
      clear hlb
      cases lb
      · have HZ := Lib.hid (show ZOp (fun p q => p != q) (sval m p) (sval m2 q) (snum false (vb 2 (nums xs'))) from by
          obtain ⟨sa, sb, h1, h2, h3⟩ := HSG.out
          exact comb2_math hrl (fun t ht => h1 t (by omega)) (fun t ht => h2 t (by omega)) h3.symm (fun t ht => by rw [HD.out t ht]; simp))
        have hO := hR.ord (B := wr.heap.size) hgl hrl (c := cx) ⟨hcx1, by unfold maxLen at hcx2; omega⟩
        clear hR
        go_wp2_with fail
        refine (binary_any _ wr.heap.size _ j cx _ hO (Nat.le_refl _) (by omega)).mono ?_
        rintro e w7 ⟨A7, k7, c7, z7, rfl, hd7, hr7, hb7⟩
        have R7 := Lib.hid hr7
        have sw7 := hb7.size
        clear hr7 hO
        replace E2 : Below w.heap.size w w7 := E2.trans (hb7.mono E2.size)
        replace PR2 : Bk2 w7 (w.heap.size + 2) (.bool false) (.slice none 0 0) := PR2.below hb7 PR2.lt
        clear hb7
        have y_PR20 : w7.cell? ⟨w.heap.size + 2, 0, none⟩ = some ((.bool false)) := PR2.c0
        have z_PR20 : w7.frozen? ⟨w.heap.size + 2, 0, none⟩ = false := PR2.z0
        have y_PR21 : w7.cell? ⟨w.heap.size + 2, 1, none⟩ = some ((.slice none 0 0)) := PR2.c1
        have z_PR21 : w7.frozen? ⟨w.heap.size + 2, 1, none⟩ = false := PR2.z1
        have lt_PR2 := PR2.lt
        go_wp2_with fail
        clear y_PR20 z_PR20 y_PR21 z_PR21 lt_PR2
        obtain ⟨U1PR2, hU1PR2⟩ : ∃ U1PR2 : World, U1PR2 = ((w7.setCell ⟨w.heap.size + 2, 0, none⟩ (.bool false)).setCell ⟨w.heap.size + 2, 1, none⟩ (.slice A7 k7 c7)) := ⟨_, rfl⟩
        have zU1PR2 : U1PR2.heap.size = w7.heap.size := by rw [hU1PR2]; simp [World.setCell]
        replace E2 : Below w.heap.size w U1PR2 := by rw [hU1PR2]; exact (E2.setCell (by first | (simp; done) | (simp; omega)) _).setCell (by first | (simp; done) | (simp; omega)) _
        replace hd7 : DRd U1PR2 (w7.heap.size) A7 k7 c7 z7 := by rw [hU1PR2]; first | exact hd7.setFar2 (by omega) _ _ | exact hd7.setBD PR2 (by simp) (by simp) _ _
        replace PR2 : Bk2 U1PR2 (w.heap.size + 2) (.bool false) (.slice A7 k7 c7) := by rw [hU1PR2]; exact PR2.set _ _
        rw [← hU1PR2]
        clear hU1PR2
        have zU1PR2' := Nat.le_of_eq zU1PR2
        replace zU1PR2 := Nat.le_of_eq zU1PR2.symm
        obtain ⟨r0, r1, _, _, _⟩ := PR2
        refine bodyPost_ret (v := intv false A7 k7 c7) (by simp [results, Try.results55, go_sem, r0, r1]) rfl ⟨_, HZ.out, false, A7, k7, c7, z7, _, rfl, hd7.more (by omega), R7.out, rfl, E2⟩
      · obtain ⟨wo, rfl⟩ : ∃ wo : World, wo = wr := ⟨_, rfl⟩
        go_wp2_with fail
        go_loopw [11] (BnRel j gx xs' wo) (fun i _ => j - (intOf i).toNat)
        case atStart => exact ⟨0, xs', by omega, rfl, hR, hrl, Lib.hid (fun t ht => by rw [if_neg (Nat.not_lt_zero _)]), Below.refl _ _⟩
        case round =>
          clear hR hgl hgly hcl
          obtain ⟨t, us, ht, rfl, hR, hul, HI, hbw⟩ := hrel
          have hsw := hbw.size
          have hgl := hR.lt
          by_cases h2 : t < j
          · have hcx := hR.cell (j := t) (by omega)
            have hfr := hR.frozen t
            have hX9 : us.getD t false = xs'.getD t false := by rw [HI.out t h2, if_neg (Nat.lt_irrefl t)]
            obtain ⟨a, ha⟩ : ∃ a, a = xs'.getD t false := ⟨_, rfl⟩
            have hst := Lib.hid (bn_step hul h2 HI.out ha)
            have HP1 := Lib.hid (hR.put t (!a))
            rw [hX9, ← ha] at hcx
            clear hX9 ha hR HI
            go_wp2_with fail
            go_roundw
            case rel => exact ⟨t + 1, _, by omega, by go_num, HP1.out, by rw [List.length_set]; exact hul, hst, hbw.setCell (Nat.le_refl _) _⟩
            case measure => first | (simp [intOf]; done) | (simp [intOf]; omega)
          · obtain rfl : t = j := by omega
            have PR3 : Bk2 wr (w.heap.size + 2) (.bool false) (.slice none 0 0) := PR2.below hbw (by omega)
            have E3 : Below w.heap.size w wr := E2.trans (hbw.mono (by omega))
            have HZ := Lib.hid (show ZOp (fun p q => p != q) (sval m p) (sval m2 q) (snum true (vb 2 (nums us))) from by
              obtain ⟨sa, sb, h1, h2, h3⟩ := HSG.out
              exact comb2_math hul (fun i hi => h1 i (by omega)) (fun i hi => h2 i (by omega)) h3.symm (fun i hi => by rw [HI.out i hi, if_pos hi, HD.out i hi]; simp))
            have hO := hR.ord (B := wr.heap.size) hgl hul (c := cx) ⟨hcx1, by unfold maxLen at hcx2; omega⟩
            clear hR HI hbw PR2 E2
            go_wp2_with fail
            refine (binary_any _ wr.heap.size _ t cx _ hO (Nat.le_refl _) (by omega)).mono ?_
            rintro e w7 ⟨A7, k7, c7, z7, rfl, hd7, hr7, hb7⟩
            have R7 := Lib.hid hr7
            have K7 := Lib.hid (bin_len hr7 (by rw [nums_len, hul]) hd7.len.out)
            have sw7 := hb7.size
            clear hr7 hO
            replace E3 : Below w.heap.size w w7 := E3.trans (hb7.mono E3.size)
            replace PR3 : Bk2 w7 (w.heap.size + 2) (.bool false) (.slice none 0 0) := PR3.below hb7 PR3.lt
            clear hb7
            go_wp2_with fail
            refine (small_1 _).mono ?_
            rintro e w8 ⟨A8, k8, c8, z8, rfl, hd8, hr8, hb8⟩
            have R8 := Lib.hid hr8
            have K8 := rep_one' hr8 hd8.len.out
            have sw8 := hb8.size
            clear hr8
            replace E3 : Below w.heap.size w w8 := E3.trans (hb8.mono E3.size)
            replace PR3 : Bk2 w8 (w.heap.size + 2) (.bool false) (.slice none 0 0) := PR3.below hb8 PR3.lt
            replace hd7 : DRd w8 (w7.heap.size) A7 k7 c7 z7 := hd7.below hb8 (by omega)
            clear hb8
            go_wp2_with fail
            have k7b := K7.out
            obtain ⟨M, hM1, hM2, hM3⟩ : ∃ M, k7 ≤ M ∧ k8 ≤ M ∧ (M = k7 ∨ M = k8) := ⟨max k7 k8, by omega, by omega, by omega⟩
            refine (plus_any _ w8.heap.size A7 A8 k7 k8 c7 c8 M z7 z8 (hd7.more (by omega)) hd8 (Nat.le_refl _) hM1 hM2 (by omega) hM3).mono ?_
            rw [R7.out.val, R8.out.val]
            rintro e w9 ⟨A9, k9, c9, z9, rfl, hd9, hr9, hb9⟩
            have R9 := Lib.hid hr9
            have sw9 := hb9.size
            clear hr9
            clear hd7 hd8
            replace E3 : Below w.heap.size w w9 := E3.trans (hb9.mono E3.size)
            replace PR3 : Bk2 w9 (w.heap.size + 2) (.bool false) (.slice none 0 0) := PR3.below hb9 PR3.lt
            clear hb9
            have y_PR30 : w9.cell? ⟨w.heap.size + 2, 0, none⟩ = some ((.bool false)) := PR3.c0
            have z_PR30 : w9.frozen? ⟨w.heap.size + 2, 0, none⟩ = false := PR3.z0
            have y_PR31 : w9.cell? ⟨w.heap.size + 2, 1, none⟩ = some ((.slice none 0 0)) := PR3.c1
            have z_PR31 : w9.frozen? ⟨w.heap.size + 2, 1, none⟩ = false := PR3.z1
            have lt_PR3 := PR3.lt
            go_wp2_with fail
            clear y_PR30 z_PR30 y_PR31 z_PR31 lt_PR3
            obtain ⟨U3PR3, hU3PR3⟩ : ∃ U3PR3 : World, U3PR3 = ((w9.setCell ⟨w.heap.size + 2, 0, none⟩ (.bool true)).setCell ⟨w.heap.size + 2, 1, none⟩ (.slice A9 k9 c9)) := ⟨_, rfl⟩
            have zU3PR3 : U3PR3.heap.size = w9.heap.size := by rw [hU3PR3]; simp [World.setCell]
            replace E3 : Below w.heap.size w U3PR3 := by rw [hU3PR3]; exact (E3.setCell (by first | (simp; done) | (simp; omega)) _).setCell (by first | (simp; done) | (simp; omega)) _
            replace hd9 : DRd U3PR3 (w9.heap.size) A9 k9 c9 z9 := by rw [hU3PR3]; first | exact hd9.setFar2 (by omega) _ _ | exact hd9.setBD PR3 (by simp) (by simp) _ _
            replace PR3 : Bk2 U3PR3 (w.heap.size + 2) (.bool true) (.slice A9 k9 c9) := by rw [hU3PR3]; exact PR3.set _ _
            rw [← hU3PR3]
            clear hU3PR3
            have zU3PR3' := Nat.le_of_eq zU3PR3
            replace zU3PR3 := Nat.le_of_eq zU3PR3.symm
            obtain ⟨r0, r1, _, _, _⟩ := PR3
            refine bodyPost_ret (v := intv true A9 k9 c9) (by simp [results, Try.results55, go_sem, r0, r1]) rfl ⟨_, HZ.out, true, A9, k9, c9, z9, _, rfl, hd9.more (by omega), R9.out, rfl, E3⟩
end Go.Proofs.Ytpjfoggohhlbdaa
