/- NaturalDivides: the law, where the divisor is not 0. -/
import Derived.Test.YtjkogajdpkbjeaaDivA
import Derived.Deep.RegionWith
import Derived.Deep.RegionHeld3
import Derived.Deep.DeepCutAuto
namespace Go.Proofs.Ytjkogajdpkbjeaa
open Go.RowKit
set_option maxHeartbeats 400000
set_option maxRecDepth 100000
set_option linter.unusedSimpArgs false
set_option linter.unusedVariables false

theorem dm_back {p q : Nat} : p / q * q + p % q = p := by rw [Nat.mul_comm]; exact Nat.div_add_mod p q
set_option maxHeartbeats 8000000 in
theorem div_okk (w : World) (A D : Option Addr) (n m c d : Nat) (xs ys : List Nat) (h : LRd w w.heap.size A n c xs) (k : LRd w w.heap.size D m d ys) (hx : vld xs = true) (hy : vld ys = true) (p q : Nat) (hp : vb 4294967296 xs = p) (hq : vb 4294967296 ys = q) (hm0 : 0 < m) :
    Calls Try.prog 4 #[.slice A n c, .slice D m d] w fun e w' => e = .returned (.bool true) ∧ Below w.heap.size w w' := by
  have hcap := h.cap
  have hcap2 := k.cap
  have hn : n ≤ 600 := by have := (vld_top hx).2; have := h.len.out; omega
  have hm : m ≤ 600 := by have := (vld_top hy).2; have := k.len.out; omega
  have hq0 : 0 < q := by
    rcases Nat.eq_zero_or_pos q with e | e
    · exfalso
      have := low_pos (vld_top hy).1 k.len.out hm0
      omega
    · exact e
  have hpM : p < 65536 ^ 1200 := by rw [← hp, ← big65 rfl]; exact vld_lt h.lim hx
  go_enter Try.func4, Try.ntmps4
  go_wp2_with fail
  refine (pairFault_ok w _ A D n m c d xs ys h k (Nat.le_refl _) hx hy).mono ?_
  rintro e w1 ⟨rfl, hb1⟩
  have hs1 := hb1.size
  have H1 := (h.below hb1 (Nat.le_refl _)).alloc hs1 (.cells #[.int .i64 (0), .int .i64 (0)] 24)
  have K1 := (k.below hb1 (Nat.le_refl _)).alloc hs1 (.cells #[.int .i64 (0), .int .i64 (0)] 24)
  have P1 := FC.new w1 (0) (0)
  have E1 : Below w.heap.size w (w1.alloc (.cells #[.int .i64 (0), .int .i64 (0)] 24)) := hb1.alloc hs1 _
  go_wp2_with fail
  refine (divmod_ok _ _ A D n m c d xs ys H1 K1 (by have := E1.size; omega) hx hy).mono ?_
  intro e w2 hdm
  obtain ⟨A1, j1, c1, z1, A2, j2, c2, z2, rfl, hl1, hr1, hl2, hr2, hb2⟩ := (hdm.resolve_left (fun hh => absurd hh.1 (by have := k.len.out; omega))).2
  clear hdm
  rw [hp, hq] at hr1 hr2
  have hj1 : j1 ≤ 600 := fit_small hr1 hl1.len.out (Nat.lt_of_le_of_lt (Nat.div_le_self _ _) (by rw [← hp]; exact vld_lt h.lim hx))
  have hj2 : j2 ≤ 600 := fit_small hr2 hl2.len.out (Nat.lt_of_le_of_lt (Nat.mod_le _ _) (by rw [← hp]; exact vld_lt h.lim hx))
  have hcj1 := hl1.cap
  have hcj2 := hl2.cap
  have hs2 := next_lt hb2
  have H2 := (H1.below hb2 (by have := E1.size; omega)).alloc (by have := E1.size; have := hb2.size; omega) (.cells #[.int .i64 (0), .int .i64 (0)] 24)
  have K2 := (K1.below hb2 (by have := E1.size; omega)).alloc (by have := E1.size; have := hb2.size; omega) (.cells #[.int .i64 (0), .int .i64 (0)] 24)
  have E2 : Below w.heap.size w (w2.alloc (.cells #[.int .i64 (0), .int .i64 (0)] 24)) := (E1.trans (hb2.mono (by have := E1.size; omega))).alloc (by have := E1.size; have := hb2.size; omega) _
  have P1 := (P1.below hb2 P1.lt).alloc (.cells #[.int .i64 (0), .int .i64 (0)] 24)
  have P2 := FC.new w2 (0) (0)
  have hl1 := hl1.allocM (.cells #[.int .i64 (0), .int .i64 (0)] 24)
  have hl2 := hl2.allocM (.cells #[.int .i64 (0), .int .i64 (0)] 24)
  clear H1 K1 E1 hb2
  go_wp2_with fail
  refine (gcd_ok _ _ A D n m c d xs ys H2 K2 (by have := E2.size; omega) hx hy).mono ?_
  rintro e w3 ⟨A3, j3, c3, z3, rfl, hl3, hr3, hb3⟩
  rw [hp, hq] at hr3
  have hs3 := next_lt hb3
  have H3 := (H2.below hb3 (by have := E2.size; omega)).alloc (by have := E2.size; have := hb3.size; omega) (.cells #[.int .i64 (0), .int .i64 (0)] 24)
  have K3 := (K2.below hb3 (by have := E2.size; omega)).alloc (by have := E2.size; have := hb3.size; omega) (.cells #[.int .i64 (0), .int .i64 (0)] 24)
  have E3 : Below w.heap.size w (w3.alloc (.cells #[.int .i64 (0), .int .i64 (0)] 24)) := (E2.trans (hb3.mono (by have := E2.size; omega))).alloc (by have := E2.size; have := hb3.size; omega) _
  have P1 := (P1.below hb3 P1.lt).alloc (.cells #[.int .i64 (0), .int .i64 (0)] 24)
  have P2 := (P2.below hb3 P2.lt).alloc (.cells #[.int .i64 (0), .int .i64 (0)] 24)
  have P3 := FC.new w3 (0) (0)
  have hl1 := ((hl1.below hb3 (Nat.le_refl _)).more hb3.size).allocM (.cells #[.int .i64 (0), .int .i64 (0)] 24)
  have hl2 := ((hl2.below hb3 (Nat.le_refl _)).more hb3.size).allocM (.cells #[.int .i64 (0), .int .i64 (0)] 24)
  have hl3 := hl3.allocM (.cells #[.int .i64 (0), .int .i64 (0)] 24)
  clear H2 K2 E2 hb3
  go_wp2_with fail
  refine (sums_any _).mono ?_
  rintro e w4 ⟨rfl, hb4⟩
  have H4 := H3.below hb4 E3.size
  have K4 := K3.below hb4 E3.size
  have E4 := E3.trans (hb4.mono E3.size)
  have P1 := P1.below hb4 P1.lt
  have P2 := P2.below hb4 P2.lt
  have P3 := P3.below hb4 P3.lt
  have hl1 := (hl1.below hb4 (Nat.le_refl _)).more hb4.size
  have hl2 := (hl2.below hb4 (Nat.le_refl _)).more hb4.size
  have hl3 := (hl3.below hb4 (Nat.le_refl _)).more hb4.size
  clear H3 K3 E3 hb4
  obtain ⟨q10, q11, q12⟩ := id P1
  obtain ⟨q20, q21, q22⟩ := id P2
  obtain ⟨q30, q31, q32⟩ := id P3
  have hmf : ((m : Int) == 0) = false := beq_eq_false_iff_ne.2 (by omega)
  by_cases hsm : n ≤ 130 ∧ m ≤ 130
  · obtain ⟨hsn, hsm⟩ := hsm
    go_wp2_with fail
    clear q10 q11 q12 q20 q21 q22 q30 q31 q32
    refine (of_any _ _ A n c xs H4 E4.size (by omega)).mono ?_
    rintro e w5 ⟨A4, k4, c4, ds, rfl, hd4, hrd4, hb5⟩
    have H5 := H4.below hb5 E4.size
    have K5 := K4.below hb5 E4.size
    have E5 := E4.trans (hb5.mono E4.size)
    have P1 := P1.below hb5 P1.lt
    have P2 := P2.below hb5 P2.lt
    have P3 := P3.below hb5 P3.lt
    have hl1 := (hl1.below hb5 (Nat.le_refl _)).more hb5.size
    have hl2 := (hl2.below hb5 (Nat.le_refl _)).more hb5.size
    have hl3 := (hl3.below hb5 (Nat.le_refl _)).more hb5.size
    clear H4 K4 E4 hb5
    go_wp2_with fail
    refine (of_any _ _ D m d ys K5 E5.size (by omega)).mono ?_
    rintro e w6 ⟨A5, k5, c5, es, rfl, hd5, hrd5, hb6⟩
    have H6 := H5.below hb6 E5.size
    have K6 := K5.below hb6 E5.size
    have E6 := E5.trans (hb6.mono E5.size)
    have P1 := P1.below hb6 P1.lt
    have P2 := P2.below hb6 P2.lt
    have P3 := P3.below hb6 P3.lt
    have hl1 := (hl1.below hb6 (Nat.le_refl _)).more hb6.size
    have hl2 := (hl2.below hb6 (Nat.le_refl _)).more hb6.size
    have hl3 := (hl3.below hb6 (Nat.le_refl _)).more hb6.size
    have hd4 := (hd4.below hb6 (Nat.le_refl _)).more hb6.size
    clear H5 K5 E5 hb6
    rw [hp] at hrd4
    rw [hq] at hrd5
    have hk4 := len65 hrd4 hd4.len.out hp H6.lim H6.len.out
    have hk5 := len65 hrd5 hd5.len.out hq K6.lim K6.len.out
    go_wp2_with fail
    refine (common_any _ _ A4 A5 k4 k5 c4 c5 1200 p q ds es hd4 hd5 (Nat.le_refl _) (by omega) (by omega) (by omega) hrd4 hrd5).mono ?_
    rintro e w7 ⟨A6, k6, c6, fs, rfl, hd6, hrd6, hb7⟩
    have H7 := H6.below hb7 E6.size
    have K7 := K6.below hb7 E6.size
    have E7 := E6.trans (hb7.mono E6.size)
    have P1 := P1.below hb7 P1.lt
    have P2 := P2.below hb7 P2.lt
    have P3 := P3.below hb7 P3.lt
    have hl1 := (hl1.below hb7 (Nat.le_refl _)).more hb7.size
    have hl2 := (hl2.below hb7 (Nat.le_refl _)).more hb7.size
    have hl3 := (hl3.below hb7 (Nat.le_refl _)).more hb7.size
    have hd4 := (hd4.below hb7 (Nat.le_refl _)).more hb7.size
    have hd5 := (hd5.below hb7 (Nat.le_refl _)).more hb7.size
    clear H6 K6 E6 hb7
    have hk6 := gcd_len65 (M := 1200) hrd6 hd6.len.out hrd4 hd4.len.out (by omega) hrd5 hd5.len.out (by omega)
    go_wp2_with fail
    refine (limbs_any _ _ A6 k6 c6 _ fs hd6 (Nat.le_refl _) (by omega) hrd6).mono ?_
    rintro e w8 ⟨A7, k7, c7, gs, rfl, hd7, hrd7, hb8⟩
    have H8 := H7.below hb8 E7.size
    have K8 := K7.below hb8 E7.size
    have E8 := E7.trans (hb8.mono E7.size)
    have P1 := P1.below hb8 P1.lt
    have P2 := P2.below hb8 P2.lt
    have P3 := P3.below hb8 P3.lt
    have hl1 := (hl1.below hb8 (Nat.le_refl _)).more hb8.size
    have hl2 := (hl2.below hb8 (Nat.le_refl _)).more hb8.size
    have hl3 := (hl3.below hb8 (Nat.le_refl _)).more hb8.size
    have hd4 := (hd4.below hb8 (Nat.le_refl _)).more hb8.size
    have hd5 := (hd5.below hb8 (Nat.le_refl _)).more hb8.size
    clear H7 K7 E7 hb8
    obtain rfl := hr3.unique (by decide) hrd7
    go_wp2_with fail
    refine (sameLimbs_any w8 _ A3 A7 j3 k7 c3 c7 _ _ hl3 hd7).mono ?_
    rintro e w9 ⟨rfl, kk, hkk⟩
    have hsb := sameB_refl z3
    have hb9 : Below w8.heap.size w8 w9 := by rw [hkk]; exact below_drewN (Below.refl _ _) kk
    have H9 := H8.below hb9 E8.size
    have K9 := K8.below hb9 E8.size
    have E9 := E8.trans (hb9.mono E8.size)
    have P1 := P1.below hb9 P1.lt
    have P2 := P2.below hb9 P2.lt
    have P3 := P3.below hb9 P3.lt
    have hl1 := (hl1.below hb9 (Nat.le_refl _)).more hb9.size
    have hl2 := (hl2.below hb9 (Nat.le_refl _)).more hb9.size
    have hl3 := (hl3.below hb9 (Nat.le_refl _)).more hb9.size
    clear H8 K8 E8 hb9
    clear hkk
    obtain ⟨q10, q11, q12⟩ := id P1
    obtain ⟨q20, q21, q22⟩ := id P2
    obtain ⟨q30, q31, q32⟩ := id P3
    go_wp2_with fail
    refine (of_any _ _ A1 j1 c1 z1 hl1 (Nat.le_refl _) (by omega)).mono ?_
    rintro e w10 ⟨B1, b1, o1, ds1, rfl, hx1, hrx1, hb10⟩
    have H10 := H9.below hb10 E9.size
    have K10 := K9.below hb10 E9.size
    have E10 := E9.trans (hb10.mono E9.size)
    have P1 := P1.below hb10 P1.lt
    have P2 := P2.below hb10 P2.lt
    have P3 := P3.below hb10 P3.lt
    have hl1 := (hl1.below hb10 (Nat.le_refl _)).more hb10.size
    have hl2 := (hl2.below hb10 (Nat.le_refl _)).more hb10.size
    clear H9 K9 E9 hb10
    go_wp2_with fail
    refine (of_any _ _ A2 j2 c2 z2 hl2 (Nat.le_refl _) (by omega)).mono ?_
    rintro e w11 ⟨B2, b2, o2, ds2, rfl, hx2, hrx2, hb11⟩
    have H11 := H10.below hb11 E10.size
    have K11 := K10.below hb11 E10.size
    have E11 := E10.trans (hb11.mono E10.size)
    have P1 := P1.below hb11 P1.lt
    have P2 := P2.below hb11 P2.lt
    have P3 := P3.below hb11 P3.lt
    have hl1 := (hl1.below hb11 (Nat.le_refl _)).more hb11.size
    have hl2 := (hl2.below hb11 (Nat.le_refl _)).more hb11.size
    have hx1 := (hx1.below hb11 (Nat.le_refl _)).more hb11.size
    clear H10 K10 E10 hb11
    rw [hr1.val] at hrx1
    rw [hr2.val] at hrx2
    go_wp2_with fail
    refine (nok_t _ _ A1 j1 c1 z1 hl1 (rep_vld hr1.top (by have := hl1.len.out; omega))).mono ?_
    rintro e w' ⟨rfl, rfl⟩
    go_wp2_with fail
    refine (nok_t _ _ A2 j2 c2 z2 hl2 (rep_vld hr2.top (by have := hl2.len.out; omega))).mono ?_
    rintro e w' ⟨rfl, rfl⟩
    go_wp2_with fail
    refine (of_any _ _ D m d ys K11 E11.size (by omega)).mono ?_
    rintro e w12 ⟨B3, b3, o3, ds3, rfl, hx3, hrx3, hb12⟩
    have H12 := H11.below hb12 E11.size
    have K12 := K11.below hb12 E11.size
    have E12 := E11.trans (hb12.mono E11.size)
    have P1 := P1.below hb12 P1.lt
    have P2 := P2.below hb12 P2.lt
    have P3 := P3.below hb12 P3.lt
    have hx1 := (hx1.below hb12 (Nat.le_refl _)).more hb12.size
    have hx2 := (hx2.below hb12 (Nat.le_refl _)).more hb12.size
    clear H11 K11 E11 hb12
    rw [hq] at hrx3
    go_wp2_with fail
    refine (compareD_any _ _ B2 B3 b2 b3 o2 o3 ds2 ds3 hx2 hx3).mono ?_
    rintro e w13 ⟨r1, rfl, hcr1, kk1, hkk⟩
    have hv1 := cmp_rep (by decide) hcr1 hx2.len.out hx3.len.out hrx2 hrx3
    have hneg : r1 < 0 := by
      have hlt : p % q < q := Nat.mod_lt _ hq0
      unfold CmpV at hv1; omega
    have hb13 : Below w12.heap.size w12 w13 := by rw [hkk]; exact below_drewN (Below.refl _ _) kk1
    have H13 := H12.below hb13 E12.size
    have K13 := K12.below hb13 E12.size
    have E13 := E12.trans (hb13.mono E12.size)
    have P1 := P1.below hb13 P1.lt
    have P2 := P2.below hb13 P2.lt
    have P3 := P3.below hb13 P3.lt
    have hx1 := (hx1.below hb13 (Nat.le_refl _)).more hb13.size
    have hx2 := (hx2.below hb13 (Nat.le_refl _)).more hb13.size
    clear H12 K12 E12 hb13
    clear hkk hcr1 hv1
    go_wp2_with fail
    refine (of_any _ _ D m d ys K13 E13.size (by omega)).mono ?_
    rintro e w14 ⟨B4, b4, o4, ds4, rfl, hx4, hrx4, hb14⟩
    have H14 := H13.below hb14 E13.size
    have K14 := K13.below hb14 E13.size
    have E14 := E13.trans (hb14.mono E13.size)
    have P1 := P1.below hb14 P1.lt
    have P2 := P2.below hb14 P2.lt
    have P3 := P3.below hb14 P3.lt
    have hx1 := (hx1.below hb14 (Nat.le_refl _)).more hb14.size
    have hx2 := (hx2.below hb14 (Nat.le_refl _)).more hb14.size
    clear H13 K13 E13 hb14
    rw [hq] at hrx4
    have hl65 := len65 hrx4 hx4.len.out hq K14.lim K14.len.out
    have hlq := rep_lenD (M := 1200) hrx1 hx1.len.out (Nat.lt_of_le_of_lt (Nat.div_le_self _ _) hpM)
    have hlr := rep_lenD (M := 1200) hrx2 hx2.len.out (Nat.lt_of_le_of_lt (Nat.mod_le _ _) hpM)
    go_wp2_with fail
    refine (times_any _ _ B1 B4 b1 b4 o1 o4 ds1 ds4 hx1 hx4 (Nat.le_refl _) (by omega) (by omega)).mono ?_
    rintro e w15 ⟨B5, b5, o5, ds5, rfl, hx5, hrx5, hb15⟩
    have H15 := H14.below hb15 E14.size
    have K15 := K14.below hb15 E14.size
    have E15 := E14.trans (hb15.mono E14.size)
    have P1 := P1.below hb15 P1.lt
    have P2 := P2.below hb15 P2.lt
    have P3 := P3.below hb15 P3.lt
    have hx2 := (hx2.below hb15 (Nat.le_refl _)).more hb15.size
    clear H14 K14 E14 hb15
    rw [hrx1.val, hrx4.val] at hrx5
    have hl5 := rep_lenD (M := 1200) hrx5 hx5.len.out (Nat.lt_of_le_of_lt (Nat.div_mul_le_self _ _) hpM)
    obtain ⟨MM, hM1, hM2, hM3, hM4⟩ : ∃ MM, b5 ≤ MM ∧ b2 ≤ MM ∧ (MM = b5 ∨ MM = b2) ∧ MM ≤ 1200 := by
      rcases Nat.le_total b5 b2 with e | e
      · exact ⟨b2, e, Nat.le_refl _, .inr rfl, hlr⟩
      · exact ⟨b5, Nat.le_refl _, e, .inl rfl, hl5⟩
    go_wp2_with fail
    refine (plus_any _ _ B5 B2 b5 b2 o5 o2 MM ds5 ds2 hx5 hx2 (Nat.le_refl _) hM1 hM2 (by omega) hM3).mono ?_
    rintro e w16 ⟨B6, b6, o6, ds6, rfl, hx6, hrx6, hb16⟩
    have H16 := H15.below hb16 E15.size
    have K16 := K15.below hb16 E15.size
    have E16 := E15.trans (hb16.mono E15.size)
    have P1 := P1.below hb16 P1.lt
    have P2 := P2.below hb16 P2.lt
    have P3 := P3.below hb16 P3.lt
    clear H15 K15 E15 hb16
    rw [hrx5.val, hrx2.val, dm_back] at hrx6
    go_wp2_with fail
    refine (of_any _ _ A n c xs H16 E16.size (by omega)).mono ?_
    rintro e w17 ⟨B7, b7, o7, ds7, rfl, hx7, hrx7, hb17⟩
    have H17 := H16.below hb17 E16.size
    have K17 := K16.below hb17 E16.size
    have E17 := E16.trans (hb17.mono E16.size)
    have P1 := P1.below hb17 P1.lt
    have P2 := P2.below hb17 P2.lt
    have P3 := P3.below hb17 P3.lt
    have hx6 := (hx6.below hb17 (Nat.le_refl _)).more hb17.size
    clear H16 K16 E16 hb17
    rw [hp] at hrx7
    go_wp2_with fail
    refine (compareD_any _ _ B6 B7 b6 b7 o6 o7 ds6 ds7 hx6 hx7).mono ?_
    rintro e w18 ⟨r2, rfl, hcr2, kk2, hkk⟩
    have hv2 := cmp_rep (by decide) hcr2 hx6.len.out hx7.len.out hrx6 hrx7
    obtain rfl : r2 = 0 := by unfold CmpV at hv2; omega
    have hb18 : Below w17.heap.size w17 w18 := by rw [hkk]; exact below_drewN (Below.refl _ _) kk2
    have H18 := H17.below hb18 E17.size
    have K18 := K17.below hb18 E17.size
    have E18 := E17.trans (hb18.mono E17.size)
    have P1 := P1.below hb18 P1.lt
    have P2 := P2.below hb18 P2.lt
    have P3 := P3.below hb18 P3.lt
    clear H17 K17 E17 hb18
    clear hkk hcr2 hv2
    go_wp2_with fail
    go_ret
    exact ⟨by first | rfl | (simp; done), E18⟩
  · have hsb : ((decide ((n : Int) ≤ 130)) && (decide ((m : Int) ≤ 130))) = false := by
      rw [Bool.and_eq_false_iff]; simp only [decide_eq_false_iff_not]; omega
    have HS2 := Lib.hid hsm
    by_cases hsn : n ≤ 130
    · have hmm : ¬ m ≤ 130 := fun e => HS2.out ⟨hsn, e⟩
      go_wp2_with fail
      clear q10 q11 q12 q20 q21 q22 q30 q31 q32
      refine (of_any _ _ A1 j1 c1 z1 hl1 (Nat.le_refl _) (by omega)).mono ?_
      rintro e w5 ⟨B1, b1, o1, ds1, rfl, hx1, hrx1, hb5⟩
      have H5 := H4.below hb5 E4.size
      have K5 := K4.below hb5 E4.size
      have E5 := E4.trans (hb5.mono E4.size)
      have P1 := P1.below hb5 P1.lt
      have P2 := P2.below hb5 P2.lt
      have P3 := P3.below hb5 P3.lt
      have hl1 := (hl1.below hb5 (Nat.le_refl _)).more hb5.size
      have hl2 := (hl2.below hb5 (Nat.le_refl _)).more hb5.size
      clear H4 K4 E4 hb5
      go_wp2_with fail
      refine (of_any _ _ A2 j2 c2 z2 hl2 (Nat.le_refl _) (by omega)).mono ?_
      rintro e w6 ⟨B2, b2, o2, ds2, rfl, hx2, hrx2, hb6⟩
      have H6 := H5.below hb6 E5.size
      have K6 := K5.below hb6 E5.size
      have E6 := E5.trans (hb6.mono E5.size)
      have P1 := P1.below hb6 P1.lt
      have P2 := P2.below hb6 P2.lt
      have P3 := P3.below hb6 P3.lt
      have hl1 := (hl1.below hb6 (Nat.le_refl _)).more hb6.size
      have hl2 := (hl2.below hb6 (Nat.le_refl _)).more hb6.size
      have hx1 := (hx1.below hb6 (Nat.le_refl _)).more hb6.size
      clear H5 K5 E5 hb6
      rw [hr1.val] at hrx1
      rw [hr2.val] at hrx2
      go_wp2_with fail
      refine (nok_t _ _ A1 j1 c1 z1 hl1 (rep_vld hr1.top (by have := hl1.len.out; omega))).mono ?_
      rintro e w' ⟨rfl, rfl⟩
      go_wp2_with fail
      refine (nok_t _ _ A2 j2 c2 z2 hl2 (rep_vld hr2.top (by have := hl2.len.out; omega))).mono ?_
      rintro e w' ⟨rfl, rfl⟩
      go_wp2_with fail
      refine (of_any _ _ D m d ys K6 E6.size (by omega)).mono ?_
      rintro e w7 ⟨B3, b3, o3, ds3, rfl, hx3, hrx3, hb7⟩
      have H7 := H6.below hb7 E6.size
      have K7 := K6.below hb7 E6.size
      have E7 := E6.trans (hb7.mono E6.size)
      have P1 := P1.below hb7 P1.lt
      have P2 := P2.below hb7 P2.lt
      have P3 := P3.below hb7 P3.lt
      have hx1 := (hx1.below hb7 (Nat.le_refl _)).more hb7.size
      have hx2 := (hx2.below hb7 (Nat.le_refl _)).more hb7.size
      clear H6 K6 E6 hb7
      rw [hq] at hrx3
      go_wp2_with fail
      refine (compareD_any _ _ B2 B3 b2 b3 o2 o3 ds2 ds3 hx2 hx3).mono ?_
      rintro e w8 ⟨r1, rfl, hcr1, kk1, hkk⟩
      have hv1 := cmp_rep (by decide) hcr1 hx2.len.out hx3.len.out hrx2 hrx3
      have hneg : r1 < 0 := by
        have hlt : p % q < q := Nat.mod_lt _ hq0
        unfold CmpV at hv1; omega
      have hb8 : Below w7.heap.size w7 w8 := by rw [hkk]; exact below_drewN (Below.refl _ _) kk1
      have H8 := H7.below hb8 E7.size
      have K8 := K7.below hb8 E7.size
      have E8 := E7.trans (hb8.mono E7.size)
      have P1 := P1.below hb8 P1.lt
      have P2 := P2.below hb8 P2.lt
      have P3 := P3.below hb8 P3.lt
      have hx1 := (hx1.below hb8 (Nat.le_refl _)).more hb8.size
      have hx2 := (hx2.below hb8 (Nat.le_refl _)).more hb8.size
      clear H7 K7 E7 hb8
      clear hkk hcr1 hv1
      go_wp2_with fail
      refine (of_any _ _ D m d ys K8 E8.size (by omega)).mono ?_
      rintro e w9 ⟨B4, b4, o4, ds4, rfl, hx4, hrx4, hb9⟩
      have H9 := H8.below hb9 E8.size
      have K9 := K8.below hb9 E8.size
      have E9 := E8.trans (hb9.mono E8.size)
      have P1 := P1.below hb9 P1.lt
      have P2 := P2.below hb9 P2.lt
      have P3 := P3.below hb9 P3.lt
      have hx1 := (hx1.below hb9 (Nat.le_refl _)).more hb9.size
      have hx2 := (hx2.below hb9 (Nat.le_refl _)).more hb9.size
      clear H8 K8 E8 hb9
      rw [hq] at hrx4
      have hl65 := len65 hrx4 hx4.len.out hq K9.lim K9.len.out
      have hlq := rep_lenD (M := 1200) hrx1 hx1.len.out (Nat.lt_of_le_of_lt (Nat.div_le_self _ _) hpM)
      have hlr := rep_lenD (M := 1200) hrx2 hx2.len.out (Nat.lt_of_le_of_lt (Nat.mod_le _ _) hpM)
      go_wp2_with fail
      refine (times_any _ _ B1 B4 b1 b4 o1 o4 ds1 ds4 hx1 hx4 (Nat.le_refl _) (by omega) (by omega)).mono ?_
      rintro e w10 ⟨B5, b5, o5, ds5, rfl, hx5, hrx5, hb10⟩
      have H10 := H9.below hb10 E9.size
      have K10 := K9.below hb10 E9.size
      have E10 := E9.trans (hb10.mono E9.size)
      have P1 := P1.below hb10 P1.lt
      have P2 := P2.below hb10 P2.lt
      have P3 := P3.below hb10 P3.lt
      have hx2 := (hx2.below hb10 (Nat.le_refl _)).more hb10.size
      clear H9 K9 E9 hb10
      rw [hrx1.val, hrx4.val] at hrx5
      have hl5 := rep_lenD (M := 1200) hrx5 hx5.len.out (Nat.lt_of_le_of_lt (Nat.div_mul_le_self _ _) hpM)
      obtain ⟨MM, hM1, hM2, hM3, hM4⟩ : ∃ MM, b5 ≤ MM ∧ b2 ≤ MM ∧ (MM = b5 ∨ MM = b2) ∧ MM ≤ 1200 := by
        rcases Nat.le_total b5 b2 with e | e
        · exact ⟨b2, e, Nat.le_refl _, .inr rfl, hlr⟩
        · exact ⟨b5, Nat.le_refl _, e, .inl rfl, hl5⟩
      go_wp2_with fail
      refine (plus_any _ _ B5 B2 b5 b2 o5 o2 MM ds5 ds2 hx5 hx2 (Nat.le_refl _) hM1 hM2 (by omega) hM3).mono ?_
      rintro e w11 ⟨B6, b6, o6, ds6, rfl, hx6, hrx6, hb11⟩
      have H11 := H10.below hb11 E10.size
      have K11 := K10.below hb11 E10.size
      have E11 := E10.trans (hb11.mono E10.size)
      have P1 := P1.below hb11 P1.lt
      have P2 := P2.below hb11 P2.lt
      have P3 := P3.below hb11 P3.lt
      clear H10 K10 E10 hb11
      rw [hrx5.val, hrx2.val, dm_back] at hrx6
      go_wp2_with fail
      refine (of_any _ _ A n c xs H11 E11.size (by omega)).mono ?_
      rintro e w12 ⟨B7, b7, o7, ds7, rfl, hx7, hrx7, hb12⟩
      have H12 := H11.below hb12 E11.size
      have K12 := K11.below hb12 E11.size
      have E12 := E11.trans (hb12.mono E11.size)
      have P1 := P1.below hb12 P1.lt
      have P2 := P2.below hb12 P2.lt
      have P3 := P3.below hb12 P3.lt
      have hx6 := (hx6.below hb12 (Nat.le_refl _)).more hb12.size
      clear H11 K11 E11 hb12
      rw [hp] at hrx7
      go_wp2_with fail
      refine (compareD_any _ _ B6 B7 b6 b7 o6 o7 ds6 ds7 hx6 hx7).mono ?_
      rintro e w13 ⟨r2, rfl, hcr2, kk2, hkk⟩
      have hv2 := cmp_rep (by decide) hcr2 hx6.len.out hx7.len.out hrx6 hrx7
      obtain rfl : r2 = 0 := by unfold CmpV at hv2; omega
      have hb13 : Below w12.heap.size w12 w13 := by rw [hkk]; exact below_drewN (Below.refl _ _) kk2
      have H13 := H12.below hb13 E12.size
      have K13 := K12.below hb13 E12.size
      have E13 := E12.trans (hb13.mono E12.size)
      have P1 := P1.below hb13 P1.lt
      have P2 := P2.below hb13 P2.lt
      have P3 := P3.below hb13 P3.lt
      clear H12 K12 E12 hb13
      clear hkk hcr2 hv2
      go_wp2_with fail
      go_ret
      exact ⟨by first | rfl | (simp; done), E13⟩
    · go_wp2_with fail
      clear q10 q11 q12 q20 q21 q22 q30 q31 q32
      refine (of_any _ _ A1 j1 c1 z1 hl1 (Nat.le_refl _) (by omega)).mono ?_
      rintro e w5 ⟨B1, b1, o1, ds1, rfl, hx1, hrx1, hb5⟩
      have H5 := H4.below hb5 E4.size
      have K5 := K4.below hb5 E4.size
      have E5 := E4.trans (hb5.mono E4.size)
      have P1 := P1.below hb5 P1.lt
      have P2 := P2.below hb5 P2.lt
      have P3 := P3.below hb5 P3.lt
      have hl1 := (hl1.below hb5 (Nat.le_refl _)).more hb5.size
      have hl2 := (hl2.below hb5 (Nat.le_refl _)).more hb5.size
      clear H4 K4 E4 hb5
      go_wp2_with fail
      refine (of_any _ _ A2 j2 c2 z2 hl2 (Nat.le_refl _) (by omega)).mono ?_
      rintro e w6 ⟨B2, b2, o2, ds2, rfl, hx2, hrx2, hb6⟩
      have H6 := H5.below hb6 E5.size
      have K6 := K5.below hb6 E5.size
      have E6 := E5.trans (hb6.mono E5.size)
      have P1 := P1.below hb6 P1.lt
      have P2 := P2.below hb6 P2.lt
      have P3 := P3.below hb6 P3.lt
      have hl1 := (hl1.below hb6 (Nat.le_refl _)).more hb6.size
      have hl2 := (hl2.below hb6 (Nat.le_refl _)).more hb6.size
      have hx1 := (hx1.below hb6 (Nat.le_refl _)).more hb6.size
      clear H5 K5 E5 hb6
      rw [hr1.val] at hrx1
      rw [hr2.val] at hrx2
      go_wp2_with fail
      refine (nok_t _ _ A1 j1 c1 z1 hl1 (rep_vld hr1.top (by have := hl1.len.out; omega))).mono ?_
      rintro e w' ⟨rfl, rfl⟩
      go_wp2_with fail
      refine (nok_t _ _ A2 j2 c2 z2 hl2 (rep_vld hr2.top (by have := hl2.len.out; omega))).mono ?_
      rintro e w' ⟨rfl, rfl⟩
      go_wp2_with fail
      refine (of_any _ _ D m d ys K6 E6.size (by omega)).mono ?_
      rintro e w7 ⟨B3, b3, o3, ds3, rfl, hx3, hrx3, hb7⟩
      have H7 := H6.below hb7 E6.size
      have K7 := K6.below hb7 E6.size
      have E7 := E6.trans (hb7.mono E6.size)
      have P1 := P1.below hb7 P1.lt
      have P2 := P2.below hb7 P2.lt
      have P3 := P3.below hb7 P3.lt
      have hx1 := (hx1.below hb7 (Nat.le_refl _)).more hb7.size
      have hx2 := (hx2.below hb7 (Nat.le_refl _)).more hb7.size
      clear H6 K6 E6 hb7
      rw [hq] at hrx3
      go_wp2_with fail
      refine (compareD_any _ _ B2 B3 b2 b3 o2 o3 ds2 ds3 hx2 hx3).mono ?_
      rintro e w8 ⟨r1, rfl, hcr1, kk1, hkk⟩
      have hv1 := cmp_rep (by decide) hcr1 hx2.len.out hx3.len.out hrx2 hrx3
      have hneg : r1 < 0 := by
        have hlt : p % q < q := Nat.mod_lt _ hq0
        unfold CmpV at hv1; omega
      have hb8 : Below w7.heap.size w7 w8 := by rw [hkk]; exact below_drewN (Below.refl _ _) kk1
      have H8 := H7.below hb8 E7.size
      have K8 := K7.below hb8 E7.size
      have E8 := E7.trans (hb8.mono E7.size)
      have P1 := P1.below hb8 P1.lt
      have P2 := P2.below hb8 P2.lt
      have P3 := P3.below hb8 P3.lt
      have hx1 := (hx1.below hb8 (Nat.le_refl _)).more hb8.size
      have hx2 := (hx2.below hb8 (Nat.le_refl _)).more hb8.size
      clear H7 K7 E7 hb8
      clear hkk hcr1 hv1
      go_wp2_with fail
      refine (of_any _ _ D m d ys K8 E8.size (by omega)).mono ?_
      rintro e w9 ⟨B4, b4, o4, ds4, rfl, hx4, hrx4, hb9⟩
      have H9 := H8.below hb9 E8.size
      have K9 := K8.below hb9 E8.size
      have E9 := E8.trans (hb9.mono E8.size)
      have P1 := P1.below hb9 P1.lt
      have P2 := P2.below hb9 P2.lt
      have P3 := P3.below hb9 P3.lt
      have hx1 := (hx1.below hb9 (Nat.le_refl _)).more hb9.size
      have hx2 := (hx2.below hb9 (Nat.le_refl _)).more hb9.size
      clear H8 K8 E8 hb9
      rw [hq] at hrx4
      have hl65 := len65 hrx4 hx4.len.out hq K9.lim K9.len.out
      have hlq := rep_lenD (M := 1200) hrx1 hx1.len.out (Nat.lt_of_le_of_lt (Nat.div_le_self _ _) hpM)
      have hlr := rep_lenD (M := 1200) hrx2 hx2.len.out (Nat.lt_of_le_of_lt (Nat.mod_le _ _) hpM)
      go_wp2_with fail
      refine (times_any _ _ B1 B4 b1 b4 o1 o4 ds1 ds4 hx1 hx4 (Nat.le_refl _) (by omega) (by omega)).mono ?_
      rintro e w10 ⟨B5, b5, o5, ds5, rfl, hx5, hrx5, hb10⟩
      have H10 := H9.below hb10 E9.size
      have K10 := K9.below hb10 E9.size
      have E10 := E9.trans (hb10.mono E9.size)
      have P1 := P1.below hb10 P1.lt
      have P2 := P2.below hb10 P2.lt
      have P3 := P3.below hb10 P3.lt
      have hx2 := (hx2.below hb10 (Nat.le_refl _)).more hb10.size
      clear H9 K9 E9 hb10
      rw [hrx1.val, hrx4.val] at hrx5
      have hl5 := rep_lenD (M := 1200) hrx5 hx5.len.out (Nat.lt_of_le_of_lt (Nat.div_mul_le_self _ _) hpM)
      obtain ⟨MM, hM1, hM2, hM3, hM4⟩ : ∃ MM, b5 ≤ MM ∧ b2 ≤ MM ∧ (MM = b5 ∨ MM = b2) ∧ MM ≤ 1200 := by
        rcases Nat.le_total b5 b2 with e | e
        · exact ⟨b2, e, Nat.le_refl _, .inr rfl, hlr⟩
        · exact ⟨b5, Nat.le_refl _, e, .inl rfl, hl5⟩
      go_wp2_with fail
      refine (plus_any _ _ B5 B2 b5 b2 o5 o2 MM ds5 ds2 hx5 hx2 (Nat.le_refl _) hM1 hM2 (by omega) hM3).mono ?_
      rintro e w11 ⟨B6, b6, o6, ds6, rfl, hx6, hrx6, hb11⟩
      have H11 := H10.below hb11 E10.size
      have K11 := K10.below hb11 E10.size
      have E11 := E10.trans (hb11.mono E10.size)
      have P1 := P1.below hb11 P1.lt
      have P2 := P2.below hb11 P2.lt
      have P3 := P3.below hb11 P3.lt
      clear H10 K10 E10 hb11
      rw [hrx5.val, hrx2.val, dm_back] at hrx6
      go_wp2_with fail
      refine (of_any _ _ A n c xs H11 E11.size (by omega)).mono ?_
      rintro e w12 ⟨B7, b7, o7, ds7, rfl, hx7, hrx7, hb12⟩
      have H12 := H11.below hb12 E11.size
      have K12 := K11.below hb12 E11.size
      have E12 := E11.trans (hb12.mono E11.size)
      have P1 := P1.below hb12 P1.lt
      have P2 := P2.below hb12 P2.lt
      have P3 := P3.below hb12 P3.lt
      have hx6 := (hx6.below hb12 (Nat.le_refl _)).more hb12.size
      clear H11 K11 E11 hb12
      rw [hp] at hrx7
      go_wp2_with fail
      refine (compareD_any _ _ B6 B7 b6 b7 o6 o7 ds6 ds7 hx6 hx7).mono ?_
      rintro e w13 ⟨r2, rfl, hcr2, kk2, hkk⟩
      have hv2 := cmp_rep (by decide) hcr2 hx6.len.out hx7.len.out hrx6 hrx7
      obtain rfl : r2 = 0 := by unfold CmpV at hv2; omega
      have hb13 : Below w12.heap.size w12 w13 := by rw [hkk]; exact below_drewN (Below.refl _ _) kk2
      have H13 := H12.below hb13 E12.size
      have K13 := K12.below hb13 E12.size
      have E13 := E12.trans (hb13.mono E12.size)
      have P1 := P1.below hb13 P1.lt
      have P2 := P2.below hb13 P2.lt
      have P3 := P3.below hb13 P3.lt
      clear H12 K12 E12 hb13
      clear hkk hcr2 hv2
      go_wp2_with fail
      go_ret
      exact ⟨by first | rfl | (simp; done), E13⟩

end Go.Proofs.Ytjkogajdpkbjeaa
