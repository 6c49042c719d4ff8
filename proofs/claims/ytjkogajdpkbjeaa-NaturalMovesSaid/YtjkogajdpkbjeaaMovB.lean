/- NaturalMoves: the law, where the result is too large. -/
import Derived.Test.YtjkogajdpkbjeaaMovA
import Derived.Deep.RegionWith
import Derived.Deep.RegionHeld3
import Derived.Deep.DeepCutAuto
namespace Go.Proofs.Ytjkogajdpkbjeaa
open Go.RowKit
set_option maxHeartbeats 400000
set_option maxRecDepth 100000
set_option linter.unusedSimpArgs false
set_option linter.unusedVariables false

set_option maxHeartbeats 8000000 in
theorem mov_big (w : World) (A : Option Addr) (n c : Nat) (s : Int) (xs : List Nat) (h : LRd w w.heap.size A n c xs) (hi : -9223372036854775808 ≤ s ∧ s ≤ 9223372036854775807) (hx : vld xs = true) (hbig : 0 < nbits xs ∧ 19200 - (nbits xs : Int) < s) (p : Nat) (hp : vb 4294967296 xs = p) :
    Calls Try.prog 5 #[.slice A n c, .int .i64 s] w fun e w' => e = .returned (.bool true) ∧ Below w.heap.size w w' := by
  have hcap := h.cap
  have hn : n ≤ 600 := by have := (vld_top hx).2; have := h.len.out; omega
  have hl2 := nbits_hi h.lim
  rw [hp] at hl2
  have hl3 := nbits_le h.lim
  have hl4 : nbits xs ≤ 19200 := by have := h.len.out; omega
  have hpB : p < Big := by rw [← hp]; exact vld_lt h.lim hx
  obtain ⟨M, hMM⟩ : ∃ M, M = 1200 := ⟨_, rfl⟩
  have hpM : p < 65536 ^ M := by rw [← big65 hMM]; exact hpB
  have hM0 : M ≤ 1200 := by omega
  clear hMM
  have HB := Lib.hid hbig
  have HPL := Lib.hid hl2
  clear hl2 hl3
  have HTX := Lib.hid (And.intro h.lim (vld_top hx).1)
  have HFIT := Lib.hid (show True from trivial)
  go_enter Try.func5, Try.ntmps5
  go_wp2_with fail
  refine (bits_ok w _ A n c xs h (Nat.le_refl _) hx).mono ?_
  rintro e w1 ⟨rfl, hb1⟩
  have hs1 := hb1.size
  have H1 := (h.below hb1 (Nat.le_refl _)).alloc hs1 (.cells #[.int .i64 (0), .int .i64 (0)] 24)
  have P1 := FC.new w1 (0) (0)
  have E1 : Below w.heap.size w (w1.alloc (.cells #[.int .i64 (0), .int .i64 (0)] 24)) := hb1.alloc hs1 _
  go_wp2_with fail
  refine (shift_ok _ _ A n c s xs H1 (by have := E1.size; omega) hx hi).mono ?_
  rintro e w2 ⟨v, u1, u2, hsv, A1, j1, c1, z1, rfl, hl1, hr1, hb2⟩
  rw [hp] at hsv
  obtain ⟨rfl, rfl, rfl⟩ := shift_big hsv HB.out.1 hl4 HB.out.2
  obtain rfl := nil_len hr1 hl1.len.out
  clear hsv
  have hs2 := next_lt hb2
  have H2 := (H1.below hb2 (by have := E1.size; omega)).alloc (by have := E1.size; have := hb2.size; omega) (.cells #[.int .i64 (14), .int .i64 (-1)] 24)
  have E2 : Below w.heap.size w (w2.alloc (.cells #[.int .i64 (14), .int .i64 (-1)] 24)) := (E1.trans (hb2.mono (by have := E1.size; omega))).alloc (by have := E1.size; have := hb2.size; omega) _
  have P1 := (P1.below hb2 P1.lt).alloc (.cells #[.int .i64 (14), .int .i64 (-1)] 24)
  have P2 := FC.new w2 (14) (-1)
  have hl1 := hl1.allocM (.cells #[.int .i64 (14), .int .i64 (-1)] 24)
  clear H1 E1 hb2
  go_wp2_with fail
  refine (sqrt_ok _ _ A n c xs H2 (by have := E2.size; omega) hx).mono ?_
  rintro e w3 ⟨r, hq1, hq2, A3, j3, c3, z3, rfl, hl3, hr3, hb3⟩
  rw [hp] at hq1 hq2
  have HQ := Lib.hid (And.intro hq1 hq2)
  have hrp : r ≤ p := Nat.le_trans (Nat.le_mul_self r) hq1
  have hj3 : j3 ≤ 600 := fit_small hr3 hl3.len.out (Nat.lt_of_le_of_lt hrp hpB)
  clear hq1 hq2
  have hs3 := next_lt hb3
  have H3 := (H2.below hb3 (by have := E2.size; omega)).alloc (by have := E2.size; have := hb3.size; omega) (.cells #[.int .i64 (0), .int .i64 (0)] 24)
  have E3 : Below w.heap.size w (w3.alloc (.cells #[.int .i64 (0), .int .i64 (0)] 24)) := (E2.trans (hb3.mono (by have := E2.size; omega))).alloc (by have := E2.size; have := hb3.size; omega) _
  have P1 := (P1.below hb3 P1.lt).alloc (.cells #[.int .i64 (0), .int .i64 (0)] 24)
  have P2 := (P2.below hb3 P2.lt).alloc (.cells #[.int .i64 (0), .int .i64 (0)] 24)
  have P3 := FC.new w3 (0) (0)
  have hl1 := ((hl1.below hb3 (Nat.le_refl _)).more hb3.size).allocM (.cells #[.int .i64 (0), .int .i64 (0)] 24)
  have hl3 := hl3.allocM (.cells #[.int .i64 (0), .int .i64 (0)] 24)
  clear H2 E2 hb3
  go_wp2_with fail
  refine (sums_any _).mono ?_
  rintro e w4 ⟨rfl, hb4⟩
  have H4 := H3.below hb4 E3.size
  have E4 := E3.trans (hb4.mono E3.size)
  have P1 := P1.below hb4 P1.lt
  have P2 := P2.below hb4 P2.lt
  have P3 := P3.below hb4 P3.lt
  have hl1 := (hl1.below hb4 (Nat.le_refl _)).more hb4.size
  have hl3 := (hl3.below hb4 (Nat.le_refl _)).more hb4.size
  clear H3 E3 hb4
  go_wp2_with fail
  refine (nok_t _ _ A n c xs H4 hx).mono ?_
  rintro e w' ⟨rfl, rfl⟩
  go_wp2_with fail
  refine (of_any _ _ A n c xs H4 E4.size (by omega)).mono ?_
  rintro e w5 ⟨B1, b1, o1, ds, rfl, hd1, hrd1, hb5⟩
  rw [hp] at hrd1
  have H5 := H4.below hb5 E4.size
  have E5 := E4.trans (hb5.mono E4.size)
  have P1 := P1.below hb5 P1.lt
  have P2 := P2.below hb5 P2.lt
  have P3 := P3.below hb5 P3.lt
  have hl1 := (hl1.below hb5 (Nat.le_refl _)).more hb5.size
  have hl3 := (hl3.below hb5 (Nat.le_refl _)).more hb5.size
  clear H4 E4 hb5
  have hb1L := rep_lenD (M := M) hrd1 hd1.len.out hpM
  go_wp2_with fail
  refine (ones_any _ _ B1 b1 o1 ds hd1 (Nat.le_refl _) (by omega)).mono ?_
  rintro e w6 ⟨O1, ko, co, os, rfl, ho1, hro1, hb6⟩
  rw [hrd1.val, ← hp] at hro1
  obtain rfl := bits_eq HTX.out.1 HTX.out.2 hro1 ho1.len.out
  have hcapo := ho1.cap
  clear ho1 hro1
  have H6 := H5.below hb6 E5.size
  have E6 := E5.trans (hb6.mono E5.size)
  have P1 := P1.below hb6 P1.lt
  have P2 := P2.below hb6 P2.lt
  have P3 := P3.below hb6 P3.lt
  have hl1 := (hl1.below hb6 (Nat.le_refl _)).more hb6.size
  have hl3 := (hl3.below hb6 (Nat.le_refl _)).more hb6.size
  have hd1 := (hd1.below hb6 (Nat.le_refl _)).more hb6.size
  clear H5 E5 hb6
  obtain ⟨q10, q11, q12⟩ := id P1
  obtain ⟨q20, q21, q22⟩ := id P2
  obtain ⟨q30, q31, q32⟩ := id P3
  go_wp2_with fail
  refine (nok_t _ _ A3 j3 c3 z3 hl3 (rep_vld hr3.top (by have := hl3.len.out; omega))).mono ?_
  rintro e w' ⟨rfl, rfl⟩
  go_wp2_with fail
  refine (of_any _ _ A3 j3 c3 z3 hl3 (Nat.le_refl _) (by omega)).mono ?_
  rintro e w7 ⟨B2, b2, o2, rs, rfl, hd2, hrd2, hb7⟩
  rw [hr3.val] at hrd2
  clear q10 q11 q12 q20 q21 q22 q30 q31 q32
  have H7 := H6.below hb7 E6.size
  have E7 := E6.trans (hb7.mono E6.size)
  have P1 := P1.below hb7 P1.lt
  have P2 := P2.below hb7 P2.lt
  have P3 := P3.below hb7 P3.lt
  have hl1 := (hl1.below hb7 (Nat.le_refl _)).more hb7.size
  have hd1 := (hd1.below hb7 (Nat.le_refl _)).more hb7.size
  clear H6 E6 hb7
  have hb2L := rep_lenD (M := M) hrd2 hd2.len.out (Nat.lt_of_le_of_lt hrp hpM)
  go_wp2_with fail
  refine (small1_any _).mono ?_
  rintro e w8 ⟨B3, b3, o3, is1, rfl, hd3, hrd3, hb8⟩
  have H8 := H7.below hb8 E7.size
  have E8 := E7.trans (hb8.mono E7.size)
  have P1 := P1.below hb8 P1.lt
  have P2 := P2.below hb8 P2.lt
  have P3 := P3.below hb8 P3.lt
  have hl1 := (hl1.below hb8 (Nat.le_refl _)).more hb8.size
  have hd1 := (hd1.below hb8 (Nat.le_refl _)).more hb8.size
  have hd2 := (hd2.below hb8 (Nat.le_refl _)).more hb8.size
  clear H7 E7 hb8
  have hb3L : b3 ≤ 1 := rep_lenD (M := 1) hrd3 hd3.len.out (by decide)
  obtain ⟨MM, hM1, hM2, hM3, hM4⟩ : ∃ MM, b2 ≤ MM ∧ b3 ≤ MM ∧ (MM = b2 ∨ MM = b3) ∧ MM ≤ M + 1 := by
    rcases Nat.le_total b2 b3 with e | e
    · exact ⟨b3, e, Nat.le_refl _, .inr rfl, by omega⟩
    · exact ⟨b2, Nat.le_refl _, e, .inl rfl, by omega⟩
  go_wp2_with fail
  refine (plus_any _ _ B2 B3 b2 b3 o2 o3 MM rs is1 hd2 hd3 (Nat.le_refl _) hM1 hM2 (by omega) hM3).mono ?_
  rintro e w9 ⟨B4, b4, o4, ns, rfl, hd4, hrd4, hb9⟩
  rw [hrd2.val, hrd3.val] at hrd4
  have H9 := H8.below hb9 E8.size
  have E9 := E8.trans (hb9.mono E8.size)
  have P1 := P1.below hb9 P1.lt
  have P2 := P2.below hb9 P2.lt
  have P3 := P3.below hb9 P3.lt
  have hl1 := (hl1.below hb9 (Nat.le_refl _)).more hb9.size
  have hd1 := (hd1.below hb9 (Nat.le_refl _)).more hb9.size
  have hd2 := (hd2.below hb9 (Nat.le_refl _)).more hb9.size
  clear H8 E8 hb9
  have hb4L : b4 ≤ M + 1 := rep_lenD hrd4 hd4.len.out (succ_lt (Nat.lt_of_le_of_lt hrp hpM))
  go_wp2_with fail
  refine (times_any _ _ B2 B2 b2 b2 o2 o2 rs rs hd2 hd2 (Nat.le_refl _) (by omega) (by omega)).mono ?_
  rintro e w10 ⟨B5, b5, o5, ts, rfl, hd5, hrd5, hb10⟩
  rw [hrd2.val] at hrd5
  have H10 := H9.below hb10 E9.size
  have E10 := E9.trans (hb10.mono E9.size)
  have P1 := P1.below hb10 P1.lt
  have P2 := P2.below hb10 P2.lt
  have P3 := P3.below hb10 P3.lt
  have hl1 := (hl1.below hb10 (Nat.le_refl _)).more hb10.size
  have hd1 := (hd1.below hb10 (Nat.le_refl _)).more hb10.size
  have hd4 := (hd4.below hb10 (Nat.le_refl _)).more hb10.size
  clear H9 E9 hb10
  go_wp2_with fail
  refine (compareD_any _ _ B5 B1 b5 b1 o5 o1 ts ds hd5 hd1).mono ?_
  rintro e w11 ⟨r1, rfl, hcr1, kk1, hkk⟩
  have hv1 := cmp_rep (by decide) hcr1 hd5.len.out hd1.len.out hrd5 hrd1
  have hneg : r1 ≤ 0 := by have := HQ.out.1; unfold CmpV at hv1; omega
  have hb11 : Below w10.heap.size w10 w11 := by rw [hkk]; exact below_drewN (Below.refl _ _) kk1
  have H11 := H10.below hb11 E10.size
  have E11 := E10.trans (hb11.mono E10.size)
  have P1 := P1.below hb11 P1.lt
  have P2 := P2.below hb11 P2.lt
  have P3 := P3.below hb11 P3.lt
  have hl1 := (hl1.below hb11 (Nat.le_refl _)).more hb11.size
  have hd1 := (hd1.below hb11 (Nat.le_refl _)).more hb11.size
  have hd4 := (hd4.below hb11 (Nat.le_refl _)).more hb11.size
  clear H10 E10 hb11
  clear hkk hcr1 hv1
  go_wp2_with fail
  refine (times_any _ _ B4 B4 b4 b4 o4 o4 ns ns hd4 hd4 (Nat.le_refl _) (by omega) (by omega)).mono ?_
  rintro e w12 ⟨B6, b6, o6, us, rfl, hd6, hrd6, hb12⟩
  rw [hrd4.val] at hrd6
  have H12 := H11.below hb12 E11.size
  have E12 := E11.trans (hb12.mono E11.size)
  have P1 := P1.below hb12 P1.lt
  have P2 := P2.below hb12 P2.lt
  have P3 := P3.below hb12 P3.lt
  have hl1 := (hl1.below hb12 (Nat.le_refl _)).more hb12.size
  have hd1 := (hd1.below hb12 (Nat.le_refl _)).more hb12.size
  clear H11 E11 hb12
  go_wp2_with fail
  refine (compareD_any _ _ B6 B1 b6 b1 o6 o1 us ds hd6 hd1).mono ?_
  rintro e w13 ⟨r2, rfl, hcr2, kk2, hkk⟩
  have hv2 := cmp_rep (by decide) hcr2 hd6.len.out hd1.len.out hrd6 hrd1
  have hpos : 0 < r2 := by have := HQ.out.2; unfold CmpV at hv2; omega
  have hb13 : Below w12.heap.size w12 w13 := by rw [hkk]; exact below_drewN (Below.refl _ _) kk2
  have H13 := H12.below hb13 E12.size
  have E13 := E12.trans (hb13.mono E12.size)
  have P1 := P1.below hb13 P1.lt
  have P2 := P2.below hb13 P2.lt
  have P3 := P3.below hb13 P3.lt
  have hl1 := (hl1.below hb13 (Nat.le_refl _)).more hb13.size
  have hd1 := (hd1.below hb13 (Nat.le_refl _)).more hb13.size
  clear H12 E12 hb13
  clear hkk hcr2 hv2
  obtain ⟨q20, q21, q22⟩ := id P2.drew
  have g1 : 0 < (nbits xs : Int) := by have := HB.out.1; omega
  have g2 := HB.out.2
  have G0 : Below w13.heap.size w13 w13.drew := Below.drew (Below.refl _ _)
  clear q20 q21 q22
  obtain ⟨q20, q21, q22⟩ := id P2
  go_upto_region 18 with fail
  go_region_held3 (fun v => Below w13.heap.size w13 v ∧ v.cell? ⟨w2.heap.size, 0, none⟩ = some (.int .i64 14) ∧ v.cell? ⟨w2.heap.size, 1, none⟩ = some (.int .i64 (-1)))
    (first
      | exact m_at P2 G0
      | (go_split_ands; exact m_next P2 (by assumption) hb18)
      | (refine m_next P2 (by assumption) hb18))
    (first
      | (go_at_call 16; try go_split_ands; refine (at_any _ _ _).mono ?_; rintro e wq ⟨rfl, hb18⟩))
  all_goals (go_wp2_with fail)
  all_goals (try go_split_ands)
  all_goals go_ret
  all_goals (exact ⟨by first | rfl | (simp; done), E13.trans (Below.mono (by assumption) E13.size)⟩)

end Go.Proofs.Ytjkogajdpkbjeaa
