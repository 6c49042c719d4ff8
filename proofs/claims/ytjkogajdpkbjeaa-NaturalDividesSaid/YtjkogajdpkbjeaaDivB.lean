/- NaturalDivides: the law, where the divisor is 0. -/
import Derived.Test.YtjkogajdpkbjeaaDivA
import Derived.Deep.RegionWith
import Derived.Deep.RegionHeld3
import Derived.Deep.DeepCutAuto
namespace Go.Proofs.Ytjkogajdpkbjeaa
open Go.RowKit
set_option maxHeartbeats 400000
set_option maxRecDepth 100000
set_option linter.unusedSimpArgs false
set_option linter.unusedVariables false

set_option maxHeartbeats 4000000 in
theorem div_zero (w : World) (A D : Option Addr) (n m c d : Nat) (xs ys : List Nat) (h : LRd w w.heap.size A n c xs) (k : LRd w w.heap.size D m d ys) (hx : vld xs = true) (hy : vld ys = true) (p q : Nat) (hp : vb 4294967296 xs = p) (hq : vb 4294967296 ys = q) (hm0 : m = 0) :
    Calls Try.prog 4 #[.slice A n c, .slice D m d] w fun e w' => e = .returned (.bool true) ∧ Below w.heap.size w w' := by
  have hcap := h.cap
  have hcap2 := k.cap
  have hn : n ≤ 600 := by have := (vld_top hx).2; have := h.len.out; omega
  have hm : m ≤ 600 := by have := (vld_top hy).2; have := k.len.out; omega
  subst hm0
  go_enter Try.func4, Try.ntmps4
  go_wp2_with fail
  refine (pairFault_ok w _ A D n 0 c d xs ys h k (Nat.le_refl _) hx hy).mono ?_
  rintro e w1 ⟨rfl, hb1⟩
  have hs1 := hb1.size
  have H1 := (h.below hb1 (Nat.le_refl _)).alloc hs1 (.cells #[.int .i64 (0), .int .i64 (0)] 24)
  have K1 := (k.below hb1 (Nat.le_refl _)).alloc hs1 (.cells #[.int .i64 (0), .int .i64 (0)] 24)
  have P1 := FC.new w1 (0) (0)
  have E1 : Below w.heap.size w (w1.alloc (.cells #[.int .i64 (0), .int .i64 (0)] 24)) := hb1.alloc hs1 _
  go_wp2_with fail
  refine (divmod_ok _ _ A D n 0 c d xs ys H1 K1 (by have := E1.size; omega) hx hy).mono ?_
  intro e w2 hdm
  obtain ⟨A1, j1, c1, z1, A2, j2, c2, z2, rfl, hl1, hr1, hl2, hr2, hb2⟩ := (hdm.resolve_right (fun hh => hh.1 k.len.out)).2
  obtain rfl := nil_len hr1 hl1.len.out
  obtain rfl := nil_len hr2 hl2.len.out
  clear hdm
  have hs2 := next_lt hb2
  have H2 := (H1.below hb2 (by have := E1.size; omega)).alloc (by have := E1.size; have := hb2.size; omega) (.cells #[.int .i64 (22), .int .i64 (-2)] 24)
  have K2 := (K1.below hb2 (by have := E1.size; omega)).alloc (by have := E1.size; have := hb2.size; omega) (.cells #[.int .i64 (22), .int .i64 (-2)] 24)
  have E2 : Below w.heap.size w (w2.alloc (.cells #[.int .i64 (22), .int .i64 (-2)] 24)) := (E1.trans (hb2.mono (by have := E1.size; omega))).alloc (by have := E1.size; have := hb2.size; omega) _
  have P1 := (P1.below hb2 P1.lt).alloc (.cells #[.int .i64 (22), .int .i64 (-2)] 24)
  have P2 := FC.new w2 (22) (-2)
  clear H1 K1 E1 hb2
  go_wp2_with fail
  refine (gcd_ok _ _ A D n 0 c d xs ys H2 K2 (by have := E2.size; omega) hx hy).mono ?_
  rintro e w3 ⟨A3, j3, c3, z3, rfl, hl3, hr3, hb3⟩
  rw [hp, hq] at hr3
  have hs3 := next_lt hb3
  have H3 := (H2.below hb3 (by have := E2.size; omega)).alloc (by have := E2.size; have := hb3.size; omega) (.cells #[.int .i64 (0), .int .i64 (0)] 24)
  have K3 := (K2.below hb3 (by have := E2.size; omega)).alloc (by have := E2.size; have := hb3.size; omega) (.cells #[.int .i64 (0), .int .i64 (0)] 24)
  have E3 : Below w.heap.size w (w3.alloc (.cells #[.int .i64 (0), .int .i64 (0)] 24)) := (E2.trans (hb3.mono (by have := E2.size; omega))).alloc (by have := E2.size; have := hb3.size; omega) _
  have P1 := (P1.below hb3 P1.lt).alloc (.cells #[.int .i64 (0), .int .i64 (0)] 24)
  have P2 := (P2.below hb3 P2.lt).alloc (.cells #[.int .i64 (0), .int .i64 (0)] 24)
  have P3 := FC.new w3 (0) (0)
  have hl3 := hl3.allocM (.cells #[.int .i64 (0), .int .i64 (0)] 24)
  clear H2 K2 E2 hb3
  go_wp2_with fail
  refine (sums_any _).mono ?_
  rintro e w4 ⟨rfl, hb4⟩
  have H4 := H3.below hb4 E3.size
  have K4 := K3.below hb4 E3.size
  have E4 := E3.trans (hb4.mono E3.size)
  have P1 := P1.below hb4 P1.lt
  have P2 := P2.below hb4 P2.lt
  have P3 := P3.below hb4 P3.lt
  have hl3 := (hl3.below hb4 (Nat.le_refl _)).more hb4.size
  clear H3 K3 E3 hb4
  obtain ⟨q10, q11, q12⟩ := id P1
  obtain ⟨q20, q21, q22⟩ := id P2
  obtain ⟨q30, q31, q32⟩ := id P3
  have g12 : w1.heap.size ≠ w2.heap.size := by omega
  have g13 : w1.heap.size ≠ w3.heap.size := by omega
  clear q20 q21 q22 q12 q32
  go_wp2_with fail
  refine (at_any _ _ _).mono ?_
  rintro e w5 ⟨rfl, hb5⟩
  clear q10 q11 q30 q31
  have H5 := H4.below hb5 E4.size
  have K5 := K4.below hb5 E4.size
  have E5 := E4.trans (hb5.mono E4.size)
  have P1 := P1.below hb5 P1.lt
  have P2 := P2.below hb5 P2.lt
  have P3 := P3.below hb5 P3.lt
  have hl3 := (hl3.below hb5 (Nat.le_refl _)).more hb5.size
  clear H4 K4 E4 hb5
  have x0 := P1.fz 0
  have x1 := P1.fz 1
  have o10 := P1.c0
  have o11 := P1.c1
  obtain ⟨q10, q11, q12⟩ := id P1
  obtain ⟨q20, q21, q22⟩ := id P2
  obtain ⟨q30, q31, q32⟩ := id P3
  have R1 := P1.store 22 (-2)
  have R2 := (P2.set g12 0 (.int .i64 22)).set g12 1 (.int .i64 (-2))
  have R3 := (P3.set g13 0 (.int .i64 22)).set g13 1 (.int .i64 (-2))
  have y0 := P1.lt
  have E6 : Below w.heap.size w ((w5.setCell ⟨w1.heap.size, 0, none⟩ (.int .i64 22)).setCell ⟨w1.heap.size, 1, none⟩ (.int .i64 (-2))) := (E5.setCell hs1 _).setCell hs1 _
  clear q10 q11 q12 q20 q21 q22 q30 q31 q32
  obtain ⟨q10, q11, q12⟩ := id R1
  obtain ⟨q20, q21, q22⟩ := id R2
  obtain ⟨q30, q31, q32⟩ := id R3
  have H6 := H5.store P1 22 (-2)
  have K6 := K5.store P1 22 (-2)
  have hl3 := hl3.store P1 22 (-2)
  have hl3 := hl3.more (B' := ((w5.setCell ⟨w1.heap.size, 0, none⟩ (.int .i64 22)).setCell ⟨w1.heap.size, 1, none⟩ (.int .i64 (-2))).heap.size) (by simp)
  have P1 := R1
  have P2 := R2
  have P3 := R3
  clear R1 R2 R3 H5 K5 E5
  by_cases hsm : n ≤ 130
  · go_wp2_with fail
    refine (of_any _ _ A n c xs H6 E6.size (by omega)).mono ?_
    rintro e w7 ⟨A4, k4, c4, ds, rfl, hd4, hrd4, hb7⟩
    have H7 := H6.below hb7 E6.size
    have K7 := K6.below hb7 E6.size
    have E7 := E6.trans (hb7.mono E6.size)
    have P1 := P1.below hb7 P1.lt
    have P2 := P2.below hb7 P2.lt
    have P3 := P3.below hb7 P3.lt
    have hl3 := (hl3.below hb7 (Nat.le_refl _)).more hb7.size
    clear H6 K6 E6 hb7
    go_wp2_with fail
    refine (of_any _ _ D 0 d ys K7 E7.size (by omega)).mono ?_
    rintro e w8 ⟨A5, k5, c5, es, rfl, hd5, hrd5, hb8⟩
    have H8 := H7.below hb8 E7.size
    have K8 := K7.below hb8 E7.size
    have E8 := E7.trans (hb8.mono E7.size)
    have P1 := P1.below hb8 P1.lt
    have P2 := P2.below hb8 P2.lt
    have P3 := P3.below hb8 P3.lt
    have hl3 := (hl3.below hb8 (Nat.le_refl _)).more hb8.size
    have hd4 := (hd4.below hb8 (Nat.le_refl _)).more hb8.size
    clear H7 K7 E7 hb8
    rw [hp] at hrd4
    rw [hq] at hrd5
    have hk4 := len65 hrd4 hd4.len.out hp H8.lim H8.len.out
    have hk5 := len65 hrd5 hd5.len.out hq K8.lim K8.len.out
    go_wp2_with fail
    refine (common_any _ _ A4 A5 k4 k5 c4 c5 1200 p q ds es hd4 hd5 (Nat.le_refl _) (by omega) (by omega) (by omega) hrd4 hrd5).mono ?_
    rintro e w9 ⟨A6, k6, c6, fs, rfl, hd6, hrd6, hb9⟩
    have H9 := H8.below hb9 E8.size
    have K9 := K8.below hb9 E8.size
    have E9 := E8.trans (hb9.mono E8.size)
    have P1 := P1.below hb9 P1.lt
    have P2 := P2.below hb9 P2.lt
    have P3 := P3.below hb9 P3.lt
    have hl3 := (hl3.below hb9 (Nat.le_refl _)).more hb9.size
    have hd4 := (hd4.below hb9 (Nat.le_refl _)).more hb9.size
    have hd5 := (hd5.below hb9 (Nat.le_refl _)).more hb9.size
    clear H8 K8 E8 hb9
    have hk6 := gcd_len65 (M := 1200) hrd6 hd6.len.out hrd4 hd4.len.out (by omega) hrd5 hd5.len.out (by omega)
    go_wp2_with fail
    refine (limbs_any _ _ A6 k6 c6 _ fs hd6 (Nat.le_refl _) (by omega) hrd6).mono ?_
    rintro e w10 ⟨A7, k7, c7, gs, rfl, hd7, hrd7, hb10⟩
    have H10 := H9.below hb10 E9.size
    have K10 := K9.below hb10 E9.size
    have E10 := E9.trans (hb10.mono E9.size)
    have P1 := P1.below hb10 P1.lt
    have P2 := P2.below hb10 P2.lt
    have P3 := P3.below hb10 P3.lt
    have hl3 := (hl3.below hb10 (Nat.le_refl _)).more hb10.size
    have hd4 := (hd4.below hb10 (Nat.le_refl _)).more hb10.size
    have hd5 := (hd5.below hb10 (Nat.le_refl _)).more hb10.size
    clear H9 K9 E9 hb10
    obtain rfl := hr3.unique (by decide) hrd7
    go_wp2_with fail
    refine (sameLimbs_any w10 _ A3 A7 j3 k7 c3 c7 _ _ hl3 hd7).mono ?_
    rintro e w11 ⟨rfl, kk, hkk⟩
    have hsb := sameB_refl z3
    have hb11 : Below w10.heap.size w10 w11 := by rw [hkk]; exact below_drewN (Below.refl _ _) kk
    have H11 := H10.below hb11 E10.size
    have K11 := K10.below hb11 E10.size
    have E11 := E10.trans (hb11.mono E10.size)
    have P1 := P1.below hb11 P1.lt
    have P2 := P2.below hb11 P2.lt
    have P3 := P3.below hb11 P3.lt
    have hl3 := (hl3.below hb11 (Nat.le_refl _)).more hb11.size
    clear H10 K10 E10 hb11
    clear hkk
    obtain ⟨q10, q11, q12⟩ := id P1
    obtain ⟨q20, q21, q22⟩ := id P2
    obtain ⟨q30, q31, q32⟩ := id P3
    go_wp2_with fail
    go_ret
    exact ⟨by first | rfl | (simp; done), E11⟩
  · go_wp2_with fail
    go_ret
    exact ⟨by first | rfl | (simp; done), E6⟩

end Go.Proofs.Ytjkogajdpkbjeaa
