/- The reference's Common: the greatest common divisor. -/
import Derived.Test.YtjkogajdpkbjeaaHalve
import Derived.Test.YtjkogajdpkbjeaaMinus
import Derived.Test.YtjkogajdpkbjeaaLawH
import Derived.Deep.LoopGhost
namespace Go.Proofs.Ytjkogajdpkbjeaa
open Go.RowKit
set_option maxHeartbeats 400000
set_option maxRecDepth 100000
set_option linter.unusedSimpArgs false
set_option linter.unusedVariables false

theorem halve2_any (w : World) (B : Nat) (A : Option Addr) (n c : Nat) (xs : List Nat) (h : DRd w B A n c xs) (hB : B ≤ w.heap.size) (hn : n ≤ 1000000000000) :
    Calls Try.prog 48 #[.slice A n c, .int .i64 2] w (HvPost w (vb 65536 xs) 2) :=
  halve_any w B A n c 2 xs h hB hn (by decide)
theorem par_nth {xs : List Nat} {p : Nat} (h : Rep 65536 xs p) : nth xs 0 % 2 = ((p % 2 : Nat) : Int) := by
  have hv := h.val
  unfold nth
  cases xs with
  | nil => rw [vb_nil] at hv; subst hv; rfl
  | cons x xs => rw [vb_cons] at hv; simp only [List.getD_cons_zero]; omega
theorem rep_nil {b : Nat} {xs : List Nat} {p n : Nat} (h : Rep b xs p) (hl : xs.length = n) (h0 : n = 0) : p = 0 := by
  have hv := h.val
  rw [List.eq_nil_of_length_eq_zero (hl.trans h0), vb_nil] at hv
  exact hv.symm
theorem rep_posD {xs : List Nat} {p n : Nat} (h : Rep 65536 xs p) (hl : xs.length = n) (h0 : 0 < n) : 0 < p := by
  rcases Nat.eq_zero_or_pos p with e | e
  · exfalso
    subst e
    have := h.length_le (m := 0) (by decide) (by decide)
    omega
  · exact e
theorem rep_lenD {xs : List Nat} {v n M : Nat} (h : Rep 65536 xs v) (hl : xs.length = n) (hv : v < 65536 ^ M) : n ≤ M := by
  rw [← hl]; exact h.length_le (by decide) hv
theorem rep_lt {xs : List Nat} {v n M : Nat} (h : Rep 65536 xs v) (hl : xs.length = n) (hn : n ≤ M) : v < 65536 ^ M :=
  Nat.lt_of_lt_of_le (h.lt_pow (by decide)) (Nat.pow_le_pow_right (by decide) (by omega))
theorem gcd_both {p q t g : Nat} (h : 2 ^ t * Nat.gcd p q = g) (hp : p % 2 = 0) (hq : q % 2 = 0) : 2 ^ (t + 1) * Nat.gcd (p / 2) (q / 2) = g := by
  rw [← h, Nat.pow_succ, Nat.mul_assoc, ← Nat.gcd_mul_left, show 2 * (p / 2) = p by omega, show 2 * (q / 2) = q by omega]
theorem two_co {q : Nat} (h : q % 2 = 1) : Nat.Coprime 2 q := by
  show Nat.gcd 2 q = 1
  rw [Nat.gcd_rec, h]; rfl
theorem gcd_l {p q t g : Nat} (h : 2 ^ t * Nat.gcd p q = g) (hp : p % 2 = 0) (hq : q % 2 = 1) : 2 ^ t * Nat.gcd (p / 2) q = g := by
  rw [← h, ← Nat.Coprime.gcd_mul_left_cancel (p / 2) (two_co hq), show 2 * (p / 2) = p by omega]
theorem gcd_r {p q t g : Nat} (h : 2 ^ t * Nat.gcd p q = g) (hp : p % 2 = 1) (hq : q % 2 = 0) : 2 ^ t * Nat.gcd p (q / 2) = g := by
  rw [← h, ← Nat.Coprime.gcd_mul_left_cancel_right (q / 2) (two_co hp), show 2 * (q / 2) = q by omega]
theorem gcd_subl {p q t g : Nat} (h : 2 ^ t * Nat.gcd p q = g) (hq : q ≤ p) : 2 ^ t * Nat.gcd (p - q) q = g := by
  rw [← h, Nat.gcd_sub_self_left hq]
theorem gcd_subr {p q t g : Nat} (h : 2 ^ t * Nat.gcd p q = g) (hq : p ≤ q) : 2 ^ t * Nat.gcd p (q - p) = g := by
  rw [← h, Nat.gcd_comm, Nat.gcd_sub_self_left hq, Nat.gcd_comm]
theorem pow16 (k : Nat) : (65536 : Nat) ^ k = 2 ^ (16 * k) := by rw [Nat.pow_mul]
theorem twos_lt {t g M p q : Nat} (h : 2 ^ t * Nat.gcd p q = g) (hp : 0 < p) (hg : g < 65536 ^ M) : t + 1 ≤ 16 * M := by
  have h1 : 0 < Nat.gcd p q := Nat.gcd_pos_of_pos_left _ hp
  have h2 : 2 ^ t * 1 ≤ 2 ^ t * Nat.gcd p q := Nat.mul_le_mul_left _ h1
  rw [pow16] at hg
  have h3 : 2 ^ t < 2 ^ (16 * M) := by omega
  have := (Nat.pow_lt_pow_iff_right (by decide : 1 < 2)).1 h3
  omega
theorem gcd_end {p q t g : Nat} (h : 2 ^ t * Nat.gcd p q = g) (h0 : p = 0 ∨ q = 0) : 2 ^ t * (p + q) = g := by
  rw [← h]
  rcases h0 with rfl | rfl
  · simp
  · simp
theorem pow_part {t v g N : Nat} (h : 2 ^ t * v = g) (hg : g < N) : v < N := by
  have h1 : 1 * v ≤ 2 ^ t * v := Nat.mul_le_mul_right _ (Nat.one_le_two_pow)
  omega
theorem dbl_pow {t v g : Nat} (h : 2 ^ (t + 1) * v = g) : 2 ^ t * (2 * v + false.toNat) = g := by
  rw [← h, Nat.pow_succ, Nat.mul_assoc]; rfl
theorem gcd_lt {p q M : Nat} (hp : p < 65536 ^ M) (hq : q < 65536 ^ M) : Nat.gcd p q < 65536 ^ M := by
  rcases Nat.eq_zero_or_pos p with rfl | e
  · rw [Nat.gcd_zero_left]; exact hq
  · exact Nat.lt_of_le_of_lt (Nat.gcd_le_left _ e) hp
def CoRel (M G : Nat) (W : World) (v : Nat) (s0 s1 s5 : Value) (wr : World) : Prop :=
  ∃ A1 k1 c1 xs A2 k2 c2 ys p q, ∃ t : Nat, s0 = .slice A1 k1 c1 ∧ s1 = .slice A2 k2 c2 ∧ s5 = .int .i64 (t : Int) ∧ k1 ≤ M ∧ k2 ≤ M ∧ t ≤ 16 * M ∧ DRd wr wr.heap.size A1 k1 c1 xs ∧ DRd wr wr.heap.size A2 k2 c2 ys ∧
    Hid (Rep 65536 xs p) ∧ Hid (Rep 65536 ys q) ∧ Hid (2 ^ t * Nat.gcd p q = G) ∧ Hid (v = p + q) ∧ Below W.heap.size W wr
def CtRel (G : Nat) (W : World) (s5 s6 : Value) (wr : World) : Prop :=
  ∃ A k c zs v, ∃ t : Nat, s5 = .int .i64 (t : Int) ∧ s6 = .slice A k c ∧ t ≤ 100000000 ∧ DRd wr wr.heap.size A k c zs ∧ Hid (Rep 65536 zs v) ∧ Hid (2 ^ t * v = G) ∧ Below W.heap.size W wr

set_option maxHeartbeats 4000000 in
theorem common_any (w : World) (B : Nat) (A D : Option Addr) (n m c d M p0 q0 : Nat) (xs ys : List Nat) (h : DRd w B A n c xs) (k : DRd w B D m d ys) (hB : B ≤ w.heap.size) (hn : n ≤ M) (hm : m ≤ M) (hM : M ≤ 1000000) (hx : Rep 65536 xs p0) (hy : Rep 65536 ys q0) :
    Calls Try.prog 27 #[.slice A n c, .slice D m d] w (GivesN w (Nat.gcd p0 q0)) := by
  have HX := Lib.hid hx
  have HY := Lib.hid hy
  obtain ⟨G, hG⟩ : ∃ G, G = Nat.gcd p0 q0 := ⟨_, rfl⟩
  have HG := Lib.hid hG
  have HGM := Lib.hid (show G < 65536 ^ M by rw [hG]; exact gcd_lt (rep_lt hx h.len.out hn) (rep_lt hy k.len.out hm))
  rw [← hG]
  clear hx hy hG
  have h1 := h.more hB
  have k1 := k.more hB
  go_enter Try.func27, Try.ntmps27
  go_wp2_with fail
  go_loopg [0, 1, 5] (p0 + q0) (fun v s0 s1 s5 wr => CoRel M G w v s0 s1 s5 wr)
  case atStart => exact ⟨_, _, _, _, _, _, _, _, p0, q0, 0, rfl, rfl, rfl, hn, hm, Nat.zero_le _, h1, k1, HX, HY, (by show _ = _; rw [HG.out]; simp), rfl, Below.refl _ _⟩
  case round =>
    clear h k h1 k1 HX HY HG
    obtain ⟨A1, k1, c1, xs, A2, k2, c2, ys, p, q, t, rfl, rfl, rfl, hk1, hk2, ht, hX, hY, hXr, hYr, hT, hv, hbw⟩ := hrel
    have hcx := hX.cap
    have hcy := hY.cap
    have hsz := hbw.size
    by_cases hex : k1 = 0 ∨ (0 < k1 ∧ k2 = 0)
    · have HE := Lib.hid (gcd_end hT.out (show p = 0 ∨ q = 0 by
        rcases hex with e | e
        · exact .inl (rep_nil hXr.out hX.len.out e)
        · exact .inr (rep_nil hYr.out hY.len.out e.2)))
      obtain ⟨wo, hwo⟩ : ∃ wo : World, wo = wr := ⟨_, rfl⟩
      obtain ⟨N, hN⟩ : ∃ N, N = max k1 k2 := ⟨_, rfl⟩
      have hN1 : k1 ≤ N ∧ k2 ≤ N ∧ (N = k1 ∨ N = k2) ∧ N ≤ M := by omega
      have HP := Lib.hid (plus_any wr wr.heap.size A1 A2 k1 k2 c1 c2 N xs ys hX hY (Nat.le_refl _) hN1.1 hN1.2.1 (by omega) hN1.2.2.1)
      clear hN
      rcases hex with rfl | ⟨hk0, rfl⟩
      all_goals
        go_wp2_with fail
        refine HP.out.mono ?_
        rintro e w1 ⟨A3, k3, c3, zs, rfl, hZ, hZr, hb1⟩
        rw [hXr.out.val, hYr.out.val] at hZr
        have HZ := Lib.hid hZr
        have hb2 := hbw.trans (hb1.mono hsz)
        clear hZr
        go_wp2_with fail
        go_loopw [5, 6] (CtRel G w) (fun s _ _ => (intOf s).toNat)
        case atStart => exact ⟨_, _, _, _, _, t, rfl, rfl, by omega, hZ, HZ, HE, hb2⟩
        case round =>
          clear hZ HZ HE HP hb2 hb1
          obtain ⟨A4, k4, c4, us, v, s, rfl, rfl, hs, hU, hUr, hS, hbz⟩ := hrel
          have hcu := hU.cap
          have hsz2 := hbz.size
          have hk4 : k4 ≤ M := rep_lenD hUr.out hU.len.out (pow_part hS.out HGM.out)
          by_cases h0 : s = 0
          · subst h0
            have HF := Lib.hid (show v = G by have := hS.out; simpa using this)
            go_wp2_with fail
            go_ret
            exact ⟨_, _, _, _, rfl, hU, by rw [← HF.out]; exact hUr.out, hbz⟩
          · obtain ⟨j, rfl⟩ : ∃ j, s = j + 1 := ⟨s - 1, by omega⟩
            clear h0
            have hs0 : 0 < ((j + 1 : Nat) : Int) := by omega
            go_wp2_with fail
            refine (double_any _ _ A4 k4 c4 false us hU (Nat.le_refl _) (by omega)).mono ?_
            rintro e w3 ⟨A5, k5, c5, vs, rfl, hV, hVr, hb3⟩
            rw [hUr.out.val] at hVr
            have HV := Lib.hid hVr
            clear hVr
            go_wp2_with fail
            go_roundw
            case rel => exact ⟨_, _, _, _, _, j, by go_num, rfl, by omega, hV, HV, dbl_pow hS.out, hbz.trans (hb3.mono (by omega))⟩
            case measure => first | (simp [intOf]; done) | (simp [intOf]; omega)
    · have hk10 : 0 < k1 := by omega
      have hk20 : 0 < k2 := by omega
      clear hex
      have hp0 := rep_posD hXr.out hX.len.out hk10
      have hq0 := rep_posD hYr.out hY.len.out hk20
      obtain ⟨b, off, rfl, hb, hc⟩ := hX.rd hk10
      obtain ⟨b', off', rfl, hb', hc'⟩ := hY.rd hk20
      have g1 := hc 0 hk10
      have g2 := hc' 0 hk20
      rw [Nat.add_zero] at g1 g2
      clear hc hc'
      have a1 := nth_nn xs 0
      have a2 := hX.lim.nth 0
      have a3 := nth_nn ys 0
      have a4 := hY.lim.nth 0
      have par1 := par_nth hXr.out
      have par2 := par_nth hYr.out
      by_cases e1 : p % 2 = 0
      · have f1 : (nth xs 0 % 2 == 0) = true := beq_iff_eq.2 (by omega)
        by_cases e2 : q % 2 = 0
        · have f2 : (nth ys 0 % 2 == 0) = true := beq_iff_eq.2 (by omega)
          have HN := Lib.hid (gcd_both hT.out e1 e2)
          have ht1 := twos_lt hT.out hp0 HGM.out
          have HM := Lib.hid (show p / 2 + q / 2 < gk by have := hv.out; omega)
          clear par1 par2 e1 e2 hp0 hq0
          go_wp2_with fail
          refine (halve2_any _ _ _ k1 c1 xs hX (Nat.le_refl _) (by omega)).mono ?_
          rintro e w1 ⟨A3, k3, c3, zs, rfl, hZ, hZr, hb1⟩
          rw [hXr.out.val] at hZr
          have HZ := Lib.hid hZr
          clear hZr
          have hz1 := hb1.size
          have hY1 := (hY.below hb1 (Nat.le_refl _)).more hz1
          go_wp2_with fail
          refine (halve2_any _ _ _ k2 c2 ys hY1 (Nat.le_refl _) (by omega)).mono ?_
          rintro e w2 ⟨A4, k4, c4, us, rfl, hU, hUr, hb2⟩
          rw [hYr.out.val] at hUr
          have HU := Lib.hid hUr
          clear hUr
          have hz2 := hb2.size
          have hZ1 := (hZ.below hb2 (Nat.le_refl _)).more hz2
          have hk3 : k3 ≤ M := Nat.le_trans (HZ.out.length_le (by decide) (Nat.lt_of_le_of_lt (Nat.div_le_self _ _) (hXr.out.lt_pow (by decide))) |> fun e => by have := hZ.len.out; have := hX.len.out; omega) hk1
          have hk4 : k4 ≤ M := Nat.le_trans (HU.out.length_le (by decide) (Nat.lt_of_le_of_lt (Nat.div_le_self _ _) (hYr.out.lt_pow (by decide))) |> fun e => by have := hU.len.out; have := hY.len.out; omega) hk2
          go_wp2_with fail
          go_roundg (p / 2 + q / 2)
          case measure => exact HM.out
          case rel => exact ⟨_, _, _, _, _, _, _, _, _, _, t + 1, rfl, rfl, by go_num, hk3, hk4, ht1, hZ1, hU, HZ, HU, HN, rfl, (hbw.trans (hb1.mono (by omega))).trans (hb2.mono (by omega))⟩
        · have f2 : (nth ys 0 % 2 == 0) = false := beq_eq_false_iff_ne.2 (by omega)
          have HN := Lib.hid (gcd_l hT.out e1 (by omega))
          have HM := Lib.hid (show p / 2 + q < gk by have := hv.out; omega)
          clear par1 par2 e1 e2 hp0 hq0
          go_wp2_with fail
          refine (halve2_any _ _ _ k1 c1 xs hX (Nat.le_refl _) (by omega)).mono ?_
          rintro e w1 ⟨A3, k3, c3, zs, rfl, hZ, hZr, hb1⟩
          rw [hXr.out.val] at hZr
          have HZ := Lib.hid hZr
          clear hZr
          have hz1 := hb1.size
          have hY1 := (hY.below hb1 (Nat.le_refl _)).more hz1
          have hk3 : k3 ≤ M := Nat.le_trans (HZ.out.length_le (by decide) (Nat.lt_of_le_of_lt (Nat.div_le_self _ _) (hXr.out.lt_pow (by decide))) |> fun e => by have := hZ.len.out; have := hX.len.out; omega) hk1
          go_wp2_with fail
          go_roundg (p / 2 + q)
          case measure => exact HM.out
          case rel => exact ⟨_, _, _, _, _, _, _, _, _, _, t, rfl, rfl, rfl, hk3, hk2, ht, hZ, hY1, HZ, hYr, HN, rfl, hbw.trans (hb1.mono (by omega))⟩
      · have f1 : (nth xs 0 % 2 == 0) = false := beq_eq_false_iff_ne.2 (by omega)
        by_cases e2 : q % 2 = 0
        · have f2 : (nth ys 0 % 2 == 0) = true := beq_iff_eq.2 (by omega)
          have HN := Lib.hid (gcd_r hT.out (by omega) e2)
          have HM := Lib.hid (show p + q / 2 < gk by have := hv.out; omega)
          clear par1 par2 e1 e2 hp0 hq0
          go_wp2_with fail
          refine (halve2_any _ _ _ k2 c2 ys hY (Nat.le_refl _) (by omega)).mono ?_
          rintro e w2 ⟨A4, k4, c4, us, rfl, hU, hUr, hb2⟩
          rw [hYr.out.val] at hUr
          have HU := Lib.hid hUr
          clear hUr
          have hz2 := hb2.size
          have hX1 := (hX.below hb2 (Nat.le_refl _)).more hz2
          have hk4 : k4 ≤ M := Nat.le_trans (HU.out.length_le (by decide) (Nat.lt_of_le_of_lt (Nat.div_le_self _ _) (hYr.out.lt_pow (by decide))) |> fun e => by have := hU.len.out; have := hY.len.out; omega) hk2
          go_wp2_with fail
          go_roundg (p + q / 2)
          case measure => exact HM.out
          case rel => exact ⟨_, _, _, _, _, _, _, _, _, _, t, rfl, rfl, rfl, hk1, hk4, ht, hX1, hU, hXr, HU, HN, rfl, hbw.trans (hb2.mono (by omega))⟩
        · have f2 : (nth ys 0 % 2 == 0) = false := beq_eq_false_iff_ne.2 (by omega)
          have HC := Lib.hid (compareD_any wr wr.heap.size _ _ k1 k2 c1 c2 xs ys hX hY)
          clear par1 par2 e1 e2
          go_wp2_with fail
          refine HC.out.mono ?_
          rintro e w1 ⟨r, rfl, hr, u, rfl⟩
          have HV := Lib.hid (cmp_rep (by decide) hr hX.len.out hY.len.out hXr.out hYr.out)
          clear HC hr
          have hX1 := hX.drewN u
          have hY1 := hY.drewN u
          have hb1 := below_drewN hbw u
          by_cases hr0 : 0 ≤ r
          · have hle : q ≤ p := by have := HV.out; unfold CmpV at this; omega
            have HN := Lib.hid (gcd_subl hT.out hle)
            have HM := Lib.hid (show p - q + q < gk by have := hv.out; omega)
            have hkk : k2 ≤ k1 := by have := hYr.out.length_le (by decide) (Nat.lt_of_le_of_lt hle (hXr.out.lt_pow (by decide))); have := hX.len.out; have := hY.len.out; omega
            go_wp2_with fail
            refine (minus_any _ _ _ _ k1 k2 c1 c2 xs ys hX1 hY1 (Nat.le_refl _) hkk (by omega) (by rw [hXr.out.val, hYr.out.val]; exact hle)).mono ?_
            rintro e w2 ⟨A4, k4, c4, us, rfl, hU, hUr, hb2⟩
            rw [hXr.out.val, hYr.out.val] at hUr
            have HU := Lib.hid hUr
            clear hUr
            have hz2 := hb2.size
            have hY2 := (hY1.below hb2 (Nat.le_refl _)).more hz2
            have hk4 : k4 ≤ M := Nat.le_trans (HU.out.length_le (by decide) (Nat.lt_of_le_of_lt (Nat.sub_le _ _) (hXr.out.lt_pow (by decide))) |> fun e => by have := hU.len.out; have := hX.len.out; omega) hk1
            go_wp2_with fail
            go_roundg (p - q + q)
            case measure => exact HM.out
            case rel => exact ⟨_, _, _, _, _, _, _, _, _, _, t, rfl, rfl, rfl, hk4, hk2, ht, hU, hY2, HU, hYr, HN, rfl, hb1.trans (hb2.mono hb1.size)⟩
          · have hle : p ≤ q := by have := HV.out; unfold CmpV at this; omega
            have HN := Lib.hid (gcd_subr hT.out hle)
            have HM := Lib.hid (show p + (q - p) < gk by have := hv.out; omega)
            have hkk : k1 ≤ k2 := by have := hXr.out.length_le (by decide) (Nat.lt_of_le_of_lt hle (hYr.out.lt_pow (by decide))); have := hX.len.out; have := hY.len.out; omega
            go_wp2_with fail
            refine (minus_any _ _ _ _ k2 k1 c2 c1 ys xs hY1 hX1 (Nat.le_refl _) hkk (by omega) (by rw [hXr.out.val, hYr.out.val]; exact hle)).mono ?_
            rintro e w2 ⟨A4, k4, c4, us, rfl, hU, hUr, hb2⟩
            rw [hXr.out.val, hYr.out.val] at hUr
            have HU := Lib.hid hUr
            clear hUr
            have hz2 := hb2.size
            have hX2 := (hX1.below hb2 (Nat.le_refl _)).more hz2
            have hk4 : k4 ≤ M := Nat.le_trans (HU.out.length_le (by decide) (Nat.lt_of_le_of_lt (Nat.sub_le _ _) (hYr.out.lt_pow (by decide))) |> fun e => by have := hU.len.out; have := hY.len.out; omega) hk2
            go_wp2_with fail
            go_roundg (p + (q - p))
            case measure => exact HM.out
            case rel => exact ⟨_, _, _, _, _, _, _, _, _, _, t, rfl, rfl, rfl, hk1, hk4, ht, hX2, hU, hXr, HU, HN, rfl, hb1.trans (hb2.mono hb1.size)⟩
end Go.Proofs.Ytjkogajdpkbjeaa
