/- guessLimb. -/
import Derived.Test.YtjkogajdpkbjeaaKnuth
import Derived.Test.YtjkogajdpkbjeaaPure
import Derived.Test.YtjkogajdpkbjeaaAddMul
import Derived.Deep.QuietTactic
import Derived.BigQuiet
import Derived.Deep.RegionWith
namespace Go.Proofs.Ytjkogajdpkbjeaa
open Go.RowKit
set_option maxHeartbeats 400000
set_option maxRecDepth 100000
set_option linter.unusedSimpArgs false
set_option linter.unusedVariables false

/-- The guess is not below the quotient. -/
def GlRel (v1 a2 a1 : Int) (U D : Nat) (w : World) (gv rv : Value) (wr : World) : Prop :=
  ∃ g r : Int, gv = .int .u64 g ∧ rv = .int .u64 r ∧ 0 ≤ g ∧ g ≤ 4294967297 ∧ 0 ≤ r ∧ r < 4294967296 ∧ Hid (g * v1 + r = a2 * 4294967296 + a1) ∧ Hid (U < (g.toNat + 1) * D) ∧ ∃ k, wr = w.drewN k
def GlPost (U D : Nat) (w : World) (e : Ending) (w' : World) : Prop :=
  ∃ g : Int, e = .returned (.int .u32 g) ∧ 0 ≤ g ∧ g < 4294967296 ∧ U < (g.toNat + 1) * D ∧ g.toNat * D ≤ U + D ∧ ∃ k, w' = w.drewN k
theorem gl_top (xs ys : List Nat) (m : Nat) (hx : Lim xs) (hy : Lim ys) (hv : 2147483648 ≤ nth ys (m + 1)) (h : S 4294967296 (fun i => xs.getD i 0) (m + 3) < 4294967296 * S 4294967296 (fun i => ys.getD i 0) (m + 2)) : nth xs (m + 2) ≤ nth ys (m + 1) := by
  rw [kn_split, kn_split2] at h
  unfold nth at hv ⊢
  have := kn_top (B := 4294967296) (by omega) (by decide) (Dig.at_ hx (by decide) (m + 1)) (Dig.at_ hy (by decide) m) (S_lt (by decide) (fun j _ => Dig.at_ hy (by decide) j)) rfl h
  omega
theorem gl_start (xs ys : List Nat) (m : Nat) (hx : Lim xs) (hv : 0 < nth ys (m + 1)) :
    S 4294967296 (fun i => xs.getD i 0) (m + 3) < (((nth xs (m + 2) * 4294967296 + nth xs (m + 1)) / nth ys (m + 1)).toNat + 1) * S 4294967296 (fun i => ys.getD i 0) (m + 2) := by
  rw [kn_split, kn_split2]
  unfold nth at hv ⊢
  have e : ((((xs.getD (m + 2) 0 : Nat) : Int) * 4294967296 + ((xs.getD (m + 1) 0 : Nat) : Int)) / ((ys.getD (m + 1) 0 : Nat) : Int)).toNat = (xs.getD (m + 2) 0 * 4294967296 + xs.getD (m + 1) 0) / ys.getD (m + 1) 0 := by
    rw [show ((xs.getD (m + 2) 0 : Nat) : Int) * 4294967296 + ((xs.getD (m + 1) 0 : Nat) : Int) = ((xs.getD (m + 2) 0 * 4294967296 + xs.getD (m + 1) 0 : Nat) : Int) by omega, ← Int.natCast_ediv, Int.toNat_natCast]
  rw [e]
  exact kn_start (by omega) (Dig.at_ hx (by decide) m) (S_lt (by decide) (fun j _ => Dig.at_ hx (by decide) j))
theorem nat_of (g r : Nat) (v a2 a1 : Nat) (b : Nat) (h : (g : Int) * (v : Int) + (r : Int) = (a2 : Int) * (b : Int) + (a1 : Int)) : g * v + r = a2 * b + a1 := by
  rw [← Int.natCast_mul, ← Int.natCast_mul, ← Int.natCast_add, ← Int.natCast_add] at h
  exact Int.ofNat.inj h
theorem gl_dec (xs ys : List Nat) (m : Nat) (hx : Lim xs) (g r : Int) (h0 : 0 ≤ g) (r0 : 0 ≤ r) (h : g * nth ys (m + 1) + r = nth xs (m + 2) * 4294967296 + nth xs (m + 1)) (hgt : r * 4294967296 + nth xs m < g * nth ys m) :
    S 4294967296 (fun i => xs.getD i 0) (m + 3) < ((g - 1).toNat + 1) * S 4294967296 (fun i => ys.getD i 0) (m + 2) := by
  obtain ⟨g, rfl⟩ := Int.eq_ofNat_of_zero_le h0
  obtain ⟨r, rfl⟩ := Int.eq_ofNat_of_zero_le r0
  rw [kn_split, kn_split2]
  unfold nth at h hgt
  have h' := nat_of g r _ _ _ 4294967296 h
  have hgt' : r * 4294967296 + xs.getD m 0 < g * ys.getD m 0 := by
    rw [← Int.natCast_mul] at hgt
    omega
  have hg1 : (((g : Nat) : Int) - 1).toNat + 1 = g := by
    rcases Nat.eq_zero_or_pos g with e | e
    · subst e; omega
    · omega
  rw [hg1]
  exact kn_dec h' hgt' (S_lt (by decide) (fun j _ => Dig.at_ hx (by decide) j))
theorem gl_big {U D : Nat} {g : Int} (h : U < 4294967296 * D) (hg : 4294967295 < g) : U < ((g - 1).toNat + 1) * D := by
  have : 4294967296 * D ≤ ((g - 1).toNat + 1) * D := Nat.mul_le_mul_right D (by omega)
  omega
theorem gl_ok (xs ys : List Nat) (m : Nat) (hy : Lim ys) (g r : Int) (hv : 2147483648 ≤ nth ys (m + 1)) (h0 : 0 ≤ g) (h1 : g < 4294967296) (r0 : 0 ≤ r) (h : g * nth ys (m + 1) + r = nth xs (m + 2) * 4294967296 + nth xs (m + 1)) (hle : g * nth ys m ≤ r * 4294967296 + nth xs m) :
    g.toNat * S 4294967296 (fun i => ys.getD i 0) (m + 2) ≤ S 4294967296 (fun i => xs.getD i 0) (m + 3) + S 4294967296 (fun i => ys.getD i 0) (m + 2) := by
  obtain ⟨g, rfl⟩ := Int.eq_ofNat_of_zero_le h0
  obtain ⟨r, rfl⟩ := Int.eq_ofNat_of_zero_le r0
  rw [kn_split, kn_split2]
  unfold nth at h hle hv
  have h' := nat_of g r _ _ _ 4294967296 h
  have hle' : g * ys.getD m 0 ≤ r * 4294967296 + xs.getD m 0 := by
    rw [← Int.natCast_mul] at hle
    omega
  rw [Int.toNat_natCast]
  exact kn_ok (by decide) (by omega) h' hle' (by omega) (S_lt (by decide) (fun j _ => Dig.at_ hy (by decide) j))
theorem gl_far (g r v0 a0 : Int) (h0 : 0 ≤ g) (h1 : g < 4294967296) (hv : 0 ≤ v0 ∧ v0 < 4294967296) (ha : 0 ≤ a0) (hr : 4294967295 < r) : g * v0 ≤ r * 4294967296 + a0 := by
  have : g * v0 ≤ 4294967295 * 4294967295 := Int.mul_le_mul (by omega) (by omega) hv.1 (by omega)
  omega

theorem gl_quo (a2 a1 v : Int) (h2 : 0 ≤ a2) (ht : a2 ≤ v) (h1 : 0 ≤ a1 ∧ a1 < 4294967296) (hv : 2147483648 ≤ v) (hv2 : v < 4294967296) :
    0 ≤ (a2 * 4294967296 + a1) / v ∧ (a2 * 4294967296 + a1) / v ≤ 4294967297 ∧ 0 ≤ (a2 * 4294967296 + a1) % v ∧ (a2 * 4294967296 + a1) % v < 4294967296 := by
  have hq : (a2 * 4294967296 + a1) / v ≤ 4294967297 := by
    have : (a2 * 4294967296 + a1) / v < 4294967298 := Int.ediv_lt_of_lt_mul (by omega) (by omega)
    omega
  have e := Int.ediv_mul_add_emod (a2 * 4294967296 + a1) v
  have n1 := Int.emod_nonneg (a2 * 4294967296 + a1) (show v ≠ 0 by omega)
  have n2 := Int.emod_lt_of_pos (a2 * 4294967296 + a1) (show 0 < v by omega)
  have n3 : 0 ≤ (a2 * 4294967296 + a1) / v := Int.ediv_nonneg (by omega) (by omega)
  exact ⟨n3, hq, n1, by omega⟩
theorem gl_dec_eq {g r v H : Int} (h : g * v + r = H) : (g - 1) * v + (r + v) = H := by rw [← h]; grind
theorem gl_small {g r v a2 a1 : Int} (h : g * v + r = a2 * 4294967296 + a1) (hg : 4294967295 < g) (hr : 0 ≤ r) (ht : a2 ≤ v) (h1 : 0 ≤ a1 ∧ a1 < 4294967296) (hv : 2147483648 ≤ v) : 4294967295 < r + v → g ≤ 4294967296 := by
  intro hrv
  rcases Int.lt_or_le 4294967296 g with e | e
  · exfalso
    have : 4294967297 * v ≤ g * v := Int.mul_le_mul_of_nonneg_right (by omega) (by omega)
    omega
  · exact e
theorem gl_prod (g v : Int) (h0 : 0 ≤ g) (h1 : g < 4294967296) (hv : 0 ≤ v ∧ v < 4294967296) : 0 ≤ g * v ∧ g * v ≤ 18446744065119617025 := am_prod g v ⟨h0, h1⟩ hv
theorem gl_pos {g r v a : Int} (h : r * 4294967296 + a < g * v) (hr : 0 ≤ r) (ha : 0 ≤ a) : g ≠ 0 := by
  rintro rfl
  rw [Int.zero_mul] at h
  omega

theorem guessLimb_any (w : World) (B : Nat) (A D : Option Addr) (m c d : Nat) (xs ys : List Nat) (h : LRd w B A (m + 3) c xs) (k : LRd w B D (m + 2) d ys) (hv : 2147483648 ≤ nth ys (m + 1))
    (hUD : S 4294967296 (fun i => xs.getD i 0) (m + 3) < 4294967296 * S 4294967296 (fun i => ys.getD i 0) (m + 2)) :
    Calls Try.prog 70 #[.slice A (m + 3) c, .slice D (m + 2) d] w (GlPost (S 4294967296 (fun i => xs.getD i 0) (m + 3)) (S 4294967296 (fun i => ys.getD i 0) (m + 2)) w) := by
  have htop := gl_top xs ys m h.lim k.lim hv hUD
  have HUD := Lib.hid hUD
  have HS := Lib.hid (gl_start xs ys m h.lim (by omega))
  clear hUD
  have hcap := h.cap
  have hcap2 := k.cap
  obtain ⟨b, off, rfl, hb, hc⟩ := h.rd (by omega)
  obtain ⟨b', off', rfl, hb', hc'⟩ := k.rd (by omega)
  have g1 := hc (m + 2) (by omega)
  have g2 := hc (m + 1) (by omega)
  have g3 := hc m (by omega)
  have g4 := hc' (m + 1) (by omega)
  have g5 := hc' m (by omega)
  have x1 := nth_nn xs (m + 2)
  have x2 := h.lim.nth (m + 2)
  have x3 := nth_nn xs (m + 1)
  have x4 := h.lim.nth (m + 1)
  have x5 := nth_nn xs m
  have x6 := h.lim.nth m
  have y1 := nth_nn ys (m + 1)
  have y2 := k.lim.nth (m + 1)
  have y3 := nth_nn ys m
  have y4 := k.lim.nth m
  have hj := join_bits (nth xs (m + 2)) (nth xs (m + 1)) ⟨x1, x2⟩ ⟨x3, x4⟩
  clear hc hc'
  go_enter Try.func70, Try.ntmps70
  go_wp2_with fail
  go_quiet (fail)
  go_wp2_with fail
  go_quiet (fail)
  go_wp2_with fail
  go_quiet (fail)
  go_wp2_with fail
  go_loopw [9, 10] (GlRel (nth ys (m + 1)) (nth xs (m + 2)) (nth xs (m + 1)) (S 4294967296 (fun i => xs.getD i 0) (m + 3)) (S 4294967296 (fun i => ys.getD i 0) (m + 2)) w) (fun g _ _ => (intOf g).toNat)
  case atStart =>
    have q1 := gl_quo (nth xs (m + 2)) (nth xs (m + 1)) (nth ys (m + 1)) x1 htop ⟨x3, x4⟩ hv y2
    exact ⟨_, _, rfl, rfl, q1.1, q1.2.1, q1.2.2.1, q1.2.2.2, Int.ediv_mul_add_emod _ _, HS.out, _, (by first | (rw [World.drewN_drewN, World.drewN_drewN, World.drewN_drewN]; done) | (rw [World.drewN_drewN, World.drewN_drewN]; done) | (rw [World.drewN_drewN]; done) | rfl)⟩
  case round =>
    clear HS
    obtain ⟨g, r, rfl, rfl, p1, p2, p3, p4, HE, HU, q, rfl⟩ := hrel
    by_cases hbig : 4294967295 < g
    · have f1 : decide (4294967295 < g) = true := decide_eq_true hbig
      have HU2 := Lib.hid (gl_big HUD.out hbig)
      have HE2 := Lib.hid (gl_dec_eq HE.out)
      have HR := Lib.hid (gl_small HE.out hbig p3 htop ⟨x3, x4⟩ hv)
      by_cases hr : 4294967295 < r + nth ys (m + 1)
      · go_wp2_with fail
        go_ret
        have := HR.out
        exact ⟨g - 1, ret1_of (by omega), by omega, by omega, HU2.out, gl_ok xs ys m k.lim (g - 1) (r + nth ys (m + 1)) hv (by omega) (by omega) (by omega) HE2.out (gl_far _ _ _ _ (by omega) (by omega) ⟨y3, y4⟩ x5 hr), _, rfl⟩
      · go_wp2_with fail
        go_roundw
        case rel => exact ⟨g - 1, r + nth ys (m + 1), rfl, rfl, by omega, by omega, by omega, by omega, HE2.out, HU2.out, _, rfl⟩
        case measure => simp [intOf]; omega
    · have f1 : decide (4294967295 < g) = false := decide_eq_false hbig
      have hp := gl_prod g (nth ys m) p1 (by omega) ⟨y3, y4⟩
      have hj2 := join_bits r (nth xs m) ⟨p3, p4⟩ ⟨x5, x6⟩
      by_cases hgt : r * 4294967296 + nth xs m < g * nth ys m
      · have f2 : decide (r * 4294967296 + nth xs m < g * nth ys m) = true := decide_eq_true hgt
        have HU2 := Lib.hid (gl_dec xs ys m h.lim g r p1 p3 HE.out hgt)
        have HE2 := Lib.hid (gl_dec_eq HE.out)
        have hg1 := gl_pos hgt p3 x5
        by_cases hr : 4294967295 < r + nth ys (m + 1)
        · go_wp2_with fail
          go_ret
          exact ⟨g - 1, ret1_of (by omega), by omega, by omega, HU2.out, gl_ok xs ys m k.lim (g - 1) (r + nth ys (m + 1)) hv (by omega) (by omega) (by omega) HE2.out (gl_far _ _ _ _ (by omega) (by omega) ⟨y3, y4⟩ x5 hr), _, rfl⟩
        · go_wp2_with fail
          go_roundw
          case rel => exact ⟨g - 1, r + nth ys (m + 1), rfl, rfl, by omega, by omega, by omega, by omega, HE2.out, HU2.out, _, rfl⟩
          case measure => simp [intOf]; omega
      · have f2 : decide (r * 4294967296 + nth xs m < g * nth ys m) = false := decide_eq_false hgt
        have HG := Lib.hid (gl_ok xs ys m k.lim g r hv p1 (by omega) p3 HE.out (by omega))
        go_wp2_with fail
        go_ret
        exact ⟨g, ret1_of (by omega), by omega, by omega, HU.out, HG.out, _, rfl⟩
end Go.Proofs.Ytjkogajdpkbjeaa
