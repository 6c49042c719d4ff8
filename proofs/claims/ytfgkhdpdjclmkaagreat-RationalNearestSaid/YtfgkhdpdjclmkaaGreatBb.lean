/- Package natural: addMultiple. guessLimb. Package natural: difference. subtractMultiple. addBack. Package natural: shiftLeft. Package natural: shiftRight. divideLong. divideBySmall. slices.Clone of limbs; divideBySmall. divide. -/
import Derived.Test.YtfgkhdpdjclmkaaGreatBa
import Derived.Deep.QuietTactic
import Derived.BigQuiet
import Derived.Deep.RegionWith
import Derived.Maps.AppendAt
namespace Go.Proofs.YtfgkhdpdjclmkaaGreat
open Go.RowKit
set_option maxHeartbeats 400000
set_option maxRecDepth 100000
set_option linter.unusedSimpArgs false
set_option linter.unusedVariables false

theorem grown_set {a w : World} {g : Nat} (h : a.grownBy w (some g)) (i : Nat) (u : Value) : a.grownBy (w.setCell ⟨g, i, none⟩ u) (some g) :=
  ⟨h.os, h.tape, h.output, by simpa [World.setCell] using h.size, fun j hj hne => (Below.heap_setCell w ⟨g, i, none⟩ u j (fun e => hne (by rw [e]))).trans (h.block j hj hne)⟩
theorem grown_drewN {a w : World} {r : Option Nat} (h : a.grownBy w r) (n : Nat) : a.grownBy (w.drewN n) r := ⟨h.os, h.tape, h.output, h.size, h.block⟩
/-- ys times f is added to m limbs from place o on. -/
def AmIs (o m : Nat) (cs ys : List Nat) (f : Int) (k : Nat) (q : Int) (cs' : List Nat) : Prop :=
  cs'.length = cs.length ∧ (∀ i, i < o ∨ o + k ≤ i → cs'.getD i 0 = cs.getD i 0) ∧
  S 4294967296 (fun j => cs'.getD (o + j) 0) k + q.toNat * 4294967296 ^ k = S 4294967296 (fun j => cs.getD (o + j) 0) k + f.toNat * S 4294967296 (fun j => ys.getD j 0) k
theorem am_step {o m k : Nat} {cs ys cs' : List Nat} {f q : Int} (h : AmIs o m cs ys f k q cs') (hk : o + k < cs.length) (hf : 0 ≤ f) (hq : 0 ≤ q) :
    AmIs o m cs ys f (k + 1) ((q + (nth ys k * f + nth cs' (o + k))) / 4294967296) (cs'.set (o + k) ((q + (nth ys k * f + nth cs' (o + k))) % 4294967296).toNat) := by
  obtain ⟨h1, h2, h3⟩ := h
  refine ⟨by rw [List.length_set, h1], fun i hi => ?_, ?_⟩
  · rw [getD_set _ _ _ _ (by omega), if_neg (by omega)]; exact h2 i (by omega)
  · rw [S_succ, S_succ, S_succ, S_ext (g := fun j => cs'.getD (o + j) 0) (fun j hj => by rw [getD_set _ _ _ _ (by omega), if_neg (by omega)])]
    rw [getD_set _ _ _ _ (by omega), if_pos rfl]
    unfold nth
    rw [h2 (o + k) (by omega)]
    generalize cs.getD (o + k) 0 = x at *
    generalize ys.getD k 0 = y at *
    obtain ⟨f, rfl⟩ := Int.eq_ofNat_of_zero_le hf
    obtain ⟨q, rfl⟩ := Int.eq_ofNat_of_zero_le hq
    rw [show ((q : Int) + ((y : Int) * f + x)) = ((q + (y * f + x) : Nat) : Int) by push_cast; rfl]
    rw [show ((((q + (y * f + x) : Nat) : Int) % 4294967296).toNat) = (q + (y * f + x)) % 4294967296 by omega]
    rw [show ((((q + (y * f + x) : Nat) : Int) / 4294967296).toNat) = (q + (y * f + x)) / 4294967296 by omega]
    have e : (q + (y * f + x)) % 4294967296 + 4294967296 * ((q + (y * f + x)) / 4294967296) = q + (y * f + x) := Nat.mod_add_div _ _
    simp only [Int.toNat_natCast] at h3 ⊢
    generalize (q + (y * f + x)) % 4294967296 = r at *
    generalize (q + (y * f + x)) / 4294967296 = d at *
    rw [Nat.pow_succ]
    generalize 4294967296 ^ k = P at *
    grind
def AmRel (o m : Nat) (cs ys : List Nat) (f : Int) (g : Nat) (w : World) (carry i : Value) (wr : World) : Prop :=
  ∃ (k : Nat) (q : Int) (cs' : List Nat), k ≤ m ∧ i = .int .i64 k ∧ carry = .int .u64 q ∧ 0 ≤ q ∧ q < 4294967296 ∧ R32 wr g cs' ∧ Lim cs' ∧ w.grownBy wr (some g) ∧ Hid (AmIs o m cs ys f k q cs')
def AmPost (o m : Nat) (cs ys : List Nat) (f : Int) (g : Nat) (w : World) (e : Ending) (w' : World) : Prop :=
  ∃ (q : Int) (cs' : List Nat), e = .returned (.int .u32 q) ∧ 0 ≤ q ∧ q < 4294967296 ∧ R32 w' g cs' ∧ Lim cs' ∧ w.grownBy w' (some g) ∧ AmIs o m cs ys f m q cs'
theorem am_prod (y f : Int) (hy : 0 ≤ y ∧ y < 4294967296) (hf : 0 ≤ f ∧ f < 4294967296) : 0 ≤ y * f ∧ y * f ≤ 18446744065119617025 := by
  constructor
  · exact Int.mul_nonneg hy.1 hf.1
  · have : y * f ≤ 4294967295 * 4294967295 := Int.mul_le_mul (by omega) (by omega) hf.1 (by omega)
    omega
theorem addMultiple_any (w : World) (B g o : Nat) (D : Option Addr) (m c d : Nat) (cs ys : List Nat) (f : Int) (hR : R32 w g cs) (hL : Lim cs) (k : LRd w B D m d ys) (hB : B ≤ g) (ho : o + m ≤ cs.length) (hf : 0 ≤ f ∧ f < 4294967296) (hc : m ≤ c ∧ c ≤ 9223372036854775807) :
    Calls Tryz.prog 147 #[.slice (some ⟨g, o, none⟩) m c, .slice D m d, .int .u32 f] w (AmPost o m cs ys f g w) := by
  have hcap2 := k.cap
  go_enter Tryz.func147, Tryz.ntmps147
  go_wp2_with fail
  go_loopw [7, 12] (AmRel o m cs ys f g w) (fun _ i _ => m - (intOf i).toNat)
  case atStart => exact ⟨0, 0, cs, Nat.zero_le _, rfl, rfl, by omega, by omega, hR, hL, World.grownBy.refl _ _, ⟨rfl, fun _ _ => rfl, by simp [S_zero]⟩⟩
  case round =>
    clear hR hL
    obtain ⟨j, q, cs', hj, rfl, rfl, q0, q1, hR, hL, hg, HA⟩ := hrel
    have hlen := Lib.hid HA.out.1
    by_cases hjm : j < m
    · obtain ⟨b', off', rfl, hb', hc'⟩ := k.rd (by omega)
      have hlt := hR.lt
      have g2 := (hg.cell (hc' j (by omega)) (by simp; omega))
      have g3 := hR.cell (j := o + j) (by have := hlen.out; omega)
      have g4 := hR.frozen (o + j)
      have a1 := nth_nn cs' (o + j)
      have a2 := hL.nth (o + j)
      have a3 := nth_nn ys j
      have a4 := k.lim.nth j
      have a5 := am_prod (nth ys j) f ⟨a3, a4⟩ hf
      have ST := Lib.hid (am_step HA.out (by omega) hf.1 q0)
      clear hc'
      go_wp2_with fail
      go_roundw
      case rel => exact ⟨j + 1, _, _, by omega, by go_num, rfl, Int.ediv_nonneg (by omega) (by omega), by omega, hR.put _ (Int.emod_nonneg _ (by omega)), hL.set (by omega), grown_set hg _ _, ST.out⟩
      case measure => simp [intOf]; omega
    · obtain rfl : j = m := by omega
      go_wp2_with fail
      go_ret
      exact ⟨q, cs', rfl, q0, q1, hR, hL, hg, HA.out⟩
/-- The guess is not below the quotient. -/
def GlRel (v1 a2 a1 : Int) (U D : Nat) (w : World) (gv rv : Value) (wr : World) : Prop :=
  ∃ g r : Int, gv = .int .u64 g ∧ rv = .int .u64 r ∧ 0 ≤ g ∧ g ≤ 4294967297 ∧ 0 ≤ r ∧ r < 4294967296 ∧ Hid (g * v1 + r = a2 * 4294967296 + a1) ∧ Hid (U < (g.toNat + 1) * D) ∧ ∃ k, wr = w.drewN k
def GlPost (U D : Nat) (w : World) (e : Ending) (w' : World) : Prop :=
  ∃ g : Int, e = .returned (.int .u32 g) ∧ 0 ≤ g ∧ g < 4294967296 ∧ U < (g.toNat + 1) * D ∧ g.toNat * D ≤ U + D ∧ ∃ k, w' = w.drewN k
theorem gl_top (xs ys : List Nat) (m : Nat) (hx : Lim xs) (hy : Lim ys) (hv : 2147483648 ≤ nth ys (m + 1)) (h : S 4294967296 (fun i => xs.getD i 0) (m + 3) < 4294967296 * S 4294967296 (fun i => ys.getD i 0) (m + 2)) : nth xs (m + 2) ≤ nth ys (m + 1) := by
  rw [kn_split, kn_split2] at h
  unfold nth at hv ⊢
  have := kn_top (B := 4294967296) (by omega) (by decide) (Dig.at_ hx (by decide) (m + 1)) (Dig.at_ hy (by decide) m) (S_lt (by decide) (fun j _ => Dig.at_ hy (by decide) j)) rfl h
  omega
theorem gl_start (xs ys : List Nat) (m : Nat) (hx : Lim xs) (hv : 0 < nth ys (m + 1)) :
    S 4294967296 (fun i => xs.getD i 0) (m + 3) < (((nth xs (m + 2) * 4294967296 + nth xs (m + 1)) / nth ys (m + 1)).toNat + 1) * S 4294967296 (fun i => ys.getD i 0) (m + 2) := by
  rw [kn_split, kn_split2]
  unfold nth at hv ⊢
  have e : ((((xs.getD (m + 2) 0 : Nat) : Int) * 4294967296 + ((xs.getD (m + 1) 0 : Nat) : Int)) / ((ys.getD (m + 1) 0 : Nat) : Int)).toNat = (xs.getD (m + 2) 0 * 4294967296 + xs.getD (m + 1) 0) / ys.getD (m + 1) 0 := by
    rw [show ((xs.getD (m + 2) 0 : Nat) : Int) * 4294967296 + ((xs.getD (m + 1) 0 : Nat) : Int) = ((xs.getD (m + 2) 0 * 4294967296 + xs.getD (m + 1) 0 : Nat) : Int) by omega, ← Int.natCast_ediv, Int.toNat_natCast]
  rw [e]
  exact kn_start (by omega) (Dig.at_ hx (by decide) m) (S_lt (by decide) (fun j _ => Dig.at_ hx (by decide) j))
theorem nat_of (g r : Nat) (v a2 a1 : Nat) (b : Nat) (h : (g : Int) * (v : Int) + (r : Int) = (a2 : Int) * (b : Int) + (a1 : Int)) : g * v + r = a2 * b + a1 := by
  rw [← Int.natCast_mul, ← Int.natCast_mul, ← Int.natCast_add, ← Int.natCast_add] at h
  exact Int.ofNat.inj h
theorem gl_dec (xs ys : List Nat) (m : Nat) (hx : Lim xs) (g r : Int) (h0 : 0 ≤ g) (r0 : 0 ≤ r) (h : g * nth ys (m + 1) + r = nth xs (m + 2) * 4294967296 + nth xs (m + 1)) (hgt : r * 4294967296 + nth xs m < g * nth ys m) :
    S 4294967296 (fun i => xs.getD i 0) (m + 3) < ((g - 1).toNat + 1) * S 4294967296 (fun i => ys.getD i 0) (m + 2) := by
  obtain ⟨g, rfl⟩ := Int.eq_ofNat_of_zero_le h0
  obtain ⟨r, rfl⟩ := Int.eq_ofNat_of_zero_le r0
  rw [kn_split, kn_split2]
  unfold nth at h hgt
  have h' := nat_of g r _ _ _ 4294967296 h
  have hgt' : r * 4294967296 + xs.getD m 0 < g * ys.getD m 0 := by
    rw [← Int.natCast_mul] at hgt
    omega
  have hg1 : (((g : Nat) : Int) - 1).toNat + 1 = g := by
    rcases Nat.eq_zero_or_pos g with e | e
    · subst e; omega
    · omega
  rw [hg1]
  exact kn_dec h' hgt' (S_lt (by decide) (fun j _ => Dig.at_ hx (by decide) j))
theorem gl_big {U D : Nat} {g : Int} (h : U < 4294967296 * D) (hg : 4294967295 < g) : U < ((g - 1).toNat + 1) * D := by
  have : 4294967296 * D ≤ ((g - 1).toNat + 1) * D := Nat.mul_le_mul_right D (by omega)
  omega
theorem gl_ok (xs ys : List Nat) (m : Nat) (hy : Lim ys) (g r : Int) (hv : 2147483648 ≤ nth ys (m + 1)) (h0 : 0 ≤ g) (h1 : g < 4294967296) (r0 : 0 ≤ r) (h : g * nth ys (m + 1) + r = nth xs (m + 2) * 4294967296 + nth xs (m + 1)) (hle : g * nth ys m ≤ r * 4294967296 + nth xs m) :
    g.toNat * S 4294967296 (fun i => ys.getD i 0) (m + 2) ≤ S 4294967296 (fun i => xs.getD i 0) (m + 3) + S 4294967296 (fun i => ys.getD i 0) (m + 2) := by
  obtain ⟨g, rfl⟩ := Int.eq_ofNat_of_zero_le h0
  obtain ⟨r, rfl⟩ := Int.eq_ofNat_of_zero_le r0
  rw [kn_split, kn_split2]
  unfold nth at h hle hv
  have h' := nat_of g r _ _ _ 4294967296 h
  have hle' : g * ys.getD m 0 ≤ r * 4294967296 + xs.getD m 0 := by
    rw [← Int.natCast_mul] at hle
    omega
  rw [Int.toNat_natCast]
  exact kn_ok (by decide) (by omega) h' hle' (by omega) (S_lt (by decide) (fun j _ => Dig.at_ hy (by decide) j))
theorem gl_far (g r v0 a0 : Int) (h0 : 0 ≤ g) (h1 : g < 4294967296) (hv : 0 ≤ v0 ∧ v0 < 4294967296) (ha : 0 ≤ a0) (hr : 4294967295 < r) : g * v0 ≤ r * 4294967296 + a0 := by
  have : g * v0 ≤ 4294967295 * 4294967295 := Int.mul_le_mul (by omega) (by omega) hv.1 (by omega)
  omega
theorem gl_quo (a2 a1 v : Int) (h2 : 0 ≤ a2) (ht : a2 ≤ v) (h1 : 0 ≤ a1 ∧ a1 < 4294967296) (hv : 2147483648 ≤ v) (hv2 : v < 4294967296) :
    0 ≤ (a2 * 4294967296 + a1) / v ∧ (a2 * 4294967296 + a1) / v ≤ 4294967297 ∧ 0 ≤ (a2 * 4294967296 + a1) % v ∧ (a2 * 4294967296 + a1) % v < 4294967296 := by
  have hq : (a2 * 4294967296 + a1) / v ≤ 4294967297 := by
    have : (a2 * 4294967296 + a1) / v < 4294967298 := Int.ediv_lt_of_lt_mul (by omega) (by omega)
    omega
  have e := Int.ediv_mul_add_emod (a2 * 4294967296 + a1) v
  have n1 := Int.emod_nonneg (a2 * 4294967296 + a1) (show v ≠ 0 by omega)
  have n2 := Int.emod_lt_of_pos (a2 * 4294967296 + a1) (show 0 < v by omega)
  have n3 : 0 ≤ (a2 * 4294967296 + a1) / v := Int.ediv_nonneg (by omega) (by omega)
  exact ⟨n3, hq, n1, by omega⟩
theorem gl_dec_eq {g r v H : Int} (h : g * v + r = H) : (g - 1) * v + (r + v) = H := by rw [← h]; grind
theorem gl_small {g r v a2 a1 : Int} (h : g * v + r = a2 * 4294967296 + a1) (hg : 4294967295 < g) (hr : 0 ≤ r) (ht : a2 ≤ v) (h1 : 0 ≤ a1 ∧ a1 < 4294967296) (hv : 2147483648 ≤ v) : 4294967295 < r + v → g ≤ 4294967296 := by
  intro hrv
  rcases Int.lt_or_le 4294967296 g with e | e
  · exfalso
    have : 4294967297 * v ≤ g * v := Int.mul_le_mul_of_nonneg_right (by omega) (by omega)
    omega
  · exact e
theorem gl_prod (g v : Int) (h0 : 0 ≤ g) (h1 : g < 4294967296) (hv : 0 ≤ v ∧ v < 4294967296) : 0 ≤ g * v ∧ g * v ≤ 18446744065119617025 := am_prod g v ⟨h0, h1⟩ hv
theorem gl_pos {g r v a : Int} (h : r * 4294967296 + a < g * v) (hr : 0 ≤ r) (ha : 0 ≤ a) : g ≠ 0 := by
  rintro rfl
  rw [Int.zero_mul] at h
  omega
theorem guessLimb_any (w : World) (B : Nat) (A D : Option Addr) (m c d : Nat) (xs ys : List Nat) (h : LRd w B A (m + 3) c xs) (k : LRd w B D (m + 2) d ys) (hv : 2147483648 ≤ nth ys (m + 1))
    (hUD : S 4294967296 (fun i => xs.getD i 0) (m + 3) < 4294967296 * S 4294967296 (fun i => ys.getD i 0) (m + 2)) :
    Calls Tryz.prog 152 #[.slice A (m + 3) c, .slice D (m + 2) d] w (GlPost (S 4294967296 (fun i => xs.getD i 0) (m + 3)) (S 4294967296 (fun i => ys.getD i 0) (m + 2)) w) := by
  have htop := gl_top xs ys m h.lim k.lim hv hUD
  have HUD := Lib.hid hUD
  have HS := Lib.hid (gl_start xs ys m h.lim (by omega))
  clear hUD
  have hcap := h.cap
  have hcap2 := k.cap
  obtain ⟨b, off, rfl, hb, hc⟩ := h.rd (by omega)
  obtain ⟨b', off', rfl, hb', hc'⟩ := k.rd (by omega)
  have g1 := hc (m + 2) (by omega)
  have g2 := hc (m + 1) (by omega)
  have g3 := hc m (by omega)
  have g4 := hc' (m + 1) (by omega)
  have g5 := hc' m (by omega)
  have x1 := nth_nn xs (m + 2)
  have x2 := h.lim.nth (m + 2)
  have x3 := nth_nn xs (m + 1)
  have x4 := h.lim.nth (m + 1)
  have x5 := nth_nn xs m
  have x6 := h.lim.nth m
  have y1 := nth_nn ys (m + 1)
  have y2 := k.lim.nth (m + 1)
  have y3 := nth_nn ys m
  have y4 := k.lim.nth m
  have hj := join_bits (nth xs (m + 2)) (nth xs (m + 1)) ⟨x1, x2⟩ ⟨x3, x4⟩
  clear hc hc'
  go_enter Tryz.func152, Tryz.ntmps152
  go_wp2_with fail
  go_quiet (fail)
  go_wp2_with fail
  go_quiet (fail)
  go_wp2_with fail
  go_quiet (fail)
  go_wp2_with fail
  go_loopw [9, 10] (GlRel (nth ys (m + 1)) (nth xs (m + 2)) (nth xs (m + 1)) (S 4294967296 (fun i => xs.getD i 0) (m + 3)) (S 4294967296 (fun i => ys.getD i 0) (m + 2)) w) (fun g _ _ => (intOf g).toNat)
  case atStart =>
    have q1 := gl_quo (nth xs (m + 2)) (nth xs (m + 1)) (nth ys (m + 1)) x1 htop ⟨x3, x4⟩ hv y2
    exact ⟨_, _, rfl, rfl, q1.1, q1.2.1, q1.2.2.1, q1.2.2.2, Int.ediv_mul_add_emod _ _, HS.out, _, (by first | (rw [World.drewN_drewN, World.drewN_drewN, World.drewN_drewN]; done) | (rw [World.drewN_drewN, World.drewN_drewN]; done) | (rw [World.drewN_drewN]; done) | rfl)⟩
  case round =>
    clear HS
    obtain ⟨g, r, rfl, rfl, p1, p2, p3, p4, HE, HU, q, rfl⟩ := hrel
    by_cases hbig : 4294967295 < g
    · have f1 : decide (4294967295 < g) = true := decide_eq_true hbig
      have HU2 := Lib.hid (gl_big HUD.out hbig)
      have HE2 := Lib.hid (gl_dec_eq HE.out)
      have HR := Lib.hid (gl_small HE.out hbig p3 htop ⟨x3, x4⟩ hv)
      by_cases hr : 4294967295 < r + nth ys (m + 1)
      · go_wp2_with fail
        go_ret
        have := HR.out
        exact ⟨g - 1, ret1_of (by omega), by omega, by omega, HU2.out, gl_ok xs ys m k.lim (g - 1) (r + nth ys (m + 1)) hv (by omega) (by omega) (by omega) HE2.out (gl_far _ _ _ _ (by omega) (by omega) ⟨y3, y4⟩ x5 hr), _, rfl⟩
      · go_wp2_with fail
        go_roundw
        case rel => exact ⟨g - 1, r + nth ys (m + 1), rfl, rfl, by omega, by omega, by omega, by omega, HE2.out, HU2.out, _, rfl⟩
        case measure => simp [intOf]; omega
    · have f1 : decide (4294967295 < g) = false := decide_eq_false hbig
      have hp := gl_prod g (nth ys m) p1 (by omega) ⟨y3, y4⟩
      have hj2 := join_bits r (nth xs m) ⟨p3, p4⟩ ⟨x5, x6⟩
      by_cases hgt : r * 4294967296 + nth xs m < g * nth ys m
      · have f2 : decide (r * 4294967296 + nth xs m < g * nth ys m) = true := decide_eq_true hgt
        have HU2 := Lib.hid (gl_dec xs ys m h.lim g r p1 p3 HE.out hgt)
        have HE2 := Lib.hid (gl_dec_eq HE.out)
        have hg1 := gl_pos hgt p3 x5
        by_cases hr : 4294967295 < r + nth ys (m + 1)
        · go_wp2_with fail
          go_ret
          exact ⟨g - 1, ret1_of (by omega), by omega, by omega, HU2.out, gl_ok xs ys m k.lim (g - 1) (r + nth ys (m + 1)) hv (by omega) (by omega) (by omega) HE2.out (gl_far _ _ _ _ (by omega) (by omega) ⟨y3, y4⟩ x5 hr), _, rfl⟩
        · go_wp2_with fail
          go_roundw
          case rel => exact ⟨g - 1, r + nth ys (m + 1), rfl, rfl, by omega, by omega, by omega, by omega, HE2.out, HU2.out, _, rfl⟩
          case measure => simp [intOf]; omega
      · have f2 : decide (r * 4294967296 + nth xs m < g * nth ys m) = false := decide_eq_false hgt
        have HG := Lib.hid (gl_ok xs ys m k.lim g r hv p1 (by omega) p3 HE.out (by omega))
        go_wp2_with fail
        go_ret
        exact ⟨g, ret1_of (by omega), by omega, by omega, HU.out, HG.out, _, rfl⟩
theorem brw_eq (x y c : Int) (hx : 0 ≤ x ∧ x < 4294967296) (hy : 0 ≤ y ∧ y < 4294967296) (hc : 0 ≤ c ∧ c ≤ 1) : (x - y - c) % 4294967296 + y + c = x + 4294967296 * brw x y c := by
  unfold brw; split <;> omega
theorem dif_step {rs xs ys : List Nat} {k : Nat} {c : Int} (hk : k < rs.length) (hc : 0 ≤ c) (hc1 : c ≤ 1) (hX : Lim xs) (hY : Lim ys)
    (h : S 4294967296 (fun i => rs.getD i 0) k + S 4294967296 (fun i => ys.getD i 0) k = S 4294967296 (fun i => xs.getD i 0) k + c.toNat * 4294967296 ^ k) :
    S 4294967296 (fun i => (rs.set k ((nth xs k - nth ys k - c) % 4294967296).toNat).getD i 0) (k + 1) + S 4294967296 (fun i => ys.getD i 0) (k + 1) =
      S 4294967296 (fun i => xs.getD i 0) (k + 1) + (brw (nth xs k) (nth ys k) c).toNat * 4294967296 ^ (k + 1) := by
  have e0 := brw_eq (nth xs k) (nth ys k) c ⟨nth_nn _ _, hX.nth _⟩ ⟨nth_nn _ _, hY.nth _⟩ ⟨hc, hc1⟩
  have b0 := brw_01 (nth xs k) (nth ys k) c
  have n0 := Int.emod_nonneg (nth xs k - nth ys k - c) (show (4294967296 : Int) ≠ 0 by omega)
  rw [S_succ, S_succ, S_succ, S_ext (g := fun i => rs.getD i 0) (fun j hj => by rw [getD_set _ _ _ _ hk, if_neg (by omega)])]
  rw [getD_set _ _ _ _ hk, if_pos rfl]
  generalize (nth xs k - nth ys k - c) % 4294967296 = r at *
  generalize brw (nth xs k) (nth ys k) c = d at *
  unfold nth at e0
  generalize xs.getD k 0 = x at *
  generalize ys.getD k 0 = y at *
  have e : r.toNat + y + c.toNat = x + 4294967296 * d.toNat := by omega
  generalize r.toNat = r' at *
  generalize d.toNat = d' at *
  generalize c.toNat = c' at *
  rw [Nat.pow_succ]
  generalize 4294967296 ^ k = P at *
  grind
theorem dif_last (xs ys rs : List Nat) (n : Nat) (q : Int) (hr : rs.length = n) (hy : ys.length ≤ n) (hx : xs.length = n) (hL : Lim rs) (q0 : 0 ≤ q) (q1 : q ≤ 1) (hle : vb 4294967296 ys ≤ vb 4294967296 xs)
    (h : S 4294967296 (fun i => rs.getD i 0) n + S 4294967296 (fun i => ys.getD i 0) n = S 4294967296 (fun i => xs.getD i 0) n + q.toNat * 4294967296 ^ n) :
    vb 4294967296 rs = vb 4294967296 xs - vb 4294967296 ys := by
  rw [vb_len (xs := xs) (by omega), vb_len (xs := ys) hy, vb_len (xs := rs) (by omega)] at h
  have h1 : vb 4294967296 rs < 4294967296 ^ n := by rw [← hr]; exact vb_lt (by decide) hL
  have h2 : q = 0 ∨ q = 1 := by omega
  rcases h2 with rfl | rfl
  · simp at h; omega
  · simp at h; omega
def DifRel (n M N : Nat) (xs ys : List Nat) (w : World) (carry i : Value) (wr : World) : Prop :=
  ∃ (k : Nat) (c : Int) (rs : List Nat), M ≤ k ∧ k ≤ N ∧ i = .int .i64 k ∧ carry = .int .u32 c ∧ 0 ≤ c ∧ c ≤ 1 ∧ R32 wr w.heap.size rs ∧ Hid (rs.length = n) ∧ Lim rs ∧ Below w.heap.size w wr ∧
    Hid (S 4294967296 (fun i => rs.getD i 0) k + S 4294967296 (fun i => ys.getD i 0) k = S 4294967296 (fun i => xs.getD i 0) k + c.toNat * 4294967296 ^ k)
theorem diff_any (w : World) (B : Nat) (A D : Option Addr) (n m c d : Nat) (xs ys : List Nat) (h : LRd w B A n c xs) (k : LRd w B D m d ys) (hB : B ≤ w.heap.size) (hn : n ≤ 1000000000) (hmn : m ≤ n) (hle : vb 4294967296 ys ≤ vb 4294967296 xs) :
    Calls Tryz.prog 134 #[.slice A n c, .slice D m d] w (GivesL w (vb 4294967296 xs - vb 4294967296 ys)) := by
  have hcap := h.cap
  have hcap2 := k.cap
  have hmk := mk32 n (by omega)
  have hr0 := R32.new w n
  go_enter Tryz.func134, Tryz.ntmps134
  go_wp2_with fail
  go_loopw [6, 14] (DifRel n 0 m xs ys w) (fun _ i _ => m - (intOf i).toNat)
  case atStart => exact ⟨0, 0, List.replicate n 0, Nat.le_refl _, Nat.zero_le _, rfl, rfl, by omega, by omega, hr0, (by show _ = _; simp), Lim.zeros _, bl1 _ _, (by show _ = _; simp [S_zero])⟩
  case round =>
    obtain ⟨j, q, rs, _, hj, rfl, rfl, q0, q1, hR, hrl, hrL, hbw, HS⟩ := hrel
    by_cases hjm : j < m
    · obtain ⟨b, off, rfl, hb, hc⟩ := h.rd (by omega)
      obtain ⟨b', off', rfl, hb', hc'⟩ := k.rd (by omega)
      have g1 := (hbw.cell (p := ⟨b, off + j, none⟩) (by show b < _; omega)).trans (hc j (by omega))
      have g2 := (hbw.cell (p := ⟨b', off' + j, none⟩) (by show b' < _; omega)).trans (hc' j (by omega))
      have g3 := hR.cell (j := j) (by have := hrl.out; omega)
      have g4 := hR.frozen j
      have a1 := nth_nn xs j
      have a2 := h.lim.nth j
      have a3 := nth_nn ys j
      have a4 := k.lim.nth j
      clear hc hc'
      go_wp2_with fail
      go_region_with (go_at_call 149; refine (sub32_any _ _ _ _ ⟨a1, a2⟩ ⟨a3, a4⟩ ⟨q0, q1⟩).mono ?_; rintro e w' ⟨rfl, rfl⟩)
      all_goals
        go_wp2_with fail
        go_roundw
        case rel => exact ⟨j + 1, _, _, by omega, by omega, by go_num, rfl, (brw_01 _ _ _).1, (brw_01 _ _ _).2, (hR.drew).put j (Int.emod_nonneg _ (by omega)), (by show _ = _; rw [List.length_set]; exact hrl.out), hrL.set (by omega), hbw.drew.setCell (Nat.le_refl _) _, dif_step (by have := hrl.out; omega) q0 q1 h.lim k.lim HS.out⟩
        case measure => simp [intOf]; omega
    · obtain rfl : j = m := by omega
      go_wp2_with fail
      have hyl := Lib.hid k.len.out
      go_loopw [6, 8] (DifRel n j n xs ys w) (fun _ i _ => n - (intOf i).toNat)
      case atStart => exact ⟨j, q, rs, Nat.le_refl _, hmn, rfl, rfl, q0, q1, hR, hrl, hrL, hbw, HS⟩
      case round =>
        clear q0 q1 hR hrl hrL hbw HS
        obtain ⟨i, q, rs, him, hi, rfl, rfl, q0, q1, hR, hrl, hrL, hbw, HS⟩ := hrel
        by_cases hin : i < n
        · obtain ⟨b, off, rfl, hb, hc⟩ := h.rd (by omega)
          have g1 := (hbw.cell (p := ⟨b, off + i, none⟩) (by show b < _; omega)).trans (hc i (by omega))
          have g3 := hR.cell (j := i) (by have := hrl.out; omega)
          have g4 := hR.frozen i
          have a1 := nth_nn xs i
          have a2 := h.lim.nth i
          have HY := Lib.hid (show nth ys i = 0 by unfold nth; rw [getD_none (by have := hyl.out; omega)]; rfl)
          have ST := Lib.hid (dif_step (by have := hrl.out; omega) q0 q1 h.lim k.lim HS.out)
          rw [HY.out, Int.sub_zero] at ST
          clear hc
          go_wp2_with (go_at_call 149; refine (sub32_any _ _ _ _ ⟨a1, a2⟩ (by omega) ⟨q0, q1⟩).mono ?_; rintro e w' ⟨rfl, rfl⟩)
          go_roundw
          case rel => exact ⟨i + 1, _, _, by omega, by omega, by go_num, rfl, (brw_01 _ _ _).1, (brw_01 _ _ _).2, hR.put i (Int.emod_nonneg _ (by omega)), (by show _ = _; rw [List.length_set]; exact hrl.out), hrL.set (by omega), hbw.setCell (Nat.le_refl _) _, ST.out⟩
          case measure => simp [intOf]; omega
        · obtain rfl : i = n := by omega
          have hv2 := Lib.hid (dif_last xs ys rs i q hrl.out (by have := hyl.out; omega) h.len.out hrL q0 q1 hle HS.out)
          go_wp2_with fail
          refine (trim_any _ _ _ _ _ _ (hR.lrdAll hrL hR.lt hrl (by omega))).mono ?_
          rintro e w' ⟨t, rfl, ht, rfl⟩
          go_wp2_with fail
          go_ret
          exact gives_row hR hrL hrl ht (by omega) hbw hv2.out
/-- ys times f is taken from k limbs from place o on; q is carried, br borrowed. -/
def SmIs (o : Nat) (cs ys : List Nat) (f : Int) (k : Nat) (q br : Int) (cs' : List Nat) : Prop :=
  cs'.length = cs.length ∧ (∀ i, i < o ∨ o + k ≤ i → cs'.getD i 0 = cs.getD i 0) ∧
  S 4294967296 (fun j => cs'.getD (o + j) 0) k + f.toNat * S 4294967296 (fun j => ys.getD j 0) k = S 4294967296 (fun j => cs.getD (o + j) 0) k + (q.toNat + br.toNat) * 4294967296 ^ k
theorem sm_nat {b o k f q br u q2 br2 : Nat} {cs ys cs' : List Nat} (hk : o + k < cs.length) (h1 : cs'.length = cs.length) (h2 : ∀ i, i < o ∨ o + k ≤ i → cs'.getD i 0 = cs.getD i 0)
    (h3 : S b (fun j => cs'.getD (o + j) 0) k + f * S b (fun j => ys.getD j 0) k = S b (fun j => cs.getD (o + j) 0) k + (q + br) * b ^ k)
    (e : u + (q + ys.getD k 0 * f) + br = cs.getD (o + k) 0 + b * (q2 + br2)) :
    S b (fun j => (cs'.set (o + k) u).getD (o + j) 0) (k + 1) + f * S b (fun j => ys.getD j 0) (k + 1) = S b (fun j => cs.getD (o + j) 0) (k + 1) + (q2 + br2) * b ^ (k + 1) := by
  rw [S_succ, S_succ, S_succ, S_ext (f := fun j => (cs'.set (o + k) u).getD (o + j) 0) (g := fun j => cs'.getD (o + j) 0) (fun j hj => by rw [getD_set _ _ _ _ (by omega), if_neg (by omega)])]
  rw [getD_set _ _ _ _ (by omega), if_pos rfl]
  rw [Nat.pow_succ]
  generalize b ^ k = P at *
  generalize cs.getD (o + k) 0 = x at *
  generalize ys.getD k 0 = y at *
  clear h1 h2 hk
  grind
theorem sm_num (x y f q br : Int) (hx : 0 ≤ x ∧ x < 4294967296) (hy : 0 ≤ y * f) (hq : 0 ≤ q) (hb : 0 ≤ br ∧ br ≤ 1) :
    (x - (q + y * f) % 4294967296 - br) % 4294967296 + (q + y * f) + br = x + 4294967296 * ((q + y * f) / 4294967296 + brw x ((q + y * f) % 4294967296) br) := by
  have e := brw_eq x ((q + y * f) % 4294967296) br hx (by omega) hb
  omega
theorem sm_step {o k : Nat} {cs ys cs' : List Nat} {f q br : Int} (h : SmIs o cs ys f k q br cs') (hk : o + k < cs.length) (hL : Lim cs') (hf : 0 ≤ f) (hq : 0 ≤ q) (hb : 0 ≤ br ∧ br ≤ 1) :
    SmIs o cs ys f (k + 1) ((q + nth ys k * f) / 4294967296) (brw (nth cs' (o + k)) ((q + nth ys k * f) % 4294967296) br) (cs'.set (o + k) ((nth cs' (o + k) - (q + nth ys k * f) % 4294967296 - br) % 4294967296).toNat) := by
  obtain ⟨h1, h2, h3⟩ := h
  have a0 := Int.mul_nonneg (nth_nn ys k) hf
  have e := sm_num (nth cs' (o + k)) (nth ys k) f q br ⟨nth_nn _ _, hL.nth _⟩ a0 hq hb
  have b0 := brw_01 (nth cs' (o + k)) ((q + nth ys k * f) % 4294967296) br
  have c0 := Int.emod_nonneg (nth cs' (o + k) - (q + nth ys k * f) % 4294967296 - br) (show (4294967296 : Int) ≠ 0 by decide)
  have d0 : 0 ≤ (q + nth ys k * f) / 4294967296 := Int.ediv_nonneg (by omega) (by decide)
  refine ⟨by rw [List.length_set, h1], fun i hi => ?_, ?_⟩
  · rw [getD_set _ _ _ _ (by omega), if_neg (by omega)]; exact h2 i (by omega)
  · refine sm_nat hk h1 h2 h3 ?_
    generalize (nth cs' (o + k) - (q + nth ys k * f) % 4294967296 - br) % 4294967296 = u at *
    generalize brw (nth cs' (o + k)) ((q + nth ys k * f) % 4294967296) br = b2 at *
    generalize (q + nth ys k * f) / 4294967296 = q2 at *
    unfold nth at e
    rw [h2 (o + k) (by omega)] at e
    clear h1 h2 h3 a0
    obtain ⟨f, rfl⟩ := Int.eq_ofNat_of_zero_le hf
    rw [← Int.natCast_mul] at e
    rw [Int.toNat_natCast]
    generalize ys.getD k 0 * f = yf at *
    omega
def SmRel (o m : Nat) (cs ys : List Nat) (f : Int) (g : Nat) (w : World) (carry borrow i : Value) (wr : World) : Prop :=
  ∃ (k : Nat) (q br : Int) (cs' : List Nat), k ≤ m ∧ i = .int .i64 k ∧ carry = .int .u64 q ∧ borrow = .int .u32 br ∧ 0 ≤ q ∧ q < 4294967296 ∧ 0 ≤ br ∧ br ≤ 1 ∧ R32 wr g cs' ∧ Lim cs' ∧ w.grownBy wr (some g) ∧ Hid (SmIs o cs ys f k q br cs')
/-- The top limb takes what was carried and borrowed. -/
def SmPost (o m : Nat) (cs ys : List Nat) (f : Int) (g : Nat) (w : World) (e : Ending) (w' : World) : Prop :=
  ∃ (br : Int) (cs' : List Nat), e = .returned (.bool (br != 0)) ∧ 0 ≤ br ∧ br ≤ 1 ∧ R32 w' g cs' ∧ Lim cs' ∧ w.grownBy w' (some g) ∧
    cs'.length = cs.length ∧ (∀ i, i < o ∨ o + m + 1 ≤ i → cs'.getD i 0 = cs.getD i 0) ∧
    S 4294967296 (fun j => cs'.getD (o + j) 0) (m + 1) + f.toNat * S 4294967296 (fun j => ys.getD j 0) m = S 4294967296 (fun j => cs.getD (o + j) 0) (m + 1) + br.toNat * 4294967296 ^ (m + 1)
theorem sm_end {b o m f q br u br2 : Nat} {cs ys cs' : List Nat} (hk : o + m < cs.length) (h1 : cs'.length = cs.length) (h2 : ∀ i, i < o ∨ o + m ≤ i → cs'.getD i 0 = cs.getD i 0)
    (h3 : S b (fun j => cs'.getD (o + j) 0) m + f * S b (fun j => ys.getD j 0) m = S b (fun j => cs.getD (o + j) 0) m + (q + br) * b ^ m)
    (e : u + q + br = cs.getD (o + m) 0 + b * br2) :
    S b (fun j => (cs'.set (o + m) u).getD (o + j) 0) (m + 1) + f * S b (fun j => ys.getD j 0) m = S b (fun j => cs.getD (o + j) 0) (m + 1) + br2 * b ^ (m + 1) := by
  rw [S_succ, S_succ, S_ext (f := fun j => (cs'.set (o + m) u).getD (o + j) 0) (g := fun j => cs'.getD (o + j) 0) (fun j hj => by rw [getD_set _ _ _ _ (by omega), if_neg (by omega)])]
  rw [getD_set _ _ _ _ (by omega), if_pos rfl]
  rw [Nat.pow_succ]
  generalize b ^ m = P at *
  generalize cs.getD (o + m) 0 = x at *
  clear h1 h2 hk
  grind
theorem sm_last {o m : Nat} {cs ys cs' : List Nat} {f q br : Int} (h : SmIs o cs ys f m q br cs') (hk : o + m < cs.length) (hL : Lim cs') (hq : 0 ≤ q ∧ q < 4294967296) (hb : 0 ≤ br ∧ br ≤ 1) :
    S 4294967296 (fun j => (cs'.set (o + m) ((nth cs' (o + m) - q - br) % 4294967296).toNat).getD (o + j) 0) (m + 1) + f.toNat * S 4294967296 (fun j => ys.getD j 0) m =
      S 4294967296 (fun j => cs.getD (o + j) 0) (m + 1) + (brw (nth cs' (o + m)) q br).toNat * 4294967296 ^ (m + 1) := by
  obtain ⟨h1, h2, h3⟩ := h
  have e := brw_eq (nth cs' (o + m)) q br ⟨nth_nn _ _, hL.nth _⟩ hq hb
  have b0 := brw_01 (nth cs' (o + m)) q br
  have c0 := Int.emod_nonneg (nth cs' (o + m) - q - br) (show (4294967296 : Int) ≠ 0 by decide)
  refine sm_end hk h1 h2 h3 ?_
  generalize (nth cs' (o + m) - q - br) % 4294967296 = u at *
  generalize brw (nth cs' (o + m)) q br = b2 at *
  unfold nth at e
  rw [h2 (o + m) (by omega)] at e
  clear h1 h2 h3
  omega
theorem subtractMultiple_any (w : World) (B g o : Nat) (D : Option Addr) (m c d : Nat) (cs ys : List Nat) (f : Int) (hR : R32 w g cs) (hL : Lim cs) (k : LRd w B D m d ys) (hB : B ≤ g) (ho : o + m < cs.length) (hf : 0 ≤ f ∧ f < 4294967296) (hc : m + 1 ≤ c ∧ c ≤ 9223372036854775807) :
    Calls Tryz.prog 153 #[.slice (some ⟨g, o, none⟩) (m + 1) c, .slice D m d, .int .u32 f] w (SmPost o m cs ys f g w) := by
  have hcap2 := k.cap
  go_enter Tryz.func153, Tryz.ntmps153
  go_wp2_with fail
  go_loopw [7, 8, 14] (SmRel o m cs ys f g w) (fun _ _ i _ => m - (intOf i).toNat)
  case atStart => exact ⟨0, 0, 0, cs, Nat.zero_le _, rfl, rfl, rfl, by omega, by omega, by omega, by omega, hR, hL, World.grownBy.refl _ _, ⟨rfl, fun _ _ => rfl, by simp [S_zero]⟩⟩
  case round =>
    clear hR hL
    obtain ⟨j, q, br, cs', hj, rfl, rfl, rfl, q0, q1, br0, br1, hR, hL, hg, HA⟩ := hrel
    have hlen := Lib.hid HA.out.1
    by_cases hjm : j < m
    · obtain ⟨b', off', rfl, hb', hc'⟩ := k.rd (by omega)
      have hlt := hR.lt
      have g2 := (hg.cell (hc' j (by omega)) (by simp; omega))
      have g3 := hR.cell (j := o + j) (by have := hlen.out; omega)
      have g4 := hR.frozen (o + j)
      have a1 := nth_nn cs' (o + j)
      have a2 := hL.nth (o + j)
      have a3 := nth_nn ys j
      have a4 := k.lim.nth j
      have a5 := am_prod (nth ys j) f ⟨a3, a4⟩ hf
      have ST := Lib.hid (sm_step HA.out (by omega) hL hf.1 q0 ⟨br0, br1⟩)
      clear hc'
      go_wp2_with (go_at_call 149; refine (sub32_any _ _ _ _ ⟨a1, a2⟩ (by omega) ⟨br0, br1⟩).mono ?_; rintro e w' ⟨rfl, rfl⟩)
      go_roundw
      case rel => exact ⟨j + 1, _, _, _, by omega, by go_num, rfl, rfl, Int.ediv_nonneg (by omega) (by omega), by omega, (brw_01 _ _ _).1, (brw_01 _ _ _).2, hR.put _ (Int.emod_nonneg _ (by omega)), hL.set (mod_toNat_lt _), grown_set hg _ _, ST.out⟩
      case measure => simp [intOf]; omega
    · obtain rfl : j = m := by omega
      have g3 := hR.cell (j := o + j) (by have := hlen.out; omega)
      have g4 := hR.frozen (o + j)
      have a1 := nth_nn cs' (o + j)
      have a2 := hL.nth (o + j)
      have ST := Lib.hid (sm_last HA.out (by omega) hL ⟨q0, q1⟩ ⟨br0, br1⟩)
      go_wp2_with (go_at_call 149; refine (sub32_any _ _ _ _ ⟨a1, a2⟩ (by omega) ⟨br0, br1⟩).mono ?_; rintro e w' ⟨rfl, rfl⟩)
      go_ret
      refine ⟨_, _, rfl, (brw_01 _ _ _).1, (brw_01 _ _ _).2, hR.put _ (Int.emod_nonneg _ (by omega)), hL.set (mod_toNat_lt _), grown_set hg _ _, by rw [List.length_set]; exact hlen.out, fun i hi => ?_, ST.out⟩
      rw [getD_set _ _ _ _ (by have := hlen.out; omega), if_neg (by omega)]
      exact HA.out.2.1 i (by omega)
def AbIs (o : Nat) (cs ys : List Nat) (k : Nat) (q : Int) (cs' : List Nat) : Prop :=
  cs'.length = cs.length ∧ (∀ i, i < o ∨ o + k ≤ i → cs'.getD i 0 = cs.getD i 0) ∧
  S 4294967296 (fun j => cs'.getD (o + j) 0) k + q.toNat * 4294967296 ^ k = S 4294967296 (fun j => cs.getD (o + j) 0) k + S 4294967296 (fun j => ys.getD j 0) k
theorem ab_nat {b o k q u q2 : Nat} {cs ys cs' : List Nat} (hk : o + k < cs.length) (h1 : cs'.length = cs.length) (h2 : ∀ i, i < o ∨ o + k ≤ i → cs'.getD i 0 = cs.getD i 0)
    (h3 : S b (fun j => cs'.getD (o + j) 0) k + q * b ^ k = S b (fun j => cs.getD (o + j) 0) k + S b (fun j => ys.getD j 0) k)
    (e : u + b * q2 = cs.getD (o + k) 0 + ys.getD k 0 + q) :
    S b (fun j => (cs'.set (o + k) u).getD (o + j) 0) (k + 1) + q2 * b ^ (k + 1) = S b (fun j => cs.getD (o + j) 0) (k + 1) + S b (fun j => ys.getD j 0) (k + 1) := by
  rw [S_succ, S_succ, S_succ, S_ext (f := fun j => (cs'.set (o + k) u).getD (o + j) 0) (g := fun j => cs'.getD (o + j) 0) (fun j hj => by rw [getD_set _ _ _ _ (by omega), if_neg (by omega)])]
  rw [getD_set _ _ _ _ (by omega), if_pos rfl]
  rw [Nat.pow_succ]
  generalize b ^ k = P at *
  generalize cs.getD (o + k) 0 = x at *
  generalize ys.getD k 0 = y at *
  clear h1 h2 hk
  grind
theorem ab_step {o k : Nat} {cs ys cs' : List Nat} {q : Int} (h : AbIs o cs ys k q cs') (hk : o + k < cs.length) (hq : 0 ≤ q) :
    AbIs o cs ys (k + 1) ((nth cs' (o + k) + nth ys k + q) / 4294967296) (cs'.set (o + k) ((nth cs' (o + k) + nth ys k + q) % 4294967296).toNat) := by
  obtain ⟨h1, h2, h3⟩ := h
  refine ⟨by rw [List.length_set, h1], fun i hi => ?_, ?_⟩
  · rw [getD_set _ _ _ _ (by omega), if_neg (by omega)]; exact h2 i (by omega)
  · refine ab_nat hk h1 h2 h3 ?_
    unfold nth
    rw [h2 (o + k) (by omega)]
    clear h1 h2 h3
    omega
def AbRel (o m : Nat) (cs ys : List Nat) (g : Nat) (w : World) (carry i : Value) (wr : World) : Prop :=
  ∃ (k : Nat) (q : Int) (cs' : List Nat), k ≤ m ∧ i = .int .i64 k ∧ carry = .int .u32 q ∧ 0 ≤ q ∧ q ≤ 1 ∧ R32 wr g cs' ∧ Lim cs' ∧ w.grownBy wr (some g) ∧ Hid (AbIs o cs ys k q cs')
def AbPost (o m : Nat) (cs ys : List Nat) (g : Nat) (w : World) (e : Ending) (w' : World) : Prop :=
  ∃ (cs' : List Nat), e = .returned (.tuple #[]) ∧ R32 w' g cs' ∧ Lim cs' ∧ w.grownBy w' (some g) ∧
    cs'.length = cs.length ∧ (∀ i, i < o ∨ o + m + 1 ≤ i → cs'.getD i 0 = cs.getD i 0) ∧
    S 4294967296 (fun j => cs'.getD (o + j) 0) (m + 1) % 4294967296 ^ (m + 1) = (S 4294967296 (fun j => cs.getD (o + j) 0) (m + 1) + S 4294967296 (fun j => ys.getD j 0) m) % 4294967296 ^ (m + 1)
theorem ab_end {b o m q u q2 : Nat} {cs ys cs' : List Nat} (hk : o + m < cs.length) (h1 : cs'.length = cs.length) (h2 : ∀ i, i < o ∨ o + m ≤ i → cs'.getD i 0 = cs.getD i 0)
    (h3 : S b (fun j => cs'.getD (o + j) 0) m + q * b ^ m = S b (fun j => cs.getD (o + j) 0) m + S b (fun j => ys.getD j 0) m)
    (e : u + b * q2 = cs.getD (o + m) 0 + q) :
    S b (fun j => (cs'.set (o + m) u).getD (o + j) 0) (m + 1) % b ^ (m + 1) = (S b (fun j => cs.getD (o + j) 0) (m + 1) + S b (fun j => ys.getD j 0) m) % b ^ (m + 1) := by
  have hh : S b (fun j => (cs'.set (o + m) u).getD (o + j) 0) (m + 1) + q2 * b ^ (m + 1) = S b (fun j => cs.getD (o + j) 0) (m + 1) + S b (fun j => ys.getD j 0) m := by
    rw [S_succ, S_succ, S_ext (f := fun j => (cs'.set (o + m) u).getD (o + j) 0) (g := fun j => cs'.getD (o + j) 0) (fun j hj => by rw [getD_set _ _ _ _ (by omega), if_neg (by omega)])]
    rw [getD_set _ _ _ _ (by omega), if_pos rfl]
    rw [Nat.pow_succ]
    generalize b ^ m = P at *
    generalize cs.getD (o + m) 0 = x at *
    clear h1 h2 hk
    grind
  rw [← hh, Nat.add_mul_mod_self_right]
theorem addBack_any (w : World) (B g o : Nat) (D : Option Addr) (m c d : Nat) (cs ys : List Nat) (hR : R32 w g cs) (hL : Lim cs) (k : LRd w B D m d ys) (hB : B ≤ g) (ho : o + m < cs.length) (hc : m + 1 ≤ c ∧ c ≤ 9223372036854775807) :
    Calls Tryz.prog 154 #[.slice (some ⟨g, o, none⟩) (m + 1) c, .slice D m d] w (AbPost o m cs ys g w) := by
  have hcap2 := k.cap
  go_enter Tryz.func154, Tryz.ntmps154
  go_wp2_with fail
  go_loopw [4, 9] (AbRel o m cs ys g w) (fun _ i _ => m - (intOf i).toNat)
  case atStart => exact ⟨0, 0, cs, Nat.zero_le _, rfl, rfl, by omega, by omega, hR, hL, World.grownBy.refl _ _, ⟨rfl, fun _ _ => rfl, by simp [S_zero]⟩⟩
  case round =>
    clear hR hL
    obtain ⟨j, q, cs', hj, rfl, rfl, q0, q1, hR, hL, hg, HA⟩ := hrel
    have hlen := Lib.hid HA.out.1
    by_cases hjm : j < m
    · obtain ⟨b', off', rfl, hb', hc'⟩ := k.rd (by omega)
      have hlt := hR.lt
      have g2 := (hg.cell (hc' j (by omega)) (by simp; omega))
      have g3 := hR.cell (j := o + j) (by have := hlen.out; omega)
      have g4 := hR.frozen (o + j)
      have a1 := nth_nn cs' (o + j)
      have a2 := hL.nth (o + j)
      have a3 := nth_nn ys j
      have a4 := k.lim.nth j
      have ST := Lib.hid (ab_step HA.out (by omega) q0)
      clear hc'
      go_wp2_with (go_at_call 148; refine (add32_any _ _ _ _ ⟨a1, a2⟩ ⟨a3, a4⟩ ⟨q0, q1⟩).mono ?_; rintro e w' ⟨rfl, rfl⟩)
      go_roundw
      case rel => exact ⟨j + 1, _, _, by omega, by go_num, rfl, Int.ediv_nonneg (by omega) (by omega), by omega, hR.put _ (Int.emod_nonneg _ (by omega)), hL.set (mod_toNat_lt _), grown_set hg _ _, ST.out⟩
      case measure => simp [intOf]; omega
    · obtain rfl : j = m := by omega
      have g3 := hR.cell (j := o + j) (by have := hlen.out; omega)
      have g4 := hR.frozen (o + j)
      have a1 := nth_nn cs' (o + j)
      have a2 := hL.nth (o + j)
      go_wp2_with fail
      go_end0
      refine ⟨_, rfl, hR.put _ (Int.emod_nonneg _ (by omega)), hL.set (mod_toNat_lt _), grown_set hg _ _, by rw [List.length_set]; exact hlen.out, fun i hi => ?_, ?_⟩
      · rw [getD_set _ _ _ _ (by have := hlen.out; omega), if_neg (by omega)]
        exact HA.out.2.1 i (by omega)
      · refine ab_end (q2 := ((nth cs' (o + j) + q) / 4294967296).toNat) ho HA.out.1 HA.out.2.1 HA.out.2.2 ?_
        have e := HA.out.2.1 (o + j) (by omega)
        unfold nth
        rw [e]
        omega
def ShlRel (n N W p : Nat) (xs : List Nat) (w : World) (i : Value) (wr : World) : Prop :=
  ∃ (k : Nat) (rs : List Nat), k ≤ n ∧ i = .int .i64 k ∧ R32 wr w.heap.size rs ∧ Hid (rs.length = N) ∧ Lim rs ∧ Below w.heap.size w wr ∧
    Hid ((∀ i, W + k < i → rs.getD i 0 = 0) ∧ rs.getD (W + k) 0 < 2 ^ p ∧ S 4294967296 (fun i => rs.getD i 0) (W + k + 1) = S 4294967296 (fun i => xs.getD i 0) k * (2 ^ p * 4294967296 ^ W))
theorem or_low (r x : Int) (p : Nat) (hr : 0 ≤ r ∧ r < 2 ^ p) (hx : 0 ≤ x) (hp : p < 32) (hr2 : r < 4294967296) : bits .or .u32 r (x * 2 ^ p % 4294967296) = r + x * 2 ^ p % 4294967296 := by
  obtain ⟨r, rfl⟩ := Int.eq_ofNat_of_zero_le hr.1
  obtain ⟨x, rfl⟩ := Int.eq_ofNat_of_zero_le hx
  have e0 : (x : Int) * 2 ^ p = ((x * 2 ^ p : Nat) : Int) := by push_cast; rfl
  have e : (x : Int) * 2 ^ p % 4294967296 = ((x * 2 ^ p % 4294967296 : Nat) : Int) := by rw [e0]; generalize x * 2 ^ p = y; omega
  have hr' : r < 2 ^ p := by
    have h := hr.2
    rw [show (2 : Int) ^ p = ((2 ^ p : Nat) : Int) by push_cast; rfl] at h
    omega
  rw [e, u32_or_nat _ _ (by omega) (by omega)]
  obtain ⟨d, hd⟩ : ∃ d, x * 2 ^ p % 4294967296 = 2 ^ p * d := by
    refine ⟨x % 2 ^ (32 - p), ?_⟩
    have : (4294967296 : Nat) = 2 ^ p * 2 ^ (32 - p) := by rw [← Nat.pow_add, show p + (32 - p) = 32 by omega]
    rw [this, Nat.mul_comm x, Nat.mul_mod_mul_left]
  rw [hd]
  have hk := Nat.two_pow_add_eq_or_of_lt hr' d
  rw [Nat.or_comm, ← hk]
  omega
theorem shl_step {n N W p k : Nat} {xs rs : List Nat} (hrl : rs.length = N) (hN : N = n + W + 1) (hk : k < n) (hX : Lim xs)
    (h : (∀ i, W + k < i → rs.getD i 0 = 0) ∧ rs.getD (W + k) 0 < 2 ^ p ∧ S 4294967296 (fun i => rs.getD i 0) (W + k + 1) = S 4294967296 (fun i => xs.getD i 0) k * (2 ^ p * 4294967296 ^ W)) :
    (∀ i, W + (k + 1) < i → ((rs.set (W + k) (nth rs (W + k) + nth xs k * 2 ^ p % 4294967296).toNat).set (W + k + 1) (nth xs k * 2 ^ p / 4294967296).toNat).getD i 0 = 0) ∧
    ((rs.set (W + k) (nth rs (W + k) + nth xs k * 2 ^ p % 4294967296).toNat).set (W + k + 1) (nth xs k * 2 ^ p / 4294967296).toNat).getD (W + (k + 1)) 0 < 2 ^ p ∧
    S 4294967296 (fun i => ((rs.set (W + k) (nth rs (W + k) + nth xs k * 2 ^ p % 4294967296).toNat).set (W + k + 1) (nth xs k * 2 ^ p / 4294967296).toNat).getD i 0) (W + (k + 1) + 1) = S 4294967296 (fun i => xs.getD i 0) (k + 1) * (2 ^ p * 4294967296 ^ W) := by
  obtain ⟨h1, h2, h3⟩ := h
  have hx : xs.getD k 0 < 4294967296 := Dig.at_ hX (by decide) k
  have e1 : (nth rs (W + k) + nth xs k * 2 ^ p % 4294967296).toNat = rs.getD (W + k) 0 + xs.getD k 0 * 2 ^ p % 4294967296 := by
    unfold nth
    rw [show ((xs.getD k 0 : Nat) : Int) * 2 ^ p = ((xs.getD k 0 * 2 ^ p : Nat) : Int) by push_cast; rfl]
    omega
  have e2 : (nth xs k * 2 ^ p / 4294967296).toNat = xs.getD k 0 * 2 ^ p / 4294967296 := by
    unfold nth
    rw [show ((xs.getD k 0 : Nat) : Int) * 2 ^ p = ((xs.getD k 0 * 2 ^ p : Nat) : Int) by push_cast; rfl]
    omega
  rw [e1, e2]
  have hl : (rs.set (W + k) (rs.getD (W + k) 0 + xs.getD k 0 * 2 ^ p % 4294967296)).length = rs.length := List.length_set
  refine ⟨fun i hi => ?_, ?_, ?_⟩
  · rw [getD_set _ _ _ _ (by omega), if_neg (by omega), getD_set _ _ _ _ (by omega), if_neg (by omega)]; exact h1 i (by omega)
  · rw [getD_set _ _ _ _ (by omega), if_pos (by omega)]
    rw [Nat.div_lt_iff_lt_mul (by decide), Nat.mul_comm]
    exact Nat.mul_lt_mul_of_pos_left hx (Nat.two_pow_pos p)
  · rw [show W + (k + 1) + 1 = (W + k + 1) + 1 by omega, S_succ, getD_set _ _ _ _ (by omega), if_pos rfl, S_succ, getD_set _ _ _ _ (by omega), if_neg (by omega), getD_set _ _ _ _ (by omega), if_pos rfl]
    rw [S_ext (g := fun i => rs.getD i 0) (fun j hj => by rw [getD_set _ _ _ _ (by omega), if_neg (by omega), getD_set _ _ _ _ (by omega), if_neg (by omega)])]
    rw [S_succ] at h3
    rw [S_succ 4294967296 (fun i => xs.getD i 0) k]
    have e := Nat.mod_add_div (xs.getD k 0 * 2 ^ p) 4294967296
    rw [Nat.pow_succ, Nat.pow_add]
    rw [Nat.pow_add] at h3
    generalize S 4294967296 (fun i => xs.getD i 0) k = s2 at *
    generalize xs.getD k 0 * 2 ^ p % 4294967296 = lo at *
    generalize xs.getD k 0 * 2 ^ p / 4294967296 = hi at *
    generalize S 4294967296 (fun i => rs.getD i 0) (W + k) = s1 at *
    generalize rs.getD (W + k) 0 = r at *
    generalize xs.getD k 0 = x at *
    generalize 4294967296 ^ W = P at *
    generalize 4294967296 ^ k = Q at *
    generalize 2 ^ p = R at *
    clear h1 h2 e1 e2 hl hrl hX hx
    grind
def ShlPost (N W p : Nat) (xs : List Nat) (w : World) (e : Ending) (w' : World) : Prop :=
  ∃ rs, e = .returned (.slice (some ⟨w.heap.size, 0, none⟩) N N) ∧ R32 w' w.heap.size rs ∧ Hid (rs.length = N) ∧ Lim rs ∧ Below w.heap.size w w' ∧ vb 4294967296 rs = vb 4294967296 xs * (2 ^ p * 4294967296 ^ W)
theorem nth_pow {xs : List Nat} {j p : Nat} (h : xs.getD j 0 < 2 ^ p) : nth xs j < 2 ^ p := by
  unfold nth
  rw [show (2 : Int) ^ p = ((2 ^ p : Nat) : Int) by push_cast; rfl]
  omega
theorem shl_lo (r x : Int) (p : Nat) (hr : 0 ≤ r ∧ r < 2 ^ p) (hx : 0 ≤ x) (hp : p < 32) : r + x * 2 ^ p % 4294967296 < 4294967296 := by
  have e : x * 2 ^ p % 4294967296 = 2 ^ p * (x % 2 ^ (32 - p)) := by
    have : (4294967296 : Int) = 2 ^ p * 2 ^ (32 - p) := by rw [← Int.pow_add, show p + (32 - p) = 32 by omega]; rfl
    rw [this, Int.mul_comm x, Int.mul_emod_mul_of_pos _ _ (Int.pow_pos (by decide))]
  have h1 : x % 2 ^ (32 - p) < 2 ^ (32 - p) := Int.emod_lt_of_pos _ (Int.pow_pos (by decide))
  have h2 : (2 : Int) ^ p * (x % 2 ^ (32 - p) + 1) ≤ 2 ^ p * 2 ^ (32 - p) := Int.mul_le_mul_of_nonneg_left (by omega) (Int.le_of_lt (Int.pow_pos (by decide)))
  rw [← Int.pow_add, show p + (32 - p) = 32 by omega, Int.mul_add, Int.mul_one] at h2
  rw [e]
  have h3 : (2 : Int) ^ 32 = 4294967296 := by decide
  omega
theorem shl_last {n W p : Nat} {xs rs : List Nat} (hx : xs.length = n) (hrl : rs.length = n + W + 1)
    (h : (∀ i, W + n < i → rs.getD i 0 = 0) ∧ rs.getD (W + n) 0 < 2 ^ p ∧ S 4294967296 (fun i => rs.getD i 0) (W + n + 1) = S 4294967296 (fun i => xs.getD i 0) n * (2 ^ p * 4294967296 ^ W)) :
    vb 4294967296 rs = vb 4294967296 xs * (2 ^ p * 4294967296 ^ W) := by
  unfold vb; rw [hx, hrl, show n + W + 1 = W + n + 1 by omega]; exact h.2.2
theorem shl_prod (x : Int) (p : Nat) (hx : 0 ≤ x ∧ x < 4294967296) (hp : p < 32) : 0 ≤ x * 2 ^ p ∧ x * 2 ^ p ≤ 9223372034707292160 := by
  have h2 : (2 : Int) ^ p ≤ 2147483648 := by
    have h3 : (2 : Nat) ^ p ≤ 2 ^ 31 := Nat.pow_le_pow_right (by decide) (by omega)
    have h4 : ((2 ^ p : Nat) : Int) ≤ ((2 ^ 31 : Nat) : Int) := Int.ofNat_le.2 h3
    rw [Int.natCast_pow] at h4
    exact h4
  have h1 : (0 : Int) ≤ 2 ^ p := Int.pow_nonneg (by decide)
  constructor
  · exact Int.mul_nonneg hx.1 h1
  · have : x * 2 ^ p ≤ 4294967295 * 2147483648 := Int.mul_le_mul (by omega) h2 h1 (by omega)
    omega
theorem shiftLeft_any (w : World) (B : Nat) (A : Option Addr) (n c W p : Nat) (xs : List Nat) (h : LRd w B A n c xs) (hB : B ≤ w.heap.size) (hn : n ≤ 1000000000) (hW : W ≤ 1000000000) (hp : p < 32) :
    Calls Tryz.prog 118 #[.slice A n c, .int .i64 (32 * (W : Int) + p)] w (ShlPost (n + W + 1) W p xs w) := by
  have hcap := h.cap
  have e1 : (32 * (W : Int) + p) / 32 = W := by omega
  have e2 : (32 * (W : Int) + p) % 32 = p := by omega
  have hmk := mk32 (n + W + 1) (by omega)
  rw [Int.natCast_add, Int.natCast_add, Int.natCast_one] at hmk
  have hr0 := R32.new w (n + W + 1)
  go_enter Tryz.func118, Tryz.ntmps118
  go_wp2_with fail
  go_loopw [23] (ShlRel n (n + W + 1) W p xs w) (fun i _ => n - (intOf i).toNat)
  case atStart => exact ⟨0, List.replicate (n + W + 1) 0, Nat.zero_le _, rfl, hr0, (by show _ = _; simp), Lim.zeros _, bl1 _ _, (by refine ⟨fun i _ => replicate_getD _ _, by rw [replicate_getD]; exact Nat.two_pow_pos p, ?_⟩; rw [S_zeros (m := 0) (Nat.zero_le _) (fun j _ _ => replicate_getD _ _)]; simp [S_zero])⟩
  case round =>
    obtain ⟨j, rs, hj, rfl, hR, hrl, hrL, hbw, HS⟩ := hrel
    by_cases hjm : j < n
    · obtain ⟨b, off, rfl, hb, hc⟩ := h.rd (by omega)
      have g1 := (hbw.cell (p := ⟨b, off + j, none⟩) (by show b < _; omega)).trans (hc j (by omega))
      have a1 := nth_nn xs j
      have a2 := h.lim.nth j
      have hlt := hR.lt
      have g2 := hR.cell (j := W + j) (by have := hrl.out; omega)
      have g3 := hR.frozen (W + j)
      have g4 := hR.cell (j := W + j + 1) (by have := hrl.out; omega)
      have g5 := hR.frozen (W + j + 1)
      have hx := shl_prod (nth xs j) p ⟨a1, a2⟩ hp
      have b1 := nth_nn rs (W + j)
      have b2 := hrL.nth (W + j)
      have ho := or_low (nth rs (W + j)) (nth xs j) p ⟨b1, nth_pow HS.out.2.1⟩ a1 hp b2
      have ST := Lib.hid (shl_step hrl.out rfl hjm h.lim HS.out)
      have ly := Lib.hid (shl_lo (nth rs (W + j)) (nth xs j) p ⟨b1, nth_pow HS.out.2.1⟩ a1 hp)
      clear hc
      go_wp2_with fail
      go_roundw
      case rel => exact ⟨j + 1, _, by omega, by go_num, (hR.put _ (by omega)).put _ (by omega), (by show _ = _; rw [List.length_set, List.length_set]; exact hrl.out), (hrL.set (by have := ly.out; omega)).set (by omega), (hbw.setCell (Nat.le_refl _) _).setCell (Nat.le_refl _) _, ST.out⟩
      case measure => simp [intOf]; omega
    · obtain rfl : j = n := by omega
      have hv := Lib.hid (shl_last h.len.out hrl.out HS.out)
      go_wp2_with fail
      go_ret
      exact ⟨rs, rfl, hR, hrl, hrL, hbw, hv.out⟩
def ShrRel (n W p : Nat) (xs : List Nat) (w : World) (ab i : Value) (wr : World) : Prop :=
  ∃ (k : Nat) (rs : List Nat), k + W ≤ n ∧ i = .int .i64 ((k : Int) + W - 1) ∧ ab = .int .u32 (nth xs (k + W)) ∧ R32 wr w.heap.size rs ∧ Hid (rs.length = n - W) ∧ Lim rs ∧ Below w.heap.size w wr ∧
    Hid (S 4294967296 (fun t => rs.getD (k + t) 0) (n - W - k) = S 4294967296 (fun t => xs.getD (k + W + t) 0) (n - W - k) / 2 ^ p)
theorem shr_core (q c x Y : Nat) (hq : 0 < q) (hx : x < q * c) : (x + q * c * Y) / q = (Y % (q * c) * (q * c) + x) / q % (q * c) + q * c * (Y / q) := by
  have hc : 0 < q * c := by omega
  have k1 : Y % q + q * (Y / q) = Y := Nat.mod_add_div Y q
  have k2 : Y % (q * c) % q = Y % q := Nat.mod_mul_right_mod Y q c
  have k3 : Y % (q * c) % q + q * (Y % (q * c) / q) = Y % (q * c) := Nat.mod_add_div _ q
  rw [k2] at k3
  have hv : Y % q < q := Nat.mod_lt _ hq
  generalize Y % (q * c) / q = u at *
  generalize Y / q = z at *
  generalize Y % q = v at *
  rw [← k3, ← k1]
  have e1 : x + q * c * (v + q * z) = (x + q * c * v) + q * (q * c * z) := by grind
  have e2 : (v + q * u) * (q * c) + x = (x + q * c * v) + q * (q * c * u) := by grind
  rw [e1, e2, Nat.add_mul_div_left _ _ hq, Nat.add_mul_div_left _ _ hq, Nat.add_mul_mod_self_left]
  have h1 : (x + q * c * v) / q < q * c := by
    rw [Nat.div_lt_iff_lt_mul hq]
    have : q * c * (v + 1) ≤ q * c * q := Nat.mul_le_mul_left _ hv
    rw [Nat.mul_add, Nat.mul_one] at this
    omega
  rw [Nat.mod_eq_of_lt h1]
theorem shr_nat {b q c n W j : Nat} {xs rs : List Nat} (hb : b = q * c) (hq : 0 < q) (h1b : 0 < b) (hx : xs.length = n) (hrl : rs.length = n - W) (hj : j + 1 + W ≤ n) (hX : Dig b xs)
    (h : S b (fun t => rs.getD (j + 1 + t) 0) (n - W - (j + 1)) = S b (fun t => xs.getD (j + 1 + W + t) 0) (n - W - (j + 1)) / q) :
    S b (fun t => (rs.set j ((xs.getD (j + 1 + W) 0 * b + xs.getD (j + W) 0) / q % b)).getD (j + t) 0) (n - W - j) = S b (fun t => xs.getD (j + W + t) 0) (n - W - j) / q := by
  have hx0 : xs.getD (j + W) 0 < b := Dig.at_ hX h1b _
  have hx1 : xs.getD (j + 1 + W) 0 < b := Dig.at_ hX h1b _
  rw [show n - W - j = (n - W - (j + 1)) + 1 by omega, S_front, S_front]
  have hm : xs.getD (j + 1 + W) 0 = S b (fun t => xs.getD (j + 1 + W + t) 0) (n - W - (j + 1)) % b := by
    rcases Nat.eq_zero_or_pos (n - W - (j + 1)) with h0 | h0
    · rw [h0, S_zero, getD_none (by omega), Nat.zero_mod]
    · obtain ⟨t, ht⟩ : ∃ t, n - W - (j + 1) = t + 1 := ⟨n - W - (j + 1) - 1, by omega⟩
      rw [ht, S_front, Nat.add_mul_mod_self_left]
      exact (Nat.mod_eq_of_lt hx1).symm
  rw [S_ext (f := fun i => (rs.set j ((xs.getD (j + 1 + W) 0 * b + xs.getD (j + W) 0) / q % b)).getD (j + (i + 1)) 0) (g := fun t => rs.getD (j + 1 + t) 0) (fun i hi => by rw [getD_set _ _ _ _ (by omega), if_neg (by omega)]; congr 1; omega)]
  rw [S_ext (f := fun i => xs.getD (j + W + (i + 1)) 0) (g := fun t => xs.getD (j + 1 + W + t) 0) (fun i hi => by congr 1; omega)]
  rw [h, getD_set _ _ _ _ (by omega), if_pos (by omega), hm, Nat.add_zero]
  subst hb
  exact (shr_core q c _ _ hq hx0).symm
theorem shr_val (x y p : Nat) (b : Nat) : ((((x : Int) * b + (y : Int)) / 2 ^ p) % b).toNat = (x * b + y) / 2 ^ p % b := by
  rw [show (2 : Int) ^ p = ((2 ^ p : Nat) : Int) by push_cast; rfl, ← Int.natCast_mul, ← Int.natCast_add, ← Int.natCast_ediv, ← Int.natCast_emod, Int.toNat_natCast]
theorem shr_step {n W p j : Nat} {xs rs : List Nat} (hx : xs.length = n) (hrl : rs.length = n - W) (hj : j + 1 + W ≤ n) (hX : Lim xs) (hp : p < 32)
    (h : S 4294967296 (fun t => rs.getD (j + 1 + t) 0) (n - W - (j + 1)) = S 4294967296 (fun t => xs.getD (j + 1 + W + t) 0) (n - W - (j + 1)) / 2 ^ p) :
    S 4294967296 (fun t => (rs.set j ((nth xs (j + 1 + W) * 4294967296 + nth xs (j + W)) / 2 ^ p % 4294967296).toNat).getD (j + t) 0) (n - W - j) = S 4294967296 (fun t => xs.getD (j + W + t) 0) (n - W - j) / 2 ^ p := by
  have hB : (4294967296 : Nat) = 2 ^ p * 2 ^ (32 - p) := by rw [← Nat.pow_add, show p + (32 - p) = 32 by omega]
  have e := shr_val (xs.getD (j + 1 + W) 0) (xs.getD (j + W) 0) p 4294967296
  unfold nth
  have k := shr_nat hB (Nat.two_pow_pos p) (by decide) hx hrl hj hX h
  rw [← e] at k
  exact k
theorem shr_last {n W p : Nat} {xs rs : List Nat} (hx : xs.length = n) (hW : W ≤ n) (hX : Lim xs) (hrl : rs.length = n - W)
    (h : S 4294967296 (fun t => rs.getD (0 + t) 0) (n - W - 0) = S 4294967296 (fun t => xs.getD (0 + W + t) 0) (n - W - 0) / 2 ^ p) : vb 4294967296 rs = vb 4294967296 xs / (2 ^ p * 4294967296 ^ W) := by
  simp only [Nat.zero_add, Nat.sub_zero] at h
  have e : vb 4294967296 xs = S 4294967296 (fun i => xs.getD i 0) W + 4294967296 ^ W * S 4294967296 (fun t => xs.getD (W + t) 0) (n - W) := by
    rw [← S_add, show W + (n - W) = n by omega]; unfold vb; rw [hx]
  have hl : S 4294967296 (fun i => xs.getD i 0) W < 4294967296 ^ W := S_lt (by decide) (fun j _ => Dig.at_ hX (by decide) j)
  rw [e, Nat.mul_comm (2 ^ p), ← Nat.div_div_eq_div_mul, Nat.add_mul_div_left _ _ (Nat.pow_pos (by decide)), Nat.div_eq_of_lt hl, Nat.zero_add, ← h]
  unfold vb; rw [hrl]
def ShrPost (n W p : Nat) (xs : List Nat) (w : World) (e : Ending) (w' : World) : Prop :=
  ∃ rs, e = .returned (.slice (some ⟨w.heap.size, 0, none⟩) (n - W) (n - W)) ∧ R32 w' w.heap.size rs ∧ Hid (rs.length = n - W) ∧ Lim rs ∧ Below w.heap.size w w' ∧ vb 4294967296 rs = vb 4294967296 xs / (2 ^ p * 4294967296 ^ W)
theorem shiftRight_any (w : World) (B : Nat) (A : Option Addr) (n c W p : Nat) (xs : List Nat) (h : LRd w B A n c xs) (hB : B ≤ w.heap.size) (hn : n ≤ 1000000000) (hW : W ≤ n) (hp : p < 32) :
    Calls Tryz.prog 117 #[.slice A n c, .int .i64 (32 * (W : Int) + p)] w (ShrPost n W p xs w) := by
  have hcap := h.cap
  have e1 : (32 * (W : Int) + p) / 32 = W := by omega
  have e2 : (32 * (W : Int) + p) % 32 = p := by omega
  have hmk := mk32 (n - W) (by omega)
  rw [Int.ofNat_sub hW] at hmk
  have hr0 := R32.new w (n - W)
  go_enter Tryz.func117, Tryz.ntmps117
  go_wp2_with fail
  go_loopw [8, 9] (ShrRel n W p xs w) (fun _ i _ => (intOf i - W + 1).toNat)
  case atStart => exact ⟨n - W, List.replicate (n - W) 0, by omega, (by congr 1; omega), (by congr 1; unfold nth; rw [getD_none (by have := h.len.out; omega)]; rfl), hr0, (by show _ = _; simp), Lim.zeros _, bl1 _ _, (by show _ = _; rw [Nat.sub_self, S_zero, S_zero, Nat.zero_div])⟩
  case round =>
    obtain ⟨k, rs, hk, rfl, rfl, hR, hrl, hrL, hbw, HS⟩ := hrel
    by_cases h0 : k = 0
    · subst h0
      have hv := Lib.hid (shr_last h.len.out hW h.lim hrl.out HS.out)
      go_wp2_with fail
      go_ret
      exact ⟨rs, rfl, hR, hrl, hrL, hbw, hv.out⟩
    · obtain ⟨j, rfl⟩ : ∃ j, k = j + 1 := ⟨k - 1, by omega⟩
      obtain ⟨b, off, rfl, hb, hc⟩ := h.rd (by omega)
      have g1 := (hbw.cell (p := ⟨b, off + (j + W), none⟩) (by show b < _; omega)).trans (hc (j + W) (by omega))
      have a1 := nth_nn xs (j + W)
      have a2 := h.lim.nth (j + W)
      have a3 := nth_nn xs (j + 1 + W)
      have a4 := h.lim.nth (j + 1 + W)
      have hlt := hR.lt
      have g2 := hR.cell (j := j) (by have := hrl.out; omega)
      have g3 := hR.frozen j
      have ho := join_bits (nth xs (j + 1 + W)) (nth xs (j + W)) ⟨a3, a4⟩ ⟨a1, a2⟩
      have ST := Lib.hid (shr_step h.len.out hrl.out hk h.lim hp HS.out)
      clear hc h0
      go_wp2_with fail
      go_roundw
      case rel => exact ⟨j, _, by omega, (by congr 1; omega), rfl, hR.put _ (Int.emod_nonneg _ (by omega)), (by show _ = _; rw [List.length_set]; exact hrl.out), hrL.set (mod_toNat_lt _), hbw.setCell (Nat.le_refl _) _, ST.out⟩
      case measure => simp [intOf]; omega
theorem shl0_any (w : World) (B : Nat) (A : Option Addr) (n c p : Nat) (q : Int) (xs : List Nat) (h : LRd w B A n c xs) (hB : B ≤ w.heap.size) (hn : n ≤ 1000000000) (hp : p < 32) (hq : q = p) :
    Calls Tryz.prog 118 #[.slice A n c, .int .i64 q] w (ShlPost (n + 1) 0 p xs w) := by
  have := shiftLeft_any w B A n c 0 p xs h hB hn (by omega) hp
  rw [show 32 * ((0 : Nat) : Int) + p = q by omega] at this
  exact this
theorem shr0_any (w : World) (B : Nat) (A : Option Addr) (n c p : Nat) (q : Int) (xs : List Nat) (h : LRd w B A n c xs) (hB : B ≤ w.heap.size) (hn : n ≤ 1000000000) (hp : p < 32) (hq : q = p) :
    Calls Tryz.prog 117 #[.slice A n c, .int .i64 q] w (ShrPost n 0 p xs w) := by
  have := shiftRight_any w B A n c 0 p xs h hB hn (by omega) hp
  rw [show 32 * ((0 : Nat) : Int) + p = q by omega] at this
  exact this
/-- What a division gives: quotient and rest, in memory of their own. -/
def GivesQR (w : World) (p q : Nat) (e : Ending) (w' : World) : Prop :=
  ∃ A k c zs A2 k2 c2 zs2, e = .returned (.tuple #[.slice A k c, .slice A2 k2 c2]) ∧ LRd w' w'.heap.size A k c zs ∧ Rep 4294967296 zs p ∧ LRd w' w'.heap.size A2 k2 c2 zs2 ∧ Rep 4294967296 zs2 q ∧ Below w.heap.size w w'
/-- The divisor, shifted. -/
structure DsorIs (m p : Nat) (ys ds : List Nat) : Prop where
  val : S 4294967296 (fun t => ds.getD t 0) (m + 2) = vb 4294967296 ys * 2 ^ p
  low : S 4294967296 (fun t => ds.getD t 0) (m + 2) < 4294967296 ^ (m + 2)
  top : 2147483648 ≤ nth ds (m + 1)
theorem dsor_of {m : Nat} {ys ds : List Nat} (hy : Lim ys) (hl : ys.length = m + 2) (ht : ys.getD (m + 1) 0 ≠ 0) (hd : Lim ds) (hdl : ds.length = m + 3) (hv : vb 4294967296 ds = vb 4294967296 ys * (2 ^ (32 - Lib.bitLen (ys.getD (m + 1) 0)) * 4294967296 ^ 0)) :
    DsorIs m (32 - Lib.bitLen (ys.getD (m + 1) 0)) ys ds := by
  obtain ⟨h1, h2⟩ := lz_range ht (Dig.at_ hy (by decide) (m + 1))
  rw [Nat.pow_zero, Nat.mul_one] at hv
  have e : vb 4294967296 ys = S 4294967296 (fun t => ys.getD t 0) (m + 1) + ys.getD (m + 1) 0 * 4294967296 ^ (m + 1) := by unfold vb; rw [hl, S_succ]
  have hs : S 4294967296 (fun t => ys.getD t 0) (m + 1) < 4294967296 ^ (m + 1) := S_lt (by decide) (fun j _ => Dig.at_ hy (by decide) j)
  have ed : vb 4294967296 ds = S 4294967296 (fun t => ds.getD t 0) (m + 2) + ds.getD (m + 2) 0 * (4294967296 * 4294967296 ^ (m + 1)) := by unfold vb; rw [hdl, S_succ _ _ (m + 2), Nat.pow_succ _ (m + 1), Nat.mul_comm (4294967296 ^ (m + 1))]
  have es : S 4294967296 (fun t => ds.getD t 0) (m + 2) = S 4294967296 (fun t => ds.getD t 0) (m + 1) + ds.getD (m + 1) 0 * 4294967296 ^ (m + 1) := S_succ _ _ _
  have hs2 : S 4294967296 (fun t => ds.getD t 0) (m + 1) < 4294967296 ^ (m + 1) := S_lt (by decide) (fun j _ => Dig.at_ hd (by decide) j)
  rw [ed, e] at hv
  obtain ⟨_, k2, k3, k4⟩ := dsor_num (Nat.pow_pos (by decide)) hv hs h2 (Nat.two_pow_pos _) es hs2 h1
  refine ⟨by rw [k2, e], by rw [Nat.pow_succ, Nat.mul_comm]; exact k3, ?_⟩
  unfold nth
  omega
theorem long_start {N m : Nat} {xs ys cs2 ds : List Nat} (hx : Lim xs) (hxl : xs.length = N) (hy : Lim ys) (hyl : ys.length = m + 2) (hmn : m + 2 ≤ N) (hv : vb 4294967296 cs2 = vb 4294967296 xs * (2 ^ (32 - Lib.bitLen (ys.getD (m + 1) 0)) * 4294967296 ^ 0)) (hc : Lim cs2) (hcl : cs2.length = N + 1)
    (hd : DsorIs m (32 - Lib.bitLen (ys.getD (m + 1) 0)) ys ds) (ht : ys.getD (m + 1) 0 ≠ 0) :
    DlIs 4294967296 (m + 2) N (vb 4294967296 xs * 2 ^ (32 - Lib.bitLen (ys.getD (m + 1) 0))) (S 4294967296 (fun t => ds.getD t 0) (m + 2)) (N - (m + 2) + 1) cs2 (List.replicate (N - (m + 2) + 1) 0) := by
  rw [Nat.pow_zero, Nat.mul_one] at hv
  refine dl_start (by decide) hmn hcl hc (fun j => replicate_getD _ _) hv ?_
  rw [hd.val]
  have h1 : vb 4294967296 xs < 4294967296 ^ N := by rw [← hxl]; exact vb_lt (by decide) hx
  have h2 : 4294967296 ^ (m + 1) ≤ vb 4294967296 ys := by
    unfold vb; rw [hyl, S_succ]
    have : 1 * 4294967296 ^ (m + 1) ≤ ys.getD (m + 1) 0 * 4294967296 ^ (m + 1) := Nat.mul_le_mul_right _ (Nat.one_le_iff_ne_zero.2 ht)
    omega
  have h3 : 4294967296 ^ (m + 1) * 4294967296 ^ (N - (m + 2) + 1) ≤ vb 4294967296 ys * 4294967296 ^ (N - (m + 2) + 1) := Nat.mul_le_mul_right _ h2
  rw [← Nat.pow_add, show m + 1 + (N - (m + 2) + 1) = N by omega] at h3
  have h4 := Nat.mul_lt_mul_of_pos_right (show vb 4294967296 xs < vb 4294967296 ys * 4294967296 ^ (N - (m + 2) + 1) by omega) (Nat.two_pow_pos (32 - Lib.bitLen (ys.getD (m + 1) 0)))
  rw [Nat.mul_assoc, Nat.mul_comm (4294967296 ^ (N - (m + 2) + 1)), ← Nat.mul_assoc] at h4
  exact h4
theorem win_ext {i n : Nat} {cs : List Nat} : S 4294967296 (fun t => ((cs.drop i).take n).getD t 0) n = S 4294967296 (fun t => cs.getD (i + t) 0) n :=
  S_ext (fun j hj => by rw [getD_take, if_pos hj, getD_drop])
theorem take_ext {n : Nat} {cs : List Nat} : S 4294967296 (fun t => (cs.take n).getD t 0) n = S 4294967296 (fun t => cs.getD t 0) n :=
  S_ext (fun j hj => by rw [getD_take, if_pos hj])
theorem nth_take {n j : Nat} {cs : List Nat} (h : j < n) : nth (cs.take n) j = nth cs j := by unfold nth; rw [getD_take, if_pos h]
theorem long_right {m N R j : Nat} {g : Int} {cs2 cs4 cs3 ds : List Nat} (hmn : m + 2 ≤ N) (hql : cs3.length = N - (m + 2) + 1) (hj : j + 1 ≤ N - (m + 2) + 1) (hlow : S 4294967296 (fun t => ds.getD t 0) (m + 2) ≤ 4294967296 ^ (m + 2))
    (out : ∀ i, i < j ∨ j + (m + 2) + 1 ≤ i → cs4.getD i 0 = cs2.getD i 0) (h : DlIs 4294967296 (m + 2) N R (S 4294967296 (fun t => ds.getD t 0) (m + 2)) (j + 1) cs2 cs3)
    (hv : S 4294967296 (fun i => cs4.getD (j + i) 0) (m + 2 + 1) + g.toNat * S 4294967296 (fun t => (ds.take (m + 2)).getD t 0) (m + 2) = S 4294967296 (fun i => cs2.getD (j + i) 0) (m + 2 + 1) + 0 * 4294967296 ^ (m + 2 + 1))
    (p3 : S 4294967296 (fun i => cs2.getD (j + i) 0) (m + 3) < (g.toNat + 1) * S 4294967296 (fun t => ds.getD t 0) (m + 2)) :
    DlIs 4294967296 (m + 2) N R (S 4294967296 (fun t => ds.getD t 0) (m + 2)) j cs4 (cs3.set j g.toNat) := by
  rw [take_ext] at hv
  obtain ⟨e1, e2⟩ := dl_right hv p3
  exact dl_core hql (by omega) hlow out h e1 e2
theorem long_gpos {m j : Nat} {g : Int} {cs2 cs4 ds : List Nat} (hc : Lim cs4)
    (hv : S 4294967296 (fun i => cs4.getD (j + i) 0) (m + 2 + 1) + g.toNat * S 4294967296 (fun t => (ds.take (m + 2)).getD t 0) (m + 2) = S 4294967296 (fun i => cs2.getD (j + i) 0) (m + 2 + 1) + 1 * 4294967296 ^ (m + 2 + 1)) : 0 < g := by
  have h1 : S 4294967296 (fun i => cs4.getD (j + i) 0) (m + 2 + 1) < 4294967296 ^ (m + 2 + 1) := S_lt (by decide) (fun i _ => Dig.at_ hc (by decide) _)
  rcases Nat.eq_zero_or_pos g.toNat with e | e
  · exfalso
    rw [e, Nat.zero_mul, Nat.one_mul] at hv
    omega
  · omega
theorem long_wrong {m N R j : Nat} {g : Int} {cs2 cs4 cs5 cs3 ds : List Nat} (hmn : m + 2 ≤ N) (hql : cs3.length = N - (m + 2) + 1) (hj : j + 1 ≤ N - (m + 2) + 1) (hlow : S 4294967296 (fun t => ds.getD t 0) (m + 2) ≤ 4294967296 ^ (m + 2)) (hc4 : Lim cs4) (hc5 : Lim cs5)
    (out : ∀ i, i < j ∨ j + (m + 2) + 1 ≤ i → cs4.getD i 0 = cs2.getD i 0) (out5 : ∀ i, i < j ∨ j + (m + 2) + 1 ≤ i → cs5.getD i 0 = cs4.getD i 0) (h : DlIs 4294967296 (m + 2) N R (S 4294967296 (fun t => ds.getD t 0) (m + 2)) (j + 1) cs2 cs3)
    (hv : S 4294967296 (fun i => cs4.getD (j + i) 0) (m + 2 + 1) + g.toNat * S 4294967296 (fun t => (ds.take (m + 2)).getD t 0) (m + 2) = S 4294967296 (fun i => cs2.getD (j + i) 0) (m + 2 + 1) + 1 * 4294967296 ^ (m + 2 + 1))
    (p4 : g.toNat * S 4294967296 (fun t => ds.getD t 0) (m + 2) ≤ S 4294967296 (fun i => cs2.getD (j + i) 0) (m + 3) + S 4294967296 (fun t => ds.getD t 0) (m + 2))
    (hv5 : S 4294967296 (fun i => cs5.getD (j + i) 0) (m + 2 + 1) % 4294967296 ^ (m + 2 + 1) = (S 4294967296 (fun i => cs4.getD (j + i) 0) (m + 2 + 1) + S 4294967296 (fun t => (ds.take (m + 2)).getD t 0) (m + 2)) % 4294967296 ^ (m + 2 + 1)) :
    DlIs 4294967296 (m + 2) N R (S 4294967296 (fun t => ds.getD t 0) (m + 2)) j cs5 (cs3.set j (g - 1).toNat) := by
  rw [take_ext] at hv hv5
  have h1 : S 4294967296 (fun i => cs4.getD (j + i) 0) (m + 2 + 1) < 4294967296 ^ (m + 2 + 1) := S_lt (by decide) (fun i _ => Dig.at_ hc4 (by decide) _)
  have h2 : S 4294967296 (fun i => cs5.getD (j + i) 0) (m + 2 + 1) < 4294967296 ^ (m + 2 + 1) := S_lt (by decide) (fun i _ => Dig.at_ hc5 (by decide) _)
  obtain ⟨e1, e2, e3⟩ := dl_wrong (by decide) hv h1 h2 hlow p4 hv5
  rw [show (g - 1).toNat = g.toNat - 1 by omega]
  exact dl_core hql (by omega) hlow (fun i hi => (out5 i hi).trans (out i hi)) h e1 e2
def DlRel (m N R D g1 g2 g3 : Nat) (ds : List Nat) (w : World) (i : Value) (wr : World) : Prop :=
  ∃ (k : Nat) (cs2 cs3 : List Nat), k ≤ N - (m + 2) + 1 ∧ i = .int .i64 ((k : Int) - 1) ∧ R32 wr g1 ds ∧ R32 wr g2 cs2 ∧ R32 wr g3 cs3 ∧ Lim cs2 ∧ Lim cs3 ∧ Hid (cs2.length = N + 1) ∧ Hid (cs3.length = N - (m + 2) + 1) ∧ Below w.heap.size w wr ∧
    Hid (DlIs 4294967296 (m + 2) N R D k cs2 cs3)
set_option maxHeartbeats 1000000 in
theorem divideLong_any (w : World) (B : Nat) (A D : Option Addr) (N m c d : Nat) (xs ys : List Nat) (h : LRd w B A N c xs) (k : LRd w B D (m + 2) d ys) (hB : B ≤ w.heap.size) (hN : N ≤ 1000000) (hmn : m + 2 ≤ N) (ht : ys.getD (m + 1) 0 ≠ 0) :
    Calls Tryz.prog 139 #[.slice A N c, .slice D (m + 2) d] w (GivesQR w (vb 4294967296 xs / vb 4294967296 ys) (vb 4294967296 xs % vb 4294967296 ys)) := by
  have hcap := h.cap
  have hcap2 := k.cap
  have y1 := nth_nn ys (m + 1)
  have y2 := k.lim.nth (m + 1)
  have hbl := bitLen_32 (nth ys (m + 1)) ⟨y1, y2⟩
  have hbt : Lib.bitLen (nth ys (m + 1)).toNat = Lib.bitLen (ys.getD (m + 1) 0) := by unfold nth; rfl
  have hbp : 1 ≤ Lib.bitLen (nth ys (m + 1)).toNat := by rw [hbt]; exact bitLen_pos ht (by have := Dig.at_ k.lim (by decide) (m + 1); omega)
  obtain ⟨b', off', rfl, hb', hc'⟩ := k.rd (by omega)
  have g1 := hc' (m + 1) (by omega)
  have HT := Lib.hid hbt
  clear hc' hbt
  have em : ((N - (m + 2) + 1 : Nat) : Int) = (N : Int) - ((m : Int) + 2) + 1 := by omega
  have hmk := mk32 (N - (m + 2) + 1) (by omega)
  rw [em] at hmk
  clear em
  go_enter Tryz.func139, Tryz.ntmps139
  go_wp2_with (go_at_call 151; refine (lz32_any _ _ ⟨y1, y2⟩).mono ?_; rintro e w' ⟨rfl, rfl⟩)
  refine (shl0_any w B _ (m + 2) d (32 - Lib.bitLen (nth ys (m + 1)).toNat) _ ys k hB (by omega) (by omega) (by omega)).mono ?_
  rintro e w1 ⟨ds, rfl, hD1, hdl, hdL, hb1, hdv⟩
  have hz1 := hD1.lt
  go_wp2_with fail
  refine (shl0_any w1 B _ N c (32 - Lib.bitLen (nth ys (m + 1)).toNat) _ xs (h.below hb1 hB) (by omega) (by omega) (by omega) (by omega)).mono ?_
  rintro e w2 ⟨cs2, rfl, hC2, hcl, hcL, hb2, hcv⟩
  have hD2 := hD1.below hb2 hz1
  have hz2 := hC2.lt
  have hQ0 := R32.new w2 (N - (m + 2) + 1)
  have hD3 := hD2.below (bl1 w2 (.cells (List.replicate (N - (m + 2) + 1) (Value.int .u32 0)).toArray 95)) (by omega)
  have hC3 := hC2.below (bl1 w2 (.cells (List.replicate (N - (m + 2) + 1) (Value.int .u32 0)).toArray 95)) hz2
  have HDI := Lib.hid (dsor_of k.lim k.len.out ht hdL hdl.out (by rw [← HT.out]; exact hdv))
  have HDLO := Lib.hid (Nat.le_of_lt HDI.out.low)
  have hST := Lib.hid (long_start h.lim h.len.out k.lim k.len.out hmn (by rw [← HT.out]; exact hcv) hcL hcl.out HDI.out ht)
  have htop := HDI.out.top
  have hdt := nth_take (cs := ds) (show m + 1 < m + 2 by omega)
  rw [← hdt] at htop
  clear hdt
  go_wp2_with fail
  go_loopw [11] (DlRel m N (vb 4294967296 xs * 2 ^ (32 - Lib.bitLen (ys.getD (m + 1) 0))) (S 4294967296 (fun t => ds.getD t 0) (m + 2)) w.heap.size w1.heap.size w2.heap.size ds w) (fun i _ => (intOf i + 1).toNat)
  case atStart => exact ⟨N - (m + 2) + 1, cs2, List.replicate (N - (m + 2) + 1) 0, Nat.le_refl _, (by congr 1; omega), hD3, hC3, hQ0, hcL, Lim.zeros _, hcl, (by show _ = _; simp), (hb1.trans (hb2.mono (by omega))).alloc (by omega) _, hST.out⟩
  case round =>
    clear hD1 hC2 hD2 hQ0 hD3 hC3 hST hcv hdv hcl hcL hmk
    obtain ⟨q, cs2, cs3, hq, rfl, hD, hC, hQ, hCL, hQL, hcl, hql, hbw, HI⟩ := hrel
    by_cases h0 : q = 0
    · subst h0
      have hE := Lib.hid (dl_end (Nat.two_pow_pos _) hmn hql.out hcl.out HDI.out.val HI.out)
      have hlt2 := hC.lt
      have hlt3 := hQ.lt
      go_wp2_with fail
      refine (trim_any _ _ _ _ _ _ (hQ.lrdAll hQL hlt3 hql (by omega))).mono ?_
      rintro e w' ⟨t, rfl, ht1, rfl⟩
      go_wp2_with fail
      refine (shr0_any wr wr.heap.size _ (N + 1) _ (32 - Lib.bitLen (nth ys (m + 1)).toNat) _ cs2 (hC.lrdAll hCL hlt2 hcl (by omega)) (Nat.le_refl _) (by omega) (by omega) (by omega)).mono ?_
      rintro e w6 ⟨rs, rfl, hS6, hsl, hsL, hb6, hsv⟩
      have hQ6 := hQ.below hb6 hlt3
      have hlt6 := hS6.lt
      have hlt7 := hQ6.lt
      go_wp2_with fail
      refine (trim_any _ _ _ _ _ _ (hS6.lrdAll hsL hlt6 hsl (by omega))).mono ?_
      rintro e w' ⟨t2, rfl, ht2, rfl⟩
      go_wp2_with fail
      go_ret2
      have e2 : vb 4294967296 rs = vb 4294967296 xs % vb 4294967296 ys := by
        rw [hsv, Nat.pow_zero, Nat.mul_one, HT.out]; exact hE.out.2
      have r1 := trimmed ht1 hql.out hQL
      have r2 := trimmed ht2 hsl.out hsL
      rw [hE.out.1] at r1
      rw [e2] at r2
      have l1 := ht1.le
      have l2 := ht2.le
      exact ⟨_, t, _, _, _, t2, _, _, rfl, hQ6.lrd0 hQL hlt7 (by have := hql.out; omega) (by omega), r1, hS6.lrd0 hsL hlt6 (by have := hsl.out; omega) (by omega), r2, hbw.trans (hb6.mono (by omega))⟩
    · obtain ⟨j, rfl⟩ : ∃ j, q = j + 1 := ⟨q - 1, by omega⟩
      have ej : ((j + 1 : Nat) : Int) - 1 = (j : Int) := by omega
      rw [ej]
      clear ej h0
      have hlt1 := hD.lt
      have hlt2 := hC.lt
      have hlt3 := hQ.lt
      have HW := Lib.hid (dl_window (b := 4294967296) (by decide) (Dig.at_ hCL (by decide) j) HI.out.2.1)
      have hpart := hC.lrd hCL (B := wr.heap.size) (o := j) (n := m + 3) (c := N + 1 - j) hlt2 (by have := hcl.out; omega) (by omega)
      have hdsr := hD.lrd0 hdL (B := wr.heap.size) (n := m + 2) (c := m + 2 + 1) hlt1 (by have := hdl.out; omega) (by omega)
      go_wp2_with fail
      rw [show j + (m + 2) + 1 - j = m + 3 by omega]
      refine (guessLimb_any wr _ _ _ m _ _ _ _ hpart hdsr htop (by rw [win_ext, take_ext]; exact HW.out)).mono ?_
      rw [win_ext, take_ext]
      rintro e w3 ⟨g, rfl, p1, p2, p3, p4, t, rfl⟩
      have P3 := Lib.hid p3
      have P4 := Lib.hid p4
      clear p3 p4 HW hpart hdsr
      have hdsr2 := (hD.drewN t).lrd0 hdL (B := w1.heap.size) (n := m + 2) (c := m + 2 + 1) (by omega) (by have := hdl.out; omega) (by omega)
      go_wp2_with fail
      refine (subtractMultiple_any (wr.drewN t) w1.heap.size w1.heap.size j _ (m + 2) _ _ cs2 _ g (hC.drewN t) hCL hdsr2 (Nat.le_refl _) (by have := hcl.out; omega) ⟨p1, p2⟩ (by omega)).mono ?_
      rintro e w4 ⟨br, cs4, rfl, b0, b1, hC4, hCL4, hg4, hcl4, hout4, hval4⟩
      have HO := Lib.hid hout4
      have HV := Lib.hid hval4
      have HL4 := Lib.hid hcl4
      clear hout4 hval4 hcl4 hdsr2
      have hD4 := (hD.drewN t).grown hg4 (by simp; omega)
      have hQ4 := (hQ.drewN t).grown hg4 (by simp; omega)
      have hb4 := (below_drewN hbw t).grown hg4 (by show _ ≤ wr.heap.size; omega) (fun k hk => by injection hk; omega)
      have hbr : br = 0 ∨ br = 1 := by omega
      rcases hbr with rfl | rfl
      · have f0 : ((0 : Int) != 0) = false := by decide
        have q1 := hQ4.cell (j := j) (by have := hql.out; omega)
        have q2 := hQ4.frozen j
        have ST := Lib.hid (long_right hmn hql.out hq HDLO.out HO.out HI.out HV.out P3.out)
        go_wp2_with fail
        go_roundw
        case rel => exact ⟨j, cs4, _, by omega, rfl, hD4.far (by show _ ≠ w2.heap.size; omega) _, hC4.far (by show _ ≠ w2.heap.size; omega) _, hQ4.put _ p1, hCL4, hQL.set (by omega), HL4.out.trans hcl.out, (by show _ = _; rw [List.length_set]; exact hql.out), hb4.setCell (by show _ ≤ w2.heap.size; omega) _, ST.out⟩
        case measure => first | (simp [intOf]; done) | (simp [intOf]; omega)
      · have f0 : ((1 : Int) != 0) = true := by decide
        have gp := long_gpos hCL4 HV.out
        have hdsr5 := hD4.lrd0 hdL (B := w1.heap.size) (n := m + 2) (c := m + 2 + 1) (by omega) (by have := hdl.out; omega) (by omega)
        go_wp2_with fail
        refine (addBack_any w4 w1.heap.size w1.heap.size j _ (m + 2) _ _ cs4 _ hC4 hCL4 hdsr5 (Nat.le_refl _) (by have := hcl.out; have := HL4.out; omega) (by omega)).mono ?_
        rintro e w5 ⟨cs5, rfl, hC5, hCL5, hg5, hcl5, hout5, hval5⟩
        have ST := Lib.hid (long_wrong hmn hql.out hq HDLO.out hCL4 hCL5 HO.out hout5 HI.out HV.out P4.out hval5)
        have HL5 := Lib.hid hcl5
        clear hcl5 hout5 hval5 hdsr5
        have hlt4 := hC4.lt
        have hlt5 := hQ4.lt
        have hD5 := hD4.grown hg5 (by simp; omega)
        have hQ5 := hQ4.grown hg5 (by simp; omega)
        have hb5 := hb4.grown hg5 (by omega) (fun k hk => by injection hk; omega)
        have q1 := hQ5.cell (j := j) (by have := hql.out; omega)
        have q2 := hQ5.frozen j
        go_wp2_with fail
        go_roundw
        case rel => exact ⟨j, cs5, _, by omega, rfl, hD5.far (by show _ ≠ w2.heap.size; omega) _, hC5.far (by show _ ≠ w2.heap.size; omega) _, hQ5.put _ (by omega), hCL5, hQL.set (by omega), HL5.out.trans (HL4.out.trans hcl.out), (by show _ = _; rw [List.length_set]; exact hql.out), hb5.setCell (by show _ ≤ w2.heap.size; omega) _, ST.out⟩
        case measure => first | (simp [intOf]; done) | (simp [intOf]; omega)
/-- The limbs from k on are divided. -/
def DsIs (n : Nat) (cs : List Nat) (y : Int) (k : Nat) (r : Int) (cs' : List Nat) : Prop :=
  cs'.length = cs.length ∧ (∀ i, i < k → cs'.getD i 0 = cs.getD i 0) ∧ (∀ i, n ≤ i → cs'.getD i 0 = cs.getD i 0) ∧
  S 4294967296 (fun t => cs'.getD (k + t) 0) (n - k) * y.toNat + r.toNat = S 4294967296 (fun t => cs.getD (k + t) 0) (n - k)
theorem ds_nat {b n k y r u v : Nat} {cs cs' : List Nat} (hk : k + 1 ≤ n) (hn : n ≤ cs.length) (hl : cs'.length = cs.length) (h2 : cs'.getD k 0 = cs.getD k 0) (e : u + y * v = r * b + cs'.getD k 0)
    (h4 : S b (fun t => cs'.getD (k + 1 + t) 0) (n - (k + 1)) * y + r = S b (fun t => cs.getD (k + 1 + t) 0) (n - (k + 1))) :
    S b (fun t => (cs'.set k v).getD (k + t) 0) (n - k) * y + u = S b (fun t => cs.getD (k + t) 0) (n - k) := by
  rw [show n - k = (n - (k + 1)) + 1 by omega, S_front, S_front, getD_set _ _ _ _ (by omega), if_pos (by omega)]
  rw [S_ext (f := fun i => (cs'.set k v).getD (k + (i + 1)) 0) (g := fun t => cs'.getD (k + 1 + t) 0) (fun i hi => by rw [getD_set _ _ _ _ (by omega), if_neg (by omega)]; congr 1; omega)]
  rw [S_ext (f := fun i => cs.getD (k + (i + 1)) 0) (g := fun t => cs.getD (k + 1 + t) 0) (fun i hi => by congr 1; omega)]
  simp only [Nat.add_zero]
  rw [← h2, ← h4]
  generalize cs'.getD k 0 = x at *
  clear h2 h4 hl hk hn
  grind
theorem div_nat (a : Nat) (y r : Int) (hr : 0 ≤ r) (hy : 0 < y) (b : Nat) :
    ((r * b + (a : Int)) % y).toNat + y.toNat * ((r * b + (a : Int)) / y).toNat = r.toNat * b + a := by
  obtain ⟨y, rfl⟩ := Int.eq_ofNat_of_zero_le (show 0 ≤ y by omega)
  obtain ⟨r, rfl⟩ := Int.eq_ofNat_of_zero_le hr
  rw [← Int.natCast_mul, ← Int.natCast_add, ← Int.natCast_ediv, ← Int.natCast_emod]
  simp only [Int.toNat_natCast]
  exact Nat.mod_add_div _ _
theorem ds_step {n k : Nat} {cs cs' : List Nat} {y r : Int} (hk : k + 1 ≤ n) (hn : n ≤ cs.length) (hr : 0 ≤ r ∧ r < y) (h : DsIs n cs y (k + 1) r cs') :
    DsIs n cs y k ((r * 4294967296 + nth cs' k) % y) (cs'.set k ((r * 4294967296 + nth cs' k) / y).toNat) := by
  obtain ⟨h1, h2, h3, h4⟩ := h
  refine ⟨by rw [List.length_set, h1], fun i hi => ?_, fun i hi => ?_, ?_⟩
  · rw [getD_set _ _ _ _ (by omega), if_neg (by omega)]; exact h2 i (by omega)
  · rw [getD_set _ _ _ _ (by omega), if_neg (by omega)]; exact h3 i (by omega)
  · have e := div_nat (cs'.getD k 0) y r hr.1 (by omega) 4294967296
    unfold nth
    exact ds_nat hk hn h1 (h2 k (by omega)) e h4
def DsRel (n : Nat) (cs : List Nat) (y : Int) (g : Nat) (w : World) (rest i : Value) (wr : World) : Prop :=
  ∃ (k : Nat) (r : Int) (cs' : List Nat), k ≤ n ∧ i = .int .i64 ((k : Int) - 1) ∧ rest = .int .u32 r ∧ 0 ≤ r ∧ r < y ∧ R32 wr g cs' ∧ Lim cs' ∧ w.grownBy wr (some g) ∧ Hid (DsIs n cs y k r cs')
def DsPost (n : Nat) (cs : List Nat) (y : Int) (g : Nat) (w : World) (e : Ending) (w' : World) : Prop :=
  ∃ (r : Int) (cs' : List Nat), e = .returned (.int .u32 r) ∧ 0 ≤ r ∧ r < y ∧ R32 w' g cs' ∧ Lim cs' ∧ w.grownBy w' (some g) ∧ DsIs n cs y 0 r cs'
theorem quo_lim (hi lo y : Int) (hx : 0 ≤ hi ∧ hi < y) (hc : 0 ≤ lo ∧ lo < 4294967296) : 0 ≤ (hi * 4294967296 + lo) / y ∧ (hi * 4294967296 + lo) / y < 4294967296 :=
  ⟨Int.ediv_nonneg (by omega) (by omega), Int.ediv_lt_of_lt_mul (by omega) (by omega)⟩
theorem rem_lim (hi lo y : Int) (hx : 0 ≤ hi ∧ hi < y) : 0 ≤ (hi * 4294967296 + lo) % y ∧ (hi * 4294967296 + lo) % y < y :=
  ⟨Int.emod_nonneg _ (by omega), Int.emod_lt_of_pos _ (by omega)⟩
theorem divideBySmall_any (w : World) (g n c : Nat) (cs : List Nat) (y : Int) (hR : R32 w g cs) (hL : Lim cs) (hn : n ≤ cs.length) (hy : 0 < y ∧ y < 4294967296) (hc : n ≤ c ∧ c ≤ 9223372036854775807) :
    Calls Tryz.prog 138 #[.slice (some ⟨g, 0, none⟩) n c, .int .u32 y] w (DsPost n cs y g w) := by
  go_enter Tryz.func138, Tryz.ntmps138
  go_wp2_with fail
  go_loopw [5, 6] (DsRel n cs y g w) (fun _ i _ => (intOf i + 1).toNat)
  case atStart => exact ⟨n, 0, cs, Nat.le_refl _, rfl, rfl, by omega, by omega, hR, hL, World.grownBy.refl _ _, ⟨rfl, fun _ _ => rfl, fun _ _ => rfl, by simp [S_zero]⟩⟩
  case round =>
    clear hR hL
    obtain ⟨k, r, cs', hk, rfl, rfl, r0, r1, hR, hL, hg, HD⟩ := hrel
    have hlen := Lib.hid HD.out.1
    by_cases h0 : k = 0
    · subst h0
      go_wp2_with fail
      go_ret
      exact ⟨r, cs', rfl, r0, r1, hR, hL, hg, HD.out⟩
    · obtain ⟨j, rfl⟩ : ∃ j, k = j + 1 := ⟨k - 1, by omega⟩
      have ei : ((j + 1 : Nat) : Int) - 1 = (j : Int) := by omega
      rw [ei]
      clear ei h0
      have g1 := hR.cell (j := j) (by have := hlen.out; omega)
      have g2 := hR.frozen j
      have a1 := nth_nn cs' j
      have a2 := hL.nth j
      have ql := quo_lim r (nth cs' j) y ⟨r0, r1⟩ ⟨a1, a2⟩
      have rl := rem_lim r (nth cs' j) y ⟨r0, r1⟩
      have ST := Lib.hid (ds_step hk hn ⟨r0, r1⟩ HD.out)
      go_wp2_with (go_at_call 150; refine (div32_any _ _ _ _ ⟨r0, r1⟩ hy.2 ⟨a1, a2⟩).mono ?_; rintro e w' ⟨rfl, q, rfl⟩)
      go_roundw
      case rel => exact ⟨j, _, _, by omega, rfl, rfl, rl.1, rl.2, (hR.drewN q).put _ ql.1, hL.set (toNat_lt32 ql.2), grown_set (grown_drewN hg q) _ _, ST.out⟩
      case measure => first | (simp [intOf]; done) | (simp [intOf]; omega)
theorem add_mk (b off j : Nat) : (⟨b, off, none⟩ : Addr).add j = ⟨b, off + j, none⟩ := by
  unfold Addr.add; split
  · rename_i h; subst h; rfl
  · rfl
abbrev limbs (xs : List Nat) : List Value := xs.map fun (x : Nat) => Value.int .u32 (x : Int)
theorem limbs_one (xs : List Nat) : ∀ u ∈ limbs xs, u.oneCell' = true := by
  intro u hu
  obtain ⟨x, _, rfl⟩ := List.mem_map.1 hu
  rfl
theorem LRd.news {w : World} {B b off n c : Nat} {xs : List Nat} (h : LRd w B (some ⟨b, off, none⟩) n c xs) : ∀ j u, (limbs xs)[j]? = some u → w.cell? ((⟨b, off, none⟩ : Addr).add j) = some u := by
  intro j u hu
  rw [add_mk]
  have hj : j < xs.length := by
    rcases Nat.lt_or_ge j xs.length with e | e
    · exact e
    · rw [List.getElem?_eq_none (by simpa using e)] at hu; cases hu
  obtain ⟨b', off', e, _, hc⟩ := h.rd (by have := h.len.out; omega)
  injection e with e; injection e with e1 e2; subst e1; subst e2
  rw [hc j (by have := h.len.out; omega)]
  unfold nth
  rw [List.getElem?_map, List.getElem?_eq_getElem hj] at hu
  show some (Value.int .u32 ((xs.getD j 0 : Nat) : Int)) = some u
  rw [List.getD_eq_getElem?_getD, List.getElem?_eq_getElem hj]
  exact hu
theorem own_empty (w : World) (t : TypeId) : (w.alloc (.cells #[] t)).ownsRow w.heap.size t 1 (.slice (some ⟨w.heap.size, 0, none⟩) 0 0) 0 [] :=
  ⟨rfl, .inr ⟨w.heap.size, 0, #[], rfl, Nat.le_refl _, heap_alloc_new w _, Nat.le_refl _, by decide, rfl, rfl⟩⟩
theorem own_shape {w : World} {base size n : Nat} {t : TypeId} {v : Value} {xs : List Value} (h : w.ownsRow base t size v n xs) : ∃ A c, v = .slice A n c ∧ n ≤ c ∧ c ≤ maxLen := by
  rcases h.2 with ⟨rfl, rfl⟩ | ⟨g, cap, cur, rfl, _, _, h1, h2, _⟩
  · exact ⟨_, _, rfl, Nat.le_refl _, by decide⟩
  · exact ⟨_, _, rfl, h1, h2⟩
/-- A new row with the same limbs; nothing if there are none. -/
def ClonePost (n : Nat) (xs : List Nat) (w : World) (e : Ending) (w' : World) : Prop :=
  ∃ A c, e = .returned (.slice A n c) ∧ n ≤ c ∧ c ≤ 9223372036854775807 ∧ Below w.heap.size w w' ∧ (0 < n → ∃ g, A = some ⟨g, 0, none⟩ ∧ w.heap.size ≤ g ∧ R32 w' g xs)
theorem clone_some (w : World) (ad : Addr) (n c : Nat) (xs : List Nat) (hl : xs.length = n) (hn : n ≤ 1000000000) (hnews : ∀ j u, (limbs xs)[j]? = some u → w.cell? (ad.add j) = some u) (hb : 0 < n → ad.block < w.heap.size) :
    Calls Tryz.prog 76 #[.slice (some ad) n c] w (ClonePost n xs w) := by
  obtain ⟨i0, hi, hz0, hz1, hz2⟩ := info_parts info32
  have heq := fun (w : World) (A : Option Addr) (n c : Nat) => Lib.run_eql_slice_nil (P := Tryz.prog) w 22 95 A n c 0 0 Tryz.underlying22
  have hnews2 : ∀ j u, (limbs xs)[j]? = some u → (w.alloc (.cells #[] 95)).cell? (ad.add j) = some u := fun j u hu => by
    have hj : j < xs.length := by
      rcases Nat.lt_or_ge j xs.length with e | e
      · exact e
      · rw [List.getElem?_eq_none (by simpa using e)] at hu; cases hu
    have := hb (by omega)
    rw [World.cell?_alloc_lt w _ _ (by unfold Addr.add; split <;> exact this)]
    exact hnews j u hu
  have HN := Lib.hid hnews2
  have HL := Lib.hid hl
  clear hnews2 hnews hl
  go_enter Tryz.func76, Tryz.ntmps76
  go_wp2_with (at_builtin; refine wpList_append_own_at _ rfl _ _ 22 rfl w.heap.size 95 i0 (.int .u32 0) 1 4 Tryz.underlying22 hi hz0 hz1 hz2 rfl (by decide) _ 0 [] rfl (own_empty w 95) ad n c (limbs xs) rfl ?c1 HN.out (limbs_one xs) ?c3 ?c4 ?c5 ?_)
  case c1 => rw [List.length_map, HL.out]; omega
  case c3 => unfold maxLen; omega
  case c4 => omega
  case c5 => simp
  intro v' w1 hown hgr _ _
  obtain ⟨A', c', rfl, hc1, hc2⟩ := own_shape hown
  have hbel : Below w.heap.size w w1 := (bl1 w _).grown hgr (by simp) (fun k hk => by simp [Value.ownBlock] at hk; omega)
  go_wp2_with fail
  go_ret
  refine ⟨A', c', rfl, hc1, hc2, hbel, fun h0 => ?_⟩
  obtain ⟨g, e1, e2, e3, _⟩ := R32.of_own hown h0
  exact ⟨g, e1, e2, e3⟩
theorem clone_nil (w : World) (c : Nat) : Calls Tryz.prog 76 #[.slice none 0 c] w (ClonePost 0 [] w) := by
  have heq := fun (w : World) (A : Option Addr) (n c : Nat) => Lib.run_eql_slice_nil (P := Tryz.prog) w 22 95 A n c 0 0 Tryz.underlying22
  go_enter Tryz.func76, Tryz.ntmps76
  go_wp2_with fail
  go_ret
  exact ⟨none, 0, rfl, Nat.le_refl _, by omega, Below.refl _ _, fun h => by omega⟩
theorem clone_any (w : World) (B : Nat) (A : Option Addr) (n c : Nat) (xs : List Nat) (h : LRd w B A n c xs) (hB : B ≤ w.heap.size) (hn : n ≤ 1000000000) :
    Calls Tryz.prog 76 #[.slice A n c] w (ClonePost n xs w) := by
  have hl := h.len.out
  rcases Nat.eq_zero_or_pos n with h0 | h0
  · subst h0
    obtain rfl : xs = [] := List.eq_nil_of_length_eq_zero hl
    cases A with
    | none => exact clone_nil w c
    | some ad => exact clone_some w ad 0 c [] rfl (by omega) (fun j u hu => by simp at hu) (fun h => by omega)
  · obtain ⟨b, off, rfl, hb, hc⟩ := h.rd h0
    exact clone_some w ⟨b, off, none⟩ n c xs hl hn h.news (fun _ => by show b < _; omega)
theorem clone_lrd {n c : Nat} {A : Option Addr} {xs : List Nat} {w w' : World} (hl : xs.length = n) (hx : Lim xs) (h1 : n ≤ c) (h2 : c ≤ 9223372036854775807) (h : 0 < n → ∃ g, A = some ⟨g, 0, none⟩ ∧ w.heap.size ≤ g ∧ R32 w' g xs) : LRd w' w'.heap.size A n c xs := by
  rcases Nat.eq_zero_or_pos n with e | e
  · subst e
    exact ⟨hl, ⟨h1, h2⟩, hx, fun h0 => absurd h0 (by omega)⟩
  · obtain ⟨g, rfl, _, hR⟩ := h e
    exact hR.lrdAll hx hR.lt hl ⟨h1, h2⟩
theorem cmp_val {n m : Nat} {xs ys : List Nat} {r : Int} (h : CmpIs n m xs ys r) (hx : xs.length = n) (hy : ys.length = m) (lx : Lim xs) (ly : Lim ys) (tx : Top xs) (ty : Top ys) :
    (r = -1 ∧ vb 4294967296 xs < vb 4294967296 ys) ∨ (r = 0 ∧ vb 4294967296 xs = vb 4294967296 ys) ∨ (r = 1 ∧ vb 4294967296 ys < vb 4294967296 xs) := by
  rcases h.one with e | e | e
  · left; refine ⟨e, ?_⟩
    rcases h.less e with h1 | ⟨h1, k, h2, h3, h4⟩
    · exact vb_less_len (by decide) lx ty (by omega)
    · have := S_less (b := 4294967296) (f := fun i => xs.getD i 0) (g := fun i => ys.getD i 0) (by decide) h2 (fun j _ => Dig.at_ lx (by decide) j) h3 h4
      unfold vb; rw [hx, hy, ← h1]; exact this
  · right; left; refine ⟨e, ?_⟩
    obtain ⟨h1, h2⟩ := h.same e
    unfold vb; rw [hx, hy, ← h1]; exact S_ext h2
  · right; right; refine ⟨e, ?_⟩
    rcases h.more e with h1 | ⟨h1, k, h2, h3, h4⟩
    · exact vb_less_len (by decide) ly tx (by omega)
    · have := S_less (b := 4294967296) (f := fun i => ys.getD i 0) (g := fun i => xs.getD i 0) (by decide) h2 (fun j _ => Dig.at_ ly (by decide) j) h3 h4
      unfold vb; rw [hx, hy, ← h1]; exact this
theorem compare_any (w : World) (B : Nat) (A D : Option Addr) (n m c d : Nat) (xs ys : List Nat) (h : LRd w B A n c xs) (k : LRd w B D m d ys) :
    Calls Tryz.prog 120 #[.slice A n c, .slice D m d] w (CmpPost n m xs ys w) := by
  by_cases e : n = m
  · subst e; exact compare_same w B A D n c d xs ys h k
  · have h1 := h.cap; have h2 := k.cap
    exact compare_len w A D n m c d xs ys (by omega) (by omega) e
theorem LRd.drewN {w : World} {B n c : Nat} {A : Option Addr} {xs : List Nat} (h : LRd w B A n c xs) (q : Nat) : LRd (w.drewN q) B A n c xs := h.keep (fun _ _ => rfl)
theorem small_vals {n : Nat} {xs cs : List Nat} {y r : Int} (hl : xs.length = n) (h : DsIs n xs y 0 r cs) (h0 : 0 ≤ r) (h1 : r < y) : vb 4294967296 cs = vb 4294967296 xs / y.toNat ∧ r.toNat = vb 4294967296 xs % y.toNat := by
  obtain ⟨a1, _, _, a4⟩ := h
  simp only [Nat.zero_add, Nat.sub_zero] at a4
  have e1 : vb 4294967296 cs = S 4294967296 (fun t => cs.getD t 0) n := by unfold vb; rw [a1, hl]
  have e2 : vb 4294967296 xs = S 4294967296 (fun t => xs.getD t 0) n := by unfold vb; rw [hl]
  rw [← e1, ← e2] at a4
  rw [← a4]
  have hy : 0 < y.toNat := by omega
  constructor
  · rw [Nat.add_comm, Nat.mul_comm, Nat.add_mul_div_left _ _ hy, Nat.div_eq_of_lt (by omega), Nat.zero_add]
  · rw [Nat.add_comm, Nat.mul_comm, Nat.add_mul_mod_self_left, Nat.mod_eq_of_lt (by omega)]
theorem one_row (w : World) (x : Int) (hx : 0 ≤ x) : R32 (w.alloc (.cells #[.int .u32 x] 95)) w.heap.size [x.toNat] := by
  refine ⟨[], ?_⟩
  have e : ((x.toNat : Nat) : Int) = x := Int.toNat_of_nonneg hx
  simp only [List.map_cons, List.map_nil, List.append_nil, e]
  exact Row.new w 95 [.int .u32 x]
theorem one_pos {n : Nat} {xs ys : List Nat} (h : vb 4294967296 ys ≤ vb 4294967296 xs) (ty : Top ys) (hy : ys.length = 1) (hx : xs.length = n) : 0 < n := by
  rcases Nat.eq_zero_or_pos n with e | e
  · exfalso
    subst e
    obtain rfl : xs = [] := List.eq_nil_of_length_eq_zero hx
    have := ty.low (b := 4294967296) hy
    rw [vb_nil] at h
    simp at this
    omega
  · exact e
theorem long_len {n m : Nat} {xs ys : List Nat} (h : vb 4294967296 ys ≤ vb 4294967296 xs) (ty : Top ys) (hy : ys.length = m) (hx : xs.length = n) (lx : Lim xs) : m ≤ n := by
  rcases Nat.lt_or_ge n m with e | e
  · have := vb_less_len (b := 4294967296) (by decide) lx ty (by omega)
    omega
  · exact e
theorem divide_any (w : World) (B : Nat) (A D : Option Addr) (n m c d : Nat) (xs ys : List Nat) (h : LRd w B A n c xs) (k : LRd w B D m d ys) (hB : B ≤ w.heap.size) (hn : n ≤ 1000000) (tx : Top xs) (ty : Top ys) (hm : 0 < m) :
    Calls Tryz.prog 124 #[.slice A n c, .slice D m d] w (GivesQR w (vb 4294967296 xs / vb 4294967296 ys) (vb 4294967296 xs % vb 4294967296 ys)) := by
  have hcap := h.cap
  have hcap2 := k.cap
  go_enter Tryz.func124, Tryz.ntmps124
  go_wp2_with fail
  refine (compare_any w B A D n m c d xs ys h k).mono ?_
  rintro e w1 ⟨r, rfl, hr, q, rfl⟩
  have HR := Lib.hid (cmp_val hr h.len.out k.len.out h.lim k.lim tx ty)
  by_cases hlt : r < 0
  · have HV := Lib.hid (show vb 4294967296 xs < vb 4294967296 ys by have := HR.out; omega)
    go_wp2_with fail
    refine (clone_any (w.drewN q) B A n c xs (h.drewN q) hB (by omega)).mono ?_
    rintro e w2 ⟨A', c', rfl, h1, h2, hb, hg⟩
    have hl := clone_lrd h.len.out h.lim h1 h2 hg
    clear hg
    go_wp2_with fail
    go_ret2
    exact ⟨none, 0, 0, [], A', n, c', xs, rfl, ⟨rfl, by omega, (by intro x hx; cases hx), fun h0 => absurd h0 (by omega)⟩, by rw [Nat.div_eq_of_lt HV.out]; exact ⟨(by intro x hx; cases hx), rfl, Top.nil⟩, hl, ⟨h.lim, (Nat.mod_eq_of_lt HV.out).symm, tx⟩, (below_drewN (Below.refl _ _) q).trans hb⟩
  · have HV := Lib.hid (show vb 4294967296 ys ≤ vb 4294967296 xs by have := HR.out; omega)
    by_cases h1 : m = 1
    · subst h1
      obtain ⟨b', off', rfl, hb', hc'⟩ := k.rd (by omega)
      have g1 := hc' 0 (by omega)
      rw [Nat.add_zero] at g1
      have y1 := nth_nn ys 0
      have y2 := k.lim.nth 0
      have y3 : nth ys 0 ≠ 0 := by have := ty 0 k.len.out; unfold nth; omega
      have hn0 : 0 < n := one_pos HV.out ty k.len.out h.len.out
      clear hc'
      go_wp2_with fail
      refine (clone_any (w.drewN q) B A n c xs (h.drewN q) hB (by omega)).mono ?_
      rintro e w2 ⟨A', c', rfl, h1, h2, hb, hg⟩
      obtain ⟨g, rfl, hgs, hR⟩ := hg hn0
      have hgs' : w.heap.size ≤ g := hgs
      have g2 := (hb.cell (p := ⟨b', off', none⟩) (by show b' < w.heap.size; omega)).trans g1
      have hlen := Lib.hid h.len.out
      clear hgs
      go_wp2_with fail
      refine (divideBySmall_any w2 g n c' xs (nth ys 0) hR h.lim (by have := hlen.out; omega) ⟨by omega, y2⟩ ⟨h1, h2⟩).mono ?_
      rintro e w3 ⟨r, cs, rfl, r0, r1, hR3, hL3, hg3, hd⟩
      have HD := Lib.hid (small_vals hlen.out hd r0 r1)
      have HL := Lib.hid (hd.1.trans hlen.out)
      clear hd
      have hlt3 := hR3.lt
      have hb2 : Below w.heap.size w w2 := (below_drewN (Below.refl _ _) q).trans hb
      have hb3 : Below w.heap.size w w3 := hb2.grown hg3 hb2.size (fun k hk => by injection hk; omega)
      have hs3 := hb3.size
      go_wp2_with fail
      refine (trim_any _ _ _ _ _ _ (hR3.lrdAll hL3 hlt3 HL.out ⟨h1, h2⟩)).mono ?_
      rintro e w' ⟨t, rfl, ht1, rfl⟩
      go_wp2_with fail
      have o1 := one_row w3 r r0
      have o2 : Lim [r.toNat] := by intro x hx; rw [List.mem_singleton] at hx; omega
      refine (trim_any _ _ _ 1 1 [r.toNat] (o1.lrdAll o2 o1.lt rfl (by omega))).mono ?_
      rintro e w' ⟨t2, rfl, ht2, rfl⟩
      go_wp2_with fail
      go_ret2
      have r1' := trimmed ht1 HL.out hL3
      have r2' := trimmed ht2 rfl o2
      have ev : vb 4294967296 ys = (nth ys 0).toNat := by unfold vb nth; rw [k.len.out, S_succ, S_zero]; simp
      rw [HD.out.1, ← ev] at r1'
      have ev2 : vb 4294967296 [r.toNat] = vb 4294967296 xs % vb 4294967296 ys := by rw [vb_one, HD.out.2, ev]
      rw [ev2] at r2'
      have l1 := ht1.le
      have l2 := ht2.le
      have hR4 := hR3.alloc (.cells #[.int .u32 r] 95)
      exact ⟨_, t, _, _, _, t2, _, _, rfl, hR4.lrd0 hL3 hR4.lt (by have := HL.out; omega) (by omega), r1', o1.lrd0 o2 o1.lt l2 (by omega), r2', hb3.alloc hs3 _⟩
    · obtain ⟨j, rfl⟩ : ∃ j, m = j + 2 := ⟨m - 2, by omega⟩
      have hmn := long_len HV.out ty k.len.out h.len.out h.lim
      have htop := Lib.hid (ty (j + 1) k.len.out)
      have f0 : (((j : Int) + 2) == 1) = false := beq_eq_false_iff_ne.2 (by omega)
      clear h1
      go_wp2_with fail
      refine (divideLong_any (w.drewN q) B A D n j c d xs ys (h.drewN q) (k.drewN q) hB hn hmn htop.out).mono ?_
      rintro e w2 ⟨A1, k1, c1, zs, A2, k2, c2, zs2, rfl, l1, r1, l2, r2, hb⟩
      go_wp2_with fail
      go_ret2
      exact ⟨A1, k1, c1, zs, A2, k2, c2, zs2, rfl, l1, r1, l2, r2, (below_drewN (Below.refl _ _) q).trans hb⟩
end Go.Proofs.YtfgkhdpdjclmkaaGreat
