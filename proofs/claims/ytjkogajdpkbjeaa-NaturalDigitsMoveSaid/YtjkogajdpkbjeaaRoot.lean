/- root: Newton's method. -/
import Derived.Test.YtjkogajdpkbjeaaDivide
import Derived.Test.YtjkogajdpkbjeaaSum
import Derived.Deep.QuietTactic
import Derived.BigQuiet
import Derived.Deep.LoopGhost
namespace Go.Proofs.Ytjkogajdpkbjeaa
open Go.RowKit
set_option maxHeartbeats 400000
set_option maxRecDepth 100000
set_option linter.unusedSimpArgs false
set_option linter.unusedVariables false

theorem isqrt_exists (a : Nat) : ∃ s, s * s ≤ a ∧ a < (s + 1) * (s + 1) := by
  induction a with
  | zero => exact ⟨0, by simp, by simp⟩
  | succ a ih =>
    obtain ⟨s, h1, h2⟩ := ih
    by_cases h : (s + 1) * (s + 1) ≤ a + 1
    · refine ⟨s + 1, h, ?_⟩
      have : (s + 1 + 1) * (s + 1 + 1) = (s + 1) * (s + 1) + 2 * s + 3 := by grind
      omega
    · exact ⟨s, by omega, by omega⟩
theorem newton_low {s c a : Nat} (h : s * s ≤ a) (hc : 0 < c) : s ≤ (c + a / c) / 2 := by
  have h1 : 2 * s ≤ c + a / c := by
    rcases Nat.lt_or_ge (2 * s) c with e | e
    · generalize a / c = t
      omega
    · obtain ⟨d, hd⟩ := Nat.le.dest e
      have h2 : d * c ≤ s * s := by
        rcases Nat.le_total c s with e1 | e1
        · obtain ⟨t, rfl⟩ := Nat.le.dest e1
          have : d = c + 2 * t := by omega
          subst this
          have : (c + t) * (c + t) = (c + 2 * t) * c + t * t := by grind
          omega
        · obtain ⟨t, rfl⟩ := Nat.le.dest e1
          have : d + t = s := by omega
          subst this
          have : (d + t) * (d + t) = d * (d + t + t) + t * t := by grind
          omega
      have h3 : d ≤ a / c := by rw [Nat.le_div_iff_mul_le hc]; omega
      omega
  omega
theorem newton_done {s c a : Nat} (h1 : s * s ≤ a) (h2 : a < (s + 1) * (s + 1)) (hc : 0 < c) (hs : s ≤ c) (h : c ≤ (c + a / c) / 2) : c = s := by
  have h3 : c ≤ a / c := by omega
  rw [Nat.le_div_iff_mul_le hc] at h3
  rcases Nat.lt_or_ge s c with e | e
  · have : (s + 1) * (s + 1) ≤ c * c := Nat.mul_le_mul e e
    omega
  · omega
theorem pow32 (k : Nat) : (4294967296 : Nat) ^ k = 2 ^ (32 * k) := by rw [Nat.pow_mul]
theorem nbits_hi {xs : List Nat} (hx : Lim xs) : vb 4294967296 xs < 2 ^ nbits xs := by
  rcases Nat.eq_zero_or_pos xs.length with e | e
  · obtain rfl : xs = [] := List.eq_nil_of_length_eq_zero e
    exact Nat.two_pow_pos _
  · obtain ⟨m, hm⟩ : ∃ m, xs.length = m + 1 := ⟨xs.length - 1, by omega⟩
    unfold nbits vb
    rw [if_neg (by omega), hm, S_succ, Nat.add_sub_cancel, Nat.pow_add, ← pow32]
    have h1 : S 4294967296 (fun i => xs.getD i 0) m < 4294967296 ^ m := S_lt (by decide) (fun j _ => Dig.at_ hx (by decide) j)
    have h2 := bitLen_hi (Dig.at_ hx (by decide) m)
    have h3 : 4294967296 ^ m * (xs.getD m 0 + 1) ≤ 4294967296 ^ m * 2 ^ Lib.bitLen (xs.getD m 0) := Nat.mul_le_mul_left _ h2
    rw [Nat.mul_add, Nat.mul_one, Nat.mul_comm (4294967296 ^ m) (xs.getD m 0)] at h3
    omega
theorem nbits_lo {xs : List Nat} (hx : Lim xs) (ht : Top xs) (h0 : xs.length ≠ 0) : 2 ^ (nbits xs - 1) ≤ vb 4294967296 xs := by
  obtain ⟨m, hm⟩ : ∃ m, xs.length = m + 1 := ⟨xs.length - 1, by omega⟩
  have h2 := bitLen_lo (ht m hm) (Dig.at_ hx (by decide) m)
  have h3 := bitLen_pos (ht m hm) (by have := Dig.at_ hx (by decide) m; omega)
  unfold nbits vb
  rw [if_neg (by omega), hm, S_succ, Nat.add_sub_cancel, show 32 * m + Lib.bitLen (xs.getD m 0) - 1 = 32 * m + (Lib.bitLen (xs.getD m 0) - 1) by omega, Nat.pow_add, ← pow32, Nat.mul_comm]
  have : 2 ^ (Lib.bitLen (xs.getD m 0) - 1) * 4294967296 ^ m ≤ xs.getD m 0 * 4294967296 ^ m := Nat.mul_le_mul_right _ h2
  omega
theorem nbits_le {xs : List Nat} (hx : Lim xs) : nbits xs ≤ 32 * xs.length := by
  unfold nbits
  split
  · omega
  · have := Lib.bitLen_le (xs.getD (xs.length - 1) 0) 32 (by omega) (by have := Dig.at_ hx (by decide) (xs.length - 1); omega)
    omega
theorem root_pos {xs : List Nat} {n s : Nat} (tx : Top xs) (hl : xs.length = n) (h0 : 0 < n) (h : vb 4294967296 xs < (s + 1) * (s + 1)) : 0 < s := by
  rcases Nat.eq_zero_or_pos s with e | e
  · exfalso
    subst e
    obtain ⟨m, hm⟩ : ∃ m, xs.length = m + 1 := ⟨xs.length - 1, by omega⟩
    have := tx.low (b := 4294967296) hm
    have h2 : 0 < 4294967296 ^ m := Nat.pow_pos (by decide)
    simp at h
    omega
  · exact e
theorem root_start {xs : List Nat} {n s : Nat} (hx : Lim xs) (hl : xs.length = n) (h : s * s ≤ vb 4294967296 xs) : s ≤ 2 ^ ((nbits xs + 1) / 2) ∧ 2 ^ ((nbits xs + 1) / 2) < 4294967296 ^ (n + 1) := by
  have h1 := nbits_hi hx
  have h2 := nbits_le hx
  constructor
  · rcases Nat.lt_or_ge (2 ^ ((nbits xs + 1) / 2)) s with e | e
    · exfalso
      have h3 : 2 ^ ((nbits xs + 1) / 2) * 2 ^ ((nbits xs + 1) / 2) ≤ s * s := Nat.mul_le_mul (by omega) (by omega)
      rw [← Nat.pow_add] at h3
      have h4 : 2 ^ nbits xs ≤ 2 ^ ((nbits xs + 1) / 2 + (nbits xs + 1) / 2) := Nat.pow_le_pow_right (by decide) (by omega)
      omega
    · exact e
  · rw [pow32]
    exact Nat.pow_lt_pow_right (by decide) (by omega)
theorem shlq_any (w : World) (B : Nat) (A : Option Addr) (n c W p : Nat) (q : Int) (xs : List Nat) (h : LRd w B A n c xs) (hB : B ≤ w.heap.size) (hn : n ≤ 1000000000) (hW : W ≤ 1000000000) (hp : p < 32) (hq : q = 32 * (W : Int) + p) (N : Nat) (hN : N = n + W + 1) :
    Calls Try.prog 54 #[.slice A n c, .int .i64 q] w (ShlPost N W p xs w) := by
  subst hq
  subst hN
  exact shiftLeft_any w B A n c W p xs h hB hn hW hp
theorem rep_pos {cs : List Nat} {v k : Nat} (h : Rep 4294967296 cs v) (h0 : 0 < v) (hl : cs.length = k) : 0 < k := by
  rcases Nat.eq_zero_or_pos k with e | e
  · subst e
    obtain rfl : cs = [] := List.eq_nil_of_length_eq_zero hl
    have := h.val
    rw [vb_nil] at this
    omega
  · exact e
theorem quo_len {xs zs : List Nat} {n k q : Nat} (h : Rep 4294967296 zs (vb 4294967296 xs / q)) (hl : zs.length = k) (hx : Lim xs) (hn : xs.length = n) : k ≤ n := by
  rw [← hl]
  refine h.length_le (by decide) (Nat.lt_of_le_of_lt (Nat.div_le_self _ _) ?_)
  rw [← hn]; exact vb_lt (by decide) hx
theorem sum_len {xs zs ss cs : List Nat} {n k v q : Nat} (h : Rep 4294967296 ss (vb 4294967296 cs + vb 4294967296 zs)) (hz : Rep 4294967296 zs (vb 4294967296 xs / q)) (hc : Rep 4294967296 cs v) (hv : v < 4294967296 ^ (n + 1)) (hl : ss.length = k) (hx : Lim xs) (hn : xs.length = n) : k ≤ n + 2 := by
  rw [← hl]
  refine h.length_le (by decide) ?_
  rw [hz.val, hc.val]
  have h1 : vb 4294967296 xs / q ≤ vb 4294967296 xs := Nat.div_le_self _ _
  have h2 : vb 4294967296 xs < 4294967296 ^ n := by rw [← hn]; exact vb_lt (by decide) hx
  have h3 : 4294967296 ^ n ≤ 4294967296 ^ (n + 1) := Nat.pow_le_pow_right (by decide) (by omega)
  have h4 : 4294967296 ^ (n + 1) * 2 ≤ 4294967296 ^ (n + 1) * 4294967296 := Nat.mul_le_mul_left _ (by decide)
  rw [show n + 2 = (n + 1) + 1 by omega, Nat.pow_succ 4294967296 (n + 1)]
  omega
def RootPost (a : Nat) (w : World) (e : Ending) (w' : World) : Prop := ∃ s, s * s ≤ a ∧ a < (s + 1) * (s + 1) ∧ GivesL w s e w'
def RootRel (n s : Nat) (w : World) (v : Nat) (s3 : Value) (wr : World) : Prop :=
  ∃ A k c cs, s3 = .slice A k c ∧ LRd wr wr.heap.size A k c cs ∧ Hid (Rep 4294967296 cs v) ∧ Hid (s ≤ v) ∧ Hid (0 < v) ∧ Hid (v < 4294967296 ^ (n + 1)) ∧ Below w.heap.size w wr

set_option maxHeartbeats 1000000 in
theorem root_any (w : World) (B : Nat) (A : Option Addr) (n c : Nat) (xs : List Nat) (h : LRd w B A n c xs) (hB : B ≤ w.heap.size) (hn : n ≤ 100000) (tx : Top xs) (h0 : 0 < n) :
    Calls Try.prog 55 #[.slice A n c] w (RootPost (vb 4294967296 xs) w) := by
  obtain ⟨s, hs1, hs2⟩ := isqrt_exists (vb 4294967296 xs)
  have HS1 := Lib.hid hs1
  have HS2 := Lib.hid hs2
  have HST := Lib.hid (root_start h.lim h.len.out hs1)
  have HS0 := Lib.hid (root_pos tx h.len.out h0 hs2)
  have hnb := nbits_le h.lim
  have hnl := h.len.out
  have hnb2 : nbits xs ≤ 32 * n := by omega
  have hcap := h.cap
  clear hs1 hs2 hnb hnl
  go_enter Try.func55, Try.ntmps55
  go_wp2_with fail
  refine (countBits_any _ B A n c xs (h.below (bl1 w _) hB) (by omega)).mono ?_
  rintro e w' ⟨rfl, rfl⟩
  have o1 := one_row w 1 (by omega)
  have o2 : Lim [(1 : Int).toNat] := by intro x hx; rw [List.mem_singleton] at hx; subst hx; decide
  have o3 : LRd (w.alloc (.cells #[.int .u32 1] 58)) (w.heap.size + 1) (some ⟨w.heap.size, 0, none⟩) 1 1 [(1 : Int).toNat] := o1.lrdAll o2 (by omega) (by show _ = _; rfl) (by omega)
  obtain ⟨N1, hN1⟩ : ∃ N1, N1 = 1 + (nbits xs + 1) / 2 / 32 + 1 := ⟨_, rfl⟩
  have hN2 : N1 ≤ n + 2 := by omega
  have hsh := shlq_any (w.alloc (.cells #[.int .u32 1] 58)) (w.heap.size + 1) (some ⟨w.heap.size, 0, none⟩) 1 1 ((nbits xs + 1) / 2 / 32) ((nbits xs + 1) / 2 % 32) (((nbits xs : Int) + 1) / 2) [(1 : Int).toNat] o3 (by simp) (by omega) (by omega) (by omega) (by omega) N1 hN1
  have HSH := Lib.hid hsh
  clear hsh hN1
  go_wp2_with fail
  refine HSH.out.mono ?_
  rintro e w1 ⟨rs, rfl, hR, hrl, hrL, hb1, hv1⟩
  have hsz : (w.alloc (.cells #[.int .u32 1] 58)).heap.size = w.heap.size + 1 := by simp
  rw [hsz] at hR hb1
  rw [hsz]
  clear hsz
  have hb0 : Below w.heap.size w w1 := (bl1 w _).trans (hb1.mono (by simp))
  have hz1 := hR.lt
  go_wp2_with fail
  refine (trim_any _ _ _ _ _ _ (hR.lrdAll hrL hz1 hrl (by omega))).mono ?_
  rintro e w' ⟨t, rfl, ht1, rfl⟩
  have HR1 := Lib.hid (trimmed ht1 hrl.out hrL)
  have HV1 := Lib.hid (show vb 4294967296 rs = 2 ^ ((nbits xs + 1) / 2) by
    rw [hv1, vb_one, pow32, ← Nat.pow_add, show (nbits xs + 1) / 2 % 32 + 32 * ((nbits xs + 1) / 2 / 32) = (nbits xs + 1) / 2 by omega]; simp)
  have HL1 := Lib.hid (hR.lrd0 hrL (n := t) (c := N1) hz1 (by have := hrl.out; have := ht1.le; omega) (by have := ht1.le; omega))
  clear hv1 ht1 hR hrL hrl hb1 o1 o2 o3 HSH
  go_wp2_with fail
  go_loopg [3] (2 ^ ((nbits xs + 1) / 2)) (fun v s3 wr => RootRel n s w v s3 wr)
  case atStart => exact ⟨_, _, _, _, rfl, HL1.out, by rw [← HV1.out]; exact HR1.out, HST.out.1, Nat.two_pow_pos _, HST.out.2, hb0⟩
  case round =>
    clear HR1 HV1 HL1 hb0 hz1
    obtain ⟨A2, k, c2, cs, rfl, hC, hRep, hsv, hv0, hvB, hbw⟩ := hrel
    have hk0 : 0 < k := rep_pos hRep.out hv0.out hC.len.out
    have hkn : k ≤ n + 1 := by have := hRep.out.length_le (by decide) hvB.out; have := hC.len.out; omega
    have hcap2 := hC.cap
    have hsz := hbw.size
    go_wp2_with fail
    refine (divide_any wr wr.heap.size A A2 n k c c2 xs cs ((h.below hbw hB).more (by omega)) hC (Nat.le_refl _) (by omega) tx hRep.out.top hk0).mono ?_
    rintro e w3 ⟨A3, k3, c3, zs, A4, k4, c4, zs4, rfl, hQ, hQr, _, _, hb3⟩
    have HQ := Lib.hid hQr
    clear hQr
    have hC3 := hC.below hb3 (Nat.le_refl _)
    have hk3 : k3 ≤ n := quo_len HQ.out hQ.len.out h.lim h.len.out
    have hsz3 := hb3.size
    go_wp2_with fail
    refine (sum_any w3 w3.heap.size A2 A3 k k3 c2 c3 cs zs (hC3.more (by omega)) hQ (Nat.le_refl _) (by omega) (by omega)).mono ?_
    rintro e w5 ⟨A5, k5, c5, ss, rfl, hS, hSr, hb5⟩
    have HSr := Lib.hid hSr
    have hC5 := (hC3.more (by omega)).below hb5 (Nat.le_refl _)
    have hk5 : k5 ≤ n + 2 := sum_len HSr.out HQ.out hRep.out hvB.out hS.len.out h.lim h.len.out
    have hsz5 := hb5.size
    clear hSr
    go_wp2_with fail
    refine (shr0_any w5 w5.heap.size A5 k5 c5 1 1 ss hS (Nat.le_refl _) (by omega) (by omega) rfl).mono ?_
    rintro e w6 ⟨ns, rfl, hN6, hnl6, hnL6, hb6, hv6⟩
    have hz6 := hN6.lt
    have hC6 := (hC5.more (by omega)).below hb6 (Nat.le_refl _)
    have HV6 := Lib.hid (show vb 4294967296 ns = (gk + vb 4294967296 xs / gk) / 2 by rw [hv6, HSr.out.val, HQ.out.val, hRep.out.val])
    clear hv6
    go_wp2_with fail
    refine (trim_any _ _ _ _ _ _ (hN6.lrdAll hnL6 hz6 hnl6 (by omega))).mono ?_
    rintro e w' ⟨t6, rfl, ht6, rfl⟩
    have HR6 := Lib.hid (trimmed ht6 hnl6.out hnL6)
    have hNL := hN6.lrd0 hnL6 (B := w6.heap.size) (n := t6) (c := k5 - 0) hz6 (by have := hnl6.out; have := ht6.le; omega) (by have := ht6.le; omega)
    clear ht6
    go_wp2_with fail
    refine (compare_any w6 w6.heap.size _ A2 t6 k _ c2 _ cs hNL (hC6.more (by omega))).mono ?_
    rintro e w7 ⟨r, rfl, hr, q, rfl⟩
    have HC := Lib.hid (cmp_val hr hNL.len.out hC6.len.out hNL.lim hC6.lim HR6.out.top hRep.out.top)
    clear hr
    have hNL7 := hNL.drewN q
    have hC7 := (hC6.more (Nat.le_of_lt (by have := hb6.size; omega))).drewN q
    have hb7 : Below w.heap.size w (w6.drewN q) := below_drewN (((hbw.trans (hb3.mono (by omega))).trans (hb5.mono (by omega))).trans (hb6.mono (by omega))) q
    have hvt := Lib.hid HR6.out.val
    by_cases hr0 : 0 ≤ r
    · have HE := Lib.hid (show gk = s from newton_done HS1.out HS2.out hv0.out hsv.out (by rw [← HV6.out]; have := HC.out; rw [hvt.out, hRep.out.val] at this; omega))
      go_wp2_with fail
      go_ret
      exact ⟨s, HS1.out, HS2.out, A2, k, c2, cs, rfl, hC7, by rw [← HE.out]; exact hRep.out, hb7⟩
    · have hlt := Lib.hid (show vb 4294967296 ns < gk by have := HC.out; rw [hvt.out, hRep.out.val] at this; omega)
      have hsl := Lib.hid (show s ≤ vb 4294967296 ns by rw [HV6.out]; exact newton_low HS1.out hv0.out)
      go_wp2_with fail
      go_roundg (vb 4294967296 ns)
      case measure => exact hlt.out
      case rel => exact ⟨_, t6, _, _, rfl, hNL7, HR6.out, hsl.out, Nat.lt_of_lt_of_le HS0.out hsl.out, Nat.lt_trans hlt.out hvB.out, hb7⟩
end Go.Proofs.Ytjkogajdpkbjeaa
