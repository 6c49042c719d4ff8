/- Package natural: shiftRight. -/
import Derived.Test.YtjkogajdpkbjeaaRow32
import Derived.Deep.QuietTactic
import Derived.BigQuiet
import Derived.Deep.RegionWith
namespace Go.Proofs.Ytjkogajdpkbjeaa
open Go.RowKit
set_option maxHeartbeats 400000
set_option maxRecDepth 100000
set_option linter.unusedSimpArgs false
set_option linter.unusedVariables false

def ShrRel (n W p : Nat) (xs : List Nat) (w : World) (ab i : Value) (wr : World) : Prop :=
  ∃ (k : Nat) (rs : List Nat), k + W ≤ n ∧ i = .int .i64 ((k : Int) + W - 1) ∧ ab = .int .u32 (nth xs (k + W)) ∧ R32 wr w.heap.size rs ∧ Hid (rs.length = n - W) ∧ Lim rs ∧ Below w.heap.size w wr ∧
    Hid (S 4294967296 (fun t => rs.getD (k + t) 0) (n - W - k) = S 4294967296 (fun t => xs.getD (k + W + t) 0) (n - W - k) / 2 ^ p)
theorem shr_core (q c x Y : Nat) (hq : 0 < q) (hx : x < q * c) : (x + q * c * Y) / q = (Y % (q * c) * (q * c) + x) / q % (q * c) + q * c * (Y / q) := by
  have hc : 0 < q * c := by omega
  have k1 : Y % q + q * (Y / q) = Y := Nat.mod_add_div Y q
  have k2 : Y % (q * c) % q = Y % q := Nat.mod_mul_right_mod Y q c
  have k3 : Y % (q * c) % q + q * (Y % (q * c) / q) = Y % (q * c) := Nat.mod_add_div _ q
  rw [k2] at k3
  have hv : Y % q < q := Nat.mod_lt _ hq
  generalize Y % (q * c) / q = u at *
  generalize Y / q = z at *
  generalize Y % q = v at *
  rw [← k3, ← k1]
  have e1 : x + q * c * (v + q * z) = (x + q * c * v) + q * (q * c * z) := by grind
  have e2 : (v + q * u) * (q * c) + x = (x + q * c * v) + q * (q * c * u) := by grind
  rw [e1, e2, Nat.add_mul_div_left _ _ hq, Nat.add_mul_div_left _ _ hq, Nat.add_mul_mod_self_left]
  have h1 : (x + q * c * v) / q < q * c := by
    rw [Nat.div_lt_iff_lt_mul hq]
    have : q * c * (v + 1) ≤ q * c * q := Nat.mul_le_mul_left _ hv
    rw [Nat.mul_add, Nat.mul_one] at this
    omega
  rw [Nat.mod_eq_of_lt h1]
theorem shr_nat {b q c n W j : Nat} {xs rs : List Nat} (hb : b = q * c) (hq : 0 < q) (h1b : 0 < b) (hx : xs.length = n) (hrl : rs.length = n - W) (hj : j + 1 + W ≤ n) (hX : Dig b xs)
    (h : S b (fun t => rs.getD (j + 1 + t) 0) (n - W - (j + 1)) = S b (fun t => xs.getD (j + 1 + W + t) 0) (n - W - (j + 1)) / q) :
    S b (fun t => (rs.set j ((xs.getD (j + 1 + W) 0 * b + xs.getD (j + W) 0) / q % b)).getD (j + t) 0) (n - W - j) = S b (fun t => xs.getD (j + W + t) 0) (n - W - j) / q := by
  have hx0 : xs.getD (j + W) 0 < b := Dig.at_ hX h1b _
  have hx1 : xs.getD (j + 1 + W) 0 < b := Dig.at_ hX h1b _
  rw [show n - W - j = (n - W - (j + 1)) + 1 by omega, S_front, S_front]
  have hm : xs.getD (j + 1 + W) 0 = S b (fun t => xs.getD (j + 1 + W + t) 0) (n - W - (j + 1)) % b := by
    rcases Nat.eq_zero_or_pos (n - W - (j + 1)) with h0 | h0
    · rw [h0, S_zero, getD_none (by omega), Nat.zero_mod]
    · obtain ⟨t, ht⟩ : ∃ t, n - W - (j + 1) = t + 1 := ⟨n - W - (j + 1) - 1, by omega⟩
      rw [ht, S_front, Nat.add_mul_mod_self_left]
      exact (Nat.mod_eq_of_lt hx1).symm
  rw [S_ext (f := fun i => (rs.set j ((xs.getD (j + 1 + W) 0 * b + xs.getD (j + W) 0) / q % b)).getD (j + (i + 1)) 0) (g := fun t => rs.getD (j + 1 + t) 0) (fun i hi => by rw [getD_set _ _ _ _ (by omega), if_neg (by omega)]; congr 1; omega)]
  rw [S_ext (f := fun i => xs.getD (j + W + (i + 1)) 0) (g := fun t => xs.getD (j + 1 + W + t) 0) (fun i hi => by congr 1; omega)]
  rw [h, getD_set _ _ _ _ (by omega), if_pos (by omega), hm, Nat.add_zero]
  subst hb
  exact (shr_core q c _ _ hq hx0).symm
theorem shr_val (x y p : Nat) (b : Nat) : ((((x : Int) * b + (y : Int)) / 2 ^ p) % b).toNat = (x * b + y) / 2 ^ p % b := by
  rw [show (2 : Int) ^ p = ((2 ^ p : Nat) : Int) by push_cast; rfl, ← Int.natCast_mul, ← Int.natCast_add, ← Int.natCast_ediv, ← Int.natCast_emod, Int.toNat_natCast]
theorem shr_step {n W p j : Nat} {xs rs : List Nat} (hx : xs.length = n) (hrl : rs.length = n - W) (hj : j + 1 + W ≤ n) (hX : Lim xs) (hp : p < 32)
    (h : S 4294967296 (fun t => rs.getD (j + 1 + t) 0) (n - W - (j + 1)) = S 4294967296 (fun t => xs.getD (j + 1 + W + t) 0) (n - W - (j + 1)) / 2 ^ p) :
    S 4294967296 (fun t => (rs.set j ((nth xs (j + 1 + W) * 4294967296 + nth xs (j + W)) / 2 ^ p % 4294967296).toNat).getD (j + t) 0) (n - W - j) = S 4294967296 (fun t => xs.getD (j + W + t) 0) (n - W - j) / 2 ^ p := by
  have hB : (4294967296 : Nat) = 2 ^ p * 2 ^ (32 - p) := by rw [← Nat.pow_add, show p + (32 - p) = 32 by omega]
  have e := shr_val (xs.getD (j + 1 + W) 0) (xs.getD (j + W) 0) p 4294967296
  unfold nth
  have k := shr_nat hB (Nat.two_pow_pos p) (by decide) hx hrl hj hX h
  rw [← e] at k
  exact k
theorem shr_last {n W p : Nat} {xs rs : List Nat} (hx : xs.length = n) (hW : W ≤ n) (hX : Lim xs) (hrl : rs.length = n - W)
    (h : S 4294967296 (fun t => rs.getD (0 + t) 0) (n - W - 0) = S 4294967296 (fun t => xs.getD (0 + W + t) 0) (n - W - 0) / 2 ^ p) : vb 4294967296 rs = vb 4294967296 xs / (2 ^ p * 4294967296 ^ W) := by
  simp only [Nat.zero_add, Nat.sub_zero] at h
  have e : vb 4294967296 xs = S 4294967296 (fun i => xs.getD i 0) W + 4294967296 ^ W * S 4294967296 (fun t => xs.getD (W + t) 0) (n - W) := by
    rw [← S_add, show W + (n - W) = n by omega]; unfold vb; rw [hx]
  have hl : S 4294967296 (fun i => xs.getD i 0) W < 4294967296 ^ W := S_lt (by decide) (fun j _ => Dig.at_ hX (by decide) j)
  rw [e, Nat.mul_comm (2 ^ p), ← Nat.div_div_eq_div_mul, Nat.add_mul_div_left _ _ (Nat.pow_pos (by decide)), Nat.div_eq_of_lt hl, Nat.zero_add, ← h]
  unfold vb; rw [hrl]
def ShrPost (n W p : Nat) (xs : List Nat) (w : World) (e : Ending) (w' : World) : Prop :=
  ∃ rs, e = .returned (.slice (some ⟨w.heap.size, 0, none⟩) (n - W) (n - W)) ∧ R32 w' w.heap.size rs ∧ Hid (rs.length = n - W) ∧ Lim rs ∧ Below w.heap.size w w' ∧ vb 4294967296 rs = vb 4294967296 xs / (2 ^ p * 4294967296 ^ W)
theorem shiftRight_any (w : World) (B : Nat) (A : Option Addr) (n c W p : Nat) (xs : List Nat) (h : LRd w B A n c xs) (hB : B ≤ w.heap.size) (hn : n ≤ 1000000000) (hW : W ≤ n) (hp : p < 32) :
    Calls Try.prog 53 #[.slice A n c, .int .i64 (32 * (W : Int) + p)] w (ShrPost n W p xs w) := by
  have hcap := h.cap
  have e1 : (32 * (W : Int) + p) / 32 = W := by omega
  have e2 : (32 * (W : Int) + p) % 32 = p := by omega
  have hmk := mk32 (n - W) (by omega)
  rw [Int.ofNat_sub hW] at hmk
  have hr0 := R32.new w (n - W)
  go_enter Try.func53, Try.ntmps53
  go_wp2_with fail
  go_loopw [8, 9] (ShrRel n W p xs w) (fun _ i _ => (intOf i - W + 1).toNat)
  case atStart => exact ⟨n - W, List.replicate (n - W) 0, by omega, (by congr 1; omega), (by congr 1; unfold nth; rw [getD_none (by have := h.len.out; omega)]; rfl), hr0, (by show _ = _; simp), Lim.zeros _, bl1 _ _, (by show _ = _; rw [Nat.sub_self, S_zero, S_zero, Nat.zero_div])⟩
  case round =>
    obtain ⟨k, rs, hk, rfl, rfl, hR, hrl, hrL, hbw, HS⟩ := hrel
    by_cases h0 : k = 0
    · subst h0
      have hv := Lib.hid (shr_last h.len.out hW h.lim hrl.out HS.out)
      go_wp2_with fail
      go_ret
      exact ⟨rs, rfl, hR, hrl, hrL, hbw, hv.out⟩
    · obtain ⟨j, rfl⟩ : ∃ j, k = j + 1 := ⟨k - 1, by omega⟩
      obtain ⟨b, off, rfl, hb, hc⟩ := h.rd (by omega)
      have g1 := (hbw.cell (p := ⟨b, off + (j + W), none⟩) (by show b < _; omega)).trans (hc (j + W) (by omega))
      have a1 := nth_nn xs (j + W)
      have a2 := h.lim.nth (j + W)
      have a3 := nth_nn xs (j + 1 + W)
      have a4 := h.lim.nth (j + 1 + W)
      have hlt := hR.lt
      have g2 := hR.cell (j := j) (by have := hrl.out; omega)
      have g3 := hR.frozen j
      have ho := join_bits (nth xs (j + 1 + W)) (nth xs (j + W)) ⟨a3, a4⟩ ⟨a1, a2⟩
      have ST := Lib.hid (shr_step h.len.out hrl.out hk h.lim hp HS.out)
      clear hc h0
      go_wp2_with fail
      go_roundw
      case rel => exact ⟨j, _, by omega, (by congr 1; omega), rfl, hR.put _ (Int.emod_nonneg _ (by omega)), (by show _ = _; rw [List.length_set]; exact hrl.out), hrL.set (mod_toNat_lt _), hbw.setCell (Nat.le_refl _) _, ST.out⟩
      case measure => simp [intOf]; omega
end Go.Proofs.Ytjkogajdpkbjeaa
