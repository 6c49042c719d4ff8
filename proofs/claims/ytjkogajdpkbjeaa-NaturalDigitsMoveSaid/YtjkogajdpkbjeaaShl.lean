/- Package natural: shiftLeft. -/
import Derived.Test.YtjkogajdpkbjeaaRow32
import Derived.Deep.QuietTactic
import Derived.BigQuiet
import Derived.Deep.RegionWith
namespace Go.Proofs.Ytjkogajdpkbjeaa
open Go.RowKit
set_option maxHeartbeats 400000
set_option maxRecDepth 100000
set_option linter.unusedSimpArgs false
set_option linter.unusedVariables false

def ShlRel (n N W p : Nat) (xs : List Nat) (w : World) (i : Value) (wr : World) : Prop :=
  ∃ (k : Nat) (rs : List Nat), k ≤ n ∧ i = .int .i64 k ∧ R32 wr w.heap.size rs ∧ Hid (rs.length = N) ∧ Lim rs ∧ Below w.heap.size w wr ∧
    Hid ((∀ i, W + k < i → rs.getD i 0 = 0) ∧ rs.getD (W + k) 0 < 2 ^ p ∧ S 4294967296 (fun i => rs.getD i 0) (W + k + 1) = S 4294967296 (fun i => xs.getD i 0) k * (2 ^ p * 4294967296 ^ W))
theorem or_low (r x : Int) (p : Nat) (hr : 0 ≤ r ∧ r < 2 ^ p) (hx : 0 ≤ x) (hp : p < 32) (hr2 : r < 4294967296) : bits .or .u32 r (x * 2 ^ p % 4294967296) = r + x * 2 ^ p % 4294967296 := by
  obtain ⟨r, rfl⟩ := Int.eq_ofNat_of_zero_le hr.1
  obtain ⟨x, rfl⟩ := Int.eq_ofNat_of_zero_le hx
  have e0 : (x : Int) * 2 ^ p = ((x * 2 ^ p : Nat) : Int) := by push_cast; rfl
  have e : (x : Int) * 2 ^ p % 4294967296 = ((x * 2 ^ p % 4294967296 : Nat) : Int) := by rw [e0]; generalize x * 2 ^ p = y; omega
  have hr' : r < 2 ^ p := by
    have h := hr.2
    rw [show (2 : Int) ^ p = ((2 ^ p : Nat) : Int) by push_cast; rfl] at h
    omega
  rw [e, u32_or_nat _ _ (by omega) (by omega)]
  obtain ⟨d, hd⟩ : ∃ d, x * 2 ^ p % 4294967296 = 2 ^ p * d := by
    refine ⟨x % 2 ^ (32 - p), ?_⟩
    have : (4294967296 : Nat) = 2 ^ p * 2 ^ (32 - p) := by rw [← Nat.pow_add, show p + (32 - p) = 32 by omega]
    rw [this, Nat.mul_comm x, Nat.mul_mod_mul_left]
  rw [hd]
  have hk := Nat.two_pow_add_eq_or_of_lt hr' d
  rw [Nat.or_comm, ← hk]
  omega
theorem shl_step {n N W p k : Nat} {xs rs : List Nat} (hrl : rs.length = N) (hN : N = n + W + 1) (hk : k < n) (hX : Lim xs)
    (h : (∀ i, W + k < i → rs.getD i 0 = 0) ∧ rs.getD (W + k) 0 < 2 ^ p ∧ S 4294967296 (fun i => rs.getD i 0) (W + k + 1) = S 4294967296 (fun i => xs.getD i 0) k * (2 ^ p * 4294967296 ^ W)) :
    (∀ i, W + (k + 1) < i → ((rs.set (W + k) (nth rs (W + k) + nth xs k * 2 ^ p % 4294967296).toNat).set (W + k + 1) (nth xs k * 2 ^ p / 4294967296).toNat).getD i 0 = 0) ∧
    ((rs.set (W + k) (nth rs (W + k) + nth xs k * 2 ^ p % 4294967296).toNat).set (W + k + 1) (nth xs k * 2 ^ p / 4294967296).toNat).getD (W + (k + 1)) 0 < 2 ^ p ∧
    S 4294967296 (fun i => ((rs.set (W + k) (nth rs (W + k) + nth xs k * 2 ^ p % 4294967296).toNat).set (W + k + 1) (nth xs k * 2 ^ p / 4294967296).toNat).getD i 0) (W + (k + 1) + 1) = S 4294967296 (fun i => xs.getD i 0) (k + 1) * (2 ^ p * 4294967296 ^ W) := by
  obtain ⟨h1, h2, h3⟩ := h
  have hx : xs.getD k 0 < 4294967296 := Dig.at_ hX (by decide) k
  have e1 : (nth rs (W + k) + nth xs k * 2 ^ p % 4294967296).toNat = rs.getD (W + k) 0 + xs.getD k 0 * 2 ^ p % 4294967296 := by
    unfold nth
    rw [show ((xs.getD k 0 : Nat) : Int) * 2 ^ p = ((xs.getD k 0 * 2 ^ p : Nat) : Int) by push_cast; rfl]
    omega
  have e2 : (nth xs k * 2 ^ p / 4294967296).toNat = xs.getD k 0 * 2 ^ p / 4294967296 := by
    unfold nth
    rw [show ((xs.getD k 0 : Nat) : Int) * 2 ^ p = ((xs.getD k 0 * 2 ^ p : Nat) : Int) by push_cast; rfl]
    omega
  rw [e1, e2]
  have hl : (rs.set (W + k) (rs.getD (W + k) 0 + xs.getD k 0 * 2 ^ p % 4294967296)).length = rs.length := List.length_set
  refine ⟨fun i hi => ?_, ?_, ?_⟩
  · rw [getD_set _ _ _ _ (by omega), if_neg (by omega), getD_set _ _ _ _ (by omega), if_neg (by omega)]; exact h1 i (by omega)
  · rw [getD_set _ _ _ _ (by omega), if_pos (by omega)]
    rw [Nat.div_lt_iff_lt_mul (by decide), Nat.mul_comm]
    exact Nat.mul_lt_mul_of_pos_left hx (Nat.two_pow_pos p)
  · rw [show W + (k + 1) + 1 = (W + k + 1) + 1 by omega, S_succ, getD_set _ _ _ _ (by omega), if_pos rfl, S_succ, getD_set _ _ _ _ (by omega), if_neg (by omega), getD_set _ _ _ _ (by omega), if_pos rfl]
    rw [S_ext (g := fun i => rs.getD i 0) (fun j hj => by rw [getD_set _ _ _ _ (by omega), if_neg (by omega), getD_set _ _ _ _ (by omega), if_neg (by omega)])]
    rw [S_succ] at h3
    rw [S_succ 4294967296 (fun i => xs.getD i 0) k]
    have e := Nat.mod_add_div (xs.getD k 0 * 2 ^ p) 4294967296
    rw [Nat.pow_succ, Nat.pow_add]
    rw [Nat.pow_add] at h3
    generalize S 4294967296 (fun i => xs.getD i 0) k = s2 at *
    generalize xs.getD k 0 * 2 ^ p % 4294967296 = lo at *
    generalize xs.getD k 0 * 2 ^ p / 4294967296 = hi at *
    generalize S 4294967296 (fun i => rs.getD i 0) (W + k) = s1 at *
    generalize rs.getD (W + k) 0 = r at *
    generalize xs.getD k 0 = x at *
    generalize 4294967296 ^ W = P at *
    generalize 4294967296 ^ k = Q at *
    generalize 2 ^ p = R at *
    clear h1 h2 e1 e2 hl hrl hX hx
    grind
def ShlPost (N W p : Nat) (xs : List Nat) (w : World) (e : Ending) (w' : World) : Prop :=
  ∃ rs, e = .returned (.slice (some ⟨w.heap.size, 0, none⟩) N N) ∧ R32 w' w.heap.size rs ∧ Hid (rs.length = N) ∧ Lim rs ∧ Below w.heap.size w w' ∧ vb 4294967296 rs = vb 4294967296 xs * (2 ^ p * 4294967296 ^ W)
theorem nth_pow {xs : List Nat} {j p : Nat} (h : xs.getD j 0 < 2 ^ p) : nth xs j < 2 ^ p := by
  unfold nth
  rw [show (2 : Int) ^ p = ((2 ^ p : Nat) : Int) by push_cast; rfl]
  omega
theorem shl_lo (r x : Int) (p : Nat) (hr : 0 ≤ r ∧ r < 2 ^ p) (hx : 0 ≤ x) (hp : p < 32) : r + x * 2 ^ p % 4294967296 < 4294967296 := by
  have e : x * 2 ^ p % 4294967296 = 2 ^ p * (x % 2 ^ (32 - p)) := by
    have : (4294967296 : Int) = 2 ^ p * 2 ^ (32 - p) := by rw [← Int.pow_add, show p + (32 - p) = 32 by omega]; rfl
    rw [this, Int.mul_comm x, Int.mul_emod_mul_of_pos _ _ (Int.pow_pos (by decide))]
  have h1 : x % 2 ^ (32 - p) < 2 ^ (32 - p) := Int.emod_lt_of_pos _ (Int.pow_pos (by decide))
  have h2 : (2 : Int) ^ p * (x % 2 ^ (32 - p) + 1) ≤ 2 ^ p * 2 ^ (32 - p) := Int.mul_le_mul_of_nonneg_left (by omega) (Int.le_of_lt (Int.pow_pos (by decide)))
  rw [← Int.pow_add, show p + (32 - p) = 32 by omega, Int.mul_add, Int.mul_one] at h2
  rw [e]
  have h3 : (2 : Int) ^ 32 = 4294967296 := by decide
  omega
theorem shl_last {n W p : Nat} {xs rs : List Nat} (hx : xs.length = n) (hrl : rs.length = n + W + 1)
    (h : (∀ i, W + n < i → rs.getD i 0 = 0) ∧ rs.getD (W + n) 0 < 2 ^ p ∧ S 4294967296 (fun i => rs.getD i 0) (W + n + 1) = S 4294967296 (fun i => xs.getD i 0) n * (2 ^ p * 4294967296 ^ W)) :
    vb 4294967296 rs = vb 4294967296 xs * (2 ^ p * 4294967296 ^ W) := by
  unfold vb; rw [hx, hrl, show n + W + 1 = W + n + 1 by omega]; exact h.2.2
theorem shl_prod (x : Int) (p : Nat) (hx : 0 ≤ x ∧ x < 4294967296) (hp : p < 32) : 0 ≤ x * 2 ^ p ∧ x * 2 ^ p ≤ 9223372034707292160 := by
  have h2 : (2 : Int) ^ p ≤ 2147483648 := by
    have h3 : (2 : Nat) ^ p ≤ 2 ^ 31 := Nat.pow_le_pow_right (by decide) (by omega)
    have h4 : ((2 ^ p : Nat) : Int) ≤ ((2 ^ 31 : Nat) : Int) := Int.ofNat_le.2 h3
    rw [Int.natCast_pow] at h4
    exact h4
  have h1 : (0 : Int) ≤ 2 ^ p := Int.pow_nonneg (by decide)
  constructor
  · exact Int.mul_nonneg hx.1 h1
  · have : x * 2 ^ p ≤ 4294967295 * 2147483648 := Int.mul_le_mul (by omega) h2 h1 (by omega)
    omega
theorem shiftLeft_any (w : World) (B : Nat) (A : Option Addr) (n c W p : Nat) (xs : List Nat) (h : LRd w B A n c xs) (hB : B ≤ w.heap.size) (hn : n ≤ 1000000000) (hW : W ≤ 1000000000) (hp : p < 32) :
    Calls Try.prog 54 #[.slice A n c, .int .i64 (32 * (W : Int) + p)] w (ShlPost (n + W + 1) W p xs w) := by
  have hcap := h.cap
  have e1 : (32 * (W : Int) + p) / 32 = W := by omega
  have e2 : (32 * (W : Int) + p) % 32 = p := by omega
  have hmk := mk32 (n + W + 1) (by omega)
  rw [Int.natCast_add, Int.natCast_add, Int.natCast_one] at hmk
  have hr0 := R32.new w (n + W + 1)
  go_enter Try.func54, Try.ntmps54
  go_wp2_with fail
  go_loopw [23] (ShlRel n (n + W + 1) W p xs w) (fun i _ => n - (intOf i).toNat)
  case atStart => exact ⟨0, List.replicate (n + W + 1) 0, Nat.zero_le _, rfl, hr0, (by show _ = _; simp), Lim.zeros _, bl1 _ _, (by refine ⟨fun i _ => replicate_getD _ _, by rw [replicate_getD]; exact Nat.two_pow_pos p, ?_⟩; rw [S_zeros (m := 0) (Nat.zero_le _) (fun j _ _ => replicate_getD _ _)]; simp [S_zero])⟩
  case round =>
    obtain ⟨j, rs, hj, rfl, hR, hrl, hrL, hbw, HS⟩ := hrel
    by_cases hjm : j < n
    · obtain ⟨b, off, rfl, hb, hc⟩ := h.rd (by omega)
      have g1 := (hbw.cell (p := ⟨b, off + j, none⟩) (by show b < _; omega)).trans (hc j (by omega))
      have a1 := nth_nn xs j
      have a2 := h.lim.nth j
      have hlt := hR.lt
      have g2 := hR.cell (j := W + j) (by have := hrl.out; omega)
      have g3 := hR.frozen (W + j)
      have g4 := hR.cell (j := W + j + 1) (by have := hrl.out; omega)
      have g5 := hR.frozen (W + j + 1)
      have hx := shl_prod (nth xs j) p ⟨a1, a2⟩ hp
      have b1 := nth_nn rs (W + j)
      have b2 := hrL.nth (W + j)
      have ho := or_low (nth rs (W + j)) (nth xs j) p ⟨b1, nth_pow HS.out.2.1⟩ a1 hp b2
      have ST := Lib.hid (shl_step hrl.out rfl hjm h.lim HS.out)
      have ly := Lib.hid (shl_lo (nth rs (W + j)) (nth xs j) p ⟨b1, nth_pow HS.out.2.1⟩ a1 hp)
      clear hc
      go_wp2_with fail
      go_roundw
      case rel => exact ⟨j + 1, _, by omega, by go_num, (hR.put _ (by omega)).put _ (by omega), (by show _ = _; rw [List.length_set, List.length_set]; exact hrl.out), (hrL.set (by have := ly.out; omega)).set (by omega), (hbw.setCell (Nat.le_refl _) _).setCell (Nat.le_refl _) _, ST.out⟩
      case measure => simp [intOf]; omega
    · obtain rfl : j = n := by omega
      have hv := Lib.hid (shl_last h.len.out hrl.out HS.out)
      go_wp2_with fail
      go_ret
      exact ⟨rs, rfl, hR, hrl, hrL, hbw, hv.out⟩
end Go.Proofs.Ytjkogajdpkbjeaa
