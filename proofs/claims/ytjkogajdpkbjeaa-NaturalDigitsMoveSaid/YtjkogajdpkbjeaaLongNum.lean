/- divideLong: the numbers. -/
import Derived.Test.YtjkogajdpkbjeaaVal
import Derived.Test.YtjkogajdpkbjeaaWords
import Derived.Lib.BitFns
namespace Go.Proofs.Ytjkogajdpkbjeaa
open Go.RowKit
set_option maxHeartbeats 400000
set_option maxRecDepth 100000
set_option linter.unusedSimpArgs false
set_option linter.unusedVariables false

theorem bitLen_pos {x : Nat} (h0 : x ≠ 0) (hx : x < 2 ^ 64) : 1 ≤ Lib.bitLen x := by rw [Lib.bitLen_half x h0 hx]; omega
theorem bitLen_gt {k x : Nat} (h : 2 ^ k ≤ x) (hx : x < 2 ^ 64) : k + 1 ≤ Lib.bitLen x := by
  rw [Lib.bitLen_shift k x h hx]
  have h1 : x / 2 ^ k ≠ 0 := by
    have := Nat.div_pos h (Nat.two_pow_pos k)
    omega
  have h2 : x / 2 ^ k < 2 ^ 64 := Nat.lt_of_le_of_lt (Nat.div_le_self _ _) hx
  have := bitLen_pos h1 h2
  omega
theorem bitLen_hi {x : Nat} (hx : x < 4294967296) : x < 2 ^ Lib.bitLen x := by
  rcases Nat.lt_or_ge x (2 ^ Lib.bitLen x) with e | e
  · exact e
  · have := bitLen_gt e (by omega); omega
theorem bitLen_lo {x : Nat} (h0 : x ≠ 0) (hx : x < 4294967296) : 2 ^ (Lib.bitLen x - 1) ≤ x := by
  have h1 := bitLen_pos h0 (show x < 2 ^ 64 by omega)
  rcases Nat.lt_or_ge x (2 ^ (Lib.bitLen x - 1)) with e | e
  · have h2 : Lib.bitLen x ≤ 32 := Lib.bitLen_le x 32 (by omega) (by omega)
    have := Lib.bitLen_le x (Lib.bitLen x - 1) (by omega) e
    omega
  · exact e
/-- Shifted so, the top limb has its highest bit. -/
theorem lz_range {x : Nat} (h0 : x ≠ 0) (hx : x < 4294967296) : 2147483648 ≤ x * 2 ^ (32 - Lib.bitLen x) ∧ (x + 1) * 2 ^ (32 - Lib.bitLen x) ≤ 4294967296 := by
  have h1 := bitLen_hi hx
  have h2 := bitLen_lo h0 hx
  have h3 := bitLen_pos h0 (show x < 2 ^ 64 by omega)
  have h4 : Lib.bitLen x ≤ 32 := Lib.bitLen_le x 32 (by omega) (by omega)
  have e1 : (2 : Nat) ^ (Lib.bitLen x - 1) * 2 ^ (32 - Lib.bitLen x) = 2147483648 := by rw [← Nat.pow_add, show Lib.bitLen x - 1 + (32 - Lib.bitLen x) = 31 by omega]
  have e2 : (2 : Nat) ^ Lib.bitLen x * 2 ^ (32 - Lib.bitLen x) = 4294967296 := by rw [← Nat.pow_add, show Lib.bitLen x + (32 - Lib.bitLen x) = 32 by omega]
  constructor
  · rw [← e1]; exact Nat.mul_le_mul_right _ h2
  · rw [← e2]; exact Nat.mul_le_mul_right _ h1
theorem dsor_num {b P y E s d2 D t d1 h : Nat} (hP : 0 < P) (hv : D + d2 * (b * P) = (s + y * P) * E) (hs : s < P) (h2 : (y + 1) * E ≤ b) (hE : 0 < E) (hD : D = t + d1 * P) (ht : t < P) (h1 : h ≤ y * E) :
    d2 = 0 ∧ D = (s + y * P) * E ∧ D < b * P ∧ h ≤ d1 := by
  have a1 : (s + y * P + 1) * E ≤ (y + 1) * P * E := Nat.mul_le_mul_right _ (by rw [Nat.add_mul, Nat.one_mul]; omega)
  have a2 : (y + 1) * E * P ≤ b * P := Nat.mul_le_mul_right _ h2
  have a3 : (y + 1) * P * E = (y + 1) * E * P := by grind
  have a4 : (s + y * P + 1) * E = (s + y * P) * E + E := by grind
  have hd2 : d2 = 0 := by
    rcases Nat.eq_zero_or_pos d2 with e | e
    · exact e
    · have : 1 * (b * P) ≤ d2 * (b * P) := Nat.mul_le_mul_right _ e
      omega
  subst hd2
  rw [Nat.zero_mul, Nat.add_zero] at hv
  refine ⟨rfl, hv, by omega, ?_⟩
  have a5 : h * P ≤ y * E * P := Nat.mul_le_mul_right _ h1
  have a6 : (s + y * P) * E = s * E + y * E * P := by grind
  have a7 : h * P < (d1 + 1) * P := by rw [Nat.add_mul, Nat.one_mul]; omega
  have := Nat.lt_of_mul_lt_mul_right a7
  omega

/-- The limbs of the quotient from k on are found; what is left of R lies in cs2. -/
def DlIs (b n N R D k : Nat) (cs2 cs3 : List Nat) : Prop :=
  (∀ j, k + n ≤ j → cs2.getD j 0 = 0) ∧ S b (fun t => cs2.getD (k + t) 0) n < D ∧
  R = S b (fun t => cs3.getD (k + t) 0) (N - n + 1 - k) * b ^ k * D + S b (fun t => cs2.getD t 0) (N + 1)
theorem dl_low {b n N i : Nat} {cs : List Nat} (hi : i + n ≤ N) (hz : ∀ j, i + n + 1 ≤ j → cs.getD j 0 = 0) :
    S b (fun t => cs.getD t 0) (N + 1) = S b (fun t => cs.getD t 0) i + b ^ i * S b (fun t => cs.getD (i + t) 0) (n + 1) := by
  rw [show N + 1 = i + (N + 1 - i) by omega, S_add, S_zeros (f := fun t => cs.getD (i + t) 0) (m := n + 1) (by omega) (fun j h1 _ => hz _ (by omega))]
theorem dl_core {b n N i q R D : Nat} {cs2 cs cs3 : List Nat} (h3l : cs3.length = N - n + 1) (hi : i + n ≤ N) (hDb : D ≤ b ^ n)
    (out : ∀ j, j < i ∨ i + n + 1 ≤ j → cs.getD j 0 = cs2.getD j 0) (h : DlIs b n N R D (i + 1) cs2 cs3)
    (hU : S b (fun t => cs2.getD (i + t) 0) (n + 1) = q * D + S b (fun t => cs.getD (i + t) 0) (n + 1)) (hlt : S b (fun t => cs.getD (i + t) 0) (n + 1) < D) : DlIs b n N R D i cs (cs3.set i q) := by
  obtain ⟨h1, h2, h3⟩ := h
  have hz : ∀ j, i + n + 1 ≤ j → cs2.getD j 0 = 0 := fun j hj => h1 j (by omega)
  have hz' : ∀ j, i + n + 1 ≤ j → cs.getD j 0 = 0 := fun j hj => by rw [out j (by omega)]; exact hz j hj
  have htop : cs.getD (i + n) 0 = 0 := by
    rw [S_succ] at hlt
    rcases Nat.eq_zero_or_pos (cs.getD (i + n) 0) with e | e
    · exact e
    · have : 1 * b ^ n ≤ cs.getD (i + n) 0 * b ^ n := Nat.mul_le_mul_right _ e
      omega
  refine ⟨fun j hj => ?_, ?_, ?_⟩
  · rcases Nat.eq_or_lt_of_le hj with e | e
    · rw [← e]; exact htop
    · exact hz' j e
  · have := S_mono (b := b) (f := fun t => cs.getD (i + t) 0) (show n ≤ n + 1 by omega); omega
  · rw [h3, dl_low hi hz, dl_low hi hz', hU, S_ext (f := fun t => cs.getD t 0) (g := fun t => cs2.getD t 0) (k := i) (fun j hj => out j (by omega))]
    rw [show N - n + 1 - i = (N - n + 1 - (i + 1)) + 1 by omega, S_front b (fun t => (cs3.set i q).getD (i + t) 0), getD_set _ _ _ _ (by omega), if_pos (by omega)]
    rw [S_ext (f := fun t => (cs3.set i q).getD (i + (t + 1)) 0) (g := fun t => cs3.getD (i + 1 + t) 0) (fun t _ => by rw [getD_set _ _ _ _ (by omega), if_neg (by omega)]; congr 1; omega)]
    rw [Nat.pow_succ]
    generalize S b (fun t => cs3.getD (i + 1 + t) 0) (N - n + 1 - (i + 1)) = s1
    generalize S b (fun t => cs.getD (i + t) 0) (n + 1) = s2
    generalize S b (fun t => cs2.getD t 0) i = s3
    generalize b ^ i = P
    clear h1 h2 h3 hz hz' hU hlt out
    grind
theorem dl_window {b n i D : Nat} {cs2 : List Nat} (hb : 0 < b) (hd : cs2.getD i 0 < b) (h2 : S b (fun t => cs2.getD (i + 1 + t) 0) n < D) : S b (fun t => cs2.getD (i + t) 0) (n + 1) < b * D := by
  rw [S_front]
  rw [S_ext (f := fun t => cs2.getD (i + (t + 1)) 0) (g := fun t => cs2.getD (i + 1 + t) 0) (fun t _ => by congr 1; omega)]
  have h3 : b * (S b (fun t => cs2.getD (i + 1 + t) 0) n + 1) ≤ b * D := Nat.mul_le_mul_left b h2
  rw [Nat.mul_add, Nat.mul_one] at h3
  have h4 : cs2.getD (i + 0) 0 = cs2.getD i 0 := rfl
  omega
/-- No borrow: the guess was right. -/
theorem dl_right {b n g D U W : Nat} (e : W + g * D = U + 0 * b ^ (n + 1)) (h : U < (g + 1) * D) : U = g * D + W ∧ W < D := by
  rw [Nat.zero_mul, Nat.add_zero] at e
  rw [Nat.add_mul, Nat.one_mul] at h
  omega
/-- A borrow: the guess was 1 too large. -/
theorem dl_wrong {b n g D U W V : Nat} (hb : 0 < b) (e : W + g * D = U + 1 * b ^ (n + 1)) (hW : W < b ^ (n + 1)) (hV : V < b ^ (n + 1)) (hD : D ≤ b ^ n) (hg : g * D ≤ U + D) (hv : V % b ^ (n + 1) = (W + D) % b ^ (n + 1)) :
    U = (g - 1) * D + V ∧ V < D ∧ 0 < g := by
  have hp : b ^ n ≤ b ^ (n + 1) := Nat.pow_le_pow_right hb (by omega)
  rw [Nat.one_mul] at e
  have h1 : U < g * D := by omega
  have h0 : 0 < g := by
    rcases Nat.eq_zero_or_pos g with e0 | e0
    · subst e0; omega
    · exact e0
  obtain ⟨k, rfl⟩ : ∃ k, g = k + 1 := ⟨g - 1, by omega⟩
  rw [Nat.add_mul, Nat.one_mul] at *
  rw [Nat.add_sub_cancel, Nat.mod_eq_of_lt hV, show W + D = (U - k * D) + b ^ (n + 1) by omega, Nat.add_mod_right, Nat.mod_eq_of_lt (by omega)] at *
  omega
theorem dl_start {b n N R D : Nat} {cs2 cs3 : List Nat} (hb : 0 < b) (hn : n ≤ N) (hl : cs2.length = N + 1) (hd : Dig b cs2) (hz : ∀ j, cs3.getD j 0 = 0) (hR : vb b cs2 = R) (hlow : R < D * b ^ (N - n + 1)) : DlIs b n N R D (N - n + 1) cs2 cs3 := by
  have e : vb b cs2 = S b (fun t => cs2.getD t 0) (N + 1) := by unfold vb; rw [hl]
  refine ⟨fun j hj => getD_none (by omega), ?_, ?_⟩
  · rw [← hR, e, show N + 1 = (N - n + 1) + n by omega, S_add] at hlow
    have h1 : S b (fun t => cs2.getD (N - n + 1 + t) 0) n * b ^ (N - n + 1) < D * b ^ (N - n + 1) := by
      rw [Nat.mul_comm]; omega
    exact Nat.lt_of_mul_lt_mul_right h1
  · rw [Nat.sub_self, S_zero, Nat.zero_mul, Nat.zero_mul, Nat.zero_add, ← e, hR]
theorem dl_end {b n N p q D : Nat} {cs2 cs3 : List Nat} {E : Nat} (hE : 0 < E) (hn : n ≤ N) (h3l : cs3.length = N - n + 1) (hl : cs2.length = N + 1) (hD : D = q * E) (h : DlIs b n N (p * E) D 0 cs2 cs3) : vb b cs3 = p / q ∧ vb b cs2 / E = p % q := by
  obtain ⟨h1, h2, h3⟩ := h
  simp only [Nat.zero_add, Nat.sub_zero, Nat.pow_zero, Nat.mul_one] at h1 h2 h3
  rw [S_zeros (m := n) (f := fun t => cs2.getD t 0) (by omega) (fun j hj _ => h1 j hj)] at h3
  have e2 : vb b cs2 = S b (fun t => cs2.getD t 0) n := by unfold vb; rw [hl]; exact S_zeros (by omega) (fun j hj _ => h1 j hj)
  have e3 : vb b cs3 = S b (fun t => cs3.getD t 0) (N - n + 1) := by unfold vb; rw [h3l]
  rw [← e2] at h2 h3
  rw [← e3] at h3
  subst hD
  have hq : 0 < q := by
    rcases Nat.eq_zero_or_pos q with e | e
    · subst e; simp at h2
    · exact e
  have hv : vb b cs2 = (p - vb b cs3 * q) * E := by
    rw [Nat.sub_mul, Nat.mul_assoc]; omega
  have hle : vb b cs3 * q ≤ p := by
    have : vb b cs3 * q * E ≤ p * E := by rw [Nat.mul_assoc]; omega
    exact Nat.le_of_mul_le_mul_right this hE
  rw [hv] at h2
  have hlt := Nat.lt_of_mul_lt_mul_right h2
  have hp : p = (p - vb b cs3 * q) + q * vb b cs3 := by rw [Nat.mul_comm q]; omega
  generalize p - vb b cs3 * q = r at *
  constructor
  · rw [hp, Nat.add_mul_div_left _ _ hq, Nat.div_eq_of_lt hlt, Nat.zero_add]
  · rw [hv, Nat.mul_div_cancel _ hE, hp, Nat.add_mul_mod_self_left, Nat.mod_eq_of_lt hlt]
end Go.Proofs.Ytjkogajdpkbjeaa
