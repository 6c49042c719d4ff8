/- Knuth's guess: the numbers. -/
import Derived.Test.YtjkogajdpkbjeaaVal
import Derived.Test.YtjkogajdpkbjeaaWords
namespace Go.Proofs.Ytjkogajdpkbjeaa
open Go.RowKit
set_option maxHeartbeats 400000
set_option maxRecDepth 100000
set_option linter.unusedSimpArgs false
set_option linter.unusedVariables false

theorem kn_dec {B E v1 v0 H a0 dl ul g r : Nat} (hg : g * v1 + r = H) (hgt : r * B + a0 < g * v0) (hul : ul < E) : (H * B + a0) * E + ul < g * ((v1 * B + v0) * E + dl) := by
  have h1 : H * B + a0 + 1 ≤ g * (v1 * B + v0) := by
    have e : g * (v1 * B + v0) + r * B = H * B + g * v0 := by rw [← hg]; grind
    omega
  have h2 : (H * B + a0 + 1) * E ≤ g * (v1 * B + v0) * E := Nat.mul_le_mul_right E h1
  have e3 : (H * B + a0 + 1) * E = (H * B + a0) * E + E := by grind
  have e4 : g * ((v1 * B + v0) * E + dl) = g * (v1 * B + v0) * E + g * dl := by grind
  omega
theorem kn_ok {B E v1 v0 H a0 dl ul g r : Nat} (hB : 2 ≤ B) (hv : B ≤ 2 * v1) (hg : g * v1 + r = H) (hle : g * v0 ≤ r * B + a0) (hgB : g ≤ B) (hdl : dl < E) : g * ((v1 * B + v0) * E + dl) ≤ ((H * B + a0) * E + ul) + ((v1 * B + v0) * E + dl) := by
  have h1 : g * (v1 * B + v0) ≤ H * B + a0 := by
    have e : g * (v1 * B + v0) + r * B = H * B + g * v0 := by rw [← hg]; grind
    omega
  have h2 : g * (v1 * B + v0) * E ≤ (H * B + a0) * E := Nat.mul_le_mul_right E h1
  have e4 : g * ((v1 * B + v0) * E + dl) = g * (v1 * B + v0) * E + g * dl := by grind
  have h5 : g * dl ≤ B * E := Nat.mul_le_mul hgB (by omega)
  have h6 : 1 * B ≤ v1 * B := Nat.mul_le_mul_right B (by omega)
  have h7 : B * E ≤ (v1 * B + v0) * E := Nat.mul_le_mul_right E (by omega)
  omega
theorem kn_start {B E v1 v0 H a0 dl ul : Nat} (hv : 0 < v1) (ha : a0 < B) (hul : ul < E) : (H * B + a0) * E + ul < (H / v1 + 1) * ((v1 * B + v0) * E + dl) := by
  have h0 : H + 1 ≤ (H / v1 + 1) * v1 := by
    have := Nat.lt_mul_div_succ H hv
    rw [Nat.mul_comm] at this
    exact this
  have h1 : (H + 1) * (B * E) ≤ (H / v1 + 1) * v1 * (B * E) := Nat.mul_le_mul_right _ h0
  have e1 : (H + 1) * (B * E) = H * B * E + B * E := by grind
  have h2 : (a0 + 1) * E ≤ B * E := Nat.mul_le_mul_right E ha
  have e2 : (H * B + a0) * E + E = H * B * E + (a0 + 1) * E := by grind
  have e3 : (H / v1 + 1) * ((v1 * B + v0) * E + dl) = (H / v1 + 1) * v1 * (B * E) + (H / v1 + 1) * (v0 * E + dl) := by grind
  omega
/-- The guess is the quotient or one more. -/
theorem kn_top {B E v1 v0 H a0 dl ul a2 a1 : Nat} (hv : B ≤ 2 * v1) (hB : 2 ≤ B) (ha1 : a1 < B) (h0 : v0 < B) (hdl : dl < E) (hH : H = a2 * B + a1) (h : (H * B + a0) * E + ul < B * ((v1 * B + v0) * E + dl)) : a2 ≤ v1 := by
  rcases Nat.lt_or_ge v1 a2 with e | e
  · exfalso
    have h1 : (v1 + 1) * B ≤ a2 * B := Nat.mul_le_mul_right B e
    have h2 : (v1 + 1) * B * (B * E) ≤ H * (B * E) := Nat.mul_le_mul_right _ (by omega)
    have e1 : (H * B + a0) * E = H * (B * E) + a0 * E := by grind
    have h3 : (v0 + 1) * E ≤ B * E := Nat.mul_le_mul_right E h0
    have e2 : B * ((v1 * B + v0) * E + dl) = v1 * B * (B * E) + B * (v0 * E + dl) := by grind
    have e3 : (v1 + 1) * B * (B * E) = v1 * B * (B * E) + B * (B * E) := by grind
    have e4 : (v0 + 1) * E = v0 * E + E := by grind
    have h4 : B * (v0 * E + dl) ≤ B * (B * E) := Nat.mul_le_mul_left B (by omega)
    omega
  · exact e
/-- The three greatest limbs tell U and D apart from what lies below. -/
theorem kn_split {b m : Nat} {f : Nat → Nat} : S b f (m + 3) = ((f (m + 2) * b + f (m + 1)) * b + f m) * b ^ m + S b f m := by
  rw [S_succ, S_succ, S_succ, Nat.pow_succ, Nat.pow_succ]; grind
theorem kn_split2 {b m : Nat} {f : Nat → Nat} : S b f (m + 2) = (f (m + 1) * b + f m) * b ^ m + S b f m := by
  rw [S_succ, S_succ, Nat.pow_succ]; grind
end Go.Proofs.Ytjkogajdpkbjeaa
