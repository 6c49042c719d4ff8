/- RationalNearer: what its regions give. -/
import Derived.Test.YtdhdkknaagadaaaHQ2
import Derived.Test.YtdhdkknaagadaaaHv
import Derived.Test.YtdhdkknaagadaaaHr
import Derived.Deep.DeepCutAuto
namespace Go.Proofs.Ytdhdkknaagadaaa
open Go.RowKit
set_option maxHeartbeats 400000
set_option maxRecDepth 100000
set_option linter.unusedSimpArgs false
set_option linter.unusedVariables false

theorem abs_e {e x : Int} (he : e = 1 ∨ e = -1) : (e * x).natAbs = x.natAbs := by rcases he with rfl | rfl <;> simp
theorem le_of_mul {x y k : Int} (hk : 0 < k) (h : x * k ≤ y * k) : x ≤ y := Int.le_of_mul_le_mul_right h hk
/-- Nothing with a small denominator is nearer than both ends. -/
theorem near_two {A d q1 od q al be D : Int} (hA : 0 ≤ A) (hd : 0 ≤ d) (h1 : 1 ≤ q1) (ho : 1 ≤ od) (hq : q = al * q1 + be * od) (hq1 : 1 ≤ q) (hab : al ≤ 0 ∨ be ≤ 0) (hD : D = ((A * be - d * al).natAbs : Nat)) : (A * q ≤ D * od) ∨ (d * q ≤ D * q1) := by
  rcases hab with h | h
  · left
    have hbe : 1 ≤ be := by
      have h2 : al * q1 ≤ 0 := Int.mul_nonpos_of_nonpos_of_nonneg h (by omega)
      rcases Int.lt_or_le be 1 with hb | hb
      · have h3 : be * od ≤ 0 := Int.mul_nonpos_of_nonpos_of_nonneg (by omega) (by omega)
        omega
      · exact hb
    have e1 : 0 ≤ A * be := Int.mul_nonneg hA (by omega)
    have e2 : 0 ≤ d * (-al) := Int.mul_nonneg hd (by omega)
    have e3 : D = A * be + d * (-al) := by
      have : d * (-al) = -(d * al) := by grind
      omega
    have e4 : 0 ≤ d * (-al) * od := Int.mul_nonneg e2 (by omega)
    have e5 : 0 ≤ A * (-al) * q1 := Int.mul_nonneg (Int.mul_nonneg hA (by omega)) (by omega)
    have e6 : D * od - A * q = d * (-al) * od + A * (-al) * q1 := by rw [e3, hq]; grind
    omega
  · right
    have hal : 1 ≤ al := by
      have h2 : be * od ≤ 0 := Int.mul_nonpos_of_nonpos_of_nonneg h (by omega)
      rcases Int.lt_or_le al 1 with hb | hb
      · have h3 : al * q1 ≤ 0 := Int.mul_nonpos_of_nonpos_of_nonneg (by omega) (by omega)
        omega
      · exact hb
    have e1 : 0 ≤ A * (-be) := Int.mul_nonneg hA (by omega)
    have e2 : 0 ≤ d * al := Int.mul_nonneg hd (by omega)
    have e3 : D = A * (-be) + d * al := by
      have : A * (-be) = -(A * be) := by grind
      omega
    have e4 : 0 ≤ A * (-be) * q1 := Int.mul_nonneg e1 (by omega)
    have e5 : 0 ≤ d * (-be) * od := Int.mul_nonneg (Int.mul_nonneg hd (by omega)) (by omega)
    have e6 : D * q1 - d * q = A * (-be) * q1 + d * (-be) * od := by rw [e3, hq]; grind
    omega
/-- The distance of p / q from n0 / d0, times both denominators. -/
def dist (n0 d0 p q : Int) : Int := ((n0 * q - p * d0).natAbs : Nat)
theorem near_best {n0 d0 m n d p0 q0 p1 q1 : Int} (h : CvE n0 d0 m n d p0 q0 p1 q1) (hm : 1 ≤ m) :
    1 ≤ (nearZ n0 d0 m).2 ∧ (nearZ n0 d0 m).2 ≤ m ∧ Nat.gcd (nearZ n0 d0 m).1.natAbs (nearZ n0 d0 m).2.natAbs = 1 ∧
    ∀ p q, 1 ≤ q → q ≤ m → dist n0 d0 (nearZ n0 d0 m).1 (nearZ n0 d0 m).2 * q ≤ dist n0 d0 p q * (nearZ n0 d0 m).2 := by
  obtain ⟨s, hs⟩ : ∃ s, s = (m - q0) / q1 := ⟨_, rfl⟩
  have hz := near_eq h hs
  have hq1 := h.q1p
  have hq0 := h.q0p
  have hq0m := h.q0m
  have s0 : 0 ≤ s := by rw [hs]; exact Int.ediv_nonneg (by omega) (by omega)
  have s1 : s * q1 ≤ m - q0 := by rw [hs]; exact Int.ediv_mul_le _ (by omega)
  have s2 : m - q0 < (s + 1) * q1 := by rw [hs]; exact Int.lt_ediv_add_one_mul_self _ (by omega)
  obtain ⟨A, hA⟩ : ∃ A, A = n - s * d := ⟨_, rfl⟩
  have hd := h.dp
  have hA0 : 0 ≤ A := by
    rcases h.mx with h0 | h0
    · rw [h0] at hA; have := h.dn; have : s * 0 = 0 := Int.mul_zero s; omega
    · have h1 : s * q1 < n / d * q1 := by omega
      have h2 : s < n / d := Int.lt_of_mul_lt_mul_right h1 (by omega)
      have h3 : s * d ≤ n / d * d := Int.mul_le_mul_of_nonneg_right (by omega) hd
      have h4 : n / d * d ≤ n := by
        rcases Int.lt_or_le 0 d with h5 | h5
        · exact Int.ediv_mul_le _ (by omega)
        · have h6 : d = 0 := by omega
          rw [h6]; have := h.dn; simp; omega
      omega
  obtain ⟨on, hon⟩ : ∃ x, x = p0 + s * p1 := ⟨_, rfl⟩
  obtain ⟨od, hod⟩ : ∃ x, x = q0 + s * q1 := ⟨_, rfl⟩
  obtain ⟨e, he, hdet⟩ : ∃ e : Int, (e = 1 ∨ e = -1) ∧ p1 * q0 - p0 * q1 = e := ⟨_, h.det, rfl⟩
  have hodm : od ≤ m := by omega
  have hod1 : 1 ≤ od := by
    rcases Int.lt_or_le 0 q0 with h5 | h5
    · have : 0 ≤ s * q1 := Int.mul_nonneg s0 (by omega)
      omega
    · have h6 : q0 = 0 := by omega
      rw [h6] at hdet s2 hod
      rcases Int.lt_or_le 0 s with h7 | h7
      · have : 1 * 1 ≤ s * q1 := Int.mul_le_mul (by omega) (by omega) (by omega) (by omega)
        omega
      · have h8 : s = 0 := by omega
        rw [h8] at s2
        have h9 : (p0 * q1).natAbs = 1 := by
          have : p0 * q1 = -e := by have : p1 * 0 = 0 := Int.mul_zero p1; omega
          rw [this]; omega
        rw [Int.natAbs_mul] at h9
        have h10 := Nat.eq_one_of_mul_eq_one_left h9
        omega
  have hn0 : n0 = p1 * A + on * d := by rw [← h.num, hA, hon]; grind
  have hd0 : d0 = q1 * A + od * d := by rw [← h.den, hA, hod]; grind
  have hdet2 : p1 * od - on * q1 = e := by rw [hod, hon, ← hdet]; grind
  have dl : dist n0 d0 p1 q1 = d := by
    have : n0 * q1 - p1 * d0 = e * (-d) := by rw [hn0, hd0, ← hdet2]; grind
    unfold dist; rw [this, abs_e he]; omega
  have dO : dist n0 d0 on od = A := by
    have : n0 * od - on * d0 = e * A := by rw [hn0, hd0, ← hdet2]; grind
    unfold dist; rw [this, abs_e he]; omega
  have glow : ∀ (a b : Int), (∃ x y : Int, a * x + b * y = e) → Nat.gcd a.natAbs b.natAbs = 1 := by
    rintro a b ⟨x, y, hxy⟩
    have h1 : ((Nat.gcd a.natAbs b.natAbs : Nat) : Int) ∣ e := by
      rw [← hxy]
      exact Int.dvd_add (Int.dvd_mul_of_dvd_left (Int.ofNat_dvd_left.2 (Nat.gcd_dvd_left _ _))) (Int.dvd_mul_of_dvd_left (Int.ofNat_dvd_left.2 (Nat.gcd_dvd_right _ _)))
    have h2 : Nat.gcd a.natAbs b.natAbs ∣ e.natAbs := Int.ofNat_dvd_left.1 h1
    have h3 : e.natAbs = 1 := by omega
    rw [h3] at h2
    exact Nat.dvd_one.1 h2
  have g1 : Nat.gcd p1.natAbs q1.natAbs = 1 := glow p1 q1 ⟨od, -on, by rw [← hdet2]; grind⟩
  have g2 : Nat.gcd on.natAbs od.natAbs = 1 := glow on od ⟨-q1, p1, by rw [← hdet2]; grind⟩
  have two : ∀ p q, 1 ≤ q → q ≤ m → (A * q ≤ dist n0 d0 p q * od) ∨ (d * q ≤ dist n0 d0 p q * q1) := by
    intro p q hq hqm
    obtain ⟨al, hal⟩ : ∃ x, x = e * (p * od - on * q) := ⟨_, rfl⟩
    obtain ⟨be, hbe⟩ : ∃ x, x = e * (p1 * q - p * q1) := ⟨_, rfl⟩
    have ee : e * e = 1 := by rcases he with rfl | rfl <;> rfl
    have hqq : q = al * q1 + be * od := by
      have : al * q1 + be * od = e * q * (p1 * od - on * q1) := by rw [hal, hbe]; grind
      rw [this, hdet2]
      have : e * q * e = e * e * q := by grind
      rw [this, ee, Int.one_mul]
    have hab : al ≤ 0 ∨ be ≤ 0 := by
      rcases Int.lt_or_le 0 al with h1 | h1
      · rcases Int.lt_or_le 0 be with h2 | h2
        · exfalso
          have h3 : 1 * q1 ≤ al * q1 := Int.mul_le_mul_of_nonneg_right (by omega) (by omega)
          have h4 : 1 * od ≤ be * od := Int.mul_le_mul_of_nonneg_right (by omega) (by omega)
          have h5 : (s + 1) * q1 = s * q1 + q1 := by grind
          omega
        · exact .inr h2
      · exact .inl h1
    refine near_two hA0 hd hq1 hod1 hqq hq hab ?_
    have : n0 * q - p * d0 = e * (A * be - d * al) := by
      have h1 : e * (A * be - d * al) = e * e * (A * (p1 * q - p * q1) - d * (p * od - on * q)) := by rw [hal, hbe]; grind
      rw [h1, ee, Int.one_mul, hn0, hd0]; grind
    unfold dist
    rw [this, abs_e he]
  have hz2 : nearZ n0 d0 m = if A * q1 < d * od then (on, od) else (p1, q1) := by
    rw [hz, ← hon, ← hod]
    have e1 : ((on * d0 - n0 * od) * q1).natAbs = (A * q1).natAbs := by
      rw [Int.natAbs_mul, Int.natAbs_mul]
      have : (on * d0 - n0 * od).natAbs = A.natAbs := by
        have h1 : on * d0 - n0 * od = e * (-A) := by rw [hn0, hd0, ← hdet2]; grind
        rw [h1, abs_e he]; omega
      rw [this]
    have e2 : ((p1 * d0 - n0 * q1) * od).natAbs = (d * od).natAbs := by
      rw [Int.natAbs_mul, Int.natAbs_mul]
      have : (p1 * d0 - n0 * q1).natAbs = d.natAbs := by
        have h1 : p1 * d0 - n0 * q1 = e * d := by rw [hn0, hd0, ← hdet2]; grind
        rw [h1, abs_e he]
      rw [this]
    rw [e1, e2]
    have a1 : 0 ≤ A * q1 := Int.mul_nonneg hA0 (by omega)
    have a2 : 0 ≤ d * od := Int.mul_nonneg hd (by omega)
    by_cases hlt : A * q1 < d * od
    · rw [if_pos hlt, if_pos (by omega)]
    · rw [if_neg hlt, if_neg (by omega)]
  rw [hz2]
  by_cases hlt : A * q1 < d * od
  · rw [if_pos hlt]
    refine ⟨hod1, hodm, g2, fun p q hq hqm => ?_⟩
    show dist n0 d0 on od * q ≤ dist n0 d0 p q * od
    rw [dO]
    rcases two p q hq hqm with h1 | h1
    · exact h1
    · refine le_of_mul (show 0 < q1 by omega) ?_
      have h2 : A * q1 * q ≤ d * od * q := Int.mul_le_mul_of_nonneg_right (by omega) (by omega)
      have h3 : d * q * od ≤ dist n0 d0 p q * q1 * od := Int.mul_le_mul_of_nonneg_right h1 (by omega)
      have e1 : A * q1 * q = A * q * q1 := by grind
      have e2 : d * od * q = d * q * od := by grind
      have e3 : dist n0 d0 p q * q1 * od = dist n0 d0 p q * od * q1 := by grind
      omega
  · rw [if_neg hlt]
    refine ⟨hq1, h.q1m, g1, fun p q hq hqm => ?_⟩
    show dist n0 d0 p1 q1 * q ≤ dist n0 d0 p q * q1
    rw [dl]
    rcases two p q hq hqm with h1 | h1
    · refine le_of_mul (show 0 < od by omega) ?_
      have h2 : d * od * q ≤ A * q1 * q := Int.mul_le_mul_of_nonneg_right (by omega) (by omega)
      have h3 : A * q * q1 ≤ dist n0 d0 p q * od * q1 := Int.mul_le_mul_of_nonneg_right h1 (by omega)
      have e1 : A * q1 * q = A * q * q1 := by grind
      have e2 : d * od * q = d * q * od := by grind
      have e3 : dist n0 d0 p q * od * q1 = dist n0 d0 p q * q1 * od := by grind
      omega
    · exact h1
/-- Some multiple of 1 / m is at most half of it away. -/
theorem half_unit (n0 d0 m : Int) (hd : 1 ≤ d0) : ∃ p, 2 * dist n0 d0 p m ≤ d0 := by
  refine ⟨(2 * (n0 * m) + d0) / (2 * d0), ?_⟩
  have e := Int.mul_ediv_add_emod (2 * (n0 * m) + d0) (2 * d0)
  have h1 := Int.emod_nonneg (2 * (n0 * m) + d0) (show 2 * d0 ≠ 0 by omega)
  have h2 := Int.emod_lt_of_pos (2 * (n0 * m) + d0) (show 0 < 2 * d0 by omega)
  generalize (2 * (n0 * m) + d0) / (2 * d0) = p at *
  generalize (2 * (n0 * m) + d0) % (2 * d0) = r at *
  have e2 : 2 * d0 * p = 2 * (p * d0) := by grind
  unfold dist
  omega
/-- Distances in lowest terms. -/
theorem low_dist {n0 d0 p q : Int} {y1 : Int} {y2 : Nat} {b : Nat} (hb : (b : Int) = d0 * q) (h : y1 * (b : Int) = (n0 * q - p * d0) * (y2 : Int)) : (y1.natAbs : Int) * (d0 * q) = dist n0 d0 p q * (y2 : Int) := by
  have h1 : y1.natAbs * b = (n0 * q - p * d0).natAbs * y2 := by
    have := congrArg Int.natAbs h
    rw [Int.natAbs_mul, Int.natAbs_mul, Int.natAbs_natCast, Int.natAbs_natCast] at this
    exact this
  have h2 : ((y1.natAbs * b : Nat) : Int) = (((n0 * q - p * d0).natAbs * y2 : Nat) : Int) := by rw [h1]
  rw [Int.natCast_mul, Int.natCast_mul, hb] at h2
  exact h2
theorem nearer_le {d0 yd zd Dy Dz a b : Int} {u v : Int} (hd : 1 ≤ d0) (hy : 1 ≤ yd) (hz : 1 ≤ zd) (hu : 0 ≤ u) (hv : 0 ≤ v) (hb : Dz * yd ≤ Dy * zd) (h1 : a * (d0 * yd) = Dy * u) (h2 : b * (d0 * zd) = Dz * v) : b * u ≤ a * v := by
  refine le_of_mul (show 0 < d0 * yd * zd from Int.mul_pos (Int.mul_pos (by omega) (by omega)) (by omega)) ?_
  have e1 : b * u * (d0 * yd * zd) = (Dz * yd) * (u * v) := by
    have : b * u * (d0 * yd * zd) = (b * (d0 * zd)) * (yd * u) := by grind
    rw [this, h2]; grind
  have e2 : a * v * (d0 * yd * zd) = (Dy * zd) * (u * v) := by
    have : a * v * (d0 * yd * zd) = (a * (d0 * yd)) * (zd * v) := by grind
    rw [this, h1]; grind
  rw [e1, e2]
  exact Int.mul_le_mul_of_nonneg_right hb (Int.mul_nonneg hu hv)
theorem half_le {d0 yd Dy D a m : Int} {u : Int} (hd : 1 ≤ d0) (hy : 1 ≤ yd) (hm : 1 ≤ m) (hu : 0 ≤ u) (hb : Dy * m ≤ D * yd) (h2 : 2 * D ≤ d0) (h1 : a * (d0 * yd) = Dy * u) : a * (2 * m) ≤ u := by
  refine le_of_mul (show 0 < d0 * yd from Int.mul_pos (by omega) (by omega)) ?_
  have e1 : a * (2 * m) * (d0 * yd) = 2 * (Dy * m) * u := by
    have : a * (2 * m) * (d0 * yd) = 2 * m * (a * (d0 * yd)) := by grind
    rw [this, h1]; grind
  have e2 : 2 * (Dy * m) * u ≤ 2 * (D * yd) * u := Int.mul_le_mul_of_nonneg_right (by omega) hu
  have e3 : 2 * (D * yd) * u = 2 * D * (yd * u) := by grind
  have e4 : 2 * D * (yd * u) ≤ d0 * (yd * u) := Int.mul_le_mul_of_nonneg_right h2 (Int.mul_nonneg (by omega) hu)
  have e5 : u * (d0 * yd) = d0 * (yd * u) := by grind
  omega
theorem cve_ex {n0 d0 m : Int} (hd0 : 1 ≤ d0) (hm : 1 ≤ m) : ∃ n d p0 q0 p1 q1, CvE n0 d0 m n d p0 q0 p1 q1 := by
  have main : ∀ (f : Nat) (n d p0 q0 p1 q1 : Int), CvI n0 d0 m f n d p0 q0 p1 q1 → ∃ n d p0 q0 p1 q1, CvE n0 d0 m n d p0 q0 p1 q1 := by
    intro f
    induction f with
    | zero => intro n d p0 q0 p1 q1 h; exfalso; have := h.fl; have := h.dp; omega
    | succ f ih =>
      intro n d p0 q0 p1 q1 h
      by_cases hd : d = 0
      · subst hd; exact ⟨_, _, _, _, _, _, h.end0 hd0⟩
      · by_cases hq : m < q0 + n / d * q1
        · exact ⟨_, _, _, _, _, _, h.end1 hd0 hm hd hq⟩
        · exact ih _ _ _ _ _ _ (h.next hd hd0 (by omega))
  exact main _ _ _ _ _ _ _ (CvI.start hd0 hm)
/-- What is known of the nearest ratio. -/
structure Near (n0 d0 m zn zd : Int) : Prop where
  pos : 1 ≤ zd
  le : zd ≤ m
  low : Nat.gcd zn.natAbs zd.natAbs = 1
  best : ∀ p q, 1 ≤ q → q ≤ m → dist n0 d0 zn zd * q ≤ dist n0 d0 p q * zd
theorem near_is {n0 d0 m : Int} (hd0 : 1 ≤ d0) (hm : 1 ≤ m) : Near n0 d0 m (nearZ n0 d0 m).1 (nearZ n0 d0 m).2 := by
  obtain ⟨n, d, p0, q0, p1, q1, h⟩ := cve_ex (n0 := n0) hd0 hm
  obtain ⟨a, b, c, e⟩ := near_best h hm
  exact ⟨a, b, c, e⟩
/-- Its numerator is not too large. -/
theorem Near.num {n0 d0 m zn zd : Int} (h : Near n0 d0 m zn zd) (hd0 : 1 ≤ d0) (hm : 1 ≤ m) : zn.natAbs ≤ (n0.natAbs + 1) * zd.natAbs := by
  have h1 := h.best (n0 / d0) 1 (by omega) hm
  have e := Int.mul_ediv_add_emod n0 d0
  have r1 := Int.emod_nonneg n0 (show d0 ≠ 0 by omega)
  have r2 := Int.emod_lt_of_pos n0 (show 0 < d0 by omega)
  have hp := h.pos
  have e2 : dist n0 d0 (n0 / d0) 1 ≤ d0 := by
    unfold dist
    have : n0 / d0 * d0 = d0 * (n0 / d0) := Int.mul_comm _ _
    omega
  have e3 : dist n0 d0 zn zd ≤ d0 * zd := by
    have := Int.mul_le_mul_of_nonneg_right e2 (show 0 ≤ zd by omega)
    omega
  have e4 : zn * d0 = n0 * zd - (n0 * zd - zn * d0) := by omega
  have e5 : (zn * d0).natAbs ≤ (n0 * zd).natAbs + (d0 * zd).natAbs := by
    unfold dist at e3
    have : 0 ≤ d0 * zd := Int.mul_nonneg (by omega) (by omega)
    omega
  rw [Int.natAbs_mul, Int.natAbs_mul, Int.natAbs_mul] at e5
  have e6 : zn.natAbs * d0.natAbs ≤ ((n0.natAbs + 1) * zd.natAbs) * d0.natAbs := by
    have h7 : n0.natAbs * zd.natAbs * 1 ≤ n0.natAbs * zd.natAbs * d0.natAbs := Nat.mul_le_mul_left _ (by omega)
    have h8 : ((n0.natAbs + 1) * zd.natAbs) * d0.natAbs = n0.natAbs * zd.natAbs * d0.natAbs + d0.natAbs * zd.natAbs := by grind
    omega
  exact Nat.le_of_mul_le_mul_right e6 (by omega)
@[irreducible] def Tn : Nat := 4294967296 ^ 60
theorem tn_eq {m : Nat} (h : m = 60) : Tn = 4294967296 ^ m := by subst h; unfold Tn; rfl
theorem lt_tn {m : Bool} {xs : List Nat} {z : Int} {k : Nat} (h : IRep m xs z) (hl : xs.length = k) (hk : k ≤ 60) : z.natAbs < Tn := by
  obtain ⟨m, hm⟩ : ∃ m, m = 60 := ⟨_, rfl⟩
  rw [tn_eq hm]
  exact Nat.lt_of_lt_of_le (h.rep.lt_pow (by decide)) (Nat.pow_le_pow_right (by decide) (by omega))
theorem tn_mul {a y : Nat} (ha : a < Tn) (hy : y ≤ 4294967296 * 4294967296) : (a + 1) * y < Top128 := by
  obtain ⟨m, hm⟩ : ∃ m, m = 60 := ⟨_, rfl⟩
  obtain ⟨k, hk⟩ : ∃ k, k = 128 := ⟨_, rfl⟩
  rw [tn_eq hm] at ha
  rw [top128 hk]
  have h1 : (a + 1) * y ≤ 4294967296 ^ m * (4294967296 * 4294967296) := Nat.mul_le_mul (by omega) hy
  have h2 : 4294967296 ^ m * (4294967296 * 4294967296) = 4294967296 ^ (m + 2) := by rw [Nat.pow_add]
  have h3 : 4294967296 ^ (m + 2) < 4294967296 ^ k := Nat.pow_lt_pow_right (by decide) (by omega)
  omega
theorem top_tt : 2 * (Top128 * Top128) ≤ TT := by
  obtain ⟨k, hk⟩ : ∃ k, k = 128 := ⟨_, rfl⟩
  obtain ⟨m, hm⟩ : ∃ m, m = 40000 := ⟨_, rfl⟩
  rw [top128 hk, tt_eq hm, ← Nat.pow_add]
  have h1 : (4294967296 : Nat) ^ (k + k) = 65536 ^ (2 * (k + k)) := by rw [Nat.pow_mul]
  rw [h1]
  have h2 : 2 * 65536 ^ (2 * (k + k)) ≤ 65536 ^ (2 * (k + k) + 1) := by rw [Nat.pow_succ]; omega
  exact Nat.le_trans h2 (Nat.pow_le_pow_right (by decide) (by omega))
theorem lt_tt {v : Nat} (h : v < Top128) : v < TT := by
  have h1 := top_tt
  have h2 : 1 * Top128 ≤ Top128 * Top128 := Nat.mul_le_mul_right _ (by have := lt_top (n := 1) (by decide); omega)
  omega
/-- The nearest ratio, for a small limit. -/
theorem nearI (w : World) (B : Nat) (y : RV) (n : Bool) (D : Option Addr) (l d : Nat) (ys : List Nat) (n0 d0 m : Int) (H : y.at w B) (hB : B ≤ w.heap.size) (HM : LRd w B D l d ys) (hf : rfault [y] 0 = (0, 0)) (Ny : Hid (IRep y.num.neg y.num.xs n0)) (Dy : Hid (IRep y.den.neg y.den.xs d0)) (J : Hid (IRep n ys m)) (hd0 : 1 ≤ d0) (hm : Hid (1 ≤ m)) (HBD : Hid (n0.natAbs < Top128 ∧ d0.natAbs < Top128 ∧ m.natAbs < Top128)) :
    Calls Try.prog 20 #[y.v, intv n D l d] w (fun e w' => ∃ z : RV, e = .returned (.tuple #[z.v, flt 0 0]) ∧ z.at w' w'.heap.size ∧ IRep z.num.neg z.num.xs (nearZ n0 d0 m).1 ∧ IRep z.den.neg z.den.xs (nearZ n0 d0 m).2 ∧ Below w.heap.size w w') := by
  have hm1 := hm.out
  obtain rfl : n = false := by rw [J.out.sgn]; exact decide_eq_false (by omega)
  have hl : ys.length ≠ 0 := fun h => by have := (IRep.len0 J.out).1 h; omega
  have h := nearest_any w B y D l d ys n0 d0 m H HM hB hf (Lib.hid (J.out.iok HBD.out.2.2)) (decide_eq_false (by have := HM.len.out; omega)) Ny Dy J hd0 hm1 HBD
  exact h.mono fun e w' ⟨m, A, k, c, xs, m', D, l, d, ys, he, h1, h2, h3, h4, h5⟩ => ⟨⟨⟨m, A, k, c, xs⟩, ⟨m', D, l, d, ys⟩⟩, he, ⟨h1, h2⟩, h3, h4, h5⟩
/-- The distance of a ratio in a block. -/
def QtR (V : World) (z1 : Int) (z2 : Nat) (s : Value) (wx : World) : Prop :=
  ∃ (g : Nat) (q : QV) (v1 y2 : Nat) (y1 : Int), s = .pointer (some ⟨g, 0, none⟩) ∧ Bk3 wx g (.bool q.m) (.slice q.A q.n q.c) (.slice q.D q.k q.d) ∧ q.at wx wx.heap.size ∧ Hid (Rep 65536 q.xs v1) ∧ Hid (sval q.m v1 = ((y1.natAbs : Nat) : Int)) ∧ Hid (Rep 65536 q.ys y2) ∧ Hid (LowOf z1 z2 y1 y2) ∧ V.heap.size ≤ g ∧ Below V.heap.size V wx
theorem Bk3.set {w : World} {g : Nat} {u v x : Value} (h : Bk3 w g u v x) (a b c : Value) : Bk3 (((w.setCell ⟨g, 0, none⟩ a).setCell ⟨g, 1, none⟩ b).setCell ⟨g, 2, none⟩ c) g a b c := by
  obtain ⟨h0, h1, h2, z0, z1, z2, lt⟩ := h
  constructor <;> simp [go_sem, h0, h1, h2, z0, z1, z2, lt]
section
variable {V u : World} {z1 : Int} {z2 v1 y2 : Nat} {y1 : Int} {q : QV} {g : Nat} (H : q.at u u.heap.size) (R1 : Hid (Rep 65536 q.xs v1)) (S1 : Hid (sval q.m v1 = ((y1.natAbs : Nat) : Int))) (R2 : Hid (Rep 65536 q.ys y2)) (L : Hid (LowOf z1 z2 y1 y2)) (b : Below V.heap.size V u)
include H R1 S1 R2 L b
theorem qt_a : QtR V z1 z2 (.pointer (some ⟨u.heap.size, 0, none⟩)) (u.alloc (.cells #[.bool q.m, .slice q.A q.n q.c, .slice q.D q.k q.d] 40)) :=
  ⟨_, q, v1, y2, y1, rfl, Bk3.newAt _ _ rfl _ _ _ _, ⟨DRd.more (DRd.alloc H.1 (Nat.le_refl _) _) (by simp), DRd.more (DRd.alloc H.2 (Nat.le_refl _) _) (by simp)⟩, R1, S1, R2, L, b.size, b.alloc b.size _⟩
theorem qt_o (G : Bk3 u g (.bool false) (.slice none 0 0) (.slice none 0 0)) (hg : V.heap.size ≤ g) : QtR V z1 z2 (.pointer (some ⟨g, 0, none⟩)) (((u.setCell ⟨g, 0, none⟩ (.bool q.m)).setCell ⟨g, 1, none⟩ (.slice q.A q.n q.c)).setCell ⟨g, 2, none⟩ (.slice q.D q.k q.d)) :=
  ⟨_, q, v1, y2, y1, rfl, G.set _ _ _, ⟨DRd.set3k H.1 (Nat.le_refl _) G.c0 G.c1 G.c2, DRd.set3k H.2 (Nat.le_refl _) G.c0 G.c1 G.c2⟩, R1, S1, R2, L, hg, ((b.setCell (p := ⟨g, 0, none⟩) hg _).setCell (p := ⟨g, 1, none⟩) hg _).setCell (p := ⟨g, 2, none⟩) hg _⟩
end
theorem nq3 {w w' : World} {u v x : Value} {t : TypeId} (h : Below (w.alloc (.cells #[u, v, x] t)).heap.size (w.alloc (.cells #[u, v, x] t)) w') : Bk3 w' w.heap.size u v x := (Bk3.newAt w w.heap.size rfl _ _ _ _).below h (by simp)
theorem nq3d {w w' : World} {u v x : Value} {t : TypeId} (h : Below (w.drew.alloc (.cells #[u, v, x] t)).heap.size (w.drew.alloc (.cells #[u, v, x] t)) w') : Bk3 w' w.heap.size u v x := (Bk3.newAt w.drew w.heap.size rfl _ _ _ _).below h (by simp)
theorem field_int (b : Bool) (A : Option Addr) (k c : Nat) (w : World) : (Instr.field 38 (.agg #[.bool b, .slice A k c]) 1).run Try.prog w = .ok (.slice A k c) w := by kernel_rfl
end Go.Proofs.Ytdhdkknaagadaaa
