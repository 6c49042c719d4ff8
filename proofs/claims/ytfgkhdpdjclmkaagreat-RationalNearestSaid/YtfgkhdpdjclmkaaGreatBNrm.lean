/- Which of the nearest ratios with a limited denominator the program takes. -/
import Derived.Test.YtfgkhdpdjclmkaaGreatBr
import Derived.Test.YtfgkhdpdjclmkaaGreatBs
namespace Go.Proofs.YtfgkhdpdjclmkaaGreat
open Go.RowKit
set_option maxHeartbeats 400000
set_option maxRecDepth 100000
set_option linter.unusedSimpArgs false
set_option linter.unusedVariables false

theorem abs_e {e x : Int} (he : e = 1 ∨ e = -1) : (e * x).natAbs = x.natAbs := by rcases he with rfl | rfl <;> simp
theorem le_of_mul {x y k : Int} (hk : 0 < k) (h : x * k ≤ y * k) : x ≤ y := Int.le_of_mul_le_mul_right h hk
/-- Nothing with a small denominator is nearer than both ends. -/
theorem near_two {A d q1 od q al be D : Int} (hA : 0 ≤ A) (hd : 0 ≤ d) (h1 : 1 ≤ q1) (ho : 1 ≤ od) (hq : q = al * q1 + be * od) (hq1 : 1 ≤ q) (hab : al ≤ 0 ∨ be ≤ 0) (hD : D = ((A * be - d * al).natAbs : Nat)) : (A * q ≤ D * od) ∨ (d * q ≤ D * q1) := by
  rcases hab with h | h
  · left
    have hbe : 1 ≤ be := by
      have h2 : al * q1 ≤ 0 := Int.mul_nonpos_of_nonpos_of_nonneg h (by omega)
      rcases Int.lt_or_le be 1 with hb | hb
      · have h3 : be * od ≤ 0 := Int.mul_nonpos_of_nonpos_of_nonneg (by omega) (by omega)
        omega
      · exact hb
    have e1 : 0 ≤ A * be := Int.mul_nonneg hA (by omega)
    have e2 : 0 ≤ d * (-al) := Int.mul_nonneg hd (by omega)
    have e3 : D = A * be + d * (-al) := by
      have : d * (-al) = -(d * al) := by grind
      omega
    have e4 : 0 ≤ d * (-al) * od := Int.mul_nonneg e2 (by omega)
    have e5 : 0 ≤ A * (-al) * q1 := Int.mul_nonneg (Int.mul_nonneg hA (by omega)) (by omega)
    have e6 : D * od - A * q = d * (-al) * od + A * (-al) * q1 := by rw [e3, hq]; grind
    omega
  · right
    have hal : 1 ≤ al := by
      have h2 : be * od ≤ 0 := Int.mul_nonpos_of_nonpos_of_nonneg h (by omega)
      rcases Int.lt_or_le al 1 with hb | hb
      · have h3 : al * q1 ≤ 0 := Int.mul_nonpos_of_nonpos_of_nonneg (by omega) (by omega)
        omega
      · exact hb
    have e1 : 0 ≤ A * (-be) := Int.mul_nonneg hA (by omega)
    have e2 : 0 ≤ d * al := Int.mul_nonneg hd (by omega)
    have e3 : D = A * (-be) + d * al := by
      have : A * (-be) = -(A * be) := by grind
      omega
    have e4 : 0 ≤ A * (-be) * q1 := Int.mul_nonneg e1 (by omega)
    have e5 : 0 ≤ d * (-be) * od := Int.mul_nonneg (Int.mul_nonneg hd (by omega)) (by omega)
    have e6 : D * q1 - d * q = A * (-be) * q1 + d * (-be) * od := by rw [e3, hq]; grind
    omega
/-- The distance of p / q from n0 / d0, times both denominators. -/
def dist (n0 d0 p q : Int) : Int := ((n0 * q - p * d0).natAbs : Nat)
theorem near_best {n0 d0 m n d p0 q0 p1 q1 : Int} (h : CvE n0 d0 m n d p0 q0 p1 q1) (hm : 1 ≤ m) :
    1 ≤ (nearZ n0 d0 m).2 ∧ (nearZ n0 d0 m).2 ≤ m ∧ Nat.gcd (nearZ n0 d0 m).1.natAbs (nearZ n0 d0 m).2.natAbs = 1 ∧
    ∀ p q, 1 ≤ q → q ≤ m → dist n0 d0 (nearZ n0 d0 m).1 (nearZ n0 d0 m).2 * q ≤ dist n0 d0 p q * (nearZ n0 d0 m).2 := by
  obtain ⟨s, hs⟩ : ∃ s, s = (m - q0) / q1 := ⟨_, rfl⟩
  have hz := near_eq h hs
  have hq1 := h.q1p
  have hq0 := h.q0p
  have hq0m := h.q0m
  have s0 : 0 ≤ s := by rw [hs]; exact Int.ediv_nonneg (by omega) (by omega)
  have s1 : s * q1 ≤ m - q0 := by rw [hs]; exact Int.ediv_mul_le _ (by omega)
  have s2 : m - q0 < (s + 1) * q1 := by rw [hs]; exact Int.lt_ediv_add_one_mul_self _ (by omega)
  obtain ⟨A, hA⟩ : ∃ A, A = n - s * d := ⟨_, rfl⟩
  have hd := h.dp
  have hA0 : 0 ≤ A := by
    rcases h.mx with h0 | h0
    · rw [h0] at hA; have := h.dn; have : s * 0 = 0 := Int.mul_zero s; omega
    · have h1 : s * q1 < n / d * q1 := by omega
      have h2 : s < n / d := Int.lt_of_mul_lt_mul_right h1 (by omega)
      have h3 : s * d ≤ n / d * d := Int.mul_le_mul_of_nonneg_right (by omega) hd
      have h4 : n / d * d ≤ n := by
        rcases Int.lt_or_le 0 d with h5 | h5
        · exact Int.ediv_mul_le _ (by omega)
        · have h6 : d = 0 := by omega
          rw [h6]; have := h.dn; simp; omega
      omega
  obtain ⟨on, hon⟩ : ∃ x, x = p0 + s * p1 := ⟨_, rfl⟩
  obtain ⟨od, hod⟩ : ∃ x, x = q0 + s * q1 := ⟨_, rfl⟩
  obtain ⟨e, he, hdet⟩ : ∃ e : Int, (e = 1 ∨ e = -1) ∧ p1 * q0 - p0 * q1 = e := ⟨_, h.det, rfl⟩
  have hodm : od ≤ m := by omega
  have hod1 : 1 ≤ od := by
    rcases Int.lt_or_le 0 q0 with h5 | h5
    · have : 0 ≤ s * q1 := Int.mul_nonneg s0 (by omega)
      omega
    · have h6 : q0 = 0 := by omega
      rw [h6] at hdet s2 hod
      rcases Int.lt_or_le 0 s with h7 | h7
      · have : 1 * 1 ≤ s * q1 := Int.mul_le_mul (by omega) (by omega) (by omega) (by omega)
        omega
      · have h8 : s = 0 := by omega
        rw [h8] at s2
        have h9 : (p0 * q1).natAbs = 1 := by
          have : p0 * q1 = -e := by have : p1 * 0 = 0 := Int.mul_zero p1; omega
          rw [this]; omega
        rw [Int.natAbs_mul] at h9
        have h10 := Nat.eq_one_of_mul_eq_one_left h9
        omega
  have hn0 : n0 = p1 * A + on * d := by rw [← h.num, hA, hon]; grind
  have hd0 : d0 = q1 * A + od * d := by rw [← h.den, hA, hod]; grind
  have hdet2 : p1 * od - on * q1 = e := by rw [hod, hon, ← hdet]; grind
  have dl : dist n0 d0 p1 q1 = d := by
    have : n0 * q1 - p1 * d0 = e * (-d) := by rw [hn0, hd0, ← hdet2]; grind
    unfold dist; rw [this, abs_e he]; omega
  have dO : dist n0 d0 on od = A := by
    have : n0 * od - on * d0 = e * A := by rw [hn0, hd0, ← hdet2]; grind
    unfold dist; rw [this, abs_e he]; omega
  have glow : ∀ (a b : Int), (∃ x y : Int, a * x + b * y = e) → Nat.gcd a.natAbs b.natAbs = 1 := by
    rintro a b ⟨x, y, hxy⟩
    have h1 : ((Nat.gcd a.natAbs b.natAbs : Nat) : Int) ∣ e := by
      rw [← hxy]
      exact Int.dvd_add (Int.dvd_mul_of_dvd_left (Int.ofNat_dvd_left.2 (Nat.gcd_dvd_left _ _))) (Int.dvd_mul_of_dvd_left (Int.ofNat_dvd_left.2 (Nat.gcd_dvd_right _ _)))
    have h2 : Nat.gcd a.natAbs b.natAbs ∣ e.natAbs := Int.ofNat_dvd_left.1 h1
    have h3 : e.natAbs = 1 := by omega
    rw [h3] at h2
    exact Nat.dvd_one.1 h2
  have g1 : Nat.gcd p1.natAbs q1.natAbs = 1 := glow p1 q1 ⟨od, -on, by rw [← hdet2]; grind⟩
  have g2 : Nat.gcd on.natAbs od.natAbs = 1 := glow on od ⟨-q1, p1, by rw [← hdet2]; grind⟩
  have two : ∀ p q, 1 ≤ q → q ≤ m → (A * q ≤ dist n0 d0 p q * od) ∨ (d * q ≤ dist n0 d0 p q * q1) := by
    intro p q hq hqm
    obtain ⟨al, hal⟩ : ∃ x, x = e * (p * od - on * q) := ⟨_, rfl⟩
    obtain ⟨be, hbe⟩ : ∃ x, x = e * (p1 * q - p * q1) := ⟨_, rfl⟩
    have ee : e * e = 1 := by rcases he with rfl | rfl <;> rfl
    have hqq : q = al * q1 + be * od := by
      have : al * q1 + be * od = e * q * (p1 * od - on * q1) := by rw [hal, hbe]; grind
      rw [this, hdet2]
      have : e * q * e = e * e * q := by grind
      rw [this, ee, Int.one_mul]
    have hab : al ≤ 0 ∨ be ≤ 0 := by
      rcases Int.lt_or_le 0 al with h1 | h1
      · rcases Int.lt_or_le 0 be with h2 | h2
        · exfalso
          have h3 : 1 * q1 ≤ al * q1 := Int.mul_le_mul_of_nonneg_right (by omega) (by omega)
          have h4 : 1 * od ≤ be * od := Int.mul_le_mul_of_nonneg_right (by omega) (by omega)
          have h5 : (s + 1) * q1 = s * q1 + q1 := by grind
          omega
        · exact .inr h2
      · exact .inl h1
    refine near_two hA0 hd hq1 hod1 hqq hq hab ?_
    have : n0 * q - p * d0 = e * (A * be - d * al) := by
      have h1 : e * (A * be - d * al) = e * e * (A * (p1 * q - p * q1) - d * (p * od - on * q)) := by rw [hal, hbe]; grind
      rw [h1, ee, Int.one_mul, hn0, hd0]; grind
    unfold dist
    rw [this, abs_e he]
  have hz2 : nearZ n0 d0 m = if A * q1 < d * od then (on, od) else (p1, q1) := by
    rw [hz, ← hon, ← hod]
    have e1 : ((on * d0 - n0 * od) * q1).natAbs = (A * q1).natAbs := by
      rw [Int.natAbs_mul, Int.natAbs_mul]
      have : (on * d0 - n0 * od).natAbs = A.natAbs := by
        have h1 : on * d0 - n0 * od = e * (-A) := by rw [hn0, hd0, ← hdet2]; grind
        rw [h1, abs_e he]; omega
      rw [this]
    have e2 : ((p1 * d0 - n0 * q1) * od).natAbs = (d * od).natAbs := by
      rw [Int.natAbs_mul, Int.natAbs_mul]
      have : (p1 * d0 - n0 * q1).natAbs = d.natAbs := by
        have h1 : p1 * d0 - n0 * q1 = e * d := by rw [hn0, hd0, ← hdet2]; grind
        rw [h1, abs_e he]
      rw [this]
    rw [e1, e2]
    have a1 : 0 ≤ A * q1 := Int.mul_nonneg hA0 (by omega)
    have a2 : 0 ≤ d * od := Int.mul_nonneg hd (by omega)
    by_cases hlt : A * q1 < d * od
    · rw [if_pos hlt, if_pos (by omega)]
    · rw [if_neg hlt, if_neg (by omega)]
  rw [hz2]
  by_cases hlt : A * q1 < d * od
  · rw [if_pos hlt]
    refine ⟨hod1, hodm, g2, fun p q hq hqm => ?_⟩
    show dist n0 d0 on od * q ≤ dist n0 d0 p q * od
    rw [dO]
    rcases two p q hq hqm with h1 | h1
    · exact h1
    · refine le_of_mul (show 0 < q1 by omega) ?_
      have h2 : A * q1 * q ≤ d * od * q := Int.mul_le_mul_of_nonneg_right (by omega) (by omega)
      have h3 : d * q * od ≤ dist n0 d0 p q * q1 * od := Int.mul_le_mul_of_nonneg_right h1 (by omega)
      have e1 : A * q1 * q = A * q * q1 := by grind
      have e2 : d * od * q = d * q * od := by grind
      have e3 : dist n0 d0 p q * q1 * od = dist n0 d0 p q * od * q1 := by grind
      omega
  · rw [if_neg hlt]
    refine ⟨hq1, h.q1m, g1, fun p q hq hqm => ?_⟩
    show dist n0 d0 p1 q1 * q ≤ dist n0 d0 p q * q1
    rw [dl]
    rcases two p q hq hqm with h1 | h1
    · refine le_of_mul (show 0 < od by omega) ?_
      have h2 : d * od * q ≤ A * q1 * q := Int.mul_le_mul_of_nonneg_right (by omega) (by omega)
      have h3 : A * q * q1 ≤ dist n0 d0 p q * od * q1 := Int.mul_le_mul_of_nonneg_right h1 (by omega)
      have e1 : A * q1 * q = A * q * q1 := by grind
      have e2 : d * od * q = d * q * od := by grind
      have e3 : dist n0 d0 p q * od * q1 = dist n0 d0 p q * q1 * od := by grind
      omega
    · exact h1
/-- What the convergents are besides. -/
def CvK (n d p0 q0 p1 q1 : Int) : Prop := (q0 = 1 ∧ q1 = 0 ∧ p0 = 0 ∧ p1 = 1) ∨ (0 ≤ q0 ∧ q0 ≤ q1 ∧ 1 ≤ q1 ∧ 0 ≤ d ∧ d < n ∧ (q0 = 0 → p0 = 1))
theorem cvk_go {m : Int} : ∀ (f : Nat) (n d p0 q0 p1 q1 : Int), 0 ≤ d → CvK n d p0 q0 p1 q1 →
    ∃ n' d', CvK n' d' (cvg m f n d p0 q0 p1 q1).1.1 (cvg m f n d p0 q0 p1 q1).1.2 (cvg m f n d p0 q0 p1 q1).2.1 (cvg m f n d p0 q0 p1 q1).2.2
  | 0, n, d, p0, q0, p1, q1, hd, h => ⟨n, d, h⟩
  | f + 1, n, d, p0, q0, p1, q1, hd, h => by
    unfold cvg
    split
    · exact ⟨n, d, h⟩
    · split
      · exact ⟨n, d, h⟩
      · rename_i h0 h1
        have h2 : 0 ≤ n % d := Int.emod_nonneg _ h0
        have h3 : n % d < d := Int.emod_lt_of_pos _ (by omega)
        refine cvk_go f d (n % d) p1 q1 (p0 + n / d * p1) (q0 + n / d * q1) h2 ?_
        rcases h with ⟨rfl, rfl, rfl, rfl⟩ | ⟨a, b, c, _, e, g⟩
        · right
          exact ⟨by omega, by simp, by simp, h2, h3, fun _ => rfl⟩
        · right
          have h4 : 1 ≤ n / d := (Int.le_ediv_iff_mul_le (by omega)).2 (by omega)
          have h5 : 1 * q1 ≤ n / d * q1 := Int.mul_le_mul_of_nonneg_right h4 (by omega)
          exact ⟨by omega, by omega, by omega, h2, h3, fun h => by omega⟩
theorem cve_ex {n0 d0 m : Int} (hd0 : 1 ≤ d0) (hm : 1 ≤ m) : ∃ n d p0 q0 p1 q1, CvE n0 d0 m n d p0 q0 p1 q1 := by
  have main : ∀ (f : Nat) (n d p0 q0 p1 q1 : Int), CvI n0 d0 m f n d p0 q0 p1 q1 → ∃ n d p0 q0 p1 q1, CvE n0 d0 m n d p0 q0 p1 q1 := by
    intro f
    induction f with
    | zero => intro n d p0 q0 p1 q1 h; exfalso; have := h.fl; have := h.dp; omega
    | succ f ih =>
      intro n d p0 q0 p1 q1 h
      by_cases hd : d = 0
      · subst hd; exact ⟨_, _, _, _, _, _, h.end0 hd0⟩
      · by_cases hq : m < q0 + n / d * q1
        · exact ⟨_, _, _, _, _, _, h.end1 hd0 hm hd hq⟩
        · exact ih _ _ _ _ _ _ (h.next hd hd0 (by omega))
  exact main _ _ _ _ _ _ _ (CvI.start hd0 hm)
theorem cve_k {n0 d0 m n d p0 q0 p1 q1 : Int} (h : CvE n0 d0 m n d p0 q0 p1 q1) (hd0 : 1 ≤ d0) : q0 ≤ q1 ∧ (q0 = 0 → p0 = 1) := by
  obtain ⟨n', d', k⟩ := cvk_go (m := m) (d0.toNat + 1) n0 d0 0 1 1 0 (by omega) (.inl ⟨rfl, rfl, rfl, rfl⟩)
  rw [h.go] at k
  have h1 := h.q1p
  rcases k with ⟨_, k, _⟩ | ⟨_, k, _, _, _, k2⟩
  · have k' : q1 = 0 := k
    omega
  · exact ⟨k, k2⟩
/-- The same fraction. -/
theorem frac_uniq {p q p' q' : Int} (h : p * q' = p' * q) (hq : 1 ≤ q) (hq' : 1 ≤ q') (hg : Nat.gcd p.natAbs q.natAbs = 1) (hg' : Nat.gcd p'.natAbs q'.natAbs = 1) : p = p' ∧ q = q' := low_uniq h (by omega) (by omega) hg hg'
/-- Of two nearest ratios the program takes the one with the smaller denominator, or the lower one. -/
theorem near_tie {n0 d0 m p q : Int} (hD0 : 1 ≤ d0) (hm : 1 ≤ m) (hg0 : Nat.gcd n0.natAbs d0.natAbs = 1) (hmd : m < d0) (hq : 1 ≤ q) (hqm : q ≤ m) (hg : Nat.gcd p.natAbs q.natAbs = 1)
    (hE : dist n0 d0 p q * (nearZ n0 d0 m).2 = dist n0 d0 (nearZ n0 d0 m).1 (nearZ n0 d0 m).2 * q) :
    (p = (nearZ n0 d0 m).1 ∧ q = (nearZ n0 d0 m).2) ∨ (nearZ n0 d0 m).2 < q ∨ ((nearZ n0 d0 m).2 = q ∧ (nearZ n0 d0 m).1 < p) := by
  obtain ⟨n, d, p0, q0, p1, q1, h⟩ := cve_ex (n0 := n0) hD0 hm
  obtain ⟨hk1, hk2⟩ := cve_k h hD0
  obtain ⟨s, hs⟩ : ∃ s, s = (m - q0) / q1 := ⟨_, rfl⟩
  have hz := near_eq h hs
  have hq1 := h.q1p
  have hq0 := h.q0p
  have hq0m := h.q0m
  have s0 : 0 ≤ s := by rw [hs]; exact Int.ediv_nonneg (by omega) (by omega)
  have s1 : s * q1 ≤ m - q0 := by rw [hs]; exact Int.ediv_mul_le _ (by omega)
  have s2 : m - q0 < (s + 1) * q1 := by rw [hs]; exact Int.lt_ediv_add_one_mul_self _ (by omega)
  obtain ⟨A, hA⟩ : ∃ A, A = n - s * d := ⟨_, rfl⟩
  have hd := h.dp
  have hA0 : 0 ≤ A := by
    rcases h.mx with h0 | h0
    · rw [h0] at hA; have := h.dn; have : s * 0 = 0 := Int.mul_zero s; omega
    · have h1 : s * q1 < n / d * q1 := by omega
      have h2 : s < n / d := Int.lt_of_mul_lt_mul_right h1 (by omega)
      have h3 : s * d ≤ n / d * d := Int.mul_le_mul_of_nonneg_right (by omega) hd
      have h4 : n / d * d ≤ n := by
        rcases Int.lt_or_le 0 d with h5 | h5
        · exact Int.ediv_mul_le _ (by omega)
        · have h6 : d = 0 := by omega
          rw [h6]; have := h.dn; simp; omega
      omega
  obtain ⟨on, hon⟩ : ∃ x, x = p0 + s * p1 := ⟨_, rfl⟩
  obtain ⟨od, hod⟩ : ∃ x, x = q0 + s * q1 := ⟨_, rfl⟩
  obtain ⟨e, he, hdet⟩ : ∃ e : Int, (e = 1 ∨ e = -1) ∧ p1 * q0 - p0 * q1 = e := ⟨_, h.det, rfl⟩
  have hodm : od ≤ m := by omega
  have hod1 : 1 ≤ od := by
    rcases Int.lt_or_le 0 q0 with h5 | h5
    · have : 0 ≤ s * q1 := Int.mul_nonneg s0 (by omega)
      omega
    · have h6 : q0 = 0 := by omega
      rw [h6] at hdet s2 hod
      rcases Int.lt_or_le 0 s with h7 | h7
      · have : 1 * 1 ≤ s * q1 := Int.mul_le_mul (by omega) (by omega) (by omega) (by omega)
        omega
      · have h8 : s = 0 := by omega
        rw [h8] at s2
        have h9 : (p0 * q1).natAbs = 1 := by
          have : p0 * q1 = -e := by have : p1 * 0 = 0 := Int.mul_zero p1; omega
          rw [this]; omega
        rw [Int.natAbs_mul] at h9
        have h10 := Nat.eq_one_of_mul_eq_one_left h9
        omega
  have hn0 : n0 = p1 * A + on * d := by rw [← h.num, hA, hon]; grind
  have hd0 : d0 = q1 * A + od * d := by rw [← h.den, hA, hod]; grind
  have hdet2 : p1 * od - on * q1 = e := by rw [hod, hon, ← hdet]; grind
  have dl : dist n0 d0 p1 q1 = d := by
    have : n0 * q1 - p1 * d0 = e * (-d) := by rw [hn0, hd0, ← hdet2]; grind
    unfold dist; rw [this, abs_e he]; omega
  have dO : dist n0 d0 on od = A := by
    have : n0 * od - on * d0 = e * A := by rw [hn0, hd0, ← hdet2]; grind
    unfold dist; rw [this, abs_e he]; omega
  have glow : ∀ (a b : Int), (∃ x y : Int, a * x + b * y = e) → Nat.gcd a.natAbs b.natAbs = 1 := by
    rintro a b ⟨x, y, hxy⟩
    have h1 : ((Nat.gcd a.natAbs b.natAbs : Nat) : Int) ∣ e := by
      rw [← hxy]
      exact Int.dvd_add (Int.dvd_mul_of_dvd_left (Int.ofNat_dvd_left.2 (Nat.gcd_dvd_left _ _))) (Int.dvd_mul_of_dvd_left (Int.ofNat_dvd_left.2 (Nat.gcd_dvd_right _ _)))
    have h2 : Nat.gcd a.natAbs b.natAbs ∣ e.natAbs := Int.ofNat_dvd_left.1 h1
    have h3 : e.natAbs = 1 := by omega
    rw [h3] at h2
    exact Nat.dvd_one.1 h2
  have g1 : Nat.gcd p1.natAbs q1.natAbs = 1 := glow p1 q1 ⟨od, -on, by rw [← hdet2]; grind⟩
  have g2 : Nat.gcd on.natAbs od.natAbs = 1 := glow on od ⟨-q1, p1, by rw [← hdet2]; grind⟩
  have two : ∀ p q, 1 ≤ q → q ≤ m → (A * q ≤ dist n0 d0 p q * od) ∨ (d * q ≤ dist n0 d0 p q * q1) := by
    intro p q hq hqm
    obtain ⟨al, hal⟩ : ∃ x, x = e * (p * od - on * q) := ⟨_, rfl⟩
    obtain ⟨be, hbe⟩ : ∃ x, x = e * (p1 * q - p * q1) := ⟨_, rfl⟩
    have ee : e * e = 1 := by rcases he with rfl | rfl <;> rfl
    have hqq : q = al * q1 + be * od := by
      have : al * q1 + be * od = e * q * (p1 * od - on * q1) := by rw [hal, hbe]; grind
      rw [this, hdet2]
      have : e * q * e = e * e * q := by grind
      rw [this, ee, Int.one_mul]
    have hab : al ≤ 0 ∨ be ≤ 0 := by
      rcases Int.lt_or_le 0 al with h1 | h1
      · rcases Int.lt_or_le 0 be with h2 | h2
        · exfalso
          have h3 : 1 * q1 ≤ al * q1 := Int.mul_le_mul_of_nonneg_right (by omega) (by omega)
          have h4 : 1 * od ≤ be * od := Int.mul_le_mul_of_nonneg_right (by omega) (by omega)
          have h5 : (s + 1) * q1 = s * q1 + q1 := by grind
          omega
        · exact .inr h2
      · exact .inl h1
    refine near_two hA0 hd hq1 hod1 hqq hq hab ?_
    have : n0 * q - p * d0 = e * (A * be - d * al) := by
      have h1 : e * (A * be - d * al) = e * e * (A * (p1 * q - p * q1) - d * (p * od - on * q)) := by rw [hal, hbe]; grind
      rw [h1, ee, Int.one_mul, hn0, hd0]; grind
    unfold dist
    rw [this, abs_e he]
  have hz2 : nearZ n0 d0 m = if A * q1 < d * od then (on, od) else (p1, q1) := by
    rw [hz, ← hon, ← hod]
    have e1 : ((on * d0 - n0 * od) * q1).natAbs = (A * q1).natAbs := by
      rw [Int.natAbs_mul, Int.natAbs_mul]
      have : (on * d0 - n0 * od).natAbs = A.natAbs := by
        have h1 : on * d0 - n0 * od = e * (-A) := by rw [hn0, hd0, ← hdet2]; grind
        rw [h1, abs_e he]; omega
      rw [this]
    have e2 : ((p1 * d0 - n0 * q1) * od).natAbs = (d * od).natAbs := by
      rw [Int.natAbs_mul, Int.natAbs_mul]
      have : (p1 * d0 - n0 * q1).natAbs = d.natAbs := by
        have h1 : p1 * d0 - n0 * q1 = e * d := by rw [hn0, hd0, ← hdet2]; grind
        rw [h1, abs_e he]
      rw [this]
    rw [e1, e2]
    have a1 : 0 ≤ A * q1 := Int.mul_nonneg hA0 (by omega)
    have a2 : 0 ≤ d * od := Int.mul_nonneg hd (by omega)
    by_cases hlt : A * q1 < d * od
    · rw [if_pos hlt, if_pos (by omega)]
    · rw [if_neg hlt, if_neg (by omega)]
  obtain ⟨al, hal⟩ : ∃ x, x = e * (p * od - on * q) := ⟨_, rfl⟩
  obtain ⟨be, hbe⟩ : ∃ x, x = e * (p1 * q - p * q1) := ⟨_, rfl⟩
  have ee : e * e = 1 := by rcases he with rfl | rfl <;> rfl
  have hqq : q = al * q1 + be * od := by
    have : al * q1 + be * od = e * q * (p1 * od - on * q1) := by rw [hal, hbe]; grind
    rw [this, hdet2]
    have : e * q * e = e * e * q := by grind
    rw [this, ee, Int.one_mul]
  have hpp : p = al * p1 + be * on := by
    have : al * p1 + be * on = e * p * (p1 * od - on * q1) := by rw [hal, hbe]; grind
    rw [this, hdet2]
    have : e * p * e = e * e * p := by grind
    rw [this, ee, Int.one_mul]
  have hab : al ≤ 0 ∨ be ≤ 0 := by
    rcases Int.lt_or_le 0 al with h1 | h1
    · rcases Int.lt_or_le 0 be with h2 | h2
      · exfalso
        have h3 : 1 * q1 ≤ al * q1 := Int.mul_le_mul_of_nonneg_right (by omega) (by omega)
        have h4 : 1 * od ≤ be * od := Int.mul_le_mul_of_nonneg_right (by omega) (by omega)
        have h5 : (s + 1) * q1 = s * q1 + q1 := by grind
        omega
      · exact .inr h2
    · exact .inl h1
  have hf : n0 * q - p * d0 = e * (A * be - d * al) := by
    have h1 : e * (A * be - d * al) = e * e * (A * (p1 * q - p * q1) - d * (p * od - on * q)) := by rw [hal, hbe]; grind
    rw [h1, ee, Int.one_mul, hn0, hd0]; grind
  have hD : dist n0 d0 p q = ((A * be - d * al).natAbs : Nat) := by unfold dist; rw [hf, abs_e he]
  -- neither end is the ratio itself
  have hdpos : 0 < d := by
    rcases Int.lt_or_le 0 d with k | k
    · exact k
    · exfalso
      have k0 : d = 0 := by omega
      have e1 : n0 = p1 * A := by rw [hn0, k0]; simp
      have e2 : d0 = q1 * A := by rw [hd0, k0]; simp
      have e3 := (frac_uniq (p := n0) (q := d0) (p' := p1) (q' := q1) (by rw [e1, e2]; grind) hD0 hq1 hg0 g1).2
      have := h.q1m
      omega
  have hApos : 0 < A := by
    rcases Int.lt_or_le 0 A with k | k
    · exact k
    · exfalso
      have k0 : A = 0 := by omega
      have e1 : n0 = on * d := by rw [hn0, k0]; simp
      have e2 : d0 = od * d := by rw [hd0, k0]; simp
      have e3 := (frac_uniq (p := n0) (q := d0) (p' := on) (q' := od) (by rw [e1, e2]; grind) hD0 hod1 hg0 g2).2
      omega
  rw [hz2] at hE ⊢
  by_cases hlt : A * q1 < d * od
  · rw [if_pos hlt] at hE ⊢
    replace hE : dist n0 d0 p q * od = dist n0 d0 on od * q := hE
    rw [dO, hD] at hE
    show (p = on ∧ q = od) ∨ od < q ∨ (od = q ∧ on < p)
    -- on the same side it is the other end itself
    by_cases hs0 : 0 ≤ A * be - d * al
    · left
      have e1 : (((A * be - d * al).natAbs : Nat) : Int) = A * be - d * al := by omega
      rw [e1] at hE
      have e2 : (A * be - d * al) * od - A * q = -(al * (d * od + A * q1)) := by rw [hqq]; grind
      have e3 : al * (d * od + A * q1) = 0 := by omega
      have e4 : 0 < d * od + A * q1 := by
        have := Int.mul_pos hdpos (show 0 < od by omega)
        have := Int.mul_pos hApos (show 0 < q1 by omega)
        omega
      have e5 : al = 0 := by
        rcases Int.mul_eq_zero.1 e3 with k | k
        · exact k
        · omega
      exact frac_uniq (by rw [hpp, hqq, e5]; grind) hq hod1 hg g2
    · exfalso
      have e1 : (((A * be - d * al).natAbs : Nat) : Int) = d * al - A * be := by omega
      rw [e1] at hE
      have e2 : (d * al - A * be) * od - A * q = al * (d * od - A * q1) - 2 * (A * (be * od)) := by rw [hqq]; grind
      have hal1 : 0 < al := by
        rcases Int.lt_or_le 0 al with k | k
        · exact k
        · exfalso
          rcases Int.lt_or_le 0 be with k2 | k2
          · have h1 : 0 ≤ A * be := Int.mul_nonneg hA0 (by omega)
            have h2 : d * al ≤ 0 := Int.mul_nonpos_of_nonneg_of_nonpos (by omega) k
            omega
          · have h1 : al * q1 ≤ 0 := Int.mul_nonpos_of_nonpos_of_nonneg k (by omega)
            have h2 : be * od ≤ 0 := Int.mul_nonpos_of_nonpos_of_nonneg k2 (by omega)
            omega
      have hbe0 : be ≤ 0 := by omega
      have h1 : 0 < al * (d * od - A * q1) := Int.mul_pos hal1 (by omega)
      have h2 : A * (be * od) ≤ 0 := Int.mul_nonpos_of_nonneg_of_nonpos hA0 (Int.mul_nonpos_of_nonpos_of_nonneg hbe0 (by omega))
      omega
  · rw [if_neg hlt] at hE ⊢
    replace hE : dist n0 d0 p q * q1 = dist n0 d0 p1 q1 * q := hE
    rw [dl, hD] at hE
    show (p = p1 ∧ q = q1) ∨ q1 < q ∨ (q1 = q ∧ p1 < p)
    by_cases hs0 : A * be - d * al ≤ 0
    · left
      have e1 : (((A * be - d * al).natAbs : Nat) : Int) = d * al - A * be := by omega
      rw [e1] at hE
      have e2 : (d * al - A * be) * q1 - d * q = -(be * (A * q1 + d * od)) := by rw [hqq]; grind
      have e3 : be * (A * q1 + d * od) = 0 := by omega
      have e4 : 0 < A * q1 + d * od := by
        have := Int.mul_pos hdpos (show 0 < od by omega)
        have := Int.mul_pos hApos (show 0 < q1 by omega)
        omega
      have e5 : be = 0 := by
        rcases Int.mul_eq_zero.1 e3 with k | k
        · exact k
        · omega
      exact frac_uniq (by rw [hpp, hqq, e5]; grind) hq hq1 hg g1
    · right
      have e1 : (((A * be - d * al).natAbs : Nat) : Int) = A * be - d * al := by omega
      rw [e1] at hE
      have e2 : (A * be - d * al) * q1 - d * q = be * (A * q1 - d * od) - 2 * (d * (al * q1)) := by rw [hqq]; grind
      have hbe1 : 0 < be := by
        rcases Int.lt_or_le 0 be with k | k
        · exact k
        · exfalso
          rcases Int.lt_or_le 0 al with k2 | k2
          · have h1 : A * be ≤ 0 := Int.mul_nonpos_of_nonneg_of_nonpos hA0 k
            have h2 : 0 ≤ d * al := Int.mul_nonneg (by omega) (by omega)
            omega
          · have h1 : al * q1 ≤ 0 := Int.mul_nonpos_of_nonpos_of_nonneg k2 (by omega)
            have h2 : be * od ≤ 0 := Int.mul_nonpos_of_nonpos_of_nonneg k (by omega)
            omega
      have hal0 : al ≤ 0 := by omega
      have h1 : 0 ≤ be * (A * q1 - d * od) := Int.mul_nonneg (by omega) (by omega)
      have h2 : d * (al * q1) ≤ 0 := Int.mul_nonpos_of_nonneg_of_nonpos (by omega) (Int.mul_nonpos_of_nonpos_of_nonneg hal0 (by omega))
      have h3 : d * (al * q1) = 0 := by omega
      have h4 : be * (A * q1 - d * od) = 0 := by omega
      have h5 : al = 0 := by
        rcases Int.mul_eq_zero.1 h3 with k | k
        · omega
        · rcases Int.mul_eq_zero.1 k with k | k
          · exact k
          · omega
      have h6 : A * q1 = d * od := by
        rcases Int.mul_eq_zero.1 h4 with k | k
        · omega
        · omega
      obtain ⟨k1, k2⟩ := frac_uniq (p := p) (q := q) (p' := on) (q' := od) (by rw [hpp, hqq, h5]; grind) hq hod1 hg g2
      rw [k1, k2]
      -- the first convergent, or a greater denominator
      rcases Int.lt_or_le q1 od with k | k
      · exact .inl k
      · right
        have hs1 : 1 ≤ s := by
          rcases Int.lt_or_le 0 s with k3 | k3
          · omega
          · exfalso
            have k4 : s = 0 := by omega
            have k5 : od = q0 := by rw [hod, k4]; simp
            have k6 : A = n := by rw [hA, k4]; simp
            rw [k5, k6] at h6
            have k7 := h.dn
            have k8 : d * q0 ≤ d * q1 := Int.mul_le_mul_of_nonneg_left hk1 (by omega)
            have k9 : d * q1 < n * q1 := Int.mul_lt_mul_of_pos_right k7 (by omega)
            omega
        have k3 : 1 * q1 ≤ s * q1 := Int.mul_le_mul_of_nonneg_right hs1 (by omega)
        have k4 : q0 = 0 := by omega
        have k5 : p0 = 1 := hk2 k4
        have k6 : e = -q1 := by rw [← hdet, k4, k5]; simp
        have k7 : q1 = 1 := by omega
        have k8 : s = 1 := by
          have : s * q1 = s := by rw [k7]; simp
          omega
        refine ⟨by omega, ?_⟩
        have k9 : on = p0 + p1 := by rw [hon, k8]; simp
        omega
/-- What is known of the nearest ratio. -/
structure Near (n0 d0 m zn zd : Int) : Prop where
  pos : 1 ≤ zd
  le : zd ≤ m
  low : Nat.gcd zn.natAbs zd.natAbs = 1
  best : ∀ p q, 1 ≤ q → q ≤ m → dist n0 d0 zn zd * q ≤ dist n0 d0 p q * zd
theorem near_is {n0 d0 m : Int} (hd0 : 1 ≤ d0) (hm : 1 ≤ m) : Near n0 d0 m (nearZ n0 d0 m).1 (nearZ n0 d0 m).2 := by
  obtain ⟨n, d, p0, q0, p1, q1, h⟩ := cve_ex (n0 := n0) hd0 hm
  obtain ⟨a, b, c, e⟩ := near_best h hm
  exact ⟨a, b, c, e⟩
/-- Its numerator is not too large. -/
theorem Near.num {n0 d0 m zn zd : Int} (h : Near n0 d0 m zn zd) (hd0 : 1 ≤ d0) (hm : 1 ≤ m) : zn.natAbs ≤ (n0.natAbs + 1) * zd.natAbs := by
  have h1 := h.best (n0 / d0) 1 (by omega) hm
  have e := Int.mul_ediv_add_emod n0 d0
  have r1 := Int.emod_nonneg n0 (show d0 ≠ 0 by omega)
  have r2 := Int.emod_lt_of_pos n0 (show 0 < d0 by omega)
  have hp := h.pos
  have e2 : dist n0 d0 (n0 / d0) 1 ≤ d0 := by
    unfold dist
    have : n0 / d0 * d0 = d0 * (n0 / d0) := Int.mul_comm _ _
    omega
  have e3 : dist n0 d0 zn zd ≤ d0 * zd := by
    have := Int.mul_le_mul_of_nonneg_right e2 (show 0 ≤ zd by omega)
    omega
  have e4 : zn * d0 = n0 * zd - (n0 * zd - zn * d0) := by omega
  have e5 : (zn * d0).natAbs ≤ (n0 * zd).natAbs + (d0 * zd).natAbs := by
    unfold dist at e3
    have : 0 ≤ d0 * zd := Int.mul_nonneg (by omega) (by omega)
    omega
  rw [Int.natAbs_mul, Int.natAbs_mul, Int.natAbs_mul] at e5
  have e6 : zn.natAbs * d0.natAbs ≤ ((n0.natAbs + 1) * zd.natAbs) * d0.natAbs := by
    have h7 : n0.natAbs * zd.natAbs * 1 ≤ n0.natAbs * zd.natAbs * d0.natAbs := Nat.mul_le_mul_left _ (by omega)
    have h8 : ((n0.natAbs + 1) * zd.natAbs) * d0.natAbs = n0.natAbs * zd.natAbs * d0.natAbs + d0.natAbs * zd.natAbs := by grind
    omega
  exact Nat.le_of_mul_le_mul_right e6 (by omega)
/-- Distances in lowest terms. -/
theorem low_dist {n0 d0 p q : Int} {y1 : Int} {y2 : Nat} {b : Nat} (hb : (b : Int) = d0 * q) (h : y1 * (b : Int) = (n0 * q - p * d0) * (y2 : Int)) : (y1.natAbs : Int) * (d0 * q) = dist n0 d0 p q * (y2 : Int) := by
  have h1 : y1.natAbs * b = (n0 * q - p * d0).natAbs * y2 := by
    have := congrArg Int.natAbs h
    rw [Int.natAbs_mul, Int.natAbs_mul, Int.natAbs_natCast, Int.natAbs_natCast] at this
    exact this
  have h2 : ((y1.natAbs * b : Nat) : Int) = (((n0 * q - p * d0).natAbs * y2 : Nat) : Int) := by rw [h1]
  rw [Int.natCast_mul, Int.natCast_mul, hb] at h2
  exact h2
theorem lt_of_mul {x y k : Int} (hk : 0 < k) (h : x * k < y * k) : x < y := Int.lt_of_mul_lt_mul_right h (Int.le_of_lt hk)
theorem dist_nn {n0 d0 p q : Int} : 0 ≤ dist n0 d0 p q := by unfold dist; omega
/-- The same fraction has the same distance. -/
theorem dist_scale {n0 d0 y1 y2 c d : Int} (h : y1 * d = c * y2) (h2 : 1 ≤ y2) (hd : 1 ≤ d) : dist n0 d0 y1 y2 * d = dist n0 d0 c d * y2 := by
  have h1 : (n0 * y2 - y1 * d0) * d = (n0 * d - c * d0) * y2 := by grind
  have h3 := congrArg Int.natAbs h1
  rw [Int.natAbs_mul, Int.natAbs_mul] at h3
  have h4 : ((n0 * y2 - y1 * d0).natAbs : Int) * (d.natAbs : Int) = ((n0 * d - c * d0).natAbs : Int) * (y2.natAbs : Int) := by
    rw [← Int.natCast_mul, ← Int.natCast_mul, h3]
  unfold dist
  rw [show ((d.natAbs : Nat) : Int) = d by omega, show ((y2.natAbs : Nat) : Int) = y2 by omega] at h4
  exact h4
/-- The best so far: denominators below d, and those p at d of which S speaks; and it is the first of the best. -/
structure Bst (n0 d0 d : Int) (S : Int → Prop) (bp bq : Int) : Prop where
  q1 : 1 ≤ bq
  qd : bq ≤ d
  g : Nat.gcd bp.natAbs bq.natAbs = 1
  vis : ∀ p q, 1 ≤ q → (q < d ∨ (q = d ∧ S p)) → dist n0 d0 bp bq * q ≤ dist n0 d0 p q * bq
  tie : ∀ p q, 1 ≤ q → (q < bq ∨ (q = bq ∧ p < bp)) → dist n0 d0 bp bq * q < dist n0 d0 p q * bq
theorem bst_step {n0 d0 d : Int} {S T : Int → Prop} {bp bq c y1 y2 : Int} (h : Bst n0 d0 d S bp bq) (hd : 1 ≤ d) (hy : y1 * d = c * y2) (hy2 : 1 ≤ y2) (hyd : y2 ≤ d) (hg : Nat.gcd y1.natAbs y2.natAbs = 1)
    (hT : ∀ p, T p → S p ∨ dist n0 d0 c d ≤ dist n0 d0 p d) (hS : ∀ p, p < c → S p ∨ dist n0 d0 c d < dist n0 d0 p d) :
    (dist n0 d0 y1 y2 * bq < dist n0 d0 bp bq * y2 → Bst n0 d0 d T y1 y2) ∧ (¬ dist n0 d0 y1 y2 * bq < dist n0 d0 bp bq * y2 → Bst n0 d0 d T bp bq) := by
  have sc := dist_scale (n0 := n0) (d0 := d0) hy hy2 hd
  have q1 := h.q1
  have hvis := h.vis
  have htie := h.tie
  obtain ⟨Y, hY⟩ : ∃ Y, Y = dist n0 d0 y1 y2 := ⟨_, rfl⟩
  obtain ⟨Bd, hB⟩ : ∃ B, B = dist n0 d0 bp bq := ⟨_, rfl⟩
  obtain ⟨C, hC⟩ : ∃ C, C = dist n0 d0 c d := ⟨_, rfl⟩
  rw [← hY, ← hC] at sc
  simp only [← hB] at hvis htie
  rw [← hY, ← hB]
  constructor
  · intro hlt
    have strict : ∀ p q, 1 ≤ q → (q < d ∨ (q = d ∧ S p)) → Y * q < dist n0 d0 p q * y2 := by
      intro p q hq hv
      have h1 := hvis p q hq hv
      refine lt_of_mul (show 0 < bq by omega) ?_
      have e1 : Y * bq * q < Bd * y2 * q := Int.mul_lt_mul_of_pos_right hlt (by omega)
      have e2 : Bd * q * y2 ≤ dist n0 d0 p q * bq * y2 := Int.mul_le_mul_of_nonneg_right h1 (by omega)
      have e3 : Y * q * bq = Y * bq * q := by grind
      have e4 : Bd * q * y2 = Bd * y2 * q := by grind
      have e5 : dist n0 d0 p q * bq * y2 = dist n0 d0 p q * y2 * bq := by grind
      omega
    refine ⟨hy2, hyd, hg, ?_, ?_⟩
    · intro p q hq hv
      rw [← hY]
      rcases hv with hv | ⟨rfl, hv⟩
      · exact Int.le_of_lt (strict p q hq (.inl hv))
      · rcases hT p hv with h1 | h1
        · exact Int.le_of_lt (strict p q hq (.inr ⟨rfl, h1⟩))
        · rw [sc]
          rw [← hC] at h1
          exact Int.mul_le_mul_of_nonneg_right h1 (by omega)
    · intro p q hq hv
      rw [← hY]
      rcases hv with hv | ⟨rfl, hv⟩
      · exact strict p q hq (.inl (by omega))
      · rcases Int.lt_or_le q d with h1 | h1
        · exfalso
          have h2 := hvis y1 q hq (.inl h1)
          rw [← hY] at h2
          omega
        · have e : q = d := by omega
          subst e
          have ec : y1 = c := Int.eq_of_mul_eq_mul_right (by omega) hy
          subst ec
          rcases hS p hv with h2 | h2
          · exact strict p q hq (.inr ⟨rfl, h2⟩)
          · rw [sc]
            rw [← hC] at h2
            exact Int.mul_lt_mul_of_pos_right h2 (by omega)
  · intro hge
    refine ⟨q1, h.qd, h.g, ?_, ?_⟩
    · intro p q hq hv
      rw [← hB]
      rcases hv with hv | ⟨rfl, hv⟩
      · exact hvis p q hq (.inl hv)
      · rcases hT p hv with h1 | h1
        · exact hvis p q hq (.inr ⟨rfl, h1⟩)
        · rw [← hC] at h1
          refine le_of_mul (show 0 < y2 by omega) ?_
          have e1 : Bd * y2 * q ≤ Y * bq * q := Int.mul_le_mul_of_nonneg_right (by omega) (by omega)
          have e2 : Y * bq * q = C * bq * y2 := by
            have : Y * bq * q = Y * q * bq := by grind
            rw [this, sc]; grind
          have e3 : C * bq * y2 ≤ dist n0 d0 p q * bq * y2 := Int.mul_le_mul_of_nonneg_right (Int.mul_le_mul_of_nonneg_right h1 (by omega)) (by omega)
          have e4 : Bd * q * y2 = Bd * y2 * q := by grind
          omega
    · intro p q hq hv
      rw [← hB]
      exact htie p q hq hv
/-- Distances at one denominator: the one below, and the next one. -/
theorem dist_low {n0 d0 d low r p : Int} (hn : n0 * d = low * d0 + r) (h0 : 0 ≤ r) (h1 : r < d0) : (p < low → dist n0 d0 low d < dist n0 d0 p d) ∧ (low + 1 ≤ p → dist n0 d0 (low + 1) d ≤ dist n0 d0 p d) ∧ (p = low → dist n0 d0 low d ≤ dist n0 d0 p d) := by
  unfold dist
  refine ⟨fun h => ?_, fun h => ?_, fun h => by subst h; omega⟩
  · have e : 1 * d0 ≤ (low - p) * d0 := Int.mul_le_mul_of_nonneg_right (by omega) (by omega)
    have e2 : (low - p) * d0 = low * d0 - p * d0 := by grind
    omega
  · have e : 0 ≤ (p - (low + 1)) * d0 := Int.mul_nonneg (by omega) (by omega)
    have e2 : (p - (low + 1)) * d0 = p * d0 - (low + 1) * d0 := by grind
    have e3 : (low + 1) * d0 = low * d0 + d0 := by grind
    omega
theorem bst_init {n0 d0 L r : Int} (hn : n0 = L * d0 + r) (h0 : 0 ≤ r) (h1 : r < d0) : Bst n0 d0 1 (fun _ => False) L 1 := by
  refine ⟨by omega, by omega, Nat.gcd_one_right _, fun p q hq hv => ?_, fun p q hq hv => ?_⟩
  · rcases hv with hv | ⟨_, hv⟩
    · omega
    · exact hv.elim
  · rcases hv with hv | ⟨rfl, hv⟩
    · omega
    · have := (dist_low (n0 := n0) (d0 := d0) (d := 1) (low := L) (r := r) (p := p) (by omega) h0 h1).1 hv
      omega
theorem bst_low {n0 d0 d low r bp bq y1 y2 : Int} (h : Bst n0 d0 d (fun _ => False) bp bq) (hd : 1 ≤ d) (hn : n0 * d = low * d0 + r) (h0 : 0 ≤ r) (h1 : r < d0) (hy : y1 * d = low * y2) (hy2 : 1 ≤ y2) (hyd : y2 ≤ d) (hg : Nat.gcd y1.natAbs y2.natAbs = 1) :
    (dist n0 d0 y1 y2 * bq < dist n0 d0 bp bq * y2 → Bst n0 d0 d (fun p => p ≤ low) y1 y2) ∧ (¬ dist n0 d0 y1 y2 * bq < dist n0 d0 bp bq * y2 → Bst n0 d0 d (fun p => p ≤ low) bp bq) := by
  refine bst_step h hd hy hy2 hyd hg (fun p hp => .inr ?_) (fun p hp => .inr ((dist_low hn h0 h1).1 hp))
  rcases Int.lt_or_le p low with h2 | h2
  · exact Int.le_of_lt ((dist_low hn h0 h1).1 h2)
  · exact (dist_low hn h0 h1).2.2 (by omega)
theorem bst_high {n0 d0 d low r bp bq y1 y2 : Int} (h : Bst n0 d0 d (fun p => p ≤ low) bp bq) (hd : 1 ≤ d) (hn : n0 * d = low * d0 + r) (h0 : 0 ≤ r) (h1 : r < d0) (hy : y1 * d = (low + 1) * y2) (hy2 : 1 ≤ y2) (hyd : y2 ≤ d) (hg : Nat.gcd y1.natAbs y2.natAbs = 1) :
    (dist n0 d0 y1 y2 * bq < dist n0 d0 bp bq * y2 → Bst n0 d0 d (fun _ => True) y1 y2) ∧ (¬ dist n0 d0 y1 y2 * bq < dist n0 d0 bp bq * y2 → Bst n0 d0 d (fun _ => True) bp bq) := by
  refine bst_step h hd hy hy2 hyd hg (fun p hp => ?_) (fun p hp => .inl (by show p ≤ low; omega))
  rcases Int.lt_or_le low p with h2 | h2
  · exact .inr ((dist_low hn h0 h1).2.1 (by omega))
  · exact .inl h2
theorem bst_next {n0 d0 d bp bq : Int} (h : Bst n0 d0 d (fun _ => True) bp bq) : Bst n0 d0 (d + 1) (fun _ => False) bp bq := by
  refine ⟨h.q1, by have := h.qd; omega, h.g, fun p q hq hv => ?_, h.tie⟩
  rcases hv with hv | ⟨_, hv⟩
  · refine h.vis p q hq ?_
    rcases Int.lt_or_le q d with h2 | h2
    · exact .inl h2
    · exact .inr ⟨by omega, trivial⟩
  · exact hv.elim
/-- Comparing distances in lowest terms. -/
theorem cmp_dist {d0 yd zd Dy Dz a b u v : Int} (hd : 1 ≤ d0) (hy : 1 ≤ yd) (hz : 1 ≤ zd) (hu : 1 ≤ u) (hv : 1 ≤ v) (h1 : a * (d0 * yd) = Dy * u) (h2 : b * (d0 * zd) = Dz * v) : a * v < b * u ↔ Dy * zd < Dz * yd := by
  have p1 : 0 < d0 * yd * zd := Int.mul_pos (Int.mul_pos (by omega) (by omega)) (by omega)
  have p2 : 0 < u * v := Int.mul_pos (by omega) (by omega)
  have e1 : a * v * (d0 * yd * zd) = (Dy * zd) * (u * v) := by
    have : a * v * (d0 * yd * zd) = (a * (d0 * yd)) * (zd * v) := by grind
    rw [this, h1]; grind
  have e2 : b * u * (d0 * yd * zd) = (Dz * yd) * (u * v) := by
    have : b * u * (d0 * yd * zd) = (b * (d0 * zd)) * (yd * u) := by grind
    rw [this, h2]; grind
  constructor
  · intro h
    refine lt_of_mul p2 ?_
    have := Int.mul_lt_mul_of_pos_right h p1
    omega
  · intro h
    refine lt_of_mul p1 ?_
    have := Int.mul_lt_mul_of_pos_right h p2
    omega
/-- Two neighbours on the way down the tree of all ratios. -/
structure Tre (n0 d0 m an ad bn bd : Int) : Prop where
  a1 : 1 ≤ ad
  b1 : 1 ≤ bd
  am : ad ≤ m
  bm : bd ≤ m
  det : bn * ad - an * bd = 1
  lo : an * d0 ≤ n0 * ad
  hi : n0 * bd < bn * d0
  na : (an.natAbs : Int) ≤ (n0.natAbs + 1) * ad
  nb : (bn.natAbs : Int) ≤ (n0.natAbs + 1) * bd
theorem tre_init {n0 d0 m L r : Int} (hm : 1 ≤ m) (hn : n0 = L * d0 + r) (h0 : 0 ≤ r) (h1 : r < d0) : Tre n0 d0 m L 1 (L + 1) 1 := by
  have hL : L.natAbs ≤ n0.natAbs := by
    rcases Int.lt_or_le L 0 with h | h
    · have e : L * d0 ≤ L * 1 := Int.mul_le_mul_of_nonpos_left (by omega) (by omega)
      have e2 : (L + 1) * d0 ≤ (L + 1) * 1 := Int.mul_le_mul_of_nonpos_left (by omega) (by omega)
      have e3 : (L + 1) * d0 = L * d0 + d0 := by grind
      omega
    · have e : L * 1 ≤ L * d0 := Int.mul_le_mul_of_nonneg_left (by omega) h
      omega
  have e3 : (L + 1) * d0 = L * d0 + d0 := by grind
  exact ⟨by omega, by omega, hm, hm, by omega, by omega, by omega, by omega, by omega⟩
theorem tre_a {n0 d0 m an ad bn bd : Int} (h : Tre n0 d0 m an ad bn bd) (hm : ad + bd ≤ m) (hx : (an + bn) * d0 ≤ n0 * (ad + bd)) : Tre n0 d0 m (an + bn) (ad + bd) bn bd := by
  obtain ⟨a1, b1, am, bm, det, lo, hi, na, nb⟩ := h
  have e1 : bn * (ad + bd) - (an + bn) * bd = bn * ad - an * bd := by grind
  have e2 : ((n0.natAbs : Int) + 1) * (ad + bd) = (n0.natAbs + 1) * ad + (n0.natAbs + 1) * bd := by grind
  exact ⟨by omega, b1, hm, bm, by omega, hx, hi, by rw [e2]; omega, nb⟩
theorem tre_b {n0 d0 m an ad bn bd : Int} (h : Tre n0 d0 m an ad bn bd) (hm : ad + bd ≤ m) (hx : ¬ (an + bn) * d0 ≤ n0 * (ad + bd)) : Tre n0 d0 m an ad (an + bn) (ad + bd) := by
  obtain ⟨a1, b1, am, bm, det, lo, hi, na, nb⟩ := h
  have e1 : (an + bn) * ad - an * (ad + bd) = bn * ad - an * bd := by grind
  have e2 : ((n0.natAbs : Int) + 1) * (ad + bd) = (n0.natAbs + 1) * ad + (n0.natAbs + 1) * bd := by grind
  exact ⟨a1, by omega, am, hm, by omega, lo, by omega, na, by rw [e2]; omega⟩
/-- Between neighbours whose sum is out of reach there is nothing, so the nearest one is one of both. -/
theorem tre_end {n0 d0 m an ad bn bd yn yd : Int} (h : Tre n0 d0 m an ad bn bd) (hd0 : 1 ≤ d0) (hm : m < ad + bd) (hy1 : 1 ≤ yd) (hym : yd ≤ m) (hbest : ∀ p q, 1 ≤ q → q ≤ m → dist n0 d0 yn yd * q ≤ dist n0 d0 p q * yd) : yn * ad = an * yd ∨ yn * bd = bn * yd := by
  obtain ⟨a1, b1, am, bm, det, lo, hi, na, nb⟩ := h
  obtain ⟨u, hu⟩ : ∃ u, u = yn * ad - an * yd := ⟨_, rfl⟩
  obtain ⟨v, hv⟩ : ∃ v, v = bn * yd - yn * bd := ⟨_, rfl⟩
  have e : yd = u * bd + v * ad := by
    have : u * bd + v * ad = yd * (bn * ad - an * bd) := by rw [hu, hv]; grind
    rw [this, det]; omega
  have huv : u ≤ 0 ∨ v ≤ 0 := by
    rcases Int.lt_or_le 0 u with h1 | h1
    · rcases Int.lt_or_le 0 v with h2 | h2
      · exfalso
        have h3 : 1 * bd ≤ u * bd := Int.mul_le_mul_of_nonneg_right (by omega) (by omega)
        have h4 : 1 * ad ≤ v * ad := Int.mul_le_mul_of_nonneg_right (by omega) (by omega)
        omega
      · exact .inr h2
    · exact .inl h1
  rcases huv with h1 | h1
  · left
    rcases Int.lt_or_le u 0 with h2 | h2
    · exfalso
      have h3 := hbest an ad a1 am
      have e1 : (n0 * yd - yn * d0) * ad = yd * (n0 * ad - an * d0) + d0 * (-u) := by rw [hu]; grind
      have e2 : 0 ≤ yd * (n0 * ad - an * d0) := Int.mul_nonneg (by omega) (by omega)
      have e3 : 1 * 1 ≤ d0 * (-u) := Int.mul_le_mul (by omega) (by omega) (by omega) (by omega)
      have e4 : 0 ≤ n0 * yd - yn * d0 := by
        refine le_of_mul (show 0 < ad by omega) ?_
        omega
      have e5 : dist n0 d0 yn yd = n0 * yd - yn * d0 := by unfold dist; omega
      have e6 : dist n0 d0 an ad = n0 * ad - an * d0 := by unfold dist; omega
      rw [e5, e6, e1] at h3
      have e7 : (n0 * ad - an * d0) * yd = yd * (n0 * ad - an * d0) := Int.mul_comm _ _
      omega
    · omega
  · right
    rcases Int.lt_or_le v 0 with h2 | h2
    · exfalso
      have h3 := hbest bn bd b1 bm
      have e1 : (yn * d0 - n0 * yd) * bd = yd * (bn * d0 - n0 * bd) + d0 * (-v) := by rw [hv]; grind
      have e2 : 0 ≤ yd * (bn * d0 - n0 * bd) := Int.mul_nonneg (by omega) (by omega)
      have e3 : 1 * 1 ≤ d0 * (-v) := Int.mul_le_mul (by omega) (by omega) (by omega) (by omega)
      have e4 : 0 ≤ yn * d0 - n0 * yd := by
        refine le_of_mul (show 0 < bd by omega) ?_
        omega
      have e5 : dist n0 d0 yn yd = yn * d0 - n0 * yd := by unfold dist; omega
      have e6 : dist n0 d0 bn bd = bn * d0 - n0 * bd := by unfold dist; omega
      rw [e5, e6, e1] at h3
      have e7 : (bn * d0 - n0 * bd) * yd = yd * (bn * d0 - n0 * bd) := Int.mul_comm _ _
      omega
    · omega
/-- The best of all with denominators up to m is the one that the program takes. -/
theorem bst_end {n0 d0 m bp bq : Int} (h : Bst n0 d0 (m + 1) (fun _ => False) bp bq) (hq : bq ≤ m) (hd0 : 1 ≤ d0) (hm : 1 ≤ m) (hg0 : Nat.gcd n0.natAbs d0.natAbs = 1) (hmd : m < d0) : bp = (nearZ n0 d0 m).1 ∧ bq = (nearZ n0 d0 m).2 := by
  have N := near_is (n0 := n0) hd0 hm
  have h1 := h.vis (nearZ n0 d0 m).1 (nearZ n0 d0 m).2 N.pos (.inl (by have := N.le; omega))
  have h2 := N.best bp bq h.q1 hq
  have hE : dist n0 d0 bp bq * (nearZ n0 d0 m).2 = dist n0 d0 (nearZ n0 d0 m).1 (nearZ n0 d0 m).2 * bq := by omega
  rcases near_tie hd0 hm hg0 hmd h.q1 hq h.g hE with h3 | h3
  · exact h3
  · exfalso
    have h4 := h.tie (nearZ n0 d0 m).1 (nearZ n0 d0 m).2 N.pos (by rcases h3 with h3 | ⟨h3, h5⟩; exact .inl h3; exact .inr ⟨h3, h5⟩)
    omega
end Go.Proofs.YtfgkhdpdjclmkaaGreat
