/- Make and Pow of the program with every outcome in one statement; RationalMakes' words. -/
import Derived.Test.YtflmcgoijofpdaaGreatAAr2
import Derived.Test.YtflmcgoijofpdaaGreatARpow
import Derived.Test.YtflmcgoijofpdaaGreatAPow7
namespace Go.Proofs.YtflmcgoijofpdaaGreat
open Go.RowKit
set_option maxHeartbeats 400000
set_option maxRecDepth 100000
set_option linter.unusedSimpArgs false
set_option linter.unusedVariables false

/-- The ratio of zeros. -/
def Zr (r : RV) : Prop := IRep r.num.neg r.num.xs 0 ∧ IRep r.den.neg r.den.xs 0
theorem Zr.form {r : RV} (h : Zr r) {w : World} {B : Nat} (H : r.at w B) : r.num.neg = false ∧ r.num.n = 0 ∧ r.den.neg = false ∧ r.den.n = 0 := by
  have h1 := (IRep.len0 h.1).2 rfl
  have h2 := (IRep.len0 h.2).2 rfl
  have h3 := H.1.len.out
  have h4 := H.2.len.out
  exact ⟨h.1.sgn, by omega, h.2.sgn, by omega⟩
def MkRes (a b : IV) (r : RV) (f1 f2 : Int) : Prop :=
  (ffault [a, b] 0 = (6, f2) ∧ f1 = 6 ∧ Zr r) ∨ (a.ok = true ∧ b.ok = true ∧ b.val = 0 ∧ f1 = 22 ∧ f2 = -2 ∧ Zr r) ∨ (a.ok = true ∧ b.ok = true ∧ b.val ≠ 0 ∧ ZRes r f1 f2 a.val b.val)
def GivesFR (w : World) (P : RV → Int → Int → Prop) (e : Ending) (w' : World) : Prop :=
  ∃ (r : RV) (f1 f2 : Int), e = .returned (.tuple #[r.v, flt f1 f2]) ∧ r.at w' w'.heap.size ∧ P r f1 f2 ∧ Below w.heap.size w w'
theorem gfr_rat {w w' : World} {z1 z2 f1 f2 : Int} {e : Ending} {P : RV → Int → Int → Prop} (h : GivesRat w z1 z2 f1 f2 e w') (hp : ∀ r : RV, IRep r.num.neg r.num.xs z1 → IRep r.den.neg r.den.xs z2 → P r f1 f2) : GivesFR w P e w' := by
  obtain ⟨m, A, k, c, xs, m', D, l, d, ys, rfl, H1, H2, I, J, hb⟩ := h
  exact ⟨⟨⟨m, A, k, c, xs⟩, ⟨m', D, l, d, ys⟩⟩, f1, f2, rfl, ⟨H1, H2⟩, hp _ I J, hb⟩
theorem ff2_cases (a b : IV) : (∃ f2, ffault [a, b] 0 = (6, f2)) ∨ (a.ok = true ∧ b.ok = true ∧ ffault [a, b] 0 = (0, 0)) := by
  show (∃ f2, (if a.ok then (if b.ok then ((0, 0) : Int × Int) else (6, -1 - ((0 + 1 : Nat) : Int))) else (6, -1 - ((0 : Nat) : Int))) = (6, f2)) ∨ (_ ∧ _ ∧ (if a.ok then (if b.ok then ((0, 0) : Int × Int) else (6, -1 - ((0 + 1 : Nat) : Int))) else (6, -1 - ((0 : Nat) : Int))) = (0, 0))
  by_cases oa : a.ok = true
  · by_cases ob : b.ok = true
    · right; rw [if_pos oa, if_pos ob]; exact ⟨oa, ob, rfl⟩
    · left; rw [if_pos oa, if_neg ob]; exact ⟨_, rfl⟩
  · left; rw [if_neg oa]; exact ⟨_, rfl⟩
theorem rmake_u (w : World) (B : Nat) (a b : IV) (HA : a.at w B) (HB : b.at w B) (hB : B ≤ w.heap.size) :
    Calls Tryz.prog 26 #[a.v, b.v] w (GivesFR w (MkRes a b)) := by
  rcases ff2_cases a b with ⟨f2, h⟩ | ⟨oa, ob, _⟩
  · exact (rmake_bad w B a b HA HB hB f2 h).mono fun _ _ g => gfr_rat g fun r I J => Or.inl ⟨h, rfl, I, J⟩
  · by_cases hz : b.val = 0
    · exact (rmake_zero w B a b HA HB hB oa ob hz).mono fun _ _ g => gfr_rat g fun r I J => Or.inr (Or.inl ⟨oa, ob, hz, rfl, rfl, I, J⟩)
    · refine (rmake_ok w B a b HA HB hB oa ob hz).mono fun _ _ g => ?_
      obtain ⟨r, f1, f2, he, H, hZ, hb⟩ := quo_z g hz
      exact ⟨r, f1, f2, he, H, Or.inr (Or.inr ⟨oa, ob, hz, hZ⟩), hb⟩
/-- The fault that a power has by its arguments. -/
def pf (x : RV) (z : Int) : Int × Int := if x.ok = false then (6, -1) else if z < -10000 ∨ 10000 < z then (4, -2) else if z < 0 ∧ x.num.val = 0 then (22, -1) else (0, 0)
def pbx (x : RV) (z : Int) : Int := if z < 0 then sval x.num.neg x.den.val.natAbs else x.num.val
def pby (x : RV) (z : Int) : Int := if z < 0 then sval false x.num.val.natAbs else x.den.val
def PwOk (X Y : Int) (n : Nat) (r : RV) (g1 g2 : Int) : Prop :=
  ((X ^ n).natAbs < Top128 ∧ (Y ^ n).natAbs < Top128 ∧ g1 = 0 ∧ g2 = 0 ∧ IRep r.num.neg r.num.xs (X ^ n) ∧ IRep r.den.neg r.den.xs (Y ^ n)) ∨ ((Top128 ≤ (X ^ n).natAbs ∨ Top128 ≤ (Y ^ n).natAbs) ∧ g1 = 14 ∧ g2 = -1 ∧ Zr r)
def PwRes (x : RV) (z : Int) (r : RV) (g1 g2 : Int) : Prop :=
  (x.ok = false ∧ g1 = 6 ∧ g2 = -1 ∧ Zr r) ∨ (x.ok = true ∧ (z < -10000 ∨ 10000 < z) ∧ g1 = 4 ∧ g2 = -2 ∧ Zr r) ∨ (x.ok = true ∧ -10000 ≤ z ∧ z < 0 ∧ x.num.val = 0 ∧ g1 = 22 ∧ g2 = -1 ∧ Zr r) ∨ (x.ok = true ∧ -10000 ≤ z ∧ z ≤ 10000 ∧ (z < 0 → x.num.val ≠ 0) ∧ PwOk (pbx x z) (pby x z) z.natAbs r g1 g2)
theorem rf1 {x : RV} (h : x.ok = false) : rfault [x] 0 = (6, -1) := by
  show (if x.ok then _ else _) = _
  rw [if_neg (by rw [h]; decide)]; rfl
theorem pow_u (w : World) (B : Nat) (a : RV) (z : Int) (H1 : a.at w B) (hB : B ≤ w.heap.size) :
    Calls Tryz.prog 27 #[a.v, .int .i64 z] w (GivesFR w (PwRes a z)) := by
  cases oa : a.ok
  · exact (rpow_bad w B a H1 hB z (-1) (rf1 oa)).mono fun _ _ g => gfr_rat g fun r I J => Or.inl ⟨oa, rfl, rfl, I, J⟩
  by_cases h0 : z < -10000
  · exact (rpow_lo w B a H1 hB z oa h0).mono fun _ _ g => gfr_rat g fun r I J => Or.inr (Or.inl ⟨oa, Or.inl h0, rfl, rfl, I, J⟩)
  by_cases h1 : 10000 < z
  · exact (rpow_hi w B a H1 hB z oa h1).mono fun _ _ g => gfr_rat g fun r I J => Or.inr (Or.inl ⟨oa, Or.inr h1, rfl, rfl, I, J⟩)
  have h0' : -10000 ≤ z := by omega
  have h1' : z ≤ 10000 := by omega
  by_cases h2 : z < 0
  · by_cases hn : a.num.val = 0
    · exact (rpow_nz w B a H1 hB z oa h0' h2 hn).mono fun _ _ g => gfr_rat g fun r I J => Or.inr (Or.inr (Or.inl ⟨oa, h0', h2, hn, rfl, rfl, I, J⟩))
    · have e : (-z).toNat = z.natAbs := by omega
      have ex : pbx a z = sval a.num.neg a.den.val.natAbs := if_pos h2
      have ey : pby a z = sval false a.num.val.natAbs := if_pos h2
      by_cases t1 : (sval a.num.neg a.den.val.natAbs ^ (-z).toNat).natAbs < Top128
      · by_cases t2 : (sval false a.num.val.natAbs ^ (-z).toNat).natAbs < Top128
        · refine (rpow_nok w B a H1 hB z oa h0' h2 hn t1 t2).mono fun _ _ g => gfr_rat g fun r I J => Or.inr (Or.inr (Or.inr ⟨oa, h0', h1', fun _ => hn, ?_⟩))
          rw [ex, ey, ← e]
          exact Or.inl ⟨t1, t2, rfl, rfl, I, J⟩
        · refine (rpow_nb2 w B a H1 hB z oa h0' h2 hn t1 (by omega)).mono fun _ _ g => gfr_rat g fun r I J => Or.inr (Or.inr (Or.inr ⟨oa, h0', h1', fun _ => hn, ?_⟩))
          rw [ex, ey, ← e]
          exact Or.inr ⟨Or.inr (by omega), rfl, rfl, I, J⟩
      · refine (rpow_nb1 w B a H1 hB z oa h0' h2 hn (by omega)).mono fun _ _ g => gfr_rat g fun r I J => Or.inr (Or.inr (Or.inr ⟨oa, h0', h1', fun _ => hn, ?_⟩))
        rw [ex, ey, ← e]
        exact Or.inr ⟨Or.inl (by omega), rfl, rfl, I, J⟩
  · have e : z.toNat = z.natAbs := by omega
    have ex : pbx a z = a.num.val := if_neg h2
    have ey : pby a z = a.den.val := if_neg h2
    by_cases t1 : (a.num.val ^ z.toNat).natAbs < Top128
    · by_cases t2 : (a.den.val ^ z.toNat).natAbs < Top128
      · refine (rpow_pok w B a H1 hB z oa (by omega) h1' t1 t2).mono fun _ _ g => gfr_rat g fun r I J => Or.inr (Or.inr (Or.inr ⟨oa, h0', h1', fun h => absurd h h2, ?_⟩))
        rw [ex, ey, ← e]
        exact Or.inl ⟨t1, t2, rfl, rfl, I, J⟩
      · refine (rpow_pb2 w B a H1 hB z oa (by omega) h1' t1 (by omega)).mono fun _ _ g => gfr_rat g fun r I J => Or.inr (Or.inr (Or.inr ⟨oa, h0', h1', fun h => absurd h h2, ?_⟩))
        rw [ex, ey, ← e]
        exact Or.inr ⟨Or.inr (by omega), rfl, rfl, I, J⟩
    · refine (rpow_pb1 w B a H1 hB z oa (by omega) h1' (by omega)).mono fun _ _ g => gfr_rat g fun r I J => Or.inr (Or.inr (Or.inr ⟨oa, h0', h1', fun h => absurd h h2, ?_⟩))
      rw [ex, ey, ← e]
      exact Or.inr ⟨Or.inl (by omega), rfl, rfl, I, J⟩
theorem low_make {a b y1 : Int} {n1 n2 : Bool} {va vb y2 : Nat} (h : LowOf (sval (n1 != n2) va) vb y1 y2) (ha : sval n1 va = a) (hb : sval n2 vb = b) : y1 * b = a * (y2 : Int) ∧ 0 < y2 ∧ Nat.gcd y1.natAbs y2 = 1 := by
  obtain ⟨h1, h2, h3, _, _⟩ := h
  refine ⟨?_, h2, h3⟩
  subst ha hb
  cases n1 <;> cases n2 <;> simp [sval] at h1 ⊢ <;> grind
end Go.Proofs.YtflmcgoijofpdaaGreat
