/- IntegerPowers: contracts for the law. -/
import Derived.Test.YtpidkionieaffaaLPow7
import Derived.Test.YtpidkionieaffaaLVal2
import Derived.Test.YtpidkionieaffaaLDid1
namespace Go.Proofs.Ytpidkionieaffaa
open Go.RowKit
set_option maxHeartbeats 400000
set_option maxRecDepth 100000
set_option linter.unusedSimpArgs false
set_option linter.unusedVariables false

def PWR (a : IV) (z z' f1 f2 : Int) : Prop :=
  (a.ok = false ∧ z' = 0 ∧ f1 = 6 ∧ f2 = -1) ∨ (a.ok = true ∧ (z < 0 ∨ 10000 < z) ∧ z' = 0 ∧ f1 = 4 ∧ f2 = -2) ∨ (a.ok = true ∧ ∃ n : Nat, z = (n : Int) ∧ n ≤ 10000 ∧ YR (a.val ^ n) z' f1 f2)
def PwAny (a : IV) (z : Int) (w : World) (e : Ending) (w' : World) : Prop := ∃ z' f1 f2, PWR a z z' f1 f2 ∧ GivesVF w z' f1 f2 e w'
theorem one_bad1 {a : IV} (h : a.ok = false) : ffault [a] 0 = (6, -1) := by show (if a.ok = true then _ else _) = _; rw [h]; rfl
theorem ipow_any (w : World) (B : Nat) (a : IV) (z : Int) (HA : a.at w B) (hB : B ≤ w.heap.size) :
    Calls Try.prog 44 #[a.v, .int .i64 z] w (PwAny a z w) := by
  by_cases oa : a.ok = true
  · rcases Int.lt_or_le z 0 with h | h
    · refine (ipow_lo w B a z HA hB oa h).mono ?_
      rintro e w1 h1
      exact ⟨0, 4, -2, .inr (.inl ⟨oa, .inl h, rfl, rfl, rfl⟩), h1⟩
    · rcases Int.lt_or_le 10000 z with h2 | h2
      · refine (ipow_hi w B a z HA hB oa h2).mono ?_
        rintro e w1 h1
        exact ⟨0, 4, -2, .inr (.inl ⟨oa, .inr h2, rfl, rfl, rfl⟩), h1⟩
      · obtain ⟨n, rfl⟩ := Int.eq_ofNat_of_zero_le h
        refine (ipow_ok w B a n HA hB oa (by omega)).mono ?_
        rintro e w1 h1
        obtain ⟨z', f1, f2, h3, h4⟩ := vl_yr h1
        exact ⟨z', f1, f2, .inr (.inr ⟨oa, n, rfl, by omega, h3⟩), h4⟩
  · refine (ipow_bad w B a z HA hB (-1) (one_bad1 (by simpa using oa))).mono ?_
    rintro e w1 h1
    exact ⟨0, 6, -1, .inl ⟨by simpa using oa, rfl, rfl, rfl⟩, h1⟩
end Go.Proofs.Ytpidkionieaffaa
