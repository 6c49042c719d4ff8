/- IntegerRing: the law at valid arguments. -/
import Derived.Test.YtpidkionieaffaaMRng1
namespace Go.Proofs.Ytpidkionieaffaa
open Go.RowKit
set_option maxHeartbeats 400000
set_option maxRecDepth 100000
set_option linter.unusedSimpArgs false
set_option linter.unusedVariables false

theorem mul60 {p q : Nat} (hp : p < Top60) (hq : q < Top60) : p * q < Top128 := by
  obtain ⟨m, hm⟩ : ∃ m, m = 60 := ⟨_, rfl⟩
  obtain ⟨k, hk⟩ : ∃ k, k = 128 := ⟨_, rfl⟩
  rw [top60 hm] at hp hq
  rw [top128 hk]
  have h1 : p * q < 4294967296 ^ m * 4294967296 ^ m := Nat.mul_lt_mul'' hp hq
  rw [← Nat.pow_add] at h1
  exact Nat.lt_of_lt_of_le h1 (Nat.pow_le_pow_right (by decide) (by omega))
theorem irep_eq {m n : Bool} {xs ys : List Nat} {z : Int} (h : IRep m xs z) (k : IRep n ys z) : (decide (m = n) && sameB xs ys) = true := by
  rw [h.sgn, ← k.sgn, h.rep.unique (by decide) k.rep, sameB_refl]; simp
end Go.Proofs.Ytpidkionieaffaa
