/- IntegerDivisors: the law. -/
import Derived.Test.YtpidkionieaffaaMl
import Derived.Test.YtpidkionieaffaaMg
import Derived.Deep.RegionHeld3
namespace Go.Proofs.Ytpidkionieaffaa
open Go.RowKit
set_option maxHeartbeats 400000
set_option maxRecDepth 100000
set_option linter.unusedSimpArgs false
set_option linter.unusedVariables false

theorem val_mk (n : Bool) (A : Option Addr) (k c : Nat) (x : List Nat) : (IV.mk n A k c x).val = sval n (vb 4294967296 x) := rfl
theorem IV.abs (a : IV) : a.val.natAbs = vb 4294967296 a.xs := sval_abs _ _
/-- 60 limbs. -/
@[irreducible] def Top60 : Nat := 4294967296 ^ 60
theorem top60 {m : Nat} (h : m = 60) : Top60 = 4294967296 ^ m := by subst h; unfold Top60; rfl
theorem lt60 {zs : List Nat} {v k : Nat} (h : Rep 4294967296 zs v) (hl : zs.length = k) (hk : k ≤ 60) : v < Top60 := by
  obtain ⟨m, hm⟩ : ∃ m, m = 60 := ⟨_, rfl⟩
  rw [top60 hm]
  exact Nat.lt_of_lt_of_le (h.lt_pow (by decide)) (Nat.pow_le_pow_right (by decide) (by omega))
theorem sum60 {p q : Nat} (hp : p < Top60) (hq : q < Top60) : p + q < Top128 := by
  obtain ⟨m, hm⟩ : ∃ m, m = 60 := ⟨_, rfl⟩
  obtain ⟨k, hk⟩ : ∃ k, k = 128 := ⟨_, rfl⟩
  rw [top60 hm] at hp hq
  rw [top128 hk]
  have h2 : 4294967296 ^ (m + 1) ≤ 4294967296 ^ k := Nat.pow_le_pow_right (by decide) (by omega)
  rw [Nat.pow_succ] at h2
  omega
theorem t60 {p : Nat} (hp : p < Top60) : p < Top128 := by have := sum60 hp hp; omega
theorem field_code (x y : Int) (w : World) : (Instr.field 26 (.agg #[.int .i64 x, .int .i64 y]) 0).run Try.prog w = .ok (.int .i64 x) w := by kernel_rfl
end Go.Proofs.Ytpidkionieaffaa
