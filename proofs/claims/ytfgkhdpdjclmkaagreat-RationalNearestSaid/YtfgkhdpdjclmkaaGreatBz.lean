/- The program's Cmp of ratios. RationalArithmetic: a refused argument. gives of results that may be too large; cross products of the reference's results. -/
import Derived.Test.YtfgkhdpdjclmkaaGreatBn
import Derived.Test.YtfgkhdpdjclmkaaGreatBInt21
import Derived.Test.YtfgkhdpdjclmkaaGreatBt
import Derived.Test.YtfgkhdpdjclmkaaGreatBx
import Derived.Test.YtfgkhdpdjclmkaaGreatBo
import Derived.Deep.DeepCutAuto
namespace Go.Proofs.YtfgkhdpdjclmkaaGreat
open Go.RowKit
set_option maxHeartbeats 400000
set_option maxRecDepth 100000
set_option linter.unusedSimpArgs false
set_option linter.unusedVariables false
theorem QV.at.below {u u' : World} {q : QV} (H : q.at u u.heap.size) (b : Below u.heap.size u u') : q.at u' u'.heap.size := ⟨DRd.more (DRd.below H.1 b (Nat.le_refl _)) b.size, DRd.more (DRd.below H.2 b (Nat.le_refl _)) b.size⟩
theorem top_tt9 : 2 * (Top128 * Top128) ≤ TT := by
  obtain ⟨k, hk⟩ : ∃ k, k = 128 := ⟨_, rfl⟩
  obtain ⟨m, hm⟩ : ∃ m, m = 40000 := ⟨_, rfl⟩
  rw [top128 hk, tt_eq hm, ← Nat.pow_add]
  have h1 : (4294967296 : Nat) ^ (k + k) = 65536 ^ (2 * (k + k)) := by rw [Nat.pow_mul]
  rw [h1]
  have h2 : 2 * 65536 ^ (2 * (k + k)) ≤ 65536 ^ (2 * (k + k) + 1) := by rw [Nat.pow_succ]; omega
  exact Nat.le_trans h2 (Nat.pow_le_pow_right (by decide) (by omega))
theorem lt_tt9 {v : Nat} (h : v < Top128) : v < TT := by
  have h1 := top_tt9
  have h2 : 1 * Top128 ≤ Top128 * Top128 := Nat.mul_le_mul_right _ (by have := lt_top (n := 1) (by decide); omega)
  omega
end Go.Proofs.YtfgkhdpdjclmkaaGreat
