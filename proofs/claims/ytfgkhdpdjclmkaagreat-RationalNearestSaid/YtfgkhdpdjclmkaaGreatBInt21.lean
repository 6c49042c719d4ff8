/- Package integer: Cmp. -/
import Derived.Test.YtfgkhdpdjclmkaaGreatBl
import Derived.Deep.QuietTactic
namespace Go.Proofs.YtfgkhdpdjclmkaaGreat
open Go.RowKit
set_option maxHeartbeats 400000
set_option maxRecDepth 100000
set_option linter.unusedSimpArgs false
set_option linter.unusedVariables false

def ICmp (x y r : Int) : Prop := (r = -1 ∧ x < y) ∨ (r = 0 ∧ x = y) ∨ (r = 1 ∧ y < x)
theorem IV.neg_lt {a : IV} (h : a.ok = true) (hl : Lim a.xs) (hn : a.neg = true) : a.val < 0 := by
  have := (IV.irep h hl).sgn
  rw [hn] at this
  exact of_decide_eq_true this.symm
theorem IV.pos_ge {a : IV} (hn : a.neg = false) : 0 ≤ a.val := by
  unfold IV.val sval; rw [hn]; simp
theorem IV.vpos {a : IV} (hn : a.neg = false) : a.val = ((vb 4294967296 a.xs : Nat) : Int) := by unfold IV.val sval; rw [hn]; rfl
theorem IV.vneg {a : IV} (hn : a.neg = true) : a.val = -((vb 4294967296 a.xs : Nat) : Int) := by unfold IV.val sval; rw [hn]; rfl
end Go.Proofs.YtfgkhdpdjclmkaaGreat
