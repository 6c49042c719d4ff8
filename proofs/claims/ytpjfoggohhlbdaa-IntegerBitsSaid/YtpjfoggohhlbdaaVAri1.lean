/- IntegerArithmetic: the law. -/
import Derived.Test.YtpjfoggohhlbdaaVYld
import Derived.Test.YtpjfoggohhlbdaaVg
import Derived.Test.YtpjfoggohhlbdaaVDvs1
import Derived.Deep.RegionHeld3
import Derived.Deep.DeepCutAuto
namespace Go.Proofs.Ytpjfoggohhlbdaa
open Go.RowKit
set_option maxHeartbeats 400000
set_option maxRecDepth 100000
set_option linter.unusedSimpArgs false
set_option linter.unusedVariables false

def YR (z z' f1 f2 : Int) : Prop := (z.natAbs < Top128 ∧ z' = z ∧ f1 = 0 ∧ f2 = 0) ∨ (Top128 ≤ z.natAbs ∧ z' = 0 ∧ f1 = 14 ∧ f2 = -1)
theorem vl_yr {w w' : World} {z : Int} {e : Ending} (h : GivesVL w z e w') : ∃ z' f1 f2, YR z z' f1 f2 ∧ GivesVF w z' f1 f2 e w' := by
  rcases h with ⟨h1, h2⟩ | ⟨h1, h2⟩
  · exact ⟨z, 0, 0, .inl ⟨h1, rfl, rfl, rfl⟩, h2⟩
  · exact ⟨0, 14, -1, .inr ⟨h1, rfl, rfl, rfl⟩, h2⟩
theorem yields_any (w : World) (B : Nat) (a : IV) (m : Bool) (D : Option Addr) (k d v : Nat) (zs : List Nat) (z z' f1 f2 : Int) (HA : LRd w B a.A a.n a.c a.xs) (HD : DRd w B D k d zs) (hB : B ≤ w.heap.size) (hy : YR z z' f1 f2) (hI : IRep a.neg a.xs z') (hz : Rep 65536 zs v) (hv : sval m v = z) (hk : k ≤ 100000) :
    Calls Try.prog 30 #[a.v, flt f1 f2, intv m D k d, flt 0 0] w (fun e w' => e = .returned (.bool true) ∧ Below w.heap.size w w') := by
  rcases hy with ⟨h1, rfl, rfl, rfl⟩ | ⟨h1, rfl, rfl, rfl⟩
  · exact yields_fit w B a m D k d v zs _ HA HD hB hI hz hv hk h1
  · exact yields_big w B a m D k d v zs z HA HD hB hI hz hv hk h1
theorem len512 {zs : List Nat} {v k : Nat} (h : Rep 65536 zs v) (hl : zs.length = k) (hv : v < Top128 * Top128) : k ≤ 100000 := by
  obtain ⟨m, hm⟩ : ∃ m, m = 128 := ⟨_, rfl⟩
  obtain ⟨j, hj⟩ : ∃ j, j = 256 := ⟨_, rfl⟩
  rw [top128 hm, top_256 hm hj, ← Nat.pow_add] at hv
  have := h.length_le (by decide) hv
  omega
theorem top_sq {p : Nat} (h : p < Top128 + Top128) : p < Top128 * Top128 := by
  have h1 : 2 ≤ Top128 := by
    obtain ⟨m, hm⟩ : ∃ m, m = 127 := ⟨_, rfl⟩
    rw [top128 (m := m + 1) (by omega), Nat.pow_succ]
    have := Nat.pow_pos (n := m) (show 0 < 4294967296 by decide)
    omega
  have := Nat.mul_le_mul_right Top128 h1
  omega
def R9 (W : World) (x y : Int) (s t : Value) (wx : World) : Prop :=
  ∃ g1 g2 m1 A1 k1 c1 x1 v1 m2 A2 k2 c2 x2 v2, s = .pointer (some ⟨g1, 0, none⟩) ∧ t = .pointer (some ⟨g2, 0, none⟩) ∧ Bk2 wx g1 (.bool m1) (.slice A1 k1 c1) ∧ Bk2 wx g2 (.bool m2) (.slice A2 k2 c2) ∧
    DRd wx wx.heap.size A1 k1 c1 x1 ∧ Hid (Rep 65536 x1 v1) ∧ Hid (sval m1 v1 = x) ∧ DRd wx wx.heap.size A2 k2 c2 x2 ∧ Hid (Rep 65536 x2 v2) ∧ Hid (sval m2 v2 = y) ∧ Below W.heap.size W wx
end Go.Proofs.Ytpjfoggohhlbdaa
