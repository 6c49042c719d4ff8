/- The program's Mul and Sub of ratios. The program's Sub of ratios. The program's Div of ratios. The program's Add of ratios. -/
import Derived.Test.YtfgkhdpdjclmkaaGreatBm
import Derived.Deep.RegionHeld3
import Derived.Deep.DeepCutAuto
namespace Go.Proofs.YtfgkhdpdjclmkaaGreat
open Go.RowKit
set_option maxHeartbeats 400000
set_option maxRecDepth 100000
set_option linter.unusedSimpArgs false
set_option linter.unusedVariables false

theorem quotient_i (w : World) (B : Nat) (m m2 : Bool) (A D : Option Addr) (n k c d : Nat) (xs ys : List Nat) (z1 z2 : Int) (HA : LRd w B A n c xs) (HB : LRd w B D k d ys) (hB : B ≤ w.heap.size) (hx : IRep m xs z1) (hy : IRep m2 ys z2) (b1 : z1.natAbs < Big) (b2 : z2.natAbs < Big) (h0 : z2 ≠ 0) :
    Calls Tryz.prog 59 #[intv m A n c, intv m2 D k d] w (GivesQuo w (decide (z1 < 0) != decide (z2 < 0)) z1.natAbs z2.natAbs) := by
  have h := quotient_any w B m m2 A D n k c d z1.natAbs z2.natAbs xs ys HA HB hB hx.rep hy.rep (big_vld hx.rep b1) (big_vld hy.rep b2) (by omega)
  rw [hx.sgn, hy.sgn] at h
  rw [hx.sgn, hy.sgn]
  exact h
/-- What is known of a valid ratio. -/
structure RVal (r : RV) (n d : Int) : Prop where
  num : IRep r.num.neg r.num.xs n
  den : IRep r.den.neg r.den.xs d
  bn : n.natAbs < Top128
  bd : d.natAbs < Top128
  pos : 0 < d
  low : Nat.gcd n.natAbs d.natAbs = 1
theorem RV.val {w : World} {B : Nat} {r : RV} (h : r.ok = true) (H : r.at w B) : RVal r r.num.val r.den.val := by
  unfold RV.ok at h
  simp only [Bool.and_eq_true, decide_eq_true_eq, Bool.not_eq_true'] at h
  obtain ⟨⟨⟨⟨h1, h2⟩, h3⟩, h4⟩, h5⟩ := h
  have lim1 := H.1.lim
  have lim2 := H.2.lim
  have lt : ∀ a : IV, a.ok = true → Lim a.xs → a.val.natAbs < Top128 := fun a oa hl => by
    show (sval a.neg (vb 4294967296 a.xs)).natAbs < _
    rw [sval_abs]
    exact lt128 (⟨hl, rfl, (vld_top (IV.vld oa).1).1⟩ : Rep 4294967296 a.xs _) rfl (IV.vld oa).2
  have e : r.den.val = ((vb 4294967296 r.den.xs : Nat) : Int) := by unfold IV.val; rw [h1]; rfl
  have hp : 0 < vb 4294967296 r.den.xs := by
    have hr : Rep 4294967296 r.den.xs (vb 4294967296 r.den.xs) := ⟨lim2, rfl, (vld_top (IV.vld h4).1).1⟩
    rcases Nat.eq_zero_or_pos (vb 4294967296 r.den.xs) with e0 | e0
    · exfalso
      have h6 := hr.length_le (m := 0) (by decide) (by omega)
      have h7 := H.2.len.out
      omega
    · exact e0
  exact ⟨IV.irep h3 lim1, IV.irep h4 lim2, lt _ h3 lim1, lt _ h4 lim2, by rw [e]; omega, by
    have e2 : r.num.val.natAbs = vb 4294967296 r.num.xs := sval_abs _ _
    have e3 : r.den.val.natAbs = vb 4294967296 r.den.xs := sval_abs _ _
    rw [e2, e3]; exact h5⟩
theorem top_sq_big {p q : Nat} (hp : p < Top128) (hq : q < Top128) : p * q * 4 < Big := by
  obtain ⟨m, hm⟩ : ∃ m, m = 128 := ⟨_, rfl⟩
  obtain ⟨k, hk⟩ : ∃ k, k = 344 := ⟨_, rfl⟩
  rw [top128 hm] at hp hq
  rw [big_pow (m := m + m + k) (by omega), Nat.pow_add, Nat.pow_add]
  have h1 : p * q ≤ 4294967296 ^ m * 4294967296 ^ m := Nat.mul_le_mul (Nat.le_of_lt hp) (Nat.le_of_lt hq)
  have h2 : 0 < 4294967296 ^ m := Nat.pow_pos (by decide)
  have h3 : 0 < 4294967296 ^ m * 4294967296 ^ m := Nat.mul_pos h2 h2
  have h4 : 4 < 4294967296 ^ k := Nat.lt_of_lt_of_le (by decide : 4 < 4294967296 ^ 1) (Nat.pow_le_pow_right (by decide) (by omega))
  exact Nat.lt_of_le_of_lt (Nat.mul_le_mul_right _ h1) (Nat.mul_lt_mul_of_pos_left h4 h3)
theorem top_big1 {p : Nat} (hp : p < Top128) : p < Big := by
  have := top_sq_big hp (show 1 < Top128 from lt_top (by decide))
  omega
/-- Which ratio and which fault a quotient gives. -/
def QuoIs (x : Bool) (p q : Nat) (z1 z2 f1 f2 : Int) : Prop :=
  (p / Nat.gcd p q < Top128 ∧ q / Nat.gcd p q < Top128 ∧ z1 = sval x (p / Nat.gcd p q) ∧ z2 = ((q / Nat.gcd p q : Nat) : Int) ∧ f1 = 0 ∧ f2 = 0) ∨
  ((Top128 ≤ p / Nat.gcd p q ∨ Top128 ≤ q / Nat.gcd p q) ∧ z1 = 0 ∧ z2 = 0 ∧ f1 = 14 ∧ f2 = -1)
theorem quo_is {w w' : World} {x : Bool} {p q : Nat} {e : Ending} (h : GivesQuo w x p q e w') : ∃ z1 z2 f1 f2, QuoIs x p q z1 z2 f1 f2 ∧ GivesRat w z1 z2 f1 f2 e w' := by
  rcases h with ⟨h1, h2, h3⟩ | ⟨h1, h3⟩
  · exact ⟨_, _, 0, 0, .inl ⟨h1, h2, rfl, rfl, rfl, rfl⟩, h3⟩
  · exact ⟨0, 0, 14, -1, .inr ⟨h1, rfl, rfl, rfl, rfl⟩, h3⟩
theorem quo_more {w w' : World} {x : Bool} {p q : Nat} {z1 z2 f1 f2 : Int} {e : Ending} (h : QuoIs x p q z1 z2 f1 f2) (k : GivesRat w z1 z2 f1 f2 e w') : GivesQuo w x p q e w' := by
  rcases h with ⟨h1, h2, rfl, rfl, rfl, rfl⟩ | ⟨h1, rfl, rfl, rfl, rfl⟩
  · exact .inl ⟨h1, h2, k⟩
  · exact .inr ⟨h1, k⟩
abbrev set6 (w : World) (g h : Nat) (a b c d e f : Value) : World := ((World.set4 w g a b c d).setCell ⟨h, 0, none⟩ e).setCell ⟨h, 1, none⟩ f
theorem lrd_six' {w : World} {A : Option Addr} {n c g h : Nat} {xs : List Nat} {i j : Int} (k : LRd w w.heap.size A n c xs) (p : Bk4 w g (.bool false) (.slice none 0 0) (.bool false) (.slice none 0 0)) (q : Bk2 w h (.int .i64 i) (.int .i64 j)) (hne : g ≠ h) (a b c' d e f : Value) : LRd (set6 w g h a b c' d e f) w.heap.size A n c xs :=
  (k.set4 p (by simp) (by simp) (by simp) (by simp) a b c' d).setB (q.far4 hne a b c' d) (by simp) (by simp) e f
theorem lrd_six {w : World} {A : Option Addr} {n c g h : Nat} {xs : List Nat} {i j : Int} (k : LRd w w.heap.size A n c xs) (p : Bk4 w g (.bool false) (.slice none 0 0) (.bool false) (.slice none 0 0)) (q : Bk2 w h (.int .i64 i) (.int .i64 j)) (hne : g ≠ h) (a b c' d e f : Value) : LRd (set6 w g h a b c' d e f) (set6 w g h a b c' d e f).heap.size A n c xs :=
  (lrd_six' k p q hne a b c' d e f).more (by simp [World.setCell])
theorem rv_at {w : World} {B : Nat} {r : RV} (h : LRd w B r.num.A r.num.n r.num.c r.num.xs) (k : LRd w B r.den.A r.den.n r.den.c r.den.xs) : r.at w B := ⟨h, k⟩
theorem IRep.len0 {m : Bool} {xs : List Nat} {z : Int} (h : IRep m xs z) : xs.length = 0 ↔ z = 0 := by
  have hr := h.rep
  constructor
  · intro e
    have e1 : xs = [] := List.length_eq_zero_iff.mp e
    have e2 : vb 4294967296 xs = z.natAbs := hr.val
    rw [e1] at e2
    have e3 : vb 4294967296 [] = 0 := rfl
    omega
  · intro e
    have h6 := hr.length_le (m := 0) (by decide) (by rw [e]; exact Nat.one_pos)
    omega
theorem mq1 {w w' : World} {u v x y : Value} {t : TypeId} (h : Below (w.drew.alloc (.cells #[u, v, x, y] t)).heap.size (w.drew.alloc (.cells #[u, v, x, y] t)) w') : Bk4 w' w.heap.size u v x y :=
  (Bk4.newAt w.drew w.heap.size rfl u v x y t).below h (by simp)
end Go.Proofs.YtfgkhdpdjclmkaaGreat
