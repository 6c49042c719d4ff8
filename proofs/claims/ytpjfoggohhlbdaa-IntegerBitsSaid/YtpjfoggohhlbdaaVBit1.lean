/- Bits of integers, in two's complement. -/
import Derived.Test.YtpjfoggohhlbdaaVInt21
namespace Go.Proofs.Ytpjfoggohhlbdaa
open Go.RowKit
set_option maxHeartbeats 400000
set_option maxRecDepth 100000
set_option linter.unusedSimpArgs false
set_option linter.unusedVariables false

theorem testBit_high {m i : Nat} (h : m < 2 ^ i) : m.testBit i = false := Nat.testBit_lt_two_pow h
/-- Bit i of the two's complement of z. -/
def zbit (z : Int) (i : Nat) : Bool := match z with
  | .ofNat m => m.testBit i
  | .negSucc m => !(m.testBit i)
theorem zbit_ext {a b : Int} (h : ∀ i, zbit a i = zbit b i) : a = b := by
  have two : ∀ m n : Nat, ¬ ∀ i, m.testBit i = !(n.testBit i) := fun m n h => by
    have h1 := h (m + n)
    rw [testBit_high (Nat.lt_of_le_of_lt (Nat.le_add_right m n) Nat.lt_two_pow_self), testBit_high (Nat.lt_of_le_of_lt (Nat.le_add_left n m) Nat.lt_two_pow_self)] at h1
    cases h1
  cases a with
  | ofNat m =>
    cases b with
    | ofNat n => exact congrArg Int.ofNat (Nat.eq_of_testBit_eq h)
    | negSucc n => exact absurd h (two m n)
  | negSucc m =>
    cases b with
    | ofNat n => exact absurd (fun i => (h i).symm) (two n m)
    | negSucc n => exact congrArg Int.negSucc (Nat.eq_of_testBit_eq fun i => by have := h i; simpa [zbit] using this)
theorem zbit_zero (z : Int) : zbit z 0 = decide (z % 2 = 1) := by
  cases z with
  | ofNat m =>
    show m.testBit 0 = _
    rw [Nat.testBit_zero]
    exact decide_eq_decide.2 (by show m % 2 = 1 ↔ (m : Int) % 2 = 1; omega)
  | negSucc m =>
    show (!(m.testBit 0)) = _
    rw [Nat.testBit_zero, ← decide_not]
    exact decide_eq_decide.2 (by rw [Int.negSucc_eq]; omega)
/-- z has the bits that f makes of those of a and b. -/
def ZOp (f : Bool → Bool → Bool) (a b z : Int) : Prop := ∀ i, zbit z i = f (zbit a i) (zbit b i)
theorem ZOp.uniq {f : Bool → Bool → Bool} {a b z y : Int} (h : ZOp f a b z) (k : ZOp f a b y) : z = y := zbit_ext fun i => (h i).trans (k i).symm
theorem ZOp.low {f : Bool → Bool → Bool} {a b z : Int} (h : ZOp f a b z) : decide (z % 2 = 1) = f (decide (a % 2 = 1)) (decide (b % 2 = 1)) := by
  rw [← zbit_zero, ← zbit_zero, ← zbit_zero]; exact h 0
theorem zbit_c0 (i : Nat) : zbit 0 i = false := Nat.zero_testBit i
theorem lim_bit {x k : Nat} (h : x < 4294967296) (hk : 32 ≤ k) : x.testBit k = false :=
  testBit_high (Nat.lt_of_lt_of_le (show x < 2 ^ 32 from h) (Nat.pow_le_pow_right (by decide) hk))
theorem vb_bit : ∀ {xs : List Nat}, Lim xs → ∀ i k, k < 32 → (vb 4294967296 xs).testBit (32 * i + k) = (xs.getD i 0).testBit k := by
  intro xs
  induction xs with
  | nil => intro _ i k _; rw [vb_nil]; simp
  | cons x xs ih =>
    intro h i k hk
    have hx : x < 2 ^ 32 := h x (List.mem_cons_self ..)
    rw [vb_cons, Nat.add_comm, show (4294967296 : Nat) = 2 ^ 32 from rfl, Nat.testBit_two_pow_mul_add _ hx]
    cases i with
    | zero => rw [if_pos (by omega)]; simp
    | succ i =>
      rw [if_neg (by omega), show 32 * (i + 1) + k - 32 = 32 * i + k by omega]
      have := ih (fun y hy => h y (List.mem_cons_of_mem _ hy)) i k hk
      simpa using this
theorem vb_high {xs : List Nat} (h : Lim xs) {j : Nat} (hj : 32 * xs.length ≤ j) : (vb 4294967296 xs).testBit j = false := by
  have e : j = 32 * (j / 32) + j % 32 := by omega
  rw [e, vb_bit h _ _ (by omega), getD_none (by omega)]
  exact Nat.zero_testBit _
theorem not_bit {x k : Nat} (h : x < 4294967296) (hk : k < 32) : (4294967295 - x).testBit k = !(x.testBit k) := by
  have := Nat.testBit_two_pow_sub_succ (n := 32) (x := x) h k
  rw [show (2 : Nat) ^ 32 - (x + 1) = 4294967295 - x by omega] at this
  rw [this, decide_eq_true hk, Bool.true_and]
theorem ones_bit {k : Nat} (hk : k < 32) : (4294967295 : Nat).testBit k = true := by
  have := not_bit (x := 0) (by decide) hk
  rw [Nat.zero_testBit] at this
  exact this
def snum (nb : Bool) (r : Nat) : Int := if nb then -((r : Int) + 1) else (r : Int)
theorem zbit_snum (nb : Bool) (r i : Nat) : zbit (snum nb r) i = (r.testBit i != nb) := by
  cases nb
  · show zbit (Int.ofNat r) i = _
    cases h : r.testBit i <;> simp [zbit, h]
  · have e : snum true r = Int.negSucc r := by rw [Int.negSucc_eq]; rfl
    rw [e]
    cases h : r.testBit i <;> simp [zbit, h]
theorem comb_math {f : Bool → Bool → Bool} {a b : Int} {rs : List Nat} {sa sb : Bool} {n : Nat} (hl : rs.length = n) (hL : Lim rs)
    (ha : ∀ j, 32 * n ≤ j → zbit a j = sa) (hb : ∀ j, 32 * n ≤ j → zbit b j = sb)
    (hr : ∀ i k, i < n → k < 32 → (rs.getD i 0).testBit k = (f (zbit a (32 * i + k)) (zbit b (32 * i + k)) != f sa sb)) :
    ZOp f a b (snum (f sa sb) (vb 4294967296 rs)) := by
  intro j
  rw [zbit_snum]
  by_cases hj : 32 * n ≤ j
  · rw [vb_high hL (by omega), ha j hj, hb j hj]; cases f sa sb <;> rfl
  · have e : j = 32 * (j / 32) + j % 32 := by omega
    have h1 := hr (j / 32) (j % 32) (by omega) (by omega)
    rw [← e] at h1
    have h2 := vb_bit hL (j / 32) (j % 32) (by omega)
    rw [← e] at h2
    rw [h2, h1]
    cases f (zbit a j) (zbit b j) <;> cases f sa sb <;> rfl
end Go.Proofs.Ytpjfoggohhlbdaa
