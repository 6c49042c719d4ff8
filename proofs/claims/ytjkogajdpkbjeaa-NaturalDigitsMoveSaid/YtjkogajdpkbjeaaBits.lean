/- Numbers alone: the borrow of a subtraction of limbs by its formula on bits; a limb above another one, joined by an or. -/
import Derived.Test.YtjkogajdpkbjeaaRows
import Derived.WalkKit
namespace Go.Proofs.Ytjkogajdpkbjeaa

/-- The borrow of x - y - c. -/
def brw (x y c : Int) : Int := if x < y + c then 1 else 0
theorem brw_01 (x y c : Int) : 0 ≤ brw x y c ∧ brw x y c ≤ 1 := by unfold brw; split <;> omega

theorem shr_and (a b : Nat) : (a &&& b) / 2147483648 = (a / 2147483648) &&& (b / 2147483648) := by
  rw [show 2147483648 = 2 ^ 31 from rfl, ← Nat.shiftRight_eq_div_pow, ← Nat.shiftRight_eq_div_pow, ← Nat.shiftRight_eq_div_pow, Nat.shiftRight_and_distrib]
theorem shr_or (a b : Nat) : (a ||| b) / 2147483648 = (a / 2147483648) ||| (b / 2147483648) := by
  rw [show 2147483648 = 2 ^ 31 from rfl, ← Nat.shiftRight_eq_div_pow, ← Nat.shiftRight_eq_div_pow, ← Nat.shiftRight_eq_div_pow, Nat.shiftRight_or_distrib]
theorem shr_xor (a b : Nat) : (a ^^^ b) / 2147483648 = (a / 2147483648) ^^^ (b / 2147483648) := by
  rw [show 2147483648 = 2 ^ 31 from rfl, ← Nat.shiftRight_eq_div_pow, ← Nat.shiftRight_eq_div_pow, ← Nat.shiftRight_eq_div_pow, Nat.shiftRight_xor_distrib]

theorem borrow_nat (x y c d : Nat) (hx : x < 4294967296) (hy : y < 4294967296) (hc : c ≤ 1) (e : (d : Int) = ((x : Int) - y - c) % 4294967296) :
    (((4294967295 ^^^ x) &&& y) ||| ((4294967295 ^^^ (x ^^^ y)) &&& d)) / 2147483648 = if x < y + c then 1 else 0 := by
  rw [shr_or, shr_and, shr_and, shr_xor, shr_xor, shr_xor]
  generalize hmx : x / 2147483648 = mx
  generalize hmy : y / 2147483648 = my
  generalize hmd : d / 2147483648 = md
  have a1 : mx = 0 ∨ mx = 1 := by omega
  have a2 : my = 0 ∨ my = 1 := by omega
  have a3 : md = 0 ∨ md = 1 := by omega
  have k : (4294967295 : Nat) / 2147483648 = 1 := by decide
  rw [k]
  rcases a1 with rfl | rfl <;> rcases a2 with rfl | rfl <;> rcases a3 with rfl | rfl <;> simp <;> omega

theorem borrow_bits (x y c : Int) (hx : 0 ≤ x ∧ x < 4294967296) (hy : 0 ≤ y ∧ y < 4294967296) (hc : 0 ≤ c ∧ c ≤ 1) :
    bits .or .u32 (bits .and .u32 (bits .xor .u32 IntKind.u32.max x) y) (bits .and .u32 (bits .xor .u32 IntKind.u32.max (bits .xor .u32 x y)) ((x - y - c) % 4294967296)) / 2147483648 = brw x y c := by
  obtain ⟨x, rfl⟩ := Int.eq_ofNat_of_zero_le hx.1
  obtain ⟨y, rfl⟩ := Int.eq_ofNat_of_zero_le hy.1
  obtain ⟨c, rfl⟩ := Int.eq_ofNat_of_zero_le hc.1
  obtain ⟨d, hd⟩ := Int.eq_ofNat_of_zero_le (show 0 ≤ ((x : Int) - y - c) % 4294967296 by omega)
  have l1 : x < 4294967296 := by omega
  have l2 : y < 4294967296 := by omega
  have l3 : c ≤ 1 := by omega
  have l4 : d < 4294967296 := by omega
  have hm : IntKind.u32.max = ((4294967295 : Nat) : Int) := by decide
  have b32 : (2 : Nat) ^ 32 = 4294967296 := by decide
  have x1 : 4294967295 ^^^ x < 4294967296 := by rw [← b32]; exact Nat.xor_lt_two_pow (by omega) (by omega)
  have x2 : x ^^^ y < 4294967296 := by rw [← b32]; exact Nat.xor_lt_two_pow (by omega) (by omega)
  have x3 : 4294967295 ^^^ (x ^^^ y) < 4294967296 := by rw [← b32]; exact Nat.xor_lt_two_pow (by omega) (by omega)
  have x4 : (4294967295 ^^^ x) &&& y < 4294967296 := Nat.lt_of_le_of_lt Nat.and_le_right l2
  have x5 : (4294967295 ^^^ (x ^^^ y)) &&& d < 4294967296 := Nat.lt_of_le_of_lt Nat.and_le_right l4
  have key := borrow_nat x y c d l1 l2 l3 hd.symm
  rw [hd, hm, u32_xor_nat _ _ (by omega) l1, u32_xor_nat x y l1 l2, u32_xor_nat _ _ (by omega) x2, u32_and_nat _ _ x1 l2, u32_and_nat _ _ x3 l4, u32_or_nat _ _ x4 x5]
  unfold brw
  rw [show (2147483648 : Int) = ((2147483648 : Nat) : Int) from rfl, ← Int.natCast_ediv, key]
  split <;> split <;> first | rfl | omega

/-- hi above lo. -/
theorem join_bits (hi lo : Int) (hx : 0 ≤ hi ∧ hi < 4294967296) (hy : 0 ≤ lo ∧ lo < 4294967296) : bits .or .u64 (hi * 4294967296) lo = hi * 4294967296 + lo := by
  obtain ⟨x, rfl⟩ := Int.eq_ofNat_of_zero_le hx.1
  obtain ⟨y, rfl⟩ := Int.eq_ofNat_of_zero_le hy.1
  have e : (x : Int) * 4294967296 = ((x * 4294967296 : Nat) : Int) := by omega
  rw [e, u64_or_nat _ _ (by omega) (by omega)]
  have h32 : (2 : Nat) ^ 32 = 4294967296 := by decide
  have hk := Nat.shiftLeft_add_eq_or_of_lt (b := y) (i := 32) (by omega) x
  rw [Nat.shiftLeft_eq, h32] at hk
  rw [← hk]
  omega
end Go.Proofs.Ytjkogajdpkbjeaa
