/- Contracts of the functions that only compute with numbers: Add32, Sub32, Div32, Len32, LeadingZeros32, sign. -/
import Derived.Test.YtjkogajdpkbjeaaBits
import Derived.WalkKit
import Derived.WalkSpells
import Derived.WalkLawsBesides
import Derived.Deep.QuietTactic
import Derived.BigQuiet
import Derived.Lib.BitFns
import Derived.Lib.Small
import Derived.Lib.Walk
import Derived.Lib.Hide
namespace Go.Proofs.Ytjkogajdpkbjeaa
open Go.RowKit

set_option maxHeartbeats 400000 in
theorem sign_any (b : Bool) (w : World) :
    Calls Try.prog 63 #[.bool b] w fun e w' => e = .returned (.int .i64 (if b then -1 else 1)) ∧ w = w' := by
  cases b
  all_goals
    go_enter Try.func63, Try.ntmps63
    go_wp2
    go_ret
    exact ⟨rfl, rfl⟩

set_option maxHeartbeats 400000 in
theorem add32_any (x y c : Int) (w : World) (hx : 0 ≤ x ∧ x < 4294967296) (hy : 0 ≤ y ∧ y < 4294967296) (hc : 0 ≤ c ∧ c ≤ 1) :
    Calls Try.prog 62 #[.int .u32 x, .int .u32 y, .int .u32 c] w fun e w' => e = .returned (.tuple #[.int .u32 ((x + y + c) % 4294967296), .int .u32 ((x + y + c) / 4294967296)]) ∧ w = w' := by
  go_enter Try.func62, Try.ntmps62
  go_wp2
  go_ret2
  exact ⟨rfl, rfl⟩

theorem ret2_of {k j : IntKind} {a a' b b' : Int} (h : a = a') (h2 : b = b') : Ending.returned (.tuple #[.int k a, .int j b]) = .returned (.tuple #[.int k a', .int j b']) := by rw [h, h2]
theorem ret1_of {k : IntKind} {a a' : Int} (h : a = a') : Ending.returned (.int k a) = .returned (.int k a') := by rw [h]

set_option maxHeartbeats 400000 in
theorem sub32_any (x y c : Int) (w : World) (hx : 0 ≤ x ∧ x < 4294967296) (hy : 0 ≤ y ∧ y < 4294967296) (hc : 0 ≤ c ∧ c ≤ 1) :
    Calls Try.prog 64 #[.int .u32 x, .int .u32 y, .int .u32 c] w fun e w' => e = .returned (.tuple #[.int .u32 ((x - y - c) % 4294967296), .int .u32 (brw x y c)]) ∧ w = w' := by
  have hb := Lib.hid (borrow_bits x y c hx hy hc)
  go_enter Try.func64, Try.ntmps64
  go_wp2
  go_ret2
  exact ⟨ret2_of rfl hb.out, rfl⟩

theorem tab_at (b : Int) (h0 : 0 ≤ b) (h1 : b ≤ 255) (h : b.toNat < Lib.len8tab.size) : ((Lib.len8tab[b.toNat]'h).toNat : Int) = (Lib.bitLen b.toNat : Int) := by
  rw [← Lib.len8_of b h0 h1]
  unfold Lib.len8
  rw [getElem?_pos Lib.len8tab b.toNat h]
  rfl
theorem bitLen_8 (b : Int) (h0 : 0 ≤ b) (h1 : b ≤ 255) : Lib.bitLen b.toNat ≤ 8 := Lib.bitLen_le8' b h0 h1

set_option maxHeartbeats 4000000 in
set_option maxRecDepth 100000 in
theorem len32_any (x : Int) (w : World) (hx : 0 ≤ x ∧ x < 4294967296) :
    Calls Try.prog 67 #[.int .u32 x] w fun e w' => e = .returned (.int .i64 (Lib.bitLen x.toNat)) ∧ w = w' := by
  have hs := Lib.len8tab_size
  go_enter Try.func67, Try.ntmps67
  go_wp2
  all_goals (go_ret; refine ⟨ret1_of ?_, rfl⟩)
  · have a := bitLen_8 (x / 65536 / 256) (by omega) (by omega)
    have s := Lib.bitLen_shift24 x.toNat (by omega) (by omega)
    have e : (x / 65536 / 256).toNat = x.toNat / 16777216 := by omega
    show wrap64 (24 + wrap64 _) = _
    rw [tab_at _ (by omega) (by omega), IntWalk.wrap64_in (Lib.bitLen (x / 65536 / 256).toNat : Int) (by omega), IntWalk.wrap64_in _ (by omega), s, e]
    omega
  · have a := bitLen_8 (x / 65536) (by omega) (by omega)
    have s := Lib.bitLen_shift16 x.toNat (by omega) (by omega)
    have e : (x / 65536).toNat = x.toNat / 65536 := by omega
    show wrap64 (16 + wrap64 _) = _
    rw [tab_at _ (by omega) (by omega), IntWalk.wrap64_in (Lib.bitLen (x / 65536).toNat : Int) (by omega), IntWalk.wrap64_in _ (by omega), s, e]
    omega
  · have a := bitLen_8 (x / 256) (by omega) (by omega)
    have s := Lib.bitLen_shift8 x.toNat (by omega) (by omega)
    have e : (x / 256).toNat = x.toNat / 256 := by omega
    show wrap64 (8 + wrap64 _) = _
    rw [tab_at _ (by omega) (by omega), IntWalk.wrap64_in (Lib.bitLen (x / 256).toNat : Int) (by omega), IntWalk.wrap64_in _ (by omega), s, e]
    omega
  · have a := bitLen_8 x (by omega) (by omega)
    show wrap64 (wrap64 _) = _
    rw [tab_at _ (by omega) (by omega), IntWalk.wrap64_in (Lib.bitLen x.toNat : Int) (by omega), IntWalk.wrap64_in _ (by omega)]

theorem bitLen_32 (x : Int) (hx : 0 ≤ x ∧ x < 4294967296) : Lib.bitLen x.toNat ≤ 32 := Lib.bitLen_le x.toNat 32 (by omega) (by omega)

set_option maxHeartbeats 400000 in
theorem lz32_any (x : Int) (w : World) (hx : 0 ≤ x ∧ x < 4294967296) :
    Calls Try.prog 69 #[.int .u32 x] w fun e w' => e = .returned (.int .i64 (32 - (Lib.bitLen x.toNat : Int))) ∧ w = w' := by
  have l := bitLen_32 x hx
  go_enter Try.func69, Try.ntmps69
  go_wp2_with (go_at_call 67; refine (len32_any x _ hx).mono ?_; rintro e w' ⟨rfl, rfl⟩)
  go_ret
  exact ⟨rfl, rfl⟩

theorem quo_small (hi lo y : Int) (hx : 0 ≤ hi ∧ hi < y) (hc : 0 ≤ lo ∧ lo < 4294967296) : (hi * 4294967296 + lo) / y % 4294967296 = (hi * 4294967296 + lo) / y :=
  Int.emod_eq_of_lt (Int.ediv_nonneg (by omega) (by omega)) (Int.ediv_lt_of_lt_mul (by omega) (by omega))
theorem rem_small (hi lo y : Int) (hx : 0 ≤ hi ∧ hi < y) (hy : y < 4294967296) : (hi * 4294967296 + lo) % y % 4294967296 = (hi * 4294967296 + lo) % y := by
  have h1 := Int.emod_nonneg (hi * 4294967296 + lo) (show y ≠ 0 by omega)
  have h2 := Int.emod_lt_of_pos (hi * 4294967296 + lo) (show 0 < y by omega)
  exact Int.emod_eq_of_lt h1 (by omega)

set_option maxHeartbeats 400000 in
theorem div32_any (hi lo y : Int) (w : World) (hx : 0 ≤ hi ∧ hi < y) (hy : y < 4294967296) (hc : 0 ≤ lo ∧ lo < 4294967296) :
    Calls Try.prog 68 #[.int .u32 hi, .int .u32 lo, .int .u32 y] w fun e w' => e = .returned (.tuple #[.int .u32 ((hi * 4294967296 + lo) / y), .int .u32 ((hi * 4294967296 + lo) % y)]) ∧ ∃ n, w' = w.drewN n := by
  have hj := join_bits hi lo (by omega) hc
  have y1 : 1 ≤ y := by omega
  have y2 : ¬ y = 0 := by omega
  have h0 : ¬ y ≤ hi := by omega
  have h1 : decide (y ≤ hi) = false := by simpa using h0
  go_enter Try.func68, Try.ntmps68
  go_wp2
  go_quiet (fail)
  go_wp2
  go_ret2
  exact ⟨ret2_of (quo_small hi lo y hx hc) (rem_small hi lo y hx hy), nq, rfl⟩
end Go.Proofs.Ytjkogajdpkbjeaa
