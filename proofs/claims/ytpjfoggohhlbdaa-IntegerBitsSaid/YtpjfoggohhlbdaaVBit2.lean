/- The program's functions under combine. -/
import Derived.Test.YtpjfoggohhlbdaaVBit1
import Derived.Test.YtpjfoggohhlbdaaVc
import Derived.Test.YtpjfoggohhlbdaaVj
import Derived.Test.YtpjfoggohhlbdaaVHand
import Derived.Laws.BitsAllLaws
import Derived.Laws.CopyOwn
namespace Go.Proofs.Ytpjfoggohhlbdaa
open Go.RowKit
set_option maxHeartbeats 400000
set_option maxRecDepth 100000
set_option linter.unusedSimpArgs false
set_option linter.unusedVariables false

theorem limb_and (w : World) (x y : Nat) (hx : x < 4294967296) (hy : y < 4294967296) :
    Calls Try.prog 94 #[.int .u32 (x : Int), .int .u32 (y : Int)] w (fun e w' => e = .returned (.int .u32 ((x &&& y : Nat) : Int)) ∧ w = w') := by
  have hb := u32_and_nat x y hx hy
  go_enter Try.func94, Try.ntmps94
  go_wp2_with fail
  go_ret
  exact ⟨by first | rfl | (rw [hb]; done) | (simp [hb]; done), rfl⟩
theorem limb_or (w : World) (x y : Nat) (hx : x < 4294967296) (hy : y < 4294967296) :
    Calls Try.prog 95 #[.int .u32 (x : Int), .int .u32 (y : Int)] w (fun e w' => e = .returned (.int .u32 ((x ||| y : Nat) : Int)) ∧ w = w') := by
  have hb := u32_or_nat x y hx hy
  go_enter Try.func95, Try.ntmps95
  go_wp2_with fail
  go_ret
  exact ⟨by first | rfl | (rw [hb]; done) | (simp [hb]; done), rfl⟩
theorem limb_xor (w : World) (x y : Nat) (hx : x < 4294967296) (hy : y < 4294967296) :
    Calls Try.prog 96 #[.int .u32 (x : Int), .int .u32 (y : Int)] w (fun e w' => e = .returned (.int .u32 ((x ^^^ y : Nat) : Int)) ∧ w = w') := by
  have hb := u32_xor_nat x y hx hy
  go_enter Try.func96, Try.ntmps96
  go_wp2_with fail
  go_ret
  exact ⟨by first | rfl | (rw [hb]; done) | (simp [hb]; done), rfl⟩
def sgl (neg : Bool) : Nat := if neg then 4294967295 else 0
theorem signLimb_any (w : World) (neg : Bool) (A : Option Addr) (n c : Nat) :
    Calls Try.prog 117 #[intv neg A n c] w (fun e w' => e = .returned (.int .u32 (sgl neg : Int)) ∧ Below w.heap.size w w') := by
  cases neg
  all_goals
    go_enter Try.func117, Try.ntmps117
    go_wp2_with fail
    go_ret
    exact ⟨rfl, bl1 _ _⟩
theorem itrim_any (w : World) (B : Nat) (A : Option Addr) (n c : Nat) (xs : List Nat) (h : LRd w B A n c xs) : Calls Try.prog 118 #[.slice A n c] w (TrimPost n xs A c w) := by
  have hcap := h.cap
  go_enter Try.func118, Try.ntmps118
  go_wp2_with fail
  go_loop [0] (TrimRel n xs A c) (fun v => slen v)
  case atStart => exact ⟨n, Nat.le_refl _, rfl, fun j h1 h2 => absurd h1 (by omega)⟩
  case round =>
    obtain ⟨k, hk, rfl, hz⟩ := hrel
    have HZ := Lib.hid hz
    clear hz
    by_cases h0 : k = 0
    · subst h0
      go_wp2_with fail
      go_ret
      exact ⟨0, rfl, ⟨Nat.zero_le _, HZ.out, fun m hm => by omega⟩, rfl⟩
    · obtain ⟨b, off, rfl, hb, hc⟩ := h.rd (by omega)
      obtain ⟨m, rfl⟩ : ∃ m, k = m + 1 := ⟨k - 1, by omega⟩
      have hcell := hc m (by omega)
      have l1 := nth_nn xs m
      have l2 := h.lim.nth m
      clear hc h0
      by_cases hx : nth xs m = 0
      · have hx' : (nth xs m == 0) = true := beq_iff_eq.2 hx
        have HX := Lib.hid (nth_zero hx)
        clear hx
        go_wp2_with fail
        go_round
        case rel => exact ⟨m, by omega, rfl, fun j h1 h2 => by rcases Nat.lt_or_ge m j with h3 | h3; exact HZ.out j (by omega) h2; rw [show j = m by omega]; exact HX.out⟩
        case measure => simp [slen]
      · have hx' : (nth xs m == 0) = false := beq_eq_false_iff_ne.2 hx
        have HX := Lib.hid (nth_pos hx)
        clear hx
        go_wp2_with fail
        go_ret
        exact ⟨m + 1, rfl, ⟨by omega, HZ.out, fun i hi => by rw [show i = m by omega]; exact HX.out⟩, rfl⟩
end Go.Proofs.Ytpjfoggohhlbdaa
