/- The program's PowMod. -/
import Derived.Test.YtpidkionieaffaaMPow4
import Derived.Test.YtpidkionieaffaaMRng1
namespace Go.Proofs.Ytpidkionieaffaa
open Go.RowKit
set_option maxHeartbeats 400000
set_option maxRecDepth 100000
set_option linter.unusedSimpArgs false
set_option linter.unusedVariables false

theorem ipow_ok (w : World) (B : Nat) (a : IV) (n : Nat) (HA : a.at w B) (hB : B ≤ w.heap.size) (oa : a.ok = true) (hn : n ≤ 10000) :
    Calls Try.prog 44 #[a.v, .int .i64 (n : Int)] w (GivesVL w (a.val ^ n)) := by
  by_cases hs : a.neg = true
  · exact ipow_true w B a n HA hB oa (Lib.hid hs) hn
  · exact ipow_false w B a n HA hB oa (Lib.hid (by simpa using hs)) hn
theorem emod_pow (x m : Int) (n : Nat) : (x % m) ^ n % m = x ^ n % m := by
  induction n with
  | zero => simp
  | succ n ih => rw [Int.pow_succ, Int.pow_succ, Int.mul_emod, ih, Int.emod_emod_of_dvd _ (Int.dvd_refl m), ← Int.mul_emod]
/-- The rest of a power, out of the rest of its base. -/
theorem pm_val {x m q r : Int} {n : Nat} (h : FloorOf x m q r) (hm : 0 < m) : sval false (r.natAbs ^ n % m.natAbs) = x ^ n % m := by
  obtain ⟨h1, h2⟩ := h
  have h0 : 0 ≤ r ∧ r < m := by omega
  have hr : r = x % m := by
    rw [h1, Int.add_comm, Int.add_mul_emod_self_right, Int.emod_eq_of_lt h0.1 h0.2]
  have e1 : ((r.natAbs : Nat) : Int) = r := by omega
  have e2 : ((m.natAbs : Nat) : Int) = m := by omega
  show ((r.natAbs ^ n % m.natAbs : Nat) : Int) = _
  rw [Int.natCast_emod, Int.natCast_pow, e1, e2, hr, emod_pow]
end Go.Proofs.Ytpidkionieaffaa
