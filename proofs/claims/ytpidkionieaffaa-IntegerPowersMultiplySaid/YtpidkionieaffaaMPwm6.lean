/- IntegerPowersMultiply: the law. -/
import Derived.Test.YtpidkionieaffaaMPwm3
import Derived.Test.YtpidkionieaffaaMPwm4
import Derived.Test.YtpidkionieaffaaMPwm5
import Derived.Test.YtpidkionieaffaaMPow7
namespace Go.Proofs.Ytpidkionieaffaa
open Go.RowKit
set_option maxHeartbeats 400000
set_option maxRecDepth 100000
set_option linter.unusedSimpArgs false
set_option linter.unusedVariables false

theorem powmul_any (w : World) (a : IV) (i j : Int) (b : IV) (hi : -9223372036854775808 ≤ i ∧ i ≤ 9223372036854775807) (hj : -9223372036854775808 ≤ j ∧ j ≤ 9223372036854775807) (HA : a.at w w.heap.size) (HB : b.at w w.heap.size) :
    Calls Try.prog 12 #[a.v, .int .i64 i, .int .i64 j, b.v] w (fun e w' => e = .returned (.bool true) ∧ Below w.heap.size w w') := by
  obtain ⟨i1, i2⟩ := hi
  obtain ⟨j1, j2⟩ := hj
  by_cases h : a.ok = true ∧ b.ok = true
  · obtain ⟨oa, ob⟩ := h
    by_cases hb : b.neg = true
    · exact pwm_neg w a b i j i1 i2 j1 j2 HA HB oa ob (Lib.hid hb)
    · have hb' : Hid (b.neg = false) := Lib.hid (by simpa using hb)
      rcases Nat.eq_zero_or_pos b.n with h0 | h0
      · exact pwm_zero w a b i j i1 i2 j1 j2 HA HB oa ob hb' (Lib.hid h0)
      · rcases Nat.lt_or_ge 60 b.n with hl | hl
        · exact pwm_long w a b i j i1 i2 j1 j2 HA HB oa ob hb' (Lib.hid h0) hl
        · rcases Int.lt_or_le i 0 with c1 | c1
          · exact pwm_n0 w a b i j i1 i2 j1 j2 HA HB oa ob hb' (Lib.hid h0) hl c1
          · rcases Int.lt_or_le j 0 with c2 | c2
            · exact pwm_k0 w a b i j i1 i2 j1 j2 HA HB oa ob hb' (Lib.hid h0) hl c1 c2
            · rcases Int.lt_or_le 5000 i with c3 | c3
              · exact pwm_n1 w a b i j i1 i2 j1 j2 HA HB oa ob hb' (Lib.hid h0) hl c1 c2 c3
              · rcases Int.lt_or_le 5000 j with c4 | c4
                · exact pwm_k1 w a b i j i1 i2 j1 j2 HA HB oa ob hb' (Lib.hid h0) hl c1 c2 c3 c4
                · obtain ⟨n, rfl⟩ := Int.eq_ofNat_of_zero_le c1
                  obtain ⟨k, rfl⟩ := Int.eq_ofNat_of_zero_le c2
                  have hn : n ≤ 5000 := by omega
                  have hk : k ≤ 5000 := by omega
                  rcases Nat.lt_or_ge (a.val ^ n).natAbs Top128 with s1 | s1
                  · rcases Nat.lt_or_ge (a.val ^ k).natAbs Top128 with s2 | s2
                    · rcases Nat.lt_or_ge (a.val ^ (n + k)).natAbs Top128 with s3 | s3
                      · exact pwm_A w a b HA HB oa ob hb' (Lib.hid h0) hl n k hn hk (Lib.hid s1) (Lib.hid s2) (Lib.hid s3)
                      · exact pwm_B w a b HA HB oa ob hb' (Lib.hid h0) hl n k hn hk (Lib.hid s1) (Lib.hid s2) (Lib.hid s3)
                    · exact pwm_D w a b HA HB oa ob hb' (Lib.hid h0) hl n k hn hk (Lib.hid s1) (Lib.hid s2) (Lib.hid (pow_over s2 (Nat.le_add_left k n)))
                  · exact pwm_C w a b HA HB oa ob hb' (Lib.hid h0) hl n k hn hk (Lib.hid s1) (Lib.hid (pow_over s1 (Nat.le_add_right n k)))
  · obtain ⟨f2, hf⟩ := two_bad h
    exact pwm_bad w a b i j i1 i2 j1 j2 HA HB f2 hf
end Go.Proofs.Ytpidkionieaffaa
