/- The law's examples of package integer. From an argument that came in to what the walks ask: a []uint32 as it is read by the row is a slice of limbs (LRd). From an argument that came in to what the walks ask: an api.Int. -/
import Derived.Test.YtpjfoggohhlbdaaVk
import Derived.Test.YtpjfoggohhlbdaaVi
import Derived.Deep.RegionHeld3
import Derived.Test.YtpjfoggohhlbdaaVa
import Derived.ProofKit
import Derived.OpenShut
import Derived.Test.YtpjfoggohhlbdaaVf
import Derived.Lib.SmallJoins
import Derived.ChangeArms
namespace Go.Proofs.Ytpjfoggohhlbdaa
open Go.RowKit
set_option maxHeartbeats 400000
set_option maxRecDepth 100000
set_option linter.unusedSimpArgs false
set_option linter.unusedVariables false

theorem IRep.iok {neg : Bool} {zs : List Nat} {z : Int} (h : IRep neg zs z) (hz : z.natAbs < Top128) : ivld neg zs = true := by
  by_cases h0 : zs.length = 0
  · rw [ivld_nil h0]
    have h1 := h.rep.val
    rw [List.eq_nil_of_length_eq_zero h0, vb_nil] at h1
    have h2 := h.sgn
    have : z = 0 := by omega
    subst this
    rw [h2]; rfl
  · obtain ⟨m, hm⟩ : ∃ m, m = 128 := ⟨_, rfl⟩
    rw [ivld_some h0]
    have h1 := h.rep.length_le (m := m) (by decide) (by rw [← top128 hm]; exact hz)
    simp only [Bool.and_eq_true, decide_eq_true_eq]
    exact ⟨by omega, rep_v128 h.rep hz⟩
theorem lt_top {n : Nat} (h : n < 4294967296) : n < Top128 := by
  obtain ⟨m, hm⟩ : ∃ m, m = 127 := ⟨_, rfl⟩
  rw [top128 (m := m + 1) (by omega), Nat.pow_succ]
  have := Nat.pow_pos (n := m) (show 0 < 4294967296 by decide)
  have := Nat.mul_le_mul_right 4294967296 this
  omega
/-- An integer as an argument. -/
theorem IRep.ival {neg : Bool} {A : Option Addr} {n c : Nat} {zs : List Nat} {z : Int} (h : IRep neg zs z) : (IV.mk neg A n c zs).val = z := h.val.symm
theorem IRep.pos {neg : Bool} {n : Nat} {zs : List Nat} {z : Int} (h : IRep neg zs z) (hl : zs.length = n) (hz : z ≠ 0) : 0 < n := by
  rcases Nat.eq_zero_or_pos n with e | e
  · exfalso
    have h1 := h.rep.val
    rw [List.eq_nil_of_length_eq_zero (hl.trans e), vb_nil] at h1
    omega
  · exact e
theorem Bk2.newAt (w : World) (g : Nat) (hg : w.heap.size = g) (u v : Value) (t : TypeId) : Bk2 (w.alloc (.cells #[u, v] t)) g u v := by subst hg; exact Bk2.new w u v t
theorem bnext {W v v' : World} (h : Below W.heap.size W v) (hb : Below v.heap.size v v') : Below W.heap.size W v' := h.trans (hb.mono h.size)
theorem len16 {zs : List Nat} {v k : Nat} (h : Rep 65536 zs v) (hl : zs.length = k) (hv : v < 65536) : k ≤ 100000 := by
  have := h.length_le (m := 1) (by decide) (by omega)
  omega
theorem text255 {s : List UInt8} (h : TextIs (-255) 16 s) : s = [45, 102, 102] := by
  refine h.uniq (by decide) ⟨[15, 15], ⟨?_, by decide, ?_⟩, by decide⟩
  · intro x hx; simp at hx; omega
  · intro m hm; obtain rfl : m = 1 := by simpa using hm.symm
    decide
set_option maxHeartbeats 4000000 in
theorem counts_any (w : World) : Calls Try.prog 15 #[] w (fun e w' => e = .returned (.bool true) ∧ Below w.heap.size w w') := by
  go_enter Try.func15, Try.ntmps15
  have E : Below w.heap.size w w := Below.refl _ _
  go_wp2_with fail
  refine (iof_any _ (-7) (by omega) (by omega)).mono ?_
  rintro e w1 ⟨n1, A1, k1, c1, x1, rfl, hl1, hr1, hb1⟩
  have o1 := Lib.hid (hr1.iok (lt_top (by decide)))
  have v1 := Lib.hid (hr1.ival (A := A1) (n := k1) (c := c1))
  have q1 := Lib.hid (hr1.pos hl1.len.out (by decide))
  have HR1 := Lib.hid hr1
  clear hr1
  have E : Below w.heap.size w _ := Below.trans (by (repeat (first | with_reducible exact Below.refl _ _ | with_reducible exact E | with_reducible refine Below.drew ?_ | with_reducible refine below_drewN ?_ _ | with_reducible refine Below.setCell ?_ (by first | (simp; done) | (simp; omega) | omega) _ | with_reducible refine Below.alloc ?_ (by first | (simp; done) | (simp; omega) | omega) _))) (Below.mono hb1 (by first | (simp; done) | (simp; omega) | omega))
  have s1 := hb1.size
  try simp at s1
  go_wp2_with fail
  refine (iof_any _ (2) (by omega) (by omega)).mono ?_
  rintro e w2 ⟨n2, A2, k2, c2, x2, rfl, hl2, hr2, hb2⟩
  have o2 := Lib.hid (hr2.iok (lt_top (by decide)))
  have v2 := Lib.hid (hr2.ival (A := A2) (n := k2) (c := c2))
  have q2 := Lib.hid (hr2.pos hl2.len.out (by decide))
  have HR2 := Lib.hid hr2
  clear hr2
  have E : Below w.heap.size w _ := Below.trans (by (repeat (first | with_reducible exact Below.refl _ _ | with_reducible exact E | with_reducible refine Below.drew ?_ | with_reducible refine below_drewN ?_ _ | with_reducible refine Below.setCell ?_ (by first | (simp; done) | (simp; omega) | omega) _ | with_reducible refine Below.alloc ?_ (by first | (simp; done) | (simp; omega) | omega) _))) (Below.mono hb2 (by first | (simp; done) | (simp; omega) | omega))
  have hl1 := LRd.below (B := w1.heap.size) (A := A1) (n := k1) (c := c1) (xs := x1) (by (repeat (first | with_reducible exact hl1 | with_reducible refine LRd.alloc ?_ (by first | (simp; done) | (simp; omega) | omega) _ | with_reducible refine LRd.drewN ?_ _ | with_reducible refine LRd.drew ?_))) hb2 (by first | (simp; done) | (simp; omega) | omega)
  have s2 := hb2.size
  try simp at s2
  go_wp2_with fail
  refine (idivmod_ok _ w2.heap.size (IV.mk n1 A1 k1 c1 x1) (IV.mk n2 A2 k2 c2 x2) ((LRd.more hl1 (by omega) : LRd w2 w2.heap.size A1 k1 c1 x1)) hl2 (Nat.le_refl _) o1.out o2.out q2.out).mono ?_
  rintro e w3 ⟨Q3, R3, hfl, m3, A3, k3, c3, x3, m3', A3', k3', c3', x3', rfl, hl3, hr3, hl3', hr3', hb3⟩
  rw [v1.out, v2.out] at hfl
  obtain ⟨rfl, rfl⟩ : Q3 = -4 ∧ R3 = 1 := by unfold FloorOf at hfl; omega
  have HR3 := Lib.hid hr3
  have HR3' := Lib.hid hr3'
  clear hfl hr3 hr3'
  clear hl1 hl2
  have E : Below w.heap.size w _ := Below.trans (by (repeat (first | with_reducible exact Below.refl _ _ | with_reducible exact E | with_reducible refine Below.drew ?_ | with_reducible refine below_drewN ?_ _ | with_reducible refine Below.setCell ?_ (by first | (simp; done) | (simp; omega) | omega) _ | with_reducible refine Below.alloc ?_ (by first | (simp; done) | (simp; omega) | omega) _))) (Below.mono hb3 (by first | (simp; done) | (simp; omega) | omega))
  have s3 := hb3.size
  try simp at s3
  have P3 := Bk2.new w3 (.bool m3) (.slice A3 k3 c3) 24
  have P3' := Bk2.newAt (w3.alloc (.cells #[.bool m3, .slice A3 k3 c3] 24)) (w3.heap.size + 1) (by simp) (.bool m3') (.slice A3' k3' c3') 24
  have F3 := Bk2.newAt ((w3.alloc (.cells #[.bool m3, .slice A3 k3 c3] 24)).alloc (.cells #[.bool m3', .slice A3' k3' c3'] 24)) (w3.heap.size + 2) (by simp) (.int .i64 0) (.int .i64 0) 26
  go_wp2_with fail
  refine (iof_any _ (7) (by omega) (by omega)).mono ?_
  rintro e w4 ⟨n4, A4, k4, c4, x4, rfl, hl4, hr4, hb4⟩
  have o4 := Lib.hid (hr4.iok (lt_top (by decide)))
  have v4 := Lib.hid (hr4.ival (A := A4) (n := k4) (c := c4))
  have q4 := Lib.hid (hr4.pos hl4.len.out (by decide))
  have HR4 := Lib.hid hr4
  clear hr4
  have E : Below w.heap.size w _ := Below.trans (by (repeat (first | with_reducible exact Below.refl _ _ | with_reducible exact E | with_reducible refine Below.drew ?_ | with_reducible refine below_drewN ?_ _ | with_reducible refine Below.setCell ?_ (by first | (simp; done) | (simp; omega) | omega) _ | with_reducible refine Below.alloc ?_ (by first | (simp; done) | (simp; omega) | omega) _))) (Below.mono hb4 (by first | (simp; done) | (simp; omega) | omega))
  have hl3 := LRd.below (B := w3.heap.size) (A := A3) (n := k3) (c := c3) (xs := x3) (by (repeat (first | with_reducible exact hl3 | with_reducible refine LRd.alloc ?_ (by first | (simp; done) | (simp; omega) | omega) _ | with_reducible refine LRd.drewN ?_ _ | with_reducible refine LRd.drew ?_))) hb4 (by first | (simp; done) | (simp; omega) | omega)
  have hl3' := LRd.below (B := w3.heap.size) (A := A3') (n := k3') (c := c3') (xs := x3') (by (repeat (first | with_reducible exact hl3' | with_reducible refine LRd.alloc ?_ (by first | (simp; done) | (simp; omega) | omega) _ | with_reducible refine LRd.drewN ?_ _ | with_reducible refine LRd.drew ?_))) hb4 (by first | (simp; done) | (simp; omega) | omega)
  have P3 := Bk2.below (g := w3.heap.size) (u := (.bool m3)) (v := (.slice A3 k3 c3)) (by (repeat (first | with_reducible exact P3 | with_reducible refine Bk2.alloc ?_ _ | with_reducible refine Bk2.drew ?_ | with_reducible refine Bk2.drewN ?_ _))) hb4 (by first | (simp; done) | (simp; omega) | omega)
  have P3' := Bk2.below (g := w3.heap.size + 1) (u := (.bool m3')) (v := (.slice A3' k3' c3')) (by (repeat (first | with_reducible exact P3' | with_reducible refine Bk2.alloc ?_ _ | with_reducible refine Bk2.drew ?_ | with_reducible refine Bk2.drewN ?_ _))) hb4 (by first | (simp; done) | (simp; omega) | omega)
  have F3 := Bk2.below (g := w3.heap.size + 2) (u := (.int .i64 0)) (v := (.int .i64 0)) (by (repeat (first | with_reducible exact F3 | with_reducible refine Bk2.alloc ?_ _ | with_reducible refine Bk2.drew ?_ | with_reducible refine Bk2.drewN ?_ _))) hb4 (by first | (simp; done) | (simp; omega) | omega)
  have s4 := hb4.size
  try simp at s4
  go_wp2_with fail
  refine (iof_any _ (-2) (by omega) (by omega)).mono ?_
  rintro e w5 ⟨n5, A5, k5, c5, x5, rfl, hl5, hr5, hb5⟩
  have o5 := Lib.hid (hr5.iok (lt_top (by decide)))
  have v5 := Lib.hid (hr5.ival (A := A5) (n := k5) (c := c5))
  have q5 := Lib.hid (hr5.pos hl5.len.out (by decide))
  have HR5 := Lib.hid hr5
  clear hr5
  have E : Below w.heap.size w _ := Below.trans (by (repeat (first | with_reducible exact Below.refl _ _ | with_reducible exact E | with_reducible refine Below.drew ?_ | with_reducible refine below_drewN ?_ _ | with_reducible refine Below.setCell ?_ (by first | (simp; done) | (simp; omega) | omega) _ | with_reducible refine Below.alloc ?_ (by first | (simp; done) | (simp; omega) | omega) _))) (Below.mono hb5 (by first | (simp; done) | (simp; omega) | omega))
  have hl3 := LRd.below (B := w3.heap.size) (A := A3) (n := k3) (c := c3) (xs := x3) (by (repeat (first | with_reducible exact hl3 | with_reducible refine LRd.alloc ?_ (by first | (simp; done) | (simp; omega) | omega) _ | with_reducible refine LRd.drewN ?_ _ | with_reducible refine LRd.drew ?_))) hb5 (by first | (simp; done) | (simp; omega) | omega)
  have hl3' := LRd.below (B := w3.heap.size) (A := A3') (n := k3') (c := c3') (xs := x3') (by (repeat (first | with_reducible exact hl3' | with_reducible refine LRd.alloc ?_ (by first | (simp; done) | (simp; omega) | omega) _ | with_reducible refine LRd.drewN ?_ _ | with_reducible refine LRd.drew ?_))) hb5 (by first | (simp; done) | (simp; omega) | omega)
  have P3 := Bk2.below (g := w3.heap.size) (u := (.bool m3)) (v := (.slice A3 k3 c3)) (by (repeat (first | with_reducible exact P3 | with_reducible refine Bk2.alloc ?_ _ | with_reducible refine Bk2.drew ?_ | with_reducible refine Bk2.drewN ?_ _))) hb5 (by first | (simp; done) | (simp; omega) | omega)
  have P3' := Bk2.below (g := w3.heap.size + 1) (u := (.bool m3')) (v := (.slice A3' k3' c3')) (by (repeat (first | with_reducible exact P3' | with_reducible refine Bk2.alloc ?_ _ | with_reducible refine Bk2.drew ?_ | with_reducible refine Bk2.drewN ?_ _))) hb5 (by first | (simp; done) | (simp; omega) | omega)
  have F3 := Bk2.below (g := w3.heap.size + 2) (u := (.int .i64 0)) (v := (.int .i64 0)) (by (repeat (first | with_reducible exact F3 | with_reducible refine Bk2.alloc ?_ _ | with_reducible refine Bk2.drew ?_ | with_reducible refine Bk2.drewN ?_ _))) hb5 (by first | (simp; done) | (simp; omega) | omega)
  have hl4 := LRd.below (B := w4.heap.size) (A := A4) (n := k4) (c := c4) (xs := x4) (by (repeat (first | with_reducible exact hl4 | with_reducible refine LRd.alloc ?_ (by first | (simp; done) | (simp; omega) | omega) _ | with_reducible refine LRd.drewN ?_ _ | with_reducible refine LRd.drew ?_))) hb5 (by first | (simp; done) | (simp; omega) | omega)
  have s5 := hb5.size
  try simp at s5
  go_wp2_with fail
  refine (idivmod_ok _ w5.heap.size (IV.mk n4 A4 k4 c4 x4) (IV.mk n5 A5 k5 c5 x5) ((LRd.more hl4 (by omega) : LRd w5 w5.heap.size A4 k4 c4 x4)) hl5 (Nat.le_refl _) o4.out o5.out q5.out).mono ?_
  rintro e w6 ⟨Q6, R6, hfl, m6, A6, k6, c6, x6, m6', A6', k6', c6', x6', rfl, hl6, hr6, hl6', hr6', hb6⟩
  rw [v4.out, v5.out] at hfl
  obtain ⟨rfl, rfl⟩ : Q6 = -4 ∧ R6 = -1 := by unfold FloorOf at hfl; omega
  have HR6 := Lib.hid hr6
  have HR6' := Lib.hid hr6'
  clear hfl hr6 hr6'
  clear hl4 hl5
  have E : Below w.heap.size w _ := Below.trans (by (repeat (first | with_reducible exact Below.refl _ _ | with_reducible exact E | with_reducible refine Below.drew ?_ | with_reducible refine below_drewN ?_ _ | with_reducible refine Below.setCell ?_ (by first | (simp; done) | (simp; omega) | omega) _ | with_reducible refine Below.alloc ?_ (by first | (simp; done) | (simp; omega) | omega) _))) (Below.mono hb6 (by first | (simp; done) | (simp; omega) | omega))
  have hl3 := LRd.below (B := w3.heap.size) (A := A3) (n := k3) (c := c3) (xs := x3) (by (repeat (first | with_reducible exact hl3 | with_reducible refine LRd.alloc ?_ (by first | (simp; done) | (simp; omega) | omega) _ | with_reducible refine LRd.drewN ?_ _ | with_reducible refine LRd.drew ?_))) hb6 (by first | (simp; done) | (simp; omega) | omega)
  have hl3' := LRd.below (B := w3.heap.size) (A := A3') (n := k3') (c := c3') (xs := x3') (by (repeat (first | with_reducible exact hl3' | with_reducible refine LRd.alloc ?_ (by first | (simp; done) | (simp; omega) | omega) _ | with_reducible refine LRd.drewN ?_ _ | with_reducible refine LRd.drew ?_))) hb6 (by first | (simp; done) | (simp; omega) | omega)
  have P3 := Bk2.below (g := w3.heap.size) (u := (.bool m3)) (v := (.slice A3 k3 c3)) (by (repeat (first | with_reducible exact P3 | with_reducible refine Bk2.alloc ?_ _ | with_reducible refine Bk2.drew ?_ | with_reducible refine Bk2.drewN ?_ _))) hb6 (by first | (simp; done) | (simp; omega) | omega)
  have P3' := Bk2.below (g := w3.heap.size + 1) (u := (.bool m3')) (v := (.slice A3' k3' c3')) (by (repeat (first | with_reducible exact P3' | with_reducible refine Bk2.alloc ?_ _ | with_reducible refine Bk2.drew ?_ | with_reducible refine Bk2.drewN ?_ _))) hb6 (by first | (simp; done) | (simp; omega) | omega)
  have F3 := Bk2.below (g := w3.heap.size + 2) (u := (.int .i64 0)) (v := (.int .i64 0)) (by (repeat (first | with_reducible exact F3 | with_reducible refine Bk2.alloc ?_ _ | with_reducible refine Bk2.drew ?_ | with_reducible refine Bk2.drewN ?_ _))) hb6 (by first | (simp; done) | (simp; omega) | omega)
  have s6 := hb6.size
  try simp at s6
  have P6 := Bk2.new w6 (.bool m6) (.slice A6 k6 c6) 24
  have P6' := Bk2.newAt (w6.alloc (.cells #[.bool m6, .slice A6 k6 c6] 24)) (w6.heap.size + 1) (by simp) (.bool m6') (.slice A6' k6' c6') 24
  have F6 := Bk2.newAt ((w6.alloc (.cells #[.bool m6, .slice A6 k6 c6] 24)).alloc (.cells #[.bool m6', .slice A6' k6' c6'] 24)) (w6.heap.size + 2) (by simp) (.int .i64 0) (.int .i64 0) 26
  go_wp2_with fail
  refine (iof_any _ (-255) (by omega) (by omega)).mono ?_
  rintro e w7 ⟨n7, A7, k7, c7, x7, rfl, hl7, hr7, hb7⟩
  have o7 := Lib.hid (hr7.iok (lt_top (by decide)))
  have v7 := Lib.hid (hr7.ival (A := A7) (n := k7) (c := c7))
  have q7 := Lib.hid (hr7.pos hl7.len.out (by decide))
  have HR7 := Lib.hid hr7
  clear hr7
  have E : Below w.heap.size w _ := Below.trans (by (repeat (first | with_reducible exact Below.refl _ _ | with_reducible exact E | with_reducible refine Below.drew ?_ | with_reducible refine below_drewN ?_ _ | with_reducible refine Below.setCell ?_ (by first | (simp; done) | (simp; omega) | omega) _ | with_reducible refine Below.alloc ?_ (by first | (simp; done) | (simp; omega) | omega) _))) (Below.mono hb7 (by first | (simp; done) | (simp; omega) | omega))
  have hl3 := LRd.below (B := w3.heap.size) (A := A3) (n := k3) (c := c3) (xs := x3) (by (repeat (first | with_reducible exact hl3 | with_reducible refine LRd.alloc ?_ (by first | (simp; done) | (simp; omega) | omega) _ | with_reducible refine LRd.drewN ?_ _ | with_reducible refine LRd.drew ?_))) hb7 (by first | (simp; done) | (simp; omega) | omega)
  have hl3' := LRd.below (B := w3.heap.size) (A := A3') (n := k3') (c := c3') (xs := x3') (by (repeat (first | with_reducible exact hl3' | with_reducible refine LRd.alloc ?_ (by first | (simp; done) | (simp; omega) | omega) _ | with_reducible refine LRd.drewN ?_ _ | with_reducible refine LRd.drew ?_))) hb7 (by first | (simp; done) | (simp; omega) | omega)
  have P3 := Bk2.below (g := w3.heap.size) (u := (.bool m3)) (v := (.slice A3 k3 c3)) (by (repeat (first | with_reducible exact P3 | with_reducible refine Bk2.alloc ?_ _ | with_reducible refine Bk2.drew ?_ | with_reducible refine Bk2.drewN ?_ _))) hb7 (by first | (simp; done) | (simp; omega) | omega)
  have P3' := Bk2.below (g := w3.heap.size + 1) (u := (.bool m3')) (v := (.slice A3' k3' c3')) (by (repeat (first | with_reducible exact P3' | with_reducible refine Bk2.alloc ?_ _ | with_reducible refine Bk2.drew ?_ | with_reducible refine Bk2.drewN ?_ _))) hb7 (by first | (simp; done) | (simp; omega) | omega)
  have F3 := Bk2.below (g := w3.heap.size + 2) (u := (.int .i64 0)) (v := (.int .i64 0)) (by (repeat (first | with_reducible exact F3 | with_reducible refine Bk2.alloc ?_ _ | with_reducible refine Bk2.drew ?_ | with_reducible refine Bk2.drewN ?_ _))) hb7 (by first | (simp; done) | (simp; omega) | omega)
  have hl6 := LRd.below (B := w6.heap.size) (A := A6) (n := k6) (c := c6) (xs := x6) (by (repeat (first | with_reducible exact hl6 | with_reducible refine LRd.alloc ?_ (by first | (simp; done) | (simp; omega) | omega) _ | with_reducible refine LRd.drewN ?_ _ | with_reducible refine LRd.drew ?_))) hb7 (by first | (simp; done) | (simp; omega) | omega)
  have hl6' := LRd.below (B := w6.heap.size) (A := A6') (n := k6') (c := c6') (xs := x6') (by (repeat (first | with_reducible exact hl6' | with_reducible refine LRd.alloc ?_ (by first | (simp; done) | (simp; omega) | omega) _ | with_reducible refine LRd.drewN ?_ _ | with_reducible refine LRd.drew ?_))) hb7 (by first | (simp; done) | (simp; omega) | omega)
  have P6 := Bk2.below (g := w6.heap.size) (u := (.bool m6)) (v := (.slice A6 k6 c6)) (by (repeat (first | with_reducible exact P6 | with_reducible refine Bk2.alloc ?_ _ | with_reducible refine Bk2.drew ?_ | with_reducible refine Bk2.drewN ?_ _))) hb7 (by first | (simp; done) | (simp; omega) | omega)
  have P6' := Bk2.below (g := w6.heap.size + 1) (u := (.bool m6')) (v := (.slice A6' k6' c6')) (by (repeat (first | with_reducible exact P6' | with_reducible refine Bk2.alloc ?_ _ | with_reducible refine Bk2.drew ?_ | with_reducible refine Bk2.drewN ?_ _))) hb7 (by first | (simp; done) | (simp; omega) | omega)
  have F6 := Bk2.below (g := w6.heap.size + 2) (u := (.int .i64 0)) (v := (.int .i64 0)) (by (repeat (first | with_reducible exact F6 | with_reducible refine Bk2.alloc ?_ _ | with_reducible refine Bk2.drew ?_ | with_reducible refine Bk2.drewN ?_ _))) hb7 (by first | (simp; done) | (simp; omega) | omega)
  have s7 := hb7.size
  try simp at s7
  go_wp2_with fail
  refine (itext_ok _ w7.heap.size (IV.mk n7 A7 k7 c7 x7) 16 hl7 (Nat.le_refl _) o7.out (by omega)).mono ?_
  rintro e w8 ⟨s8, hs8, rfl, hb8⟩
  rw [v7.out] at hs8
  obtain rfl := text255 hs8
  clear hs8
  have E : Below w.heap.size w _ := Below.trans (by (repeat (first | with_reducible exact Below.refl _ _ | with_reducible exact E | with_reducible refine Below.drew ?_ | with_reducible refine below_drewN ?_ _ | with_reducible refine Below.setCell ?_ (by first | (simp; done) | (simp; omega) | omega) _ | with_reducible refine Below.alloc ?_ (by first | (simp; done) | (simp; omega) | omega) _))) (Below.mono hb8 (by first | (simp; done) | (simp; omega) | omega))
  have hl3 := LRd.below (B := w3.heap.size) (A := A3) (n := k3) (c := c3) (xs := x3) (by (repeat (first | with_reducible exact hl3 | with_reducible refine LRd.alloc ?_ (by first | (simp; done) | (simp; omega) | omega) _ | with_reducible refine LRd.drewN ?_ _ | with_reducible refine LRd.drew ?_))) hb8 (by first | (simp; done) | (simp; omega) | omega)
  have hl3' := LRd.below (B := w3.heap.size) (A := A3') (n := k3') (c := c3') (xs := x3') (by (repeat (first | with_reducible exact hl3' | with_reducible refine LRd.alloc ?_ (by first | (simp; done) | (simp; omega) | omega) _ | with_reducible refine LRd.drewN ?_ _ | with_reducible refine LRd.drew ?_))) hb8 (by first | (simp; done) | (simp; omega) | omega)
  have P3 := Bk2.below (g := w3.heap.size) (u := (.bool m3)) (v := (.slice A3 k3 c3)) (by (repeat (first | with_reducible exact P3 | with_reducible refine Bk2.alloc ?_ _ | with_reducible refine Bk2.drew ?_ | with_reducible refine Bk2.drewN ?_ _))) hb8 (by first | (simp; done) | (simp; omega) | omega)
  have P3' := Bk2.below (g := w3.heap.size + 1) (u := (.bool m3')) (v := (.slice A3' k3' c3')) (by (repeat (first | with_reducible exact P3' | with_reducible refine Bk2.alloc ?_ _ | with_reducible refine Bk2.drew ?_ | with_reducible refine Bk2.drewN ?_ _))) hb8 (by first | (simp; done) | (simp; omega) | omega)
  have F3 := Bk2.below (g := w3.heap.size + 2) (u := (.int .i64 0)) (v := (.int .i64 0)) (by (repeat (first | with_reducible exact F3 | with_reducible refine Bk2.alloc ?_ _ | with_reducible refine Bk2.drew ?_ | with_reducible refine Bk2.drewN ?_ _))) hb8 (by first | (simp; done) | (simp; omega) | omega)
  have hl6 := LRd.below (B := w6.heap.size) (A := A6) (n := k6) (c := c6) (xs := x6) (by (repeat (first | with_reducible exact hl6 | with_reducible refine LRd.alloc ?_ (by first | (simp; done) | (simp; omega) | omega) _ | with_reducible refine LRd.drewN ?_ _ | with_reducible refine LRd.drew ?_))) hb8 (by first | (simp; done) | (simp; omega) | omega)
  have hl6' := LRd.below (B := w6.heap.size) (A := A6') (n := k6') (c := c6') (xs := x6') (by (repeat (first | with_reducible exact hl6' | with_reducible refine LRd.alloc ?_ (by first | (simp; done) | (simp; omega) | omega) _ | with_reducible refine LRd.drewN ?_ _ | with_reducible refine LRd.drew ?_))) hb8 (by first | (simp; done) | (simp; omega) | omega)
  have P6 := Bk2.below (g := w6.heap.size) (u := (.bool m6)) (v := (.slice A6 k6 c6)) (by (repeat (first | with_reducible exact P6 | with_reducible refine Bk2.alloc ?_ _ | with_reducible refine Bk2.drew ?_ | with_reducible refine Bk2.drewN ?_ _))) hb8 (by first | (simp; done) | (simp; omega) | omega)
  have P6' := Bk2.below (g := w6.heap.size + 1) (u := (.bool m6')) (v := (.slice A6' k6' c6')) (by (repeat (first | with_reducible exact P6' | with_reducible refine Bk2.alloc ?_ _ | with_reducible refine Bk2.drew ?_ | with_reducible refine Bk2.drewN ?_ _))) hb8 (by first | (simp; done) | (simp; omega) | omega)
  have F6 := Bk2.below (g := w6.heap.size + 2) (u := (.int .i64 0)) (v := (.int .i64 0)) (by (repeat (first | with_reducible exact F6 | with_reducible refine Bk2.alloc ?_ _ | with_reducible refine Bk2.drew ?_ | with_reducible refine Bk2.drewN ?_ _))) hb8 (by first | (simp; done) | (simp; omega) | omega)
  have hl7 := LRd.below (B := w7.heap.size) (A := A7) (n := k7) (c := c7) (xs := x7) (by (repeat (first | with_reducible exact hl7 | with_reducible refine LRd.alloc ?_ (by first | (simp; done) | (simp; omega) | omega) _ | with_reducible refine LRd.drewN ?_ _ | with_reducible refine LRd.drew ?_))) hb8 (by first | (simp; done) | (simp; omega) | omega)
  have s8 := hb8.size
  try simp at s8
  have F8 := Bk2.new w8 (.int .i64 0) (.int .i64 0) 26
  go_wp2_with fail
  obtain ⟨W, hW⟩ : ∃ W : World, W = w8.alloc (.cells #[.int .i64 0, .int .i64 0] 26) := ⟨_, rfl⟩
  have P3 : Bk2 W (w3.heap.size) (.bool m3) (.slice A3 k3 c3) := by rw [hW]; exact P3.alloc _
  have P3' : Bk2 W (w3.heap.size + 1) (.bool m3') (.slice A3' k3' c3') := by rw [hW]; exact P3'.alloc _
  have F3 : Bk2 W (w3.heap.size + 2) (.int .i64 0) (.int .i64 0) := by rw [hW]; exact F3.alloc _
  have P6 : Bk2 W (w6.heap.size) (.bool m6) (.slice A6 k6 c6) := by rw [hW]; exact P6.alloc _
  have P6' : Bk2 W (w6.heap.size + 1) (.bool m6') (.slice A6' k6' c6') := by rw [hW]; exact P6'.alloc _
  have F6 : Bk2 W (w6.heap.size + 2) (.int .i64 0) (.int .i64 0) := by rw [hW]; exact F6.alloc _
  have F8 : Bk2 W (w8.heap.size) (.int .i64 0) (.int .i64 0) := by rw [hW]; exact F8
  have hl3 : LRd W (w3.heap.size) A3 k3 c3 x3 := by rw [hW]; exact hl3.alloc (by first | (simp; done) | (simp; omega) | omega) _
  have hl3' : LRd W (w3.heap.size) A3' k3' c3' x3' := by rw [hW]; exact hl3'.alloc (by first | (simp; done) | (simp; omega) | omega) _
  have hl6 : LRd W (w6.heap.size) A6 k6 c6 x6 := by rw [hW]; exact hl6.alloc (by first | (simp; done) | (simp; omega) | omega) _
  have hl6' : LRd W (w6.heap.size) A6' k6' c6' x6' := by rw [hW]; exact hl6'.alloc (by first | (simp; done) | (simp; omega) | omega) _
  have hl7 : LRd W (w7.heap.size) A7 k7 c7 x7 := by rw [hW]; exact hl7.alloc (by first | (simp; done) | (simp; omega) | omega) _
  have E : Below w.heap.size w W := by rw [hW]; exact E.alloc (by first | (simp; done) | (simp; omega) | omega) _
  have sW : w8.heap.size ≤ W.heap.size := by rw [hW]; simp
  rw [← hW]
  clear hW
  have G0 : Below W.heap.size W W.drew := Below.drew (Below.refl _ _)
  have HS := Lib.hid (fun (u : World) (hu : Below W.heap.size W u) => (⟨hu, (P3.below hu P3.lt).c0, (P3.below hu P3.lt).c1, (P3'.below hu P3'.lt).c0, (P3'.below hu P3'.lt).c1, (F3.below hu F3.lt).c0, (P6.below hu P6.lt).c0, (P6.below hu P6.lt).c1, (P6'.below hu P6'.lt).c0, (P6'.below hu P6'.lt).c1, (F6.below hu F6.lt).c0, (F8.below hu F8.lt).c0⟩ : Below W.heap.size W u ∧ u.cell? ⟨w3.heap.size, 0, none⟩ = some (.bool m3) ∧ u.cell? ⟨w3.heap.size, 1, none⟩ = some (.slice A3 k3 c3) ∧ u.cell? ⟨w3.heap.size + 1, 0, none⟩ = some (.bool m3') ∧ u.cell? ⟨w3.heap.size + 1, 1, none⟩ = some (.slice A3' k3' c3') ∧ u.cell? ⟨w3.heap.size + 2, 0, none⟩ = some (.int .i64 0) ∧ u.cell? ⟨w6.heap.size, 0, none⟩ = some (.bool m6) ∧ u.cell? ⟨w6.heap.size, 1, none⟩ = some (.slice A6 k6 c6) ∧ u.cell? ⟨w6.heap.size + 1, 0, none⟩ = some (.bool m6') ∧ u.cell? ⟨w6.heap.size + 1, 1, none⟩ = some (.slice A6' k6' c6') ∧ u.cell? ⟨w6.heap.size + 2, 0, none⟩ = some (.int .i64 0) ∧ u.cell? ⟨w8.heap.size, 0, none⟩ = some (.int .i64 0)))
  clear P3 P3' F3 P6 P6' F6 F8
  go_region_held3 (fun u => Below W.heap.size W u ∧ u.cell? ⟨w3.heap.size, 0, none⟩ = some (.bool m3) ∧ u.cell? ⟨w3.heap.size, 1, none⟩ = some (.slice A3 k3 c3) ∧ u.cell? ⟨w3.heap.size + 1, 0, none⟩ = some (.bool m3') ∧ u.cell? ⟨w3.heap.size + 1, 1, none⟩ = some (.slice A3' k3' c3') ∧ u.cell? ⟨w3.heap.size + 2, 0, none⟩ = some (.int .i64 0) ∧ u.cell? ⟨w6.heap.size, 0, none⟩ = some (.bool m6) ∧ u.cell? ⟨w6.heap.size, 1, none⟩ = some (.slice A6 k6 c6) ∧ u.cell? ⟨w6.heap.size + 1, 0, none⟩ = some (.bool m6') ∧ u.cell? ⟨w6.heap.size + 1, 1, none⟩ = some (.slice A6' k6' c6') ∧ u.cell? ⟨w6.heap.size + 2, 0, none⟩ = some (.int .i64 0) ∧ u.cell? ⟨w8.heap.size, 0, none⟩ = some (.int .i64 0)) (first | with_reducible exact HS.out _ G0 | with_reducible exact HS.out _ HBS | with_reducible exact HS.out _ HBN)
    (first
      | (go_at_call 20; try go_split_ands; ((with_reducible refine (number_any _ _ (by omega) (by omega)).mono ?_); rintro e wn ⟨mN, AN, kN, cN, zN, vN, rfl, hDN, hRN, hsN, hbN⟩; have HBN : Below W.heap.size W wn := bnext (by assumption) hbN; have HkN := len16 hRN hDN.len.out (by have := abs_sval hsN; omega)))
      | (go_at_call 18; ((with_reducible refine (sameInt_any _ wn.heap.size m3 mN A3 AN k3 kN c3 cN vN (-4) x3 zN ((hl3.below HBN (by omega)).more (by have := HBN.size; omega)) hDN (Nat.le_refl _) HR3.out hRN hsN HkN).mono ?_); rintro e ws ⟨rfl, hbS⟩; have HBS : Below W.heap.size W ws := bnext HBN hbS))
      | (go_at_call 18; ((with_reducible refine (sameInt_any _ wn.heap.size m3' mN A3' AN k3' kN c3' cN vN 1 x3' zN ((hl3'.below HBN (by omega)).more (by have := HBN.size; omega)) hDN (Nat.le_refl _) HR3'.out hRN hsN HkN).mono ?_); rintro e ws ⟨rfl, hbS⟩; have HBS : Below W.heap.size W ws := bnext HBN hbS))
      | (go_at_call 18; ((with_reducible refine (sameInt_any _ wn.heap.size m6 mN A6 AN k6 kN c6 cN vN (-4) x6 zN ((hl6.below HBN (by omega)).more (by have := HBN.size; omega)) hDN (Nat.le_refl _) HR6.out hRN hsN HkN).mono ?_); rintro e ws ⟨rfl, hbS⟩; have HBS : Below W.heap.size W ws := bnext HBN hbS))
      | (go_at_call 18; ((with_reducible refine (sameInt_any _ wn.heap.size m6' mN A6' AN k6' kN c6' cN vN (-1) x6' zN ((hl6'.below HBN (by omega)).more (by have := HBN.size; omega)) hDN (Nat.le_refl _) HR6'.out hRN hsN HkN).mono ?_); rintro e ws ⟨rfl, hbS⟩; have HBS : Below W.heap.size W ws := bnext HBN hbS)))
  all_goals (go_wp2_with fail)
  all_goals go_ret
  all_goals (exact ⟨by first | rfl | (simp; done), E.trans (Below.mono (by assumption) E.size)⟩)
end Go.Proofs.Ytpjfoggohhlbdaa

namespace Go.Proofs.Ytpjfoggohhlbdaa
open Go.ChangeShapes Go.WideShapes Go.ChangeAt Go.RowKit

theorem cell_block_lt {w : World} {a : Addr} {v : Value} (h : w.cell? a = some v) : a.block < w.heap.size := by
  unfold World.cell? at h
  rcases Nat.lt_or_ge a.block w.heap.size with hl | hl
  · exact hl
  · exfalso
    have e : w.heap[a.block]? = none := by simp [hl]
    simp [e] at h
theorem lrd_open {H : Type} {enc : TypeId × Value → H} {W : World} {spare : Nat → Bool} {held : Bool} {A : Option Addr} {len cap : Nat} {fuel : Nat} {x : DataW H × List MemPlace}
    (hs : ∀ b, spare b = true)
    (h : DataW.trod enc Try.prog W 0 spare held fuel 22 (Value.cells (.slice A len cap)).toList = some x) : ∃ xs, LRd W W.heap.size A len cap xs := by
  rcases open_ints Try.underlying22 Try.underlying66 (by kernel_rfl) h with ⟨hcs, _⟩ | ⟨a, l, c, zs, hcs, _, hl, hm, hz, _, hcell, hwz⟩
  · simp [Value.cells] at hcs
    obtain ⟨rfl, rfl, rfl⟩ := hcs
    exact ⟨[], rfl, ⟨Nat.le_refl _, by omega⟩, fun x hx => absurd hx (by simp), fun hn => absurd hn (by omega)⟩
  · simp [Value.cells] at hcs
    obtain ⟨rfl, rfl, rfl⟩ := hcs
    rw [hs, if_pos rfl] at hz
    have hb : ∀ n ∈ zs, 0 ≤ n ∧ n < 4294967296 := by
      intro n hn
      have hw := hwz n hn
      have := bounds_u32 hw
      omega
    unfold maxLen at hm
    refine ⟨(zs.take len).map Int.toNat, (by simp; omega : _ = _), ⟨hl, by omega⟩, ?_, ?_⟩
    · intro x hx
      rw [List.mem_map] at hx
      obtain ⟨n, hn, rfl⟩ := hx
      have := hb n (List.mem_of_mem_take hn)
      omega
    · intro hn
      have h0 := hcell 0 (by omega)
      obtain ⟨b, off, spot⟩ := a
      have hspot : spot = none := by simpa [Addr.add] using World.cell?_spot h0
      subst hspot
      refine ⟨b, off, rfl, ?_, ?_⟩
      · have := cell_block_lt h0
        simpa [Addr.add] using this
      · intro j hj
        have hc := hcell j (by omega)
        have e : zs.getD j 0 = nth ((zs.take len).map Int.toNat) j := by
          unfold nth
          have hjz : j < zs.length := by omega
          have hj' := hb zs[j] (List.getElem_mem hjz)
          simp [hj, hjz]
          omega
        rw [e] at hc
        have ea : (⟨b, off, none⟩ : Addr).add j = ⟨b, off + j, none⟩ := by
          unfold Addr.add; split <;> simp_all
        rw [ea] at hc
        exact hc
end Go.Proofs.Ytpjfoggohhlbdaa

namespace Go.Proofs.Ytpjfoggohhlbdaa
open Go.Joins Go.ChangeShapes Go.WideShapes Go.ChangeAt Go.RowKit

set_option maxRecDepth 100000
theorem cellsInt : (Try.prog).cellsOf 24 = 2 := by kernel_rfl
theorem int_open {H : Type} {enc : TypeId × Value → H} {W : World} {spare : Nat → Bool} {held : Bool} {r : Reach} {b0 : Nat} {v : Value} {d : DataW H} {p : List MemPlace} (hs : ∀ b, spare b = true)
    (hv : Value.okWide Try.prog W r b0 24 v) (h : DataW.Trod enc Try.prog W 0 spare held 24 v d p) : ∃ a : IV, v = a.v ∧ a.at W W.heap.size := by
  obtain ⟨c0, c1, y0, y1, m, rfl, _, _, hy0, hy1⟩ := open_agg2 Try.underlying24 (by kernel_rfl) cellsInt hv h
  obtain ⟨b, e0, _⟩ := DataW.trod_bool Try.underlying4 hy0
  obtain ⟨A, n, c, e1⟩ : ∃ A n c, c1 = .slice A n c := by
    rcases open_ints Try.underlying22 Try.underlying66 (by kernel_rfl) hy1 with ⟨hcs, _⟩ | ⟨a, l, c, zs, hcs, _⟩
    · simp at hcs; exact ⟨_, _, _, hcs⟩
    · simp at hcs; exact ⟨_, _, _, hcs⟩
  simp at e0
  subst e0 e1
  obtain ⟨xs, hx⟩ := lrd_open (A := A) (len := n) (cap := c) hs (x := y1) (by simpa [Value.cells] using hy1)
  exact ⟨⟨b, A, n, c, xs⟩, rfl, hx⟩
end Go.Proofs.Ytpjfoggohhlbdaa
