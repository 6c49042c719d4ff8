/- Package integer: wide, Small. -/
import Derived.Test.YtpidkionieaffaaKInt22
import Derived.Test.YtpidkionieaffaaKh
import Derived.Test.YtpidkionieaffaaKa
namespace Go.Proofs.Ytpidkionieaffaa
open Go.RowKit
set_option maxHeartbeats 400000
set_option maxRecDepth 100000
set_option linter.unusedSimpArgs false
set_option linter.unusedVariables false

def WdRel (n : Nat) (xs : List Nat) (v i : Value) : Prop := ∃ (j : Nat) (u : Int), j ≤ n ∧ i = .int .i64 (j : Int) ∧ v = .int .u64 u ∧ Hid (u = ((S 4294967296 (fun i => xs.getD i 0) j : Nat) : Int))
theorem wd_or0 (x : Int) (hx : 0 ≤ x ∧ x < 4294967296) : bits BinOp.or IntKind.u64 0 (IntKind.u64.wrap (x * 2 ^ (32 * 0))) = x := by
  have e : IntKind.u64.wrap (x * 2 ^ (32 * 0)) = x := by
    simp only [IntKind.wrap, IntKind.bits, IntKind.signed]; simp; omega
  rw [e]
  have := join_bits 0 x ⟨by omega, by omega⟩ hx
  simpa using this
theorem bits_or_comm (a b : Nat) (ha : a < 18446744073709551616) (hb : b < 18446744073709551616) : bits .or .u64 (a : Int) (b : Int) = bits .or .u64 (b : Int) (a : Int) := by
  rw [bits_or_u64_nat a b ha hb, bits_or_u64_nat b a hb ha, Nat.or_comm]
theorem wd_or1 (u x : Int) (hu : 0 ≤ u ∧ u < 4294967296) (hx : 0 ≤ x ∧ x < 4294967296) : bits BinOp.or IntKind.u64 u (IntKind.u64.wrap (x * 2 ^ (32 * 1))) = u + x * 4294967296 := by
  have e : IntKind.u64.wrap (x * 2 ^ (32 * 1)) = x * 4294967296 := by
    simp only [IntKind.wrap, IntKind.bits, IntKind.signed]; simp; omega
  rw [e]
  obtain ⟨a, rfl⟩ := Int.eq_ofNat_of_zero_le hu.1
  obtain ⟨b, rfl⟩ := Int.eq_ofNat_of_zero_le hx.1
  have h1 := bits_or_comm a (b * 4294967296) (by omega) (by omega)
  have h2 := join_bits (b : Int) (a : Int) hx hu
  rw [Int.natCast_mul] at h1
  have h3 : ((4294967296 : Nat) : Int) = 4294967296 := rfl
  rw [h3] at h1
  rw [h1, h2, Int.add_comm]
theorem wd_s (xs : List Nat) (hl : Lim xs) : ((S 4294967296 (fun i => xs.getD i 0) 1 : Nat) : Int) = nth xs 0 ∧ ((S 4294967296 (fun i => xs.getD i 0) 2 : Nat) : Int) = nth xs 0 + nth xs 1 * 4294967296 := by
  unfold nth
  constructor
  · rw [S_succ, S_zero]; simp
  · rw [S_succ, S_succ, S_zero]; simp
set_option maxHeartbeats 1000000 in
theorem wide_ok (w : World) (B : Nat) (A : Option Addr) (n c : Nat) (xs : List Nat) (h : LRd w B A n c xs) (hn : n ≤ 2) :
    Calls Try.prog 66 #[.slice A n c] w fun e w' => e = .returned (.tuple #[.int .u64 ((vb 4294967296 xs : Nat) : Int), .bool true]) ∧ w = w' := by
  have hn' : (n : Int) ≤ 2 := by omega
  have hcap := h.cap
  go_enter Try.func66, Try.ntmps66
  go_wp2_with fail
  go_loop [4, 12] (WdRel n xs) (fun _ i => n - (intOf i).toNat)
  case atStart => exact ⟨0, 0, Nat.zero_le _, rfl, rfl, rfl⟩
  case round =>
    obtain ⟨j, u, hj, rfl, rfl, HU⟩ := hrel
    by_cases h1 : j < n
    · obtain ⟨b, off, rfl, hb, hc⟩ := h.rd (by omega)
      have g1 := hc j h1
      have a1 := nth_nn xs j
      have a2 := h.lim.nth j
      clear hc
      have hj2 : j ≤ 1 := by omega
      have HN := Lib.hid (show bits BinOp.or IntKind.u64 u (IntKind.u64.wrap (nth xs j * 2 ^ (32 * j))) = ((S 4294967296 (fun i => xs.getD i 0) (j + 1) : Nat) : Int) by
        have hs := wd_s xs h.lim
        rcases (show j = 0 ∨ j = 1 by omega) with rfl | rfl
        · have e : u = 0 := by rw [HU.out, S_zero]; rfl
          rw [e, hs.1, wd_or0 _ ⟨a1, a2⟩]
        · have e : u = nth xs 0 := by rw [HU.out, hs.1]
          rw [e, hs.2, wd_or1 _ _ ⟨nth_nn xs 0, h.lim.nth 0⟩ ⟨a1, a2⟩])
      go_wp2_with fail
      go_round
      case rel => exact ⟨j + 1, _, by omega, by go_num, rfl, HN.out⟩
      case measure => simp [intOf]; omega
    · obtain rfl : j = n := by omega
      have HV := Lib.hid (show u = ((vb 4294967296 xs : Nat) : Int) by rw [HU.out]; unfold vb; rw [h.len.out])
      go_wp2_with fail
      go_ret2
      exact ⟨by rw [HV.out]; rfl, rfl⟩
theorem wide_big (w : World) (A : Option Addr) (n c : Nat) (hn : 2 < n) (hc : n ≤ 9223372036854775807) :
    Calls Try.prog 66 #[.slice A n c] w fun e w' => e = .returned (.tuple #[.int .u64 0, .bool false]) ∧ w = w' := by
  have hn' : 2 < (n : Int) := by omega
  go_enter Try.func66, Try.ntmps66
  go_wp2_with fail
  go_ret2
  exact ⟨rfl, rfl⟩
def SmlPost (z : Int) (w : World) (e : Ending) (w' : World) : Prop :=
  ((-9223372036854775808 ≤ z ∧ z ≤ 9223372036854775807) ∧ GivesI w z 0 0 e w') ∨ (¬ (-9223372036854775808 ≤ z ∧ z ≤ 9223372036854775807) ∧ GivesI w 0 14 (-1) e w')
theorem sm_p1 {p : Nat} (h : p ≤ 9223372036854775807) : IntKind.i64.wrap (p : Int) = (p : Int) := by rw [IntKind.wrap_i64]; omega
theorem sm_p2 {p : Nat} (h : 9223372036854775807 < p) (h2 : p ≤ 18446744073709551615) : IntKind.i64.wrap (p : Int) = (p : Int) - 18446744073709551616 := by rw [IntKind.wrap_i64]; omega
theorem sm_n1 {p : Nat} (h0 : 0 < p) (h : p ≤ 9223372036854775808) : IntKind.i64.wrap (IntKind.u64.wrap (-(p : Int))) = -(p : Int) := by rw [IntKind.wrap_i64, IntKind.wrap_u64]; omega
theorem sm_n2 {p : Nat} (h : 9223372036854775808 < p) (h2 : p ≤ 18446744073709551615) : IntKind.i64.wrap (IntKind.u64.wrap (-(p : Int))) = 18446744073709551616 - (p : Int) := by rw [IntKind.wrap_i64, IntKind.wrap_u64]; omega
theorem two_limbs {xs : List Nat} {v k : Nat} (h : Rep 4294967296 xs v) (hl : xs.length = k) (hk : k ≤ 2) : v ≤ 18446744073709551615 := by
  have h1 := h.lt_pow (by decide)
  have h2 : 4294967296 ^ xs.length ≤ 4294967296 ^ 2 := Nat.pow_le_pow_right (by decide) (by omega)
  have h3 : (4294967296 : Nat) ^ 2 = 18446744073709551616 := by decide
  omega
theorem three_limbs {xs : List Nat} {v k : Nat} (h : Rep 4294967296 xs v) (hl : xs.length = k) (hk : 2 < k) : 18446744073709551616 ≤ v := by
  obtain ⟨m, hm⟩ : ∃ m, xs.length = m + 1 := ⟨xs.length - 1, by omega⟩
  have h1 := h.top.low (b := 4294967296) hm
  have h2 : 4294967296 ^ 2 ≤ 4294967296 ^ m := Nat.pow_le_pow_right (by decide) (by omega)
  have h3 : (4294967296 : Nat) ^ 2 = 18446744073709551616 := by decide
  rw [h.val] at h1
  omega
set_option maxHeartbeats 2000000 in
theorem ismall_bad (w : World) (B : Nat) (a : IV) (HA : a.at w B) (hB : B ≤ w.heap.size) (f2 : Int) (hf : ffault [a] 0 = (6, f2)) :
    Calls Try.prog 21 #[a.v] w (GivesI w 0 6 f2) := by
  replace HA : LRd w B a.A a.n a.c a.xs := HA
  have E : Below w.heap.size w w := Below.refl _ _
  have IR := Lib.hid (irow1 ((w.alloc a.cells).alloc (.cells #[.int .i64 0, .int .i64 0] 26)) B a ((HA.alloc (by omega) _).alloc (by simp; omega) _) (by simp; omega))
  go_enter Try.func21, Try.ntmps21
  go_wp2_with fail
  obtain ⟨V0, hV0⟩ : ∃ V0 : World, V0 = (((w.alloc (.cells #[.bool a.neg, .slice a.A a.n a.c] 24)).alloc (.cells #[.int .i64 0, .int .i64 0] 26)).alloc (.cells #[.bool a.neg, .slice a.A a.n a.c] 24)) := ⟨_, rfl⟩
  have bV0 : Below w.heap.size w V0 := by rw [hV0]; (repeat (first | with_reducible exact Below.refl _ _ | with_reducible refine Below.drew ?_ | with_reducible refine below_drewN ?_ _ | with_reducible refine Below.setCell ?_ (by first | (simp; done) | (simp; omega) | omega) _ | with_reducible refine Below.alloc ?_ (by first | (simp; done) | (simp; omega) | omega) _))
  have zV0 : w.heap.size + 3 ≤ V0.heap.size := by rw [hV0]; simp
  have PA : Bk2 V0 (w.heap.size) (.bool a.neg) (.slice a.A a.n a.c) := by rw [hV0]; exact (((Bk2.newAt _ _ (by simp) _ _ _).alloc _).alloc _)
  have PR : Bk2 V0 (w.heap.size + 1) (.int .i64 0) (.int .i64 0) := by rw [hV0]; exact ((Bk2.newAt _ _ (by simp) _ _ _).alloc _)
  replace IR : Hid (IRow V0 B (w.heap.size + 2) [a]) := by have h9 := IR.out; rw [hV0]; rw [show ((w.alloc a.cells).alloc (.cells #[.int .i64 0, .int .i64 0] 26)).heap.size = w.heap.size + 2 by simp] at h9; exact h9
  rw [← hV0]
  clear hV0
  replace E : Below w.heap.size w V0 := E.trans (bV0.mono E.size)
  replace HA : LRd V0 (B) a.A a.n a.c a.xs := HA.below bV0 (by omega)
  clear bV0
  (with_reducible refine (check_any _ B (w.heap.size + 2) 1 [a] IR.out rfl (by omega) (by omega)).mono ?_)
  rintro e w1 ⟨rfl, hb1⟩
  have sw1 := hb1.size
  replace E : Below w.heap.size w w1 := E.trans (hb1.mono E.size)
  replace HA : LRd w1 (B) a.A a.n a.c a.xs := HA.below hb1 (by omega)
  replace PA : Bk2 w1 (w.heap.size) (.bool a.neg) (.slice a.A a.n a.c) := PA.below hb1 PA.lt
  replace PR : Bk2 w1 (w.heap.size + 1) (.int .i64 0) (.int .i64 0) := PR.below hb1 PR.lt
  clear hb1
  rw [hf]
  clear IR
  have PF := Bk2.new w1 (.int .i64 6) (.int .i64 f2) 26
  have EB : Below w.heap.size w (w1.alloc (.cells #[.int .i64 6, .int .i64 f2] 26)) := E.alloc (by have := E.size; omega) _
  have P2 := PR.alloc (.cells #[.int .i64 6, .int .i64 f2] 26)
  have zz := PR.lt
  go_wp2_with fail
  obtain ⟨W, hW⟩ : ∃ W : World, W = w1.alloc (.cells #[.int .i64 6, .int .i64 f2] 26) := ⟨_, rfl⟩
  rw [← hW] at PF P2 EB ⊢
  clear hW E HA PA PR hf
  obtain ⟨f0, f1, z0, z1, _⟩ := P2
  obtain ⟨x0, x1, _, _, _⟩ := PF
  go_region
  all_goals (go_wp2_with fail)
  all_goals
    refine bodyPost_ret (v := .tuple #[.int .i64 0, flt 6 f2]) (by simp [results, Try.results21, go_sem, f0, f1]) rfl ⟨rfl, ?_⟩
    (repeat (first | with_reducible exact Below.refl _ _ | with_reducible exact EB | with_reducible refine Below.drew ?_ | with_reducible refine below_drewN ?_ _ | with_reducible refine Below.setCell ?_ (by first | (simp; done) | (simp; omega) | omega) _ | with_reducible refine Below.alloc ?_ (by first | (simp; done) | (simp; omega) | omega) _))
set_option maxHeartbeats 2000000 in
theorem ismall_big_f (w : World) (B : Nat) (a : IV) (HA : a.at w B) (hB : B ≤ w.heap.size) (oa : a.ok = true) (hs : Hid (a.neg = false)) (hn : 2 < a.n) :
    Calls Try.prog 21 #[a.v] w (SmlPost a.val w) := by
  have hra : Rep 4294967296 a.xs (vb 4294967296 a.xs) := ⟨HA.lim, rfl, (vld_top (IV.vld oa).1).1⟩
  have HX := Lib.hid (three_limbs hra HA.len.out hn)
  clear hra
  replace HA : LRd w B a.A a.n a.c a.xs := HA
  have E : Below w.heap.size w w := Below.refl _ _
  have IR := Lib.hid (irow1 ((w.alloc a.cells).alloc (.cells #[.int .i64 0, .int .i64 0] 26)) B a ((HA.alloc (by omega) _).alloc (by simp; omega) _) (by simp; omega))
  go_enter Try.func21, Try.ntmps21
  go_wp2_with fail
  obtain ⟨V0, hV0⟩ : ∃ V0 : World, V0 = (((w.alloc (.cells #[.bool a.neg, .slice a.A a.n a.c] 24)).alloc (.cells #[.int .i64 0, .int .i64 0] 26)).alloc (.cells #[.bool a.neg, .slice a.A a.n a.c] 24)) := ⟨_, rfl⟩
  have bV0 : Below w.heap.size w V0 := by rw [hV0]; (repeat (first | with_reducible exact Below.refl _ _ | with_reducible refine Below.drew ?_ | with_reducible refine below_drewN ?_ _ | with_reducible refine Below.setCell ?_ (by first | (simp; done) | (simp; omega) | omega) _ | with_reducible refine Below.alloc ?_ (by first | (simp; done) | (simp; omega) | omega) _))
  have zV0 : w.heap.size + 3 ≤ V0.heap.size := by rw [hV0]; simp
  have PA : Bk2 V0 (w.heap.size) (.bool a.neg) (.slice a.A a.n a.c) := by rw [hV0]; exact (((Bk2.newAt _ _ (by simp) _ _ _).alloc _).alloc _)
  have PR : Bk2 V0 (w.heap.size + 1) (.int .i64 0) (.int .i64 0) := by rw [hV0]; exact ((Bk2.newAt _ _ (by simp) _ _ _).alloc _)
  replace IR : Hid (IRow V0 B (w.heap.size + 2) [a]) := by have h9 := IR.out; rw [hV0]; rw [show ((w.alloc a.cells).alloc (.cells #[.int .i64 0, .int .i64 0] 26)).heap.size = w.heap.size + 2 by simp] at h9; exact h9
  rw [← hV0]
  clear hV0
  replace E : Below w.heap.size w V0 := E.trans (bV0.mono E.size)
  replace HA : LRd V0 (B) a.A a.n a.c a.xs := HA.below bV0 (by omega)
  clear bV0
  (with_reducible refine (check_any _ B (w.heap.size + 2) 1 [a] IR.out rfl (by omega) (by omega)).mono ?_)
  rintro e w1 ⟨rfl, hb1⟩
  have sw1 := hb1.size
  replace E : Below w.heap.size w w1 := E.trans (hb1.mono E.size)
  replace HA : LRd w1 (B) a.A a.n a.c a.xs := HA.below hb1 (by omega)
  replace PA : Bk2 w1 (w.heap.size) (.bool a.neg) (.slice a.A a.n a.c) := PA.below hb1 PA.lt
  replace PR : Bk2 w1 (w.heap.size + 1) (.int .i64 0) (.int .i64 0) := PR.below hb1 PR.lt
  clear hb1
  rw [one_ok oa]
  clear IR
  have EB : Below w.heap.size w (w1.alloc (.cells #[.int .i64 0, .int .i64 0] 26)) := E.alloc (by have := E.size; omega) _
  have PR := PR.alloc (.cells #[.int .i64 0, .int .i64 0] 26)
  have PA := PA.alloc (.cells #[.int .i64 0, .int .i64 0] 26)
  have HA := HA.alloc (by have := E.size; omega) (.cells #[.int .i64 0, .int .i64 0] 26)
  have a0 := PA.c0
  have a1 := PA.c1
  rw [hs.out] at a0
  go_wp2_with fail
  refine (wide_big _ a.A a.n a.c hn (by have := HA.cap; omega)).mono ?_
  rintro e w2 ⟨rfl, rfl⟩
  clear a0 a1
  have a0 := PA.c0
  rw [hs.out] at a0
  go_wp2_with fail
  refine (tooLarge_any _).mono ?_
  rintro e w3 ⟨rfl, hb3⟩
  have PR := PR.below hb3 (by have := PR.lt; simpa using this)
  have EC : Below w.heap.size w w3 := EB.trans (hb3.mono EB.size)
  have f0 := PR.c0
  have f1 := PR.c1
  have z0 := PR.z0
  have z1 := PR.z1
  go_wp2_with fail
  refine bodyPost_ret (v := .tuple #[.int .i64 0, flt 14 (-1)]) (by simp [results, Try.results21, go_sem, f0, f1]) rfl (.inr ⟨(by rw [IV.vpos hs.out]; have := HX.out; omega), rfl, ?_⟩)
  (repeat (first | with_reducible exact Below.refl _ _ | with_reducible exact EC | with_reducible refine Below.drew ?_ | with_reducible refine below_drewN ?_ _ | with_reducible refine Below.setCell ?_ (by first | (simp; done) | (simp; omega) | omega) _ | with_reducible refine Below.alloc ?_ (by first | (simp; done) | (simp; omega) | omega) _))
set_option maxHeartbeats 2000000 in
theorem ismall_big_t (w : World) (B : Nat) (a : IV) (HA : a.at w B) (hB : B ≤ w.heap.size) (oa : a.ok = true) (hs : Hid (a.neg = true)) (hn : 2 < a.n) :
    Calls Try.prog 21 #[a.v] w (SmlPost a.val w) := by
  have hra : Rep 4294967296 a.xs (vb 4294967296 a.xs) := ⟨HA.lim, rfl, (vld_top (IV.vld oa).1).1⟩
  have HX := Lib.hid (three_limbs hra HA.len.out hn)
  clear hra
  replace HA : LRd w B a.A a.n a.c a.xs := HA
  have E : Below w.heap.size w w := Below.refl _ _
  have IR := Lib.hid (irow1 ((w.alloc a.cells).alloc (.cells #[.int .i64 0, .int .i64 0] 26)) B a ((HA.alloc (by omega) _).alloc (by simp; omega) _) (by simp; omega))
  go_enter Try.func21, Try.ntmps21
  go_wp2_with fail
  obtain ⟨V0, hV0⟩ : ∃ V0 : World, V0 = (((w.alloc (.cells #[.bool a.neg, .slice a.A a.n a.c] 24)).alloc (.cells #[.int .i64 0, .int .i64 0] 26)).alloc (.cells #[.bool a.neg, .slice a.A a.n a.c] 24)) := ⟨_, rfl⟩
  have bV0 : Below w.heap.size w V0 := by rw [hV0]; (repeat (first | with_reducible exact Below.refl _ _ | with_reducible refine Below.drew ?_ | with_reducible refine below_drewN ?_ _ | with_reducible refine Below.setCell ?_ (by first | (simp; done) | (simp; omega) | omega) _ | with_reducible refine Below.alloc ?_ (by first | (simp; done) | (simp; omega) | omega) _))
  have zV0 : w.heap.size + 3 ≤ V0.heap.size := by rw [hV0]; simp
  have PA : Bk2 V0 (w.heap.size) (.bool a.neg) (.slice a.A a.n a.c) := by rw [hV0]; exact (((Bk2.newAt _ _ (by simp) _ _ _).alloc _).alloc _)
  have PR : Bk2 V0 (w.heap.size + 1) (.int .i64 0) (.int .i64 0) := by rw [hV0]; exact ((Bk2.newAt _ _ (by simp) _ _ _).alloc _)
  replace IR : Hid (IRow V0 B (w.heap.size + 2) [a]) := by have h9 := IR.out; rw [hV0]; rw [show ((w.alloc a.cells).alloc (.cells #[.int .i64 0, .int .i64 0] 26)).heap.size = w.heap.size + 2 by simp] at h9; exact h9
  rw [← hV0]
  clear hV0
  replace E : Below w.heap.size w V0 := E.trans (bV0.mono E.size)
  replace HA : LRd V0 (B) a.A a.n a.c a.xs := HA.below bV0 (by omega)
  clear bV0
  (with_reducible refine (check_any _ B (w.heap.size + 2) 1 [a] IR.out rfl (by omega) (by omega)).mono ?_)
  rintro e w1 ⟨rfl, hb1⟩
  have sw1 := hb1.size
  replace E : Below w.heap.size w w1 := E.trans (hb1.mono E.size)
  replace HA : LRd w1 (B) a.A a.n a.c a.xs := HA.below hb1 (by omega)
  replace PA : Bk2 w1 (w.heap.size) (.bool a.neg) (.slice a.A a.n a.c) := PA.below hb1 PA.lt
  replace PR : Bk2 w1 (w.heap.size + 1) (.int .i64 0) (.int .i64 0) := PR.below hb1 PR.lt
  clear hb1
  rw [one_ok oa]
  clear IR
  have EB : Below w.heap.size w (w1.alloc (.cells #[.int .i64 0, .int .i64 0] 26)) := E.alloc (by have := E.size; omega) _
  have PR := PR.alloc (.cells #[.int .i64 0, .int .i64 0] 26)
  have PA := PA.alloc (.cells #[.int .i64 0, .int .i64 0] 26)
  have HA := HA.alloc (by have := E.size; omega) (.cells #[.int .i64 0, .int .i64 0] 26)
  have a0 := PA.c0
  have a1 := PA.c1
  rw [hs.out] at a0
  go_wp2_with fail
  refine (wide_big _ a.A a.n a.c hn (by have := HA.cap; omega)).mono ?_
  rintro e w2 ⟨rfl, rfl⟩
  clear a0 a1
  have a0 := PA.c0
  rw [hs.out] at a0
  go_wp2_with fail
  refine (tooLarge_any _).mono ?_
  rintro e w3 ⟨rfl, hb3⟩
  have PR := PR.below hb3 (by have := PR.lt; simpa using this)
  have EC : Below w.heap.size w w3 := EB.trans (hb3.mono EB.size)
  have f0 := PR.c0
  have f1 := PR.c1
  have z0 := PR.z0
  have z1 := PR.z1
  go_wp2_with fail
  refine bodyPost_ret (v := .tuple #[.int .i64 0, flt 14 (-1)]) (by simp [results, Try.results21, go_sem, f0, f1]) rfl (.inr ⟨(by rw [IV.vneg hs.out]; have := HX.out; omega), rfl, ?_⟩)
  (repeat (first | with_reducible exact Below.refl _ _ | with_reducible exact EC | with_reducible refine Below.drew ?_ | with_reducible refine below_drewN ?_ _ | with_reducible refine Below.setCell ?_ (by first | (simp; done) | (simp; omega) | omega) _ | with_reducible refine Below.alloc ?_ (by first | (simp; done) | (simp; omega) | omega) _))
set_option maxHeartbeats 2000000 in
theorem ismall_p1 (w : World) (B : Nat) (a : IV) (HA : a.at w B) (hB : B ≤ w.heap.size) (oa : a.ok = true) (hs : Hid (a.neg = false)) (hn : a.n ≤ 2) (hh : vb 4294967296 a.xs ≤ 9223372036854775807) :
    Calls Try.prog 21 #[a.v] w (SmlPost a.val w) := by
  have hra : Rep 4294967296 a.xs (vb 4294967296 a.xs) := ⟨HA.lim, rfl, (vld_top (IV.vld oa).1).1⟩
  have hp2 := two_limbs hra HA.len.out hn
  obtain ⟨p, hp⟩ : ∃ p, p = vb 4294967296 a.xs := ⟨_, rfl⟩
  rw [← hp] at hp2
  have HP := Lib.hid hp
  clear hra hp
  replace HA : LRd w B a.A a.n a.c a.xs := HA
  have E : Below w.heap.size w w := Below.refl _ _
  have IR := Lib.hid (irow1 ((w.alloc a.cells).alloc (.cells #[.int .i64 0, .int .i64 0] 26)) B a ((HA.alloc (by omega) _).alloc (by simp; omega) _) (by simp; omega))
  go_enter Try.func21, Try.ntmps21
  go_wp2_with fail
  obtain ⟨V0, hV0⟩ : ∃ V0 : World, V0 = (((w.alloc (.cells #[.bool a.neg, .slice a.A a.n a.c] 24)).alloc (.cells #[.int .i64 0, .int .i64 0] 26)).alloc (.cells #[.bool a.neg, .slice a.A a.n a.c] 24)) := ⟨_, rfl⟩
  have bV0 : Below w.heap.size w V0 := by rw [hV0]; (repeat (first | with_reducible exact Below.refl _ _ | with_reducible refine Below.drew ?_ | with_reducible refine below_drewN ?_ _ | with_reducible refine Below.setCell ?_ (by first | (simp; done) | (simp; omega) | omega) _ | with_reducible refine Below.alloc ?_ (by first | (simp; done) | (simp; omega) | omega) _))
  have zV0 : w.heap.size + 3 ≤ V0.heap.size := by rw [hV0]; simp
  have PA : Bk2 V0 (w.heap.size) (.bool a.neg) (.slice a.A a.n a.c) := by rw [hV0]; exact (((Bk2.newAt _ _ (by simp) _ _ _).alloc _).alloc _)
  have PR : Bk2 V0 (w.heap.size + 1) (.int .i64 0) (.int .i64 0) := by rw [hV0]; exact ((Bk2.newAt _ _ (by simp) _ _ _).alloc _)
  replace IR : Hid (IRow V0 B (w.heap.size + 2) [a]) := by have h9 := IR.out; rw [hV0]; rw [show ((w.alloc a.cells).alloc (.cells #[.int .i64 0, .int .i64 0] 26)).heap.size = w.heap.size + 2 by simp] at h9; exact h9
  rw [← hV0]
  clear hV0
  replace E : Below w.heap.size w V0 := E.trans (bV0.mono E.size)
  replace HA : LRd V0 (B) a.A a.n a.c a.xs := HA.below bV0 (by omega)
  clear bV0
  (with_reducible refine (check_any _ B (w.heap.size + 2) 1 [a] IR.out rfl (by omega) (by omega)).mono ?_)
  rintro e w1 ⟨rfl, hb1⟩
  have sw1 := hb1.size
  replace E : Below w.heap.size w w1 := E.trans (hb1.mono E.size)
  replace HA : LRd w1 (B) a.A a.n a.c a.xs := HA.below hb1 (by omega)
  replace PA : Bk2 w1 (w.heap.size) (.bool a.neg) (.slice a.A a.n a.c) := PA.below hb1 PA.lt
  replace PR : Bk2 w1 (w.heap.size + 1) (.int .i64 0) (.int .i64 0) := PR.below hb1 PR.lt
  clear hb1
  rw [one_ok oa]
  clear IR
  have EB : Below w.heap.size w (w1.alloc (.cells #[.int .i64 0, .int .i64 0] 26)) := E.alloc (by have := E.size; omega) _
  have PR := PR.alloc (.cells #[.int .i64 0, .int .i64 0] 26)
  have PA := PA.alloc (.cells #[.int .i64 0, .int .i64 0] 26)
  have HA := HA.alloc (by have := E.size; omega) (.cells #[.int .i64 0, .int .i64 0] 26)
  have a0 := PA.c0
  have a1 := PA.c1
  rw [hs.out] at a0
  go_wp2_with fail
  refine (wide_ok _ B a.A a.n a.c a.xs HA hn).mono ?_
  rintro e w2 ⟨rfl, rfl⟩
  rw [← HP.out]
  clear a0 a1
  have a0 := PA.c0
  rw [hs.out] at a0
  have hpp : p ≤ 9223372036854775807 := by rw [HP.out]; exact hh
  have hw := sm_p1 hpp
  have hlt : ((p : Int) < 0) = False := by simp
  have f0 := PR.c0
  have f1 := PR.c1
  have z0 := PR.z0
  have z1 := PR.z1
  go_wp2_with fail
  refine bodyPost_ret (v := .tuple #[.int .i64 (p : Int), flt 0 0]) (by simp [results, Try.results21, go_sem, f0, f1]) rfl (.inl ⟨(by rw [IV.vpos hs.out, ← HP.out]; omega), by rw [IV.vpos hs.out, ← HP.out], ?_⟩)
  (repeat (first | with_reducible exact Below.refl _ _ | with_reducible exact EB | with_reducible refine Below.drew ?_ | with_reducible refine below_drewN ?_ _ | with_reducible refine Below.setCell ?_ (by first | (simp; done) | (simp; omega) | omega) _ | with_reducible refine Below.alloc ?_ (by first | (simp; done) | (simp; omega) | omega) _))
set_option maxHeartbeats 2000000 in
theorem ismall_p2 (w : World) (B : Nat) (a : IV) (HA : a.at w B) (hB : B ≤ w.heap.size) (oa : a.ok = true) (hs : Hid (a.neg = false)) (hn : a.n ≤ 2) (hh : 9223372036854775807 < vb 4294967296 a.xs) :
    Calls Try.prog 21 #[a.v] w (SmlPost a.val w) := by
  have hra : Rep 4294967296 a.xs (vb 4294967296 a.xs) := ⟨HA.lim, rfl, (vld_top (IV.vld oa).1).1⟩
  have hp2 := two_limbs hra HA.len.out hn
  obtain ⟨p, hp⟩ : ∃ p, p = vb 4294967296 a.xs := ⟨_, rfl⟩
  rw [← hp] at hp2
  have HP := Lib.hid hp
  clear hra hp
  replace HA : LRd w B a.A a.n a.c a.xs := HA
  have E : Below w.heap.size w w := Below.refl _ _
  have IR := Lib.hid (irow1 ((w.alloc a.cells).alloc (.cells #[.int .i64 0, .int .i64 0] 26)) B a ((HA.alloc (by omega) _).alloc (by simp; omega) _) (by simp; omega))
  go_enter Try.func21, Try.ntmps21
  go_wp2_with fail
  obtain ⟨V0, hV0⟩ : ∃ V0 : World, V0 = (((w.alloc (.cells #[.bool a.neg, .slice a.A a.n a.c] 24)).alloc (.cells #[.int .i64 0, .int .i64 0] 26)).alloc (.cells #[.bool a.neg, .slice a.A a.n a.c] 24)) := ⟨_, rfl⟩
  have bV0 : Below w.heap.size w V0 := by rw [hV0]; (repeat (first | with_reducible exact Below.refl _ _ | with_reducible refine Below.drew ?_ | with_reducible refine below_drewN ?_ _ | with_reducible refine Below.setCell ?_ (by first | (simp; done) | (simp; omega) | omega) _ | with_reducible refine Below.alloc ?_ (by first | (simp; done) | (simp; omega) | omega) _))
  have zV0 : w.heap.size + 3 ≤ V0.heap.size := by rw [hV0]; simp
  have PA : Bk2 V0 (w.heap.size) (.bool a.neg) (.slice a.A a.n a.c) := by rw [hV0]; exact (((Bk2.newAt _ _ (by simp) _ _ _).alloc _).alloc _)
  have PR : Bk2 V0 (w.heap.size + 1) (.int .i64 0) (.int .i64 0) := by rw [hV0]; exact ((Bk2.newAt _ _ (by simp) _ _ _).alloc _)
  replace IR : Hid (IRow V0 B (w.heap.size + 2) [a]) := by have h9 := IR.out; rw [hV0]; rw [show ((w.alloc a.cells).alloc (.cells #[.int .i64 0, .int .i64 0] 26)).heap.size = w.heap.size + 2 by simp] at h9; exact h9
  rw [← hV0]
  clear hV0
  replace E : Below w.heap.size w V0 := E.trans (bV0.mono E.size)
  replace HA : LRd V0 (B) a.A a.n a.c a.xs := HA.below bV0 (by omega)
  clear bV0
  (with_reducible refine (check_any _ B (w.heap.size + 2) 1 [a] IR.out rfl (by omega) (by omega)).mono ?_)
  rintro e w1 ⟨rfl, hb1⟩
  have sw1 := hb1.size
  replace E : Below w.heap.size w w1 := E.trans (hb1.mono E.size)
  replace HA : LRd w1 (B) a.A a.n a.c a.xs := HA.below hb1 (by omega)
  replace PA : Bk2 w1 (w.heap.size) (.bool a.neg) (.slice a.A a.n a.c) := PA.below hb1 PA.lt
  replace PR : Bk2 w1 (w.heap.size + 1) (.int .i64 0) (.int .i64 0) := PR.below hb1 PR.lt
  clear hb1
  rw [one_ok oa]
  clear IR
  have EB : Below w.heap.size w (w1.alloc (.cells #[.int .i64 0, .int .i64 0] 26)) := E.alloc (by have := E.size; omega) _
  have PR := PR.alloc (.cells #[.int .i64 0, .int .i64 0] 26)
  have PA := PA.alloc (.cells #[.int .i64 0, .int .i64 0] 26)
  have HA := HA.alloc (by have := E.size; omega) (.cells #[.int .i64 0, .int .i64 0] 26)
  have a0 := PA.c0
  have a1 := PA.c1
  rw [hs.out] at a0
  go_wp2_with fail
  refine (wide_ok _ B a.A a.n a.c a.xs HA hn).mono ?_
  rintro e w2 ⟨rfl, rfl⟩
  rw [← HP.out]
  clear a0 a1
  have a0 := PA.c0
  rw [hs.out] at a0
  have hpp : 9223372036854775807 < p := by rw [HP.out]; exact hh
  have hw := sm_p2 hpp hp2
  have hlt : (p : Int) - 18446744073709551616 < 0 := by omega
  go_wp2_with fail
  refine (tooLarge_any _).mono ?_
  rintro e w3 ⟨rfl, hb3⟩
  have PR := PR.below hb3 (by have := PR.lt; simpa using this)
  have EC : Below w.heap.size w w3 := EB.trans (hb3.mono EB.size)
  have f0 := PR.c0
  have f1 := PR.c1
  have z0 := PR.z0
  have z1 := PR.z1
  go_wp2_with fail
  refine bodyPost_ret (v := .tuple #[.int .i64 0, flt 14 (-1)]) (by simp [results, Try.results21, go_sem, f0, f1]) rfl (.inr ⟨(by rw [IV.vpos hs.out, ← HP.out]; omega), rfl, ?_⟩)
  (repeat (first | with_reducible exact Below.refl _ _ | with_reducible exact EC | with_reducible refine Below.drew ?_ | with_reducible refine below_drewN ?_ _ | with_reducible refine Below.setCell ?_ (by first | (simp; done) | (simp; omega) | omega) _ | with_reducible refine Below.alloc ?_ (by first | (simp; done) | (simp; omega) | omega) _))
set_option maxHeartbeats 2000000 in
theorem ismall_n1 (w : World) (B : Nat) (a : IV) (HA : a.at w B) (hB : B ≤ w.heap.size) (oa : a.ok = true) (hs : Hid (a.neg = true)) (hn : a.n ≤ 2) (h0 : 0 < vb 4294967296 a.xs) (hh : vb 4294967296 a.xs ≤ 9223372036854775808) :
    Calls Try.prog 21 #[a.v] w (SmlPost a.val w) := by
  have hra : Rep 4294967296 a.xs (vb 4294967296 a.xs) := ⟨HA.lim, rfl, (vld_top (IV.vld oa).1).1⟩
  have hp2 := two_limbs hra HA.len.out hn
  obtain ⟨p, hp⟩ : ∃ p, p = vb 4294967296 a.xs := ⟨_, rfl⟩
  rw [← hp] at hp2
  have HP := Lib.hid hp
  clear hra hp
  replace HA : LRd w B a.A a.n a.c a.xs := HA
  have E : Below w.heap.size w w := Below.refl _ _
  have IR := Lib.hid (irow1 ((w.alloc a.cells).alloc (.cells #[.int .i64 0, .int .i64 0] 26)) B a ((HA.alloc (by omega) _).alloc (by simp; omega) _) (by simp; omega))
  go_enter Try.func21, Try.ntmps21
  go_wp2_with fail
  obtain ⟨V0, hV0⟩ : ∃ V0 : World, V0 = (((w.alloc (.cells #[.bool a.neg, .slice a.A a.n a.c] 24)).alloc (.cells #[.int .i64 0, .int .i64 0] 26)).alloc (.cells #[.bool a.neg, .slice a.A a.n a.c] 24)) := ⟨_, rfl⟩
  have bV0 : Below w.heap.size w V0 := by rw [hV0]; (repeat (first | with_reducible exact Below.refl _ _ | with_reducible refine Below.drew ?_ | with_reducible refine below_drewN ?_ _ | with_reducible refine Below.setCell ?_ (by first | (simp; done) | (simp; omega) | omega) _ | with_reducible refine Below.alloc ?_ (by first | (simp; done) | (simp; omega) | omega) _))
  have zV0 : w.heap.size + 3 ≤ V0.heap.size := by rw [hV0]; simp
  have PA : Bk2 V0 (w.heap.size) (.bool a.neg) (.slice a.A a.n a.c) := by rw [hV0]; exact (((Bk2.newAt _ _ (by simp) _ _ _).alloc _).alloc _)
  have PR : Bk2 V0 (w.heap.size + 1) (.int .i64 0) (.int .i64 0) := by rw [hV0]; exact ((Bk2.newAt _ _ (by simp) _ _ _).alloc _)
  replace IR : Hid (IRow V0 B (w.heap.size + 2) [a]) := by have h9 := IR.out; rw [hV0]; rw [show ((w.alloc a.cells).alloc (.cells #[.int .i64 0, .int .i64 0] 26)).heap.size = w.heap.size + 2 by simp] at h9; exact h9
  rw [← hV0]
  clear hV0
  replace E : Below w.heap.size w V0 := E.trans (bV0.mono E.size)
  replace HA : LRd V0 (B) a.A a.n a.c a.xs := HA.below bV0 (by omega)
  clear bV0
  (with_reducible refine (check_any _ B (w.heap.size + 2) 1 [a] IR.out rfl (by omega) (by omega)).mono ?_)
  rintro e w1 ⟨rfl, hb1⟩
  have sw1 := hb1.size
  replace E : Below w.heap.size w w1 := E.trans (hb1.mono E.size)
  replace HA : LRd w1 (B) a.A a.n a.c a.xs := HA.below hb1 (by omega)
  replace PA : Bk2 w1 (w.heap.size) (.bool a.neg) (.slice a.A a.n a.c) := PA.below hb1 PA.lt
  replace PR : Bk2 w1 (w.heap.size + 1) (.int .i64 0) (.int .i64 0) := PR.below hb1 PR.lt
  clear hb1
  rw [one_ok oa]
  clear IR
  have EB : Below w.heap.size w (w1.alloc (.cells #[.int .i64 0, .int .i64 0] 26)) := E.alloc (by have := E.size; omega) _
  have PR := PR.alloc (.cells #[.int .i64 0, .int .i64 0] 26)
  have PA := PA.alloc (.cells #[.int .i64 0, .int .i64 0] 26)
  have HA := HA.alloc (by have := E.size; omega) (.cells #[.int .i64 0, .int .i64 0] 26)
  have a0 := PA.c0
  have a1 := PA.c1
  rw [hs.out] at a0
  go_wp2_with fail
  refine (wide_ok _ B a.A a.n a.c a.xs HA hn).mono ?_
  rintro e w2 ⟨rfl, rfl⟩
  rw [← HP.out]
  clear a0 a1
  have a0 := PA.c0
  rw [hs.out] at a0
  have hpp : p ≤ 9223372036854775808 := by rw [HP.out]; exact hh
  have hp0 : 0 < p := by rw [HP.out]; exact h0
  have hw := sm_n1 hp0 hpp
  have hlt : -(p : Int) < 0 := by omega
  have f0 := PR.c0
  have f1 := PR.c1
  have z0 := PR.z0
  have z1 := PR.z1
  go_wp2_with fail
  refine bodyPost_ret (v := .tuple #[.int .i64 (-(p : Int)), flt 0 0]) (by simp [results, Try.results21, go_sem, f0, f1]) rfl (.inl ⟨(by rw [IV.vneg hs.out, ← HP.out]; omega), by rw [IV.vneg hs.out, ← HP.out], ?_⟩)
  (repeat (first | with_reducible exact Below.refl _ _ | with_reducible exact EB | with_reducible refine Below.drew ?_ | with_reducible refine below_drewN ?_ _ | with_reducible refine Below.setCell ?_ (by first | (simp; done) | (simp; omega) | omega) _ | with_reducible refine Below.alloc ?_ (by first | (simp; done) | (simp; omega) | omega) _))
set_option maxHeartbeats 2000000 in
theorem ismall_n2 (w : World) (B : Nat) (a : IV) (HA : a.at w B) (hB : B ≤ w.heap.size) (oa : a.ok = true) (hs : Hid (a.neg = true)) (hn : a.n ≤ 2) (hh : 9223372036854775808 < vb 4294967296 a.xs) :
    Calls Try.prog 21 #[a.v] w (SmlPost a.val w) := by
  have hra : Rep 4294967296 a.xs (vb 4294967296 a.xs) := ⟨HA.lim, rfl, (vld_top (IV.vld oa).1).1⟩
  have hp2 := two_limbs hra HA.len.out hn
  obtain ⟨p, hp⟩ : ∃ p, p = vb 4294967296 a.xs := ⟨_, rfl⟩
  rw [← hp] at hp2
  have HP := Lib.hid hp
  clear hra hp
  replace HA : LRd w B a.A a.n a.c a.xs := HA
  have E : Below w.heap.size w w := Below.refl _ _
  have IR := Lib.hid (irow1 ((w.alloc a.cells).alloc (.cells #[.int .i64 0, .int .i64 0] 26)) B a ((HA.alloc (by omega) _).alloc (by simp; omega) _) (by simp; omega))
  go_enter Try.func21, Try.ntmps21
  go_wp2_with fail
  obtain ⟨V0, hV0⟩ : ∃ V0 : World, V0 = (((w.alloc (.cells #[.bool a.neg, .slice a.A a.n a.c] 24)).alloc (.cells #[.int .i64 0, .int .i64 0] 26)).alloc (.cells #[.bool a.neg, .slice a.A a.n a.c] 24)) := ⟨_, rfl⟩
  have bV0 : Below w.heap.size w V0 := by rw [hV0]; (repeat (first | with_reducible exact Below.refl _ _ | with_reducible refine Below.drew ?_ | with_reducible refine below_drewN ?_ _ | with_reducible refine Below.setCell ?_ (by first | (simp; done) | (simp; omega) | omega) _ | with_reducible refine Below.alloc ?_ (by first | (simp; done) | (simp; omega) | omega) _))
  have zV0 : w.heap.size + 3 ≤ V0.heap.size := by rw [hV0]; simp
  have PA : Bk2 V0 (w.heap.size) (.bool a.neg) (.slice a.A a.n a.c) := by rw [hV0]; exact (((Bk2.newAt _ _ (by simp) _ _ _).alloc _).alloc _)
  have PR : Bk2 V0 (w.heap.size + 1) (.int .i64 0) (.int .i64 0) := by rw [hV0]; exact ((Bk2.newAt _ _ (by simp) _ _ _).alloc _)
  replace IR : Hid (IRow V0 B (w.heap.size + 2) [a]) := by have h9 := IR.out; rw [hV0]; rw [show ((w.alloc a.cells).alloc (.cells #[.int .i64 0, .int .i64 0] 26)).heap.size = w.heap.size + 2 by simp] at h9; exact h9
  rw [← hV0]
  clear hV0
  replace E : Below w.heap.size w V0 := E.trans (bV0.mono E.size)
  replace HA : LRd V0 (B) a.A a.n a.c a.xs := HA.below bV0 (by omega)
  clear bV0
  (with_reducible refine (check_any _ B (w.heap.size + 2) 1 [a] IR.out rfl (by omega) (by omega)).mono ?_)
  rintro e w1 ⟨rfl, hb1⟩
  have sw1 := hb1.size
  replace E : Below w.heap.size w w1 := E.trans (hb1.mono E.size)
  replace HA : LRd w1 (B) a.A a.n a.c a.xs := HA.below hb1 (by omega)
  replace PA : Bk2 w1 (w.heap.size) (.bool a.neg) (.slice a.A a.n a.c) := PA.below hb1 PA.lt
  replace PR : Bk2 w1 (w.heap.size + 1) (.int .i64 0) (.int .i64 0) := PR.below hb1 PR.lt
  clear hb1
  rw [one_ok oa]
  clear IR
  have EB : Below w.heap.size w (w1.alloc (.cells #[.int .i64 0, .int .i64 0] 26)) := E.alloc (by have := E.size; omega) _
  have PR := PR.alloc (.cells #[.int .i64 0, .int .i64 0] 26)
  have PA := PA.alloc (.cells #[.int .i64 0, .int .i64 0] 26)
  have HA := HA.alloc (by have := E.size; omega) (.cells #[.int .i64 0, .int .i64 0] 26)
  have a0 := PA.c0
  have a1 := PA.c1
  rw [hs.out] at a0
  go_wp2_with fail
  refine (wide_ok _ B a.A a.n a.c a.xs HA hn).mono ?_
  rintro e w2 ⟨rfl, rfl⟩
  rw [← HP.out]
  clear a0 a1
  have a0 := PA.c0
  rw [hs.out] at a0
  have hpp : 9223372036854775808 < p := by rw [HP.out]; exact hh
  have hw := sm_n2 hpp hp2
  have hlt : (p : Int) ≤ 18446744073709551616 := by omega
  have hlt2 : decide (18446744073709551616 - (p : Int) < 0) = false := by rw [decide_eq_false_iff_not]; omega
  go_wp2_with fail
  refine (tooLarge_any _).mono ?_
  rintro e w3 ⟨rfl, hb3⟩
  have PR := PR.below hb3 (by have := PR.lt; simpa using this)
  have EC : Below w.heap.size w w3 := EB.trans (hb3.mono EB.size)
  have f0 := PR.c0
  have f1 := PR.c1
  have z0 := PR.z0
  have z1 := PR.z1
  go_wp2_with fail
  refine bodyPost_ret (v := .tuple #[.int .i64 0, flt 14 (-1)]) (by simp [results, Try.results21, go_sem, f0, f1]) rfl (.inr ⟨(by rw [IV.vneg hs.out, ← HP.out]; omega), rfl, ?_⟩)
  (repeat (first | with_reducible exact Below.refl _ _ | with_reducible exact EC | with_reducible refine Below.drew ?_ | with_reducible refine below_drewN ?_ _ | with_reducible refine Below.setCell ?_ (by first | (simp; done) | (simp; omega) | omega) _ | with_reducible refine Below.alloc ?_ (by first | (simp; done) | (simp; omega) | omega) _))
theorem ismall_ok (w : World) (B : Nat) (a : IV) (HA : a.at w B) (hB : B ≤ w.heap.size) (oa : a.ok = true) : Calls Try.prog 21 #[a.v] w (SmlPost a.val w) := by
  rcases Nat.lt_or_ge 2 a.n with hn | hn
  · cases hs : a.neg
    · exact ismall_big_f w B a HA hB oa hs hn
    · exact ismall_big_t w B a HA hB oa hs hn
  · cases hs : a.neg
    · rcases Nat.lt_or_ge 9223372036854775807 (vb 4294967296 a.xs) with e | e
      · exact ismall_p2 w B a HA hB oa hs hn e
      · exact ismall_p1 w B a HA hB oa hs hn e
    · rcases Nat.lt_or_ge 9223372036854775808 (vb 4294967296 a.xs) with e | e
      · exact ismall_n2 w B a HA hB oa hs hn e
      · refine ismall_n1 w B a HA hB oa hs hn ?_ e
        have := IV.neg_lt oa HA.lim hs
        rw [IV.vneg hs] at this
        omega
end Go.Proofs.Ytpidkionieaffaa
