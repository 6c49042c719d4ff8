/- Package integer: Sqrt. The law's yields. IntegerDivisors: the law. IntegerArithmetic: the law. The closures that Pow and PowMod hand to power. The program's power, with the two closures. The program's power, with PowMod's closure. Package integer: wide, Small. The program's Pow. IntegerRing: the law, where an argument is refused. The program's PowMod. IntegerArithmetic: the law at valid arguments. The program's PowMod where it has a rest. The reference's Root. The reference's Floor. The reference's Floor, where it is rounded. The reference's Raised. -/
import Derived.Test.YtfgkhdpdjclmkaaGreatBl
import Derived.Test.YtfgkhdpdjclmkaaGreatBc
import Derived.Deep.QuietTactic
import Derived.Test.YtfgkhdpdjclmkaaGreatBInt20
import Derived.Laws.StructEq
import Derived.Test.YtfgkhdpdjclmkaaGreatBg
import Derived.Deep.RegionHeld3
import Derived.Deep.DeepCutAuto
import Derived.Test.YtfgkhdpdjclmkaaGreatBInt22
import Derived.Test.YtfgkhdpdjclmkaaGreatBh
import Derived.Test.YtfgkhdpdjclmkaaGreatBa
import Derived.Test.YtfgkhdpdjclmkaaGreatBInt21
import Derived.Deep.Cut
import Derived.Deep.CutRange
import Derived.Test.YtfgkhdpdjclmkaaGreatBj
import Derived.Test.YtfgkhdpdjclmkaaGreatBDivD
import Derived.Test.YtfgkhdpdjclmkaaGreatBd
import Derived.Test.YtfgkhdpdjclmkaaGreatBe
namespace Go.Proofs.YtfgkhdpdjclmkaaGreat
open Go.RowKit
set_option maxHeartbeats 400000
set_option maxRecDepth 100000
set_option linter.unusedSimpArgs false
set_option linter.unusedVariables false
theorem DRd.setFar2 {w : World} {B n c g : Nat} {A : Option Addr} {xs : List Nat} (h : DRd w B A n c xs) (hg : B ≤ g) (x y : Value) : DRd ((w.setCell ⟨g, 0, none⟩ x).setCell ⟨g, 1, none⟩ y) B A n c xs :=
  h.keep fun p hp => by
    rw [World.cell?_setCell_other _ _ _ _ (fun e => by rw [← e] at hp; simp at hp; omega), World.cell?_setCell_other _ _ _ _ (fun e => by rw [← e] at hp; simp at hp; omega)]
theorem LRd.setFar2 {w : World} {B n c g : Nat} {A : Option Addr} {xs : List Nat} (h : LRd w B A n c xs) (hg : B ≤ g) (x y : Value) : LRd ((w.setCell ⟨g, 0, none⟩ x).setCell ⟨g, 1, none⟩ y) B A n c xs :=
  h.keep fun p hp => by
    rw [World.cell?_setCell_other _ _ _ _ (fun e => by rw [← e] at hp; simp at hp; omega), World.cell?_setCell_other _ _ _ _ (fun e => by rw [← e] at hp; simp at hp; omega)]
theorem IV.abs (a : IV) : a.val.natAbs = vb 4294967296 a.xs := sval_abs _ _
/-- 60 limbs. -/
@[irreducible] def Top60 : Nat := 4294967296 ^ 60
theorem top60 {m : Nat} (h : m = 60) : Top60 = 4294967296 ^ m := by subst h; unfold Top60; rfl
def R9 (W : World) (x y : Int) (s t : Value) (wx : World) : Prop :=
  ∃ g1 g2 m1 A1 k1 c1 x1 v1 m2 A2 k2 c2 x2 v2, s = .pointer (some ⟨g1, 0, none⟩) ∧ t = .pointer (some ⟨g2, 0, none⟩) ∧ Bk2 wx g1 (.bool m1) (.slice A1 k1 c1) ∧ Bk2 wx g2 (.bool m2) (.slice A2 k2 c2) ∧
    DRd wx wx.heap.size A1 k1 c1 x1 ∧ Hid (Rep 65536 x1 v1) ∧ Hid (sval m1 v1 = x) ∧ DRd wx wx.heap.size A2 k2 c2 x2 ∧ Hid (Rep 65536 x2 v2) ∧ Hid (sval m2 v2 = y) ∧ Below W.heap.size W wx
def WdRel (n : Nat) (xs : List Nat) (v i : Value) : Prop := ∃ (j : Nat) (u : Int), j ≤ n ∧ i = .int .i64 (j : Int) ∧ v = .int .u64 u ∧ Hid (u = ((S 4294967296 (fun i => xs.getD i 0) j : Nat) : Int))
theorem wd_or0 (x : Int) (hx : 0 ≤ x ∧ x < 4294967296) : bits BinOp.or IntKind.u64 0 (IntKind.u64.wrap (x * 2 ^ (32 * 0))) = x := by
  have e : IntKind.u64.wrap (x * 2 ^ (32 * 0)) = x := by
    simp only [IntKind.wrap, IntKind.bits, IntKind.signed]; simp; omega
  rw [e]
  have := join_bits 0 x ⟨by omega, by omega⟩ hx
  simpa using this
theorem bits_or_comm (a b : Nat) (ha : a < 18446744073709551616) (hb : b < 18446744073709551616) : bits .or .u64 (a : Int) (b : Int) = bits .or .u64 (b : Int) (a : Int) := by
  rw [bits_or_u64_nat a b ha hb, bits_or_u64_nat b a hb ha, Nat.or_comm]
theorem wd_or1 (u x : Int) (hu : 0 ≤ u ∧ u < 4294967296) (hx : 0 ≤ x ∧ x < 4294967296) : bits BinOp.or IntKind.u64 u (IntKind.u64.wrap (x * 2 ^ (32 * 1))) = u + x * 4294967296 := by
  have e : IntKind.u64.wrap (x * 2 ^ (32 * 1)) = x * 4294967296 := by
    simp only [IntKind.wrap, IntKind.bits, IntKind.signed]; simp; omega
  rw [e]
  obtain ⟨a, rfl⟩ := Int.eq_ofNat_of_zero_le hu.1
  obtain ⟨b, rfl⟩ := Int.eq_ofNat_of_zero_le hx.1
  have h1 := bits_or_comm a (b * 4294967296) (by omega) (by omega)
  have h2 := join_bits (b : Int) (a : Int) hx hu
  rw [Int.natCast_mul] at h1
  have h3 : ((4294967296 : Nat) : Int) = 4294967296 := rfl
  rw [h3] at h1
  rw [h1, h2, Int.add_comm]
theorem wd_s (xs : List Nat) (hl : Lim xs) : ((S 4294967296 (fun i => xs.getD i 0) 1 : Nat) : Int) = nth xs 0 ∧ ((S 4294967296 (fun i => xs.getD i 0) 2 : Nat) : Int) = nth xs 0 + nth xs 1 * 4294967296 := by
  unfold nth
  constructor
  · rw [S_succ, S_zero]; simp
  · rw [S_succ, S_succ, S_zero]; simp
set_option maxHeartbeats 1000000 in
theorem wide_ok (w : World) (B : Nat) (A : Option Addr) (n c : Nat) (xs : List Nat) (h : LRd w B A n c xs) (hn : n ≤ 2) :
    Calls Tryz.prog 96 #[.slice A n c] w fun e w' => e = .returned (.tuple #[.int .u64 ((vb 4294967296 xs : Nat) : Int), .bool true]) ∧ w = w' := by
  have hn' : (n : Int) ≤ 2 := by omega
  have hcap := h.cap
  go_enter Tryz.func96, Tryz.ntmps96
  go_wp2_with fail
  go_loop [4, 12] (WdRel n xs) (fun _ i => n - (intOf i).toNat)
  case atStart => exact ⟨0, 0, Nat.zero_le _, rfl, rfl, rfl⟩
  case round =>
    obtain ⟨j, u, hj, rfl, rfl, HU⟩ := hrel
    by_cases h1 : j < n
    · obtain ⟨b, off, rfl, hb, hc⟩ := h.rd (by omega)
      have g1 := hc j h1
      have a1 := nth_nn xs j
      have a2 := h.lim.nth j
      clear hc
      have hj2 : j ≤ 1 := by omega
      have HN := Lib.hid (show bits BinOp.or IntKind.u64 u (IntKind.u64.wrap (nth xs j * 2 ^ (32 * j))) = ((S 4294967296 (fun i => xs.getD i 0) (j + 1) : Nat) : Int) by
        have hs := wd_s xs h.lim
        rcases (show j = 0 ∨ j = 1 by omega) with rfl | rfl
        · have e : u = 0 := by rw [HU.out, S_zero]; rfl
          rw [e, hs.1, wd_or0 _ ⟨a1, a2⟩]
        · have e : u = nth xs 0 := by rw [HU.out, hs.1]
          rw [e, hs.2, wd_or1 _ _ ⟨nth_nn xs 0, h.lim.nth 0⟩ ⟨a1, a2⟩])
      go_wp2_with fail
      go_round
      case rel => exact ⟨j + 1, _, by omega, by go_num, rfl, HN.out⟩
      case measure => simp [intOf]; omega
    · obtain rfl : j = n := by omega
      have HV := Lib.hid (show u = ((vb 4294967296 xs : Nat) : Int) by rw [HU.out]; unfold vb; rw [h.len.out])
      go_wp2_with fail
      go_ret2
      exact ⟨by rw [HV.out]; rfl, rfl⟩
theorem wide_big (w : World) (A : Option Addr) (n c : Nat) (hn : 2 < n) (hc : n ≤ 9223372036854775807) :
    Calls Tryz.prog 96 #[.slice A n c] w fun e w' => e = .returned (.tuple #[.int .u64 0, .bool false]) ∧ w = w' := by
  have hn' : 2 < (n : Int) := by omega
  go_enter Tryz.func96, Tryz.ntmps96
  go_wp2_with fail
  go_ret2
  exact ⟨rfl, rfl⟩
def SmlPost (z : Int) (w : World) (e : Ending) (w' : World) : Prop :=
  ((-9223372036854775808 ≤ z ∧ z ≤ 9223372036854775807) ∧ GivesI w z 0 0 e w') ∨ (¬ (-9223372036854775808 ≤ z ∧ z ≤ 9223372036854775807) ∧ GivesI w 0 14 (-1) e w')
theorem sm_p1 {p : Nat} (h : p ≤ 9223372036854775807) : IntKind.i64.wrap (p : Int) = (p : Int) := by rw [IntKind.wrap_i64]; omega
theorem sm_p2 {p : Nat} (h : 9223372036854775807 < p) (h2 : p ≤ 18446744073709551615) : IntKind.i64.wrap (p : Int) = (p : Int) - 18446744073709551616 := by rw [IntKind.wrap_i64]; omega
theorem sm_n1 {p : Nat} (h0 : 0 < p) (h : p ≤ 9223372036854775808) : IntKind.i64.wrap (IntKind.u64.wrap (-(p : Int))) = -(p : Int) := by rw [IntKind.wrap_i64, IntKind.wrap_u64]; omega
theorem sm_n2 {p : Nat} (h : 9223372036854775808 < p) (h2 : p ≤ 18446744073709551615) : IntKind.i64.wrap (IntKind.u64.wrap (-(p : Int))) = 18446744073709551616 - (p : Int) := by rw [IntKind.wrap_i64, IntKind.wrap_u64]; omega
theorem two_limbs {xs : List Nat} {v k : Nat} (h : Rep 4294967296 xs v) (hl : xs.length = k) (hk : k ≤ 2) : v ≤ 18446744073709551615 := by
  have h1 := h.lt_pow (by decide)
  have h2 : 4294967296 ^ xs.length ≤ 4294967296 ^ 2 := Nat.pow_le_pow_right (by decide) (by omega)
  have h3 : (4294967296 : Nat) ^ 2 = 18446744073709551616 := by decide
  omega
theorem three_limbs {xs : List Nat} {v k : Nat} (h : Rep 4294967296 xs v) (hl : xs.length = k) (hk : 2 < k) : 18446744073709551616 ≤ v := by
  obtain ⟨m, hm⟩ : ∃ m, xs.length = m + 1 := ⟨xs.length - 1, by omega⟩
  have h1 := h.top.low (b := 4294967296) hm
  have h2 : 4294967296 ^ 2 ≤ 4294967296 ^ m := Nat.pow_le_pow_right (by decide) (by omega)
  have h3 : (4294967296 : Nat) ^ 2 = 18446744073709551616 := by decide
  rw [h.val] at h1
  omega
set_option maxHeartbeats 2000000 in
theorem ismall_big_f (w : World) (B : Nat) (a : IV) (HA : a.at w B) (hB : B ≤ w.heap.size) (oa : a.ok = true) (hs : Hid (a.neg = false)) (hn : 2 < a.n) :
    Calls Tryz.prog 47 #[a.v] w (SmlPost a.val w) := by
  have hra : Rep 4294967296 a.xs (vb 4294967296 a.xs) := ⟨HA.lim, rfl, (vld_top (IV.vld oa).1).1⟩
  have HX := Lib.hid (three_limbs hra HA.len.out hn)
  clear hra
  replace HA : LRd w B a.A a.n a.c a.xs := HA
  have E : Below w.heap.size w w := Below.refl _ _
  have IR := Lib.hid (irow1 ((w.alloc a.cells).alloc (.cells #[.int .i64 0, .int .i64 0] 28)) B a ((HA.alloc (by omega) _).alloc (by simp; omega) _) (by simp; omega))
  go_enter Tryz.func47, Tryz.ntmps47
  go_wp2_with fail
  obtain ⟨V0, hV0⟩ : ∃ V0 : World, V0 = (((w.alloc (.cells #[.bool a.neg, .slice a.A a.n a.c] 24)).alloc (.cells #[.int .i64 0, .int .i64 0] 28)).alloc (.cells #[.bool a.neg, .slice a.A a.n a.c] 24)) := ⟨_, rfl⟩
  have bV0 : Below w.heap.size w V0 := by rw [hV0]; (repeat (first | with_reducible exact Below.refl _ _ | with_reducible refine Below.alloc ?_ (by first | (simp <;> omega) | omega) _))
  have zV0 : w.heap.size + 3 ≤ V0.heap.size := by rw [hV0]; simp
  have PA : Bk2 V0 (w.heap.size) (.bool a.neg) (.slice a.A a.n a.c) := by rw [hV0]; exact (((Bk2.newAt _ _ (by simp) _ _ _).alloc _).alloc _)
  have PR : Bk2 V0 (w.heap.size + 1) (.int .i64 0) (.int .i64 0) := by rw [hV0]; exact ((Bk2.newAt _ _ (by simp) _ _ _).alloc _)
  replace IR : Hid (IRow V0 B (w.heap.size + 2) [a]) := by have h9 := IR.out; rw [hV0]; rw [show ((w.alloc a.cells).alloc (.cells #[.int .i64 0, .int .i64 0] 28)).heap.size = w.heap.size + 2 by simp] at h9; exact h9
  rw [← hV0]
  clear hV0
  replace E := E.trans (bV0.mono E.size)
  replace HA := HA.below bV0 (by omega)
  clear bV0
  (with_reducible refine (check_any _ B (w.heap.size + 2) 1 [a] IR.out rfl (by omega) (by omega)).mono ?_)
  rintro e w1 ⟨rfl, hb1⟩
  have sw1 := hb1.size
  replace E := E.trans (hb1.mono E.size)
  replace HA := HA.below hb1 (by omega)
  replace PA := PA.below hb1 PA.lt
  replace PR := PR.below hb1 PR.lt
  clear hb1
  rw [one_ok oa]
  clear IR
  have EB : Below w.heap.size w (w1.alloc (.cells #[.int .i64 0, .int .i64 0] 28)) := E.alloc (by have := E.size; omega) _
  have PR := PR.alloc (.cells #[.int .i64 0, .int .i64 0] 28)
  have PA := PA.alloc (.cells #[.int .i64 0, .int .i64 0] 28)
  have HA := HA.alloc (by have := E.size; omega) (.cells #[.int .i64 0, .int .i64 0] 28)
  have a0 := PA.c0
  have a1 := PA.c1
  rw [hs.out] at a0
  go_wp2_with fail
  refine (wide_big _ a.A a.n a.c hn (by have := HA.cap; omega)).mono ?_
  rintro e w2 ⟨rfl, rfl⟩
  clear a0 a1
  have a0 := PA.c0
  rw [hs.out] at a0
  go_wp2_with fail
  refine (tooLarge_any _).mono ?_
  rintro e w3 ⟨rfl, hb3⟩
  have PR := PR.below hb3 (by have := PR.lt; simpa using this)
  have EC : Below w.heap.size w w3 := EB.trans (hb3.mono EB.size)
  have f0 := PR.c0
  have f1 := PR.c1
  have z0 := PR.z0
  have z1 := PR.z1
  go_wp2_with fail
  refine bodyPost_ret (v := .tuple #[.int .i64 0, flt 14 (-1)]) (by simp [results, Tryz.results47, go_sem, f0, f1]) rfl (.inr ⟨(by rw [IV.vpos hs.out]; have := HX.out; omega), rfl, ?_⟩)
  (repeat (first | with_reducible exact Below.refl _ _ | with_reducible exact EC | with_reducible refine Below.drew ?_ | with_reducible refine below_drewN ?_ _ | with_reducible refine Below.setCell ?_ (by first | (simp <;> omega) | omega) _ | with_reducible refine Below.alloc ?_ (by first | (simp <;> omega) | omega) _))
set_option maxHeartbeats 2000000 in
theorem ismall_big_t (w : World) (B : Nat) (a : IV) (HA : a.at w B) (hB : B ≤ w.heap.size) (oa : a.ok = true) (hs : Hid (a.neg = true)) (hn : 2 < a.n) :
    Calls Tryz.prog 47 #[a.v] w (SmlPost a.val w) := by
  have hra : Rep 4294967296 a.xs (vb 4294967296 a.xs) := ⟨HA.lim, rfl, (vld_top (IV.vld oa).1).1⟩
  have HX := Lib.hid (three_limbs hra HA.len.out hn)
  clear hra
  replace HA : LRd w B a.A a.n a.c a.xs := HA
  have E : Below w.heap.size w w := Below.refl _ _
  have IR := Lib.hid (irow1 ((w.alloc a.cells).alloc (.cells #[.int .i64 0, .int .i64 0] 28)) B a ((HA.alloc (by omega) _).alloc (by simp; omega) _) (by simp; omega))
  go_enter Tryz.func47, Tryz.ntmps47
  go_wp2_with fail
  obtain ⟨V0, hV0⟩ : ∃ V0 : World, V0 = (((w.alloc (.cells #[.bool a.neg, .slice a.A a.n a.c] 24)).alloc (.cells #[.int .i64 0, .int .i64 0] 28)).alloc (.cells #[.bool a.neg, .slice a.A a.n a.c] 24)) := ⟨_, rfl⟩
  have bV0 : Below w.heap.size w V0 := by rw [hV0]; (repeat (first | with_reducible exact Below.refl _ _ | with_reducible refine Below.alloc ?_ (by first | (simp <;> omega) | omega) _))
  have zV0 : w.heap.size + 3 ≤ V0.heap.size := by rw [hV0]; simp
  have PA : Bk2 V0 (w.heap.size) (.bool a.neg) (.slice a.A a.n a.c) := by rw [hV0]; exact (((Bk2.newAt _ _ (by simp) _ _ _).alloc _).alloc _)
  have PR : Bk2 V0 (w.heap.size + 1) (.int .i64 0) (.int .i64 0) := by rw [hV0]; exact ((Bk2.newAt _ _ (by simp) _ _ _).alloc _)
  replace IR : Hid (IRow V0 B (w.heap.size + 2) [a]) := by have h9 := IR.out; rw [hV0]; rw [show ((w.alloc a.cells).alloc (.cells #[.int .i64 0, .int .i64 0] 28)).heap.size = w.heap.size + 2 by simp] at h9; exact h9
  rw [← hV0]
  clear hV0
  replace E := E.trans (bV0.mono E.size)
  replace HA := HA.below bV0 (by omega)
  clear bV0
  (with_reducible refine (check_any _ B (w.heap.size + 2) 1 [a] IR.out rfl (by omega) (by omega)).mono ?_)
  rintro e w1 ⟨rfl, hb1⟩
  have sw1 := hb1.size
  replace E := E.trans (hb1.mono E.size)
  replace HA := HA.below hb1 (by omega)
  replace PA := PA.below hb1 PA.lt
  replace PR := PR.below hb1 PR.lt
  clear hb1
  rw [one_ok oa]
  clear IR
  have EB : Below w.heap.size w (w1.alloc (.cells #[.int .i64 0, .int .i64 0] 28)) := E.alloc (by have := E.size; omega) _
  have PR := PR.alloc (.cells #[.int .i64 0, .int .i64 0] 28)
  have PA := PA.alloc (.cells #[.int .i64 0, .int .i64 0] 28)
  have HA := HA.alloc (by have := E.size; omega) (.cells #[.int .i64 0, .int .i64 0] 28)
  have a0 := PA.c0
  have a1 := PA.c1
  rw [hs.out] at a0
  go_wp2_with fail
  refine (wide_big _ a.A a.n a.c hn (by have := HA.cap; omega)).mono ?_
  rintro e w2 ⟨rfl, rfl⟩
  clear a0 a1
  have a0 := PA.c0
  rw [hs.out] at a0
  go_wp2_with fail
  refine (tooLarge_any _).mono ?_
  rintro e w3 ⟨rfl, hb3⟩
  have PR := PR.below hb3 (by have := PR.lt; simpa using this)
  have EC : Below w.heap.size w w3 := EB.trans (hb3.mono EB.size)
  have f0 := PR.c0
  have f1 := PR.c1
  have z0 := PR.z0
  have z1 := PR.z1
  go_wp2_with fail
  refine bodyPost_ret (v := .tuple #[.int .i64 0, flt 14 (-1)]) (by simp [results, Tryz.results47, go_sem, f0, f1]) rfl (.inr ⟨(by rw [IV.vneg hs.out]; have := HX.out; omega), rfl, ?_⟩)
  (repeat (first | with_reducible exact Below.refl _ _ | with_reducible exact EC | with_reducible refine Below.drew ?_ | with_reducible refine below_drewN ?_ _ | with_reducible refine Below.setCell ?_ (by first | (simp <;> omega) | omega) _ | with_reducible refine Below.alloc ?_ (by first | (simp <;> omega) | omega) _))
set_option maxHeartbeats 2000000 in
theorem ismall_p1 (w : World) (B : Nat) (a : IV) (HA : a.at w B) (hB : B ≤ w.heap.size) (oa : a.ok = true) (hs : Hid (a.neg = false)) (hn : a.n ≤ 2) (hh : vb 4294967296 a.xs ≤ 9223372036854775807) :
    Calls Tryz.prog 47 #[a.v] w (SmlPost a.val w) := by
  have hra : Rep 4294967296 a.xs (vb 4294967296 a.xs) := ⟨HA.lim, rfl, (vld_top (IV.vld oa).1).1⟩
  have hp2 := two_limbs hra HA.len.out hn
  obtain ⟨p, hp⟩ : ∃ p, p = vb 4294967296 a.xs := ⟨_, rfl⟩
  rw [← hp] at hp2
  have HP := Lib.hid hp
  clear hra hp
  replace HA : LRd w B a.A a.n a.c a.xs := HA
  have E : Below w.heap.size w w := Below.refl _ _
  have IR := Lib.hid (irow1 ((w.alloc a.cells).alloc (.cells #[.int .i64 0, .int .i64 0] 28)) B a ((HA.alloc (by omega) _).alloc (by simp; omega) _) (by simp; omega))
  go_enter Tryz.func47, Tryz.ntmps47
  go_wp2_with fail
  obtain ⟨V0, hV0⟩ : ∃ V0 : World, V0 = (((w.alloc (.cells #[.bool a.neg, .slice a.A a.n a.c] 24)).alloc (.cells #[.int .i64 0, .int .i64 0] 28)).alloc (.cells #[.bool a.neg, .slice a.A a.n a.c] 24)) := ⟨_, rfl⟩
  have bV0 : Below w.heap.size w V0 := by rw [hV0]; (repeat (first | with_reducible exact Below.refl _ _ | with_reducible refine Below.alloc ?_ (by first | (simp <;> omega) | omega) _))
  have zV0 : w.heap.size + 3 ≤ V0.heap.size := by rw [hV0]; simp
  have PA : Bk2 V0 (w.heap.size) (.bool a.neg) (.slice a.A a.n a.c) := by rw [hV0]; exact (((Bk2.newAt _ _ (by simp) _ _ _).alloc _).alloc _)
  have PR : Bk2 V0 (w.heap.size + 1) (.int .i64 0) (.int .i64 0) := by rw [hV0]; exact ((Bk2.newAt _ _ (by simp) _ _ _).alloc _)
  replace IR : Hid (IRow V0 B (w.heap.size + 2) [a]) := by have h9 := IR.out; rw [hV0]; rw [show ((w.alloc a.cells).alloc (.cells #[.int .i64 0, .int .i64 0] 28)).heap.size = w.heap.size + 2 by simp] at h9; exact h9
  rw [← hV0]
  clear hV0
  replace E := E.trans (bV0.mono E.size)
  replace HA := HA.below bV0 (by omega)
  clear bV0
  (with_reducible refine (check_any _ B (w.heap.size + 2) 1 [a] IR.out rfl (by omega) (by omega)).mono ?_)
  rintro e w1 ⟨rfl, hb1⟩
  have sw1 := hb1.size
  replace E := E.trans (hb1.mono E.size)
  replace HA := HA.below hb1 (by omega)
  replace PA := PA.below hb1 PA.lt
  replace PR := PR.below hb1 PR.lt
  clear hb1
  rw [one_ok oa]
  clear IR
  have EB : Below w.heap.size w (w1.alloc (.cells #[.int .i64 0, .int .i64 0] 28)) := E.alloc (by have := E.size; omega) _
  have PR := PR.alloc (.cells #[.int .i64 0, .int .i64 0] 28)
  have PA := PA.alloc (.cells #[.int .i64 0, .int .i64 0] 28)
  have HA := HA.alloc (by have := E.size; omega) (.cells #[.int .i64 0, .int .i64 0] 28)
  have a0 := PA.c0
  have a1 := PA.c1
  rw [hs.out] at a0
  go_wp2_with fail
  refine (wide_ok _ B a.A a.n a.c a.xs HA hn).mono ?_
  rintro e w2 ⟨rfl, rfl⟩
  rw [← HP.out]
  clear a0 a1
  have a0 := PA.c0
  rw [hs.out] at a0
  have hpp : p ≤ 9223372036854775807 := by rw [HP.out]; exact hh
  have hw := sm_p1 hpp
  have hlt : ((p : Int) < 0) = False := by simp
  have f0 := PR.c0
  have f1 := PR.c1
  have z0 := PR.z0
  have z1 := PR.z1
  go_wp2_with fail
  refine bodyPost_ret (v := .tuple #[.int .i64 (p : Int), flt 0 0]) (by simp [results, Tryz.results47, go_sem, f0, f1]) rfl (.inl ⟨(by rw [IV.vpos hs.out, ← HP.out]; omega), by rw [IV.vpos hs.out, ← HP.out], ?_⟩)
  (repeat (first | with_reducible exact Below.refl _ _ | with_reducible exact EB | with_reducible refine Below.drew ?_ | with_reducible refine below_drewN ?_ _ | with_reducible refine Below.setCell ?_ (by first | (simp <;> omega) | omega) _ | with_reducible refine Below.alloc ?_ (by first | (simp <;> omega) | omega) _))
set_option maxHeartbeats 2000000 in
theorem ismall_p2 (w : World) (B : Nat) (a : IV) (HA : a.at w B) (hB : B ≤ w.heap.size) (oa : a.ok = true) (hs : Hid (a.neg = false)) (hn : a.n ≤ 2) (hh : 9223372036854775807 < vb 4294967296 a.xs) :
    Calls Tryz.prog 47 #[a.v] w (SmlPost a.val w) := by
  have hra : Rep 4294967296 a.xs (vb 4294967296 a.xs) := ⟨HA.lim, rfl, (vld_top (IV.vld oa).1).1⟩
  have hp2 := two_limbs hra HA.len.out hn
  obtain ⟨p, hp⟩ : ∃ p, p = vb 4294967296 a.xs := ⟨_, rfl⟩
  rw [← hp] at hp2
  have HP := Lib.hid hp
  clear hra hp
  replace HA : LRd w B a.A a.n a.c a.xs := HA
  have E : Below w.heap.size w w := Below.refl _ _
  have IR := Lib.hid (irow1 ((w.alloc a.cells).alloc (.cells #[.int .i64 0, .int .i64 0] 28)) B a ((HA.alloc (by omega) _).alloc (by simp; omega) _) (by simp; omega))
  go_enter Tryz.func47, Tryz.ntmps47
  go_wp2_with fail
  obtain ⟨V0, hV0⟩ : ∃ V0 : World, V0 = (((w.alloc (.cells #[.bool a.neg, .slice a.A a.n a.c] 24)).alloc (.cells #[.int .i64 0, .int .i64 0] 28)).alloc (.cells #[.bool a.neg, .slice a.A a.n a.c] 24)) := ⟨_, rfl⟩
  have bV0 : Below w.heap.size w V0 := by rw [hV0]; (repeat (first | with_reducible exact Below.refl _ _ | with_reducible refine Below.alloc ?_ (by first | (simp <;> omega) | omega) _))
  have zV0 : w.heap.size + 3 ≤ V0.heap.size := by rw [hV0]; simp
  have PA : Bk2 V0 (w.heap.size) (.bool a.neg) (.slice a.A a.n a.c) := by rw [hV0]; exact (((Bk2.newAt _ _ (by simp) _ _ _).alloc _).alloc _)
  have PR : Bk2 V0 (w.heap.size + 1) (.int .i64 0) (.int .i64 0) := by rw [hV0]; exact ((Bk2.newAt _ _ (by simp) _ _ _).alloc _)
  replace IR : Hid (IRow V0 B (w.heap.size + 2) [a]) := by have h9 := IR.out; rw [hV0]; rw [show ((w.alloc a.cells).alloc (.cells #[.int .i64 0, .int .i64 0] 28)).heap.size = w.heap.size + 2 by simp] at h9; exact h9
  rw [← hV0]
  clear hV0
  replace E := E.trans (bV0.mono E.size)
  replace HA := HA.below bV0 (by omega)
  clear bV0
  (with_reducible refine (check_any _ B (w.heap.size + 2) 1 [a] IR.out rfl (by omega) (by omega)).mono ?_)
  rintro e w1 ⟨rfl, hb1⟩
  have sw1 := hb1.size
  replace E := E.trans (hb1.mono E.size)
  replace HA := HA.below hb1 (by omega)
  replace PA := PA.below hb1 PA.lt
  replace PR := PR.below hb1 PR.lt
  clear hb1
  rw [one_ok oa]
  clear IR
  have EB : Below w.heap.size w (w1.alloc (.cells #[.int .i64 0, .int .i64 0] 28)) := E.alloc (by have := E.size; omega) _
  have PR := PR.alloc (.cells #[.int .i64 0, .int .i64 0] 28)
  have PA := PA.alloc (.cells #[.int .i64 0, .int .i64 0] 28)
  have HA := HA.alloc (by have := E.size; omega) (.cells #[.int .i64 0, .int .i64 0] 28)
  have a0 := PA.c0
  have a1 := PA.c1
  rw [hs.out] at a0
  go_wp2_with fail
  refine (wide_ok _ B a.A a.n a.c a.xs HA hn).mono ?_
  rintro e w2 ⟨rfl, rfl⟩
  rw [← HP.out]
  clear a0 a1
  have a0 := PA.c0
  rw [hs.out] at a0
  have hpp : 9223372036854775807 < p := by rw [HP.out]; exact hh
  have hw := sm_p2 hpp hp2
  have hlt : (p : Int) - 18446744073709551616 < 0 := by omega
  go_wp2_with fail
  refine (tooLarge_any _).mono ?_
  rintro e w3 ⟨rfl, hb3⟩
  have PR := PR.below hb3 (by have := PR.lt; simpa using this)
  have EC : Below w.heap.size w w3 := EB.trans (hb3.mono EB.size)
  have f0 := PR.c0
  have f1 := PR.c1
  have z0 := PR.z0
  have z1 := PR.z1
  go_wp2_with fail
  refine bodyPost_ret (v := .tuple #[.int .i64 0, flt 14 (-1)]) (by simp [results, Tryz.results47, go_sem, f0, f1]) rfl (.inr ⟨(by rw [IV.vpos hs.out, ← HP.out]; omega), rfl, ?_⟩)
  (repeat (first | with_reducible exact Below.refl _ _ | with_reducible exact EC | with_reducible refine Below.drew ?_ | with_reducible refine below_drewN ?_ _ | with_reducible refine Below.setCell ?_ (by first | (simp <;> omega) | omega) _ | with_reducible refine Below.alloc ?_ (by first | (simp <;> omega) | omega) _))
set_option maxHeartbeats 2000000 in
theorem ismall_n1 (w : World) (B : Nat) (a : IV) (HA : a.at w B) (hB : B ≤ w.heap.size) (oa : a.ok = true) (hs : Hid (a.neg = true)) (hn : a.n ≤ 2) (h0 : 0 < vb 4294967296 a.xs) (hh : vb 4294967296 a.xs ≤ 9223372036854775808) :
    Calls Tryz.prog 47 #[a.v] w (SmlPost a.val w) := by
  have hra : Rep 4294967296 a.xs (vb 4294967296 a.xs) := ⟨HA.lim, rfl, (vld_top (IV.vld oa).1).1⟩
  have hp2 := two_limbs hra HA.len.out hn
  obtain ⟨p, hp⟩ : ∃ p, p = vb 4294967296 a.xs := ⟨_, rfl⟩
  rw [← hp] at hp2
  have HP := Lib.hid hp
  clear hra hp
  replace HA : LRd w B a.A a.n a.c a.xs := HA
  have E : Below w.heap.size w w := Below.refl _ _
  have IR := Lib.hid (irow1 ((w.alloc a.cells).alloc (.cells #[.int .i64 0, .int .i64 0] 28)) B a ((HA.alloc (by omega) _).alloc (by simp; omega) _) (by simp; omega))
  go_enter Tryz.func47, Tryz.ntmps47
  go_wp2_with fail
  obtain ⟨V0, hV0⟩ : ∃ V0 : World, V0 = (((w.alloc (.cells #[.bool a.neg, .slice a.A a.n a.c] 24)).alloc (.cells #[.int .i64 0, .int .i64 0] 28)).alloc (.cells #[.bool a.neg, .slice a.A a.n a.c] 24)) := ⟨_, rfl⟩
  have bV0 : Below w.heap.size w V0 := by rw [hV0]; (repeat (first | with_reducible exact Below.refl _ _ | with_reducible refine Below.alloc ?_ (by first | (simp <;> omega) | omega) _))
  have zV0 : w.heap.size + 3 ≤ V0.heap.size := by rw [hV0]; simp
  have PA : Bk2 V0 (w.heap.size) (.bool a.neg) (.slice a.A a.n a.c) := by rw [hV0]; exact (((Bk2.newAt _ _ (by simp) _ _ _).alloc _).alloc _)
  have PR : Bk2 V0 (w.heap.size + 1) (.int .i64 0) (.int .i64 0) := by rw [hV0]; exact ((Bk2.newAt _ _ (by simp) _ _ _).alloc _)
  replace IR : Hid (IRow V0 B (w.heap.size + 2) [a]) := by have h9 := IR.out; rw [hV0]; rw [show ((w.alloc a.cells).alloc (.cells #[.int .i64 0, .int .i64 0] 28)).heap.size = w.heap.size + 2 by simp] at h9; exact h9
  rw [← hV0]
  clear hV0
  replace E := E.trans (bV0.mono E.size)
  replace HA := HA.below bV0 (by omega)
  clear bV0
  (with_reducible refine (check_any _ B (w.heap.size + 2) 1 [a] IR.out rfl (by omega) (by omega)).mono ?_)
  rintro e w1 ⟨rfl, hb1⟩
  have sw1 := hb1.size
  replace E := E.trans (hb1.mono E.size)
  replace HA := HA.below hb1 (by omega)
  replace PA := PA.below hb1 PA.lt
  replace PR := PR.below hb1 PR.lt
  clear hb1
  rw [one_ok oa]
  clear IR
  have EB : Below w.heap.size w (w1.alloc (.cells #[.int .i64 0, .int .i64 0] 28)) := E.alloc (by have := E.size; omega) _
  have PR := PR.alloc (.cells #[.int .i64 0, .int .i64 0] 28)
  have PA := PA.alloc (.cells #[.int .i64 0, .int .i64 0] 28)
  have HA := HA.alloc (by have := E.size; omega) (.cells #[.int .i64 0, .int .i64 0] 28)
  have a0 := PA.c0
  have a1 := PA.c1
  rw [hs.out] at a0
  go_wp2_with fail
  refine (wide_ok _ B a.A a.n a.c a.xs HA hn).mono ?_
  rintro e w2 ⟨rfl, rfl⟩
  rw [← HP.out]
  clear a0 a1
  have a0 := PA.c0
  rw [hs.out] at a0
  have hpp : p ≤ 9223372036854775808 := by rw [HP.out]; exact hh
  have hp0 : 0 < p := by rw [HP.out]; exact h0
  have hw := sm_n1 hp0 hpp
  have hlt : -(p : Int) < 0 := by omega
  have f0 := PR.c0
  have f1 := PR.c1
  have z0 := PR.z0
  have z1 := PR.z1
  go_wp2_with fail
  refine bodyPost_ret (v := .tuple #[.int .i64 (-(p : Int)), flt 0 0]) (by simp [results, Tryz.results47, go_sem, f0, f1]) rfl (.inl ⟨(by rw [IV.vneg hs.out, ← HP.out]; omega), by rw [IV.vneg hs.out, ← HP.out], ?_⟩)
  (repeat (first | with_reducible exact Below.refl _ _ | with_reducible exact EB | with_reducible refine Below.drew ?_ | with_reducible refine below_drewN ?_ _ | with_reducible refine Below.setCell ?_ (by first | (simp <;> omega) | omega) _ | with_reducible refine Below.alloc ?_ (by first | (simp <;> omega) | omega) _))
set_option maxHeartbeats 2000000 in
theorem ismall_n2 (w : World) (B : Nat) (a : IV) (HA : a.at w B) (hB : B ≤ w.heap.size) (oa : a.ok = true) (hs : Hid (a.neg = true)) (hn : a.n ≤ 2) (hh : 9223372036854775808 < vb 4294967296 a.xs) :
    Calls Tryz.prog 47 #[a.v] w (SmlPost a.val w) := by
  have hra : Rep 4294967296 a.xs (vb 4294967296 a.xs) := ⟨HA.lim, rfl, (vld_top (IV.vld oa).1).1⟩
  have hp2 := two_limbs hra HA.len.out hn
  obtain ⟨p, hp⟩ : ∃ p, p = vb 4294967296 a.xs := ⟨_, rfl⟩
  rw [← hp] at hp2
  have HP := Lib.hid hp
  clear hra hp
  replace HA : LRd w B a.A a.n a.c a.xs := HA
  have E : Below w.heap.size w w := Below.refl _ _
  have IR := Lib.hid (irow1 ((w.alloc a.cells).alloc (.cells #[.int .i64 0, .int .i64 0] 28)) B a ((HA.alloc (by omega) _).alloc (by simp; omega) _) (by simp; omega))
  go_enter Tryz.func47, Tryz.ntmps47
  go_wp2_with fail
  obtain ⟨V0, hV0⟩ : ∃ V0 : World, V0 = (((w.alloc (.cells #[.bool a.neg, .slice a.A a.n a.c] 24)).alloc (.cells #[.int .i64 0, .int .i64 0] 28)).alloc (.cells #[.bool a.neg, .slice a.A a.n a.c] 24)) := ⟨_, rfl⟩
  have bV0 : Below w.heap.size w V0 := by rw [hV0]; (repeat (first | with_reducible exact Below.refl _ _ | with_reducible refine Below.alloc ?_ (by first | (simp <;> omega) | omega) _))
  have zV0 : w.heap.size + 3 ≤ V0.heap.size := by rw [hV0]; simp
  have PA : Bk2 V0 (w.heap.size) (.bool a.neg) (.slice a.A a.n a.c) := by rw [hV0]; exact (((Bk2.newAt _ _ (by simp) _ _ _).alloc _).alloc _)
  have PR : Bk2 V0 (w.heap.size + 1) (.int .i64 0) (.int .i64 0) := by rw [hV0]; exact ((Bk2.newAt _ _ (by simp) _ _ _).alloc _)
  replace IR : Hid (IRow V0 B (w.heap.size + 2) [a]) := by have h9 := IR.out; rw [hV0]; rw [show ((w.alloc a.cells).alloc (.cells #[.int .i64 0, .int .i64 0] 28)).heap.size = w.heap.size + 2 by simp] at h9; exact h9
  rw [← hV0]
  clear hV0
  replace E := E.trans (bV0.mono E.size)
  replace HA := HA.below bV0 (by omega)
  clear bV0
  (with_reducible refine (check_any _ B (w.heap.size + 2) 1 [a] IR.out rfl (by omega) (by omega)).mono ?_)
  rintro e w1 ⟨rfl, hb1⟩
  have sw1 := hb1.size
  replace E := E.trans (hb1.mono E.size)
  replace HA := HA.below hb1 (by omega)
  replace PA := PA.below hb1 PA.lt
  replace PR := PR.below hb1 PR.lt
  clear hb1
  rw [one_ok oa]
  clear IR
  have EB : Below w.heap.size w (w1.alloc (.cells #[.int .i64 0, .int .i64 0] 28)) := E.alloc (by have := E.size; omega) _
  have PR := PR.alloc (.cells #[.int .i64 0, .int .i64 0] 28)
  have PA := PA.alloc (.cells #[.int .i64 0, .int .i64 0] 28)
  have HA := HA.alloc (by have := E.size; omega) (.cells #[.int .i64 0, .int .i64 0] 28)
  have a0 := PA.c0
  have a1 := PA.c1
  rw [hs.out] at a0
  go_wp2_with fail
  refine (wide_ok _ B a.A a.n a.c a.xs HA hn).mono ?_
  rintro e w2 ⟨rfl, rfl⟩
  rw [← HP.out]
  clear a0 a1
  have a0 := PA.c0
  rw [hs.out] at a0
  have hpp : 9223372036854775808 < p := by rw [HP.out]; exact hh
  have hw := sm_n2 hpp hp2
  have hlt : (p : Int) ≤ 18446744073709551616 := by omega
  have hlt2 : decide (18446744073709551616 - (p : Int) < 0) = false := by rw [decide_eq_false_iff_not]; omega
  go_wp2_with fail
  refine (tooLarge_any _).mono ?_
  rintro e w3 ⟨rfl, hb3⟩
  have PR := PR.below hb3 (by have := PR.lt; simpa using this)
  have EC : Below w.heap.size w w3 := EB.trans (hb3.mono EB.size)
  have f0 := PR.c0
  have f1 := PR.c1
  have z0 := PR.z0
  have z1 := PR.z1
  go_wp2_with fail
  refine bodyPost_ret (v := .tuple #[.int .i64 0, flt 14 (-1)]) (by simp [results, Tryz.results47, go_sem, f0, f1]) rfl (.inr ⟨(by rw [IV.vneg hs.out, ← HP.out]; omega), rfl, ?_⟩)
  (repeat (first | with_reducible exact Below.refl _ _ | with_reducible exact EC | with_reducible refine Below.drew ?_ | with_reducible refine below_drewN ?_ _ | with_reducible refine Below.setCell ?_ (by first | (simp <;> omega) | omega) _ | with_reducible refine Below.alloc ?_ (by first | (simp <;> omega) | omega) _))
theorem ismall_ok (w : World) (B : Nat) (a : IV) (HA : a.at w B) (hB : B ≤ w.heap.size) (oa : a.ok = true) : Calls Tryz.prog 47 #[a.v] w (SmlPost a.val w) := by
  rcases Nat.lt_or_ge 2 a.n with hn | hn
  · cases hs : a.neg
    · exact ismall_big_f w B a HA hB oa hs hn
    · exact ismall_big_t w B a HA hB oa hs hn
  · cases hs : a.neg
    · rcases Nat.lt_or_ge 9223372036854775807 (vb 4294967296 a.xs) with e | e
      · exact ismall_p2 w B a HA hB oa hs hn e
      · exact ismall_p1 w B a HA hB oa hs hn e
    · rcases Nat.lt_or_ge 9223372036854775808 (vb 4294967296 a.xs) with e | e
      · exact ismall_n2 w B a HA hB oa hs hn e
      · refine ismall_n1 w B a HA hB oa hs hn ?_ e
        have := IV.neg_lt oa HA.lim hs
        rw [IV.vneg hs] at this
        omega
theorem Bk2.grown {w w' : World} {s g : Nat} {u v : Value} (h : Bk2 w s u v) (hg : w.grownBy w' (some g)) (hne : s ≠ g) : Bk2 w' s u v := by
  have hb := hg.block s h.lt (fun e => hne (by injection e))
  exact ⟨(World.cell?_of_block (w := w) hb).trans h.c0, (World.cell?_of_block (w := w) hb).trans h.c1, (World.frozen?_of_block (w := w) hb).trans h.z0, (World.frozen?_of_block (w := w) hb).trans h.z1, Nat.lt_of_lt_of_le h.lt hg.size⟩
theorem run_make (fn : Fn) (first cap : Array Value) (w : World) : (Instr.makeFunc fn first cap).run Tryz.prog w = .ok (.func fn first cap) w := rfl
theorem Bk2.next {w w' : World} {g : Nat} {u v : Value} (h : Bk2 w g u v) (hb : Below w.heap.size w w') : Bk2 w' g u v := h.below hb h.lt
def FlPost (x y : Int) (w : World) (e : Ending) (w' : World) : Prop :=
  ∃ m A k c zs v n D l d ys u q r, e = .returned (.tuple #[intv m A k c, intv n D l d]) ∧ DRd w' w'.heap.size A k c zs ∧ Rep 65536 zs v ∧ sval m v = q ∧ DRd w' w'.heap.size D l d ys ∧ Rep 65536 ys u ∧ sval n u = r ∧ FloorOf x y q r ∧ Below w.heap.size w w'
set_option maxHeartbeats 4000000 in
theorem floor_ff (w : World) (B : Nat) (A D : Option Addr) (k l c d p v : Nat) (xs ys : List Nat) (H : DRd w B A k c xs) (K : DRd w B D l d ys) (hB : B ≤ w.heap.size) (hx : Hid (Rep 65536 xs p)) (hy : Hid (Rep 65536 ys v)) (hv : 0 < v) (hk : k ≤ 100000) (hl : l ≤ 100000)  :
    Calls Tryz.prog 83 #[intv false A k c, intv false D l d] w (FlPost (sval false p) (sval false v) w) := by
  have E : Below w.heap.size w w := Below.refl _ _
  go_enter Tryz.func83, Tryz.ntmps83
  go_wp2_with fail
  obtain ⟨V0, hV0⟩ : ∃ V0 : World, V0 = ((((w.alloc (.cells #[.bool false, .slice A k c] 40)).alloc (.cells #[.bool false, .slice D l d] 40)).alloc (.cells #[.bool false, .slice none 0 0] 40)).alloc (.cells #[.bool false, .slice none 0 0] 40)) := ⟨_, rfl⟩
  have bV0 : Below w.heap.size w V0 := by rw [hV0]; (repeat (first | with_reducible exact Below.refl _ _ | with_reducible refine Below.alloc ?_ (by first | (simp <;> omega) | omega) _))
  have zV0 : w.heap.size + 4 ≤ V0.heap.size := by rw [hV0]; simp
  have PA : Bk2 V0 (w.heap.size) (.bool false) (.slice A k c) := by rw [hV0]; exact ((((Bk2.newAt _ _ (by simp) _ _ _).alloc _).alloc _).alloc _)
  have PB : Bk2 V0 (w.heap.size + 1) (.bool false) (.slice D l d) := by rw [hV0]; exact (((Bk2.newAt _ _ (by simp) _ _ _).alloc _).alloc _)
  have P1 : Bk2 V0 (w.heap.size + 2) (.bool false) (.slice none 0 0) := by rw [hV0]; exact ((Bk2.newAt _ _ (by simp) _ _ _).alloc _)
  have P2 : Bk2 V0 (w.heap.size + 3) (.bool false) (.slice none 0 0) := by rw [hV0]; exact (Bk2.newAt _ _ (by simp) _ _ _)
  rw [← hV0]
  clear hV0
  replace E := E.trans (bV0.mono E.size)
  replace H := H.below bV0 (by omega)
  replace K := K.below bV0 (by omega)
  clear bV0
  (with_reducible refine (divideD_any _ B A D k l c d p v xs ys H K (by omega) hx.out hy.out hv hk hl).mono ?_)
  rintro e w1 ⟨A1, k1, c1, x1, A2, k2, c2, x2, rfl, hd1, hr1, hd2, hr2, hb1⟩
  have sw1 := hb1.size
  replace E := E.trans (hb1.mono E.size)
  replace H := H.below hb1 (by omega)
  replace K := K.below hb1 (by omega)
  replace PA := PA.below hb1 PA.lt
  replace PB := PB.below hb1 PB.lt
  replace P1 := P1.below hb1 P1.lt
  replace P2 := P2.below hb1 P2.lt
  clear hb1
  have R1 := Lib.hid hr1
  have R2 := Lib.hid hr2
  clear hr1 hr2
  have kc1 := hd1.cap
  have kc2 := hd2.cap
  have PA0 := PA.c0
  have PA1 := PA.c1
  have PAl := PA.lt
  have PB0 := PB.c0
  have PB1 := PB.c1
  have PBl := PB.lt
  have P10 := P1.c0
  have P11 := P1.c1
  have P1l := P1.lt
  have P1z0 := P1.z0
  have P1z1 := P1.z1
  have P20 := P2.c0
  have P21 := P2.c1
  have P2l := P2.lt
  have P2z0 := P2.z0
  have P2z1 := P2.z1
  go_upto_region 4 with fail
  go_region
  all_goals (go_wp2_with fail)
  clear PA0 PA1 PAl PB0 PB1 PBl P10 P11 P1l P1z0 P1z1 P20 P21 P2l P2z0 P2z1
  obtain ⟨U9P1, hU9P1⟩ : ∃ U9P1 : World, U9P1 = ((w1.setCell ⟨w.heap.size + 2, 0, none⟩ (.bool false)).setCell ⟨w.heap.size + 2, 1, none⟩ (.slice A1 k1 c1)) := ⟨_, rfl⟩
  have zU9P1 : U9P1.heap.size = w1.heap.size := by rw [hU9P1]; simp [World.setCell]
  replace E : Below w.heap.size w U9P1 := by rw [hU9P1]; exact (E.setCell (by first | (simp; done) | (simp; omega)) _).setCell (by first | (simp; done) | (simp; omega)) _
  replace H : DRd U9P1 (B) A k c xs := by rw [hU9P1]; first | exact H.setFar2 (by omega) _ _ | exact H.setBD P1 (by simp) (by simp) _ _
  replace K : DRd U9P1 (B) D l d ys := by rw [hU9P1]; first | exact K.setFar2 (by omega) _ _ | exact K.setBD P1 (by simp) (by simp) _ _
  replace PA : Bk2 U9P1 (w.heap.size) (.bool false) (.slice A k c) := by rw [hU9P1]; exact PA.far2 (by omega) _ _
  replace PB : Bk2 U9P1 (w.heap.size + 1) (.bool false) (.slice D l d) := by rw [hU9P1]; exact PB.far2 (by omega) _ _
  replace P2 : Bk2 U9P1 (w.heap.size + 3) (.bool false) (.slice none 0 0) := by rw [hU9P1]; exact P2.far2 (by omega) _ _
  replace hd1 : DRd U9P1 (w1.heap.size) A1 k1 c1 x1 := by rw [hU9P1]; first | exact hd1.setFar2 (by omega) _ _ | exact hd1.setBD P1 (by simp) (by simp) _ _
  replace hd2 : DRd U9P1 (w1.heap.size) A2 k2 c2 x2 := by rw [hU9P1]; first | exact hd2.setFar2 (by omega) _ _ | exact hd2.setBD P1 (by simp) (by simp) _ _
  replace P1 : Bk2 U9P1 (w.heap.size + 2) (.bool false) (.slice A1 k1 c1) := by rw [hU9P1]; exact P1.set _ _
  rw [← hU9P1]
  clear hU9P1
  have zU9P1' := Nat.le_of_eq zU9P1
  replace zU9P1 := Nat.le_of_eq zU9P1.symm
  obtain ⟨U9P2, hU9P2⟩ : ∃ U9P2 : World, U9P2 = ((U9P1.setCell ⟨w.heap.size + 3, 0, none⟩ (.bool false)).setCell ⟨w.heap.size + 3, 1, none⟩ (.slice A2 k2 c2)) := ⟨_, rfl⟩
  have zU9P2 : U9P2.heap.size = U9P1.heap.size := by rw [hU9P2]; simp [World.setCell]
  replace E : Below w.heap.size w U9P2 := by rw [hU9P2]; exact (E.setCell (by first | (simp; done) | (simp; omega)) _).setCell (by first | (simp; done) | (simp; omega)) _
  replace H : DRd U9P2 (B) A k c xs := by rw [hU9P2]; first | exact H.setFar2 (by omega) _ _ | exact H.setBD P2 (by simp) (by simp) _ _
  replace K : DRd U9P2 (B) D l d ys := by rw [hU9P2]; first | exact K.setFar2 (by omega) _ _ | exact K.setBD P2 (by simp) (by simp) _ _
  replace PA : Bk2 U9P2 (w.heap.size) (.bool false) (.slice A k c) := by rw [hU9P2]; exact PA.far2 (by omega) _ _
  replace PB : Bk2 U9P2 (w.heap.size + 1) (.bool false) (.slice D l d) := by rw [hU9P2]; exact PB.far2 (by omega) _ _
  replace P1 : Bk2 U9P2 (w.heap.size + 2) (.bool false) (.slice A1 k1 c1) := by rw [hU9P2]; exact P1.far2 (by omega) _ _
  replace hd1 : DRd U9P2 (w1.heap.size) A1 k1 c1 x1 := by rw [hU9P2]; first | exact hd1.setFar2 (by omega) _ _ | exact hd1.setBD P2 (by simp) (by simp) _ _
  replace hd2 : DRd U9P2 (w1.heap.size) A2 k2 c2 x2 := by rw [hU9P2]; first | exact hd2.setFar2 (by omega) _ _ | exact hd2.setBD P2 (by simp) (by simp) _ _
  replace P2 : Bk2 U9P2 (w.heap.size + 3) (.bool false) (.slice A2 k2 c2) := by rw [hU9P2]; exact P2.set _ _
  rw [← hU9P2]
  clear hU9P2
  have zU9P2' := Nat.le_of_eq zU9P2
  replace zU9P2 := Nat.le_of_eq zU9P2.symm
  have f0 := (P1.drew).c0
  have f1 := (P1.drew).c1
  have r0 := (P2.drew).c0
  have r1 := (P2.drew).c1
  refine bodyPost_ret (v := .tuple #[intv false A1 k1 c1, intv false A2 k2 c2]) (by simp [results, Tryz.results83, go_sem, f0, f1, r0, r1]) rfl ⟨_, _, _, _, _, _, _, _, _, _, _, _, _, _, rfl, ((hd1.keep (w' := World.drew U9P2) (fun _ _ => rfl)).more (by show w1.heap.size ≤ U9P2.heap.size; omega)), R1.out, rfl, ((hd2.keep (w' := World.drew U9P2) (fun _ _ => rfl)).more (by show w1.heap.size ≤ U9P2.heap.size; omega)), R2.out, rfl, floor_same hv, Below.drew E⟩
set_option maxHeartbeats 4000000 in
theorem floor_tt (w : World) (B : Nat) (A D : Option Addr) (k l c d p v : Nat) (xs ys : List Nat) (H : DRd w B A k c xs) (K : DRd w B D l d ys) (hB : B ≤ w.heap.size) (hx : Hid (Rep 65536 xs p)) (hy : Hid (Rep 65536 ys v)) (hv : 0 < v) (hk : k ≤ 100000) (hl : l ≤ 100000)  :
    Calls Tryz.prog 83 #[intv true A k c, intv true D l d] w (FlPost (sval true p) (sval true v) w) := by
  have E : Below w.heap.size w w := Below.refl _ _
  go_enter Tryz.func83, Tryz.ntmps83
  go_wp2_with fail
  obtain ⟨V0, hV0⟩ : ∃ V0 : World, V0 = ((((w.alloc (.cells #[.bool true, .slice A k c] 40)).alloc (.cells #[.bool true, .slice D l d] 40)).alloc (.cells #[.bool false, .slice none 0 0] 40)).alloc (.cells #[.bool false, .slice none 0 0] 40)) := ⟨_, rfl⟩
  have bV0 : Below w.heap.size w V0 := by rw [hV0]; (repeat (first | with_reducible exact Below.refl _ _ | with_reducible refine Below.alloc ?_ (by first | (simp <;> omega) | omega) _))
  have zV0 : w.heap.size + 4 ≤ V0.heap.size := by rw [hV0]; simp
  have PA : Bk2 V0 (w.heap.size) (.bool true) (.slice A k c) := by rw [hV0]; exact ((((Bk2.newAt _ _ (by simp) _ _ _).alloc _).alloc _).alloc _)
  have PB : Bk2 V0 (w.heap.size + 1) (.bool true) (.slice D l d) := by rw [hV0]; exact (((Bk2.newAt _ _ (by simp) _ _ _).alloc _).alloc _)
  have P1 : Bk2 V0 (w.heap.size + 2) (.bool false) (.slice none 0 0) := by rw [hV0]; exact ((Bk2.newAt _ _ (by simp) _ _ _).alloc _)
  have P2 : Bk2 V0 (w.heap.size + 3) (.bool false) (.slice none 0 0) := by rw [hV0]; exact (Bk2.newAt _ _ (by simp) _ _ _)
  rw [← hV0]
  clear hV0
  replace E := E.trans (bV0.mono E.size)
  replace H := H.below bV0 (by omega)
  replace K := K.below bV0 (by omega)
  clear bV0
  (with_reducible refine (divideD_any _ B A D k l c d p v xs ys H K (by omega) hx.out hy.out hv hk hl).mono ?_)
  rintro e w1 ⟨A1, k1, c1, x1, A2, k2, c2, x2, rfl, hd1, hr1, hd2, hr2, hb1⟩
  have sw1 := hb1.size
  replace E := E.trans (hb1.mono E.size)
  replace H := H.below hb1 (by omega)
  replace K := K.below hb1 (by omega)
  replace PA := PA.below hb1 PA.lt
  replace PB := PB.below hb1 PB.lt
  replace P1 := P1.below hb1 P1.lt
  replace P2 := P2.below hb1 P2.lt
  clear hb1
  have R1 := Lib.hid hr1
  have R2 := Lib.hid hr2
  clear hr1 hr2
  have kc1 := hd1.cap
  have kc2 := hd2.cap
  have PA0 := PA.c0
  have PA1 := PA.c1
  have PAl := PA.lt
  have PB0 := PB.c0
  have PB1 := PB.c1
  have PBl := PB.lt
  have P10 := P1.c0
  have P11 := P1.c1
  have P1l := P1.lt
  have P1z0 := P1.z0
  have P1z1 := P1.z1
  have P20 := P2.c0
  have P21 := P2.c1
  have P2l := P2.lt
  have P2z0 := P2.z0
  have P2z1 := P2.z1
  go_upto_region 4 with fail
  go_region
  all_goals (go_wp2_with fail)
  clear PA0 PA1 PAl PB0 PB1 PBl P10 P11 P1l P1z0 P1z1 P20 P21 P2l P2z0 P2z1
  obtain ⟨U9P1, hU9P1⟩ : ∃ U9P1 : World, U9P1 = ((w1.setCell ⟨w.heap.size + 2, 0, none⟩ (.bool false)).setCell ⟨w.heap.size + 2, 1, none⟩ (.slice A1 k1 c1)) := ⟨_, rfl⟩
  have zU9P1 : U9P1.heap.size = w1.heap.size := by rw [hU9P1]; simp [World.setCell]
  replace E : Below w.heap.size w U9P1 := by rw [hU9P1]; exact (E.setCell (by first | (simp; done) | (simp; omega)) _).setCell (by first | (simp; done) | (simp; omega)) _
  replace H : DRd U9P1 (B) A k c xs := by rw [hU9P1]; first | exact H.setFar2 (by omega) _ _ | exact H.setBD P1 (by simp) (by simp) _ _
  replace K : DRd U9P1 (B) D l d ys := by rw [hU9P1]; first | exact K.setFar2 (by omega) _ _ | exact K.setBD P1 (by simp) (by simp) _ _
  replace PA : Bk2 U9P1 (w.heap.size) (.bool true) (.slice A k c) := by rw [hU9P1]; exact PA.far2 (by omega) _ _
  replace PB : Bk2 U9P1 (w.heap.size + 1) (.bool true) (.slice D l d) := by rw [hU9P1]; exact PB.far2 (by omega) _ _
  replace P2 : Bk2 U9P1 (w.heap.size + 3) (.bool false) (.slice none 0 0) := by rw [hU9P1]; exact P2.far2 (by omega) _ _
  replace hd1 : DRd U9P1 (w1.heap.size) A1 k1 c1 x1 := by rw [hU9P1]; first | exact hd1.setFar2 (by omega) _ _ | exact hd1.setBD P1 (by simp) (by simp) _ _
  replace hd2 : DRd U9P1 (w1.heap.size) A2 k2 c2 x2 := by rw [hU9P1]; first | exact hd2.setFar2 (by omega) _ _ | exact hd2.setBD P1 (by simp) (by simp) _ _
  replace P1 : Bk2 U9P1 (w.heap.size + 2) (.bool false) (.slice A1 k1 c1) := by rw [hU9P1]; exact P1.set _ _
  rw [← hU9P1]
  clear hU9P1
  have zU9P1' := Nat.le_of_eq zU9P1
  replace zU9P1 := Nat.le_of_eq zU9P1.symm
  obtain ⟨U9P2, hU9P2⟩ : ∃ U9P2 : World, U9P2 = ((U9P1.setCell ⟨w.heap.size + 3, 0, none⟩ (.bool true)).setCell ⟨w.heap.size + 3, 1, none⟩ (.slice A2 k2 c2)) := ⟨_, rfl⟩
  have zU9P2 : U9P2.heap.size = U9P1.heap.size := by rw [hU9P2]; simp [World.setCell]
  replace E : Below w.heap.size w U9P2 := by rw [hU9P2]; exact (E.setCell (by first | (simp; done) | (simp; omega)) _).setCell (by first | (simp; done) | (simp; omega)) _
  replace H : DRd U9P2 (B) A k c xs := by rw [hU9P2]; first | exact H.setFar2 (by omega) _ _ | exact H.setBD P2 (by simp) (by simp) _ _
  replace K : DRd U9P2 (B) D l d ys := by rw [hU9P2]; first | exact K.setFar2 (by omega) _ _ | exact K.setBD P2 (by simp) (by simp) _ _
  replace PA : Bk2 U9P2 (w.heap.size) (.bool true) (.slice A k c) := by rw [hU9P2]; exact PA.far2 (by omega) _ _
  replace PB : Bk2 U9P2 (w.heap.size + 1) (.bool true) (.slice D l d) := by rw [hU9P2]; exact PB.far2 (by omega) _ _
  replace P1 : Bk2 U9P2 (w.heap.size + 2) (.bool false) (.slice A1 k1 c1) := by rw [hU9P2]; exact P1.far2 (by omega) _ _
  replace hd1 : DRd U9P2 (w1.heap.size) A1 k1 c1 x1 := by rw [hU9P2]; first | exact hd1.setFar2 (by omega) _ _ | exact hd1.setBD P2 (by simp) (by simp) _ _
  replace hd2 : DRd U9P2 (w1.heap.size) A2 k2 c2 x2 := by rw [hU9P2]; first | exact hd2.setFar2 (by omega) _ _ | exact hd2.setBD P2 (by simp) (by simp) _ _
  replace P2 : Bk2 U9P2 (w.heap.size + 3) (.bool true) (.slice A2 k2 c2) := by rw [hU9P2]; exact P2.set _ _
  rw [← hU9P2]
  clear hU9P2
  have zU9P2' := Nat.le_of_eq zU9P2
  replace zU9P2 := Nat.le_of_eq zU9P2.symm
  have f0 := (P1.drew).c0
  have f1 := (P1.drew).c1
  have r0 := (P2.drew).c0
  have r1 := (P2.drew).c1
  refine bodyPost_ret (v := .tuple #[intv false A1 k1 c1, intv true A2 k2 c2]) (by simp [results, Tryz.results83, go_sem, f0, f1, r0, r1]) rfl ⟨_, _, _, _, _, _, _, _, _, _, _, _, _, _, rfl, ((hd1.keep (w' := World.drew U9P2) (fun _ _ => rfl)).more (by show w1.heap.size ≤ U9P2.heap.size; omega)), R1.out, rfl, ((hd2.keep (w' := World.drew U9P2) (fun _ _ => rfl)).more (by show w1.heap.size ≤ U9P2.heap.size; omega)), R2.out, rfl, floor_same hv, Below.drew E⟩
set_option maxHeartbeats 4000000 in
theorem floor_zf (w : World) (B : Nat) (A D : Option Addr) (k l c d p v : Nat) (xs ys : List Nat) (H : DRd w B A k c xs) (K : DRd w B D l d ys) (hB : B ≤ w.heap.size) (hx : Hid (Rep 65536 xs p)) (hy : Hid (Rep 65536 ys v)) (hv : 0 < v) (hk : k ≤ 100000) (hl : l ≤ 100000) (h0 : p % v = 0) :
    Calls Tryz.prog 83 #[intv false A k c, intv true D l d] w (FlPost (sval false p) (sval true v) w) := by
  have E : Below w.heap.size w w := Below.refl _ _
  go_enter Tryz.func83, Tryz.ntmps83
  go_wp2_with fail
  obtain ⟨V0, hV0⟩ : ∃ V0 : World, V0 = ((((w.alloc (.cells #[.bool false, .slice A k c] 40)).alloc (.cells #[.bool true, .slice D l d] 40)).alloc (.cells #[.bool false, .slice none 0 0] 40)).alloc (.cells #[.bool false, .slice none 0 0] 40)) := ⟨_, rfl⟩
  have bV0 : Below w.heap.size w V0 := by rw [hV0]; (repeat (first | with_reducible exact Below.refl _ _ | with_reducible refine Below.alloc ?_ (by first | (simp <;> omega) | omega) _))
  have zV0 : w.heap.size + 4 ≤ V0.heap.size := by rw [hV0]; simp
  have PA : Bk2 V0 (w.heap.size) (.bool false) (.slice A k c) := by rw [hV0]; exact ((((Bk2.newAt _ _ (by simp) _ _ _).alloc _).alloc _).alloc _)
  have PB : Bk2 V0 (w.heap.size + 1) (.bool true) (.slice D l d) := by rw [hV0]; exact (((Bk2.newAt _ _ (by simp) _ _ _).alloc _).alloc _)
  have P1 : Bk2 V0 (w.heap.size + 2) (.bool false) (.slice none 0 0) := by rw [hV0]; exact ((Bk2.newAt _ _ (by simp) _ _ _).alloc _)
  have P2 : Bk2 V0 (w.heap.size + 3) (.bool false) (.slice none 0 0) := by rw [hV0]; exact (Bk2.newAt _ _ (by simp) _ _ _)
  rw [← hV0]
  clear hV0
  replace E := E.trans (bV0.mono E.size)
  replace H := H.below bV0 (by omega)
  replace K := K.below bV0 (by omega)
  clear bV0
  (with_reducible refine (divideD_any _ B A D k l c d p v xs ys H K (by omega) hx.out hy.out hv hk hl).mono ?_)
  rintro e w1 ⟨A1, k1, c1, x1, A2, k2, c2, x2, rfl, hd1, hr1, hd2, hr2, hb1⟩
  have sw1 := hb1.size
  replace E := E.trans (hb1.mono E.size)
  replace H := H.below hb1 (by omega)
  replace K := K.below hb1 (by omega)
  replace PA := PA.below hb1 PA.lt
  replace PB := PB.below hb1 PB.lt
  replace P1 := P1.below hb1 P1.lt
  replace P2 := P2.below hb1 P2.lt
  clear hb1
  have R1 := Lib.hid hr1
  have R2 := Lib.hid hr2
  clear hr1 hr2
  have kc1 := hd1.cap
  have kc2 := hd2.cap
  have hz : p % v = 0 := h0
  have hk2 : k2 = 0 := (rep_iff R2.out hd2.len.out).2 hz
  subst hk2
  have PA0 := PA.c0
  have PA1 := PA.c1
  have PAl := PA.lt
  have PB0 := PB.c0
  have PB1 := PB.c1
  have PBl := PB.lt
  have P10 := P1.c0
  have P11 := P1.c1
  have P1l := P1.lt
  have P1z0 := P1.z0
  have P1z1 := P1.z1
  have P20 := P2.c0
  have P21 := P2.c1
  have P2l := P2.lt
  have P2z0 := P2.z0
  have P2z1 := P2.z1
  go_upto_region 4 with fail
  go_region
  all_goals (go_wp2_with fail)
  clear PA0 PA1 PAl PB0 PB1 PBl P10 P11 P1l P1z0 P1z1 P20 P21 P2l P2z0 P2z1
  obtain ⟨U9P1, hU9P1⟩ : ∃ U9P1 : World, U9P1 = ((w1.setCell ⟨w.heap.size + 2, 0, none⟩ (.bool true)).setCell ⟨w.heap.size + 2, 1, none⟩ (.slice A1 k1 c1)) := ⟨_, rfl⟩
  have zU9P1 : U9P1.heap.size = w1.heap.size := by rw [hU9P1]; simp [World.setCell]
  replace E : Below w.heap.size w U9P1 := by rw [hU9P1]; exact (E.setCell (by first | (simp; done) | (simp; omega)) _).setCell (by first | (simp; done) | (simp; omega)) _
  replace H : DRd U9P1 (B) A k c xs := by rw [hU9P1]; first | exact H.setFar2 (by omega) _ _ | exact H.setBD P1 (by simp) (by simp) _ _
  replace K : DRd U9P1 (B) D l d ys := by rw [hU9P1]; first | exact K.setFar2 (by omega) _ _ | exact K.setBD P1 (by simp) (by simp) _ _
  replace PA : Bk2 U9P1 (w.heap.size) (.bool false) (.slice A k c) := by rw [hU9P1]; exact PA.far2 (by omega) _ _
  replace PB : Bk2 U9P1 (w.heap.size + 1) (.bool true) (.slice D l d) := by rw [hU9P1]; exact PB.far2 (by omega) _ _
  replace P2 : Bk2 U9P1 (w.heap.size + 3) (.bool false) (.slice none 0 0) := by rw [hU9P1]; exact P2.far2 (by omega) _ _
  replace hd1 : DRd U9P1 (w1.heap.size) A1 k1 c1 x1 := by rw [hU9P1]; first | exact hd1.setFar2 (by omega) _ _ | exact hd1.setBD P1 (by simp) (by simp) _ _
  replace hd2 : DRd U9P1 (w1.heap.size) A2 0 c2 x2 := by rw [hU9P1]; first | exact hd2.setFar2 (by omega) _ _ | exact hd2.setBD P1 (by simp) (by simp) _ _
  replace P1 : Bk2 U9P1 (w.heap.size + 2) (.bool true) (.slice A1 k1 c1) := by rw [hU9P1]; exact P1.set _ _
  rw [← hU9P1]
  clear hU9P1
  have zU9P1' := Nat.le_of_eq zU9P1
  replace zU9P1 := Nat.le_of_eq zU9P1.symm
  obtain ⟨U9P2, hU9P2⟩ : ∃ U9P2 : World, U9P2 = ((U9P1.setCell ⟨w.heap.size + 3, 0, none⟩ (.bool true)).setCell ⟨w.heap.size + 3, 1, none⟩ (.slice A2 0 c2)) := ⟨_, rfl⟩
  have zU9P2 : U9P2.heap.size = U9P1.heap.size := by rw [hU9P2]; simp [World.setCell]
  replace E : Below w.heap.size w U9P2 := by rw [hU9P2]; exact (E.setCell (by first | (simp; done) | (simp; omega)) _).setCell (by first | (simp; done) | (simp; omega)) _
  replace H : DRd U9P2 (B) A k c xs := by rw [hU9P2]; first | exact H.setFar2 (by omega) _ _ | exact H.setBD P2 (by simp) (by simp) _ _
  replace K : DRd U9P2 (B) D l d ys := by rw [hU9P2]; first | exact K.setFar2 (by omega) _ _ | exact K.setBD P2 (by simp) (by simp) _ _
  replace PA : Bk2 U9P2 (w.heap.size) (.bool false) (.slice A k c) := by rw [hU9P2]; exact PA.far2 (by omega) _ _
  replace PB : Bk2 U9P2 (w.heap.size + 1) (.bool true) (.slice D l d) := by rw [hU9P2]; exact PB.far2 (by omega) _ _
  replace P1 : Bk2 U9P2 (w.heap.size + 2) (.bool true) (.slice A1 k1 c1) := by rw [hU9P2]; exact P1.far2 (by omega) _ _
  replace hd1 : DRd U9P2 (w1.heap.size) A1 k1 c1 x1 := by rw [hU9P2]; first | exact hd1.setFar2 (by omega) _ _ | exact hd1.setBD P2 (by simp) (by simp) _ _
  replace hd2 : DRd U9P2 (w1.heap.size) A2 0 c2 x2 := by rw [hU9P2]; first | exact hd2.setFar2 (by omega) _ _ | exact hd2.setBD P2 (by simp) (by simp) _ _
  replace P2 : Bk2 U9P2 (w.heap.size + 3) (.bool true) (.slice A2 0 c2) := by rw [hU9P2]; exact P2.set _ _
  rw [← hU9P2]
  clear hU9P2
  have zU9P2' := Nat.le_of_eq zU9P2
  replace zU9P2 := Nat.le_of_eq zU9P2.symm
  have f0 := (P1.drew).c0
  have f1 := (P1.drew).c1
  have r0 := (P2.drew).c0
  have r1 := (P2.drew).c1
  refine bodyPost_ret (v := .tuple #[intv true A1 k1 c1, intv true A2 0 c2]) (by simp [results, Tryz.results83, go_sem, f0, f1, r0, r1]) rfl ⟨_, _, _, _, _, _, _, _, _, _, _, _, _, _, rfl, ((hd1.keep (w' := World.drew U9P2) (fun _ _ => rfl)).more (by show w1.heap.size ≤ U9P2.heap.size; omega)), R1.out, rfl, ((hd2.keep (w' := World.drew U9P2) (fun _ _ => rfl)).more (by show w1.heap.size ≤ U9P2.heap.size; omega)), R2.out, rfl, (by have := floor_zero (m := false) (n := true) hv hz (by decide); rw [hz]; exact this), Below.drew E⟩
set_option maxHeartbeats 4000000 in
theorem floor_zt (w : World) (B : Nat) (A D : Option Addr) (k l c d p v : Nat) (xs ys : List Nat) (H : DRd w B A k c xs) (K : DRd w B D l d ys) (hB : B ≤ w.heap.size) (hx : Hid (Rep 65536 xs p)) (hy : Hid (Rep 65536 ys v)) (hv : 0 < v) (hk : k ≤ 100000) (hl : l ≤ 100000) (h0 : p % v = 0) :
    Calls Tryz.prog 83 #[intv true A k c, intv false D l d] w (FlPost (sval true p) (sval false v) w) := by
  have E : Below w.heap.size w w := Below.refl _ _
  go_enter Tryz.func83, Tryz.ntmps83
  go_wp2_with fail
  obtain ⟨V0, hV0⟩ : ∃ V0 : World, V0 = ((((w.alloc (.cells #[.bool true, .slice A k c] 40)).alloc (.cells #[.bool false, .slice D l d] 40)).alloc (.cells #[.bool false, .slice none 0 0] 40)).alloc (.cells #[.bool false, .slice none 0 0] 40)) := ⟨_, rfl⟩
  have bV0 : Below w.heap.size w V0 := by rw [hV0]; (repeat (first | with_reducible exact Below.refl _ _ | with_reducible refine Below.alloc ?_ (by first | (simp <;> omega) | omega) _))
  have zV0 : w.heap.size + 4 ≤ V0.heap.size := by rw [hV0]; simp
  have PA : Bk2 V0 (w.heap.size) (.bool true) (.slice A k c) := by rw [hV0]; exact ((((Bk2.newAt _ _ (by simp) _ _ _).alloc _).alloc _).alloc _)
  have PB : Bk2 V0 (w.heap.size + 1) (.bool false) (.slice D l d) := by rw [hV0]; exact (((Bk2.newAt _ _ (by simp) _ _ _).alloc _).alloc _)
  have P1 : Bk2 V0 (w.heap.size + 2) (.bool false) (.slice none 0 0) := by rw [hV0]; exact ((Bk2.newAt _ _ (by simp) _ _ _).alloc _)
  have P2 : Bk2 V0 (w.heap.size + 3) (.bool false) (.slice none 0 0) := by rw [hV0]; exact (Bk2.newAt _ _ (by simp) _ _ _)
  rw [← hV0]
  clear hV0
  replace E := E.trans (bV0.mono E.size)
  replace H := H.below bV0 (by omega)
  replace K := K.below bV0 (by omega)
  clear bV0
  (with_reducible refine (divideD_any _ B A D k l c d p v xs ys H K (by omega) hx.out hy.out hv hk hl).mono ?_)
  rintro e w1 ⟨A1, k1, c1, x1, A2, k2, c2, x2, rfl, hd1, hr1, hd2, hr2, hb1⟩
  have sw1 := hb1.size
  replace E := E.trans (hb1.mono E.size)
  replace H := H.below hb1 (by omega)
  replace K := K.below hb1 (by omega)
  replace PA := PA.below hb1 PA.lt
  replace PB := PB.below hb1 PB.lt
  replace P1 := P1.below hb1 P1.lt
  replace P2 := P2.below hb1 P2.lt
  clear hb1
  have R1 := Lib.hid hr1
  have R2 := Lib.hid hr2
  clear hr1 hr2
  have kc1 := hd1.cap
  have kc2 := hd2.cap
  have hz : p % v = 0 := h0
  have hk2 : k2 = 0 := (rep_iff R2.out hd2.len.out).2 hz
  subst hk2
  have PA0 := PA.c0
  have PA1 := PA.c1
  have PAl := PA.lt
  have PB0 := PB.c0
  have PB1 := PB.c1
  have PBl := PB.lt
  have P10 := P1.c0
  have P11 := P1.c1
  have P1l := P1.lt
  have P1z0 := P1.z0
  have P1z1 := P1.z1
  have P20 := P2.c0
  have P21 := P2.c1
  have P2l := P2.lt
  have P2z0 := P2.z0
  have P2z1 := P2.z1
  go_upto_region 4 with fail
  go_region
  all_goals (go_wp2_with fail)
  clear PA0 PA1 PAl PB0 PB1 PBl P10 P11 P1l P1z0 P1z1 P20 P21 P2l P2z0 P2z1
  obtain ⟨U9P1, hU9P1⟩ : ∃ U9P1 : World, U9P1 = ((w1.setCell ⟨w.heap.size + 2, 0, none⟩ (.bool true)).setCell ⟨w.heap.size + 2, 1, none⟩ (.slice A1 k1 c1)) := ⟨_, rfl⟩
  have zU9P1 : U9P1.heap.size = w1.heap.size := by rw [hU9P1]; simp [World.setCell]
  replace E : Below w.heap.size w U9P1 := by rw [hU9P1]; exact (E.setCell (by first | (simp; done) | (simp; omega)) _).setCell (by first | (simp; done) | (simp; omega)) _
  replace H : DRd U9P1 (B) A k c xs := by rw [hU9P1]; first | exact H.setFar2 (by omega) _ _ | exact H.setBD P1 (by simp) (by simp) _ _
  replace K : DRd U9P1 (B) D l d ys := by rw [hU9P1]; first | exact K.setFar2 (by omega) _ _ | exact K.setBD P1 (by simp) (by simp) _ _
  replace PA : Bk2 U9P1 (w.heap.size) (.bool true) (.slice A k c) := by rw [hU9P1]; exact PA.far2 (by omega) _ _
  replace PB : Bk2 U9P1 (w.heap.size + 1) (.bool false) (.slice D l d) := by rw [hU9P1]; exact PB.far2 (by omega) _ _
  replace P2 : Bk2 U9P1 (w.heap.size + 3) (.bool false) (.slice none 0 0) := by rw [hU9P1]; exact P2.far2 (by omega) _ _
  replace hd1 : DRd U9P1 (w1.heap.size) A1 k1 c1 x1 := by rw [hU9P1]; first | exact hd1.setFar2 (by omega) _ _ | exact hd1.setBD P1 (by simp) (by simp) _ _
  replace hd2 : DRd U9P1 (w1.heap.size) A2 0 c2 x2 := by rw [hU9P1]; first | exact hd2.setFar2 (by omega) _ _ | exact hd2.setBD P1 (by simp) (by simp) _ _
  replace P1 : Bk2 U9P1 (w.heap.size + 2) (.bool true) (.slice A1 k1 c1) := by rw [hU9P1]; exact P1.set _ _
  rw [← hU9P1]
  clear hU9P1
  have zU9P1' := Nat.le_of_eq zU9P1
  replace zU9P1 := Nat.le_of_eq zU9P1.symm
  obtain ⟨U9P2, hU9P2⟩ : ∃ U9P2 : World, U9P2 = ((U9P1.setCell ⟨w.heap.size + 3, 0, none⟩ (.bool false)).setCell ⟨w.heap.size + 3, 1, none⟩ (.slice A2 0 c2)) := ⟨_, rfl⟩
  have zU9P2 : U9P2.heap.size = U9P1.heap.size := by rw [hU9P2]; simp [World.setCell]
  replace E : Below w.heap.size w U9P2 := by rw [hU9P2]; exact (E.setCell (by first | (simp; done) | (simp; omega)) _).setCell (by first | (simp; done) | (simp; omega)) _
  replace H : DRd U9P2 (B) A k c xs := by rw [hU9P2]; first | exact H.setFar2 (by omega) _ _ | exact H.setBD P2 (by simp) (by simp) _ _
  replace K : DRd U9P2 (B) D l d ys := by rw [hU9P2]; first | exact K.setFar2 (by omega) _ _ | exact K.setBD P2 (by simp) (by simp) _ _
  replace PA : Bk2 U9P2 (w.heap.size) (.bool true) (.slice A k c) := by rw [hU9P2]; exact PA.far2 (by omega) _ _
  replace PB : Bk2 U9P2 (w.heap.size + 1) (.bool false) (.slice D l d) := by rw [hU9P2]; exact PB.far2 (by omega) _ _
  replace P1 : Bk2 U9P2 (w.heap.size + 2) (.bool true) (.slice A1 k1 c1) := by rw [hU9P2]; exact P1.far2 (by omega) _ _
  replace hd1 : DRd U9P2 (w1.heap.size) A1 k1 c1 x1 := by rw [hU9P2]; first | exact hd1.setFar2 (by omega) _ _ | exact hd1.setBD P2 (by simp) (by simp) _ _
  replace hd2 : DRd U9P2 (w1.heap.size) A2 0 c2 x2 := by rw [hU9P2]; first | exact hd2.setFar2 (by omega) _ _ | exact hd2.setBD P2 (by simp) (by simp) _ _
  replace P2 : Bk2 U9P2 (w.heap.size + 3) (.bool false) (.slice A2 0 c2) := by rw [hU9P2]; exact P2.set _ _
  rw [← hU9P2]
  clear hU9P2
  have zU9P2' := Nat.le_of_eq zU9P2
  replace zU9P2 := Nat.le_of_eq zU9P2.symm
  have f0 := (P1.drew).c0
  have f1 := (P1.drew).c1
  have r0 := (P2.drew).c0
  have r1 := (P2.drew).c1
  refine bodyPost_ret (v := .tuple #[intv true A1 k1 c1, intv false A2 0 c2]) (by simp [results, Tryz.results83, go_sem, f0, f1, r0, r1]) rfl ⟨_, _, _, _, _, _, _, _, _, _, _, _, _, _, rfl, ((hd1.keep (w' := World.drew U9P2) (fun _ _ => rfl)).more (by show w1.heap.size ≤ U9P2.heap.size; omega)), R1.out, rfl, ((hd2.keep (w' := World.drew U9P2) (fun _ _ => rfl)).more (by show w1.heap.size ≤ U9P2.heap.size; omega)), R2.out, rfl, (by have := floor_zero (m := true) (n := false) hv hz (by decide); rw [hz]; exact this), Below.drew E⟩
theorem mx (a b c : Nat) (ha : a ≤ c) (hb : b ≤ c) : ∃ M, a ≤ M ∧ b ≤ M ∧ M ≤ c ∧ (M = a ∨ M = b) := by rcases Nat.le_total a b with h | h; exact ⟨b, h, Nat.le_refl _, hb, .inr rfl⟩; exact ⟨a, Nat.le_refl _, h, ha, .inl rfl⟩
theorem small_one (w : World) : Calls Tryz.prog 40 #[.int .i64 1] w (GivesN w 1) := by
  have := small_any w 1 (by decide)
  exact this
set_option maxHeartbeats 4000000 in
theorem floor_uf (w : World) (B : Nat) (A D : Option Addr) (k l c d p v : Nat) (xs ys : List Nat) (H : DRd w B A k c xs) (K : DRd w B D l d ys) (hB : B ≤ w.heap.size) (hx : Hid (Rep 65536 xs p)) (hy : Hid (Rep 65536 ys v)) (hv : 0 < v) (hk : k ≤ 100000) (hl : l ≤ 100000) (h0 : 0 < p % v) :
    Calls Tryz.prog 83 #[intv false A k c, intv true D l d] w (FlPost (sval false p) (sval true v) w) := by
  have E : Below w.heap.size w w := Below.refl _ _
  go_enter Tryz.func83, Tryz.ntmps83
  go_wp2_with fail
  obtain ⟨V0, hV0⟩ : ∃ V0 : World, V0 = ((((w.alloc (.cells #[.bool false, .slice A k c] 40)).alloc (.cells #[.bool true, .slice D l d] 40)).alloc (.cells #[.bool false, .slice none 0 0] 40)).alloc (.cells #[.bool false, .slice none 0 0] 40)) := ⟨_, rfl⟩
  have bV0 : Below w.heap.size w V0 := by rw [hV0]; (repeat (first | with_reducible exact Below.refl _ _ | with_reducible refine Below.alloc ?_ (by first | (simp <;> omega) | omega) _))
  have zV0 : w.heap.size + 4 ≤ V0.heap.size := by rw [hV0]; simp
  have PA : Bk2 V0 (w.heap.size) (.bool false) (.slice A k c) := by rw [hV0]; exact ((((Bk2.newAt _ _ (by simp) _ _ _).alloc _).alloc _).alloc _)
  have PB : Bk2 V0 (w.heap.size + 1) (.bool true) (.slice D l d) := by rw [hV0]; exact (((Bk2.newAt _ _ (by simp) _ _ _).alloc _).alloc _)
  have P1 : Bk2 V0 (w.heap.size + 2) (.bool false) (.slice none 0 0) := by rw [hV0]; exact ((Bk2.newAt _ _ (by simp) _ _ _).alloc _)
  have P2 : Bk2 V0 (w.heap.size + 3) (.bool false) (.slice none 0 0) := by rw [hV0]; exact (Bk2.newAt _ _ (by simp) _ _ _)
  rw [← hV0]
  clear hV0
  replace E := E.trans (bV0.mono E.size)
  replace H := H.below bV0 (by omega)
  replace K := K.below bV0 (by omega)
  clear bV0
  (with_reducible refine (divideD_any _ B A D k l c d p v xs ys H K (by omega) hx.out hy.out hv hk hl).mono ?_)
  rintro e w1 ⟨A1, k1, c1, x1, A2, k2, c2, x2, rfl, hd1, hr1, hd2, hr2, hb1⟩
  have sw1 := hb1.size
  replace E := E.trans (hb1.mono E.size)
  replace H := H.below hb1 (by omega)
  replace K := K.below hb1 (by omega)
  replace PA := PA.below hb1 PA.lt
  replace PB := PB.below hb1 PB.lt
  replace P1 := P1.below hb1 P1.lt
  replace P2 := P2.below hb1 P2.lt
  clear hb1
  have R1 := Lib.hid hr1
  have R2 := Lib.hid hr2
  clear hr1 hr2
  have kc1 := hd1.cap
  have kc2 := hd2.cap
  have hz : 0 < p % v := h0
  have hk2 : 0 < k2 := by rcases rep_zero_len R2.out hd2.len.out with ⟨_, e⟩ | ⟨e, _⟩ <;> omega
  have hk1 : k1 ≤ 100000 := by have := rep_len_le hx.out R1.out H.len.out hd1.len.out (Nat.div_le_self _ _); omega
  have hk2l : k2 ≤ l := rep_len_le hy.out R2.out K.len.out hd2.len.out (Nat.le_of_lt (Nat.mod_lt _ hv))
  have hvr : vb 65536 x2 ≤ vb 65536 ys := by rw [R2.out.val, hy.out.val]; exact Nat.le_of_lt (Nat.mod_lt _ hv)
  have cA := PA.c0
  have cB := PB.c0
  have cC := PB.c1
  have hk2' : (0 : Int) < (k2 : Int) := by omega
  go_upto_region 3 with fail
  clear cA cB cC
  have G0 : Below w1.heap.size w1 w1.drew := Below.drew (Below.refl _ _)
  have HS := Lib.hid (fun (u : World) (hu : Below w1.heap.size w1 u) => (⟨hu, (PB.below hu PB.lt).c0, (PB.below hu PB.lt).c1⟩ : Below w1.heap.size w1 u ∧ u.cell? ⟨w.heap.size + 1, 0, none⟩ = some (.bool true) ∧ u.cell? ⟨w.heap.size + 1, 1, none⟩ = some (.slice D l d)))
  go_region_held3 (fun u => Below w1.heap.size w1 u ∧ u.cell? ⟨w.heap.size + 1, 0, none⟩ = some (.bool true) ∧ u.cell? ⟨w.heap.size + 1, 1, none⟩ = some (.slice D l d)) (first | with_reducible exact HS.out _ G0 | with_reducible exact HS.out _ B3 | with_reducible exact HS.out _ B2 | with_reducible exact HS.out _ B1 | fail)
    (first
      | (go_at_call 40; (with_reducible refine (small_one _).mono ?_); rintro e y1 ⟨As, ks, cs, xs1, rfl, hds, hrs, hb1⟩; have B1 : Below w1.heap.size w1 y1 := bnext G0 hb1; have hks := len16 hrs hds.len.out (by decide); have RS := Lib.hid hrs; clear hrs; obtain ⟨M, hM1, hM2, hM3, hM4⟩ := mx k1 ks 100000 hk1 hks)
      | (go_at_call 85; (with_reducible refine (plus_any _ _ A1 As k1 ks c1 cs M x1 xs1 ((hd1.below B1 (Nat.le_refl _)).more B1.size) hds (Nat.le_refl _) hM1 hM2 (by omega) hM4).mono ?_); rintro e y2 ⟨Aq, kq, cq, xq, rfl, hdq, hrq, hb2⟩; have B2 : Below w1.heap.size w1 y2 := bnext B1 hb2; rw [R1.out.val, RS.out.val] at hrq; have RQ := Lib.hid hrq; clear hrq)
      | (go_at_call 86; (with_reducible refine (minus_any _ _ D A2 l k2 d c2 ys x2 ((K.below B2 (by omega)).more (by have := B2.size; omega)) ((hd2.below B2 (Nat.le_refl _)).more B2.size) (Nat.le_refl _) hk2l (by omega) hvr).mono ?_); rintro e y3 ⟨Ar, kr, cr, xr, rfl, hdr, hrr, hb3⟩; have B3 : Below w1.heap.size w1 y3 := bnext B2 hb3; rw [hy.out.val, R2.out.val] at hrr; have RR := Lib.hid hrr; clear hrr)
      | fail)
  clear HS G0
  have s3 := B3.size
  replace hdq := hdq.below hb3 (Nat.le_refl _)
  replace E := E.trans (B3.mono E.size)
  replace H := H.below B3 (by omega)
  replace K := K.below B3 (by omega)
  replace PA := PA.below B3 PA.lt
  replace PB := PB.below B3 PB.lt
  replace P1 := P1.below B3 P1.lt
  replace P2 := P2.below B3 P2.lt
  have sy := hb3.size
  have sB2 := B2.size
  clear B1 B2 B3 hb2 hb3 hd1 hd2 hds
  have PA0 := PA.c0
  have PA1 := PA.c1
  have PAl := PA.lt
  have PB0 := PB.c0
  have PB1 := PB.c1
  have PBl := PB.lt
  have P10 := P1.c0
  have P11 := P1.c1
  have P1l := P1.lt
  have P1z0 := P1.z0
  have P1z1 := P1.z1
  have P20 := P2.c0
  have P21 := P2.c1
  have P2l := P2.lt
  have P2z0 := P2.z0
  have P2z1 := P2.z1
  go_upto_region 4 with fail
  go_region
  all_goals (go_wp2_with fail)
  clear PA0 PA1 PAl PB0 PB1 PBl P10 P11 P1l P1z0 P1z1 P20 P21 P2l P2z0 P2z1
  obtain ⟨U9P1, hU9P1⟩ : ∃ U9P1 : World, U9P1 = ((y3.setCell ⟨w.heap.size + 2, 0, none⟩ (.bool true)).setCell ⟨w.heap.size + 2, 1, none⟩ (.slice Aq kq cq)) := ⟨_, rfl⟩
  have zU9P1 : U9P1.heap.size = y3.heap.size := by rw [hU9P1]; simp [World.setCell]
  replace E : Below w.heap.size w U9P1 := by rw [hU9P1]; exact (E.setCell (by first | (simp; done) | (simp; omega)) _).setCell (by first | (simp; done) | (simp; omega)) _
  replace H : DRd U9P1 (B) A k c xs := by rw [hU9P1]; first | exact H.setFar2 (by omega) _ _ | exact H.setBD P1 (by simp) (by simp) _ _
  replace K : DRd U9P1 (B) D l d ys := by rw [hU9P1]; first | exact K.setFar2 (by omega) _ _ | exact K.setBD P1 (by simp) (by simp) _ _
  replace PA : Bk2 U9P1 (w.heap.size) (.bool false) (.slice A k c) := by rw [hU9P1]; exact PA.far2 (by omega) _ _
  replace PB : Bk2 U9P1 (w.heap.size + 1) (.bool true) (.slice D l d) := by rw [hU9P1]; exact PB.far2 (by omega) _ _
  replace P2 : Bk2 U9P1 (w.heap.size + 3) (.bool false) (.slice none 0 0) := by rw [hU9P1]; exact P2.far2 (by omega) _ _
  replace hdq : DRd U9P1 (y2.heap.size) Aq kq cq xq := by rw [hU9P1]; first | exact hdq.setFar2 (by omega) _ _ | exact hdq.setBD P1 (by simp) (by simp) _ _
  replace hdr : DRd U9P1 (y3.heap.size) Ar kr cr xr := by rw [hU9P1]; first | exact hdr.setFar2 (by omega) _ _ | exact hdr.setBD P1 (by simp) (by simp) _ _
  replace P1 : Bk2 U9P1 (w.heap.size + 2) (.bool true) (.slice Aq kq cq) := by rw [hU9P1]; exact P1.set _ _
  rw [← hU9P1]
  clear hU9P1
  have zU9P1' := Nat.le_of_eq zU9P1
  replace zU9P1 := Nat.le_of_eq zU9P1.symm
  obtain ⟨U9P2, hU9P2⟩ : ∃ U9P2 : World, U9P2 = ((U9P1.setCell ⟨w.heap.size + 3, 0, none⟩ (.bool true)).setCell ⟨w.heap.size + 3, 1, none⟩ (.slice Ar kr cr)) := ⟨_, rfl⟩
  have zU9P2 : U9P2.heap.size = U9P1.heap.size := by rw [hU9P2]; simp [World.setCell]
  replace E : Below w.heap.size w U9P2 := by rw [hU9P2]; exact (E.setCell (by first | (simp; done) | (simp; omega)) _).setCell (by first | (simp; done) | (simp; omega)) _
  replace H : DRd U9P2 (B) A k c xs := by rw [hU9P2]; first | exact H.setFar2 (by omega) _ _ | exact H.setBD P2 (by simp) (by simp) _ _
  replace K : DRd U9P2 (B) D l d ys := by rw [hU9P2]; first | exact K.setFar2 (by omega) _ _ | exact K.setBD P2 (by simp) (by simp) _ _
  replace PA : Bk2 U9P2 (w.heap.size) (.bool false) (.slice A k c) := by rw [hU9P2]; exact PA.far2 (by omega) _ _
  replace PB : Bk2 U9P2 (w.heap.size + 1) (.bool true) (.slice D l d) := by rw [hU9P2]; exact PB.far2 (by omega) _ _
  replace P1 : Bk2 U9P2 (w.heap.size + 2) (.bool true) (.slice Aq kq cq) := by rw [hU9P2]; exact P1.far2 (by omega) _ _
  replace hdq : DRd U9P2 (y2.heap.size) Aq kq cq xq := by rw [hU9P2]; first | exact hdq.setFar2 (by omega) _ _ | exact hdq.setBD P2 (by simp) (by simp) _ _
  replace hdr : DRd U9P2 (y3.heap.size) Ar kr cr xr := by rw [hU9P2]; first | exact hdr.setFar2 (by omega) _ _ | exact hdr.setBD P2 (by simp) (by simp) _ _
  replace P2 : Bk2 U9P2 (w.heap.size + 3) (.bool true) (.slice Ar kr cr) := by rw [hU9P2]; exact P2.set _ _
  rw [← hU9P2]
  clear hU9P2
  have zU9P2' := Nat.le_of_eq zU9P2
  replace zU9P2 := Nat.le_of_eq zU9P2.symm
  have f0 := (P1.drew).c0
  have f1 := (P1.drew).c1
  have r0 := (P2.drew).c0
  have r1 := (P2.drew).c1
  refine bodyPost_ret (v := .tuple #[intv true Aq kq cq, intv true Ar kr cr]) (by simp [results, Tryz.results83, go_sem, f0, f1, r0, r1]) rfl ⟨_, _, _, _, _, _, _, _, _, _, _, _, _, _, rfl, ((hdq.keep (w' := World.drew U9P2) (fun _ _ => rfl)).more (by show y2.heap.size ≤ U9P2.heap.size; omega)), RQ.out, rfl, ((hdr.keep (w' := World.drew U9P2) (fun _ _ => rfl)).more (by show y3.heap.size ≤ U9P2.heap.size; omega)), RR.out, rfl, floor_up hv hz (by decide), Below.drew E⟩
set_option maxHeartbeats 4000000 in
theorem floor_ut (w : World) (B : Nat) (A D : Option Addr) (k l c d p v : Nat) (xs ys : List Nat) (H : DRd w B A k c xs) (K : DRd w B D l d ys) (hB : B ≤ w.heap.size) (hx : Hid (Rep 65536 xs p)) (hy : Hid (Rep 65536 ys v)) (hv : 0 < v) (hk : k ≤ 100000) (hl : l ≤ 100000) (h0 : 0 < p % v) :
    Calls Tryz.prog 83 #[intv true A k c, intv false D l d] w (FlPost (sval true p) (sval false v) w) := by
  have E : Below w.heap.size w w := Below.refl _ _
  go_enter Tryz.func83, Tryz.ntmps83
  go_wp2_with fail
  obtain ⟨V0, hV0⟩ : ∃ V0 : World, V0 = ((((w.alloc (.cells #[.bool true, .slice A k c] 40)).alloc (.cells #[.bool false, .slice D l d] 40)).alloc (.cells #[.bool false, .slice none 0 0] 40)).alloc (.cells #[.bool false, .slice none 0 0] 40)) := ⟨_, rfl⟩
  have bV0 : Below w.heap.size w V0 := by rw [hV0]; (repeat (first | with_reducible exact Below.refl _ _ | with_reducible refine Below.alloc ?_ (by first | (simp <;> omega) | omega) _))
  have zV0 : w.heap.size + 4 ≤ V0.heap.size := by rw [hV0]; simp
  have PA : Bk2 V0 (w.heap.size) (.bool true) (.slice A k c) := by rw [hV0]; exact ((((Bk2.newAt _ _ (by simp) _ _ _).alloc _).alloc _).alloc _)
  have PB : Bk2 V0 (w.heap.size + 1) (.bool false) (.slice D l d) := by rw [hV0]; exact (((Bk2.newAt _ _ (by simp) _ _ _).alloc _).alloc _)
  have P1 : Bk2 V0 (w.heap.size + 2) (.bool false) (.slice none 0 0) := by rw [hV0]; exact ((Bk2.newAt _ _ (by simp) _ _ _).alloc _)
  have P2 : Bk2 V0 (w.heap.size + 3) (.bool false) (.slice none 0 0) := by rw [hV0]; exact (Bk2.newAt _ _ (by simp) _ _ _)
  rw [← hV0]
  clear hV0
  replace E := E.trans (bV0.mono E.size)
  replace H := H.below bV0 (by omega)
  replace K := K.below bV0 (by omega)
  clear bV0
  (with_reducible refine (divideD_any _ B A D k l c d p v xs ys H K (by omega) hx.out hy.out hv hk hl).mono ?_)
  rintro e w1 ⟨A1, k1, c1, x1, A2, k2, c2, x2, rfl, hd1, hr1, hd2, hr2, hb1⟩
  have sw1 := hb1.size
  replace E := E.trans (hb1.mono E.size)
  replace H := H.below hb1 (by omega)
  replace K := K.below hb1 (by omega)
  replace PA := PA.below hb1 PA.lt
  replace PB := PB.below hb1 PB.lt
  replace P1 := P1.below hb1 P1.lt
  replace P2 := P2.below hb1 P2.lt
  clear hb1
  have R1 := Lib.hid hr1
  have R2 := Lib.hid hr2
  clear hr1 hr2
  have kc1 := hd1.cap
  have kc2 := hd2.cap
  have hz : 0 < p % v := h0
  have hk2 : 0 < k2 := by rcases rep_zero_len R2.out hd2.len.out with ⟨_, e⟩ | ⟨e, _⟩ <;> omega
  have hk1 : k1 ≤ 100000 := by have := rep_len_le hx.out R1.out H.len.out hd1.len.out (Nat.div_le_self _ _); omega
  have hk2l : k2 ≤ l := rep_len_le hy.out R2.out K.len.out hd2.len.out (Nat.le_of_lt (Nat.mod_lt _ hv))
  have hvr : vb 65536 x2 ≤ vb 65536 ys := by rw [R2.out.val, hy.out.val]; exact Nat.le_of_lt (Nat.mod_lt _ hv)
  have cA := PA.c0
  have cB := PB.c0
  have cC := PB.c1
  have hk2' : (0 : Int) < (k2 : Int) := by omega
  go_upto_region 3 with fail
  clear cA cB cC
  have G0 : Below w1.heap.size w1 w1.drew := Below.drew (Below.refl _ _)
  have HS := Lib.hid (fun (u : World) (hu : Below w1.heap.size w1 u) => (⟨hu, (PB.below hu PB.lt).c0, (PB.below hu PB.lt).c1⟩ : Below w1.heap.size w1 u ∧ u.cell? ⟨w.heap.size + 1, 0, none⟩ = some (.bool false) ∧ u.cell? ⟨w.heap.size + 1, 1, none⟩ = some (.slice D l d)))
  go_region_held3 (fun u => Below w1.heap.size w1 u ∧ u.cell? ⟨w.heap.size + 1, 0, none⟩ = some (.bool false) ∧ u.cell? ⟨w.heap.size + 1, 1, none⟩ = some (.slice D l d)) (first | with_reducible exact HS.out _ G0 | with_reducible exact HS.out _ B3 | with_reducible exact HS.out _ B2 | with_reducible exact HS.out _ B1 | fail)
    (first
      | (go_at_call 40; (with_reducible refine (small_one _).mono ?_); rintro e y1 ⟨As, ks, cs, xs1, rfl, hds, hrs, hb1⟩; have B1 : Below w1.heap.size w1 y1 := bnext G0 hb1; have hks := len16 hrs hds.len.out (by decide); have RS := Lib.hid hrs; clear hrs; obtain ⟨M, hM1, hM2, hM3, hM4⟩ := mx k1 ks 100000 hk1 hks)
      | (go_at_call 85; (with_reducible refine (plus_any _ _ A1 As k1 ks c1 cs M x1 xs1 ((hd1.below B1 (Nat.le_refl _)).more B1.size) hds (Nat.le_refl _) hM1 hM2 (by omega) hM4).mono ?_); rintro e y2 ⟨Aq, kq, cq, xq, rfl, hdq, hrq, hb2⟩; have B2 : Below w1.heap.size w1 y2 := bnext B1 hb2; rw [R1.out.val, RS.out.val] at hrq; have RQ := Lib.hid hrq; clear hrq)
      | (go_at_call 86; (with_reducible refine (minus_any _ _ D A2 l k2 d c2 ys x2 ((K.below B2 (by omega)).more (by have := B2.size; omega)) ((hd2.below B2 (Nat.le_refl _)).more B2.size) (Nat.le_refl _) hk2l (by omega) hvr).mono ?_); rintro e y3 ⟨Ar, kr, cr, xr, rfl, hdr, hrr, hb3⟩; have B3 : Below w1.heap.size w1 y3 := bnext B2 hb3; rw [hy.out.val, R2.out.val] at hrr; have RR := Lib.hid hrr; clear hrr)
      | fail)
  clear HS G0
  have s3 := B3.size
  replace hdq := hdq.below hb3 (Nat.le_refl _)
  replace E := E.trans (B3.mono E.size)
  replace H := H.below B3 (by omega)
  replace K := K.below B3 (by omega)
  replace PA := PA.below B3 PA.lt
  replace PB := PB.below B3 PB.lt
  replace P1 := P1.below B3 P1.lt
  replace P2 := P2.below B3 P2.lt
  have sy := hb3.size
  have sB2 := B2.size
  clear B1 B2 B3 hb2 hb3 hd1 hd2 hds
  have PA0 := PA.c0
  have PA1 := PA.c1
  have PAl := PA.lt
  have PB0 := PB.c0
  have PB1 := PB.c1
  have PBl := PB.lt
  have P10 := P1.c0
  have P11 := P1.c1
  have P1l := P1.lt
  have P1z0 := P1.z0
  have P1z1 := P1.z1
  have P20 := P2.c0
  have P21 := P2.c1
  have P2l := P2.lt
  have P2z0 := P2.z0
  have P2z1 := P2.z1
  go_upto_region 4 with fail
  go_region
  all_goals (go_wp2_with fail)
  clear PA0 PA1 PAl PB0 PB1 PBl P10 P11 P1l P1z0 P1z1 P20 P21 P2l P2z0 P2z1
  obtain ⟨U9P1, hU9P1⟩ : ∃ U9P1 : World, U9P1 = ((y3.setCell ⟨w.heap.size + 2, 0, none⟩ (.bool true)).setCell ⟨w.heap.size + 2, 1, none⟩ (.slice Aq kq cq)) := ⟨_, rfl⟩
  have zU9P1 : U9P1.heap.size = y3.heap.size := by rw [hU9P1]; simp [World.setCell]
  replace E : Below w.heap.size w U9P1 := by rw [hU9P1]; exact (E.setCell (by first | (simp; done) | (simp; omega)) _).setCell (by first | (simp; done) | (simp; omega)) _
  replace H : DRd U9P1 (B) A k c xs := by rw [hU9P1]; first | exact H.setFar2 (by omega) _ _ | exact H.setBD P1 (by simp) (by simp) _ _
  replace K : DRd U9P1 (B) D l d ys := by rw [hU9P1]; first | exact K.setFar2 (by omega) _ _ | exact K.setBD P1 (by simp) (by simp) _ _
  replace PA : Bk2 U9P1 (w.heap.size) (.bool true) (.slice A k c) := by rw [hU9P1]; exact PA.far2 (by omega) _ _
  replace PB : Bk2 U9P1 (w.heap.size + 1) (.bool false) (.slice D l d) := by rw [hU9P1]; exact PB.far2 (by omega) _ _
  replace P2 : Bk2 U9P1 (w.heap.size + 3) (.bool false) (.slice none 0 0) := by rw [hU9P1]; exact P2.far2 (by omega) _ _
  replace hdq : DRd U9P1 (y2.heap.size) Aq kq cq xq := by rw [hU9P1]; first | exact hdq.setFar2 (by omega) _ _ | exact hdq.setBD P1 (by simp) (by simp) _ _
  replace hdr : DRd U9P1 (y3.heap.size) Ar kr cr xr := by rw [hU9P1]; first | exact hdr.setFar2 (by omega) _ _ | exact hdr.setBD P1 (by simp) (by simp) _ _
  replace P1 : Bk2 U9P1 (w.heap.size + 2) (.bool true) (.slice Aq kq cq) := by rw [hU9P1]; exact P1.set _ _
  rw [← hU9P1]
  clear hU9P1
  have zU9P1' := Nat.le_of_eq zU9P1
  replace zU9P1 := Nat.le_of_eq zU9P1.symm
  obtain ⟨U9P2, hU9P2⟩ : ∃ U9P2 : World, U9P2 = ((U9P1.setCell ⟨w.heap.size + 3, 0, none⟩ (.bool false)).setCell ⟨w.heap.size + 3, 1, none⟩ (.slice Ar kr cr)) := ⟨_, rfl⟩
  have zU9P2 : U9P2.heap.size = U9P1.heap.size := by rw [hU9P2]; simp [World.setCell]
  replace E : Below w.heap.size w U9P2 := by rw [hU9P2]; exact (E.setCell (by first | (simp; done) | (simp; omega)) _).setCell (by first | (simp; done) | (simp; omega)) _
  replace H : DRd U9P2 (B) A k c xs := by rw [hU9P2]; first | exact H.setFar2 (by omega) _ _ | exact H.setBD P2 (by simp) (by simp) _ _
  replace K : DRd U9P2 (B) D l d ys := by rw [hU9P2]; first | exact K.setFar2 (by omega) _ _ | exact K.setBD P2 (by simp) (by simp) _ _
  replace PA : Bk2 U9P2 (w.heap.size) (.bool true) (.slice A k c) := by rw [hU9P2]; exact PA.far2 (by omega) _ _
  replace PB : Bk2 U9P2 (w.heap.size + 1) (.bool false) (.slice D l d) := by rw [hU9P2]; exact PB.far2 (by omega) _ _
  replace P1 : Bk2 U9P2 (w.heap.size + 2) (.bool true) (.slice Aq kq cq) := by rw [hU9P2]; exact P1.far2 (by omega) _ _
  replace hdq : DRd U9P2 (y2.heap.size) Aq kq cq xq := by rw [hU9P2]; first | exact hdq.setFar2 (by omega) _ _ | exact hdq.setBD P2 (by simp) (by simp) _ _
  replace hdr : DRd U9P2 (y3.heap.size) Ar kr cr xr := by rw [hU9P2]; first | exact hdr.setFar2 (by omega) _ _ | exact hdr.setBD P2 (by simp) (by simp) _ _
  replace P2 : Bk2 U9P2 (w.heap.size + 3) (.bool false) (.slice Ar kr cr) := by rw [hU9P2]; exact P2.set _ _
  rw [← hU9P2]
  clear hU9P2
  have zU9P2' := Nat.le_of_eq zU9P2
  replace zU9P2 := Nat.le_of_eq zU9P2.symm
  have f0 := (P1.drew).c0
  have f1 := (P1.drew).c1
  have r0 := (P2.drew).c0
  have r1 := (P2.drew).c1
  refine bodyPost_ret (v := .tuple #[intv true Aq kq cq, intv false Ar kr cr]) (by simp [results, Tryz.results83, go_sem, f0, f1, r0, r1]) rfl ⟨_, _, _, _, _, _, _, _, _, _, _, _, _, _, rfl, ((hdq.keep (w' := World.drew U9P2) (fun _ _ => rfl)).more (by show y2.heap.size ≤ U9P2.heap.size; omega)), RQ.out, rfl, ((hdr.keep (w' := World.drew U9P2) (fun _ _ => rfl)).more (by show y3.heap.size ≤ U9P2.heap.size; omega)), RR.out, rfl, floor_up hv hz (by decide), Below.drew E⟩
theorem floorD_any (w : World) (B : Nat) (m n : Bool) (A D : Option Addr) (k l c d p v : Nat) (xs ys : List Nat) (H : DRd w B A k c xs) (K : DRd w B D l d ys) (hB : B ≤ w.heap.size) (hx : Rep 65536 xs p) (hy : Rep 65536 ys v) (hv : 0 < v) (hk : k ≤ 100000) (hl : l ≤ 100000) :
    Calls Tryz.prog 83 #[intv m A k c, intv n D l d] w (FlPost (sval m p) (sval n v) w) := by
  cases m <;> cases n
  · exact floor_ff w B A D k l c d p v xs ys H K hB hx hy hv hk hl
  · rcases Nat.eq_zero_or_pos (p % v) with e | e
    · exact floor_zf w B A D k l c d p v xs ys H K hB hx hy hv hk hl e
    · exact floor_uf w B A D k l c d p v xs ys H K hB hx hy hv hk hl e
  · rcases Nat.eq_zero_or_pos (p % v) with e | e
    · exact floor_zt w B A D k l c d p v xs ys H K hB hx hy hv hk hl e
    · exact floor_ut w B A D k l c d p v xs ys H K hB hx hy hv hk hl e
  · exact floor_tt w B A D k l c d p v xs ys H K hB hx hy hv hk hl
end Go.Proofs.YtfgkhdpdjclmkaaGreat
