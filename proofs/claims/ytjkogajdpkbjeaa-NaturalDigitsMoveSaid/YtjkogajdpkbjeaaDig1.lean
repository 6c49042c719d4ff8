/- Digits: checkBase, largestPower, slices.Reverse. -/
import Derived.Test.YtjkogajdpkbjeaaCommon
import Derived.Test.YtjkogajdpkbjeaaOnes
import Derived.Deep.QuietTactic
import Derived.BigQuiet
import Derived.BigRegion
namespace Go.Proofs.Ytjkogajdpkbjeaa
open Go.RowKit
set_option maxHeartbeats 400000
set_option maxRecDepth 100000
set_option linter.unusedSimpArgs false
set_option linter.unusedVariables false

theorem checkBase_ok (w : World) (y : Int) (hy : 2 ≤ y ∧ y ≤ 36) :
    Calls Try.prog 57 #[.int .i64 y] w fun e w' => e = .returned (flt 0 0) ∧ Below w.heap.size w w' := by
  go_enter Try.func57, Try.ntmps57
  go_wp2_with fail
  refine bodyPost_ret (v := flt 0 0) (by simp [results, Try.results57, go_sem]) rfl ⟨rfl, ?_⟩
  (repeat (first | exact Below.refl _ _ | refine Below.setCell ?_ (by simp; done) _ | refine Below.alloc ?_ (by first | omega | (simp; done) | (simp; omega)) _))
theorem checkBase_bad (w : World) (y : Int) (hy : y < 2 ∨ 36 < y) :
    Calls Try.prog 57 #[.int .i64 y] w fun e w' => e = .returned (flt 4 (-2)) ∧ Below w.heap.size w w' := by
  rcases (show y < 2 ∨ (2 ≤ y ∧ 36 < y) by omega) with h | h
  all_goals
    clear hy
    go_enter Try.func57, Try.ntmps57
    go_wp2_with fail
    refine bodyPost_ret (v := flt 4 (-2)) (by simp [results, Try.results57, go_sem]) rfl ⟨rfl, ?_⟩
    (repeat (first | exact Below.refl _ _ | refine Below.setCell ?_ (by simp; done) _ | refine Below.alloc ?_ (by first | omega | (simp; done) | (simp; omega)) _))

structure LpIs (y P W : Nat) : Prop where
  pow : P = y ^ W
  lo : 1 ≤ P
  hi : P ≤ 4294967295
  wid : W ≤ 32
theorem LpIs.next {y P W : Nat} (h : LpIs y P W) (hy : 2 ≤ y) (hn : P * y ≤ 4294967295) : LpIs y (P * y) (W + 1) := by
  have e : P * y = y ^ (W + 1) := by rw [Nat.pow_succ, ← h.pow]
  refine ⟨e, ?_, hn, ?_⟩
  · have := Nat.mul_le_mul h.lo (show 1 ≤ y by omega); omega
  · rcases Nat.lt_or_ge W 32 with h1 | h1
    · omega
    · exfalso
      have h2 : 2 ^ 33 ≤ 2 ^ (W + 1) := Nat.pow_le_pow_right (by decide) (by omega)
      have h3 : 2 ^ (W + 1) ≤ y ^ (W + 1) := Nat.pow_le_pow_left hy _
      have h4 : (2 : Nat) ^ 33 = 8589934592 := by decide
      omega
def LpRel (y : Nat) (p e : Value) : Prop := ∃ P W : Nat, p = .int .i64 (P : Int) ∧ e = .int .i64 (W : Int) ∧ LpIs y P W
def LpPost (y : Nat) (w : World) (e : Ending) (w' : World) : Prop :=
  ∃ P W : Nat, e = .returned (.tuple #[.int .u32 (P : Int), .int .i64 (W : Int)]) ∧ w = w' ∧ LpIs y P W ∧ 4294967295 < P * y
theorem lp_big {P y : Nat} (h : P ≤ 4294967295) (hy : y ≤ 36) : (P : Int) * (y : Int) ≤ 154618822620 := by
  have h1 : P * y ≤ 4294967295 * 36 := Nat.mul_le_mul h hy
  omega
set_option maxHeartbeats 1000000 in
theorem largestPower_any (w : World) (y : Nat) (hy : 2 ≤ y ∧ y ≤ 36) :
    Calls Try.prog 58 #[.int .i64 (y : Int)] w (LpPost y w) := by
  go_enter Try.func58, Try.ntmps58
  go_wp2_with fail
  go_loop [4, 5] (LpRel y) (fun p _ => 4294967296 - (intOf p).toNat)
  case atStart => exact ⟨1, 0, rfl, rfl, by simp, by omega, by omega, by omega⟩
  case round =>
    obtain ⟨P, W, rfl, rfl, hI⟩ := hrel
    have hlo := hI.lo
    have hhi := hI.hi
    have hwd := hI.wid
    have h1 := lp_big hI.hi hy.2
    have h0 : 0 ≤ (P : Int) * (y : Int) := Int.mul_nonneg (by omega) (by omega)
    have w1 : IntKind.i64.wrap ((P : Int) * (y : Int)) = ((P * y : Nat) : Int) := by rw [IntWalk.i64_in _ (by omega)]; simp
    have h2 : ((P * y : Nat) : Int) ≤ 154618822620 := by rw [Int.natCast_mul]; exact h1
    have h3 : P + 1 ≤ P * y := by
      have : P * 2 ≤ P * y := Nat.mul_le_mul_left _ hy.1
      omega
    clear h1 h0
    by_cases hx : P * y ≤ 4294967295
    · have HN := Lib.hid (hI.next hy.1 hx)
      have HE : ((P * y : Nat) : Int) ≤ 4294967295 := by omega
      go_wp2_with fail
      go_round
      case rel => exact ⟨P * y, W + 1, rfl, by go_num, HN.out⟩
      case measure => simp [intOf]; omega
    · have HE : 4294967295 < ((P * y : Nat) : Int) := by omega
      have HX := Lib.hid (show 4294967295 < P * y by omega)
      go_wp2_with fail
      go_ret2
      exact ⟨P, W, rfl, rfl, hI, HX.out⟩

/-- The places i and behind n - i are exchanged. -/
def RvIs (n i : Nat) (cs cs' : List Nat) : Prop := cs'.length = n ∧ (∀ t, t < n → cs'.getD t 0 = if t < i ∨ n ≤ t + i then cs.getD (n - 1 - t) 0 else cs.getD t 0)
def RvRel (n : Nat) (cs : List Nat) (g : Nat) (w : World) (i j : Value) (wr : World) : Prop :=
  ∃ (k : Nat) (cs' : List Nat), 2 * k ≤ n + 1 ∧ i = .int .i64 (k : Int) ∧ j = .int .i64 ((n : Int) - 1 - (k : Int)) ∧ R64 wr g cs' ∧ w.grownBy wr (some g) ∧ Hid (RvIs n k cs cs')
def RvPost (cs : List Nat) (g : Nat) (w : World) (e : Ending) (w' : World) : Prop := e = .returned (.tuple #[]) ∧ R64 w' g cs.reverse ∧ w.grownBy w' (some g)
theorem rv_end {n i : Nat} {cs cs' : List Nat} (hl : cs.length = n) (h : RvIs n i cs cs') (hi : n ≤ 2 * i + 1) : cs' = cs.reverse := by
  obtain ⟨h1, h2⟩ := h
  refine List.ext_getElem (by simp; omega) fun t a b => ?_
  have gd : ∀ (l : List Nat) (i : Nat) (hi : i < l.length), l[i] = l.getD i 0 := fun l i hi => by
    rw [List.getD_eq_getElem?_getD, List.getElem?_eq_getElem hi]; rfl
  have h3 := h2 t (by omega)
  rw [List.getElem_reverse, gd cs' t a, gd cs _ (by omega), h3]
  split
  · congr 1; omega
  · congr 1; omega
theorem rv_step {n i : Nat} {cs cs' : List Nat} (hl : cs.length = n) (h : RvIs n i cs cs') (hi : 2 * i + 1 < n) :
    RvIs n (i + 1) cs ((cs'.set i (nth cs' (n - 1 - i)).toNat).set (n - 1 - i) (nth cs' i).toNat) := by
  obtain ⟨h1, h2⟩ := h
  refine ⟨by simp [h1], fun t ht => ?_⟩
  have a1 := h2 i (by omega)
  have a2 := h2 (n - 1 - i) (by omega)
  rw [if_neg (by omega)] at a1
  rw [if_neg (by omega)] at a2
  unfold nth
  rw [Int.toNat_natCast, Int.toNat_natCast, a1, a2, getD_set _ _ _ _ (by simp; omega)]
  by_cases e1 : t = n - 1 - i
  · subst e1
    rw [if_pos rfl, if_pos (by omega)]
    congr 1; omega
  · rw [if_neg (fun e => e1 (by omega)), getD_set _ _ _ _ (by omega)]
    by_cases e2 : t = i
    · subst e2
      rw [if_pos rfl, if_pos (by omega)]
    · rw [if_neg (fun e => e2 (by omega)), h2 t ht]
      by_cases e3 : t < i ∨ n ≤ t + i
      · rw [if_pos e3, if_pos (by omega)]
      · rw [if_neg e3, if_neg (by omega)]
theorem grown_drew {a w : World} {r : Option Nat} (h : a.grownBy w r) : a.grownBy w.drew r := ⟨h.os, h.tape, h.output, h.size, h.block⟩
set_option maxHeartbeats 4000000 in
theorem reverse_any (w : World) (g n c : Nat) (cs : List Nat) (hR : R64 w g cs) (hn : cs.length = n) (hc : n ≤ c ∧ c ≤ 9223372036854775807) :
    Calls Try.prog 60 #[.slice (some ⟨g, 0, none⟩) n c] w (RvPost cs g w) := by
  have HN := Lib.hid hn
  clear hn
  go_enter Try.func60, Try.ntmps60
  go_wp2_with fail
  go_loopw [2, 3] (RvRel n cs g w) (fun i _ _ => n - (intOf i).toNat)
  case atStart => exact ⟨0, cs, by omega, rfl, by simp, hR, World.grownBy.refl _ _, HN.out, fun t ht => by simp; omega⟩
  case round =>
    clear hR
    obtain ⟨k, cs', hk, rfl, rfl, hR, hg, hI⟩ := hrel
    have hlen := Lib.hid hI.out.1
    by_cases h1 : 2 * k + 1 < n
    · obtain ⟨m, hm⟩ : ∃ m, m = n - 1 - k := ⟨_, rfl⟩
      have em : (n : Int) - 1 - (k : Int) = (m : Int) := by omega
      rw [em]
      have g1 := hR.cell (j := k) (by have := hlen.out; omega)
      have g2 := hR.cell (j := m) (by have := hlen.out; omega)
      have f1 := hR.frozen k
      have f2 := hR.frozen m
      have a1 := nth_nn cs' k
      have a2 := nth_nn cs' m
      have hkm : k < m := by omega
      have hmn : m < n := by omega
      have HS := Lib.hid (rv_step HN.out hI.out h1)
      rw [← hm] at HS
      have hne : m ≠ k := by omega
      have HM := Lib.hid hm
      clear hm em
      go_wp2_with fail
      go_region
      all_goals (go_wp2_with fail)
      all_goals go_roundw
      all_goals (first | (case measure => simp [intOf]; omega) | skip)
      all_goals (exact ⟨k + 1, _, by omega, by go_num, congrArg (Value.int .i64) (by have := HM.out; omega), (hR.drew.put k a2).put m a1, grown_set (grown_set (grown_drew hg) _ _) _ _, HS.out⟩)
    · have HE := Lib.hid (rv_end HN.out hI.out (by omega))
      go_wp2_with fail
      go_end0
      exact ⟨rfl, by rw [← HE.out]; exact hR, hg⟩
end Go.Proofs.Ytjkogajdpkbjeaa
