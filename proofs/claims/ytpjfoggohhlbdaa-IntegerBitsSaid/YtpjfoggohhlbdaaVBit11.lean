/- Rows of bools; the reference's twos. -/
import Derived.Test.YtpjfoggohhlbdaaVOnesW
import Derived.Test.YtpjfoggohhlbdaaVBit7
import Derived.Test.YtpjfoggohhlbdaaVBit3
import Derived.Test.YtpjfoggohhlbdaaVd
import Derived.Test.YtpjfoggohhlbdaaVe
import Derived.Deep.RegionHeld3
import Derived.Deep.DeepCutAuto
namespace Go.Proofs.Ytpjfoggohhlbdaa
open Go.RowKit
set_option maxHeartbeats 400000
set_option maxRecDepth 100000
set_option linter.unusedSimpArgs false
set_option linter.unusedVariables false

/-- Block g begins with the bools ys; behind them may be more cells. -/
def RBl (w : World) (g : Nat) (ys : List Bool) : Prop := ∃ more : List Value, Row w g 4 (ys.map Value.bool ++ more)
section
variable {w w' : World} {g : Nat} {ys : List Bool}
theorem RBl.lt (h : RBl w g ys) : g < w.heap.size := Row.lt h.choose_spec
theorem RBl.cell (h : RBl w g ys) {j : Nat} (hj : j < ys.length) : w.cell? ⟨g, j, none⟩ = some (.bool (ys.getD j false)) := by
  obtain ⟨more, h⟩ := h
  rw [Row.cell h, List.getElem?_append_left (by simpa using hj)]
  simp [hj]
theorem RBl.frozen (h : RBl w g ys) (j : Nat) : w.frozen? ⟨g, j, none⟩ = false := Row.frozen h.choose_spec j
theorem RBl.put (h : RBl w g ys) (j : Nat) (b : Bool) : RBl (w.setCell ⟨g, j, none⟩ (.bool b)) g (ys.set j b) := by
  obtain ⟨more, h⟩ := h
  have h2 := Row.set_ h j (.bool b)
  rw [List.set_append] at h2
  split at h2
  · refine ⟨more, ?_⟩
    rw [List.map_set]
    exact h2
  · rename_i hj
    rw [List.set_eq_of_length_le (by simpa using hj)]
    exact ⟨_, h2⟩
theorem RBl.below {B : Nat} (h : RBl w g ys) (hb : Below B w w') (hg : g < B) : RBl w' g ys := ⟨_, Row.below h.choose_spec hb hg⟩
theorem RBl.drew (h : RBl w g ys) : RBl w.drew g ys := h
theorem RBl.drewN (h : RBl w g ys) (n : Nat) : RBl (w.drewN n) g ys := h
theorem RBl.of_own {base c n : Nat} {A : Option Addr} (h : w.ownsRow base 4 1 (.slice A n c) n (ys.map Value.bool)) (hn : 0 < n) : ∃ g, A = some ⟨g, 0, none⟩ ∧ base ≤ g ∧ RBl w g ys ∧ n ≤ c ∧ c ≤ maxLen := by
  rcases h.2 with ⟨_, h0⟩ | ⟨g, cap, cur, hv, hg, hh, h1, h2, _, h3⟩
  · omega
  · injection hv with e1 e2 e3
    subst e1; subst e3
    refine ⟨g, rfl, hg, ⟨cur.toList.drop (n * 1), ?_⟩, h1, h2⟩
    rw [← h3, List.take_append_drop]
    unfold Row
    rw [hh]
abbrev nums (ys : List Bool) : List Nat := ys.map Bool.toNat
theorem nums_at (ys : List Bool) (j : Nat) : bt (nums ys) j = ys.getD j false := by
  unfold bt nums
  rw [List.getD_eq_getElem?_getD, List.getD_eq_getElem?_getD, List.getElem?_map]
  cases ys[j]? with
  | none => rfl
  | some b => cases b <;> rfl
theorem nums_dig (ys : List Bool) : Dig 2 (nums ys) := by
  intro x hx
  obtain ⟨b, _, rfl⟩ := List.mem_map.1 hx
  cases b <;> decide
theorem RBl.ord (h : RBl w g ys) {B n c : Nat} (hB : g < B) (hl : ys.length = n) (hc : n ≤ c ∧ c ≤ 9223372036854775807) : ORd w B (some ⟨g, 0, none⟩) n c (nums ys) := by
  refine ⟨by show _ = _; simp [nums, hl], hc, nums_dig ys, fun _ => ⟨g, 0, rfl, hB, fun j hj => ?_⟩⟩
  rw [Nat.zero_add, h.cell (by omega)]
  show _ = some (Value.bool (bt (nums ys) j))
  rw [nums_at]
end
theorem vb2_bit : ∀ {xs : List Nat}, Dig 2 xs → ∀ j, (vb 2 xs).testBit j = (xs.getD j 0 == 1) := by
  intro xs
  induction xs with
  | nil => intro _ j; rw [vb_nil]; simp
  | cons x xs ih =>
    intro h j
    have hx : x < 2 := h x (List.mem_cons_self ..)
    rw [vb_cons]
    cases j with
    | zero =>
      rw [Nat.testBit_zero]
      have : (x + 2 * vb 2 xs) % 2 = x := by omega
      rw [this]
      rcases (show x = 0 ∨ x = 1 by omega) with rfl | rfl <;> rfl
    | succ j =>
      rw [Nat.testBit_succ, show (x + 2 * vb 2 xs) / 2 = vb 2 xs by omega, ih (fun y hy => h y (List.mem_cons_of_mem _ hy)) j]
      simp
theorem vb2_nums (ys : List Bool) (j : Nat) : (vb 2 (nums ys)).testBit j = ys.getD j false := by
  rw [vb2_bit (nums_dig ys)]
  have := nums_at ys j
  unfold bt at this
  exact this
theorem tw_bits {zs : List Nat} {p n : Nat} (h : Rep 2 zs p) (j : Nat) : (((zs.map fun x => x == 1) ++ List.replicate n false).take n).getD j false = (decide (j < n) && p.testBit j) := by
  rw [← h.val, vb2_bit h.dig]
  rw [List.getD_eq_getElem?_getD, List.getElem?_take]
  by_cases hj : j < n
  · rw [if_pos hj, decide_eq_true hj, Bool.true_and]
    by_cases hz : j < zs.length
    · rw [List.getElem?_append_left (by simpa using hz)]
      simp [hz]
    · rw [List.getElem?_append_right (by simpa using hz)]
      have e1 : ((List.replicate n false)[j - (zs.map fun x => x == 1).length]?).getD false = false := by
        rw [List.getElem?_replicate]; split <;> rfl
      rw [e1, getD_none (by omega)]; rfl
  · rw [if_neg hj, decide_eq_false hj]; rfl
def TwPost (z : Int) (n : Nat) (w : World) (e : Ending) (w' : World) : Prop :=
  ∃ g c ys, e = .returned (.slice (some ⟨g, 0, none⟩) n c) ∧ RBl w' g ys ∧ ys.length = n ∧ w.heap.size ≤ g ∧ n ≤ c ∧ c ≤ maxLen ∧ (∀ j, j < n → ys.getD j false = zbit z j) ∧ Below w.heap.size w w'
def TwRel (n g : Nat) (sg : Bool) (ds : List Bool) (W : World) (i : Value) (wr : World) : Prop :=
  ∃ j ys, j ≤ n ∧ i = .int .i64 ((j : Nat) : Int) ∧ RBl wr g ys ∧ ys.length = n ∧ Hid (∀ t, t < n → ys.getD t false = if t < j then (ds.getD t false != sg) else ds.getD t false) ∧ Below g W wr
theorem getDB_set {ys : List Bool} {j t : Nat} {b : Bool} (hj : j < ys.length) : (ys.set j b).getD t false = if j = t then b else ys.getD t false := by
  rw [List.getD_eq_getElem?_getD, List.getD_eq_getElem?_getD, List.getElem?_set]
  by_cases e : j = t
  · subst e; rw [if_pos rfl, if_pos rfl, if_pos hj]; rfl
  · rw [if_neg e, if_neg e]
theorem tw_step {n j : Nat} {sg : Bool} {ds ys : List Bool} (hl : ys.length = n) (hj : j < n) (h : ∀ t, t < n → ys.getD t false = if t < j then (ds.getD t false != sg) else ds.getD t false) :
    ∀ t, t < n → (ys.set j (ys.getD j false != sg)).getD t false = if t < j + 1 then (ds.getD t false != sg) else ds.getD t false := by
  intro t ht
  rw [getDB_set (by omega)]
  by_cases e : j = t
  · subst e; rw [if_pos rfl, if_pos (by omega), h j hj, if_neg (by omega)]
  · rw [if_neg e, h t ht]
    by_cases h2 : t < j
    · rw [if_pos h2, if_pos (by omega)]
    · rw [if_neg h2, if_neg (by omega)]
def TX (w : World) (A : Option Addr) (k c r : Nat) (wx : World) : Prop :=
  ∃ A2 k2 c2 x2, Bk2 wx w.heap.size (.bool true) (.slice A k c) ∧ Bk2 wx (w.heap.size + 1) (.bool true) (.slice A2 k2 c2) ∧ DRd wx wx.heap.size A2 k2 c2 x2 ∧ Hid (Rep 65536 x2 r) ∧ Below w.heap.size w wx
theorem rep_one' {xs : List Nat} {k : Nat} (h : Rep 65536 xs 1) (hl : xs.length = k) : k ≤ 1 := by
  have := h.length_le (m := 1) (by decide) (by decide)
  omega
theorem small_1 (w : World) : Calls Try.prog 89 #[.int .i64 1] w (GivesN w 1) := by
  have := small_any w 1 (by decide)
  exact this
theorem htB : Try.prog.underlying 3 = some (.int .i64) := Try.underlying3
set_option maxHeartbeats 8000000 in
theorem twos_f (w : World) (B : Nat) (A : Option Addr) (k c n p : Nat) (xs : List Nat) (H : DRd w B A k c xs) (hB : B ≤ w.heap.size) (hkm : k ≤ 100000) (hn1 : 1 ≤ n) (hn2 : n ≤ 10000000) (hx : Rep 65536 xs p) :
    Calls Try.prog 99 #[intv false A k c, .int .i64 (n : Int)] w (TwPost (sval false p) n w) := by
  have HX := Lib.hid hx
  skip
  clear hx
  obtain ⟨i0, hi, hz0, hz1, hz2⟩ := info_parts infoB
  have hn0 : 0 < n := by omega
  have HLX := Lib.hid H.len.out
  have E : Below w.heap.size w w := Below.refl _ _
  go_enter Try.func99, Try.ntmps99
  go_wp2_with fail
  obtain ⟨V0, hV0⟩ : ∃ V0 : World, V0 = ((w.alloc (.cells #[.bool false, .slice A k c] 37)).alloc (.cells #[.bool false, .slice A k c] 37)) := ⟨_, rfl⟩
  have bV0 : Below w.heap.size w V0 := by rw [hV0]; (repeat (first | with_reducible exact Below.refl _ _ | with_reducible refine Below.drew ?_ | with_reducible refine below_drewN ?_ _ | with_reducible refine Below.setCell ?_ (by first | (simp; done) | (simp; omega) | omega) _ | with_reducible refine Below.alloc ?_ (by first | (simp; done) | (simp; omega) | omega) _))
  have zV0 : w.heap.size + 2 ≤ V0.heap.size := by rw [hV0]; simp
  have PA : Bk2 V0 (w.heap.size) (.bool false) (.slice A k c) := by rw [hV0]; exact ((Bk2.newAt _ _ (by simp) _ _ _).alloc _)
  have PX : Bk2 V0 (w.heap.size + 1) (.bool false) (.slice A k c) := by rw [hV0]; exact (Bk2.newAt _ _ (by simp) _ _ _)
  rw [← hV0]
  clear hV0
  replace E : Below w.heap.size w V0 := E.trans (bV0.mono E.size)
  replace H : DRd V0 (B) A k c xs := H.below bV0 (by omega)
  clear bV0
  refine (ones_own _ V0.heap.size A k c xs (H.more (by omega)) (Nat.le_refl _) (by omega)).mono ?_
  rintro e w4 ⟨A4, k4, c4, zs, rfl, hown4, hl4, hr4, hb4⟩
  rw [HX.out.val] at hr4
  have HL4 := Lib.hid hl4
  have k4b := digD_len2 HX.out HLX.out hr4 hl4
  have R4 := Lib.hid hr4
  have sw4 := hb4.size
  clear hr4
  obtain ⟨v5, w5, hrun, hown5, hg5⟩ := run_append_zeros (P := Try.prog) w4 V0.heap.size 45 3 45 4 i0 (.bool false) .i64 .i64 Try.underlying45 htB hi hz0 hz1 hz2 rfl rfl _ k4 _ hown4 n hn0 (by omega) hb4.size
  obtain ⟨A5, c5, rfl, hc51, hc52⟩ := own_shape hown5
  have hb5 : Below V0.heap.size V0 w5 := hb4.grown hg5 hb4.size (fun q hq => (hown4.lt q hq).1)
  have hown6 := own_take hown5 (show n ≤ k4 + n by omega)
  obtain ⟨ds, hds⟩ : ∃ ds, ds = ((zs.map fun x => x == 1) ++ List.replicate n false).take n := ⟨_, rfl⟩
  have hdl : ds.length = n := by rw [hds, List.length_take, List.length_append, List.length_replicate]; omega
  have DB := Lib.hid (show ∀ j, j < n → ds.getD j false = (p).testBit j from fun j hj => by rw [hds, tw_bits R4.out, decide_eq_true hj, Bool.true_and])
  have hown7 : w5.ownsRow V0.heap.size 4 1 (.slice A5 n c5) n (ds.map Value.bool) := by
    have e : ds.map Value.bool = (bools zs ++ List.replicate n (Value.bool false)).take n := by rw [hds]; simp [bools, List.map_take]; rfl
    rw [e]; exact hown6
  clear hds hown6 hown5 hown4 hg5 hl4
  obtain ⟨g, rfl, hg, hRB, hgc, hgm⟩ := RBl.of_own hown7 hn0
  clear hown7
  go_wp2_with (at_builtin; refine Lib.wpList_append_run _ rfl _ _ _ _ rfl _ _ rfl rfl _ _ hrun ?_)
  clear hrun hb4
  have sw5 := hb5.size
  clear PX
  replace E : Below w.heap.size w w5 := E.trans (hb5.mono E.size)
  replace H : DRd w5 (B) A k c xs := H.below hb5 (by omega)
  replace PA : Bk2 w5 (w.heap.size) (.bool false) (.slice A k c) := PA.below hb5 PA.lt
  clear hb5
  have hwg : w.heap.size + 2 ≤ g := by omega
  go_loopw [7] (TwRel n g false ds w5) (fun i _ => n - (intOf i).toNat)
  case atStart => exact ⟨0, ds, by omega, rfl, hRB, hdl, Lib.hid (fun t ht => by rw [if_neg (Nat.not_lt_zero _)]), Below.refl _ _⟩
  case round =>
    obtain ⟨j, ys, hj, rfl, hR, hyl, HI, hbw⟩ := hrel
    have hsw := hbw.size
    have hgl := hR.lt
    by_cases h1 : j < n
    · have hcr := hR.cell (j := j) (by omega)
      have hfr := hR.frozen j
      have PAr := PA.below hbw (by omega)
      have t0 := PAr.c0
      have t1 := PAr.c1
      have HP1 := Lib.hid (hR.put j (ys.getD j false != false))
      have hst := Lib.hid (tw_step hyl h1 HI.out)
      obtain ⟨Y, hY⟩ : ∃ Y, Y = ys.getD j false := ⟨_, rfl⟩
      rw [← hY] at hcr HP1 hst
      clear hY PAr hR HI
      go_upto_region 8 with fail
      go_region
      all_goals (go_wp2_with fail)
      all_goals
        go_roundw
        (case rel => exact ⟨j + 1, _, by omega, by go_num, (by first | exact HP1.out | exact HP1.out.drew | exact HP1.out.drewN _ | (have h9 := HP1.out; simp at h9 ⊢; exact h9)), by rw [List.length_set]; exact hyl, hst, (by (repeat (first | with_reducible exact hbw | with_reducible refine Below.drew ?_ | with_reducible refine below_drewN ?_ _ | with_reducible refine Below.setCell ?_ (by first | (simp; done) | omega) _)))⟩)
        (case measure => first | (simp [intOf]; done) | (simp [intOf]; omega))
    · obtain rfl : j = n := by omega
      go_wp2_with fail
      go_ret
      refine ⟨g, c5, ys, rfl, hR, hyl, by omega, hgc, hgm, fun t ht => ?_, E.trans (hbw.mono (by omega))⟩
      rw [HI.out t ht, if_pos ht, DB.out t ht]
      have h9 := zbit_snum false (p) t
      rw [(show snum false p = sval false p from rfl)] at h9
      exact h9.symm
set_option maxHeartbeats 8000000 in
theorem twos_z (w : World) (B : Nat) (A : Option Addr) (c n : Nat) (xs : List Nat) (H : DRd w B A 0 c xs) (hB : B ≤ w.heap.size) (hkm : 0 ≤ 100000) (hn1 : 1 ≤ n) (hn2 : n ≤ 10000000) (hx : Rep 65536 xs 0) :
    Calls Try.prog 99 #[intv true A 0 c, .int .i64 (n : Int)] w (TwPost (sval true 0) n w) := by
  have HX := Lib.hid hx
  skip
  clear hx
  obtain ⟨i0, hi, hz0, hz1, hz2⟩ := info_parts infoB
  have hn0 : 0 < n := by omega
  have HLX := Lib.hid H.len.out
  have E : Below w.heap.size w w := Below.refl _ _
  go_enter Try.func99, Try.ntmps99
  go_wp2_with fail
  obtain ⟨V0, hV0⟩ : ∃ V0 : World, V0 = ((w.alloc (.cells #[.bool true, .slice A 0 c] 37)).alloc (.cells #[.bool true, .slice A 0 c] 37)) := ⟨_, rfl⟩
  have bV0 : Below w.heap.size w V0 := by rw [hV0]; (repeat (first | with_reducible exact Below.refl _ _ | with_reducible refine Below.drew ?_ | with_reducible refine below_drewN ?_ _ | with_reducible refine Below.setCell ?_ (by first | (simp; done) | (simp; omega) | omega) _ | with_reducible refine Below.alloc ?_ (by first | (simp; done) | (simp; omega) | omega) _))
  have zV0 : w.heap.size + 2 ≤ V0.heap.size := by rw [hV0]; simp
  have PA : Bk2 V0 (w.heap.size) (.bool true) (.slice A 0 c) := by rw [hV0]; exact ((Bk2.newAt _ _ (by simp) _ _ _).alloc _)
  have PX : Bk2 V0 (w.heap.size + 1) (.bool true) (.slice A 0 c) := by rw [hV0]; exact (Bk2.newAt _ _ (by simp) _ _ _)
  rw [← hV0]
  clear hV0
  replace E : Below w.heap.size w V0 := E.trans (bV0.mono E.size)
  replace H : DRd V0 (B) A 0 c xs := H.below bV0 (by omega)
  clear bV0
  refine (ones_own _ V0.heap.size A 0 c xs (H.more (by omega)) (Nat.le_refl _) (by omega)).mono ?_
  rintro e w4 ⟨A4, k4, c4, zs, rfl, hown4, hl4, hr4, hb4⟩
  rw [HX.out.val] at hr4
  have HL4 := Lib.hid hl4
  have k4b := digD_len2 HX.out HLX.out hr4 hl4
  have R4 := Lib.hid hr4
  have sw4 := hb4.size
  clear hr4
  obtain ⟨v5, w5, hrun, hown5, hg5⟩ := run_append_zeros (P := Try.prog) w4 V0.heap.size 45 3 45 4 i0 (.bool false) .i64 .i64 Try.underlying45 htB hi hz0 hz1 hz2 rfl rfl _ k4 _ hown4 n hn0 (by omega) hb4.size
  obtain ⟨A5, c5, rfl, hc51, hc52⟩ := own_shape hown5
  have hb5 : Below V0.heap.size V0 w5 := hb4.grown hg5 hb4.size (fun q hq => (hown4.lt q hq).1)
  have hown6 := own_take hown5 (show n ≤ k4 + n by omega)
  obtain ⟨ds, hds⟩ : ∃ ds, ds = ((zs.map fun x => x == 1) ++ List.replicate n false).take n := ⟨_, rfl⟩
  have hdl : ds.length = n := by rw [hds, List.length_take, List.length_append, List.length_replicate]; omega
  have DB := Lib.hid (show ∀ j, j < n → ds.getD j false = (0).testBit j from fun j hj => by rw [hds, tw_bits R4.out, decide_eq_true hj, Bool.true_and])
  have hown7 : w5.ownsRow V0.heap.size 4 1 (.slice A5 n c5) n (ds.map Value.bool) := by
    have e : ds.map Value.bool = (bools zs ++ List.replicate n (Value.bool false)).take n := by rw [hds]; simp [bools, List.map_take]; rfl
    rw [e]; exact hown6
  clear hds hown6 hown5 hown4 hg5 hl4
  obtain ⟨g, rfl, hg, hRB, hgc, hgm⟩ := RBl.of_own hown7 hn0
  clear hown7
  go_wp2_with (at_builtin; refine Lib.wpList_append_run _ rfl _ _ _ _ rfl _ _ rfl rfl _ _ hrun ?_)
  clear hrun hb4
  have sw5 := hb5.size
  clear PX
  replace E : Below w.heap.size w w5 := E.trans (hb5.mono E.size)
  replace H : DRd w5 (B) A 0 c xs := H.below hb5 (by omega)
  replace PA : Bk2 w5 (w.heap.size) (.bool true) (.slice A 0 c) := PA.below hb5 PA.lt
  clear hb5
  have hwg : w.heap.size + 2 ≤ g := by omega
  go_loopw [7] (TwRel n g false ds w5) (fun i _ => n - (intOf i).toNat)
  case atStart => exact ⟨0, ds, by omega, rfl, hRB, hdl, Lib.hid (fun t ht => by rw [if_neg (Nat.not_lt_zero _)]), Below.refl _ _⟩
  case round =>
    obtain ⟨j, ys, hj, rfl, hR, hyl, HI, hbw⟩ := hrel
    have hsw := hbw.size
    have hgl := hR.lt
    by_cases h1 : j < n
    · have hcr := hR.cell (j := j) (by omega)
      have hfr := hR.frozen j
      have PAr := PA.below hbw (by omega)
      have t0 := PAr.c0
      have t1 := PAr.c1
      have HP1 := Lib.hid (hR.put j (ys.getD j false != false))
      have hst := Lib.hid (tw_step hyl h1 HI.out)
      obtain ⟨Y, hY⟩ : ∃ Y, Y = ys.getD j false := ⟨_, rfl⟩
      rw [← hY] at hcr HP1 hst
      clear hY PAr hR HI
      go_upto_region 8 with fail
      go_region
      all_goals (go_wp2_with fail)
      all_goals
        go_roundw
        (case rel => exact ⟨j + 1, _, by omega, by go_num, (by first | exact HP1.out | exact HP1.out.drew | exact HP1.out.drewN _ | (have h9 := HP1.out; simp at h9 ⊢; exact h9)), by rw [List.length_set]; exact hyl, hst, (by (repeat (first | with_reducible exact hbw | with_reducible refine Below.drew ?_ | with_reducible refine below_drewN ?_ _ | with_reducible refine Below.setCell ?_ (by first | (simp; done) | omega) _)))⟩)
        (case measure => first | (simp [intOf]; done) | (simp [intOf]; omega))
    · obtain rfl : j = n := by omega
      go_wp2_with fail
      go_ret
      refine ⟨g, c5, ys, rfl, hR, hyl, by omega, hgc, hgm, fun t ht => ?_, E.trans (hbw.mono (by omega))⟩
      rw [HI.out t ht, if_pos ht, DB.out t ht]
      have h9 := zbit_snum false (0) t
      rw [(show snum false 0 = sval true 0 from rfl)] at h9
      exact h9.symm
set_option maxHeartbeats 8000000 in
theorem twos_n (w : World) (B : Nat) (A : Option Addr) (k c n p : Nat) (xs : List Nat) (H : DRd w B A k c xs) (hB : B ≤ w.heap.size) (hkm : k ≤ 100000) (hn1 : 1 ≤ n) (hn2 : n ≤ 10000000) (hx : Rep 65536 xs p) (h0 : 0 < k) (hp : 1 ≤ p) :
    Calls Try.prog 99 #[intv true A k c, .int .i64 (n : Int)] w (TwPost (sval true p) n w) := by
  have HX := Lib.hid hx
  have HP := Lib.hid hp
  clear hx hp
  obtain ⟨i0, hi, hz0, hz1, hz2⟩ := info_parts infoB
  have hn0 : 0 < n := by omega
  have HLX := Lib.hid H.len.out
  have E : Below w.heap.size w w := Below.refl _ _
  have hk0 : 0 < (k : Int) := by omega
  go_enter Try.func99, Try.ntmps99
  go_upto_region 3 with fail
  obtain ⟨V0, hV0⟩ : ∃ V0 : World, V0 = ((w.alloc (.cells #[.bool true, .slice A k c] 37)).alloc (.cells #[.bool true, .slice A k c] 37)) := ⟨_, rfl⟩
  have bV0 : Below w.heap.size w V0 := by rw [hV0]; (repeat (first | with_reducible exact Below.refl _ _ | with_reducible refine Below.drew ?_ | with_reducible refine below_drewN ?_ _ | with_reducible refine Below.setCell ?_ (by first | (simp; done) | (simp; omega) | omega) _ | with_reducible refine Below.alloc ?_ (by first | (simp; done) | (simp; omega) | omega) _))
  have zV0 : w.heap.size + 2 ≤ V0.heap.size := by rw [hV0]; simp
  have PA : Bk2 V0 (w.heap.size) (.bool true) (.slice A k c) := by rw [hV0]; exact ((Bk2.newAt _ _ (by simp) _ _ _).alloc _)
  have PX : Bk2 V0 (w.heap.size + 1) (.bool true) (.slice A k c) := by rw [hV0]; exact (Bk2.newAt _ _ (by simp) _ _ _)
  rw [← hV0]
  clear hV0
  replace E : Below w.heap.size w V0 := E.trans (bV0.mono E.size)
  replace H : DRd V0 (B) A k c xs := H.below bV0 (by omega)
  clear bV0
  have ltA := PA.lt
  have HS := Lib.hid (fun (u : World) (hu : Below (w.heap.size + 1) V0 u) => (⟨(hu.cell (p := ⟨w.heap.size, 0, none⟩) (by show w.heap.size < _; omega)).trans PA.c0, (hu.cell (p := ⟨w.heap.size, 1, none⟩) (by show w.heap.size < _; omega)).trans PA.c1⟩ : u.cell? ⟨w.heap.size, 0, none⟩ = some (.bool true) ∧ u.cell? ⟨w.heap.size, 1, none⟩ = some (.slice A k c)))
  have G0 : Below V0.heap.size V0 V0.drew := Below.drew (Below.refl _ _)
  have G0m : Below (w.heap.size + 1) V0 V0.drew := G0.mono (by omega)
  go_cut [] (fun wx => TX w A k c (p - 1) wx)
  case first =>
    as_aux_lemma =>
      go_region_held3 (fun u => u.cell? ⟨w.heap.size, 0, none⟩ = some (.bool true) ∧ u.cell? ⟨w.heap.size, 1, none⟩ = some (.slice A k c)) (first | (refine HS.out _ ?_; (repeat (first | with_reducible exact G0m | with_reducible exact B2.mono (by omega) | with_reducible exact B1.mono (by omega) | with_reducible exact Below.refl _ _ | with_reducible refine Below.drew ?_ | with_reducible refine below_drewN ?_ _ | with_reducible refine Below.setCell ?_ (by first | (simp; done) | (simp; omega) | omega) _)); done) | fail)
        (first
          | (go_at_call 89; (with_reducible refine (small_1 _).mono ?_); rintro e u1 ⟨A1, k1, c1, x1, rfl, hd1, hr1, hb1⟩; have B1 : Below V0.heap.size V0 u1 := bnext G0 hb1; have L1 := rep_one' hr1 hd1.len.out; have VV1 := Lib.hid hr1.val; clear hr1)
          | (go_at_call 77; (with_reducible refine (minus_any _ u1.heap.size A A1 k k1 c c1 xs x1 ((H.below B1 (by omega)).more (by have := B1.size; omega)) hd1 (Nat.le_refl _) (by omega) (by omega) (by rw [VV1.out, HX.out.val]; exact HP.out)).mono ?_); rintro e u2 ⟨A2, k2, c2, x2, rfl, hd2, hr2, hb2⟩; have R2 := Lib.hid hr2; clear hr2; have B2 : Below V0.heap.size V0 u2 := bnext B1 hb2; have PXq := PX.below B2 PX.lt; have PAq := PA.below B2 PA.lt; obtain ⟨r0, r1, y0, y1, _⟩ := PXq)
          | fail)
      all_goals (go_wp2_with fail)
      all_goals
        go_meet
        have px2 : Bk2 u2 (w.heap.size + 1) (.bool true) (.slice A k c) := ⟨r0, r1, y0, y1, by have := B2.size; have := PX.lt; omega⟩
        refine ⟨A2, k2, c2, x2, ?_, ?_, ?_, Lib.hid (by have h9 := R2.out; rw [VV1.out, HX.out.val] at h9; exact h9), ?_⟩
        · first | with_reducible exact PAq.far2 (by omega) _ _ | with_reducible exact Bk2.drew (PAq.far2 (by omega) _ _)
        · first | with_reducible exact px2.set _ _ | with_reducible exact Bk2.drew (px2.set _ _)
        · first | with_reducible exact (hd2.setBD px2 (by simp) (by simp) _ _).more (by simp [World.setCell]) | with_reducible exact DRd.more (DRd.keep (hd2.setBD px2 (by simp) (by simp) _ _) (fun _ _ => rfl)) (by simp [World.setCell])
        · (repeat (first | with_reducible exact E.trans (B2.mono E.size) | with_reducible refine Below.drew ?_ | with_reducible refine below_drewN ?_ _ | with_reducible refine Below.setCell ?_ (by first | (simp; done) | (simp; omega) | omega) _))
  case rest =>
    rename World => wc
    clear PA PX E HS G0 G0m
    obtain ⟨A2, k2, c2, x2, PA, PX, hd2, R2, E⟩ := hcut
    have HLX := Lib.hid hd2.len.out
    have k2b : k2 ≤ k := by
      have h1 := HX.out.lt_pow (by decide)
      rw [H.len.out] at h1
      have h2 := R2.out.length_le (m := k) (by decide) (by omega)
      rw [hd2.len.out] at h2
      exact h2
    clear H
    have szw := PX.lt
    have t_PX0 : wc.cell? ⟨w.heap.size + 1, 0, none⟩ = some ((.bool true)) := PX.c0
    have t_PX1 : wc.cell? ⟨w.heap.size + 1, 1, none⟩ = some ((.slice A2 k2 c2)) := PX.c1
    go_wp2_with fail
    clear t_PX0 t_PX1
    refine (ones_own _ wc.heap.size A2 k2 c2 x2 hd2 (Nat.le_refl _) (by omega)).mono ?_
    rintro e w4 ⟨A4, k4, c4, zs, rfl, hown4, hl4, hr4, hb4⟩
    rw [R2.out.val] at hr4
    have HL4 := Lib.hid hl4
    have k4b := digD_len2 R2.out HLX.out hr4 hl4
    have R4 := Lib.hid hr4
    have sw4 := hb4.size
    clear hr4
    obtain ⟨v5, w5, hrun, hown5, hg5⟩ := run_append_zeros (P := Try.prog) w4 wc.heap.size 45 3 45 4 i0 (.bool false) .i64 .i64 Try.underlying45 htB hi hz0 hz1 hz2 rfl rfl _ k4 _ hown4 n hn0 (by omega) hb4.size
    obtain ⟨A5, c5, rfl, hc51, hc52⟩ := own_shape hown5
    have hb5 : Below wc.heap.size wc w5 := hb4.grown hg5 hb4.size (fun q hq => (hown4.lt q hq).1)
    have hown6 := own_take hown5 (show n ≤ k4 + n by omega)
    obtain ⟨ds, hds⟩ : ∃ ds, ds = ((zs.map fun x => x == 1) ++ List.replicate n false).take n := ⟨_, rfl⟩
    have hdl : ds.length = n := by rw [hds, List.length_take, List.length_append, List.length_replicate]; omega
    have DB := Lib.hid (show ∀ j, j < n → ds.getD j false = (p - 1).testBit j from fun j hj => by rw [hds, tw_bits R4.out, decide_eq_true hj, Bool.true_and])
    have hown7 : w5.ownsRow wc.heap.size 4 1 (.slice A5 n c5) n (ds.map Value.bool) := by
      have e : ds.map Value.bool = (bools zs ++ List.replicate n (Value.bool false)).take n := by rw [hds]; simp [bools, List.map_take]; rfl
      rw [e]; exact hown6
    clear hds hown6 hown5 hown4 hg5 hl4
    obtain ⟨g, rfl, hg, hRB, hgc, hgm⟩ := RBl.of_own hown7 hn0
    clear hown7
    go_wp2_with (at_builtin; refine Lib.wpList_append_run _ rfl _ _ _ _ rfl _ _ rfl rfl _ _ hrun ?_)
    clear hrun hb4
    have sw5 := hb5.size
    clear PX
    replace E : Below w.heap.size w w5 := E.trans (hb5.mono E.size)
    replace PA : Bk2 w5 (w.heap.size) (.bool true) (.slice A k c) := PA.below hb5 PA.lt
    replace hd2 : DRd w5 (wc.heap.size) A2 k2 c2 x2 := hd2.below hb5 (by omega)
    clear hb5
    have hwg : w.heap.size + 2 ≤ g := by omega
    go_loopw [7] (TwRel n g true ds w5) (fun i _ => n - (intOf i).toNat)
    case atStart => exact ⟨0, ds, by omega, rfl, hRB, hdl, Lib.hid (fun t ht => by rw [if_neg (Nat.not_lt_zero _)]), Below.refl _ _⟩
    case round =>
      obtain ⟨j, ys, hj, rfl, hR, hyl, HI, hbw⟩ := hrel
      have hsw := hbw.size
      have hgl := hR.lt
      by_cases h1 : j < n
      · have hcr := hR.cell (j := j) (by omega)
        have hfr := hR.frozen j
        have PAr := PA.below hbw (by omega)
        have t0 := PAr.c0
        have t1 := PAr.c1
        have HP1 := Lib.hid (hR.put j (ys.getD j false != true))
        have hst := Lib.hid (tw_step hyl h1 HI.out)
        obtain ⟨Y, hY⟩ : ∃ Y, Y = ys.getD j false := ⟨_, rfl⟩
        rw [← hY] at hcr HP1 hst
        clear hY PAr hR HI
        go_upto_region 8 with fail
        go_region
        all_goals (go_wp2_with fail)
        all_goals
          go_roundw
          (case rel => exact ⟨j + 1, _, by omega, by go_num, (by first | exact HP1.out | exact HP1.out.drew | exact HP1.out.drewN _ | (have h9 := HP1.out; simp at h9 ⊢; exact h9)), by rw [List.length_set]; exact hyl, hst, (by (repeat (first | with_reducible exact hbw | with_reducible refine Below.drew ?_ | with_reducible refine below_drewN ?_ _ | with_reducible refine Below.setCell ?_ (by first | (simp; done) | omega) _)))⟩)
          (case measure => first | (simp [intOf]; done) | (simp [intOf]; omega))
      · obtain rfl : j = n := by omega
        go_wp2_with fail
        go_ret
        refine ⟨g, c5, ys, rfl, hR, hyl, by omega, hgc, hgm, fun t ht => ?_, E.trans (hbw.mono (by omega))⟩
        rw [HI.out t ht, if_pos ht, DB.out t ht]
        have h9 := zbit_snum true (p - 1) t
        rw [(show snum true (p - 1) = sval true p from (neg_num HP.out).symm)] at h9
        exact h9.symm
theorem twos_any (w : World) (B : Nat) (m : Bool) (A : Option Addr) (k c n p : Nat) (xs : List Nat) (H : DRd w B A k c xs) (hB : B ≤ w.heap.size) (hkm : k ≤ 100000) (hn1 : 1 ≤ n) (hn2 : n ≤ 10000000) (hx : Rep 65536 xs p) :
    Calls Try.prog 99 #[intv m A k c, .int .i64 (n : Int)] w (TwPost (sval m p) n w) := by
  cases m
  · exact twos_f w B A k c n p xs H hB hkm hn1 hn2 hx
  · rcases Nat.eq_zero_or_pos k with e | e
    · subst e
      have hp : p = 0 := by rw [← hx.val, List.eq_nil_of_length_eq_zero H.len.out, vb_nil]
      subst hp
      exact twos_z w B A c n xs H hB (by omega) hn1 hn2 hx
    · have hp : 1 ≤ p := by
        rcases Nat.eq_zero_or_pos p with e2 | e2
        · exfalso
          subst e2
          have := hx.zero_nil (by decide)
          have := H.len.out
          subst this
          simp_all
        · exact e2
      exact twos_n w B A k c n p xs H hB hkm hn1 hn2 hx e hp
end Go.Proofs.Ytpjfoggohhlbdaa
