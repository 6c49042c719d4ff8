/- The reference's Int.Order. -/
import Derived.Test.YtfgkhdpdjclmkaaGreatBInt21
import Derived.Test.YtfgkhdpdjclmkaaGreatBInt20
import Derived.Deep.QuietTactic
import Derived.BigQuiet
namespace Go.Proofs.YtfgkhdpdjclmkaaGreat
open Go.RowKit
set_option maxHeartbeats 400000
set_option maxRecDepth 100000
set_option linter.unusedSimpArgs false
set_option linter.unusedVariables false

def OrdPost (x y : Int) (w : World) (e : Ending) (w' : World) : Prop := ∃ r, ICmp x y r ∧ e = .returned (.int .i64 r) ∧ Below w.heap.size w w'
theorem rep_zero_len {xs : List Nat} {p k : Nat} (h : Rep 65536 xs p) (hl : xs.length = k) : (k = 0 ∧ p = 0) ∨ (0 < k ∧ 0 < p) := by
  rcases Nat.eq_zero_or_pos k with e | e
  · exact .inl ⟨e, (rep_iff h hl).1 e⟩
  · refine .inr ⟨e, ?_⟩
    rcases Nat.eq_zero_or_pos p with e2 | e2
    · have := (rep_iff h hl).2 e2; omega
    · exact e2
theorem ord_nn {p q : Nat} {r : Int} (h : CmpV q p r) : ICmp (sval true p) (sval true q) r := by unfold CmpV at h; unfold ICmp sval; simp; omega
theorem ord_pp {m n : Bool} {p q : Nat} {r : Int} (hm : m = false ∨ p = 0) (hn : n = false ∨ q = 0) (h : CmpV p q r) : ICmp (sval m p) (sval n q) r := by
  have e1 : sval m p = (p : Int) := by unfold sval; rcases hm with rfl | rfl <;> simp
  have e2 : sval n q = (q : Int) := by unfold sval; rcases hn with rfl | rfl <;> simp
  rw [e1, e2]; unfold CmpV at h; unfold ICmp; omega
theorem ord_np {n : Bool} {p q : Nat} (hp : 0 < p) (hn : n = false ∨ q = 0) : ICmp (sval true p) (sval n q) (-1) := by
  have e2 : sval n q = (q : Int) := by unfold sval; rcases hn with rfl | rfl <;> simp
  rw [e2]; unfold ICmp sval; simp; omega
theorem ord_pn {m : Bool} {p q : Nat} (hq : 0 < q) (hm : m = false ∨ p = 0) : ICmp (sval m p) (sval true q) 1 := by
  have e2 : sval m p = (p : Int) := by unfold sval; rcases hm with rfl | rfl <;> simp
  rw [e2]; unfold ICmp sval; simp; omega
set_option maxHeartbeats 2000000 in
theorem ord_f0f0 (w : World) (B : Nat) (A D : Option Addr) (c d p q : Nat) (k : Nat) (l : Nat) (xs ys : List Nat) (h : DRd w B A k c xs) (h2 : DRd w B D l d ys) (hB : B ≤ w.heap.size) (hx : Rep 65536 xs p) (hy : Rep 65536 ys q) :
    Calls Tryz.prog 48 #[intv false A k c, intv false D l d] w (OrdPost (sval false p) (sval false q) w) := by
  have HX := Lib.hid hx
  have HY := Lib.hid hy
  have hc1 := h.cap
  have hc2 := h2.cap
  clear hx hy
  have e2 : Below w.heap.size w ((w.alloc (.cells #[.bool false, .slice A k c] 40)).alloc (.cells #[.bool false, .slice D l d] 40)) := (by (repeat (first | with_reducible exact Below.refl _ _ | with_reducible refine Below.drew ?_ | with_reducible refine below_drewN ?_ _ | with_reducible refine Below.setCell ?_ (by first | (simp <;> omega) | omega) _ | with_reducible refine Below.alloc ?_ (by first | (simp <;> omega) | omega) _)))
  have H := h.below e2 hB
  have K := h2.below e2 hB
  go_enter Tryz.func48, Tryz.ntmps48
  go_wp2_with fail
  go_quiet (fail)
  go_wp2_with fail
  refine (compareD_any _ B A D k l c d xs ys (by (repeat (first | with_reducible exact H | with_reducible refine DRd.alloc ?_ (by first | (simp <;> omega) | omega) _ | with_reducible refine DRd.drewN ?_ _ | with_reducible refine DRd.keep (w := World.drew _) ?_ (fun _ _ => rfl)))) (by (repeat (first | with_reducible exact K | with_reducible refine DRd.alloc ?_ (by first | (simp <;> omega) | omega) _ | with_reducible refine DRd.drewN ?_ _ | with_reducible refine DRd.keep (w := World.drew _) ?_ (fun _ _ => rfl))))).mono ?_
  rintro e w9 ⟨r, rfl, hci, j, rfl⟩
  have hcv := Lib.hid (cmp_rep (by decide) hci H.len.out K.len.out HX.out HY.out)
  clear hci
  go_wp2_with fail
  go_ret
  exact ⟨_, ord_pp (.inl rfl) (.inl rfl) hcv.out, rfl, (by (repeat (first | with_reducible exact Below.refl _ _ | with_reducible exact e2 | with_reducible refine Below.drew ?_ | with_reducible refine below_drewN ?_ _ | with_reducible refine Below.setCell ?_ (by first | (simp <;> omega) | omega) _ | with_reducible refine Below.alloc ?_ (by first | (simp <;> omega) | omega) _)))⟩
set_option maxHeartbeats 2000000 in
theorem ord_f0t1 (w : World) (B : Nat) (A D : Option Addr) (c d p q : Nat) (k : Nat) (xs ys : List Nat) (h : DRd w B A k c xs) (h2 : DRd w B D 0 d ys) (hB : B ≤ w.heap.size) (hx : Rep 65536 xs p) (hy : Rep 65536 ys q) :
    Calls Tryz.prog 48 #[intv false A k c, intv true D 0 d] w (OrdPost (sval false p) (sval true q) w) := by
  have HX := Lib.hid hx
  have HY := Lib.hid hy
  have hc1 := h.cap
  have hc2 := h2.cap
  clear hx hy
  have e2 : Below w.heap.size w ((w.alloc (.cells #[.bool false, .slice A k c] 40)).alloc (.cells #[.bool true, .slice D 0 d] 40)) := (by (repeat (first | with_reducible exact Below.refl _ _ | with_reducible refine Below.drew ?_ | with_reducible refine below_drewN ?_ _ | with_reducible refine Below.setCell ?_ (by first | (simp <;> omega) | omega) _ | with_reducible refine Below.alloc ?_ (by first | (simp <;> omega) | omega) _)))
  have H := h.below e2 hB
  have K := h2.below e2 hB
  go_enter Tryz.func48, Tryz.ntmps48
  go_wp2_with fail
  go_quiet (fail)
  go_wp2_with fail
  refine (compareD_any _ B A D k 0 c d xs ys (by (repeat (first | with_reducible exact H | with_reducible refine DRd.alloc ?_ (by first | (simp <;> omega) | omega) _ | with_reducible refine DRd.drewN ?_ _ | with_reducible refine DRd.keep (w := World.drew _) ?_ (fun _ _ => rfl)))) (by (repeat (first | with_reducible exact K | with_reducible refine DRd.alloc ?_ (by first | (simp <;> omega) | omega) _ | with_reducible refine DRd.drewN ?_ _ | with_reducible refine DRd.keep (w := World.drew _) ?_ (fun _ _ => rfl))))).mono ?_
  rintro e w9 ⟨r, rfl, hci, j, rfl⟩
  have hcv := Lib.hid (cmp_rep (by decide) hci H.len.out K.len.out HX.out HY.out)
  clear hci
  go_wp2_with fail
  go_ret
  have hq0 : q = 0 := (rep_iff HY.out K.len.out).1 rfl
  exact ⟨_, ord_pp (.inl rfl) (.inr hq0) hcv.out, rfl, (by (repeat (first | with_reducible exact Below.refl _ _ | with_reducible exact e2 | with_reducible refine Below.drew ?_ | with_reducible refine below_drewN ?_ _ | with_reducible refine Below.setCell ?_ (by first | (simp <;> omega) | omega) _ | with_reducible refine Below.alloc ?_ (by first | (simp <;> omega) | omega) _)))⟩
set_option maxHeartbeats 2000000 in
theorem ord_f0t0 (w : World) (B : Nat) (A D : Option Addr) (c d p q : Nat) (k : Nat) (l : Nat) (xs ys : List Nat) (h : DRd w B A k c xs) (h2 : DRd w B D l d ys) (hB : B ≤ w.heap.size) (hx : Rep 65536 xs p) (hy : Rep 65536 ys q) (hl0 : 0 < l) :
    Calls Tryz.prog 48 #[intv false A k c, intv true D l d] w (OrdPost (sval false p) (sval true q) w) := by
  have HX := Lib.hid hx
  have HY := Lib.hid hy
  have hc1 := h.cap
  have hc2 := h2.cap
  have hl1 : 0 < (l : Int) := by omega
  clear hx hy
  have e2 : Below w.heap.size w ((w.alloc (.cells #[.bool false, .slice A k c] 40)).alloc (.cells #[.bool true, .slice D l d] 40)) := (by (repeat (first | with_reducible exact Below.refl _ _ | with_reducible refine Below.drew ?_ | with_reducible refine below_drewN ?_ _ | with_reducible refine Below.setCell ?_ (by first | (simp <;> omega) | omega) _ | with_reducible refine Below.alloc ?_ (by first | (simp <;> omega) | omega) _)))
  have H := h.below e2 hB
  have K := h2.below e2 hB
  go_enter Tryz.func48, Tryz.ntmps48
  go_wp2_with fail
  go_quiet (fail)
  go_wp2_with fail
  go_ret
  have hq1 : 0 < q := by rcases rep_zero_len HY.out K.len.out with h | h <;> omega
  exact ⟨_, ord_pn hq1 (.inl rfl), rfl, (by (repeat (first | with_reducible exact Below.refl _ _ | with_reducible exact e2 | with_reducible refine Below.drew ?_ | with_reducible refine below_drewN ?_ _ | with_reducible refine Below.setCell ?_ (by first | (simp <;> omega) | omega) _ | with_reducible refine Below.alloc ?_ (by first | (simp <;> omega) | omega) _)))⟩
set_option maxHeartbeats 2000000 in
theorem ord_t1f0 (w : World) (B : Nat) (A D : Option Addr) (c d p q : Nat) (l : Nat) (xs ys : List Nat) (h : DRd w B A 0 c xs) (h2 : DRd w B D l d ys) (hB : B ≤ w.heap.size) (hx : Rep 65536 xs p) (hy : Rep 65536 ys q) :
    Calls Tryz.prog 48 #[intv true A 0 c, intv false D l d] w (OrdPost (sval true p) (sval false q) w) := by
  have HX := Lib.hid hx
  have HY := Lib.hid hy
  have hc1 := h.cap
  have hc2 := h2.cap
  clear hx hy
  have e2 : Below w.heap.size w ((w.alloc (.cells #[.bool true, .slice A 0 c] 40)).alloc (.cells #[.bool false, .slice D l d] 40)) := (by (repeat (first | with_reducible exact Below.refl _ _ | with_reducible refine Below.drew ?_ | with_reducible refine below_drewN ?_ _ | with_reducible refine Below.setCell ?_ (by first | (simp <;> omega) | omega) _ | with_reducible refine Below.alloc ?_ (by first | (simp <;> omega) | omega) _)))
  have H := h.below e2 hB
  have K := h2.below e2 hB
  go_enter Tryz.func48, Tryz.ntmps48
  go_wp2_with fail
  go_quiet (fail)
  go_wp2_with fail
  refine (compareD_any _ B A D 0 l c d xs ys (by (repeat (first | with_reducible exact H | with_reducible refine DRd.alloc ?_ (by first | (simp <;> omega) | omega) _ | with_reducible refine DRd.drewN ?_ _ | with_reducible refine DRd.keep (w := World.drew _) ?_ (fun _ _ => rfl)))) (by (repeat (first | with_reducible exact K | with_reducible refine DRd.alloc ?_ (by first | (simp <;> omega) | omega) _ | with_reducible refine DRd.drewN ?_ _ | with_reducible refine DRd.keep (w := World.drew _) ?_ (fun _ _ => rfl))))).mono ?_
  rintro e w9 ⟨r, rfl, hci, j, rfl⟩
  have hcv := Lib.hid (cmp_rep (by decide) hci H.len.out K.len.out HX.out HY.out)
  clear hci
  go_wp2_with fail
  go_ret
  have hp0 : p = 0 := (rep_iff HX.out H.len.out).1 rfl
  exact ⟨_, ord_pp (.inr hp0) (.inl rfl) hcv.out, rfl, (by (repeat (first | with_reducible exact Below.refl _ _ | with_reducible exact e2 | with_reducible refine Below.drew ?_ | with_reducible refine below_drewN ?_ _ | with_reducible refine Below.setCell ?_ (by first | (simp <;> omega) | omega) _ | with_reducible refine Below.alloc ?_ (by first | (simp <;> omega) | omega) _)))⟩
set_option maxHeartbeats 2000000 in
theorem ord_t1t1 (w : World) (B : Nat) (A D : Option Addr) (c d p q : Nat) (xs ys : List Nat) (h : DRd w B A 0 c xs) (h2 : DRd w B D 0 d ys) (hB : B ≤ w.heap.size) (hx : Rep 65536 xs p) (hy : Rep 65536 ys q) :
    Calls Tryz.prog 48 #[intv true A 0 c, intv true D 0 d] w (OrdPost (sval true p) (sval true q) w) := by
  have HX := Lib.hid hx
  have HY := Lib.hid hy
  have hc1 := h.cap
  have hc2 := h2.cap
  clear hx hy
  have e2 : Below w.heap.size w ((w.alloc (.cells #[.bool true, .slice A 0 c] 40)).alloc (.cells #[.bool true, .slice D 0 d] 40)) := (by (repeat (first | with_reducible exact Below.refl _ _ | with_reducible refine Below.drew ?_ | with_reducible refine below_drewN ?_ _ | with_reducible refine Below.setCell ?_ (by first | (simp <;> omega) | omega) _ | with_reducible refine Below.alloc ?_ (by first | (simp <;> omega) | omega) _)))
  have H := h.below e2 hB
  have K := h2.below e2 hB
  go_enter Tryz.func48, Tryz.ntmps48
  go_wp2_with fail
  go_quiet (fail)
  go_wp2_with fail
  refine (compareD_any _ B A D 0 0 c d xs ys (by (repeat (first | with_reducible exact H | with_reducible refine DRd.alloc ?_ (by first | (simp <;> omega) | omega) _ | with_reducible refine DRd.drewN ?_ _ | with_reducible refine DRd.keep (w := World.drew _) ?_ (fun _ _ => rfl)))) (by (repeat (first | with_reducible exact K | with_reducible refine DRd.alloc ?_ (by first | (simp <;> omega) | omega) _ | with_reducible refine DRd.drewN ?_ _ | with_reducible refine DRd.keep (w := World.drew _) ?_ (fun _ _ => rfl))))).mono ?_
  rintro e w9 ⟨r, rfl, hci, j, rfl⟩
  have hcv := Lib.hid (cmp_rep (by decide) hci H.len.out K.len.out HX.out HY.out)
  clear hci
  go_wp2_with fail
  go_ret
  have hp0 : p = 0 := (rep_iff HX.out H.len.out).1 rfl
  have hq0 : q = 0 := (rep_iff HY.out K.len.out).1 rfl
  exact ⟨_, ord_pp (.inr hp0) (.inr hq0) hcv.out, rfl, (by (repeat (first | with_reducible exact Below.refl _ _ | with_reducible exact e2 | with_reducible refine Below.drew ?_ | with_reducible refine below_drewN ?_ _ | with_reducible refine Below.setCell ?_ (by first | (simp <;> omega) | omega) _ | with_reducible refine Below.alloc ?_ (by first | (simp <;> omega) | omega) _)))⟩
set_option maxHeartbeats 2000000 in
theorem ord_t1t0 (w : World) (B : Nat) (A D : Option Addr) (c d p q : Nat) (l : Nat) (xs ys : List Nat) (h : DRd w B A 0 c xs) (h2 : DRd w B D l d ys) (hB : B ≤ w.heap.size) (hx : Rep 65536 xs p) (hy : Rep 65536 ys q) (hl0 : 0 < l) :
    Calls Tryz.prog 48 #[intv true A 0 c, intv true D l d] w (OrdPost (sval true p) (sval true q) w) := by
  have HX := Lib.hid hx
  have HY := Lib.hid hy
  have hc1 := h.cap
  have hc2 := h2.cap
  have hl1 : 0 < (l : Int) := by omega
  clear hx hy
  have e2 : Below w.heap.size w ((w.alloc (.cells #[.bool true, .slice A 0 c] 40)).alloc (.cells #[.bool true, .slice D l d] 40)) := (by (repeat (first | with_reducible exact Below.refl _ _ | with_reducible refine Below.drew ?_ | with_reducible refine below_drewN ?_ _ | with_reducible refine Below.setCell ?_ (by first | (simp <;> omega) | omega) _ | with_reducible refine Below.alloc ?_ (by first | (simp <;> omega) | omega) _)))
  have H := h.below e2 hB
  have K := h2.below e2 hB
  go_enter Tryz.func48, Tryz.ntmps48
  go_wp2_with fail
  go_quiet (fail)
  go_wp2_with fail
  go_ret
  have hp0 : p = 0 := (rep_iff HX.out H.len.out).1 rfl
  have hq1 : 0 < q := by rcases rep_zero_len HY.out K.len.out with h | h <;> omega
  exact ⟨_, ord_pn hq1 (.inr hp0), rfl, (by (repeat (first | with_reducible exact Below.refl _ _ | with_reducible exact e2 | with_reducible refine Below.drew ?_ | with_reducible refine below_drewN ?_ _ | with_reducible refine Below.setCell ?_ (by first | (simp <;> omega) | omega) _ | with_reducible refine Below.alloc ?_ (by first | (simp <;> omega) | omega) _)))⟩
set_option maxHeartbeats 2000000 in
theorem ord_t0f0 (w : World) (B : Nat) (A D : Option Addr) (c d p q : Nat) (k : Nat) (l : Nat) (xs ys : List Nat) (h : DRd w B A k c xs) (h2 : DRd w B D l d ys) (hB : B ≤ w.heap.size) (hx : Rep 65536 xs p) (hy : Rep 65536 ys q) (hk0 : 0 < k) :
    Calls Tryz.prog 48 #[intv true A k c, intv false D l d] w (OrdPost (sval true p) (sval false q) w) := by
  have HX := Lib.hid hx
  have HY := Lib.hid hy
  have hc1 := h.cap
  have hc2 := h2.cap
  have hk1 : 0 < (k : Int) := by omega
  clear hx hy
  have e2 : Below w.heap.size w ((w.alloc (.cells #[.bool true, .slice A k c] 40)).alloc (.cells #[.bool false, .slice D l d] 40)) := (by (repeat (first | with_reducible exact Below.refl _ _ | with_reducible refine Below.drew ?_ | with_reducible refine below_drewN ?_ _ | with_reducible refine Below.setCell ?_ (by first | (simp <;> omega) | omega) _ | with_reducible refine Below.alloc ?_ (by first | (simp <;> omega) | omega) _)))
  have H := h.below e2 hB
  have K := h2.below e2 hB
  go_enter Tryz.func48, Tryz.ntmps48
  go_wp2_with fail
  go_quiet (fail)
  go_wp2_with fail
  go_ret
  have hp1 : 0 < p := by rcases rep_zero_len HX.out H.len.out with h | h <;> omega
  exact ⟨_, ord_np hp1 (.inl rfl), rfl, (by (repeat (first | with_reducible exact Below.refl _ _ | with_reducible exact e2 | with_reducible refine Below.drew ?_ | with_reducible refine below_drewN ?_ _ | with_reducible refine Below.setCell ?_ (by first | (simp <;> omega) | omega) _ | with_reducible refine Below.alloc ?_ (by first | (simp <;> omega) | omega) _)))⟩
set_option maxHeartbeats 2000000 in
theorem ord_t0t1 (w : World) (B : Nat) (A D : Option Addr) (c d p q : Nat) (k : Nat) (xs ys : List Nat) (h : DRd w B A k c xs) (h2 : DRd w B D 0 d ys) (hB : B ≤ w.heap.size) (hx : Rep 65536 xs p) (hy : Rep 65536 ys q) (hk0 : 0 < k) :
    Calls Tryz.prog 48 #[intv true A k c, intv true D 0 d] w (OrdPost (sval true p) (sval true q) w) := by
  have HX := Lib.hid hx
  have HY := Lib.hid hy
  have hc1 := h.cap
  have hc2 := h2.cap
  have hk1 : 0 < (k : Int) := by omega
  clear hx hy
  have e2 : Below w.heap.size w ((w.alloc (.cells #[.bool true, .slice A k c] 40)).alloc (.cells #[.bool true, .slice D 0 d] 40)) := (by (repeat (first | with_reducible exact Below.refl _ _ | with_reducible refine Below.drew ?_ | with_reducible refine below_drewN ?_ _ | with_reducible refine Below.setCell ?_ (by first | (simp <;> omega) | omega) _ | with_reducible refine Below.alloc ?_ (by first | (simp <;> omega) | omega) _)))
  have H := h.below e2 hB
  have K := h2.below e2 hB
  go_enter Tryz.func48, Tryz.ntmps48
  go_wp2_with fail
  go_quiet (fail)
  go_wp2_with fail
  go_ret
  have hq0 : q = 0 := (rep_iff HY.out K.len.out).1 rfl
  have hp1 : 0 < p := by rcases rep_zero_len HX.out H.len.out with h | h <;> omega
  exact ⟨_, ord_np hp1 (.inr hq0), rfl, (by (repeat (first | with_reducible exact Below.refl _ _ | with_reducible exact e2 | with_reducible refine Below.drew ?_ | with_reducible refine below_drewN ?_ _ | with_reducible refine Below.setCell ?_ (by first | (simp <;> omega) | omega) _ | with_reducible refine Below.alloc ?_ (by first | (simp <;> omega) | omega) _)))⟩
set_option maxHeartbeats 2000000 in
theorem ord_t0t0 (w : World) (B : Nat) (A D : Option Addr) (c d p q : Nat) (k : Nat) (l : Nat) (xs ys : List Nat) (h : DRd w B A k c xs) (h2 : DRd w B D l d ys) (hB : B ≤ w.heap.size) (hx : Rep 65536 xs p) (hy : Rep 65536 ys q) (hk0 : 0 < k) (hl0 : 0 < l) :
    Calls Tryz.prog 48 #[intv true A k c, intv true D l d] w (OrdPost (sval true p) (sval true q) w) := by
  have HX := Lib.hid hx
  have HY := Lib.hid hy
  have hc1 := h.cap
  have hc2 := h2.cap
  have hk1 : 0 < (k : Int) := by omega
  have hl1 : 0 < (l : Int) := by omega
  clear hx hy
  have e2 : Below w.heap.size w ((w.alloc (.cells #[.bool true, .slice A k c] 40)).alloc (.cells #[.bool true, .slice D l d] 40)) := (by (repeat (first | with_reducible exact Below.refl _ _ | with_reducible refine Below.drew ?_ | with_reducible refine below_drewN ?_ _ | with_reducible refine Below.setCell ?_ (by first | (simp <;> omega) | omega) _ | with_reducible refine Below.alloc ?_ (by first | (simp <;> omega) | omega) _)))
  have H := h.below e2 hB
  have K := h2.below e2 hB
  go_enter Tryz.func48, Tryz.ntmps48
  go_wp2_with fail
  go_quiet (fail)
  go_wp2_with fail
  refine (compareD_any _ B D A l k d c ys xs (by (repeat (first | with_reducible exact K | with_reducible refine DRd.alloc ?_ (by first | (simp <;> omega) | omega) _ | with_reducible refine DRd.drewN ?_ _ | with_reducible refine DRd.keep (w := World.drew _) ?_ (fun _ _ => rfl)))) (by (repeat (first | with_reducible exact H | with_reducible refine DRd.alloc ?_ (by first | (simp <;> omega) | omega) _ | with_reducible refine DRd.drewN ?_ _ | with_reducible refine DRd.keep (w := World.drew _) ?_ (fun _ _ => rfl))))).mono ?_
  rintro e w9 ⟨r, rfl, hci, j, rfl⟩
  have hcv := Lib.hid (cmp_rep (by decide) hci K.len.out H.len.out HY.out HX.out)
  clear hci
  go_wp2_with fail
  go_ret
  exact ⟨_, ord_nn hcv.out, rfl, (by (repeat (first | with_reducible exact Below.refl _ _ | with_reducible exact e2 | with_reducible refine Below.drew ?_ | with_reducible refine below_drewN ?_ _ | with_reducible refine Below.setCell ?_ (by first | (simp <;> omega) | omega) _ | with_reducible refine Below.alloc ?_ (by first | (simp <;> omega) | omega) _)))⟩
theorem rorder_any (w : World) (B : Nat) (m n : Bool) (A D : Option Addr) (k l c d p q : Nat) (xs ys : List Nat) (h : DRd w B A k c xs) (h2 : DRd w B D l d ys) (hB : B ≤ w.heap.size) (hx : Rep 65536 xs p) (hy : Rep 65536 ys q) :
    Calls Tryz.prog 48 #[intv m A k c, intv n D l d] w (OrdPost (sval m p) (sval n q) w) := by
  cases m
  · cases n
    · exact ord_f0f0 w B A D c d p q k l xs ys h h2 hB hx hy
    · rcases Nat.eq_zero_or_pos l with e | e
      · subst e; exact ord_f0t1 w B A D c d p q k xs ys h h2 hB hx hy
      · exact ord_f0t0 w B A D c d p q k l xs ys h h2 hB hx hy e
  · rcases Nat.eq_zero_or_pos k with e1 | e1
    · subst e1
      cases n
      · exact ord_t1f0 w B A D c d p q l xs ys h h2 hB hx hy
      · rcases Nat.eq_zero_or_pos l with e | e
        · subst e; exact ord_t1t1 w B A D c d p q xs ys h h2 hB hx hy
        · exact ord_t1t0 w B A D c d p q l xs ys h h2 hB hx hy e
    · cases n
      · exact ord_t0f0 w B A D c d p q k l xs ys h h2 hB hx hy e1
      · rcases Nat.eq_zero_or_pos l with e | e
        · subst e; exact ord_t0t1 w B A D c d p q k xs ys h h2 hB hx hy e1
        · exact ord_t0t0 w B A D c d p q k l xs ys h h2 hB hx hy e1 e
end Go.Proofs.YtfgkhdpdjclmkaaGreat
