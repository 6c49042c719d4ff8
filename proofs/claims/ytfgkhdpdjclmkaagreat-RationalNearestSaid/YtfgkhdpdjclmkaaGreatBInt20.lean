/- The reference's Int.Plus. -/
import Derived.Test.YtfgkhdpdjclmkaaGreatBi
import Derived.Test.YtfgkhdpdjclmkaaGreatBd
import Derived.Deep.RegionWith
namespace Go.Proofs.YtfgkhdpdjclmkaaGreat
open Go.RowKit
set_option maxHeartbeats 400000
set_option maxRecDepth 100000
set_option linter.unusedSimpArgs false
set_option linter.unusedVariables false

theorem DRd.setBD {w : World} {B n c g : Nat} {A : Option Addr} {xs : List Nat} {u v : Value} (h : DRd w B A n c xs) (k : Bk2 w g u v) (hu : ∀ x, u ≠ .int .i64 x) (hv : ∀ x, v ≠ .int .i64 x) (x y : Value) : DRd ((w.setCell ⟨g, 0, none⟩ x).setCell ⟨g, 1, none⟩ y) B A n c xs :=
  (h.setO (fun z => by rw [k.c0]; intro e; injection e with e; exact hu z e) x).setO (fun z => by rw [World.cell?_setCell_other _ _ _ _ (by simp), k.c1]; intro e; injection e with e; exact hv z e) y
theorem Bk2.newAt' (w : World) (g : Nat) (hg : w.heap.size = g) (u v : Value) (t : TypeId) : Bk2 (w.alloc (.cells #[u, v] t)) g u v := by subst hg; exact Bk2.new w u v t
theorem bnext' {W v v' : World} (h : Below W.heap.size W v) (hb : Below v.heap.size v v') : Below W.heap.size W v' := h.trans (hb.mono h.size)
theorem rep_len_le {xs ys : List Nat} {p q n m : Nat} (hx : Rep 65536 xs p) (hy : Rep 65536 ys q) (hn : xs.length = n) (hm : ys.length = m) (h : q ≤ p) : m ≤ n := by
  rcases Nat.lt_or_ge n m with e | e
  · exfalso
    have := vb_less_len (b := 65536) (by decide) hx.dig hy.top (by omega)
    rw [hx.val, hy.val] at this; omega
  · exact e
theorem sval_add (m : Bool) (p q : Nat) : sval m (p + q) = sval m p + sval m q := by unfold sval; cases m <;> simp <;> omega
theorem sval_dif {m n : Bool} {p q : Nat} (hne : m ≠ n) (h : q ≤ p) : sval m (p - q) = sval m p + sval n q := by unfold sval; cases m <;> cases n <;> simp at * <;> omega
theorem sval_dif' {m n : Bool} {p q : Nat} (hne : m ≠ n) (h : p ≤ q) : sval n (q - p) = sval m p + sval n q := by unfold sval; cases m <;> cases n <;> simp at * <;> omega
set_option maxHeartbeats 2000000 in
theorem rplus_same (w : World) (B : Nat) (m : Bool) (A D : Option Addr) (k l c d p q : Nat) (xs ys : List Nat) (h : DRd w B A k c xs) (h2 : DRd w B D l d ys) (hB : B ≤ w.heap.size) (hx : Rep 65536 xs p) (hy : Rep 65536 ys q) (hk : k ≤ 100000) (hl : l ≤ 100000)  :
    Calls Tryz.prog 41 #[intv m A k c, intv m D l d] w (GivesR w (sval m p + sval m q)) := by
  have HX := Lib.hid hx
  have HY := Lib.hid hy
  clear hx hy

  go_enter Tryz.func41, Tryz.ntmps41
  have e3 : Below w.heap.size w (((w.alloc (.cells #[.bool m, .slice A k c] 40)).alloc (.cells #[.bool m, .slice D l d] 40)).alloc (.cells #[.bool false, .slice none 0 0] 40)) := (by (repeat (first | with_reducible exact Below.refl _ _ | with_reducible refine Below.drew ?_ | with_reducible refine below_drewN ?_ _ | with_reducible refine Below.setCell ?_ (by first | (simp <;> omega) | omega) _ | with_reducible refine Below.alloc ?_ (by first | (simp <;> omega) | omega) _)))
  have P0 : Bk2 (((w.alloc (.cells #[.bool m, .slice A k c] 40)).alloc (.cells #[.bool m, .slice D l d] 40)).alloc (.cells #[.bool false, .slice none 0 0] 40)) w.heap.size (.bool m) (.slice A k c) := ((Bk2.newAt' _ _ rfl _ _ _).alloc _).alloc _
  have P1 : Bk2 (((w.alloc (.cells #[.bool m, .slice A k c] 40)).alloc (.cells #[.bool m, .slice D l d] 40)).alloc (.cells #[.bool false, .slice none 0 0] 40)) (w.heap.size + 1) (.bool m) (.slice D l d) := (Bk2.newAt' _ _ (by simp) _ _ _).alloc _
  have PR : Bk2 (((w.alloc (.cells #[.bool m, .slice A k c] 40)).alloc (.cells #[.bool m, .slice D l d] 40)).alloc (.cells #[.bool false, .slice none 0 0] 40)) (w.heap.size + 2) (.bool false) (.slice none 0 0) := Bk2.newAt' _ _ (by simp) _ _ _
  have H := h.below e3 hB
  have K := h2.below e3 hB
  go_wp2_with fail
  obtain ⟨W, hW⟩ : ∃ W : World, W = ((w.alloc (.cells #[.bool m, .slice A k c] 40)).alloc (.cells #[.bool m, .slice D l d] 40)).alloc (.cells #[.bool false, .slice none 0 0] 40) := ⟨_, rfl⟩
  have sW : w.heap.size + 3 = W.heap.size := by rw [hW]; simp
  rw [← hW] at P0 P1 PR H K e3 ⊢
  have EW := e3
  have hBW : B ≤ W.heap.size := by omega
  have sW := Nat.le_of_eq sW
  clear hW e3
  have G0 : Below W.heap.size W W.drew := Below.drew (Below.refl _ _)
  have TT := fun (u : World) (hu : Below W.heap.size W u) => plus_any u B A D k l c d (max k l) xs ys (H.below hu (by omega)) (K.below hu (by omega)) (by have := hu.size; omega) (by omega) (by omega) (by omega) (by omega)
  have a0 := (P0.below G0 P0.lt).c0
  have a1 := (P0.below G0 P0.lt).c1
  have b0 := (P1.below G0 P1.lt).c0
  have b1 := (P1.below G0 P1.lt).c1
  have H0 := Lib.hid P0
  have H1 := Lib.hid P1
  have HRr := Lib.hid PR
  clear P0 P1 PR h h2
  go_region_with (go_at_call 85; go_loud ((with_reducible refine (TT _ (by first | with_reducible exact G0 | with_reducible exact Below.drew G0)).mono ?_); rintro e w5 ⟨A5, k5, c5, zs, rfl, hZ, hZr, hb5⟩; have G5 : Below W.heap.size W w5 := bnext' G0 hb5; obtain ⟨p0, p1, _, _, _⟩ := H0.out.below G5 H0.out.lt; obtain ⟨q0, q1, _, _, _⟩ := H1.out.below G5 H1.out.lt; obtain ⟨r0, r1, rz0, rz1, _⟩ := HRr.out.below G5 HRr.out.lt; have HZ := Lib.hid hZr; clear hZr))
  all_goals (go_wp2_with fail)
  all_goals
    have R5 := HRr.out.below G5 HRr.out.lt
    have hS := hZ.setBD R5 (by simp) (by simp) (.bool m) (.slice A5 k5 c5)
    have E5 : Below w.heap.size w w5 := EW.trans (G5.mono EW.size)
    first
      | refine bodyPost_ret (v := intv m A5 k5 c5) (by simp [results, Tryz.results41, go_sem, r0, r1]) rfl ⟨m, A5, k5, c5, zs, (p + q), rfl, DRd.more hS (by simp), (by have := HZ.out; rwa [HX.out.val, HY.out.val] at this), sval_add _ _ _, ?_⟩
      | refine bodyPost_ret (v := intv m A5 k5 c5) (by simp [results, Tryz.results41, go_sem, r0, r1]) rfl ⟨m, A5, k5, c5, zs, (p + q), rfl, DRd.keep (DRd.more hS (by simp)) (fun _ _ => rfl), (by have := HZ.out; rwa [HX.out.val, HY.out.val] at this), sval_add _ _ _, ?_⟩
    (repeat (first | with_reducible exact Below.refl _ _ | with_reducible exact E5 | with_reducible refine Below.drew ?_ | with_reducible refine below_drewN ?_ _ | with_reducible refine Below.setCell ?_ (by first | (simp <;> omega) | omega) _ | with_reducible refine Below.alloc ?_ (by first | (simp <;> omega) | omega) _))
set_option maxHeartbeats 2000000 in
theorem rplus_ge (w : World) (B : Nat) (m n : Bool) (A D : Option Addr) (k l c d p q : Nat) (xs ys : List Nat) (h : DRd w B A k c xs) (h2 : DRd w B D l d ys) (hB : B ≤ w.heap.size) (hx : Rep 65536 xs p) (hy : Rep 65536 ys q) (hk : k ≤ 100000) (hl : l ≤ 100000) (hs : Hid (m ≠ n)) (hpq : Hid (q ≤ p)) :
    Calls Tryz.prog 41 #[intv m A k c, intv n D l d] w (GivesR w (sval m p + sval n q)) := by
  have HX := Lib.hid hx
  have HY := Lib.hid hy
  clear hx hy
  have hne : (m == n) = false := beq_eq_false_iff_ne.2 hs.out
  go_enter Tryz.func41, Tryz.ntmps41
  have e3 : Below w.heap.size w (((w.alloc (.cells #[.bool m, .slice A k c] 40)).alloc (.cells #[.bool n, .slice D l d] 40)).alloc (.cells #[.bool false, .slice none 0 0] 40)) := (by (repeat (first | with_reducible exact Below.refl _ _ | with_reducible refine Below.drew ?_ | with_reducible refine below_drewN ?_ _ | with_reducible refine Below.setCell ?_ (by first | (simp <;> omega) | omega) _ | with_reducible refine Below.alloc ?_ (by first | (simp <;> omega) | omega) _)))
  have P0 : Bk2 (((w.alloc (.cells #[.bool m, .slice A k c] 40)).alloc (.cells #[.bool n, .slice D l d] 40)).alloc (.cells #[.bool false, .slice none 0 0] 40)) w.heap.size (.bool m) (.slice A k c) := ((Bk2.newAt' _ _ rfl _ _ _).alloc _).alloc _
  have P1 : Bk2 (((w.alloc (.cells #[.bool m, .slice A k c] 40)).alloc (.cells #[.bool n, .slice D l d] 40)).alloc (.cells #[.bool false, .slice none 0 0] 40)) (w.heap.size + 1) (.bool n) (.slice D l d) := (Bk2.newAt' _ _ (by simp) _ _ _).alloc _
  have PR : Bk2 (((w.alloc (.cells #[.bool m, .slice A k c] 40)).alloc (.cells #[.bool n, .slice D l d] 40)).alloc (.cells #[.bool false, .slice none 0 0] 40)) (w.heap.size + 2) (.bool false) (.slice none 0 0) := Bk2.newAt' _ _ (by simp) _ _ _
  have H := h.below e3 hB
  have K := h2.below e3 hB
  go_wp2_with fail
  refine (compareD_any _ B A D k l c d xs ys H K).mono ?_
  rintro e w9 ⟨r, rfl, hci, j, rfl⟩
  have hcv := cmp_rep (by decide) hci H.len.out K.len.out HX.out HY.out
  clear hci
  have hr : 0 ≤ r := by have := hpq.out; unfold CmpV at hcv; omega
  clear hcv
  go_wp2_with fail
  obtain ⟨W, hW⟩ : ∃ W : World, W = (((w.alloc (.cells #[.bool m, .slice A k c] 40)).alloc (.cells #[.bool n, .slice D l d] 40)).alloc (.cells #[.bool false, .slice none 0 0] 40)).drewN j := ⟨_, rfl⟩
  have EW : Below w.heap.size w W := by rw [hW]; exact below_drewN e3 j
  have P0 : Bk2 W w.heap.size (.bool m) (.slice A k c) := by rw [hW]; exact P0.drewN j
  have P1 : Bk2 W (w.heap.size + 1) (.bool n) (.slice D l d) := by rw [hW]; exact P1.drewN j
  have PR : Bk2 W (w.heap.size + 2) (.bool false) (.slice none 0 0) := by rw [hW]; exact PR.drewN j
  have H : DRd W B A k c xs := by rw [hW]; exact H.drewN j
  have K : DRd W B D l d ys := by rw [hW]; exact K.drewN j
  have sW : w.heap.size + 3 ≤ W.heap.size := by rw [hW]; simp
  rw [← hW]
  have hBW : B ≤ W.heap.size := by omega
  clear hW e3
  have G0 : Below W.heap.size W W.drew := Below.drew (Below.refl _ _)
  have TT := fun (u : World) (hu : Below W.heap.size W u) => minus_any u B A D k l c d xs ys (H.below hu (by omega)) (K.below hu (by omega)) (by have := hu.size; omega) (rep_len_le HX.out HY.out H.len.out K.len.out hpq.out) (by omega) (by rw [HX.out.val, HY.out.val]; exact hpq.out)
  have a0 := (P0.below G0 P0.lt).c0
  have a1 := (P0.below G0 P0.lt).c1
  have b0 := (P1.below G0 P1.lt).c0
  have b1 := (P1.below G0 P1.lt).c1
  have H0 := Lib.hid P0
  have H1 := Lib.hid P1
  have HRr := Lib.hid PR
  clear P0 P1 PR h h2
  go_region_with (go_at_call 86; go_loud ((with_reducible refine (TT _ (by first | with_reducible exact G0 | with_reducible exact Below.drew G0)).mono ?_); rintro e w5 ⟨A5, k5, c5, zs, rfl, hZ, hZr, hb5⟩; have G5 : Below W.heap.size W w5 := bnext' G0 hb5; obtain ⟨p0, p1, _, _, _⟩ := H0.out.below G5 H0.out.lt; obtain ⟨q0, q1, _, _, _⟩ := H1.out.below G5 H1.out.lt; obtain ⟨r0, r1, rz0, rz1, _⟩ := HRr.out.below G5 HRr.out.lt; have HZ := Lib.hid hZr; clear hZr))
  all_goals (go_wp2_with fail)
  all_goals
    have R5 := HRr.out.below G5 HRr.out.lt
    have hS := hZ.setBD R5 (by simp) (by simp) (.bool m) (.slice A5 k5 c5)
    have E5 : Below w.heap.size w w5 := EW.trans (G5.mono EW.size)
    first
      | refine bodyPost_ret (v := intv m A5 k5 c5) (by simp [results, Tryz.results41, go_sem, r0, r1]) rfl ⟨m, A5, k5, c5, zs, (p - q), rfl, DRd.more hS (by simp), (by have := HZ.out; rwa [HX.out.val, HY.out.val] at this), sval_dif hs.out hpq.out, ?_⟩
      | refine bodyPost_ret (v := intv m A5 k5 c5) (by simp [results, Tryz.results41, go_sem, r0, r1]) rfl ⟨m, A5, k5, c5, zs, (p - q), rfl, DRd.keep (DRd.more hS (by simp)) (fun _ _ => rfl), (by have := HZ.out; rwa [HX.out.val, HY.out.val] at this), sval_dif hs.out hpq.out, ?_⟩
    (repeat (first | with_reducible exact Below.refl _ _ | with_reducible exact E5 | with_reducible refine Below.drew ?_ | with_reducible refine below_drewN ?_ _ | with_reducible refine Below.setCell ?_ (by first | (simp <;> omega) | omega) _ | with_reducible refine Below.alloc ?_ (by first | (simp <;> omega) | omega) _))
set_option maxHeartbeats 2000000 in
theorem rplus_lt (w : World) (B : Nat) (m n : Bool) (A D : Option Addr) (k l c d p q : Nat) (xs ys : List Nat) (h : DRd w B A k c xs) (h2 : DRd w B D l d ys) (hB : B ≤ w.heap.size) (hx : Rep 65536 xs p) (hy : Rep 65536 ys q) (hk : k ≤ 100000) (hl : l ≤ 100000) (hs : Hid (m ≠ n)) (hpq : Hid (p < q)) :
    Calls Tryz.prog 41 #[intv m A k c, intv n D l d] w (GivesR w (sval m p + sval n q)) := by
  have HX := Lib.hid hx
  have HY := Lib.hid hy
  clear hx hy
  have hne : (m == n) = false := beq_eq_false_iff_ne.2 hs.out
  go_enter Tryz.func41, Tryz.ntmps41
  have e3 : Below w.heap.size w (((w.alloc (.cells #[.bool m, .slice A k c] 40)).alloc (.cells #[.bool n, .slice D l d] 40)).alloc (.cells #[.bool false, .slice none 0 0] 40)) := (by (repeat (first | with_reducible exact Below.refl _ _ | with_reducible refine Below.drew ?_ | with_reducible refine below_drewN ?_ _ | with_reducible refine Below.setCell ?_ (by first | (simp <;> omega) | omega) _ | with_reducible refine Below.alloc ?_ (by first | (simp <;> omega) | omega) _)))
  have P0 : Bk2 (((w.alloc (.cells #[.bool m, .slice A k c] 40)).alloc (.cells #[.bool n, .slice D l d] 40)).alloc (.cells #[.bool false, .slice none 0 0] 40)) w.heap.size (.bool m) (.slice A k c) := ((Bk2.newAt' _ _ rfl _ _ _).alloc _).alloc _
  have P1 : Bk2 (((w.alloc (.cells #[.bool m, .slice A k c] 40)).alloc (.cells #[.bool n, .slice D l d] 40)).alloc (.cells #[.bool false, .slice none 0 0] 40)) (w.heap.size + 1) (.bool n) (.slice D l d) := (Bk2.newAt' _ _ (by simp) _ _ _).alloc _
  have PR : Bk2 (((w.alloc (.cells #[.bool m, .slice A k c] 40)).alloc (.cells #[.bool n, .slice D l d] 40)).alloc (.cells #[.bool false, .slice none 0 0] 40)) (w.heap.size + 2) (.bool false) (.slice none 0 0) := Bk2.newAt' _ _ (by simp) _ _ _
  have H := h.below e3 hB
  have K := h2.below e3 hB
  go_wp2_with fail
  refine (compareD_any _ B A D k l c d xs ys H K).mono ?_
  rintro e w9 ⟨r, rfl, hci, j, rfl⟩
  have hcv := cmp_rep (by decide) hci H.len.out K.len.out HX.out HY.out
  clear hci
  obtain rfl : r = -1 := by have := hpq.out; unfold CmpV at hcv; omega
  clear hcv
  go_wp2_with fail
  obtain ⟨W, hW⟩ : ∃ W : World, W = (((w.alloc (.cells #[.bool m, .slice A k c] 40)).alloc (.cells #[.bool n, .slice D l d] 40)).alloc (.cells #[.bool false, .slice none 0 0] 40)).drewN j := ⟨_, rfl⟩
  have EW : Below w.heap.size w W := by rw [hW]; exact below_drewN e3 j
  have P0 : Bk2 W w.heap.size (.bool m) (.slice A k c) := by rw [hW]; exact P0.drewN j
  have P1 : Bk2 W (w.heap.size + 1) (.bool n) (.slice D l d) := by rw [hW]; exact P1.drewN j
  have PR : Bk2 W (w.heap.size + 2) (.bool false) (.slice none 0 0) := by rw [hW]; exact PR.drewN j
  have H : DRd W B A k c xs := by rw [hW]; exact H.drewN j
  have K : DRd W B D l d ys := by rw [hW]; exact K.drewN j
  have sW : w.heap.size + 3 ≤ W.heap.size := by rw [hW]; simp
  rw [← hW]
  have hBW : B ≤ W.heap.size := by omega
  clear hW e3
  have G0 : Below W.heap.size W W.drew := Below.drew (Below.refl _ _)
  have TT := fun (u : World) (hu : Below W.heap.size W u) => minus_any u B D A l k d c ys xs (K.below hu (by omega)) (H.below hu (by omega)) (by have := hu.size; omega) (rep_len_le HY.out HX.out K.len.out H.len.out (Nat.le_of_lt hpq.out)) (by omega) (by rw [HX.out.val, HY.out.val]; exact Nat.le_of_lt hpq.out)
  have a0 := (P0.below G0 P0.lt).c0
  have a1 := (P0.below G0 P0.lt).c1
  have b0 := (P1.below G0 P1.lt).c0
  have b1 := (P1.below G0 P1.lt).c1
  have H0 := Lib.hid P0
  have H1 := Lib.hid P1
  have HRr := Lib.hid PR
  clear P0 P1 PR h h2
  go_region_with (go_at_call 86; go_loud ((with_reducible refine (TT _ (by first | with_reducible exact G0 | with_reducible exact Below.drew G0)).mono ?_); rintro e w5 ⟨A5, k5, c5, zs, rfl, hZ, hZr, hb5⟩; have G5 : Below W.heap.size W w5 := bnext' G0 hb5; obtain ⟨p0, p1, _, _, _⟩ := H0.out.below G5 H0.out.lt; obtain ⟨q0, q1, _, _, _⟩ := H1.out.below G5 H1.out.lt; obtain ⟨r0, r1, rz0, rz1, _⟩ := HRr.out.below G5 HRr.out.lt; have HZ := Lib.hid hZr; clear hZr))
  all_goals (go_wp2_with fail)
  all_goals
    have R5 := HRr.out.below G5 HRr.out.lt
    have hS := hZ.setBD R5 (by simp) (by simp) (.bool n) (.slice A5 k5 c5)
    have E5 : Below w.heap.size w w5 := EW.trans (G5.mono EW.size)
    first
      | refine bodyPost_ret (v := intv n A5 k5 c5) (by simp [results, Tryz.results41, go_sem, r0, r1]) rfl ⟨n, A5, k5, c5, zs, (q - p), rfl, DRd.more hS (by simp), (by have := HZ.out; rwa [HX.out.val, HY.out.val] at this), sval_dif' hs.out (Nat.le_of_lt hpq.out), ?_⟩
      | refine bodyPost_ret (v := intv n A5 k5 c5) (by simp [results, Tryz.results41, go_sem, r0, r1]) rfl ⟨n, A5, k5, c5, zs, (q - p), rfl, DRd.keep (DRd.more hS (by simp)) (fun _ _ => rfl), (by have := HZ.out; rwa [HX.out.val, HY.out.val] at this), sval_dif' hs.out (Nat.le_of_lt hpq.out), ?_⟩
    (repeat (first | with_reducible exact Below.refl _ _ | with_reducible exact E5 | with_reducible refine Below.drew ?_ | with_reducible refine below_drewN ?_ _ | with_reducible refine Below.setCell ?_ (by first | (simp <;> omega) | omega) _ | with_reducible refine Below.alloc ?_ (by first | (simp <;> omega) | omega) _))
theorem rplus_any (w : World) (B : Nat) (m n : Bool) (A D : Option Addr) (k l c d p q : Nat) (xs ys : List Nat) (h : DRd w B A k c xs) (h2 : DRd w B D l d ys) (hB : B ≤ w.heap.size) (hx : Rep 65536 xs p) (hy : Rep 65536 ys q) (hk : k ≤ 100000) (hl : l ≤ 100000) :
    Calls Tryz.prog 41 #[intv m A k c, intv n D l d] w (GivesR w (sval m p + sval n q)) := by
  by_cases e : m = n
  · subst e; exact rplus_same w B m A D k l c d p q xs ys h h2 hB hx hy hk hl
  · rcases Nat.lt_or_ge p q with e2 | e2
    · exact rplus_lt w B m n A D k l c d p q xs ys h h2 hB hx hy hk hl e e2
    · exact rplus_ge w B m n A D k l c d p q xs ys h h2 hB hx hy hk hl e e2
end Go.Proofs.YtfgkhdpdjclmkaaGreat
