/- Package source: Position, find, locate, Offset, Lines. -/
import Derived.Test.YtlohapafpgihaaaDoorSc
import Derived.Deep.RegionWith
import Derived.Deep.DeepCutAuto
namespace Go.Proofs.YtlohapafpgihaaaDoor
open Go.RowKit
set_option maxHeartbeats 400000
set_option maxRecDepth 100000
set_option linter.unusedSimpArgs false
set_option linter.unusedVariables false

theorem nl_le (s : ByteArray) (a : Nat) : ∀ k, nl s a k ≤ k
  | 0 => Nat.le_refl _
  | k + 1 => by
    have := nl_le s a k
    rw [nl_succ]
    split <;> omega
theorem nb_le (s : ByteArray) (a : Nat) : ∀ k, nb s a k ≤ k
  | 0 => Nat.le_refl _
  | k + 1 => by
    have := nb_le s a k
    rw [nb_succ]
    split <;> omega
theorem ba_ext {a b : ByteArray} (h : a.data.toList = b.data.toList) : a = b := by
  cases a; cases b
  exact congrArg ByteArray.mk (Array.toList_inj.1 h)
theorem ext_to {s : ByteArray} {b o : Nat} (h : o ≤ s.size) : (s.extract 0 o).extract b (s.extract 0 o).size = s.extract b o := by
  have hs : (s.extract 0 o).size = o := by rw [ByteArray.size_extract]; omega
  refine ba_ext ?_
  rw [ext_list, ext_list, ext_list, hs, List.drop_zero, List.take_take, Nat.min_self]
theorem ext_of {s : ByteArray} {b e : Nat} (hb : b ≤ e) (h : e ≤ s.size) : (s.extract b s.size).extract 0 (e - b) = s.extract b e := by
  refine ba_ext ?_
  rw [ext_list, ext_list, ext_list, List.drop_zero, List.take_of_length_le (l := s.data.toList) (by simp), List.take_drop, show b + (e - b) = e by omega]
theorem check_good (s : ByteArray) (w : World) (hs : s.size ≤ 16000) (hg : Hid (chkFrom s s.size 0 = none)) :
    Calls Tryd.prog 10 #[.string s] w fun e w' => e = .returned (flt 0 0) ∧ Below w.heap.size w w' :=
  (check_any s w (by omega)).mono fun e w' ⟨c, i, he, h, hb⟩ => by
    rcases h with ⟨rfl, rfl, _, _⟩ | ⟨p, _, _, _, h⟩ | ⟨_, _, h⟩
    · exact ⟨he, hb⟩
    · rw [hg.out] at h; cases h
    · omega
theorem check_bad (s : ByteArray) (w : World) (hz : s.size ≤ 9223372036854775807) (h : Hid (¬ (s.size ≤ 16000 ∧ chkFrom s s.size 0 = none))) :
    Calls Tryd.prog 10 #[.string s] w fun e w' => ∃ c i : Int, e = .returned (flt c i) ∧ 1 ≤ c ∧ c ≤ 6 ∧ Below w.heap.size w w' :=
  (check_any s w hz).mono fun e w' ⟨c, i, he, k, hb⟩ => by
    rcases k with ⟨rfl, rfl, k1, k2⟩ | ⟨p, k, _, _, _⟩ | ⟨k, _, _⟩
    · exact absurd ⟨k1, k2⟩ h.out
    · exact ⟨c, i, he, by omega, by omega, hb⟩
    · exact ⟨c, i, he, by omega, by omega, hb⟩
/-- The line of a place begins at b. -/
def PosAt (s : ByteArray) (o b : Nat) : Prop := b ≤ o ∧ LB s (nl s 0 o) b ∧ ∀ j, b ≤ j → j < o → by_ s j ≠ 10
def PosPost (s : ByteArray) (o : Nat) (w : World) (e : Ending) (w' : World) : Prop :=
  ∃ b, PosAt s o b ∧ e = .returned (.tuple #[.int .i64 (((nl s 0 o : Nat) : Int) + 1), .int .i64 (((nb s b (o - b) : Nat) : Int) + 1), flt 0 0]) ∧ Below w.heap.size w w'
theorem pos_mk {s : ByteArray} {o b : Nat} {w w' : World} {k m : Int} (h : Hid (PosAt s o b)) (hk : k = ((nl s 0 o : Nat) : Int)) (hm : m = ((nb s b (o - b) : Nat) : Int)) (hb : Below w.heap.size w w') : PosPost s o w (.returned (.tuple #[.int .i64 (k + 1), .int .i64 (m + 1), flt 0 0])) w' := ⟨b, h.out, by rw [hk, hm], hb⟩
set_option maxHeartbeats 4000000 in
theorem pos_ok (s : ByteArray) (o : Nat) (w : World) (hs : s.size ≤ 16000) (hg : Hid (chkFrom s s.size 0 = none)) (hBd : Hid (Bd s o)) :
    Calls Tryd.prog 12 #[.string s, .int .i64 (o : Int)] w (PosPost s o w) := by
  have G := Lib.hid (good_of hg.out)
  have ho : o ≤ s.size := hBd.out.1
  have hs' : (s.extract 0 o).size = o := by rw [ByteArray.size_extract]; omega
  obtain ⟨b, hb0, hbo, hLB, hno⟩ := last_at (s := s) (o := o) (by omega)
  have PA := Lib.hid (show PosAt s o b from ⟨hbo, hLB, hno⟩)
  have BB := Lib.hid (lb_bd G.out hLB)
  have HL := Lib.hid (show Lib.lastIndexByte (s.extract 0 o) 10 = (b : Int) - 1 by omega)
  have HC := Lib.hid (ct_nl (s := s) (o := o) (by omega))
  have HX := Lib.hid (ext_to (s := s) (b := b) (o := o) (by omega))
  have HR := Lib.hid (rc_part G.out BB.out hBd.out hbo)
  obtain ⟨N, hN⟩ : ∃ N, N = nl s 0 o := ⟨_, rfl⟩
  obtain ⟨M, hM⟩ : ∃ M, M = nb s b (o - b) := ⟨_, rfl⟩
  have HN := Lib.hid hN
  have HM := Lib.hid hM
  have n1 : N ≤ 16000 := by have := nl_le s 0 o; omega
  have m1 : M ≤ 16000 := by have := nb_le s b (o - b); omega
  rw [← hN] at HC
  rw [← hM] at HR
  obtain ⟨A, hA⟩ : ∃ A, A = s.extract 0 o := ⟨_, rfl⟩
  obtain ⟨C, hC⟩ : ∃ C, C = s.extract b o := ⟨_, rfl⟩
  rw [← hA] at HL HC HX hs'
  rw [← hC] at HR HX
  have HA := Lib.hid hA
  have sA : (A.size : Int) = (o : Int) := by omega
  have HSA := Lib.hid hs'
  have szA : A.size ≤ 16000 := by omega
  have szC : C.size ≤ 16000 := by rw [hC, ByteArray.size_extract]; omega
  have c1 : (0 : Int) ≤ (b : Int) := by omega
  have c2 : (b : Int) ≤ (A.size : Int) := by omega
  have c3 : IntKind.i64.wrap ((N : Int) + 1) = (N : Int) + 1 := IntWalk.i64_in _ (by omega)
  have c4 : IntKind.i64.wrap ((M : Int) + 1) = (M : Int) + 1 := IntWalk.i64_in _ (by omega)
  have c5 : (b : Int).toNat = b := by omega
  have c6 : IntKind.i64.wrap ((b : Int) - 1 + 1) = (b : Int) := by rw [show (b : Int) - 1 + 1 = b by omega]; exact IntWalk.i64_in _ (by omega)
  clear hb0 hbo hLB hno hN hM hA hC sA hs'
  have d1 : decide ((o : Int) < 0) = false := decide_eq_false (by omega)
  have d2 : decide ((s.size : Int) < (o : Int)) = false := decide_eq_false (by omega)
  by_cases hlt : o < s.size
  · go_enter Tryd.func12, Tryd.ntmps12
    go_wp2_with fail
    refine (check_good s _ hs hg).mono ?_
    rintro e w1 ⟨rfl, hb1⟩
    have P6 : Bk2 w1 w.heap.size (.int .i64 0) (.int .i64 0) := (Bk2.newAt w _ rfl _ _ _).below hb1 (by simp)
    have s1 : w.heap.size + 1 ≤ w1.heap.size := by have := hb1.size; simpa using this
    have E1 : Below w.heap.size w w1 := ((Below.refl _ _).alloc (Nat.le_refl _) _).trans (hb1.mono (by simp))
    clear hb1
    have lt6 := P6.lt
    have z0 : w1.cell? ⟨w.heap.size, 0, none⟩ = some (.int .i64 0) := P6.c0
    have z1 : w1.cell? ⟨w.heap.size, 1, none⟩ = some (.int .i64 0) := P6.c1
    have z2 : w1.frozen? ⟨w.heap.size, 0, none⟩ = false := P6.z0
    have z3 : w1.frozen? ⟨w.heap.size, 1, none⟩ = false := P6.z1
    have d3 : decide ((o : Int) < (s.size : Int)) = true := decide_eq_true (by omega)
    have i1 : (0 : Int) ≤ (o : Int) := by omega
    have i2 : (o : Int) < (s.size : Int) := by omega
    have HRS := Lib.hid (show decide (((s[o]'(by omega)).toNat : Int) / 64 ≠ 2) = true by
        have h9 := hBd.out.2 (by omega)
        have h8 : by_ s o = (s[o]'(by omega)).toNat := by unfold by_; rw [← get_at s o (by omega)]; rfl
        rw [h8] at h9
        exact decide_eq_true (by omega))
    go_wp2_with (go_at_call 24; refine (rst_any _ (by omega) (by have := (s[o]'(by omega)).toNat_lt; omega) _).mono ?_; rintro e w' ⟨rfl, rfl⟩; rw [HRS.out])
    clear d3
    rw [← HA.out]
    refine (lix_any A (by omega) _).mono ?_
    rintro e w' ⟨rfl, rfl⟩
    rw [HL.out]
    go_upto_region 10 with fail
    go_region_with (first
      | (go_at_call 20; (with_reducible refine (sct_any A _).mono ?_); rintro e w2 ⟨rfl, rfl⟩; rw [HC.out])
      | (go_at_call 26; rw [HX.out]; (with_reducible refine (rc_any C _ (by omega)).mono ?_); rw [HR.out]; rintro e w3 ⟨rfl, hb3⟩; have B13 : Below w1.heap.size w1 w3 := (by refine Below.trans ?_ (hb3.mono (by simp)); (repeat (first | with_reducible exact Below.refl _ _ | with_reducible refine Below.drew ?_ | with_reducible refine Below.alloc ?_ (by first | (simp; done) | (simp; omega) | omega) _))); have P6q := P6.below B13 P6.lt; have BN : Below w.heap.size w w3 := E1.trans (B13.mono (by omega)); obtain ⟨y0, y1, _, _, _⟩ := id P6q)
      | fail)
    all_goals (go_wp2_with fail)
    all_goals (refine bodyPost_ret (v := .tuple #[.int .i64 ((N : Int) + 1), .int .i64 ((M : Int) + 1), flt 0 0]) (by simp [results, Tryd.results12, go_sem, y0, y1]) rfl (pos_mk PA (by rw [HN.out]) (by rw [HM.out]) (by (repeat (first | with_reducible exact E1 | with_reducible exact BN | with_reducible refine Below.drew ?_ | with_reducible refine below_drewN ?_ _ | with_reducible refine Below.setCell ?_ (by first | (simp; done) | (simp; omega) | omega) _ | with_reducible refine Below.alloc ?_ (by first | (simp; done) | (simp; omega) | omega) _)))))
  · go_enter Tryd.func12, Tryd.ntmps12
    go_wp2_with fail
    refine (check_good s _ hs hg).mono ?_
    rintro e w1 ⟨rfl, hb1⟩
    have P6 : Bk2 w1 w.heap.size (.int .i64 0) (.int .i64 0) := (Bk2.newAt w _ rfl _ _ _).below hb1 (by simp)
    have s1 : w.heap.size + 1 ≤ w1.heap.size := by have := hb1.size; simpa using this
    have E1 : Below w.heap.size w w1 := ((Below.refl _ _).alloc (Nat.le_refl _) _).trans (hb1.mono (by simp))
    clear hb1
    have lt6 := P6.lt
    have z0 : w1.cell? ⟨w.heap.size, 0, none⟩ = some (.int .i64 0) := P6.c0
    have z1 : w1.cell? ⟨w.heap.size, 1, none⟩ = some (.int .i64 0) := P6.c1
    have z2 : w1.frozen? ⟨w.heap.size, 0, none⟩ = false := P6.z0
    have z3 : w1.frozen? ⟨w.heap.size, 1, none⟩ = false := P6.z1
    have d3 : decide ((o : Int) < (s.size : Int)) = false := decide_eq_false (by omega)
    go_wp2_with fail
    clear d3
    rw [← HA.out]
    refine (lix_any A (by omega) _).mono ?_
    rintro e w' ⟨rfl, rfl⟩
    rw [HL.out]
    go_upto_region 10 with fail
    go_region_with (first
      | (go_at_call 20; (with_reducible refine (sct_any A _).mono ?_); rintro e w2 ⟨rfl, rfl⟩; rw [HC.out])
      | (go_at_call 26; rw [HX.out]; (with_reducible refine (rc_any C _ (by omega)).mono ?_); rw [HR.out]; rintro e w3 ⟨rfl, hb3⟩; have B13 : Below w1.heap.size w1 w3 := (by refine Below.trans ?_ (hb3.mono (by simp)); (repeat (first | with_reducible exact Below.refl _ _ | with_reducible refine Below.drew ?_ | with_reducible refine Below.alloc ?_ (by first | (simp; done) | (simp; omega) | omega) _))); have P6q := P6.below B13 P6.lt; have BN : Below w.heap.size w w3 := E1.trans (B13.mono (by omega)); obtain ⟨y0, y1, _, _, _⟩ := id P6q)
      | fail)
    all_goals (go_wp2_with fail)
    all_goals (refine bodyPost_ret (v := .tuple #[.int .i64 ((N : Int) + 1), .int .i64 ((M : Int) + 1), flt 0 0]) (by simp [results, Tryd.results12, go_sem, y0, y1]) rfl (pos_mk PA (by rw [HN.out]) (by rw [HM.out]) (by (repeat (first | with_reducible exact E1 | with_reducible exact BN | with_reducible refine Below.drew ?_ | with_reducible refine below_drewN ?_ _ | with_reducible refine Below.setCell ?_ (by first | (simp; done) | (simp; omega) | omega) _ | with_reducible refine Below.alloc ?_ (by first | (simp; done) | (simp; omega) | omega) _)))))
set_option maxHeartbeats 4000000 in
theorem pos_bad1 (s : ByteArray) (o : Int) (w : World) (hz : s.size ≤ 9223372036854775807) (h : Hid (¬ (s.size ≤ 16000 ∧ chkFrom s s.size 0 = none))) :
    Calls Tryd.prog 12 #[.string s, .int .i64 o] w fun e w' => ∃ k m c i : Int, e = .returned (.tuple #[.int .i64 k, .int .i64 m, flt c i]) ∧ 1 ≤ c ∧ c ≤ 6 ∧ Below w.heap.size w w' := by
  go_enter Tryd.func12, Tryd.ntmps12
  go_wp2_with fail
  refine (check_bad s _ hz h).mono ?_
  rintro e w1 ⟨c, i, rfl, hc1, hc2, hb1⟩
  have P6 : Bk2 w1 w.heap.size (.int .i64 0) (.int .i64 0) := (Bk2.newAt w _ rfl _ _ _).below hb1 (by simp)
  have s1 : w.heap.size + 1 ≤ w1.heap.size := by have := hb1.size; simpa using this
  have E1 : Below w.heap.size w w1 := ((Below.refl _ _).alloc (Nat.le_refl _) _).trans (hb1.mono (by simp))
  clear hb1
  have lt6 := P6.lt
  have z0 : w1.cell? ⟨w.heap.size, 0, none⟩ = some (.int .i64 0) := P6.c0
  have z1 : w1.cell? ⟨w.heap.size, 1, none⟩ = some (.int .i64 0) := P6.c1
  have z2 : w1.frozen? ⟨w.heap.size, 0, none⟩ = false := P6.z0
  have z3 : w1.frozen? ⟨w.heap.size, 1, none⟩ = false := P6.z1
  have d1 : (c != 0) = true := by rw [bne_iff_ne]; omega
  go_upto_region 3 with fail
  clear d1
  obtain ⟨V, hV⟩ : ∃ V, V = w1.alloc (.cells #[.int .i64 c, .int .i64 i] 24) := ⟨_, rfl⟩
  have F7 : Bk2 V w1.heap.size (.int .i64 c) (.int .i64 i) := by rw [hV]; exact Bk2.newAt _ _ rfl _ _ _
  have P6v : Bk2 V w.heap.size (.int .i64 0) (.int .i64 0) := by rw [hV]; exact P6.alloc _
  have EV : Below w.heap.size w V := by rw [hV]; exact E1.alloc (by omega) _
  rw [← hV]
  clear hV z0 z1 z2 z3 P6 E1
  have ltF := F7.lt
  obtain ⟨y0, y1, y2, y3, lt6v⟩ := P6v
  obtain ⟨x0, x1, _, _, _⟩ := F7
  go_region
  go_wp2
  refine bodyPost_ret (v := .tuple #[.int .i64 0, .int .i64 0, flt c i]) (by simp [results, Tryd.results12, go_sem, y0, y1]) rfl ⟨0, 0, c, i, rfl, hc1, hc2, ?_⟩
  exact (by (repeat (first | with_reducible exact EV | with_reducible refine Below.drew ?_ | with_reducible refine below_drewN ?_ _ | with_reducible refine Below.setCell ?_ (by first | (simp; done) | (simp; omega) | omega) _)))
set_option maxHeartbeats 4000000 in
theorem pos_bad2 (s : ByteArray) (o : Int) (w : World) (hs : s.size ≤ 16000) (hg : Hid (chkFrom s s.size 0 = none)) (h : o < 0 ∨ (s.size : Int) < o) :
    Calls Tryd.prog 12 #[.string s, .int .i64 o] w fun e w' => ∃ k m c i : Int, e = .returned (.tuple #[.int .i64 k, .int .i64 m, flt c i]) ∧ 1 ≤ c ∧ c ≤ 6 ∧ Below w.heap.size w w' := by
  by_cases ho : o < 0
  · have d1 : decide (o < 0) = true := decide_eq_true ho
    clear h ho
    go_enter Tryd.func12, Tryd.ntmps12
    go_wp2_with fail
    refine (check_good s _ hs hg).mono ?_
    rintro e w1 ⟨rfl, hb1⟩
    have P6 : Bk2 w1 w.heap.size (.int .i64 0) (.int .i64 0) := (Bk2.newAt w _ rfl _ _ _).below hb1 (by simp)
    have s1 : w.heap.size + 1 ≤ w1.heap.size := by have := hb1.size; simpa using this
    have E1 : Below w.heap.size w w1 := ((Below.refl _ _).alloc (Nat.le_refl _) _).trans (hb1.mono (by simp))
    clear hb1
    have lt6 := P6.lt
    have z0 : w1.cell? ⟨w.heap.size, 0, none⟩ = some (.int .i64 0) := P6.c0
    have z1 : w1.cell? ⟨w.heap.size, 1, none⟩ = some (.int .i64 0) := P6.c1
    have z2 : w1.frozen? ⟨w.heap.size, 0, none⟩ = false := P6.z0
    have z3 : w1.frozen? ⟨w.heap.size, 1, none⟩ = false := P6.z1
    go_wp2
    obtain ⟨f0, f1, _, _, _⟩ := (P6.set (.int .i64 4) (.int .i64 (-2))).alloc (.cells #[.int .i64 0, .int .i64 0] 24)
    refine bodyPost_ret (v := .tuple #[.int .i64 0, .int .i64 0, flt 4 (-2)]) (by simp [results, Tryd.results12, go_sem, f0, f1]) rfl ⟨0, 0, 4, -2, rfl, by omega, by omega, ?_⟩
    exact (by (repeat (first | with_reducible exact E1 | with_reducible exact BN | with_reducible refine Below.drew ?_ | with_reducible refine below_drewN ?_ _ | with_reducible refine Below.setCell ?_ (by first | (simp; done) | (simp; omega) | omega) _ | with_reducible refine Below.alloc ?_ (by first | (simp; done) | (simp; omega) | omega) _)))
  · have d1 : decide (o < 0) = false := decide_eq_false ho
    have d2 : decide ((s.size : Int) < o) = true := decide_eq_true (by omega)
    clear h ho
    go_enter Tryd.func12, Tryd.ntmps12
    go_wp2_with fail
    refine (check_good s _ hs hg).mono ?_
    rintro e w1 ⟨rfl, hb1⟩
    have P6 : Bk2 w1 w.heap.size (.int .i64 0) (.int .i64 0) := (Bk2.newAt w _ rfl _ _ _).below hb1 (by simp)
    have s1 : w.heap.size + 1 ≤ w1.heap.size := by have := hb1.size; simpa using this
    have E1 : Below w.heap.size w w1 := ((Below.refl _ _).alloc (Nat.le_refl _) _).trans (hb1.mono (by simp))
    clear hb1
    have lt6 := P6.lt
    have z0 : w1.cell? ⟨w.heap.size, 0, none⟩ = some (.int .i64 0) := P6.c0
    have z1 : w1.cell? ⟨w.heap.size, 1, none⟩ = some (.int .i64 0) := P6.c1
    have z2 : w1.frozen? ⟨w.heap.size, 0, none⟩ = false := P6.z0
    have z3 : w1.frozen? ⟨w.heap.size, 1, none⟩ = false := P6.z1
    go_wp2
    obtain ⟨f0, f1, _, _, _⟩ := (P6.set (.int .i64 4) (.int .i64 (-2))).alloc (.cells #[.int .i64 0, .int .i64 0] 24)
    refine bodyPost_ret (v := .tuple #[.int .i64 0, .int .i64 0, flt 4 (-2)]) (by simp [results, Tryd.results12, go_sem, f0, f1]) rfl ⟨0, 0, 4, -2, rfl, by omega, by omega, ?_⟩
    exact (by (repeat (first | with_reducible exact E1 | with_reducible exact BN | with_reducible refine Below.drew ?_ | with_reducible refine below_drewN ?_ _ | with_reducible refine Below.setCell ?_ (by first | (simp; done) | (simp; omega) | omega) _ | with_reducible refine Below.alloc ?_ (by first | (simp; done) | (simp; omega) | omega) _)))
set_option maxHeartbeats 4000000 in
theorem pos_bad3 (s : ByteArray) (o : Nat) (w : World) (hs : s.size ≤ 16000) (hg : Hid (chkFrom s s.size 0 = none)) (hlt : o < s.size) (h : Hid (by_ s o / 64 = 2)) :
    Calls Tryd.prog 12 #[.string s, .int .i64 (o : Int)] w fun e w' => ∃ k m c i : Int, e = .returned (.tuple #[.int .i64 k, .int .i64 m, flt c i]) ∧ 1 ≤ c ∧ c ≤ 6 ∧ Below w.heap.size w w' := by
  have d1 : decide ((o : Int) < 0) = false := decide_eq_false (by omega)
  have d2 : decide ((s.size : Int) < (o : Int)) = false := decide_eq_false (by omega)
  have d3 : decide ((o : Int) < (s.size : Int)) = true := decide_eq_true (by omega)
  have i1 : (0 : Int) ≤ (o : Int) := by omega
  have i2 : (o : Int) < (s.size : Int) := by omega
  have HRS := Lib.hid (show decide (((s[o]'(by omega)).toNat : Int) / 64 ≠ 2) = false by
    have h9 := h.out
    have h8 : by_ s o = (s[o]'(by omega)).toNat := by unfold by_; rw [← get_at s o (by omega)]; rfl
    rw [h8] at h9
    exact decide_eq_false (by omega))
  go_enter Tryd.func12, Tryd.ntmps12
  go_wp2_with fail
  refine (check_good s _ hs hg).mono ?_
  rintro e w1 ⟨rfl, hb1⟩
  have P6 : Bk2 w1 w.heap.size (.int .i64 0) (.int .i64 0) := (Bk2.newAt w _ rfl _ _ _).below hb1 (by simp)
  have s1 : w.heap.size + 1 ≤ w1.heap.size := by have := hb1.size; simpa using this
  have E1 : Below w.heap.size w w1 := ((Below.refl _ _).alloc (Nat.le_refl _) _).trans (hb1.mono (by simp))
  clear hb1
  have lt6 := P6.lt
  have z0 : w1.cell? ⟨w.heap.size, 0, none⟩ = some (.int .i64 0) := P6.c0
  have z1 : w1.cell? ⟨w.heap.size, 1, none⟩ = some (.int .i64 0) := P6.c1
  have z2 : w1.frozen? ⟨w.heap.size, 0, none⟩ = false := P6.z0
  have z3 : w1.frozen? ⟨w.heap.size, 1, none⟩ = false := P6.z1
  go_wp2_with (go_at_call 24; refine (rst_any _ (by omega) (by have := (s[o]'(by omega)).toNat_lt; omega) _).mono ?_; rintro e w' ⟨rfl, rfl⟩; rw [HRS.out])
  obtain ⟨f0, f1, _, _, _⟩ := (P6.set (.int .i64 6) (.int .i64 (-2))).alloc (.cells #[.int .i64 0, .int .i64 0] 24)
  refine bodyPost_ret (v := .tuple #[.int .i64 0, .int .i64 0, flt 6 (-2)]) (by simp [results, Tryd.results12, go_sem, f0, f1]) rfl ⟨0, 0, 6, -2, rfl, by omega, by omega, ?_⟩
  exact (by (repeat (first | with_reducible exact E1 | with_reducible exact BN | with_reducible refine Below.drew ?_ | with_reducible refine below_drewN ?_ _ | with_reducible refine Below.setCell ?_ (by first | (simp; done) | (simp; omega) | omega) _ | with_reducible refine Below.alloc ?_ (by first | (simp; done) | (simp; omega) | omega) _)))
/-- Position, with every outcome. -/
def PosRes (s : ByteArray) (o : Int) (w : World) (e : Ending) (w' : World) : Prop :=
  (s.size ≤ 16000 ∧ chkFrom s s.size 0 = none ∧ 0 ≤ o ∧ Bd s o.toNat ∧ PosPost s o.toNat w e w') ∨ (∃ k m c i : Int, e = .returned (.tuple #[.int .i64 k, .int .i64 m, flt c i]) ∧ 1 ≤ c ∧ c ≤ 6 ∧ Below w.heap.size w w')
theorem pos_any (s : ByteArray) (o : Int) (w : World) (hz : s.size ≤ 9223372036854775807) :
    Calls Tryd.prog 12 #[.string s, .int .i64 o] w (PosRes s o w) := by
  by_cases h : s.size ≤ 16000 ∧ chkFrom s s.size 0 = none
  · by_cases h2 : o < 0 ∨ (s.size : Int) < o
    · exact (pos_bad2 s o w h.1 (Lib.hid h.2) h2).mono fun _ _ g => .inr g
    · obtain ⟨n, rfl⟩ := Int.eq_ofNat_of_zero_le (show 0 ≤ o by omega)
      by_cases h3 : n < s.size ∧ by_ s n / 64 = 2
      · exact (pos_bad3 s n w h.1 (Lib.hid h.2) h3.1 (Lib.hid h3.2)).mono fun _ _ g => .inr g
      · have hB : Bd s n := ⟨by omega, fun k e => h3 ⟨k, e⟩⟩
        exact (pos_ok s n w h.1 (Lib.hid h.2) (Lib.hid hB)).mono fun _ _ g => .inl ⟨h.1, h.2, by omega, hB, g⟩
  · exact (pos_bad1 s o w hz (Lib.hid h)).mono fun _ _ g => .inr g
end Go.Proofs.YtlohapafpgihaaaDoor
