/- The reference: PlaceFault, OffsetOf. -/
import Derived.Test.YtlohapafpgihaaaDoorSj
import Derived.Deep.DeepCutAuto
namespace Go.Proofs.YtlohapafpgihaaaDoor
open Go.RowKit
set_option maxHeartbeats 400000
set_option maxRecDepth 100000
set_option linter.unusedSimpArgs false
set_option linter.unusedVariables false

theorem wd_two {s : ByteArray} {ys : List Int} {o : Nat} (hg : Hid (chkFrom s s.size 0 = none)) (HW : Hid (WdOk s (wv ys))) (ho : o < s.size) (h : by_ s o / 64 = 2) : ys.getD o 0 = 0 := by
  rcases HW.out.2 with ⟨_, k⟩ | ⟨p, _, k, _⟩
  · exact (k o ho).1 h
  · rw [hg.out] at k; cases k
theorem wd_one {s : ByteArray} {ys : List Int} {o : Nat} (hg : Hid (chkFrom s s.size 0 = none)) (HW : Hid (WdOk s (wv ys))) (ho : o < s.size) (h : by_ s o / 64 ≠ 2) : ∃ n : Nat, ys.getD o 0 = (n : Int) ∧ 1 ≤ n := by
  rcases HW.out.2 with ⟨_, k⟩ | ⟨p, _, k, _⟩
  · obtain ⟨n, ga, e⟩ := (k o ho).2 h
    exact ⟨n, e, ga.n1⟩
  · rw [hg.out] at k; cases k
set_option maxHeartbeats 4000000 in
theorem pf_b (s : ByteArray) (o : Int) (w : World) {c i : Int} (h : Hid (SFB s c i)) (hT : Tabs w) :
    Calls Tryd.prog 13 #[.string s, .int .i64 o] w fun e w' => e = .returned (flt c i) ∧ Below w.heap.size w w' := by
  have hc1 := h.out.code
  go_enter Tryd.func13, Tryd.ntmps13
  go_wp2_with fail
  refine (sf_b s _ h (hT.below (bl1 w _) (Nat.le_refl _))).mono ?_
  rintro e w1 ⟨rfl, hb1⟩
  have P6 : Bk2 w1 w.heap.size (.int .i64 0) (.int .i64 0) := (Bk2.newAt w _ rfl _ _ _).below hb1 (by simp)
  have s1 : w.heap.size + 1 ≤ w1.heap.size := by have := hb1.size; simpa using this
  have E1 : Below w.heap.size w w1 := ((Below.refl _ _).alloc (Nat.le_refl _) _).trans (hb1.mono (by simp))
  clear hb1
  have lt6 := P6.lt
  have z0 : w1.cell? ⟨w.heap.size, 0, none⟩ = some (.int .i64 0) := P6.c0
  have z1 : w1.cell? ⟨w.heap.size, 1, none⟩ = some (.int .i64 0) := P6.c1
  have z2 : w1.frozen? ⟨w.heap.size, 0, none⟩ = false := P6.z0
  have z3 : w1.frozen? ⟨w.heap.size, 1, none⟩ = false := P6.z1
  have d1 : (c != 0) = true := by rw [bne_iff_ne]; omega
  go_upto_region 3 with fail
  clear d1
  obtain ⟨V, hV⟩ : ∃ V, V = w1.alloc (.cells #[.int .i64 c, .int .i64 i] 24) := ⟨_, rfl⟩
  have F7 : Bk2 V w1.heap.size (.int .i64 c) (.int .i64 i) := by rw [hV]; exact Bk2.newAt _ _ rfl _ _ _
  have P6v : Bk2 V w.heap.size (.int .i64 0) (.int .i64 0) := by rw [hV]; exact P6.alloc _
  have EV : Below w.heap.size w V := by rw [hV]; exact E1.alloc (by omega) _
  rw [← hV]
  clear hV z0 z1 z2 z3 P6 E1
  have ltF := F7.lt
  obtain ⟨y0, y1, y2, y3, lt6v⟩ := P6v
  obtain ⟨x0, x1, _, _, _⟩ := F7
  go_wp2
  refine bodyPost_ret (v := flt c i) (by simp [results, Tryd.results13, go_sem, y0, y1]) rfl ⟨rfl, ?_⟩
  exact (by (repeat (first | with_reducible exact EV | with_reducible refine Below.drew ?_ | with_reducible refine below_drewN ?_ _ | with_reducible refine Below.setCell ?_ (by first | (simp; done) | (simp; omega) | omega) _)))
set_option maxHeartbeats 4000000 in
theorem pf_r (s : ByteArray) (o : Int) (w : World) (hs : s.size ≤ 16000) (hg : Hid (chkFrom s s.size 0 = none)) (hT : Tabs w) (h : o < 0 ∨ (s.size : Int) < o) :
    Calls Tryd.prog 13 #[.string s, .int .i64 o] w fun e w' => e = .returned (flt 4 (-2)) ∧ Below w.heap.size w w' := by
  by_cases ho : o < 0
  · have d1 : decide (o < 0) = true := decide_eq_true ho
    clear h ho
    go_enter Tryd.func13, Tryd.ntmps13
    go_wp2_with fail
    refine (sf_good s _ hs hg (hT.below (bl1 w _) (Nat.le_refl _))).mono ?_
    rintro e w1 ⟨rfl, hb1⟩
    have P6 : Bk2 w1 w.heap.size (.int .i64 0) (.int .i64 0) := (Bk2.newAt w _ rfl _ _ _).below hb1 (by simp)
    have s1 : w.heap.size + 1 ≤ w1.heap.size := by have := hb1.size; simpa using this
    have E1 : Below w.heap.size w w1 := ((Below.refl _ _).alloc (Nat.le_refl _) _).trans (hb1.mono (by simp))
    clear hb1
    have lt6 := P6.lt
    have z0 : w1.cell? ⟨w.heap.size, 0, none⟩ = some (.int .i64 0) := P6.c0
    have z1 : w1.cell? ⟨w.heap.size, 1, none⟩ = some (.int .i64 0) := P6.c1
    have z2 : w1.frozen? ⟨w.heap.size, 0, none⟩ = false := P6.z0
    have z3 : w1.frozen? ⟨w.heap.size, 1, none⟩ = false := P6.z1
    have hT1 : Tabs w1 := hT.below E1 (Nat.le_refl _)
    go_wp2_with (go_at_call 11; refine (at_any _ _ _).mono ?_; rintro e w2 ⟨rfl, hb2⟩; have Bw2 : Below w1.heap.size w1 w2 := (by refine Below.trans ?_ (hb2.mono (by first | (simp; done) | (simp; omega) | omega)); (repeat (first | with_reducible exact Below.refl _ _ | with_reducible refine Below.drew ?_ | with_reducible refine Below.alloc ?_ (by first | (simp; done) | (simp; omega) | omega) _))); have Sw2 := Bw2.size; have Pw2 := P6.below Bw2 P6.lt; have BNw2 : Below w.heap.size w w2 := E1.trans (Bw2.mono (by omega)); have Tw2 := hT1.below Bw2 (Nat.le_refl _); obtain ⟨y0, y1, y2, y3, _⟩ := id Pw2)
    obtain ⟨f0, f1, _, _, _⟩ := Pw2.set (.int .i64 4) (.int .i64 (-2))
    refine bodyPost_ret (v := flt 4 (-2)) (by simp [results, Tryd.results13, go_sem, f0, f1]) rfl ⟨rfl, ?_⟩
    exact (by (repeat (first | with_reducible exact BNw2 | with_reducible refine Below.drew ?_ | with_reducible refine below_drewN ?_ _ | with_reducible refine Below.setCell ?_ (by first | (simp; done) | (simp; omega) | omega) _ | with_reducible refine Below.alloc ?_ (by first | (simp; done) | (simp; omega) | omega) _)))
  · have d1 : decide (o < 0) = false := decide_eq_false ho
    have d2 : decide ((s.size : Int) < o) = true := decide_eq_true (by omega)
    clear h ho
    go_enter Tryd.func13, Tryd.ntmps13
    go_wp2_with fail
    refine (sf_good s _ hs hg (hT.below (bl1 w _) (Nat.le_refl _))).mono ?_
    rintro e w1 ⟨rfl, hb1⟩
    have P6 : Bk2 w1 w.heap.size (.int .i64 0) (.int .i64 0) := (Bk2.newAt w _ rfl _ _ _).below hb1 (by simp)
    have s1 : w.heap.size + 1 ≤ w1.heap.size := by have := hb1.size; simpa using this
    have E1 : Below w.heap.size w w1 := ((Below.refl _ _).alloc (Nat.le_refl _) _).trans (hb1.mono (by simp))
    clear hb1
    have lt6 := P6.lt
    have z0 : w1.cell? ⟨w.heap.size, 0, none⟩ = some (.int .i64 0) := P6.c0
    have z1 : w1.cell? ⟨w.heap.size, 1, none⟩ = some (.int .i64 0) := P6.c1
    have z2 : w1.frozen? ⟨w.heap.size, 0, none⟩ = false := P6.z0
    have z3 : w1.frozen? ⟨w.heap.size, 1, none⟩ = false := P6.z1
    have hT1 : Tabs w1 := hT.below E1 (Nat.le_refl _)
    go_wp2_with (go_at_call 11; refine (at_any _ _ _).mono ?_; rintro e w2 ⟨rfl, hb2⟩; have Bw2 : Below w1.heap.size w1 w2 := (by refine Below.trans ?_ (hb2.mono (by first | (simp; done) | (simp; omega) | omega)); (repeat (first | with_reducible exact Below.refl _ _ | with_reducible refine Below.drew ?_ | with_reducible refine Below.alloc ?_ (by first | (simp; done) | (simp; omega) | omega) _))); have Sw2 := Bw2.size; have Pw2 := P6.below Bw2 P6.lt; have BNw2 : Below w.heap.size w w2 := E1.trans (Bw2.mono (by omega)); have Tw2 := hT1.below Bw2 (Nat.le_refl _); obtain ⟨y0, y1, y2, y3, _⟩ := id Pw2)
    obtain ⟨f0, f1, _, _, _⟩ := Pw2.set (.int .i64 4) (.int .i64 (-2))
    refine bodyPost_ret (v := flt 4 (-2)) (by simp [results, Tryd.results13, go_sem, f0, f1]) rfl ⟨rfl, ?_⟩
    exact (by (repeat (first | with_reducible exact BNw2 | with_reducible refine Below.drew ?_ | with_reducible refine below_drewN ?_ _ | with_reducible refine Below.setCell ?_ (by first | (simp; done) | (simp; omega) | omega) _ | with_reducible refine Below.alloc ?_ (by first | (simp; done) | (simp; omega) | omega) _)))
set_option maxHeartbeats 4000000 in
theorem pf_f (s : ByteArray) (o : Nat) (w : World) (hs : s.size ≤ 16000) (hg : Hid (chkFrom s s.size 0 = none)) (hT : Tabs w) (hlt : o < s.size) (h : Hid (by_ s o / 64 = 2)) :
    Calls Tryd.prog 13 #[.string s, .int .i64 (o : Int)] w fun e w' => e = .returned (flt 6 (-2)) ∧ Below w.heap.size w w' := by
  have d1 : decide ((o : Int) < 0) = false := decide_eq_false (by omega)
  have d2 : decide ((s.size : Int) < (o : Int)) = false := decide_eq_false (by omega)
  have d2n : decide (s.size < o) = false := decide_eq_false (by omega)
  have d3 : decide ((o : Int) < (s.size : Int)) = true := decide_eq_true (by omega)
  have i1 : (0 : Int) ≤ (o : Int) := by omega
  have i2 : (o : Int) < (s.size : Int) := by omega
  go_enter Tryd.func13, Tryd.ntmps13
  go_wp2_with fail
  refine (sf_good s _ hs hg (hT.below (bl1 w _) (Nat.le_refl _))).mono ?_
  rintro e w1 ⟨rfl, hb1⟩
  have P6 : Bk2 w1 w.heap.size (.int .i64 0) (.int .i64 0) := (Bk2.newAt w _ rfl _ _ _).below hb1 (by simp)
  have s1 : w.heap.size + 1 ≤ w1.heap.size := by have := hb1.size; simpa using this
  have E1 : Below w.heap.size w w1 := ((Below.refl _ _).alloc (Nat.le_refl _) _).trans (hb1.mono (by simp))
  clear hb1
  have lt6 := P6.lt
  have z0 : w1.cell? ⟨w.heap.size, 0, none⟩ = some (.int .i64 0) := P6.c0
  have z1 : w1.cell? ⟨w.heap.size, 1, none⟩ = some (.int .i64 0) := P6.c1
  have z2 : w1.frozen? ⟨w.heap.size, 0, none⟩ = false := P6.z0
  have z3 : w1.frozen? ⟨w.heap.size, 1, none⟩ = false := P6.z1
  have hT1 : Tabs w1 := hT.below E1 (Nat.le_refl _)
  go_wp2_with (first | (go_at_call 19; refine (widths_any s _ hs (hT1.below (bl1 _ _) (Nat.le_refl _))).mono ?_; rintro e w3 ⟨g, ys, rfl, hR, HL, HW, hgw, hb3⟩; have Bw3 : Below w1.heap.size w1 w3 := (by refine Below.trans ?_ (hb3.mono (by first | (simp; done) | (simp; omega) | omega)); (repeat (first | with_reducible exact Below.refl _ _ | with_reducible refine Below.drew ?_ | with_reducible refine Below.alloc ?_ (by first | (simp; done) | (simp; omega) | omega) _))); have Sw3 := Bw3.size; have Pw3 := P6.below Bw3 P6.lt; have BNw3 : Below w.heap.size w w3 := E1.trans (Bw3.mono (by omega)); have Tw3 := hT1.below Bw3 (Nat.le_refl _); obtain ⟨y0, y1, y2, y3, _⟩ := id Pw3; have q0 := hR.cell (j := o) (by rw [HL.out]; exact hlt); rw [wd_two hg HW hlt h.out] at q0) | (go_at_call 11; refine (at_any _ _ _).mono ?_; rintro e w2 ⟨rfl, hb2⟩; have Bw2 : Below w1.heap.size w1 w2 := (by refine Below.trans ?_ (hb2.mono (by first | (simp; done) | (simp; omega) | omega)); (repeat (first | with_reducible exact Below.refl _ _ | with_reducible exact Bw3 | with_reducible refine Below.drew ?_ | with_reducible refine Below.alloc ?_ (by first | (simp; done) | (simp; omega) | omega) _))); have Sw2 := Bw2.size; have Pw2 := P6.below Bw2 P6.lt; have BNw2 : Below w.heap.size w w2 := E1.trans (Bw2.mono (by omega)); have Tw2 := hT1.below Bw2 (Nat.le_refl _); obtain ⟨y0, y1, y2, y3, _⟩ := id Pw2))
  obtain ⟨f0, f1, _, _, _⟩ := Pw2.set (.int .i64 6) (.int .i64 (-2))
  refine bodyPost_ret (v := flt 6 (-2)) (by simp [results, Tryd.results13, go_sem, f0, f1]) rfl ⟨rfl, ?_⟩
  exact (by (repeat (first | with_reducible exact BNw2 | with_reducible refine Below.drew ?_ | with_reducible refine below_drewN ?_ _ | with_reducible refine Below.setCell ?_ (by first | (simp; done) | (simp; omega) | omega) _ | with_reducible refine Below.alloc ?_ (by first | (simp; done) | (simp; omega) | omega) _)))
set_option maxHeartbeats 4000000 in
theorem pf_ok (s : ByteArray) (o : Nat) (w : World) (hs : s.size ≤ 16000) (hg : Hid (chkFrom s s.size 0 = none)) (hT : Tabs w) (hBd : Hid (Bd s o)) :
    Calls Tryd.prog 13 #[.string s, .int .i64 (o : Int)] w fun e w' => e = .returned (flt 0 0) ∧ Below w.heap.size w w' := by
  have ho : o ≤ s.size := hBd.out.1
  have d1 : decide ((o : Int) < 0) = false := decide_eq_false (by omega)
  have d2 : decide ((s.size : Int) < (o : Int)) = false := decide_eq_false (by omega)
  have d2n : decide (s.size < o) = false := decide_eq_false (by omega)
  by_cases hlt : o < s.size
  · have d3 : decide ((o : Int) < (s.size : Int)) = true := decide_eq_true (by omega)
    have i1 : (0 : Int) ≤ (o : Int) := by omega
    have i2 : (o : Int) < (s.size : Int) := by omega
    go_enter Tryd.func13, Tryd.ntmps13
    go_wp2_with fail
    refine (sf_good s _ hs hg (hT.below (bl1 w _) (Nat.le_refl _))).mono ?_
    rintro e w1 ⟨rfl, hb1⟩
    have P6 : Bk2 w1 w.heap.size (.int .i64 0) (.int .i64 0) := (Bk2.newAt w _ rfl _ _ _).below hb1 (by simp)
    have s1 : w.heap.size + 1 ≤ w1.heap.size := by have := hb1.size; simpa using this
    have E1 : Below w.heap.size w w1 := ((Below.refl _ _).alloc (Nat.le_refl _) _).trans (hb1.mono (by simp))
    clear hb1
    have lt6 := P6.lt
    have z0 : w1.cell? ⟨w.heap.size, 0, none⟩ = some (.int .i64 0) := P6.c0
    have z1 : w1.cell? ⟨w.heap.size, 1, none⟩ = some (.int .i64 0) := P6.c1
    have z2 : w1.frozen? ⟨w.heap.size, 0, none⟩ = false := P6.z0
    have z3 : w1.frozen? ⟨w.heap.size, 1, none⟩ = false := P6.z1
    have hT1 : Tabs w1 := hT.below E1 (Nat.le_refl _)
    go_wp2_with (go_at_call 19; refine (widths_any s _ hs (hT1.below (bl1 _ _) (Nat.le_refl _))).mono ?_; rintro e w3 ⟨g, ys, rfl, hR, HL, HW, hgw, hb3⟩; have Bw3 : Below w1.heap.size w1 w3 := (by refine Below.trans ?_ (hb3.mono (by first | (simp; done) | (simp; omega) | omega)); (repeat (first | with_reducible exact Below.refl _ _ | with_reducible refine Below.drew ?_ | with_reducible refine Below.alloc ?_ (by first | (simp; done) | (simp; omega) | omega) _))); have Sw3 := Bw3.size; have Pw3 := P6.below Bw3 P6.lt; have BNw3 : Below w.heap.size w w3 := E1.trans (Bw3.mono (by omega)); have Tw3 := hT1.below Bw3 (Nat.le_refl _); obtain ⟨y0, y1, y2, y3, _⟩ := id Pw3; have q0 := hR.cell (j := o) (by rw [HL.out]; exact hlt); obtain ⟨n, hn, hn1⟩ := wd_one hg HW hlt (hBd.out.2 hlt); rw [hn] at q0; have e0 : ((n : Int) == 0) = false := beq_eq_false_iff_ne.2 (by omega))
    obtain ⟨f0, f1, _, _, _⟩ := Pw3.set (.int .i64 0) (.int .i64 0)
    refine bodyPost_ret (v := flt 0 0) (by simp [results, Tryd.results13, go_sem, f0, f1]) rfl ⟨rfl, ?_⟩
    exact (by (repeat (first | with_reducible exact BNw3 | with_reducible refine Below.drew ?_ | with_reducible refine below_drewN ?_ _ | with_reducible refine Below.setCell ?_ (by first | (simp; done) | (simp; omega) | omega) _ | with_reducible refine Below.alloc ?_ (by first | (simp; done) | (simp; omega) | omega) _)))
  · have d3 : decide ((o : Int) < (s.size : Int)) = false := decide_eq_false (by omega)
    go_enter Tryd.func13, Tryd.ntmps13
    go_wp2_with fail
    refine (sf_good s _ hs hg (hT.below (bl1 w _) (Nat.le_refl _))).mono ?_
    rintro e w1 ⟨rfl, hb1⟩
    have P6 : Bk2 w1 w.heap.size (.int .i64 0) (.int .i64 0) := (Bk2.newAt w _ rfl _ _ _).below hb1 (by simp)
    have s1 : w.heap.size + 1 ≤ w1.heap.size := by have := hb1.size; simpa using this
    have E1 : Below w.heap.size w w1 := ((Below.refl _ _).alloc (Nat.le_refl _) _).trans (hb1.mono (by simp))
    clear hb1
    have lt6 := P6.lt
    have z0 : w1.cell? ⟨w.heap.size, 0, none⟩ = some (.int .i64 0) := P6.c0
    have z1 : w1.cell? ⟨w.heap.size, 1, none⟩ = some (.int .i64 0) := P6.c1
    have z2 : w1.frozen? ⟨w.heap.size, 0, none⟩ = false := P6.z0
    have z3 : w1.frozen? ⟨w.heap.size, 1, none⟩ = false := P6.z1
    have hT1 : Tabs w1 := hT.below E1 (Nat.le_refl _)
    go_wp2_with fail
    obtain ⟨f0, f1, _, _, _⟩ := (P6.set (.int .i64 0) (.int .i64 0)).alloc (.cells #[.int .i64 0, .int .i64 0] 24)
    refine bodyPost_ret (v := flt 0 0) (by simp [results, Tryd.results13, go_sem, f0, f1]) rfl ⟨rfl, ?_⟩
    exact (by (repeat (first | with_reducible exact E1 | with_reducible refine Below.drew ?_ | with_reducible refine below_drewN ?_ _ | with_reducible refine Below.setCell ?_ (by first | (simp; done) | (simp; omega) | omega) _ | with_reducible refine Below.alloc ?_ (by first | (simp; done) | (simp; omega) | omega) _)))
end Go.Proofs.YtlohapafpgihaaaDoor
