/- The reference: the fault of a text, the place of an offset. -/
import Derived.Test.YtlohapafpgihaaaDoorSh
import Derived.Deep.DeepCutAuto
namespace Go.Proofs.YtlohapafpgihaaaDoor
open Go.RowKit
set_option maxHeartbeats 400000
set_option maxRecDepth 100000
set_option linter.unusedSimpArgs false
set_option linter.unusedVariables false

theorem at_any (c i : Int) (w : World) :
    Calls Tryd.prog 11 #[.int .i64 c, .int .i64 i] w fun e w' => e = .returned (flt c i) ∧ Below w.heap.size w w' := by
  go_enter Tryd.func11, Tryd.ntmps11
  go_wp2
  refine bodyPost_ret (v := flt c i) (by simp [results, Tryd.results11, go_sem]) rfl ⟨rfl, ?_⟩
  exact (by (repeat (first | with_reducible exact Below.refl _ _ | with_reducible refine Below.drew ?_ | with_reducible refine below_drewN ?_ _ | with_reducible refine Below.setCell ?_ (by first | (simp; done) | (simp; omega) | omega) _ | with_reducible refine Below.alloc ?_ (by first | (simp; done) | (simp; omega) | omega) _)))
set_option maxHeartbeats 4000000 in
theorem sf_good (s : ByteArray) (w : World) (hs : s.size ≤ 16000) (hg : Hid (chkFrom s s.size 0 = none)) (hT : Tabs w) :
    Calls Tryd.prog 6 #[.string s] w fun e w' => e = .returned (flt 0 0) ∧ Below w.heap.size w w' := by
  have hd : decide ((16000 : Int) < (s.size : Int)) = false := decide_eq_false (by omega)
  go_enter Tryd.func6, Tryd.ntmps6
  go_wp2_with fail
  refine (widths_any s _ hs (hT.below (bl1 w _) (Nat.le_refl _))).mono ?_
  rintro e w1 ⟨g, ys, rfl, hR, HL, HW, hgw, hb1⟩
  have P6 : Bk2 w1 w.heap.size (.int .i64 0) (.int .i64 0) := (Bk2.newAt w _ rfl _ _ _).below hb1 (by simp)
  have s1 : w.heap.size + 1 ≤ w1.heap.size := by have := hb1.size; simpa using this
  have E1 : Below w.heap.size w w1 := ((Below.refl _ _).alloc (Nat.le_refl _) _).trans (hb1.mono (by simp))
  clear hb1
  have lt6 := P6.lt
  have z0 : w1.cell? ⟨w.heap.size, 0, none⟩ = some (.int .i64 0) := P6.c0
  have z1 : w1.cell? ⟨w.heap.size, 1, none⟩ = some (.int .i64 0) := P6.c1
  have z2 : w1.frozen? ⟨w.heap.size, 0, none⟩ = false := P6.z0
  have z3 : w1.frozen? ⟨w.heap.size, 1, none⟩ = false := P6.z1
  have HN := Lib.hid (show ∀ j, j < s.size → 0 ≤ wv ys j from fun j hj => by
    rcases HW.out.2 with ⟨_, h⟩ | ⟨p, _, h, _⟩
    · exact wc_nn (h j hj)
    · rw [hg.out] at h; cases h)
  go_wp2_with fail
  go_loop [12] (fun s12 => ∃ i : Nat, s12 = .int .i64 (i : Int) ∧ i ≤ s.size) (fun s12 => s.size - (intOf s12).toNat)
  case atStart => exact ⟨0, rfl, by omega⟩
  case round =>
    obtain ⟨i, rfl, hi⟩ := hrel
    by_cases hp : i < s.size
    · have c3 : (i : Int) < (s.size : Int) := by omega
      have q0 := hR.cell (j := i) (by rw [HL.out]; exact hp)
      have hn := HN.out i hp
      obtain ⟨Y, hY⟩ : ∃ Y, Y = ys.getD i 0 := ⟨_, rfl⟩
      have hn' : 0 ≤ Y := by rw [hY]; exact hn
      rw [← hY] at q0
      clear hY hn
      have f1 : decide (Y < 0) = false := decide_eq_false (by omega)
      clear hn'
      go_wp2
      go_round
      case rel => exact ⟨i + 1, by go_num, by omega⟩
      case measure => simp [intOf]; omega
    · have c3 : ¬ (i : Int) < (s.size : Int) := by omega
      go_wp2
      obtain ⟨f0, f1, _, _, _⟩ := P6.set (.int .i64 0) (.int .i64 0)
      refine bodyPost_ret (v := flt 0 0) (by simp [results, Tryd.results6, go_sem, f0, f1]) rfl ⟨rfl, ?_⟩
      exact (by (repeat (first | with_reducible exact E1 | with_reducible exact BN | with_reducible refine Below.drew ?_ | with_reducible refine below_drewN ?_ _ | with_reducible refine Below.setCell ?_ (by first | (simp; done) | (simp; omega) | omega) _ | with_reducible refine Below.alloc ?_ (by first | (simp; done) | (simp; omega) | omega) _)))
set_option maxHeartbeats 4000000 in
theorem sf_long (s : ByteArray) (w : World) (hs : 16000 < s.size) :
    Calls Tryd.prog 6 #[.string s] w fun e w' => e = .returned (flt 3 (-1)) ∧ Below w.heap.size w w' := by
  have hd : decide ((16000 : Int) < (s.size : Int)) = true := decide_eq_true (by omega)
  go_enter Tryd.func6, Tryd.ntmps6
  go_wp2_with fail
  refine (at_any _ _ _).mono ?_
  rintro e w1 ⟨rfl, hb1⟩
  have P6 : Bk2 w1 w.heap.size (.int .i64 0) (.int .i64 0) := (Bk2.newAt w _ rfl _ _ _).below hb1 (by simp)
  have s1 : w.heap.size + 1 ≤ w1.heap.size := by have := hb1.size; simpa using this
  have E1 : Below w.heap.size w w1 := ((Below.refl _ _).alloc (Nat.le_refl _) _).trans (hb1.mono (by simp))
  clear hb1
  have lt6 := P6.lt
  have z0 : w1.cell? ⟨w.heap.size, 0, none⟩ = some (.int .i64 0) := P6.c0
  have z1 : w1.cell? ⟨w.heap.size, 1, none⟩ = some (.int .i64 0) := P6.c1
  have z2 : w1.frozen? ⟨w.heap.size, 0, none⟩ = false := P6.z0
  have z3 : w1.frozen? ⟨w.heap.size, 1, none⟩ = false := P6.z1
  go_wp2
  obtain ⟨f0, f1, _, _, _⟩ := P6.set (.int .i64 3) (.int .i64 (-1))
  refine bodyPost_ret (v := flt 3 (-1)) (by simp [results, Tryd.results6, go_sem, f0, f1]) rfl ⟨rfl, ?_⟩
  exact (by (repeat (first | with_reducible exact E1 | with_reducible exact BN | with_reducible refine Below.drew ?_ | with_reducible refine below_drewN ?_ _ | with_reducible refine Below.setCell ?_ (by first | (simp; done) | (simp; omega) | omega) _ | with_reducible refine Below.alloc ?_ (by first | (simp; done) | (simp; omega) | omega) _)))
set_option maxHeartbeats 4000000 in
theorem sf_char (s : ByteArray) (p : Nat) (w : World) (hs : s.size ≤ 16000) (hg : Hid (chkFrom s s.size 0 = some p)) (hT : Tabs w) :
    Calls Tryd.prog 6 #[.string s] w fun e w' => e = .returned (flt 1 p) ∧ Below w.heap.size w w' := by
  have hd : decide ((16000 : Int) < (s.size : Int)) = false := decide_eq_false (by omega)
  go_enter Tryd.func6, Tryd.ntmps6
  go_wp2_with fail
  refine (widths_any s _ hs (hT.below (bl1 w _) (Nat.le_refl _))).mono ?_
  rintro e w1 ⟨g, ys, rfl, hR, HL, HW, hgw, hb1⟩
  have P6 : Bk2 w1 w.heap.size (.int .i64 0) (.int .i64 0) := (Bk2.newAt w _ rfl _ _ _).below hb1 (by simp)
  have s1 : w.heap.size + 1 ≤ w1.heap.size := by have := hb1.size; simpa using this
  have E1 : Below w.heap.size w w1 := ((Below.refl _ _).alloc (Nat.le_refl _) _).trans (hb1.mono (by simp))
  clear hb1
  have lt6 := P6.lt
  have z0 : w1.cell? ⟨w.heap.size, 0, none⟩ = some (.int .i64 0) := P6.c0
  have z1 : w1.cell? ⟨w.heap.size, 1, none⟩ = some (.int .i64 0) := P6.c1
  have z2 : w1.frozen? ⟨w.heap.size, 0, none⟩ = false := P6.z0
  have z3 : w1.frozen? ⟨w.heap.size, 1, none⟩ = false := P6.z1
  obtain ⟨hps, HN⟩ : p < s.size ∧ Hid (wv ys p = -1 ∧ ∀ j, j < p → 0 ≤ wv ys j) := by
    rcases HW.out.2 with ⟨h, _⟩ | ⟨p', h1, h, h2⟩
    · rw [hg.out] at h; cases h
    · rw [hg.out] at h; injection h with h; subst h; exact ⟨h1, Lib.hid h2⟩
  go_wp2_with fail
  go_loop [12] (fun s12 => ∃ i : Nat, s12 = .int .i64 (i : Int) ∧ i ≤ p) (fun s12 => s.size - (intOf s12).toNat)
  case atStart => exact ⟨0, rfl, by omega⟩
  case round =>
    obtain ⟨i, rfl, hi⟩ := hrel
    have hp : i < s.size := by omega
    have c3 : (i : Int) < (s.size : Int) := by omega
    have q0 := hR.cell (j := i) (by rw [HL.out]; exact hp)
    obtain ⟨Y, hY⟩ : ∃ Y, Y = ys.getD i 0 := ⟨_, rfl⟩
    have HY := Lib.hid hY
    rw [← hY] at q0
    clear hY
    by_cases hip : i < p
    · have hn' : 0 ≤ Y := by rw [HY.out]; exact HN.out.2 i hip
      have f1 : decide (Y < 0) = false := decide_eq_false (by omega)
      clear hn'
      go_wp2
      go_round
      case rel => exact ⟨i + 1, by go_num, by omega⟩
      case measure => simp [intOf]; omega
    · obtain rfl : i = p := by omega
      have hn' : Y = -1 := by rw [HY.out]; exact HN.out.1
      have f1 : decide (Y < 0) = true := decide_eq_true (by omega)
      clear hn'
      go_wp2_with (go_at_call 11; refine (at_any _ _ _).mono ?_; rintro e w2 ⟨rfl, hb2⟩; have B12 : Below w1.heap.size w1 w2 := hb2; have P6q := P6.below B12 P6.lt; have BN := E1.trans (B12.mono (by omega)); obtain ⟨y0, y1, y2, y3, _⟩ := id P6q)
      obtain ⟨f0, f1, _, _, _⟩ := P6q.set (.int .i64 1) (.int .i64 i)
      refine bodyPost_ret (v := flt 1 i) (by simp [results, Tryd.results6, go_sem, f0, f1]) rfl ⟨rfl, ?_⟩
      exact (by (repeat (first | with_reducible exact E1 | with_reducible exact BN | with_reducible refine Below.drew ?_ | with_reducible refine below_drewN ?_ _ | with_reducible refine Below.setCell ?_ (by first | (simp; done) | (simp; omega) | omega) _ | with_reducible refine Below.alloc ?_ (by first | (simp; done) | (simp; omega) | omega) _)))
theorem sf_b (s : ByteArray) (w : World) {c i : Int} (h : Hid (SFB s c i)) (hT : Tabs w) :
    Calls Tryd.prog 6 #[.string s] w fun e w' => e = .returned (flt c i) ∧ Below w.heap.size w w' := by
  rcases h.out with ⟨rfl, p, rfl, h1, h2⟩ | ⟨rfl, rfl, h1⟩
  · exact sf_char s p w h1 (Lib.hid h2) hT
  · exact sf_long s w h1
/-- The place of an offset. -/
def PlPost (s : ByteArray) (o : Nat) (w : World) (e : Ending) (w' : World) : Prop :=
  ∃ l c : Nat, e = .returned (.tuple #[.int .i64 (l : Int), .int .i64 (c : Int)]) ∧ Hid (PI s o l c) ∧ l ≤ 16001 ∧ c ≤ 16001 ∧ Below w.heap.size w w'
theorem pi_le {s : ByteArray} {i l c : Nat} (h : PI s i l c) : l ≤ i + 1 ∧ c ≤ i + 1 := by
  obtain ⟨b, h1, rfl, rfl⟩ := h
  have k1 := nl_le s 0 i
  have k2 := nb_le s b (i - b)
  omega
set_option maxHeartbeats 4000000 in
theorem place_any (s : ByteArray) (o : Nat) (w : World) (hs : s.size ≤ 16000) (hg : Hid (chkFrom s s.size 0 = none)) (ho : o ≤ s.size) (hT : Tabs w) :
    Calls Tryd.prog 14 #[.string s, .int .i64 (o : Int)] w (PlPost s o w) := by
  go_enter Tryd.func14, Tryd.ntmps14
  go_wp2_with fail
  refine (widths_any s _ hs hT).mono ?_
  rintro e w1 ⟨g, ys, rfl, hR, HL, HW, hgw, hb1⟩
  have HN := Lib.hid (show ∀ j, j < s.size → WC s (wv ys) j from fun j hj => by
    rcases HW.out.2 with ⟨_, h⟩ | ⟨p, _, h, _⟩
    · exact h j hj
    · rw [hg.out] at h; cases h)
  go_wp2_with fail
  go_loop [6, 7, 13] (fun s6 s7 s13 => ∃ i l c : Nat, s13 = .int .i64 (i : Int) ∧ s6 = .int .i64 (l : Int) ∧ s7 = .int .i64 (c : Int) ∧ i ≤ o ∧ Hid (PI s i l c)) (fun _ _ s13 => s.size - (intOf s13).toNat)
  case atStart => exact ⟨0, 1, 1, rfl, rfl, rfl, by omega, Lib.hid (pi_init s)⟩
  case round =>
    obtain ⟨i, l, c, rfl, rfl, rfl, hi, HP⟩ := hrel
    have hl := (pi_le HP.out).1
    have hc := (pi_le HP.out).2
    by_cases hp : i < s.size
    · have c3 : (i : Int) < (s.size : Int) := by omega
      have q0 := hR.cell (j := i) (by rw [HL.out]; exact hp)
      have hn := Lib.hid (HN.out i hp)
      obtain ⟨Y, hY⟩ : ∃ Y, Y = ys.getD i 0 := ⟨_, rfl⟩
      have HY := Lib.hid (show Y = wv ys i from hY)
      rw [← hY] at q0
      clear hY
      by_cases hio : i < o
      · have d1 : decide ((o : Int) ≤ (i : Int)) = false := decide_eq_false (by omega)
        have d1n : decide (o ≤ i) = false := decide_eq_false (by omega)
        have hby : by_ s i = (s[i]'hp).toNat := by unfold by_; rw [← get_at s i hp]; rfl
        have hblt := (s[i]'hp).toNat_lt
        by_cases h10 : by_ s i = 10
        · have HQ := Lib.hid (pi_nl HP.out hp h10)
          have f1 : (((s[i]'hp).toNat : Int) == 10) = true := beq_iff_eq.2 (by omega)
          clear h10 hby
          go_wp2
          go_round
          case rel => exact ⟨i + 1, l + 1, 1, by go_num, by go_num, by go_num, by omega, HQ⟩
          case measure => simp [intOf]; omega
        · have f1 : (((s[i]'hp).toNat : Int) == 10) = false := beq_eq_false_iff_ne.2 (by omega)
          by_cases h2 : by_ s i / 64 = 2
          · have HQ := Lib.hid (pi_ct HP.out h2)
            have f2 : decide (0 < Y) = false := decide_eq_false (by rw [HY.out, hn.out.1 h2]; decide)
            clear h10 h2 hby
            go_wp2
            go_round
            case rel => exact ⟨i + 1, l, c, by go_num, by go_num, by go_num, by omega, HQ⟩
            case measure => simp [intOf]; omega
          · have HQ := Lib.hid (pi_ch HP.out h10 h2)
            have f2 : decide (0 < Y) = true := decide_eq_true (by obtain ⟨n, ga, h9⟩ := hn.out.2 h2; have := ga.n1; rw [HY.out, h9]; omega)
            clear h10 h2 hby
            go_wp2
            go_round
            case rel => exact ⟨i + 1, l, c + 1, by go_num, by go_num, by go_num, by omega, HQ⟩
            case measure => simp [intOf]; omega
      · obtain rfl : i = o := by omega
        have d1 : decide ((i : Int) ≤ (i : Int)) = true := decide_eq_true (by omega)
        clear hio
        go_wp2
        go_ret2
        exact ⟨l, c, rfl, HP, by omega, by omega, hb1⟩
    · obtain rfl : i = o := by omega
      have c3 : ¬ (i : Int) < (s.size : Int) := by omega
      go_wp2
      go_ret2
      exact ⟨l, c, rfl, HP, by omega, by omega, hb1⟩
end Go.Proofs.YtlohapafpgihaaaDoor
