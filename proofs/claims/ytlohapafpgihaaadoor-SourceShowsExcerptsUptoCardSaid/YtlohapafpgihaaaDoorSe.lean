/- Package source: find, locate, Offset, Lines at a line and a column that are there. -/
import Derived.Test.YtlohapafpgihaaaDoorSd
import Derived.Deep.DeepCutAuto
namespace Go.Proofs.YtlohapafpgihaaaDoor
open Go.RowKit
set_option maxHeartbeats 400000
set_option maxRecDepth 100000
set_option linter.unusedSimpArgs false
set_option linter.unusedVariables false

def FindPost (s : ByteArray) (j : Nat) (w : World) (e : Ending) (w' : World) : Prop :=
  ∃ b t, LB s j b ∧ LE s b t ∧ e = .returned (.tuple #[.string (s.extract b t), .int .i64 (b : Int), flt 0 0]) ∧ Below w.heap.size w w'
theorem find_mk {s C : ByteArray} {j b t : Nat} {w w' : World} (h1 : Hid (LB s j b)) (h2 : Hid (LE s b t)) (hC : C = s.extract b t) (hb : Below w.heap.size w w') : FindPost s j w (.returned (.tuple #[.string C, .int .i64 (b : Int), flt 0 0])) w' := ⟨b, t, h1.out, h2.out, by rw [hC], hb⟩
set_option maxHeartbeats 4000000 in
theorem find_ok (s : ByteArray) (j : Nat) (w : World) (hs : s.size ≤ 16000) (hg : Hid (chkFrom s s.size 0 = none)) (hj : Hid (j ≤ nl s 0 s.size)) :
    Calls Tryd.prog 21 #[.string s, .int .i64 ((j : Int) + 1)] w (FindPost s j w) := by
  obtain ⟨T, hT⟩ : ∃ T, T = nl s 0 s.size := ⟨_, rfl⟩
  have HT := Lib.hid hT
  have HC := Lib.hid (show Lib.countByte s.data.toList 10 = T by rw [hT]; exact ct_all s)
  have t1 : T ≤ 16000 := by have := nl_le s 0 s.size; omega
  have j1 : j ≤ T := by have := hj.out; omega
  clear hT
  have d1 : decide ((j : Int) + 1 < 1) = false := decide_eq_false (by omega)
  have d1' : decide ((j : Int) < 0) = false := decide_eq_false (by omega)
  have d2 : decide ((T : Int) + 1 < (j : Int) + 1) = false := decide_eq_false (by omega)
  have d2' : decide ((T : Int) < (j : Int)) = false := decide_eq_false (by omega)
  have d2n : decide (T < j) = false := decide_eq_false (by omega)
  go_enter Tryd.func21, Tryd.ntmps21
  go_wp2_with fail
  refine (check_good s _ hs hg).mono ?_
  rintro e w1 ⟨rfl, hb1⟩
  have P6 : Bk2 w1 w.heap.size (.int .i64 0) (.int .i64 0) := (Bk2.newAt w _ rfl _ _ _).below hb1 (by simp)
  have s1 : w.heap.size + 1 ≤ w1.heap.size := by have := hb1.size; simpa using this
  have E1 : Below w.heap.size w w1 := ((Below.refl _ _).alloc (Nat.le_refl _) _).trans (hb1.mono (by simp))
  clear hb1
  have lt6 := P6.lt
  have z0 : w1.cell? ⟨w.heap.size, 0, none⟩ = some (.int .i64 0) := P6.c0
  have z1 : w1.cell? ⟨w.heap.size, 1, none⟩ = some (.int .i64 0) := P6.c1
  have z2 : w1.frozen? ⟨w.heap.size, 0, none⟩ = false := P6.z0
  have z3 : w1.frozen? ⟨w.heap.size, 1, none⟩ = false := P6.z1
  go_wp2_with (go_at_call 20; refine (sct_any _ _).mono ?_; rintro e w' ⟨rfl, rfl⟩; rw [HC.out])
  clear d1 d1' d2 d2' d2n
  go_loop [8, 30] (fun s8 s30 => ∃ (i b : Nat), s8 = .int .i64 (b : Int) ∧ s30 = .int .i64 (i : Int) ∧ i ≤ j ∧ b ≤ s.size ∧ Hid (LB s i b)) (fun _ s30 => j - (intOf s30).toNat)
  case atStart => exact ⟨0, 0, rfl, rfl, by omega, by omega, Lib.hid (lb_zero s)⟩
  case round =>
    obtain ⟨i, b, rfl, rfl, hi, hb, HL⟩ := hrel
    obtain ⟨t, ht⟩ := le_ex s hb
    have HE := Lib.hid ht
    have b1 : b ≤ t := ht.1
    have b2 : t ≤ s.size := ht.2.1
    clear ht
    obtain ⟨A, hA⟩ : ∃ A, A = s.extract b s.size := ⟨_, rfl⟩
    have sA : A.size = s.size - b := by rw [hA, ByteArray.size_extract]; omega
    have HA := Lib.hid hA
    have HSA := Lib.hid sA
    have szA : A.size ≤ 16000 := by omega
    have HI := Lib.hid (show Lib.indexByte A.data.toList 10 = if t < s.size then ((t - b : Nat) : Int) else -1 by rw [hA]; exact idx_nl HE.out)
    clear hA sA
    have c1 : (0 : Int) ≤ (b : Int) := by omega
    have c2 : (b : Int) ≤ (s.size : Int) := by omega
    by_cases hlt : i < j
    · have hts : t < s.size := le_lt HL.out HE.out (by have := HT.out; omega)
      have HI2 := Lib.hid (show Lib.indexByte A.data.toList 10 = ((t - b : Nat) : Int) by rw [HI.out, if_pos hts])
      have e1 : decide ((i : Int) < (j : Int)) = true := decide_eq_true (by omega)
      have e1n : decide (i < j) = true := decide_eq_true (by omega)
      have HN := Lib.hid (lb_next HL.out HE.out hts)
      obtain ⟨r, hr⟩ : ∃ r, r = t - b := ⟨_, rfl⟩
      have HR := Lib.hid hr
      have r1 : r ≤ 16000 := by omega
      have r2 : b + r = t := by omega
      have HR2 := Lib.hid r2
      have b3 : b ≤ 16000 := by omega
      rw [← hr] at HI2
      clear hr r2
      go_wp2_with (go_at_call 35; rw [← HA.out]; refine (six_any _ _).mono ?_; rintro e w' ⟨rfl, rfl⟩; rw [HI2.out])
      go_round
      case rel => exact ⟨i + 1, t + 1, by rw [← HR2.out]; first | rfl | go_num | (congr 1; omega), by go_num, by omega, by omega, HN⟩
      case measure => simp [intOf]; omega
    · have e1 : decide ((i : Int) < (j : Int)) = false := decide_eq_false (by omega)
      have e1n : decide (i < j) = false := decide_eq_false (by omega)
      have HLj := Lib.hid (show LB s j b by have h9 := HL.out; rw [show i = j by omega] at h9; exact h9)
      clear hlt
      by_cases hts : t < s.size
      · obtain ⟨r, hr⟩ : ∃ r, r = t - b := ⟨_, rfl⟩
        have HI2 := Lib.hid (show Lib.indexByte A.data.toList 10 = (r : Int) by rw [HI.out, if_pos hts, hr])
        have HX := Lib.hid (show A.extract 0 r = s.extract b t by rw [HA.out, hr]; exact ext_of b1 b2)
        have r1 : r < A.size := by have := HSA.out; omega
        clear hr hts
        go_wp2_with (go_at_call 36; rw [← HA.out]; refine (cut_at A _ r HI2 r1 (by omega)).mono ?_; rintro e w2 ⟨rfl, hb2⟩; have B12 : Below w1.heap.size w1 w2 := (by refine Below.trans ?_ (hb2.mono (by simp)); (repeat (first | with_reducible exact Below.refl _ _ | with_reducible refine Below.alloc ?_ (by first | (simp; done) | (simp; omega) | omega) _))); have P6q := P6.below B12 P6.lt; have BN := E1.trans (B12.mono (by omega)); obtain ⟨y0, y1, y2, y3, _⟩ := id P6q)
        refine bodyPost_ret (v := .tuple #[.string (A.extract 0 r), .int .i64 (b : Int), flt 0 0]) (by simp [results, Tryd.results21, go_sem, y0, y1]) rfl (find_mk HLj HE HX.out (by (repeat (first | with_reducible exact E1 | with_reducible exact BN | with_reducible refine Below.drew ?_ | with_reducible refine below_drewN ?_ _ | with_reducible refine Below.setCell ?_ (by first | (simp; done) | (simp; omega) | omega) _ | with_reducible refine Below.alloc ?_ (by first | (simp; done) | (simp; omega) | omega) _))))
      · have HI2 := Lib.hid (show Lib.indexByte A.data.toList 10 = -1 by rw [HI.out, if_neg hts])
        have HX := Lib.hid (show A = s.extract b t by rw [HA.out, show t = s.size by omega])
        clear hts
        go_wp2_with (go_at_call 36; rw [← HA.out]; refine (cut_no A _ HI2.out).mono ?_; rintro e w2 ⟨rfl, hb2⟩; have B12 : Below w1.heap.size w1 w2 := (by refine Below.trans ?_ (hb2.mono (by simp)); (repeat (first | with_reducible exact Below.refl _ _ | with_reducible refine Below.alloc ?_ (by first | (simp; done) | (simp; omega) | omega) _))); have P6q := P6.below B12 P6.lt; have BN := E1.trans (B12.mono (by omega)); obtain ⟨y0, y1, y2, y3, _⟩ := id P6q)
        refine bodyPost_ret (v := .tuple #[.string A, .int .i64 (b : Int), flt 0 0]) (by simp [results, Tryd.results21, go_sem, y0, y1]) rfl (find_mk HLj HE HX.out (by (repeat (first | with_reducible exact E1 | with_reducible exact BN | with_reducible refine Below.drew ?_ | with_reducible refine below_drewN ?_ _ | with_reducible refine Below.setCell ?_ (by first | (simp; done) | (simp; omega) | omega) _ | with_reducible refine Below.alloc ?_ (by first | (simp; done) | (simp; omega) | omega) _))))
set_option maxHeartbeats 4000000 in
theorem locate_ok (s : ByteArray) (j c : Nat) (w : World) (hs : s.size ≤ 16000) (hg : Hid (chkFrom s s.size 0 = none)) (hj : Hid (j ≤ nl s 0 s.size)) (hc : Hid (∀ b t, LB s j b → LE s b t → c ≤ nb s b (t - b))) :
    Calls Tryd.prog 27 #[.string s, .int .i64 ((j : Int) + 1), .int .i64 ((c : Int) + 1)] w (FindPost s j w) := by
  have G := Lib.hid (good_of hg.out)
  have d1 : decide ((c : Int) + 1 < 1) = false := decide_eq_false (by omega)
  have d1' : decide ((c : Int) < 0) = false := decide_eq_false (by omega)
  go_enter Tryd.func27, Tryd.ntmps27
  go_wp2_with fail
  refine (find_ok s j _ hs hg hj).mono ?_
  rintro e w1 ⟨b, t, hLB, hLE, rfl, hb1⟩
  have P6 : Bk2 w1 w.heap.size (.int .i64 0) (.int .i64 0) := (Bk2.newAt w _ rfl _ _ _).below hb1 (by simp)
  have s1 : w.heap.size + 1 ≤ w1.heap.size := by have := hb1.size; simpa using this
  have E1 : Below w.heap.size w w1 := ((Below.refl _ _).alloc (Nat.le_refl _) _).trans (hb1.mono (by simp))
  clear hb1
  have lt6 := P6.lt
  have z0 : w1.cell? ⟨w.heap.size, 0, none⟩ = some (.int .i64 0) := P6.c0
  have z1 : w1.cell? ⟨w.heap.size, 1, none⟩ = some (.int .i64 0) := P6.c1
  have z2 : w1.frozen? ⟨w.heap.size, 0, none⟩ = false := P6.z0
  have z3 : w1.frozen? ⟨w.heap.size, 1, none⟩ = false := P6.z1
  have HL := Lib.hid hLB
  have HE := Lib.hid hLE
  have HR := Lib.hid (rc_part G.out (lb_bd G.out hLB) (le_bd hLE) hLE.1)
  have hcc := hc.out b t hLB hLE
  have hle := nb_le s b (t - b)
  obtain ⟨M, hM⟩ : ∃ M, M = nb s b (t - b) := ⟨_, rfl⟩
  rw [← hM] at HR hcc hle
  have b1 : b ≤ t := hLE.1
  have b2 : t ≤ s.size := hLE.2.1
  obtain ⟨C, hC⟩ : ∃ C, C = s.extract b t := ⟨_, rfl⟩
  rw [← hC] at HR ⊢
  have HC := Lib.hid hC
  have szC : C.size ≤ 16000 := by rw [hC, ByteArray.size_extract]; omega
  have m1 : M ≤ 16000 := by omega
  clear hLB hLE hM hC hle
  have d2 : decide ((M : Int) + 1 < (c : Int) + 1) = false := decide_eq_false (by omega)
  have d2' : decide ((M : Int) < (c : Int)) = false := decide_eq_false (by omega)
  have d2n : decide (M < c) = false := decide_eq_false (by omega)
  go_wp2_with (go_at_call 26; (with_reducible refine (rc_any C _ (by omega)).mono ?_); rw [HR.out]; rintro e w2 ⟨rfl, hb2⟩; have B12 : Below w1.heap.size w1 w2 := (by refine Below.trans ?_ (hb2.mono (by simp)); (repeat (first | with_reducible exact Below.refl _ _ | with_reducible refine Below.alloc ?_ (by first | (simp; done) | (simp; omega) | omega) _))); have P6q := P6.below B12 P6.lt; have BN := E1.trans (B12.mono (by omega)); obtain ⟨y0, y1, y2, y3, _⟩ := id P6q)
  refine bodyPost_ret (v := .tuple #[.string C, .int .i64 (b : Int), flt 0 0]) (by simp [results, Tryd.results27, go_sem, y0, y1]) rfl (find_mk HL HE HC.out (by (repeat (first | with_reducible exact E1 | with_reducible exact BN | with_reducible refine Below.drew ?_ | with_reducible refine below_drewN ?_ _ | with_reducible refine Below.setCell ?_ (by first | (simp; done) | (simp; omega) | omega) _ | with_reducible refine Below.alloc ?_ (by first | (simp; done) | (simp; omega) | omega) _))))
/-- Where a place of a good text lies in its line. -/
theorem col_le {s : ByteArray} {o b : Nat} (G : Good s) (hB : Bd s o) (h : PosAt s o b) : ∀ b' t, LB s (nl s 0 o) b' → LE s b' t → b' = b ∧ o ≤ t ∧ nb s b (o - b) ≤ nb s b' (t - b') := by
  intro b' t k1 k2
  obtain rfl := lb_uniq k1 h.2.1
  have h1 := le_ge k2 hB.1 h.1 h.2.2
  refine ⟨rfl, h1, ?_⟩
  have h2 := nb_add s b' (o - b') (t - o)
  have h3 := h.1
  rw [show o - b' + (t - o) = t - b' by omega] at h2
  omega
set_option maxHeartbeats 4000000 in
theorem offset_ok (s : ByteArray) (o b0 : Nat) (w : World) (hs : s.size ≤ 16000) (hg : Hid (chkFrom s s.size 0 = none)) (hBd : Hid (Bd s o)) (hP : Hid (PosAt s o b0)) :
    Calls Tryd.prog 15 #[.string s, .int .i64 (((nl s 0 o : Nat) : Int) + 1), .int .i64 (((nb s b0 (o - b0) : Nat) : Int) + 1)] w fun e w' => e = .returned (.tuple #[.int .i64 (o : Int), flt 0 0]) ∧ Below w.heap.size w w' := by
  have G := Lib.hid (good_of hg.out)
  have hj := Lib.hid (nl_mono s hBd.out.1)
  have hc := Lib.hid (fun b t k1 k2 => (col_le G.out hBd.out hP.out b t k1 k2).2.2)
  obtain ⟨J, hJ⟩ : ∃ J, J = nl s 0 o := ⟨_, rfl⟩
  obtain ⟨c, hcE⟩ : ∃ c, c = nb s b0 (o - b0) := ⟨_, rfl⟩
  have c0 : c ≤ 16000 := by have h1 := nb_le s b0 (o - b0); have := hBd.out.1; omega
  have HJ := Lib.hid hJ
  have HCE := Lib.hid hcE
  rw [← hJ, ← hcE] at hc
  rw [← hJ] at hj
  rw [← hJ, ← hcE]
  clear hJ hcE
  go_enter Tryd.func15, Tryd.ntmps15
  go_wp2_with fail
  refine (locate_ok s J c _ hs hg hj hc).mono ?_
  rintro e w1 ⟨b, t, hLB, hLE, rfl, hb1⟩
  have P6 : Bk2 w1 w.heap.size (.int .i64 0) (.int .i64 0) := (Bk2.newAt w _ rfl _ _ _).below hb1 (by simp)
  have s1 : w.heap.size + 1 ≤ w1.heap.size := by have := hb1.size; simpa using this
  have E1 : Below w.heap.size w w1 := ((Below.refl _ _).alloc (Nat.le_refl _) _).trans (hb1.mono (by simp))
  clear hb1
  have lt6 := P6.lt
  have z0 : w1.cell? ⟨w.heap.size, 0, none⟩ = some (.int .i64 0) := P6.c0
  have z1 : w1.cell? ⟨w.heap.size, 1, none⟩ = some (.int .i64 0) := P6.c1
  have z2 : w1.frozen? ⟨w.heap.size, 0, none⟩ = false := P6.z0
  have z3 : w1.frozen? ⟨w.heap.size, 1, none⟩ = false := P6.z1
  obtain ⟨rfl, hot, _⟩ := col_le G.out hBd.out hP.out b t (by rw [← HJ.out]; exact hLB) hLE
  have HZ := Lib.hid (show szFrom (s.extract b t) (s.extract b t).size 0 c = o - b by rw [HCE.out]; exact sz_part G.out (lb_bd G.out hLB) (le_bd hLE) hP.out.1 hBd.out hot)
  have b1 : b ≤ o := hP.out.1
  have b2 : t ≤ s.size := hLE.2.1
  obtain ⟨C, hC⟩ : ∃ C, C = s.extract b t := ⟨_, rfl⟩
  rw [← hC] at HZ ⊢
  have szC : C.size ≤ 16000 := by rw [hC, ByteArray.size_extract]; omega
  clear hLB hLE hC
  obtain ⟨Z, hZ⟩ : ∃ Z, Z = o - b := ⟨_, rfl⟩
  rw [← hZ] at HZ
  have HZO := Lib.hid (show (b : Int) + (Z : Int) = (o : Int) by omega)
  have z9 : Z ≤ 16000 := by omega
  have b9 : b ≤ 16000 := by omega
  clear hZ
  go_wp2_with (go_at_call 28; (with_reducible refine (size_any C c _ (by omega) (by omega)).mono ?_); rw [HZ.out]; rintro e w2 ⟨rfl, hb2⟩; have B12 : Below w1.heap.size w1 w2 := (by refine Below.trans ?_ (hb2.mono (by simp)); (repeat (first | with_reducible exact Below.refl _ _ | with_reducible refine Below.alloc ?_ (by first | (simp; done) | (simp; omega) | omega) _))); have P6q := P6.below B12 P6.lt; have BN := E1.trans (B12.mono (by omega)); obtain ⟨y0, y1, y2, y3, _⟩ := id P6q)
  refine bodyPost_ret (v := .tuple #[.int .i64 ((b : Int) + (Z : Int)), flt 0 0]) (by simp [results, Tryd.results15, go_sem, y0, y1]) rfl ⟨by rw [HZO.out], (by (repeat (first | with_reducible exact E1 | with_reducible exact BN | with_reducible refine Below.drew ?_ | with_reducible refine below_drewN ?_ _ | with_reducible refine Below.setCell ?_ (by first | (simp; done) | (simp; omega) | omega) _ | with_reducible refine Below.alloc ?_ (by first | (simp; done) | (simp; omega) | omega) _)))⟩
set_option maxHeartbeats 4000000 in
theorem lines_ok (s : ByteArray) (w : World) (hs : s.size ≤ 16000) (hg : Hid (chkFrom s s.size 0 = none)) :
    Calls Tryd.prog 8 #[.string s] w fun e w' => e = .returned (.tuple #[.int .i64 (((nl s 0 s.size : Nat) : Int) + 1), flt 0 0]) ∧ Below w.heap.size w w' := by
  obtain ⟨T, hT⟩ : ∃ T, T = nl s 0 s.size := ⟨_, rfl⟩
  have HC := Lib.hid (show Lib.countByte s.data.toList 10 = T by rw [hT]; exact ct_all s)
  have t1 : T ≤ 16000 := by have := nl_le s 0 s.size; omega
  rw [← hT]
  clear hT
  go_enter Tryd.func8, Tryd.ntmps8
  go_wp2_with fail
  refine (check_good s _ hs hg).mono ?_
  rintro e w1 ⟨rfl, hb1⟩
  have P6 : Bk2 w1 w.heap.size (.int .i64 0) (.int .i64 0) := (Bk2.newAt w _ rfl _ _ _).below hb1 (by simp)
  have s1 : w.heap.size + 1 ≤ w1.heap.size := by have := hb1.size; simpa using this
  have E1 : Below w.heap.size w w1 := ((Below.refl _ _).alloc (Nat.le_refl _) _).trans (hb1.mono (by simp))
  clear hb1
  have lt6 := P6.lt
  have z0 : w1.cell? ⟨w.heap.size, 0, none⟩ = some (.int .i64 0) := P6.c0
  have z1 : w1.cell? ⟨w.heap.size, 1, none⟩ = some (.int .i64 0) := P6.c1
  have z2 : w1.frozen? ⟨w.heap.size, 0, none⟩ = false := P6.z0
  have z3 : w1.frozen? ⟨w.heap.size, 1, none⟩ = false := P6.z1
  go_wp2_with (go_at_call 20; refine (sct_any _ _).mono ?_; rintro e w' ⟨rfl, rfl⟩; rw [HC.out])
  obtain ⟨f0, f1, _, _, _⟩ := (P6.set (.int .i64 0) (.int .i64 0)).alloc (.cells #[.int .i64 0, .int .i64 0] 24)
  refine bodyPost_ret (v := .tuple #[.int .i64 ((T : Int) + 1), flt 0 0]) (by simp [results, Tryd.results8, go_sem, f0, f1]) rfl ⟨rfl, (by (repeat (first | with_reducible exact E1 | with_reducible exact BN | with_reducible refine Below.drew ?_ | with_reducible refine below_drewN ?_ _ | with_reducible refine Below.setCell ?_ (by first | (simp; done) | (simp; omega) | omega) _ | with_reducible refine Below.alloc ?_ (by first | (simp; done) | (simp; omega) | omega) _)))⟩
end Go.Proofs.YtlohapafpgihaaaDoor
