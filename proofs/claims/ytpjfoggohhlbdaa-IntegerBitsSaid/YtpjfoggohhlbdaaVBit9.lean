/- The program's Shift. -/
import Derived.Test.YtpjfoggohhlbdaaVBit8
import Derived.Test.YtpjfoggohhlbdaaVc
import Derived.Test.YtpjfoggohhlbdaaVj
namespace Go.Proofs.Ytpjfoggohhlbdaa
open Go.RowKit
set_option maxHeartbeats 400000
set_option maxRecDepth 100000
set_option linter.unusedSimpArgs false
set_option linter.unusedVariables false

/-- z times 2^i, rounded down. -/
def zshift (z i : Int) : Int := if i < 0 then z / ((2 ^ (-i).toNat : Nat) : Int) else z * ((2 ^ i.toNat : Nat) : Int)
theorem floor_neg {p k : Nat} (hp : 0 < p) (hk : 0 < k) : -((p : Nat) : Int) / ((k : Nat) : Int) = -(((p - 1) / k + 1 : Nat) : Int) := by
  have e : -((p : Nat) : Int) = Int.negSucc (p - 1) := by rw [Int.negSucc_eq]; omega
  rw [e, Int.negSucc_ediv _ (by omega)]
  simp
  rfl
theorem pos_shift {neg : Bool} {p l : Nat} {i : Int} {v : Nat} {u1 u2 : Int} (h : ShiftV p l i v u1 u2) (h0 : u1 = 0 ∧ u2 = 0) (hp : p < 2 ^ l) (hn : neg = true → 0 ≤ i) (hz : l = 0 → p = 0) : sval neg v = zshift (sval neg p) i := by
  unfold zshift
  have pow : ∀ {s : Int}, ((2 : Nat) ^ s.toNat : Nat) > 0 := fun {s} => Nat.two_pow_pos _
  rcases h with ⟨h1, rfl, _, _⟩ | ⟨_, _, _, h5, _⟩ | ⟨_, _, h3, rfl, _, _⟩ | ⟨_, _, h3, rfl, _, _⟩
  · rcases h1 with rfl | h1
    · rw [hz rfl]
      have e : ∀ m : Bool, sval m 0 = 0 := fun m => by cases m <;> rfl
      rw [e]
      split <;> simp
    · by_cases hi : i < 0
      · rw [if_pos hi]
        cases neg
        · show ((0 : Nat) : Int) = ((p : Nat) : Int) / _
          rw [← Int.natCast_ediv, Nat.div_eq_of_lt]
          exact Nat.lt_of_lt_of_le hp (Nat.pow_le_pow_right (by decide) (by omega))
        · have := hn rfl; omega
      · have hl0 : l = 0 := by omega
        rw [hz hl0, if_neg hi]
        cases neg <;> simp [sval]
  · omega
  · rw [if_pos h3]
    cases neg
    · show ((p / _ : Nat) : Int) = ((p : Nat) : Int) / _
      rw [← Int.natCast_ediv]
    · have := hn rfl; omega
  · rw [if_neg (by omega)]
    cases neg
    · show ((p * _ : Nat) : Int) = ((p : Nat) : Int) * _
      rw [← Int.natCast_mul]
    · show -((p * _ : Nat) : Int) = -((p : Nat) : Int) * _
      rw [Int.natCast_mul, Int.neg_mul]
theorem big_shift {neg : Bool} {p l : Nat} {i : Int} (h : ¬ (l = 0 ∨ i ≤ -(l : Int))) (h2 : 19200 - (l : Int) < i) (hl : l ≤ 4096) (hlo : 2 ^ (l - 1) ≤ p) : Top128 ≤ (zshift (sval neg p) i).natAbs := by
  have hi : ¬ i < 0 := by omega
  unfold zshift
  rw [if_neg hi, Int.natAbs_mul, sval_abs, Int.natAbs_natCast]
  obtain ⟨m, hm⟩ : ∃ m, m = 128 := ⟨_, rfl⟩
  rw [top128 hm]
  have e : 4294967296 ^ m = 2 ^ (32 * m) := by rw [Nat.pow_mul]
  rw [e]
  have h5 : 2 ^ (32 * m) ≤ 2 ^ (l - 1 + i.toNat) := Nat.pow_le_pow_right (by decide) (by omega)
  have h6 : 2 ^ (l - 1 + i.toNat) ≤ p * 2 ^ i.toNat := by rw [Nat.pow_add]; exact Nat.mul_le_mul_right _ hlo
  exact Nat.le_trans h5 h6
theorem below_shift {p i l v : Nat} {k : Int} {u1 u2 : Int} (hp : 0 < p) (hk : k < 0) (h : ShiftV (p - 1) l k v u1 u2) (hl : p - 1 < 2 ^ l) (hl2 : l ≤ 19200) : u1 = 0 ∧ u2 = 0 ∧ -((v + 1 : Nat) : Int) = zshift (-((p : Nat) : Int)) k ∧ v ≤ p - 1 := by
  unfold zshift
  rw [if_pos hk, floor_neg hp (Nat.two_pow_pos _)]
  rcases h with ⟨h1, rfl, rfl, rfl⟩ | ⟨_, h4, _, h5, _⟩ | ⟨_, _, h3, rfl, rfl, rfl⟩ | ⟨_, _, h3, rfl, _, _⟩
  · refine ⟨rfl, rfl, ?_, Nat.zero_le _⟩
    rw [Nat.div_eq_of_lt]
    exact Nat.lt_of_lt_of_le hl (Nat.pow_le_pow_right (by decide) (by omega))
  · exfalso; omega
  · exact ⟨rfl, rfl, rfl, Nat.div_le_self _ _⟩
  · omega
set_option maxHeartbeats 4000000 in
theorem shiftBelow_any (w : World) (B : Nat) (a : IV) (i : Int) (i1 : -9223372036854775808 ≤ i) (i2 : i ≤ 9223372036854775807) (HA : a.at w B) (hB : B ≤ w.heap.size) (oa : a.ok = true) (hn : Hid (a.neg = true)) (hi : i < 0) :
    Calls Try.prog 97 #[a.v, .int .i64 i] w (GivesV w (zshift a.val i)) := by
  have hn2 := hn.out
  obtain ⟨va9, hl9⟩ := IV.vld oa
  have HV := Lib.hid va9
  have HP := Lib.hid (show 0 < vb 4294967296 a.xs from by
    have h1 := IV.neg_lt oa HA.lim hn2
    rw [IV.vneg hn2] at h1
    omega)
  have HT := Lib.hid (show vb 4294967296 a.xs < Top128 from lt128 (⟨HA.lim, rfl, (vld_top va9).1⟩ : Rep 4294967296 a.xs _) rfl hl9)
  clear oa va9 hl9
  obtain ⟨neg, A, n, c, xs⟩ := a
  replace HA : LRd w B A n c xs := HA
  obtain rfl : neg = true := hn2
  replace HT : Hid (vb 4294967296 xs < Top128) := HT
  replace HP : Hid (0 < vb 4294967296 xs) := HP
  replace HV : Hid (vld xs = true) := HV
  have hcap := HA.cap
  go_enter Try.func97, Try.ntmps97
  go_upto_region 1 with fail
  obtain ⟨V, hV⟩ : ∃ V : World, V = (w.alloc (.cells #[.bool true, .slice A n c] 24)).alloc (.cells #[.bool false, .slice none 0 0] 24) := ⟨_, rfl⟩
  have PA : Bk2 V w.heap.size (.bool true) (.slice A n c) := by rw [hV]; exact (Bk2.new _ _ _ _).alloc _
  have PR : Bk2 V (w.heap.size + 1) (.bool false) (.slice none 0 0) := by rw [hV]; exact Bk2.newAt _ _ (by simp) _ _ _
  have bV : Below w.heap.size w V := by rw [hV]; exact (bl1 w _).alloc (by simp) _
  have sV : w.heap.size + 2 ≤ V.heap.size := by rw [hV]; simp
  replace HA : LRd V B A n c xs := HA.below bV hB
  rw [← hV]
  clear hV
  have HS := Lib.hid (fun (u : World) (hu : Below V.heap.size V u) => (⟨(PA.below hu PA.lt).c0, (PA.below hu PA.lt).c1⟩ : u.cell? ⟨w.heap.size, 0, none⟩ = some (.bool true) ∧ u.cell? ⟨w.heap.size, 1, none⟩ = some (.slice A n c)))
  go_cut [5] (fun s wx => CrR V (vb 4294967296 xs - 1) s wx)
  case first =>
    as_aux_lemma =>
      have G0 : Below V.heap.size V V.drew := Below.drew (Below.refl _ _)
      have ltA := PA.lt
      go_region_held3 (fun u => u.cell? ⟨w.heap.size, 0, none⟩ = some (.bool true) ∧ u.cell? ⟨w.heap.size, 1, none⟩ = some (.slice A n c))
        (first | with_reducible exact HS.out _ G0 | with_reducible exact HS.out _ HBQ | with_reducible exact HS.out _ HBP | (refine HS.out _ ?_; (repeat (first | with_reducible exact G0 | with_reducible exact HBQ | with_reducible exact HBP | with_reducible exact Below.refl _ _ | with_reducible refine Below.drew ?_ | with_reducible refine Below.alloc ?_ (by first | (simp; done) | (simp; omega) | omega) _ | with_reducible refine Below.setCell ?_ (by first | (simp; done) | (simp; omega) | omega) _)); done) | fail)
        (first
          | (go_at_call 81; (with_reducible refine (one_any _).mono ?_); rintro e wp ⟨A4, k4, c4, x4, rfl, hl4, hr4, hbp⟩; have HBP : Below V.heap.size V wp := (by refine bnext ?_ hbp; (repeat (first | with_reducible exact G0 | with_reducible exact HBQ | with_reducible exact HBP | with_reducible exact Below.refl _ _ | with_reducible refine Below.drew ?_ | with_reducible refine Below.alloc ?_ (by first | (simp; done) | (simp; omega) | omega) _ | with_reducible refine Below.setCell ?_ (by first | (simp; done) | (simp; omega) | omega) _))); have R4 := Lib.hid hr4; clear hr4; have szp := HBP.size; (first | (have p1 := cxd hbp; obtain ⟨_, _, _, _, _⟩ := id p1) | (have p1 := cx1 hbp; obtain ⟨_, _, _, _, _⟩ := id p1) | skip))
          | (go_at_call 82; (with_reducible refine (sub_ok _ wp.heap.size A A4 n k4 c c4 xs x4 ?_ ?_ ?_ HV.out (one_vld R4.out)).mono ?_); (first | with_reducible exact ((HA.below HBP (by omega)).more (by omega)) | with_reducible exact LRd.alloc ((HA.below HBP (by omega)).more (by omega)) (Nat.le_refl _) _); (first | with_reducible exact hl4 | with_reducible exact LRd.alloc hl4 (Nat.le_refl _) _); (first | with_reducible exact Nat.le_refl _ | with_reducible exact cs_w1 _ _); (rw [R4.out.val]; rintro e wq (⟨_, Aq, kq, cq, xq, rfl, hlq, hrq, hbq⟩ | ⟨hlt, _⟩); rotate_left; (exact absurd hlt (by have := HP.out; omega)); have HBQ : Below V.heap.size V wq := (by first | exact bnext HBP hbq | exact bnext (Below.alloc HBP HBP.size _) hbq); have IQ := Lib.hid hrq; clear hrq; have szq : wp.heap.size ≤ wq.heap.size := (by first | with_reducible exact hbq.size | with_reducible exact Nat.le_trans (cs_w1 _ _) hbq.size); (first | (have s1 := cx1 hbq; obtain ⟨_, _, _, _, _⟩ := id s1) | skip); (first | (have s3 := p1.below hbq p1.lt; obtain ⟨_, _, _, _, _⟩ := id s3) | skip)))
          | fail)
      all_goals (go_wp2_with fail)
      all_goals
        go_meet
        refine ⟨Aq, kq, cq, xq, rfl, ?_, IQ, ?_⟩
        · (with_reducible refine LRd.more (B := wq.heap.size) ?_ (by first | (simp [World.setCell]; done) | (simp [World.setCell]; omega))); (repeat (first | with_reducible exact hlq | with_reducible refine LRd.alloc ?_ (by first | (simp; done) | (simp; omega) | omega) _ | with_reducible refine LRd.setFar2 ?_ (by first | (simp; done) | (simp; omega) | omega) _ _ | with_reducible refine LRd.setB ?_ s1 (by simp) (by simp) _ _ | with_reducible refine LRd.setB ?_ s3 (by simp) (by simp) _ _))
        · (repeat (first | with_reducible exact G0 | with_reducible exact HBQ | with_reducible exact HBP | with_reducible exact Below.refl _ _ | with_reducible refine Below.drew ?_ | with_reducible refine Below.alloc ?_ (by first | (simp; done) | (simp; omega) | omega) _ | with_reducible refine Below.setCell ?_ (by first | (simp; done) | (simp; omega) | omega) _))
  case rest =>
    rename World => wc
    obtain ⟨A5, k5, c5, x5, rfl, hl5, R5, hb5⟩ := hcut
    have E := bV.trans (hb5.mono bV.size)
    replace PR := PR.below hb5 PR.lt
    have s5 := hb5.size
    have T5 := Lib.hid (show vb 4294967296 xs - 1 < Top128 by have := HT.out; omega)
    have V5 := Lib.hid (show vld x5 = true from rep_v128 R5.out T5.out)
    have hb9 := Lib.hid (nbits_hi hl5.lim)
    have hbl := Lib.hid (show nbits x5 ≤ 19200 by have h1 := nbits_le hl5.lim; have h2 := (vld_top V5.out).2; omega)
    clear PA HA HS hb5
    go_wp2_with fail
    refine (shift_ok _ wc.heap.size A5 k5 c5 i x5 hl5 (Nat.le_refl _) V5.out ⟨i1, i2⟩).mono ?_
    rintro e w6 ⟨v, u1, u2, hsv, A6, k6, c6, x6, rfl, hl6, hr6, hb6⟩
    rw [R5.out.val] at hsv
    obtain ⟨rfl, rfl, hz, hv⟩ := below_shift (i := 0) HP.out hi hsv (by have h := hb9.out; rw [R5.out.val] at h; exact h) hbl.out
    have R6 := Lib.hid hr6
    have HZ := Lib.hid hz
    have T6 := Lib.hid (show v < Top128 by have := T5.out; omega)
    have V6 := Lib.hid (show vld x6 = true from rep_v128 hr6 T6.out)
    have s6 := hb6.size
    clear hr6 hz hsv hv
    clear hl5
    replace E : Below w.heap.size w w6 := E.trans (hb6.mono E.size)
    replace PR : Bk2 w6 (w.heap.size + 1) (.bool false) (.slice none 0 0) := PR.below hb6 PR.lt
    clear hb6
    go_wp2_with fail
    obtain ⟨V1, hV1⟩ : ∃ V1 : World, V1 = (w6.alloc (.cells #[.int .i64 0, .int .i64 0] 26)) := ⟨_, rfl⟩
    have bV1 : Below w6.heap.size w6 V1 := by rw [hV1]; (repeat (first | with_reducible exact Below.refl _ _ | with_reducible refine Below.drew ?_ | with_reducible refine below_drewN ?_ _ | with_reducible refine Below.setCell ?_ (by first | (simp; done) | (simp; omega) | omega) _ | with_reducible refine Below.alloc ?_ (by first | (simp; done) | (simp; omega) | omega) _))
    have zV1 : w6.heap.size + 1 ≤ V1.heap.size := by rw [hV1]; simp
    have F8 : Bk2 V1 (w6.heap.size) (.int .i64 0) (.int .i64 0) := by rw [hV1]; exact (Bk2.newAt _ _ (by simp) _ _ _)
    rw [← hV1]
    clear hV1
    replace E : Below w.heap.size w V1 := E.trans (bV1.mono E.size)
    replace PR : Bk2 V1 (w.heap.size + 1) (.bool false) (.slice none 0 0) := PR.below bV1 PR.lt
    replace hl6 : LRd V1 (w6.heap.size) A6 k6 c6 x6 := hl6.below bV1 (by omega)
    clear bV1
    clear F8
    (with_reducible refine (one_any _).mono ?_)
    rintro e w7 ⟨A7, k7, c7, x7, rfl, hl7, hr7, hb7⟩
    have sw7 := hb7.size
    replace E : Below w.heap.size w w7 := E.trans (hb7.mono E.size)
    replace PR : Bk2 w7 (w.heap.size + 1) (.bool false) (.slice none 0 0) := PR.below hb7 PR.lt
    replace hl6 : LRd w7 (w6.heap.size) A6 k6 c6 x6 := hl6.below hb7 (by omega)
    clear hb7
    have R7 := Lib.hid hr7
    have V7 := Lib.hid (show vld x7 = true from rep_v128 hr7 (lt_top (by decide)))
    clear hr7
    go_wp2_with fail
    refine (add_ok _ w7.heap.size A6 A7 k6 k7 c6 c7 x6 x7 (hl6.more (by omega)) hl7 (Nat.le_refl _) V6.out V7.out).mono ?_
    rw [R7.out.val, R6.out.val]
    rintro e w8 (⟨_, A8, k8, c8, x8, rfl, hl8, hr8, hb8⟩ | ⟨hge, _⟩)
    rotate_left
    · exact absurd hge (by have := T6.out; have := top_lt_big; omega)
    have R8 := Lib.hid hr8
    have s8 := hb8.size
    clear hr8
    clear hl6 hl7
    replace E : Below w.heap.size w w8 := E.trans (hb8.mono E.size)
    replace PR : Bk2 w8 (w.heap.size + 1) (.bool false) (.slice none 0 0) := PR.below hb8 PR.lt
    clear hb8
    go_wp2_with fail
    obtain ⟨V3, hV3⟩ : ∃ V3 : World, V3 = (w8.alloc (.cells #[.int .i64 0, .int .i64 0] 26)) := ⟨_, rfl⟩
    have bV3 : Below w8.heap.size w8 V3 := by rw [hV3]; (repeat (first | with_reducible exact Below.refl _ _ | with_reducible refine Below.drew ?_ | with_reducible refine below_drewN ?_ _ | with_reducible refine Below.setCell ?_ (by first | (simp; done) | (simp; omega) | omega) _ | with_reducible refine Below.alloc ?_ (by first | (simp; done) | (simp; omega) | omega) _))
    have zV3 : w8.heap.size + 1 ≤ V3.heap.size := by rw [hV3]; simp
    have F10 : Bk2 V3 (w8.heap.size) (.int .i64 0) (.int .i64 0) := by rw [hV3]; exact (Bk2.newAt _ _ (by simp) _ _ _)
    rw [← hV3]
    clear hV3
    replace E : Below w.heap.size w V3 := E.trans (bV3.mono E.size)
    replace PR : Bk2 V3 (w.heap.size + 1) (.bool false) (.slice none 0 0) := PR.below bV3 PR.lt
    replace hl8 : LRd V3 (w8.heap.size) A8 k8 c8 x8 := hl8.below bV3 (by omega)
    clear bV3
    clear F10
    (with_reducible refine (signed_any _ true A8 k8 c8 (v + 1) x8 (hl8.more (by omega)) R8.out).mono ?_)
    rintro e w9 ⟨m4, A4, k4, c4, x4, rfl, hl4, hr4, hb4⟩
    have sw9 := hb4.size
    replace E : Below w.heap.size w w9 := E.trans (hb4.mono E.size)
    replace PR : Bk2 w9 (w.heap.size + 1) (.bool false) (.slice none 0 0) := PR.below hb4 PR.lt
    replace hl8 : LRd w9 (w8.heap.size) A8 k8 c8 x8 := hl8.below hb4 (by omega)
    clear hb4
    have R4 := Lib.hid hr4
    clear hr4
    clear hl8
    have y_PR0 : w9.cell? ⟨w.heap.size + 1, 0, none⟩ = some ((.bool false)) := PR.c0
    have z_PR0 : w9.frozen? ⟨w.heap.size + 1, 0, none⟩ = false := PR.z0
    have y_PR1 : w9.cell? ⟨w.heap.size + 1, 1, none⟩ = some ((.slice none 0 0)) := PR.c1
    have z_PR1 : w9.frozen? ⟨w.heap.size + 1, 1, none⟩ = false := PR.z1
    have lt_PR := PR.lt
    go_wp2_with fail
    clear y_PR0 z_PR0 y_PR1 z_PR1 lt_PR
    obtain ⟨U4PR, hU4PR⟩ : ∃ U4PR : World, U4PR = ((w9.setCell ⟨w.heap.size + 1, 0, none⟩ (.bool m4)).setCell ⟨w.heap.size + 1, 1, none⟩ (.slice A4 k4 c4)) := ⟨_, rfl⟩
    have zU4PR : U4PR.heap.size = w9.heap.size := by rw [hU4PR]; simp [World.setCell]
    replace E : Below w.heap.size w U4PR := by rw [hU4PR]; exact (E.setCell (by first | (simp; done) | (simp; omega)) _).setCell (by first | (simp; done) | (simp; omega)) _
    replace hl4 : LRd U4PR (w9.heap.size) A4 k4 c4 x4 := by rw [hU4PR]; first | exact hl4.setB PR (by simp) (by simp) _ _ | exact hl4.setFar2 (by omega) _ _
    replace PR : Bk2 U4PR (w.heap.size + 1) (.bool m4) (.slice A4 k4 c4) := by rw [hU4PR]; exact PR.set _ _
    rw [← hU4PR]
    clear hU4PR
    have zU4PR' := Nat.le_of_eq zU4PR
    replace zU4PR := Nat.le_of_eq zU4PR.symm
    obtain ⟨r0, r1, _, _, _⟩ := PR
    refine bodyPost_ret (v := intv m4 A4 k4 c4) (by simp [results, Try.results97, go_sem, r0, r1]) rfl ⟨m4, A4, k4, c4, x4, rfl, hl4.more (by omega), ?_, E⟩
    have h9 := R4.out
    rw [show sval true (v + 1) = -((v + 1 : Nat) : Int) from rfl, HZ.out] at h9
    exact h9
end Go.Proofs.Ytpjfoggohhlbdaa
