/- The program's parseDenominator and parseParts. -/
import Derived.Test.YtflmcgoijofpdaaGreatCPrs1
import Derived.Test.YtflmcgoijofpdaaGreatCi
namespace Go.Proofs.YtflmcgoijofpdaaGreat
open Go.RowKit
set_option maxHeartbeats 400000
set_option maxRecDepth 100000
set_option linter.unusedSimpArgs false
set_option linter.unusedVariables false

/-- What becomes of the text of an integer. -/
def NumIs (t : ByteArray) (z f g : Int) : Prop := (¬ TxOk t 10 ∧ z = 0 ∧ f = 1 ∧ g = -1) ∨ (TxOk t 10 ∧ Top128 ≤ (TxVal t 10).natAbs ∧ z = 0 ∧ f = 14 ∧ g = -1) ∨ (TxOk t 10 ∧ (TxVal t 10).natAbs < Top128 ∧ z = TxVal t 10 ∧ f = 0 ∧ g = 0)
/-- The text of a denominator. -/
def DOk (t : ByteArray) : Prop := TxOk t 10 ∧ TxNeg t = false ∧ 1 < TxVal t 10
def DenIs (t : ByteArray) (z f g : Int) : Prop := (¬ DOk t ∧ z = 0 ∧ f = 1 ∧ g = -1) ∨ (DOk t ∧ Top128 ≤ (TxVal t 10).natAbs ∧ z = 0 ∧ f = 14 ∧ g = -1) ∨ (DOk t ∧ (TxVal t 10).natAbs < Top128 ∧ z = TxVal t 10 ∧ f = 0 ∧ g = 0)
def GivesPt (w : World) (P : Int → Int → Int → Prop) (e : Ending) (w' : World) : Prop := ∃ z f g, P z f g ∧ GivesVF w z f g e w'
theorem iparse_u (w : World) (t : ByteArray) (hl : t.size ≤ 4097) :
    Calls Tryz.prog 128 #[.string t, .int .i64 10] w (GivesPt w (NumIs t)) := by
  by_cases h : TxOk t 10
  · refine (iparse_ok w t 10 (by decide) hl h).mono fun _ _ g => ?_
    rcases g with ⟨h1, g⟩ | ⟨h1, g⟩
    · exact ⟨_, _, _, .inr (.inr ⟨h, h1, rfl, rfl, rfl⟩), g⟩
    · exact ⟨_, _, _, .inr (.inl ⟨h, h1, rfl, rfl, rfl⟩), g⟩
  · exact (iparse_syntax w t 10 (by decide) hl h).mono fun _ _ g => ⟨_, _, _, .inl ⟨h, rfl, rfl, rfl⟩, g⟩
theorem txv_neg {t : ByteArray} (h : TxNeg t = true) : TxVal t 10 ≤ 0 := by
  unfold TxVal; rw [h]; simp [sval]
theorem txv_pos {t : ByteArray} (h : TxNeg t = false) : 0 ≤ TxVal t 10 := by
  unfold TxVal; rw [h, sval_f]; omega
theorem isone_val {m : Bool} {zs : List Nat} {z : Int} {k : Nat} (h : IRep m zs z) (hl : zs.length = k) (hz : 0 ≤ z) : isone zs k = decide (z = 1) := by
  obtain ⟨g, rfl⟩ := Int.eq_ofNat_of_zero_le hz
  have hm : m = false := by rw [h.sgn]; exact decide_eq_false (by omega)
  rw [hm] at h
  rw [gcd_one h hl, Bool.eq_iff_iff, decide_eq_true_eq, decide_eq_true_eq]
  omega
theorem keep2 {u : World} {B n c g1 g3 : Nat} {A : Option Addr} {xs : List Nat} {b : Bool} {D : Option Addr} {m k : Nat} {i j : Int} (h : LRd u B A n c xs) (P : Bk2 u g1 (.bool b) (.slice D m k)) (F : Bk2 u g3 (.int .i64 i) (.int .i64 j)) (h13 : g1 ≠ g3) (x1 x2 z1 z2 : Value) :
    LRd ((((u.setCell ⟨g1, 0, none⟩ x1).setCell ⟨g1, 1, none⟩ x2).setCell ⟨g3, 0, none⟩ z1).setCell ⟨g3, 1, none⟩ z2) B A n c xs := by
  have h1 := h.setB P (by simp) (by simp) x1 x2
  have F1 := F.far2 (g' := g1) (by omega) x1 x2
  exact h1.setB F1 (by simp) (by simp) z1 z2
set_option maxHeartbeats 8000000 in
theorem pden_any (w : World) (t : ByteArray) (hl : t.size ≤ 4097) :
    Calls Tryz.prog 129 #[.string t] w (GivesPt w (DenIs t)) := by
  have E : Below w.heap.size w w := Below.refl _ _
  go_enter Tryz.func129, Tryz.ntmps129
  go_wp2_with fail
  obtain ⟨V0, hV0⟩ : ∃ V0 : World, V0 = ((w.alloc (.cells #[.bool false, .slice none 0 0] 24)).alloc (.cells #[.int .i64 0, .int .i64 0] 28)) := ⟨_, rfl⟩
  have bV0 : Below w.heap.size w V0 := by rw [hV0]; (repeat (first | with_reducible exact Below.refl _ _ | with_reducible refine Below.drew ?_ | with_reducible refine below_drewN ?_ _ | with_reducible refine Below.setCell ?_ (by first | (simp; done) | (simp; omega) | omega) _ | with_reducible refine Below.alloc ?_ (by first | (simp; done) | (simp; omega) | omega) _))
  have zV0 : w.heap.size + 2 ≤ V0.heap.size := by rw [hV0]; simp
  have PI : Bk2 V0 (w.heap.size) (.bool false) (.slice none 0 0) := by rw [hV0]; exact ((Bk2.newAt _ _ (by first | omega | (simp; done) | (simp; omega)) _ _ _).alloc _)
  have PF : Bk2 V0 (w.heap.size + 1) (.int .i64 0) (.int .i64 0) := by rw [hV0]; exact (Bk2.newAt _ _ (by first | omega | (simp; done) | (simp; omega)) _ _ _)
  rw [← hV0]
  clear hV0
  replace E := E.trans (bV0.mono E.size)
  clear bV0
  (with_reducible refine (iparse_u _ t hl).mono ?_)
  rintro e w1 ⟨z, f, g, hN, m, A, k, c, xs, rfl, hl1, hr1, hb1⟩
  have sw1 := hb1.size
  replace E := E.trans (hb1.mono E.size)
  replace PI := PI.below hb1 PI.lt
  replace PF := PF.below hb1 PF.lt
  clear hb1
  have NI := Lib.hid hN
  have R1 := Lib.hid hr1
  clear hr1
  rcases hN with ⟨h, rfl, rfl, rfl⟩ | ⟨h, h1, rfl, rfl, rfl⟩ | ⟨h, h1, rfl, rfl, rfl⟩
  · have H := Lib.hid h
    clear h
    go_wp2_with fail
    obtain ⟨V1, hV1⟩ : ∃ V1 : World, V1 = ((w1.alloc (.cells #[.bool m, .slice A k c] 24)).alloc (.cells #[.int .i64 1, .int .i64 (-1)] 28)) := ⟨_, rfl⟩
    have bV1 : Below w1.heap.size w1 V1 := by rw [hV1]; (repeat (first | with_reducible exact Below.refl _ _ | with_reducible refine Below.drew ?_ | with_reducible refine below_drewN ?_ _ | with_reducible refine Below.setCell ?_ (by first | (simp; done) | (simp; omega) | omega) _ | with_reducible refine Below.alloc ?_ (by first | (simp; done) | (simp; omega) | omega) _))
    have zV1 : w1.heap.size + 2 ≤ V1.heap.size := by rw [hV1]; simp
    have P4 : Bk2 V1 (w1.heap.size) (.bool m) (.slice A k c) := by rw [hV1]; exact ((Bk2.newAt _ _ (by first | omega | (simp; done) | (simp; omega)) _ _ _).alloc _)
    have F5 : Bk2 V1 (w1.heap.size + 1) (.int .i64 1) (.int .i64 (-1)) := by rw [hV1]; exact (Bk2.newAt _ _ (by first | omega | (simp; done) | (simp; omega)) _ _ _)
    rw [← hV1]
    clear hV1
    replace E := E.trans (bV1.mono E.size)
    replace PI := PI.below bV1 PI.lt
    replace PF := PF.below bV1 PF.lt
    replace hl1 := hl1.below bV1 (by omega)
    clear bV1
    cases ht : TxNeg t
    · have HT := Lib.hid ht
      clear ht
      (with_reducible refine (hp_any _ _).mono ?_)
      rintro e w' ⟨rfl, rfl⟩
      rw [HT.out]
      have ND := Lib.hid (show ¬ DOk t from fun h => H.out h.1)
      go_upto_region 5 with fail
      have lt4 := P4.lt
      have lt5 := F5.lt
      have ltI := PI.lt
      have ltF := PF.lt
      have PIk := PI
      have PFk := PF
      obtain ⟨_, _, _, _, _⟩ := P4
      obtain ⟨_, _, _, _, _⟩ := F5
      obtain ⟨f0, f1, z0, z1, _⟩ := PF
      obtain ⟨i0, i1, y4, y5, _⟩ := PI
      go_region
      go_wp2_with fail
      refine bodyPost_ret (v := .tuple #[intv m A k c, flt 1 (-1)]) (by simp [results, Tryz.results129, go_sem, i0, i1, f0, f1]) rfl ⟨0, 1, (-1), .inl ⟨ND.out, rfl, rfl, rfl⟩, m, A, k, c, xs, rfl, ?_, R1.out, ?_⟩
      · first
          | exact LRd.more (keep2 hl1 PIk PFk (by omega) _ _ _ _) (by simp [World.setCell]; omega)
          | exact LRd.more (LRd.drew (keep2 hl1 PIk PFk (by omega) _ _ _ _)) (by simp [World.setCell]; omega)
          | exact LRd.more (keep2 (LRd.drew hl1) PIk.drew PFk.drew (by omega) _ _ _ _) (by simp [World.setCell]; omega)
      · (repeat (first | with_reducible exact E | with_reducible refine Below.drew ?_ | with_reducible refine below_drewN ?_ _ | with_reducible refine Below.setCell ?_ (by first | (simp; done) | (simp; omega) | omega) _))
    · have HT := Lib.hid ht
      clear ht
      (with_reducible refine (hp_any _ _).mono ?_)
      rintro e w' ⟨rfl, rfl⟩
      rw [HT.out]
      have ND := Lib.hid (show ¬ DOk t from fun h => H.out h.1)
      have y_PI0 := PI.c0
      have z_PI0 := PI.z0
      have y_PI1 := PI.c1
      have z_PI1 := PI.z1
      have lt_PI := PI.lt
      have y_PF0 := PF.c0
      have z_PF0 := PF.z0
      have y_PF1 := PF.c1
      have z_PF1 := PF.z1
      have lt_PF := PF.lt
      go_wp2_with fail
      clear y_PI0 z_PI0 y_PI1 z_PI1 lt_PI y_PF0 z_PF0 y_PF1 z_PF1 lt_PF
      obtain ⟨U2PI, hU2PI⟩ : ∃ U2PI : World, U2PI = ((V1.setCell ⟨w.heap.size, 0, none⟩ (.bool false)).setCell ⟨w.heap.size, 1, none⟩ (.slice none 0 0)) := ⟨_, rfl⟩
      have zU2PI : U2PI.heap.size = V1.heap.size := by rw [hU2PI]; simp [World.setCell]
      replace E : Below w.heap.size w U2PI := by rw [hU2PI]; exact ((E.setCell (by first | (simp; done) | (simp; omega)) _).setCell (by first | (simp; done) | (simp; omega)) _)
      replace PF : Bk2 U2PI (w.heap.size + 1) (.int .i64 0) (.int .i64 0) := by rw [hU2PI]; exact PF.far2 (by omega) _ _
      replace hl1 : LRd U2PI (w1.heap.size) A k c xs := by rw [hU2PI]; first | exact hl1.setB PI (by simp) (by simp) _ _ | exact hl1.setFarL (by omega) _ _
      replace P4 : Bk2 U2PI (w1.heap.size) (.bool m) (.slice A k c) := by rw [hU2PI]; exact P4.far2 (by omega) _ _
      replace F5 : Bk2 U2PI (w1.heap.size + 1) (.int .i64 1) (.int .i64 (-1)) := by rw [hU2PI]; exact F5.far2 (by omega) _ _
      replace PI : Bk2 U2PI (w.heap.size) (.bool false) (.slice none 0 0) := by rw [hU2PI]; exact PI.set _ _
      rw [← hU2PI]
      clear hU2PI
      have zU2PI' := Nat.le_of_eq zU2PI
      replace zU2PI := Nat.le_of_eq zU2PI.symm
      obtain ⟨U2PF, hU2PF⟩ : ∃ U2PF : World, U2PF = ((U2PI.setCell ⟨w.heap.size + 1, 0, none⟩ (.int .i64 1)).setCell ⟨w.heap.size + 1, 1, none⟩ (.int .i64 (-1))) := ⟨_, rfl⟩
      have zU2PF : U2PF.heap.size = U2PI.heap.size := by rw [hU2PF]; simp [World.setCell]
      replace E : Below w.heap.size w U2PF := by rw [hU2PF]; exact ((E.setCell (by first | (simp; done) | (simp; omega)) _).setCell (by first | (simp; done) | (simp; omega)) _)
      replace PI : Bk2 U2PF (w.heap.size) (.bool false) (.slice none 0 0) := by rw [hU2PF]; exact PI.far2 (by omega) _ _
      replace hl1 : LRd U2PF (w1.heap.size) A k c xs := by rw [hU2PF]; first | exact hl1.setB PF (by simp) (by simp) _ _ | exact hl1.setFarL (by omega) _ _
      replace P4 : Bk2 U2PF (w1.heap.size) (.bool m) (.slice A k c) := by rw [hU2PF]; exact P4.far2 (by omega) _ _
      replace F5 : Bk2 U2PF (w1.heap.size + 1) (.int .i64 1) (.int .i64 (-1)) := by rw [hU2PF]; exact F5.far2 (by omega) _ _
      replace PF : Bk2 U2PF (w.heap.size + 1) (.int .i64 1) (.int .i64 (-1)) := by rw [hU2PF]; exact PF.set _ _
      rw [← hU2PF]
      clear hU2PF
      have zU2PF' := Nat.le_of_eq zU2PF
      replace zU2PF := Nat.le_of_eq zU2PF.symm
      obtain ⟨f0, f1, _, _, _⟩ := PF
      obtain ⟨i0, i1, _, _, _⟩ := PI
      refine bodyPost_ret (v := .tuple #[intv false none 0 0, flt 1 (-1)]) (by simp [results, Tryz.results129, go_sem, i0, i1, f0, f1]) rfl ⟨0, 1, -1, .inl ⟨ND.out, rfl, rfl, rfl⟩, ⟨false, none, 0, 0, [], rfl, nil_lrd _, IRep.zero, E⟩⟩
  · have H := Lib.hid h
    have H1 := Lib.hid h1
    clear h h1
    go_wp2_with fail
    obtain ⟨V1, hV1⟩ : ∃ V1 : World, V1 = ((w1.alloc (.cells #[.bool m, .slice A k c] 24)).alloc (.cells #[.int .i64 14, .int .i64 (-1)] 28)) := ⟨_, rfl⟩
    have bV1 : Below w1.heap.size w1 V1 := by rw [hV1]; (repeat (first | with_reducible exact Below.refl _ _ | with_reducible refine Below.drew ?_ | with_reducible refine below_drewN ?_ _ | with_reducible refine Below.setCell ?_ (by first | (simp; done) | (simp; omega) | omega) _ | with_reducible refine Below.alloc ?_ (by first | (simp; done) | (simp; omega) | omega) _))
    have zV1 : w1.heap.size + 2 ≤ V1.heap.size := by rw [hV1]; simp
    have P4 : Bk2 V1 (w1.heap.size) (.bool m) (.slice A k c) := by rw [hV1]; exact ((Bk2.newAt _ _ (by first | omega | (simp; done) | (simp; omega)) _ _ _).alloc _)
    have F5 : Bk2 V1 (w1.heap.size + 1) (.int .i64 14) (.int .i64 (-1)) := by rw [hV1]; exact (Bk2.newAt _ _ (by first | omega | (simp; done) | (simp; omega)) _ _ _)
    rw [← hV1]
    clear hV1
    replace E := E.trans (bV1.mono E.size)
    replace PI := PI.below bV1 PI.lt
    replace PF := PF.below bV1 PF.lt
    replace hl1 := hl1.below bV1 (by omega)
    clear bV1
    cases ht : TxNeg t
    · have HT := Lib.hid ht
      clear ht
      (with_reducible refine (hp_any _ _).mono ?_)
      rintro e w' ⟨rfl, rfl⟩
      rw [HT.out]
      have YD := Lib.hid (show DOk t from ⟨H.out, HT.out, by have := txv_pos HT.out; have := H1.out; have h4 : 1 < Top128 := lt_top (by decide); omega⟩)
      go_upto_region 5 with fail
      have lt4 := P4.lt
      have lt5 := F5.lt
      have ltI := PI.lt
      have ltF := PF.lt
      have PIk := PI
      have PFk := PF
      obtain ⟨_, _, _, _, _⟩ := P4
      obtain ⟨_, _, _, _, _⟩ := F5
      obtain ⟨f0, f1, z0, z1, _⟩ := PF
      obtain ⟨i0, i1, y4, y5, _⟩ := PI
      go_region
      go_wp2_with fail
      refine bodyPost_ret (v := .tuple #[intv m A k c, flt 14 (-1)]) (by simp [results, Tryz.results129, go_sem, i0, i1, f0, f1]) rfl ⟨0, 14, (-1), .inr (.inl ⟨YD.out, H1.out, rfl, rfl, rfl⟩), m, A, k, c, xs, rfl, ?_, R1.out, ?_⟩
      · first
          | exact LRd.more (keep2 hl1 PIk PFk (by omega) _ _ _ _) (by simp [World.setCell]; omega)
          | exact LRd.more (LRd.drew (keep2 hl1 PIk PFk (by omega) _ _ _ _)) (by simp [World.setCell]; omega)
          | exact LRd.more (keep2 (LRd.drew hl1) PIk.drew PFk.drew (by omega) _ _ _ _) (by simp [World.setCell]; omega)
      · (repeat (first | with_reducible exact E | with_reducible refine Below.drew ?_ | with_reducible refine below_drewN ?_ _ | with_reducible refine Below.setCell ?_ (by first | (simp; done) | (simp; omega) | omega) _))
    · have HT := Lib.hid ht
      clear ht
      (with_reducible refine (hp_any _ _).mono ?_)
      rintro e w' ⟨rfl, rfl⟩
      rw [HT.out]
      have ND := Lib.hid (show ¬ DOk t from fun h => by have := h.2.1; rw [HT.out] at this; cases this)
      have y_PI0 := PI.c0
      have z_PI0 := PI.z0
      have y_PI1 := PI.c1
      have z_PI1 := PI.z1
      have lt_PI := PI.lt
      have y_PF0 := PF.c0
      have z_PF0 := PF.z0
      have y_PF1 := PF.c1
      have z_PF1 := PF.z1
      have lt_PF := PF.lt
      go_wp2_with fail
      clear y_PI0 z_PI0 y_PI1 z_PI1 lt_PI y_PF0 z_PF0 y_PF1 z_PF1 lt_PF
      obtain ⟨U2PI, hU2PI⟩ : ∃ U2PI : World, U2PI = ((V1.setCell ⟨w.heap.size, 0, none⟩ (.bool false)).setCell ⟨w.heap.size, 1, none⟩ (.slice none 0 0)) := ⟨_, rfl⟩
      have zU2PI : U2PI.heap.size = V1.heap.size := by rw [hU2PI]; simp [World.setCell]
      replace E : Below w.heap.size w U2PI := by rw [hU2PI]; exact ((E.setCell (by first | (simp; done) | (simp; omega)) _).setCell (by first | (simp; done) | (simp; omega)) _)
      replace PF : Bk2 U2PI (w.heap.size + 1) (.int .i64 0) (.int .i64 0) := by rw [hU2PI]; exact PF.far2 (by omega) _ _
      replace hl1 : LRd U2PI (w1.heap.size) A k c xs := by rw [hU2PI]; first | exact hl1.setB PI (by simp) (by simp) _ _ | exact hl1.setFarL (by omega) _ _
      replace P4 : Bk2 U2PI (w1.heap.size) (.bool m) (.slice A k c) := by rw [hU2PI]; exact P4.far2 (by omega) _ _
      replace F5 : Bk2 U2PI (w1.heap.size + 1) (.int .i64 14) (.int .i64 (-1)) := by rw [hU2PI]; exact F5.far2 (by omega) _ _
      replace PI : Bk2 U2PI (w.heap.size) (.bool false) (.slice none 0 0) := by rw [hU2PI]; exact PI.set _ _
      rw [← hU2PI]
      clear hU2PI
      have zU2PI' := Nat.le_of_eq zU2PI
      replace zU2PI := Nat.le_of_eq zU2PI.symm
      obtain ⟨U2PF, hU2PF⟩ : ∃ U2PF : World, U2PF = ((U2PI.setCell ⟨w.heap.size + 1, 0, none⟩ (.int .i64 1)).setCell ⟨w.heap.size + 1, 1, none⟩ (.int .i64 (-1))) := ⟨_, rfl⟩
      have zU2PF : U2PF.heap.size = U2PI.heap.size := by rw [hU2PF]; simp [World.setCell]
      replace E : Below w.heap.size w U2PF := by rw [hU2PF]; exact ((E.setCell (by first | (simp; done) | (simp; omega)) _).setCell (by first | (simp; done) | (simp; omega)) _)
      replace PI : Bk2 U2PF (w.heap.size) (.bool false) (.slice none 0 0) := by rw [hU2PF]; exact PI.far2 (by omega) _ _
      replace hl1 : LRd U2PF (w1.heap.size) A k c xs := by rw [hU2PF]; first | exact hl1.setB PF (by simp) (by simp) _ _ | exact hl1.setFarL (by omega) _ _
      replace P4 : Bk2 U2PF (w1.heap.size) (.bool m) (.slice A k c) := by rw [hU2PF]; exact P4.far2 (by omega) _ _
      replace F5 : Bk2 U2PF (w1.heap.size + 1) (.int .i64 14) (.int .i64 (-1)) := by rw [hU2PF]; exact F5.far2 (by omega) _ _
      replace PF : Bk2 U2PF (w.heap.size + 1) (.int .i64 1) (.int .i64 (-1)) := by rw [hU2PF]; exact PF.set _ _
      rw [← hU2PF]
      clear hU2PF
      have zU2PF' := Nat.le_of_eq zU2PF
      replace zU2PF := Nat.le_of_eq zU2PF.symm
      obtain ⟨f0, f1, _, _, _⟩ := PF
      obtain ⟨i0, i1, _, _, _⟩ := PI
      refine bodyPost_ret (v := .tuple #[intv false none 0 0, flt 1 (-1)]) (by simp [results, Tryz.results129, go_sem, i0, i1, f0, f1]) rfl ⟨0, 1, -1, .inl ⟨ND.out, rfl, rfl, rfl⟩, ⟨false, none, 0, 0, [], rfl, nil_lrd _, IRep.zero, E⟩⟩
  · have H := Lib.hid h
    have H1 := Lib.hid h1
    clear h h1
    have hk9 := hl1.cap
    go_wp2_with fail
    obtain ⟨V1, hV1⟩ : ∃ V1 : World, V1 = ((w1.alloc (.cells #[.bool m, .slice A k c] 24)).alloc (.cells #[.int .i64 0, .int .i64 0] 28)) := ⟨_, rfl⟩
    have bV1 : Below w1.heap.size w1 V1 := by rw [hV1]; (repeat (first | with_reducible exact Below.refl _ _ | with_reducible refine Below.drew ?_ | with_reducible refine below_drewN ?_ _ | with_reducible refine Below.setCell ?_ (by first | (simp; done) | (simp; omega) | omega) _ | with_reducible refine Below.alloc ?_ (by first | (simp; done) | (simp; omega) | omega) _))
    have zV1 : w1.heap.size + 2 ≤ V1.heap.size := by rw [hV1]; simp
    have P4 : Bk2 V1 (w1.heap.size) (.bool m) (.slice A k c) := by rw [hV1]; exact ((Bk2.newAt _ _ (by first | omega | (simp; done) | (simp; omega)) _ _ _).alloc _)
    have F5 : Bk2 V1 (w1.heap.size + 1) (.int .i64 0) (.int .i64 0) := by rw [hV1]; exact (Bk2.newAt _ _ (by first | omega | (simp; done) | (simp; omega)) _ _ _)
    rw [← hV1]
    clear hV1
    replace E := E.trans (bV1.mono E.size)
    replace PI := PI.below bV1 PI.lt
    replace PF := PF.below bV1 PF.lt
    replace hl1 := hl1.below bV1 (by omega)
    clear bV1
    (with_reducible refine (isZero_any _ m A k c (by omega)).mono ?_)
    rintro e w2 ⟨rfl, hb2⟩
    have sw2 := hb2.size
    replace E := E.trans (hb2.mono E.size)
    replace PI := PI.below hb2 PI.lt
    replace PF := PF.below hb2 PF.lt
    replace hl1 := hl1.below hb2 (by omega)
    replace P4 := P4.below hb2 P4.lt
    replace F5 := F5.below hb2 F5.lt
    clear hb2
    by_cases hz : TxVal t 10 = 0
    · rw [show decide (k = 0) = true from decide_eq_true (by have h3 := (IRep.len0 R1.out).2 hz; have h4 := hl1.len.out; omega)]
      have ND := Lib.hid (show ¬ DOk t from fun h => by have := h.2.2; omega)
      clear hz
      have y_PI0 := PI.c0
      have z_PI0 := PI.z0
      have y_PI1 := PI.c1
      have z_PI1 := PI.z1
      have lt_PI := PI.lt
      have y_PF0 := PF.c0
      have z_PF0 := PF.z0
      have y_PF1 := PF.c1
      have z_PF1 := PF.z1
      have lt_PF := PF.lt
      go_wp2_with fail
      clear y_PI0 z_PI0 y_PI1 z_PI1 lt_PI y_PF0 z_PF0 y_PF1 z_PF1 lt_PF
      obtain ⟨U2PI, hU2PI⟩ : ∃ U2PI : World, U2PI = ((w2.setCell ⟨w.heap.size, 0, none⟩ (.bool false)).setCell ⟨w.heap.size, 1, none⟩ (.slice none 0 0)) := ⟨_, rfl⟩
      have zU2PI : U2PI.heap.size = w2.heap.size := by rw [hU2PI]; simp [World.setCell]
      replace E : Below w.heap.size w U2PI := by rw [hU2PI]; exact ((E.setCell (by first | (simp; done) | (simp; omega)) _).setCell (by first | (simp; done) | (simp; omega)) _)
      replace PF : Bk2 U2PI (w.heap.size + 1) (.int .i64 0) (.int .i64 0) := by rw [hU2PI]; exact PF.far2 (by omega) _ _
      replace hl1 : LRd U2PI (w1.heap.size) A k c xs := by rw [hU2PI]; first | exact hl1.setB PI (by simp) (by simp) _ _ | exact hl1.setFarL (by omega) _ _
      replace P4 : Bk2 U2PI (w1.heap.size) (.bool m) (.slice A k c) := by rw [hU2PI]; exact P4.far2 (by omega) _ _
      replace F5 : Bk2 U2PI (w1.heap.size + 1) (.int .i64 0) (.int .i64 0) := by rw [hU2PI]; exact F5.far2 (by omega) _ _
      replace PI : Bk2 U2PI (w.heap.size) (.bool false) (.slice none 0 0) := by rw [hU2PI]; exact PI.set _ _
      rw [← hU2PI]
      clear hU2PI
      have zU2PI' := Nat.le_of_eq zU2PI
      replace zU2PI := Nat.le_of_eq zU2PI.symm
      obtain ⟨U2PF, hU2PF⟩ : ∃ U2PF : World, U2PF = ((U2PI.setCell ⟨w.heap.size + 1, 0, none⟩ (.int .i64 1)).setCell ⟨w.heap.size + 1, 1, none⟩ (.int .i64 (-1))) := ⟨_, rfl⟩
      have zU2PF : U2PF.heap.size = U2PI.heap.size := by rw [hU2PF]; simp [World.setCell]
      replace E : Below w.heap.size w U2PF := by rw [hU2PF]; exact ((E.setCell (by first | (simp; done) | (simp; omega)) _).setCell (by first | (simp; done) | (simp; omega)) _)
      replace PI : Bk2 U2PF (w.heap.size) (.bool false) (.slice none 0 0) := by rw [hU2PF]; exact PI.far2 (by omega) _ _
      replace hl1 : LRd U2PF (w1.heap.size) A k c xs := by rw [hU2PF]; first | exact hl1.setB PF (by simp) (by simp) _ _ | exact hl1.setFarL (by omega) _ _
      replace P4 : Bk2 U2PF (w1.heap.size) (.bool m) (.slice A k c) := by rw [hU2PF]; exact P4.far2 (by omega) _ _
      replace F5 : Bk2 U2PF (w1.heap.size + 1) (.int .i64 0) (.int .i64 0) := by rw [hU2PF]; exact F5.far2 (by omega) _ _
      replace PF : Bk2 U2PF (w.heap.size + 1) (.int .i64 1) (.int .i64 (-1)) := by rw [hU2PF]; exact PF.set _ _
      rw [← hU2PF]
      clear hU2PF
      have zU2PF' := Nat.le_of_eq zU2PF
      replace zU2PF := Nat.le_of_eq zU2PF.symm
      obtain ⟨f0, f1, _, _, _⟩ := PF
      obtain ⟨i0, i1, _, _, _⟩ := PI
      refine bodyPost_ret (v := .tuple #[intv false none 0 0, flt 1 (-1)]) (by simp [results, Tryz.results129, go_sem, i0, i1, f0, f1]) rfl ⟨0, 1, -1, .inl ⟨ND.out, rfl, rfl, rfl⟩, ⟨false, none, 0, 0, [], rfl, nil_lrd _, IRep.zero, E⟩⟩
    · rw [show decide (k = 0) = false from decide_eq_false (by have h3 : xs.length ≠ 0 := fun h => hz ((IRep.len0 R1.out).1 h); have h4 := hl1.len.out; omega)]
      have HZ := Lib.hid hz
      clear hz
      have t_P40 := P4.c0
      have t_P41 := P4.c1
      go_wp2_with fail
      clear t_P40 t_P41
      (with_reducible refine (isOne_any _ w1.heap.size m A k c xs hl1 (by omega)).mono ?_)
      rintro e w3 ⟨rfl, hb3⟩
      have sw3 := hb3.size
      replace E := E.trans (hb3.mono E.size)
      replace PI := PI.below hb3 PI.lt
      replace PF := PF.below hb3 PF.lt
      replace hl1 := hl1.below hb3 (by omega)
      replace P4 := P4.below hb3 P4.lt
      replace F5 := F5.below hb3 F5.lt
      clear hb3
      cases ho : isone xs k
      · have HO := Lib.hid ho
        clear ho
        go_wp2_with fail
        cases ht : TxNeg t
        · have HT := Lib.hid ht
          clear ht
          (with_reducible refine (hp_any _ _).mono ?_)
          rintro e w' ⟨rfl, rfl⟩
          rw [HT.out]
          have YD := Lib.hid (show DOk t from ⟨H.out, HT.out, by have h2 := txv_pos HT.out; have h3 := isone_val R1.out hl1.len.out h2; rw [HO.out] at h3; have h4 := of_decide_eq_false h3.symm; have := HZ.out; omega⟩)
          go_upto_region 5 with fail
          have lt4 := P4.lt
          have lt5 := F5.lt
          have ltI := PI.lt
          have ltF := PF.lt
          have PIk := PI
          have PFk := PF
          obtain ⟨_, _, _, _, _⟩ := P4
          obtain ⟨_, _, _, _, _⟩ := F5
          obtain ⟨f0, f1, z0, z1, _⟩ := PF
          obtain ⟨i0, i1, y4, y5, _⟩ := PI
          go_region
          go_wp2_with fail
          refine bodyPost_ret (v := .tuple #[intv m A k c, flt 0 0]) (by simp [results, Tryz.results129, go_sem, i0, i1, f0, f1]) rfl ⟨(TxVal t 10), 0, 0, .inr (.inr ⟨YD.out, H1.out, rfl, rfl, rfl⟩), m, A, k, c, xs, rfl, ?_, R1.out, ?_⟩
          · first
              | exact LRd.more (keep2 hl1 PIk PFk (by omega) _ _ _ _) (by simp [World.setCell]; omega)
              | exact LRd.more (LRd.drew (keep2 hl1 PIk PFk (by omega) _ _ _ _)) (by simp [World.setCell]; omega)
              | exact LRd.more (keep2 (LRd.drew hl1) PIk.drew PFk.drew (by omega) _ _ _ _) (by simp [World.setCell]; omega)
          · (repeat (first | with_reducible exact E | with_reducible refine Below.drew ?_ | with_reducible refine below_drewN ?_ _ | with_reducible refine Below.setCell ?_ (by first | (simp; done) | (simp; omega) | omega) _))
        · have HT := Lib.hid ht
          clear ht
          (with_reducible refine (hp_any _ _).mono ?_)
          rintro e w' ⟨rfl, rfl⟩
          rw [HT.out]
          have ND := Lib.hid (show ¬ DOk t from fun h => by have := h.2.1; rw [HT.out] at this; cases this)
          have y_PI0 := PI.c0
          have z_PI0 := PI.z0
          have y_PI1 := PI.c1
          have z_PI1 := PI.z1
          have lt_PI := PI.lt
          have y_PF0 := PF.c0
          have z_PF0 := PF.z0
          have y_PF1 := PF.c1
          have z_PF1 := PF.z1
          have lt_PF := PF.lt
          go_wp2_with fail
          clear y_PI0 z_PI0 y_PI1 z_PI1 lt_PI y_PF0 z_PF0 y_PF1 z_PF1 lt_PF
          obtain ⟨U4PI, hU4PI⟩ : ∃ U4PI : World, U4PI = ((w3.setCell ⟨w.heap.size, 0, none⟩ (.bool false)).setCell ⟨w.heap.size, 1, none⟩ (.slice none 0 0)) := ⟨_, rfl⟩
          have zU4PI : U4PI.heap.size = w3.heap.size := by rw [hU4PI]; simp [World.setCell]
          replace E : Below w.heap.size w U4PI := by rw [hU4PI]; exact ((E.setCell (by first | (simp; done) | (simp; omega)) _).setCell (by first | (simp; done) | (simp; omega)) _)
          replace PF : Bk2 U4PI (w.heap.size + 1) (.int .i64 0) (.int .i64 0) := by rw [hU4PI]; exact PF.far2 (by omega) _ _
          replace hl1 : LRd U4PI (w1.heap.size) A k c xs := by rw [hU4PI]; first | exact hl1.setB PI (by simp) (by simp) _ _ | exact hl1.setFarL (by omega) _ _
          replace P4 : Bk2 U4PI (w1.heap.size) (.bool m) (.slice A k c) := by rw [hU4PI]; exact P4.far2 (by omega) _ _
          replace F5 : Bk2 U4PI (w1.heap.size + 1) (.int .i64 0) (.int .i64 0) := by rw [hU4PI]; exact F5.far2 (by omega) _ _
          replace PI : Bk2 U4PI (w.heap.size) (.bool false) (.slice none 0 0) := by rw [hU4PI]; exact PI.set _ _
          rw [← hU4PI]
          clear hU4PI
          have zU4PI' := Nat.le_of_eq zU4PI
          replace zU4PI := Nat.le_of_eq zU4PI.symm
          obtain ⟨U4PF, hU4PF⟩ : ∃ U4PF : World, U4PF = ((U4PI.setCell ⟨w.heap.size + 1, 0, none⟩ (.int .i64 1)).setCell ⟨w.heap.size + 1, 1, none⟩ (.int .i64 (-1))) := ⟨_, rfl⟩
          have zU4PF : U4PF.heap.size = U4PI.heap.size := by rw [hU4PF]; simp [World.setCell]
          replace E : Below w.heap.size w U4PF := by rw [hU4PF]; exact ((E.setCell (by first | (simp; done) | (simp; omega)) _).setCell (by first | (simp; done) | (simp; omega)) _)
          replace PI : Bk2 U4PF (w.heap.size) (.bool false) (.slice none 0 0) := by rw [hU4PF]; exact PI.far2 (by omega) _ _
          replace hl1 : LRd U4PF (w1.heap.size) A k c xs := by rw [hU4PF]; first | exact hl1.setB PF (by simp) (by simp) _ _ | exact hl1.setFarL (by omega) _ _
          replace P4 : Bk2 U4PF (w1.heap.size) (.bool m) (.slice A k c) := by rw [hU4PF]; exact P4.far2 (by omega) _ _
          replace F5 : Bk2 U4PF (w1.heap.size + 1) (.int .i64 0) (.int .i64 0) := by rw [hU4PF]; exact F5.far2 (by omega) _ _
          replace PF : Bk2 U4PF (w.heap.size + 1) (.int .i64 1) (.int .i64 (-1)) := by rw [hU4PF]; exact PF.set _ _
          rw [← hU4PF]
          clear hU4PF
          have zU4PF' := Nat.le_of_eq zU4PF
          replace zU4PF := Nat.le_of_eq zU4PF.symm
          obtain ⟨f0, f1, _, _, _⟩ := PF
          obtain ⟨i0, i1, _, _, _⟩ := PI
          refine bodyPost_ret (v := .tuple #[intv false none 0 0, flt 1 (-1)]) (by simp [results, Tryz.results129, go_sem, i0, i1, f0, f1]) rfl ⟨0, 1, -1, .inl ⟨ND.out, rfl, rfl, rfl⟩, ⟨false, none, 0, 0, [], rfl, nil_lrd _, IRep.zero, E⟩⟩
      · have ND := Lib.hid (show ¬ DOk t from fun h => by have h3 := isone_val R1.out hl1.len.out (txv_pos h.2.1); rw [ho] at h3; have h4 := of_decide_eq_true h3.symm; have := h.2.2; omega)
        clear ho
        have y_PI0 := PI.c0
        have z_PI0 := PI.z0
        have y_PI1 := PI.c1
        have z_PI1 := PI.z1
        have lt_PI := PI.lt
        have y_PF0 := PF.c0
        have z_PF0 := PF.z0
        have y_PF1 := PF.c1
        have z_PF1 := PF.z1
        have lt_PF := PF.lt
        go_wp2_with fail
        clear y_PI0 z_PI0 y_PI1 z_PI1 lt_PI y_PF0 z_PF0 y_PF1 z_PF1 lt_PF
        obtain ⟨U3PI, hU3PI⟩ : ∃ U3PI : World, U3PI = ((w3.setCell ⟨w.heap.size, 0, none⟩ (.bool false)).setCell ⟨w.heap.size, 1, none⟩ (.slice none 0 0)) := ⟨_, rfl⟩
        have zU3PI : U3PI.heap.size = w3.heap.size := by rw [hU3PI]; simp [World.setCell]
        replace E : Below w.heap.size w U3PI := by rw [hU3PI]; exact ((E.setCell (by first | (simp; done) | (simp; omega)) _).setCell (by first | (simp; done) | (simp; omega)) _)
        replace PF : Bk2 U3PI (w.heap.size + 1) (.int .i64 0) (.int .i64 0) := by rw [hU3PI]; exact PF.far2 (by omega) _ _
        replace hl1 : LRd U3PI (w1.heap.size) A k c xs := by rw [hU3PI]; first | exact hl1.setB PI (by simp) (by simp) _ _ | exact hl1.setFarL (by omega) _ _
        replace P4 : Bk2 U3PI (w1.heap.size) (.bool m) (.slice A k c) := by rw [hU3PI]; exact P4.far2 (by omega) _ _
        replace F5 : Bk2 U3PI (w1.heap.size + 1) (.int .i64 0) (.int .i64 0) := by rw [hU3PI]; exact F5.far2 (by omega) _ _
        replace PI : Bk2 U3PI (w.heap.size) (.bool false) (.slice none 0 0) := by rw [hU3PI]; exact PI.set _ _
        rw [← hU3PI]
        clear hU3PI
        have zU3PI' := Nat.le_of_eq zU3PI
        replace zU3PI := Nat.le_of_eq zU3PI.symm
        obtain ⟨U3PF, hU3PF⟩ : ∃ U3PF : World, U3PF = ((U3PI.setCell ⟨w.heap.size + 1, 0, none⟩ (.int .i64 1)).setCell ⟨w.heap.size + 1, 1, none⟩ (.int .i64 (-1))) := ⟨_, rfl⟩
        have zU3PF : U3PF.heap.size = U3PI.heap.size := by rw [hU3PF]; simp [World.setCell]
        replace E : Below w.heap.size w U3PF := by rw [hU3PF]; exact ((E.setCell (by first | (simp; done) | (simp; omega)) _).setCell (by first | (simp; done) | (simp; omega)) _)
        replace PI : Bk2 U3PF (w.heap.size) (.bool false) (.slice none 0 0) := by rw [hU3PF]; exact PI.far2 (by omega) _ _
        replace hl1 : LRd U3PF (w1.heap.size) A k c xs := by rw [hU3PF]; first | exact hl1.setB PF (by simp) (by simp) _ _ | exact hl1.setFarL (by omega) _ _
        replace P4 : Bk2 U3PF (w1.heap.size) (.bool m) (.slice A k c) := by rw [hU3PF]; exact P4.far2 (by omega) _ _
        replace F5 : Bk2 U3PF (w1.heap.size + 1) (.int .i64 0) (.int .i64 0) := by rw [hU3PF]; exact F5.far2 (by omega) _ _
        replace PF : Bk2 U3PF (w.heap.size + 1) (.int .i64 1) (.int .i64 (-1)) := by rw [hU3PF]; exact PF.set _ _
        rw [← hU3PF]
        clear hU3PF
        have zU3PF' := Nat.le_of_eq zU3PF
        replace zU3PF := Nat.le_of_eq zU3PF.symm
        obtain ⟨f0, f1, _, _, _⟩ := PF
        obtain ⟨i0, i1, _, _, _⟩ := PI
        refine bodyPost_ret (v := .tuple #[intv false none 0 0, flt 1 (-1)]) (by simp [results, Tryz.results129, go_sem, i0, i1, f0, f1]) rfl ⟨0, 1, -1, .inl ⟨ND.out, rfl, rfl, rfl⟩, ⟨false, none, 0, 0, [], rfl, nil_lrd _, IRep.zero, E⟩⟩
end Go.Proofs.YtflmcgoijofpdaaGreat
