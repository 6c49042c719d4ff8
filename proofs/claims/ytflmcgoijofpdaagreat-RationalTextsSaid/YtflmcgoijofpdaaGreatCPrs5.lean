/- RationalTexts: the law. -/
import Derived.Test.YtflmcgoijofpdaaGreatCPrs4
import Derived.Test.YtflmcgoijofpdaaGreatCs
import Derived.Deep.DeepCutAuto
import Derived.Deep.QuietTactic
import Derived.BigQuiet
namespace Go.Proofs.YtflmcgoijofpdaaGreat
open Go.RowKit
set_option maxHeartbeats 400000
set_option maxRecDepth 100000
set_option linter.unusedSimpArgs false
set_option linter.unusedVariables false

theorem itx_ok10 (w : World) (s : ByteArray) (hl : s.size ≤ 4097) (h : TxOk s 10) : Calls Tryz.prog 54 #[.string s, .int .i64 10] w (ItGood s 10 w) := itx_ok w s 10 (by decide) hl h
theorem itx_bad10 (w : World) (s : ByteArray) (hl : s.size ≤ 4097) (h : ¬ TxOk s 10) : Calls Tryz.prog 54 #[.string s, .int .i64 10] w (ItNone w) := itx_bad w s 10 (by decide) hl h
theorem textOf10 (w : World) (B : Nat) (m : Bool) (A : Option Addr) (n c p : Nat) (xs : List Nat) (H : DRd w B A n c xs) (hB : B ≤ w.heap.size) (hn : n ≤ 100000) (hx : Hid (Rep 65536 xs p)) (ht : p < Top128) : Calls Tryz.prog 53 #[intv m A n c, .int .i64 10] w (GivesTO w (sval m p) 10) := textOf_any w B m A n c 10 p xs H hB hn hx.out (by decide) ht
/-- What the text of a ratio is, or its fault. -/
def TgRes (x : RV) (l : List UInt8) (f g : Int) : Prop := (x.ok = false ∧ l = [] ∧ f = 6 ∧ g = -1) ∨ (x.ok = true ∧ TxtIs x.num.val x.den.val l ∧ f = 0 ∧ g = 0)
theorem rtext_g (w : World) (B : Nat) (a : RV) (H1 : a.at w B) (hB : B ≤ w.heap.size) :
    Calls Tryz.prog 51 #[a.v] w (fun e w' => ∃ l f g, TgRes a l f g ∧ e = .returned (.tuple #[.string ⟨l.toArray⟩, flt f g]) ∧ Below w.heap.size w w') := by
  cases oa : a.ok
  · exact (rtext_bad w B a H1 hB (-1) (rf1 oa)).mono fun _ _ ⟨h1, h2⟩ => ⟨[], 6, -1, .inl ⟨oa, rfl, rfl, rfl⟩, h1, h2⟩
  · exact (rtext_u w B a H1 hB oa).mono fun _ _ ⟨l, h1, h2, h3⟩ => ⟨l, 0, 0, .inr ⟨oa, h1, rfl, rfl⟩, h2, h3⟩
theorem bytes_cat2 (s t : List UInt8) : (ByteArray.mk s.toArray) ++ ((ByteArray.mk #[47]) ++ (ByteArray.mk t.toArray)) = ByteArray.mk (s ++ 47 :: t).toArray := by
  apply ByteArray.ext
  simp
theorem ext_all (t : ByteArray) : t.extract 0 t.size = t := by
  apply ByteArray.ext
  simp
theorem ord_one {m n : Bool} {u v : Nat} {z r : Int} {o : Bool} (h : ICmp (sval m u) (sval n v) r) (h1 : sval m u = z) (h2 : sval n v = 1) (ho : o = decide (1 < z)) : decide (0 < r) = o := by
  rw [h1, h2] at h
  rw [ho]
  unfold ICmp at h
  by_cases hz : 1 < z
  · rw [decide_eq_true hz]; exact decide_eq_true (by omega)
  · rw [decide_eq_false hz]; exact decide_eq_false (by omega)
set_option maxHeartbeats 40000000 in
theorem rtexts_law (w : World) (x : RV) (t a b : ByteArray) (fd : Bool) (hts : t.size ≤ 9223372036854775807) (hTB : Hid (TB t a b fd)) (HX : x.at w w.heap.size) :
    Calls Tryz.prog 7 #[x.v, .string t] w (fun e w' => e = .returned (.bool true) ∧ Below w.heap.size w w') := by
  have Hx1 : LRd w w.heap.size x.num.A x.num.n x.num.c x.num.xs := HX.1
  have Hx2 : LRd w w.heap.size x.den.A x.den.n x.den.c x.den.xs := HX.2
  have E : Below w.heap.size w w := Below.refl _ _
  go_enter Tryz.func7, Tryz.ntmps7
  go_upto_region 1 with fail
  obtain ⟨V0, hV0⟩ : ∃ V0 : World, V0 = (w.alloc (.cells #[.bool x.num.neg, .slice x.num.A x.num.n x.num.c, .bool x.den.neg, .slice x.den.A x.den.n x.den.c] 26)) := ⟨_, rfl⟩
  have bV0 : Below w.heap.size w V0 := by rw [hV0]; (repeat (first | with_reducible exact Below.refl _ _ | with_reducible refine Below.drew ?_ | with_reducible refine below_drewN ?_ _ | with_reducible refine Below.setCell ?_ (by first | (simp; done) | (simp; omega) | omega) _ | with_reducible refine Below.alloc ?_ (by first | (simp; done) | (simp; omega) | omega) _))
  have zV0 : w.heap.size + 1 ≤ V0.heap.size := by rw [hV0]; simp
  have PX : Bk4 V0 (w.heap.size) (.bool x.num.neg) (.slice x.num.A x.num.n x.num.c) (.bool x.den.neg) (.slice x.den.A x.den.n x.den.c) := by rw [hV0]; exact (Bk4.newAt _ _ (by first | omega | (simp; done) | (simp; omega)) _ _ _ _ _)
  rw [← hV0]
  clear hV0
  replace E := E.trans (bV0.mono E.size)
  replace Hx1 := Hx1.below bV0 (by omega)
  replace Hx2 := Hx2.below bV0 (by omega)
  clear bV0
  have t_PX0 := PX.c0
  have t_PX1 := PX.c1
  have t_PX2 := PX.c2
  have t_PX3 := PX.c3
  go_wp2_with fail
  clear t_PX0 t_PX1 t_PX2 t_PX3
  (with_reducible refine (rtext_g _ w.heap.size x (rv_at Hx1 Hx2) (by omega)).mono ?_)
  rintro e w1 ⟨l, f6, g6, hT, rfl, hb1⟩
  have sw1 := hb1.size
  replace E := E.trans (hb1.mono E.size)
  replace Hx1 := Hx1.below hb1 (by omega)
  replace Hx2 := Hx2.below hb1 (by omega)
  replace PX := PX.below hb1 PX.lt
  clear hb1
  have TG := Lib.hid hT
  clear hT
  go_wp2_with fail
  obtain ⟨V2, hV2⟩ : ∃ V2 : World, V2 = (w1.alloc (.cells #[.int .i64 f6, .int .i64 g6] 28)) := ⟨_, rfl⟩
  have bV2 : Below w1.heap.size w1 V2 := by rw [hV2]; (repeat (first | with_reducible exact Below.refl _ _ | with_reducible refine Below.drew ?_ | with_reducible refine below_drewN ?_ _ | with_reducible refine Below.setCell ?_ (by first | (simp; done) | (simp; omega) | omega) _ | with_reducible refine Below.alloc ?_ (by first | (simp; done) | (simp; omega) | omega) _))
  have zV2 : w1.heap.size + 1 ≤ V2.heap.size := by rw [hV2]; simp
  have F6 : Bk2 V2 (w1.heap.size) (.int .i64 f6) (.int .i64 g6) := by rw [hV2]; exact (Bk2.newAt _ _ (by first | omega | (simp; done) | (simp; omega)) _ _ _)
  rw [← hV2]
  clear hV2
  replace E := E.trans (bV2.mono E.size)
  replace Hx1 := Hx1.below bV2 (by omega)
  replace Hx2 := Hx2.below bV2 (by omega)
  replace PX := PX.below bV2 PX.lt
  clear bV2
  (with_reducible refine (prs_any _ t a b fd hTB.out).mono ?_)
  rintro e w2 ⟨y, f8, g8, rfl, hy, hP, hb2⟩
  have sw2 := hb2.size
  replace E := E.trans (hb2.mono E.size)
  replace Hx1 := Hx1.below hb2 (by omega)
  replace Hx2 := Hx2.below hb2 (by omega)
  replace PX := PX.below hb2 PX.lt
  replace F6 := F6.below hb2 F6.lt
  clear hb2
  have PS := Lib.hid hP
  have Hy1 : LRd w2 w2.heap.size y.num.A y.num.n y.num.c y.num.xs := hy.1
  have Hy2 : LRd w2 w2.heap.size y.den.A y.den.n y.den.c y.den.xs := hy.2
  clear hP hy
  go_wp2_with fail
  obtain ⟨V3, hV3⟩ : ∃ V3 : World, V3 = ((w2.alloc (.cells #[.bool y.num.neg, .slice y.num.A y.num.n y.num.c, .bool y.den.neg, .slice y.den.A y.den.n y.den.c] 26)).alloc (.cells #[.int .i64 f8, .int .i64 g8] 28)) := ⟨_, rfl⟩
  have bV3 : Below w2.heap.size w2 V3 := by rw [hV3]; (repeat (first | with_reducible exact Below.refl _ _ | with_reducible refine Below.drew ?_ | with_reducible refine below_drewN ?_ _ | with_reducible refine Below.setCell ?_ (by first | (simp; done) | (simp; omega) | omega) _ | with_reducible refine Below.alloc ?_ (by first | (simp; done) | (simp; omega) | omega) _))
  have zV3 : w2.heap.size + 2 ≤ V3.heap.size := by rw [hV3]; simp
  have P7 : Bk4 V3 (w2.heap.size) (.bool y.num.neg) (.slice y.num.A y.num.n y.num.c) (.bool y.den.neg) (.slice y.den.A y.den.n y.den.c) := by rw [hV3]; exact ((Bk4.newAt _ _ (by first | omega | (simp; done) | (simp; omega)) _ _ _ _ _).alloc _)
  have F8 : Bk2 V3 (w2.heap.size + 1) (.int .i64 f8) (.int .i64 g8) := by rw [hV3]; exact (Bk2.newAt _ _ (by first | omega | (simp; done) | (simp; omega)) _ _ _)
  rw [← hV3]
  clear hV3
  replace E := E.trans (bV3.mono E.size)
  replace Hx1 := Hx1.below bV3 (by omega)
  replace Hx2 := Hx2.below bV3 (by omega)
  replace PX := PX.below bV3 PX.lt
  replace F6 := F6.below bV3 F6.lt
  replace Hy1 := Hy1.below bV3 (by omega)
  replace Hy2 := Hy2.below bV3 (by omega)
  clear bV3
  (with_reducible refine (parts_any _).mono ?_)
  rintro e w4 ⟨rfl, hb4⟩
  have sw4 := hb4.size
  replace E := E.trans (hb4.mono E.size)
  replace Hx1 := Hx1.below hb4 (by omega)
  replace Hx2 := Hx2.below hb4 (by omega)
  replace PX := PX.below hb4 PX.lt
  replace F6 := F6.below hb4 F6.lt
  replace Hy1 := Hy1.below hb4 (by omega)
  replace Hy2 := Hy2.below hb4 (by omega)
  replace P7 := P7.below hb4 P7.lt
  replace F8 := F8.below hb4 F8.lt
  clear hb4
  have RR := Lib.hid (rrow1 w4 w.heap.size x (rv_at Hx1 Hx2) (by omega))
  have p_PX0 := PX.c0
  have p_PX1 := PX.c1
  have p_PX2 := PX.c2
  have p_PX3 := PX.c3
  go_wp2_with fail
  clear p_PX0 p_PX1 p_PX2 p_PX3
  obtain ⟨V4, hV4⟩ : ∃ V4 : World, V4 = (w4.alloc (.cells #[.bool x.num.neg, .slice x.num.A x.num.n x.num.c, .bool x.den.neg, .slice x.den.A x.den.n x.den.c] 26)) := ⟨_, rfl⟩
  have bV4 : Below w4.heap.size w4 V4 := by rw [hV4]; (repeat (first | with_reducible exact Below.refl _ _ | with_reducible refine Below.drew ?_ | with_reducible refine below_drewN ?_ _ | with_reducible refine Below.setCell ?_ (by first | (simp; done) | (simp; omega) | omega) _ | with_reducible refine Below.alloc ?_ (by first | (simp; done) | (simp; omega) | omega) _))
  have zV4 : w4.heap.size + 1 ≤ V4.heap.size := by rw [hV4]; simp
  replace RR : Hid (RRow V4 w.heap.size w4.heap.size [x]) := by rw [hV4]; exact RR
  rw [← hV4]
  clear hV4
  replace E := E.trans (bV4.mono E.size)
  replace Hx1 := Hx1.below bV4 (by omega)
  replace Hx2 := Hx2.below bV4 (by omega)
  replace PX := PX.below bV4 PX.lt
  replace F6 := F6.below bV4 F6.lt
  replace Hy1 := Hy1.below bV4 (by omega)
  replace Hy2 := Hy2.below bV4 (by omega)
  replace P7 := P7.below bV4 P7.lt
  replace F8 := F8.below bV4 F8.lt
  clear bV4
  (with_reducible refine (ratioFaults_any _ w.heap.size w4.heap.size 1 [x] RR.out rfl (by omega) (by omega)).mono ?_)
  rintro e w5 ⟨rfl, hb5⟩
  have sw5 := hb5.size
  replace E := E.trans (hb5.mono E.size)
  replace Hx1 := Hx1.below hb5 (by omega)
  replace Hx2 := Hx2.below hb5 (by omega)
  replace PX := PX.below hb5 PX.lt
  replace F6 := F6.below hb5 F6.lt
  replace Hy1 := Hy1.below hb5 (by omega)
  replace Hy2 := Hy2.below hb5 (by omega)
  replace P7 := P7.below hb5 P7.lt
  replace F8 := F8.below hb5 F8.lt
  clear hb5
  clear RR
  have hrf : (rfault [x] 0).1 = f6 ∧ (rfault [x] 0).2 = g6 := by rcases TG.out with ⟨ho, _, rfl, rfl⟩ | ⟨ho, _, rfl, rfl⟩; rw [rf1 ho]; exact ⟨rfl, rfl⟩; rw [rf0 ho]; exact ⟨rfl, rfl⟩
  rw [hrf.1, hrf.2]
  clear hrf
  go_upto_if 36 with fail
  obtain ⟨V5, hV5⟩ : ∃ V5 : World, V5 = (w5.alloc (.cells #[.int .i64 f6, .int .i64 g6] 28)) := ⟨_, rfl⟩
  have bV5 : Below w5.heap.size w5 V5 := by rw [hV5]; (repeat (first | with_reducible exact Below.refl _ _ | with_reducible refine Below.drew ?_ | with_reducible refine below_drewN ?_ _ | with_reducible refine Below.setCell ?_ (by first | (simp; done) | (simp; omega) | omega) _ | with_reducible refine Below.alloc ?_ (by first | (simp; done) | (simp; omega) | omega) _))
  have zV5 : w5.heap.size + 1 ≤ V5.heap.size := by rw [hV5]; simp
  have F9 : Bk2 V5 (w5.heap.size) (.int .i64 f6) (.int .i64 g6) := by rw [hV5]; exact (Bk2.newAt _ _ (by first | omega | (simp; done) | (simp; omega)) _ _ _)
  rw [← hV5]
  clear hV5
  replace E := E.trans (bV5.mono E.size)
  replace Hx1 := Hx1.below bV5 (by omega)
  replace Hx2 := Hx2.below bV5 (by omega)
  replace PX := PX.below bV5 PX.lt
  replace F6 := F6.below bV5 F6.lt
  replace Hy1 := Hy1.below bV5 (by omega)
  replace Hy2 := Hy2.below bV5 (by omega)
  replace P7 := P7.below bV5 P7.lt
  replace F8 := F8.below bV5 F8.lt
  clear bV5
  go_cut [] (fun wx => Below V5.heap.size V5 wx)
  case first =>
    as_aux_lemma =>
      have E0 : Below V5.heap.size V5 V5 := Below.refl _ _
      rcases TG.out with ⟨ox, rfl, rfl, rfl⟩ | ⟨ox, hx, rfl, rfl⟩
      · clear ox
        have t_F60 := F6.c0
        have t_F61 := F6.c1
        have t_F90 := F9.c0
        have t_F91 := F9.c1
        go_wp2_with fail
        clear t_F60 t_F61 t_F90 t_F91
        go_meet
        exact E0
      · have OX := Lib.hid ox
        have VX := Lib.hid (RV.val ox (rv_at Hx1 Hx2))
        have HXT := Lib.hid hx
        clear ox hx
        have hlen : l.length ≤ 2700 := txt_len HXT.out VX.out.bn VX.out.bd
        have t_PX0 := PX.c0
        have t_PX1 := PX.c1
        have t_PX2 := PX.c2
        have t_PX3 := PX.c3
        have t_F90 := F9.c0
        have t_F91 := F9.c1
        go_wp2_with fail
        clear t_PX0 t_PX1 t_PX2 t_PX3 t_F90 t_F91
        clear F9
        (with_reducible refine (ratioOf_any _ w.heap.size x (rv_at Hx1 Hx2) (by omega) OX.out).mono ?_)
        rintro e w10 hq
        obtain ⟨p, rfl, hq', hi, hb10⟩ := GivesRR.q hq
        clear hq
        have s10 := hb10.size
        replace E0 : Below (V5.heap.size) V5 w10 := E0.trans (hb10.mono (by omega))
        replace PX := PX.below hb10 PX.lt
        replace F6 := F6.below hb10 F6.lt
        replace Hx1 := Hx1.below hb10 (by omega)
        replace Hx2 := Hx2.below hb10 (by omega)
        clear hb10
        obtain ⟨v1, i1, i2, i3⟩ := hi
        have R1 := Lib.hid i1
        have S1 := Lib.hid i2
        have R2 := Lib.hid i3
        clear i1 i2 i3
        have Hp1 : DRd w10 w10.heap.size p.A p.n p.c p.xs := hq'.1
        have Hp2 : DRd w10 w10.heap.size p.D p.k p.d p.ys := hq'.2
        clear hq'
        clear PX Hx1 Hx2
        have dn := Lib.hid (show ((x.den.val.natAbs : Nat) : Int) = x.den.val by have := VX.out.pos; omega)
        have tp1 := Lib.hid (show v1 < Top128 by rw [← sval_abs p.m v1, S1.out]; exact VX.out.bn)
        have np5 : p.n ≤ 100000 := mk_len R1.out tp1.out Hp1.len.out
        have nk5 : p.k ≤ 100000 := mk_len R2.out VX.out.bd Hp2.len.out
        go_wp2_with fail
        obtain ⟨V7, hV7⟩ : ∃ V7 : World, V7 = (w10.alloc (.cells #[.bool p.m, .slice p.A p.n p.c, .slice p.D p.k p.d] 42)) := ⟨_, rfl⟩
        have bV7 : Below w10.heap.size w10 V7 := by rw [hV7]; (repeat (first | with_reducible exact Below.refl _ _ | with_reducible refine Below.drew ?_ | with_reducible refine below_drewN ?_ _ | with_reducible refine Below.setCell ?_ (by first | (simp; done) | (simp; omega) | omega) _ | with_reducible refine Below.alloc ?_ (by first | (simp; done) | (simp; omega) | omega) _))
        have zV7 : w10.heap.size + 1 ≤ V7.heap.size := by rw [hV7]; simp
        have P10 : Bk3 V7 (w10.heap.size) (.bool p.m) (.slice p.A p.n p.c) (.slice p.D p.k p.d) := by rw [hV7]; exact (Bk3.newAt _ _ (by first | omega | (simp; done) | (simp; omega)) _ _ _ _)
        rw [← hV7]
        clear hV7
        replace E0 : Below (V5.heap.size) V5 V7 := E0.trans (bV7.mono (by omega))
        replace F6 := F6.below bV7 F6.lt
        replace Hp1 := Hp1.below bV7 (by omega)
        replace Hp2 := Hp2.below bV7 (by omega)
        clear bV7
        (with_reducible refine (textOf10 _ w10.heap.size p.m p.A p.n p.c v1 p.xs Hp1 (by omega) np5 R1 tp1.out).mono ?_)
        rintro e w11 ⟨l2, hl2, rfl, hb11⟩
        have sw11 := hb11.size
        replace E0 : Below (V5.heap.size) V5 w11 := E0.trans (hb11.mono (by omega))
        replace P10 := P10.below hb11 P10.lt
        replace F6 := F6.below hb11 F6.lt
        replace Hp1 := Hp1.below hb11 (by omega)
        replace Hp2 := Hp2.below hb11 (by omega)
        clear hb11
        have TL := Lib.hid (show TextIs x.num.val 10 l2 by rw [S1.out] at hl2; exact hl2)
        clear hl2
        by_cases hd1 : x.den.val = 1
        · as_aux_lemma =>
            have D1 := Lib.hid hd1
            clear hd1
            obtain rfl : l2 = l := by
              rcases HXT.out with ⟨_, h⟩ | ⟨h, _⟩
              · exact TextIs.uniq (by decide) TL.out h
              · exact absurd D1.out h
            go_upto_region 11 with fail
            have lt_P10 := P10.lt
            have HS := Lib.hid (fun (u : World) (hu : Below (w11.heap.size) w11 u) => (⟨(hu.cell (p := ⟨w10.heap.size, 0, none⟩) (by show w10.heap.size < _; omega)).trans P10.c0, (hu.cell (p := ⟨w10.heap.size, 1, none⟩) (by show w10.heap.size < _; omega)).trans P10.c1, (hu.cell (p := ⟨w10.heap.size, 2, none⟩) (by show w10.heap.size < _; omega)).trans P10.c2⟩ : u.cell? ⟨w10.heap.size, 0, none⟩ = some (.bool p.m) ∧ u.cell? ⟨w10.heap.size, 1, none⟩ = some (.slice p.A p.n p.c) ∧ u.cell? ⟨w10.heap.size, 2, none⟩ = some (.slice p.D p.k p.d)))
            have G0 : Below w11.heap.size w11 w11.drew := Below.drew (Below.refl _ _)
            have g0s := G0.size
            have G0m : Below (w11.heap.size) w11 w11.drew := G0.mono (by omega)
            go_region_held3 (fun u => u.cell? ⟨w10.heap.size, 0, none⟩ = some (.bool p.m) ∧ u.cell? ⟨w10.heap.size, 1, none⟩ = some (.slice p.A p.n p.c) ∧ u.cell? ⟨w10.heap.size, 2, none⟩ = some (.slice p.D p.k p.d)) (first | (refine HS.out _ ?_; (repeat (first | with_reducible exact G0m | with_reducible exact BN.mono (by omega) | with_reducible exact B1.mono (by omega) | with_reducible exact Below.refl _ _ | with_reducible refine Below.drew ?_ | with_reducible refine below_drewN ?_ _ | with_reducible refine Below.setCell ?_ (by first | (simp; done) | (simp; omega) | omega) _)); done) | fail)
              (first
                | (go_at_call 40; (with_reducible refine (small_1 _).mono ?_); rintro e u1 ⟨A4, k4, c4, z4, rfl, hd4, hr4, hb4⟩; have B1 : Below w11.heap.size w11 u1 := bnext G0 hb4; have b1s := B1.size; have R4 := Lib.hid hr4; clear hr4)
                | (go_at_call 46; (with_reducible refine (cmpD_v _ u1.heap.size p.D A4 p.k k4 p.d c4 x.den.val.natAbs 1 p.ys z4 (DRd.below Hp2 B1 (by omega) |>.more (by omega)) hd4 R2.out R4.out).mono ?_); rintro e u2 ⟨rr, hcv, rfl, hb5⟩; have BN : Below w11.heap.size w11 u2 := bnext B1 hb5; obtain rfl : rr = 0 := (by have := D1.out; have := dn.out; unfold CmpV at hcv; omega); clear hcv)
                | fail)
            clear HS G0 g0s G0m
            replace E0 : Below (V5.heap.size) V5 u2 := E0.trans (BN.mono (by omega))
            replace P10 := P10.below BN P10.lt
            replace F6 := F6.below BN F6.lt
            replace Hp1 := Hp1.below BN (by omega)
            replace Hp2 := Hp2.below BN (by omega)
            have s22 := BN.size
            clear BN B1 b1s
            obtain ⟨V9, hV9⟩ : ∃ y : World, y = u2 := ⟨_, rfl⟩
            subst hV9
            go_wp2_with fail
            (with_reducible refine (prs_back _ x.num.val x.den.val l2 HXT.out VX.out.bn VX.out.bd VX.out.pos VX.out.low).mono ?_)
            rintro e w13 ⟨z, f13, g13, rfl, hz, hB, hb13⟩
            have sw13 := hb13.size
            replace E0 : Below (V5.heap.size) V5 w13 := E0.trans (hb13.mono (by omega))
            replace P10 := P10.below hb13 P10.lt
            replace F6 := F6.below hb13 F6.lt
            replace Hp1 := Hp1.below hb13 (by omega)
            replace Hp2 := Hp2.below hb13 (by omega)
            clear hb13
            obtain ⟨rfl, rfl, i1, i2⟩ := hB
            have I1 := Lib.hid i1
            have I2 := Lib.hid i2
            clear i1 i2
            have Hz1 : LRd w13 w13.heap.size z.num.A z.num.n z.num.c z.num.xs := hz.1
            have Hz2 : LRd w13 w13.heap.size z.den.A z.den.n z.den.c z.den.xs := hz.2
            clear hz
            have hs4 : (l2.toArray.size : Int) ≤ 4000 := by simp; omega
            have hs5 : decide (((⟨l2.toArray⟩ : ByteArray).size : Int) ≤ 4000) = true := decide_eq_true hs4
            have hs6 : decide ((l2.length : Int) ≤ 4000) = true := decide_eq_true (by omega)
            have t_F60 : ((w13.alloc (.cells #[.bool z.num.neg, .slice z.num.A z.num.n z.num.c, .bool z.den.neg, .slice z.den.A z.den.n z.den.c] 26)).alloc (.cells #[.int .i64 0, .int .i64 0] 28)).cell? ⟨w1.heap.size, 0, none⟩ = some ((.int .i64 0)) := ((F6.alloc _).alloc _).c0
            have t_F61 : ((w13.alloc (.cells #[.bool z.num.neg, .slice z.num.A z.num.n z.num.c, .bool z.den.neg, .slice z.den.A z.den.n z.den.c] 26)).alloc (.cells #[.int .i64 0, .int .i64 0] 28)).cell? ⟨w1.heap.size, 1, none⟩ = some ((.int .i64 0)) := ((F6.alloc _).alloc _).c1
            have t_P100 : ((w13.alloc (.cells #[.bool z.num.neg, .slice z.num.A z.num.n z.num.c, .bool z.den.neg, .slice z.den.A z.den.n z.den.c] 26)).alloc (.cells #[.int .i64 0, .int .i64 0] 28)).cell? ⟨w10.heap.size, 0, none⟩ = some ((.bool p.m)) := ((P10.alloc _).alloc _).c0
            have t_P101 : ((w13.alloc (.cells #[.bool z.num.neg, .slice z.num.A z.num.n z.num.c, .bool z.den.neg, .slice z.den.A z.den.n z.den.c] 26)).alloc (.cells #[.int .i64 0, .int .i64 0] 28)).cell? ⟨w10.heap.size, 1, none⟩ = some ((.slice p.A p.n p.c)) := ((P10.alloc _).alloc _).c1
            have t_P102 : ((w13.alloc (.cells #[.bool z.num.neg, .slice z.num.A z.num.n z.num.c, .bool z.den.neg, .slice z.den.A z.den.n z.den.c] 26)).alloc (.cells #[.int .i64 0, .int .i64 0] 28)).cell? ⟨w10.heap.size, 2, none⟩ = some ((.slice p.D p.k p.d)) := ((P10.alloc _).alloc _).c2
            go_wp2_with fail
            clear t_F60 t_F61 t_P100 t_P101 t_P102
            obtain ⟨V9, hV9⟩ : ∃ V9 : World, V9 = ((w13.alloc (.cells #[.bool z.num.neg, .slice z.num.A z.num.n z.num.c, .bool z.den.neg, .slice z.den.A z.den.n z.den.c] 26)).alloc (.cells #[.int .i64 0, .int .i64 0] 28)) := ⟨_, rfl⟩
            have bV9 : Below w13.heap.size w13 V9 := by rw [hV9]; (repeat (first | with_reducible exact Below.refl _ _ | with_reducible refine Below.drew ?_ | with_reducible refine below_drewN ?_ _ | with_reducible refine Below.setCell ?_ (by first | (simp; done) | (simp; omega) | omega) _ | with_reducible refine Below.alloc ?_ (by first | (simp; done) | (simp; omega) | omega) _))
            have zV9 : w13.heap.size + 2 ≤ V9.heap.size := by rw [hV9]; simp
            have P12 : Bk4 V9 (w13.heap.size) (.bool z.num.neg) (.slice z.num.A z.num.n z.num.c) (.bool z.den.neg) (.slice z.den.A z.den.n z.den.c) := by rw [hV9]; exact ((Bk4.newAt _ _ (by first | omega | (simp; done) | (simp; omega)) _ _ _ _ _).alloc _)
            have F13 : Bk2 V9 (w13.heap.size + 1) (.int .i64 0) (.int .i64 0) := by rw [hV9]; exact (Bk2.newAt _ _ (by first | omega | (simp; done) | (simp; omega)) _ _ _)
            rw [← hV9]
            clear hV9
            replace E0 : Below (V5.heap.size) V5 V9 := E0.trans (bV9.mono (by omega))
            replace P10 := P10.below bV9 P10.lt
            replace F6 := F6.below bV9 F6.lt
            replace Hp1 := Hp1.below bV9 (by omega)
            replace Hp2 := Hp2.below bV9 (by omega)
            replace Hz1 := Hz1.below bV9 (by omega)
            replace Hz2 := Hz2.below bV9 (by omega)
            clear bV9
            (with_reducible refine (sameRatio_any _ w13.heap.size z p.m p.A p.D p.n p.c p.k p.d v1 x.den.val.natAbs x.num.val x.den.val p.xs p.ys (rv_at (Hz1.more (by omega)) (Hz2.more (by omega))) (Hp1.more (by omega)) (Hp2.more (by omega)) (by omega) I1 I2 R1 R2 S1 (Lib.hid (by rw [sval_f]; exact dn.out)) np5 nk5).mono ?_)
            rintro e w21 ⟨rfl, hb21⟩
            have sw21 := hb21.size
            replace E0 : Below (V5.heap.size) V5 w21 := E0.trans (hb21.mono (by omega))
            replace P10 := P10.below hb21 P10.lt
            replace F6 := F6.below hb21 F6.lt
            replace Hp1 := Hp1.below hb21 (by omega)
            replace Hp2 := Hp2.below hb21 (by omega)
            replace Hz1 := Hz1.below hb21 (by omega)
            replace Hz2 := Hz2.below hb21 (by omega)
            replace P12 := P12.below hb21 P12.lt
            replace F13 := F13.below hb21 F13.lt
            clear hb21
            go_wp2_with fail
            go_meet
            exact E0
        · as_aux_lemma =>
            have D1 := Lib.hid hd1
            clear hd1
            obtain ⟨l3, hl3, hl4⟩ : ∃ l3, TextIs x.den.val 10 l3 ∧ l = l2 ++ 47 :: l3 := by
              rcases HXT.out with ⟨h, _⟩ | ⟨_, s, t, h1, h2, h3⟩
              · exact absurd h D1.out
              · obtain rfl : l2 = s := TextIs.uniq (by decide) TL.out h1
                exact ⟨t, h2, h3⟩
            have TL3 := Lib.hid hl3
            have HL4 := Lib.hid hl4
            clear hl3 hl4
            go_upto_region 11 with fail
            have lt_P10 := P10.lt
            have HS := Lib.hid (fun (u : World) (hu : Below (w11.heap.size) w11 u) => (⟨(hu.cell (p := ⟨w10.heap.size, 0, none⟩) (by show w10.heap.size < _; omega)).trans P10.c0, (hu.cell (p := ⟨w10.heap.size, 1, none⟩) (by show w10.heap.size < _; omega)).trans P10.c1, (hu.cell (p := ⟨w10.heap.size, 2, none⟩) (by show w10.heap.size < _; omega)).trans P10.c2⟩ : u.cell? ⟨w10.heap.size, 0, none⟩ = some (.bool p.m) ∧ u.cell? ⟨w10.heap.size, 1, none⟩ = some (.slice p.A p.n p.c) ∧ u.cell? ⟨w10.heap.size, 2, none⟩ = some (.slice p.D p.k p.d)))
            have G0 : Below w11.heap.size w11 w11.drew := Below.drew (Below.refl _ _)
            have g0s := G0.size
            have G0m : Below (w11.heap.size) w11 w11.drew := G0.mono (by omega)
            go_region_held3 (fun u => u.cell? ⟨w10.heap.size, 0, none⟩ = some (.bool p.m) ∧ u.cell? ⟨w10.heap.size, 1, none⟩ = some (.slice p.A p.n p.c) ∧ u.cell? ⟨w10.heap.size, 2, none⟩ = some (.slice p.D p.k p.d)) (first | (refine HS.out _ ?_; (repeat (first | with_reducible exact G0m | with_reducible exact BN.mono (by omega) | with_reducible exact B1.mono (by omega) | with_reducible exact Below.refl _ _ | with_reducible refine Below.drew ?_ | with_reducible refine below_drewN ?_ _ | with_reducible refine Below.setCell ?_ (by first | (simp; done) | (simp; omega) | omega) _)); done) | fail)
              (first
                | (go_at_call 40; (with_reducible refine (small_1 _).mono ?_); rintro e u1 ⟨A4, k4, c4, z4, rfl, hd4, hr4, hb4⟩; have B1 : Below w11.heap.size w11 u1 := bnext G0 hb4; have b1s := B1.size; have R4 := Lib.hid hr4; clear hr4)
                | (go_at_call 46; (with_reducible refine (cmpD_v _ u1.heap.size p.D A4 p.k k4 p.d c4 x.den.val.natAbs 1 p.ys z4 (DRd.below Hp2 B1 (by omega) |>.more (by omega)) hd4 R2.out R4.out).mono ?_); rintro e u2 ⟨rr, hcv, rfl, hb5⟩; have BN : Below w11.heap.size w11 u2 := bnext B1 hb5; have hrr : rr = -1 ∨ rr = 1 := (by have := D1.out; have := dn.out; unfold CmpV at hcv; omega); clear hcv; have hr0 : (rr != 0) = true := (by rcases hrr with rfl | rfl <;> rfl))
                | fail)
            clear HS G0 g0s G0m
            replace E0 : Below (V5.heap.size) V5 u2 := E0.trans (BN.mono (by omega))
            replace P10 := P10.below BN P10.lt
            replace F6 := F6.below BN F6.lt
            replace Hp1 := Hp1.below BN (by omega)
            replace Hp2 := Hp2.below BN (by omega)
            have s22 := BN.size
            clear BN B1 b1s
            obtain ⟨V9, hV9⟩ : ∃ y : World, y = u2 := ⟨_, rfl⟩
            subst hV9
            have t_P100 := P10.c0
            have t_P101 := P10.c1
            have t_P102 := P10.c2
            go_wp2_with fail
            clear t_P100 t_P101 t_P102
            (with_reducible refine (textOf10 _ w10.heap.size false p.D p.k p.d x.den.val.natAbs p.ys (Hp2.more (by omega)) (by omega) nk5 R2 VX.out.bd).mono ?_)
            rintro e w12 ⟨l5, hl5, rfl, hb12⟩
            have sw12 := hb12.size
            replace E0 : Below (V5.heap.size) V5 w12 := E0.trans (hb12.mono (by omega))
            replace P10 := P10.below hb12 P10.lt
            replace F6 := F6.below hb12 F6.lt
            replace Hp1 := Hp1.below hb12 (by omega)
            replace Hp2 := Hp2.below hb12 (by omega)
            clear hb12
            obtain rfl : l5 = l3 := TextIs.uniq (by decide) (by rw [sval_f, dn.out] at hl5; exact hl5) TL3.out
            clear hl5
            have L1 := text10_len2 TL.out VX.out.bn
            have L2 := text10_len2 TL3.out VX.out.bd
            go_wp2_with fail
            try rw [bytes_cat2]
            try rw [← HL4.out]
            (with_reducible refine (prs_back _ x.num.val x.den.val l HXT.out VX.out.bn VX.out.bd VX.out.pos VX.out.low).mono ?_)
            rintro e w13 ⟨z, f13, g13, rfl, hz, hB, hb13⟩
            have sw13 := hb13.size
            replace E0 : Below (V5.heap.size) V5 w13 := E0.trans (hb13.mono (by omega))
            replace P10 := P10.below hb13 P10.lt
            replace F6 := F6.below hb13 F6.lt
            replace Hp1 := Hp1.below hb13 (by omega)
            replace Hp2 := Hp2.below hb13 (by omega)
            clear hb13
            obtain ⟨rfl, rfl, i1, i2⟩ := hB
            have I1 := Lib.hid i1
            have I2 := Lib.hid i2
            clear i1 i2
            have Hz1 : LRd w13 w13.heap.size z.num.A z.num.n z.num.c z.num.xs := hz.1
            have Hz2 : LRd w13 w13.heap.size z.den.A z.den.n z.den.c z.den.xs := hz.2
            clear hz
            have hs4 : (l.toArray.size : Int) ≤ 4000 := by simp; omega
            have hs5 : decide (((⟨l.toArray⟩ : ByteArray).size : Int) ≤ 4000) = true := decide_eq_true hs4
            have hs6 : decide ((l.length : Int) ≤ 4000) = true := decide_eq_true (by omega)
            have t_F60 : ((w13.alloc (.cells #[.bool z.num.neg, .slice z.num.A z.num.n z.num.c, .bool z.den.neg, .slice z.den.A z.den.n z.den.c] 26)).alloc (.cells #[.int .i64 0, .int .i64 0] 28)).cell? ⟨w1.heap.size, 0, none⟩ = some ((.int .i64 0)) := ((F6.alloc _).alloc _).c0
            have t_F61 : ((w13.alloc (.cells #[.bool z.num.neg, .slice z.num.A z.num.n z.num.c, .bool z.den.neg, .slice z.den.A z.den.n z.den.c] 26)).alloc (.cells #[.int .i64 0, .int .i64 0] 28)).cell? ⟨w1.heap.size, 1, none⟩ = some ((.int .i64 0)) := ((F6.alloc _).alloc _).c1
            have t_P100 : ((w13.alloc (.cells #[.bool z.num.neg, .slice z.num.A z.num.n z.num.c, .bool z.den.neg, .slice z.den.A z.den.n z.den.c] 26)).alloc (.cells #[.int .i64 0, .int .i64 0] 28)).cell? ⟨w10.heap.size, 0, none⟩ = some ((.bool p.m)) := ((P10.alloc _).alloc _).c0
            have t_P101 : ((w13.alloc (.cells #[.bool z.num.neg, .slice z.num.A z.num.n z.num.c, .bool z.den.neg, .slice z.den.A z.den.n z.den.c] 26)).alloc (.cells #[.int .i64 0, .int .i64 0] 28)).cell? ⟨w10.heap.size, 1, none⟩ = some ((.slice p.A p.n p.c)) := ((P10.alloc _).alloc _).c1
            have t_P102 : ((w13.alloc (.cells #[.bool z.num.neg, .slice z.num.A z.num.n z.num.c, .bool z.den.neg, .slice z.den.A z.den.n z.den.c] 26)).alloc (.cells #[.int .i64 0, .int .i64 0] 28)).cell? ⟨w10.heap.size, 2, none⟩ = some ((.slice p.D p.k p.d)) := ((P10.alloc _).alloc _).c2
            go_wp2_with fail
            clear t_F60 t_F61 t_P100 t_P101 t_P102
            obtain ⟨V10, hV10⟩ : ∃ V10 : World, V10 = ((w13.alloc (.cells #[.bool z.num.neg, .slice z.num.A z.num.n z.num.c, .bool z.den.neg, .slice z.den.A z.den.n z.den.c] 26)).alloc (.cells #[.int .i64 0, .int .i64 0] 28)) := ⟨_, rfl⟩
            have bV10 : Below w13.heap.size w13 V10 := by rw [hV10]; (repeat (first | with_reducible exact Below.refl _ _ | with_reducible refine Below.drew ?_ | with_reducible refine below_drewN ?_ _ | with_reducible refine Below.setCell ?_ (by first | (simp; done) | (simp; omega) | omega) _ | with_reducible refine Below.alloc ?_ (by first | (simp; done) | (simp; omega) | omega) _))
            have zV10 : w13.heap.size + 2 ≤ V10.heap.size := by rw [hV10]; simp
            have P12 : Bk4 V10 (w13.heap.size) (.bool z.num.neg) (.slice z.num.A z.num.n z.num.c) (.bool z.den.neg) (.slice z.den.A z.den.n z.den.c) := by rw [hV10]; exact ((Bk4.newAt _ _ (by first | omega | (simp; done) | (simp; omega)) _ _ _ _ _).alloc _)
            have F13 : Bk2 V10 (w13.heap.size + 1) (.int .i64 0) (.int .i64 0) := by rw [hV10]; exact (Bk2.newAt _ _ (by first | omega | (simp; done) | (simp; omega)) _ _ _)
            rw [← hV10]
            clear hV10
            replace E0 : Below (V5.heap.size) V5 V10 := E0.trans (bV10.mono (by omega))
            replace P10 := P10.below bV10 P10.lt
            replace F6 := F6.below bV10 F6.lt
            replace Hp1 := Hp1.below bV10 (by omega)
            replace Hp2 := Hp2.below bV10 (by omega)
            replace Hz1 := Hz1.below bV10 (by omega)
            replace Hz2 := Hz2.below bV10 (by omega)
            clear bV10
            (with_reducible refine (sameRatio_any _ w13.heap.size z p.m p.A p.D p.n p.c p.k p.d v1 x.den.val.natAbs x.num.val x.den.val p.xs p.ys (rv_at (Hz1.more (by omega)) (Hz2.more (by omega))) (Hp1.more (by omega)) (Hp2.more (by omega)) (by omega) I1 I2 R1 R2 S1 (Lib.hid (by rw [sval_f]; exact dn.out)) np5 nk5).mono ?_)
            rintro e w21 ⟨rfl, hb21⟩
            have sw21 := hb21.size
            replace E0 : Below (V5.heap.size) V5 w21 := E0.trans (hb21.mono (by omega))
            replace P10 := P10.below hb21 P10.lt
            replace F6 := F6.below hb21 F6.lt
            replace Hp1 := Hp1.below hb21 (by omega)
            replace Hp2 := Hp2.below hb21 (by omega)
            replace Hz1 := Hz1.below hb21 (by omega)
            replace Hz2 := Hz2.below hb21 (by omega)
            replace P12 := P12.below hb21 P12.lt
            replace F13 := F13.below hb21 F13.lt
            clear hb21
            go_wp2_with fail
            go_meet
            exact E0
  case rest =>
  replace E := E.trans (hcut.mono E.size)
  replace Hx1 := Hx1.below hcut (by omega)
  replace Hx2 := Hx2.below hcut (by omega)
  replace PX := PX.below hcut PX.lt
  replace F6 := F6.below hcut F6.lt
  replace Hy1 := Hy1.below hcut (by omega)
  replace Hy2 := Hy2.below hcut (by omega)
  replace P7 := P7.below hcut P7.lt
  replace F8 := F8.below hcut F8.lt
  replace F9 := F9.below hcut F9.lt
  have sXa := hcut.size
  clear hcut
  obtain ⟨Va, hVa⟩ : ∃ y : World, y = wc := ⟨_, rfl⟩
  subst hVa
  clear PX F6 F9 Hx1 Hx2
  clear TG
  by_cases hlt : 4000 < t.size
  · as_aux_lemma =>
      have hg : decide ((4000 : Int) < (t.size : Int)) = true := decide_eq_true (by omega)
      rcases PS.out with ⟨_, rfl, rfl, hzr⟩ | ⟨h, _⟩
      rotate_left
      · omega
      obtain ⟨n1, n2, n3, n4⟩ := hzr.form (rv_at Hy1 Hy2)
      rw [n1, n2, n3, n4] at P7
      clear n1 n2 n3 n4 hzr
      go_upto_region 17 with fail
      have lt_P7 := P7.lt
      have lt_F8 := F8.lt
      have HS := Lib.hid (fun (u : World) (hu : Below (Va.heap.size) Va u) => (⟨(hu.cell (p := ⟨w2.heap.size, 0, none⟩) (by show w2.heap.size < _; omega)).trans P7.c0, (hu.cell (p := ⟨w2.heap.size, 1, none⟩) (by show w2.heap.size < _; omega)).trans P7.c1, (hu.cell (p := ⟨w2.heap.size, 2, none⟩) (by show w2.heap.size < _; omega)).trans P7.c2, (hu.cell (p := ⟨w2.heap.size, 3, none⟩) (by show w2.heap.size < _; omega)).trans P7.c3, (hu.cell (p := ⟨w2.heap.size + 1, 0, none⟩) (by show w2.heap.size + 1 < _; omega)).trans F8.c0, (hu.cell (p := ⟨w2.heap.size + 1, 1, none⟩) (by show w2.heap.size + 1 < _; omega)).trans F8.c1⟩ : u.cell? ⟨w2.heap.size, 0, none⟩ = some (.bool false) ∧ u.cell? ⟨w2.heap.size, 1, none⟩ = some (.slice y.num.A 0 y.num.c) ∧ u.cell? ⟨w2.heap.size, 2, none⟩ = some (.bool false) ∧ u.cell? ⟨w2.heap.size, 3, none⟩ = some (.slice y.den.A 0 y.den.c) ∧ u.cell? ⟨w2.heap.size + 1, 0, none⟩ = some (.int .i64 3) ∧ u.cell? ⟨w2.heap.size + 1, 1, none⟩ = some (.int .i64 (-1))))
      have G0 : Below Va.heap.size Va Va.drew := Below.drew (Below.refl _ _)
      have g0s := G0.size
      have G0m : Below (Va.heap.size) Va Va.drew := G0.mono (by omega)
      go_region_held3 (fun u => u.cell? ⟨w2.heap.size, 0, none⟩ = some (.bool false) ∧ u.cell? ⟨w2.heap.size, 1, none⟩ = some (.slice y.num.A 0 y.num.c) ∧ u.cell? ⟨w2.heap.size, 2, none⟩ = some (.bool false) ∧ u.cell? ⟨w2.heap.size, 3, none⟩ = some (.slice y.den.A 0 y.den.c) ∧ u.cell? ⟨w2.heap.size + 1, 0, none⟩ = some (.int .i64 3) ∧ u.cell? ⟨w2.heap.size + 1, 1, none⟩ = some (.int .i64 (-1))) (first | (refine HS.out _ ?_; (repeat (first | with_reducible exact G0m | with_reducible exact BN.mono (by omega) | with_reducible exact B1.mono (by omega) | with_reducible exact Below.refl _ _ | with_reducible refine Below.drew ?_ | with_reducible refine below_drewN ?_ _ | with_reducible refine Below.setCell ?_ (by first | (simp; done) | (simp; omega) | omega) _)); done) | fail)
        (first
          | (go_at_call 24; (with_reducible refine (at_any _ _ _).mono ?_); rintro e u1 ⟨rfl, hb1⟩; have B1 : Below Va.heap.size Va u1 := bnext G0 hb1; have b1s := B1.size)
          | (go_at_call 17; (with_reducible refine (gives_f3 _ y.num.A y.den.A y.num.c y.den.c (QV.mk false none 0 0 [] none 0 0 []) (-1)).mono ?_); rintro e u2 ⟨rfl, hb2⟩; have BN : Below Va.heap.size Va u2 := bnext B1 hb2)
          | fail)
      all_goals (go_wp2_with fail)
      all_goals go_ret
      all_goals exact ⟨rfl, E.trans (BN.mono E.size)⟩
  · have hg : decide ((4000 : Int) < (t.size : Int)) = false := decide_eq_false (by omega)
    rcases PS.out with ⟨h, _⟩ | ⟨_, z1, q1, r1, z2, q2, r2, hn, hd, hc⟩
    · omega
    have NI := Lib.hid hn
    have DI := Lib.hid hd
    have PC := Lib.hid hc
    clear hn hd hc PS
    rcases hTB.out with ⟨hS, rfl, rfl, rfl⟩ | ⟨i, hS, rfl, rfl, rfl⟩
    · clear hTB
      have HS := Lib.hid hS
      clear hS
      go_wp2_with fail
      clear hg
      go_loop [14] (fun v => ∃ k : Nat, k ≤ a.size ∧ v = .int .i64 ((k : Nat) : Int)) (fun v => a.size - (intOf v).toNat)
      case atStart => exact ⟨0, by omega, rfl⟩
      case round =>
        obtain ⟨k, hk, rfl⟩ := hrel
        by_cases hkn : k < a.size
        · have hk2 : k < a.size := by omega
          have hb9 : a[k].toNat ≠ 47 := by rw [bat_eq hk2]; exact HS.out k hk2
          go_wp2_with fail
          go_round
          case rel => exact ⟨k + 1, by omega, by go_num⟩
          case measure => simp [intOf]; omega
        · obtain rfl : k = a.size := by omega
          clear hkn hk
          have ha4 : a.size ≤ 4097 := by omega
          have HX := Lib.hid (ext_all a)
          by_cases hTa : TxOk a 10
          · as_aux_lemma =>
              have HTA := Lib.hid hTa
              clear hTa
              go_wp2_with fail
              try rw [HX.out]
              (with_reducible refine (itx_ok10 _ a ha4 HTA.out).mono ?_)
              rintro e w6 ⟨A5, k5, c5, x5, v5, rfl, hd5, hr5, hs5, hb6⟩
              have sw6 := hb6.size
              replace E := E.trans (hb6.mono E.size)
              replace Hy1 := Hy1.below hb6 (by omega)
              replace Hy2 := Hy2.below hb6 (by omega)
              replace P7 := P7.below hb6 P7.lt
              replace F8 := F8.below hb6 F8.lt
              clear hb6
              have R5 := Lib.hid hr5
              have S5 := Lib.hid hs5
              clear hr5 hs5
              go_wp2_with fail
              obtain ⟨V7, hV7⟩ : ∃ V7 : World, V7 = (w6.alloc (.cells #[.bool (TxNeg a), .slice A5 k5 c5] 40)) := ⟨_, rfl⟩
              have bV7 : Below w6.heap.size w6 V7 := by rw [hV7]; (repeat (first | with_reducible exact Below.refl _ _ | with_reducible refine Below.drew ?_ | with_reducible refine below_drewN ?_ _ | with_reducible refine Below.setCell ?_ (by first | (simp; done) | (simp; omega) | omega) _ | with_reducible refine Below.alloc ?_ (by first | (simp; done) | (simp; omega) | omega) _))
              have zV7 : w6.heap.size + 1 ≤ V7.heap.size := by rw [hV7]; simp
              have P15 : Bk2 V7 (w6.heap.size) (.bool (TxNeg a)) (.slice A5 k5 c5) := by rw [hV7]; exact (Bk2.newAt _ _ (by first | omega | (simp; done) | (simp; omega)) _ _ _)
              rw [← hV7]
              clear hV7
              replace E := E.trans (bV7.mono E.size)
              replace Hy1 := Hy1.below bV7 (by omega)
              replace Hy2 := Hy2.below bV7 (by omega)
              replace P7 := P7.below bV7 P7.lt
              replace F8 := F8.below bV7 F8.lt
              replace hd5 := hd5.below bV7 (by omega)
              clear bV7
              (with_reducible refine (number_any _ 1 (by decide) (by decide)).mono ?_)
              rintro e w7 ⟨m7, A7, k7, c7, x7, v7, rfl, hd7, hr7, hs7, hb7⟩
              have sw7 := hb7.size
              replace E := E.trans (hb7.mono E.size)
              replace Hy1 := Hy1.below hb7 (by omega)
              replace Hy2 := Hy2.below hb7 (by omega)
              replace P7 := P7.below hb7 P7.lt
              replace F8 := F8.below hb7 F8.lt
              replace hd5 := hd5.below hb7 (by omega)
              replace P15 := P15.below hb7 P15.lt
              clear hb7
              have R7 := Lib.hid hr7
              have S7 := Lib.hid hs7
              clear hr7 hs7
              go_upto_region 27 with fail
              obtain ⟨V8, hV8⟩ : ∃ V8 : World, V8 = (w7.alloc (.cells #[.bool m7, .slice A7 k7 c7] 40)) := ⟨_, rfl⟩
              have bV8 : Below w7.heap.size w7 V8 := by rw [hV8]; (repeat (first | with_reducible exact Below.refl _ _ | with_reducible refine Below.drew ?_ | with_reducible refine below_drewN ?_ _ | with_reducible refine Below.setCell ?_ (by first | (simp; done) | (simp; omega) | omega) _ | with_reducible refine Below.alloc ?_ (by first | (simp; done) | (simp; omega) | omega) _))
              have zV8 : w7.heap.size + 1 ≤ V8.heap.size := by rw [hV8]; simp
              have P17 : Bk2 V8 (w7.heap.size) (.bool m7) (.slice A7 k7 c7) := by rw [hV8]; exact (Bk2.newAt _ _ (by first | omega | (simp; done) | (simp; omega)) _ _ _)
              rw [← hV8]
              clear hV8
              replace E := E.trans (bV8.mono E.size)
              replace Hy1 := Hy1.below bV8 (by omega)
              replace Hy2 := Hy2.below bV8 (by omega)
              replace P7 := P7.below bV8 P7.lt
              replace F8 := F8.below bV8 F8.lt
              replace hd5 := hd5.below bV8 (by omega)
              replace P15 := P15.below bV8 P15.lt
              replace hd7 := hd7.below bV8 (by omega)
              clear bV8
              have hk5 := hd5.cap
              have hkd := hd7.cap
              have N9 := Lib.hid (show (Top128 ≤ (TxVal a 10).natAbs ∧ q1 = 14) ∨ ((TxVal a 10).natAbs < Top128 ∧ z1 = TxVal a 10 ∧ q1 = 0) by
                rcases NI.out with ⟨h, _⟩ | ⟨_, h, _, h2, _⟩ | ⟨_, h, h2, h3, _⟩
                · exact absurd HTA.out h
                · exact .inl ⟨h, h2⟩
                · exact .inr ⟨h, h2, h3⟩)
              have D9 := Lib.hid (show z2 = 1 ∧ q2 = 0 by
                rcases DI.out with ⟨h, _⟩ | ⟨_, h1, h2, _⟩
                · cases h
                · exact ⟨h1, h2⟩)
              have t_P150 := P15.c0
              have t_P151 := P15.c1
              go_wp2_with fail
              clear t_P150 t_P151
              (with_reducible refine (fits_any _ (TxNeg a) A5 k5 c5 (by omega)).mono ?_)
              rintro e w20 ⟨rfl, hb20⟩
              have sw20 := hb20.size
              replace E := E.trans (hb20.mono E.size)
              replace Hy1 := Hy1.below hb20 (by omega)
              replace Hy2 := Hy2.below hb20 (by omega)
              replace P7 := P7.below hb20 P7.lt
              replace F8 := F8.below hb20 F8.lt
              replace hd5 := hd5.below hb20 (by omega)
              replace P15 := P15.below hb20 P15.lt
              replace hd7 := hd7.below hb20 (by omega)
              replace P17 := P17.below hb20 P17.lt
              clear hb20
              by_cases hbig : Top128 ≤ (TxVal a 10).natAbs
              · rw [decide_eq_false (show ¬ k5 ≤ 256 by have h1 := repD_big R5.out (by rw [← sval_abs (TxNeg a) v5, S5.out]; exact hbig) hd5.len.out; omega)]
                have hq1 : ¬ (q1 = 1 ∨ q2 = 1) ∧ q1 ≠ 0 := by have := N9.out; have := D9.out; omega
                obtain ⟨hq1, hq0⟩ := hq1
                clear hbig
                obtain ⟨rfl, rfl, hzr⟩ : f8 = 14 ∧ g8 = -1 ∧ Zr y := by
                  rcases PC.out with ⟨h, _⟩ | ⟨_, _, h⟩ | ⟨h1, h2, _⟩ | ⟨h1, h2, _⟩
                  · exact absurd h hq1
                  · exact h
                  · exact absurd h1 hq0
                  · exact absurd h1 hq0
                clear hq1 hq0
                obtain ⟨n1, n2, n3, n4⟩ := hzr.form (rv_at Hy1 Hy2)
                rw [n1, n2, n3, n4] at P7
                clear n1 n2 n3 n4 hzr
                go_upto_region 30 with fail
                have lt_P7 := P7.lt
                have lt_F8 := F8.lt
                have HS := Lib.hid (fun (u : World) (hu : Below (w20.heap.size) w20 u) => (⟨(hu.cell (p := ⟨w2.heap.size, 0, none⟩) (by show w2.heap.size < _; omega)).trans P7.c0, (hu.cell (p := ⟨w2.heap.size, 1, none⟩) (by show w2.heap.size < _; omega)).trans P7.c1, (hu.cell (p := ⟨w2.heap.size, 2, none⟩) (by show w2.heap.size < _; omega)).trans P7.c2, (hu.cell (p := ⟨w2.heap.size, 3, none⟩) (by show w2.heap.size < _; omega)).trans P7.c3, (hu.cell (p := ⟨w2.heap.size + 1, 0, none⟩) (by show w2.heap.size + 1 < _; omega)).trans F8.c0, (hu.cell (p := ⟨w2.heap.size + 1, 1, none⟩) (by show w2.heap.size + 1 < _; omega)).trans F8.c1⟩ : u.cell? ⟨w2.heap.size, 0, none⟩ = some (.bool false) ∧ u.cell? ⟨w2.heap.size, 1, none⟩ = some (.slice y.num.A 0 y.num.c) ∧ u.cell? ⟨w2.heap.size, 2, none⟩ = some (.bool false) ∧ u.cell? ⟨w2.heap.size, 3, none⟩ = some (.slice y.den.A 0 y.den.c) ∧ u.cell? ⟨w2.heap.size + 1, 0, none⟩ = some (.int .i64 14) ∧ u.cell? ⟨w2.heap.size + 1, 1, none⟩ = some (.int .i64 (-1))))
                have G0 : Below w20.heap.size w20 w20.drew := Below.drew (Below.refl _ _)
                have g0s := G0.size
                have G0m : Below (w20.heap.size) w20 w20.drew := G0.mono (by omega)
                go_region_held3 (fun u => u.cell? ⟨w2.heap.size, 0, none⟩ = some (.bool false) ∧ u.cell? ⟨w2.heap.size, 1, none⟩ = some (.slice y.num.A 0 y.num.c) ∧ u.cell? ⟨w2.heap.size, 2, none⟩ = some (.bool false) ∧ u.cell? ⟨w2.heap.size, 3, none⟩ = some (.slice y.den.A 0 y.den.c) ∧ u.cell? ⟨w2.heap.size + 1, 0, none⟩ = some (.int .i64 14) ∧ u.cell? ⟨w2.heap.size + 1, 1, none⟩ = some (.int .i64 (-1))) (first | (refine HS.out _ ?_; (repeat (first | with_reducible exact G0m | with_reducible exact BN.mono (by omega) | with_reducible exact B1.mono (by omega) | with_reducible exact Below.refl _ _ | with_reducible refine Below.drew ?_ | with_reducible refine below_drewN ?_ _ | with_reducible refine Below.setCell ?_ (by first | (simp; done) | (simp; omega) | omega) _)); done) | fail)
                  (first
                    | (go_at_call 24; (with_reducible refine (at_any _ _ _).mono ?_); rintro e u1 ⟨rfl, hb1⟩; have B1 : Below w20.heap.size w20 u1 := bnext G0 hb1; have b1s := B1.size)
                    | (go_at_call 17; (with_reducible refine (gives_f14 _ y.num.A y.den.A y.num.c y.den.c (QV.mk false none 0 0 [] none 0 0 []) (-1)).mono ?_); rintro e u2 ⟨rfl, hb2⟩; have BN : Below w20.heap.size w20 u2 := bnext B1 hb2)
                    | fail)
                all_goals (go_wp2_with fail)
                all_goals go_ret
                all_goals exact ⟨rfl, E.trans (BN.mono E.size)⟩
              · have k256 : k5 ≤ 256 := repD_len128 R5.out (by rw [← sval_abs (TxNeg a) v5, S5.out]; omega) hd5.len.out
                rw [decide_eq_true k256]
                have NB := Lib.hid (show (TxVal a 10).natAbs < Top128 by omega)
                clear hbig
                have t_P170 := P17.c0
                have t_P171 := P17.c1
                go_wp2_with fail
                clear t_P170 t_P171
                (with_reducible refine (fits_any _ m7 A7 k7 c7 (by omega)).mono ?_)
                rintro e w21 ⟨rfl, hb21⟩
                have sw21 := hb21.size
                replace E := E.trans (hb21.mono E.size)
                replace Hy1 := Hy1.below hb21 (by omega)
                replace Hy2 := Hy2.below hb21 (by omega)
                replace P7 := P7.below hb21 P7.lt
                replace F8 := F8.below hb21 F8.lt
                replace hd5 := hd5.below hb21 (by omega)
                replace P15 := P15.below hb21 P15.lt
                replace hd7 := hd7.below hb21 (by omega)
                replace P17 := P17.below hb21 P17.lt
                clear hb21
                have DB := Lib.hid (show (1 : Int).natAbs < Top128 from lt_top (by decide))
                have QQ := Lib.hid (show q1 = 0 ∧ q2 = 0 ∧ z1 = TxVal a 10 ∧ z2 = 1 by have := N9.out; have := D9.out; have := NB.out; omega)
                have DP := Lib.hid (show (0 : Int) < 1 by decide)
                have kk6 : k7 ≤ 256 := repD_len128 R7.out (by rw [← sval_abs m7 v7, S7.out]; exact DB.out) hd7.len.out
                rw [decide_eq_true kk6]
                have VAb := Lib.hid (show v5 = (TxVal a 10).natAbs by rw [← sval_abs (TxNeg a) v5, S5.out])
                have VBb := Lib.hid (show v7 = (1 : Int).natAbs by rw [← sval_abs m7 v7, S7.out])
                have t_P150 := P15.c0
                have t_P151 := P15.c1
                have t_P170 := P17.c0
                have t_P171 := P17.c1
                go_wp2_with fail
                clear t_P150 t_P151 t_P170 t_P171
                (with_reducible refine (common_any _ w21.heap.size A5 A7 k5 k7 c5 c7 256 v5 v7 x5 x7 (hd5.more (by omega)) (hd7.more (by omega)) (Nat.le_refl _) k256 kk6 (by omega) R5.out R7.out).mono ?_)
                rintro e w22 ⟨A22, k22, c22, x22, rfl, hd22, hr22, hb22⟩
                have sw22 := hb22.size
                replace E := E.trans (hb22.mono E.size)
                replace Hy1 := Hy1.below hb22 (by omega)
                replace Hy2 := Hy2.below hb22 (by omega)
                replace P7 := P7.below hb22 P7.lt
                replace F8 := F8.below hb22 F8.lt
                replace hd5 := hd5.below hb22 (by omega)
                replace P15 := P15.below hb22 P15.lt
                replace hd7 := hd7.below hb22 (by omega)
                replace P17 := P17.below hb22 P17.lt
                clear hb22
                have R22 := Lib.hid hr22
                clear hr22
                go_wp2_with fail
                (with_reducible refine (small_1 _).mono ?_)
                rintro e w23 ⟨A23, k23, c23, x23, rfl, hd23, hr23, hb23⟩
                have sw23 := hb23.size
                replace E := E.trans (hb23.mono E.size)
                replace Hy1 := Hy1.below hb23 (by omega)
                replace Hy2 := Hy2.below hb23 (by omega)
                replace P7 := P7.below hb23 P7.lt
                replace F8 := F8.below hb23 F8.lt
                replace hd5 := hd5.below hb23 (by omega)
                replace P15 := P15.below hb23 P15.lt
                replace hd7 := hd7.below hb23 (by omega)
                replace P17 := P17.below hb23 P17.lt
                replace hd22 := hd22.below hb23 (by omega)
                clear hb23
                have R23 := Lib.hid hr23
                clear hr23
                go_wp2_with fail
                (with_reducible refine (cmpD_v _ w23.heap.size A22 A23 k22 k23 c22 c23 (Nat.gcd v5 v7) 1 x22 x23 (hd22.more (by omega)) (hd23.more (by omega)) R22.out R23.out).mono ?_)
                rintro e w24 ⟨rr, hcv, rfl, hb24⟩
                have sw24 := hb24.size
                replace E := E.trans (hb24.mono E.size)
                replace Hy1 := Hy1.below hb24 (by omega)
                replace Hy2 := Hy2.below hb24 (by omega)
                replace P7 := P7.below hb24 P7.lt
                replace F8 := F8.below hb24 F8.lt
                replace hd5 := hd5.below hb24 (by omega)
                replace P15 := P15.below hb24 P15.lt
                replace hd7 := hd7.below hb24 (by omega)
                replace P17 := P17.below hb24 P17.lt
                replace hd22 := hd22.below hb24 (by omega)
                replace hd23 := hd23.below hb24 (by omega)
                clear hb24
                by_cases hg : Nat.gcd v5 v7 = 1
                · obtain rfl : rr = 0 := by unfold CmpV at hcv; omega
                  clear hcv
                  have HG := Lib.hid hg
                  clear hg
                  obtain ⟨rfl, rfl, j1, j2⟩ : f8 = 0 ∧ g8 = 0 ∧ IRep y.num.neg y.num.xs (TxVal a 10) ∧ IRep y.den.neg y.den.xs 1 := by
                    rcases PC.out with ⟨h, _⟩ | ⟨_, h, _⟩ | ⟨_, _, h, _⟩ | ⟨_, _, _, h1, h2, h3, h4⟩
                    · exact absurd h (by have := QQ.out; omega)
                    · exact absurd h (by have := QQ.out; omega)
                    · exact absurd (by rw [QQ.out.2.2.1, QQ.out.2.2.2, ← VAb.out, ← VBb.out]; exact HG.out) h
                    · rw [QQ.out.2.2.1] at h3
                      rw [QQ.out.2.2.2] at h4
                      exact ⟨h1, h2, h3, h4⟩
                  have J1 := Lib.hid j1
                  have J2 := Lib.hid j2
                  clear j1 j2
                  have t_P70 := P7.c0
                  have t_P71 := P7.c1
                  have t_P72 := P7.c2
                  have t_P73 := P7.c3
                  have t_F80 := F8.c0
                  have t_F81 := F8.c1
                  have t_P150 := P15.c0
                  have t_P151 := P15.c1
                  have t_P170 := P17.c0
                  have t_P171 := P17.c1
                  go_wp2_with fail
                  clear t_P70 t_P71 t_P72 t_P73 t_F80 t_F81 t_P150 t_P151 t_P170 t_P171
                  (with_reducible refine (gives_ok _ w24.heap.size y (QV.mk (TxNeg a) A5 k5 c5 x5 A7 k7 c7 x7) v5 v7 (TxVal a 10) 1 (rv_at (Hy1.more (by omega)) (Hy2.more (by omega))) (qv_at (q := QV.mk (TxNeg a) A5 k5 c5 x5 A7 k7 c7 x7) (hd5.more (by omega)) (hd7.more (by omega))) (Nat.le_refl _) J1 J2 R5 R7 S5 (Lib.hid (by rw [sval_f, VBb.out]; have := DP.out; omega)) k256 kk6).mono ?_)
                  rintro e w25 ⟨rfl, hb25⟩
                  have sw25 := hb25.size
                  replace E := E.trans (hb25.mono E.size)
                  replace Hy1 := Hy1.below hb25 (by omega)
                  replace Hy2 := Hy2.below hb25 (by omega)
                  replace P7 := P7.below hb25 P7.lt
                  replace F8 := F8.below hb25 F8.lt
                  replace hd5 := hd5.below hb25 (by omega)
                  replace P15 := P15.below hb25 P15.lt
                  replace hd7 := hd7.below hb25 (by omega)
                  replace P17 := P17.below hb25 P17.lt
                  replace hd22 := hd22.below hb25 (by omega)
                  replace hd23 := hd23.below hb25 (by omega)
                  clear hb25
                  go_wp2_with fail
                  go_ret
                  exact ⟨rfl, E⟩
                · have hrr : (rr != 0) = true := by unfold CmpV at hcv; rcases hcv with ⟨rfl, _⟩ | ⟨_, h⟩ | ⟨rfl, _⟩; rfl; exact absurd h hg; rfl
                  clear hcv
                  have HG := Lib.hid hg
                  clear hg
                  obtain ⟨rfl, rfl, hzr⟩ : f8 = 6 ∧ g8 = -1 ∧ Zr y := by
                    rcases PC.out with ⟨h, _⟩ | ⟨_, h, _⟩ | ⟨_, _, _, h⟩ | ⟨_, _, h, _⟩
                    · exact absurd h (by have := QQ.out; omega)
                    · exact absurd h (by have := QQ.out; omega)
                    · exact h
                    · exact absurd (by rw [QQ.out.2.2.1, QQ.out.2.2.2, ← VAb.out, ← VBb.out] at h; exact h) HG.out
                  obtain ⟨n1, n2, n3, n4⟩ := hzr.form (rv_at Hy1 Hy2)
                  rw [n1, n2, n3, n4] at P7
                  clear n1 n2 n3 n4 hzr
                  go_upto_region 32 with fail
                  have lt_P7 := P7.lt
                  have lt_F8 := F8.lt
                  have HS := Lib.hid (fun (u : World) (hu : Below (w24.heap.size) w24 u) => (⟨(hu.cell (p := ⟨w2.heap.size, 0, none⟩) (by show w2.heap.size < _; omega)).trans P7.c0, (hu.cell (p := ⟨w2.heap.size, 1, none⟩) (by show w2.heap.size < _; omega)).trans P7.c1, (hu.cell (p := ⟨w2.heap.size, 2, none⟩) (by show w2.heap.size < _; omega)).trans P7.c2, (hu.cell (p := ⟨w2.heap.size, 3, none⟩) (by show w2.heap.size < _; omega)).trans P7.c3, (hu.cell (p := ⟨w2.heap.size + 1, 0, none⟩) (by show w2.heap.size + 1 < _; omega)).trans F8.c0, (hu.cell (p := ⟨w2.heap.size + 1, 1, none⟩) (by show w2.heap.size + 1 < _; omega)).trans F8.c1⟩ : u.cell? ⟨w2.heap.size, 0, none⟩ = some (.bool false) ∧ u.cell? ⟨w2.heap.size, 1, none⟩ = some (.slice y.num.A 0 y.num.c) ∧ u.cell? ⟨w2.heap.size, 2, none⟩ = some (.bool false) ∧ u.cell? ⟨w2.heap.size, 3, none⟩ = some (.slice y.den.A 0 y.den.c) ∧ u.cell? ⟨w2.heap.size + 1, 0, none⟩ = some (.int .i64 6) ∧ u.cell? ⟨w2.heap.size + 1, 1, none⟩ = some (.int .i64 (-1))))
                  have G0 : Below w24.heap.size w24 w24.drew := Below.drew (Below.refl _ _)
                  have g0s := G0.size
                  have G0m : Below (w24.heap.size) w24 w24.drew := G0.mono (by omega)
                  go_region_held3 (fun u => u.cell? ⟨w2.heap.size, 0, none⟩ = some (.bool false) ∧ u.cell? ⟨w2.heap.size, 1, none⟩ = some (.slice y.num.A 0 y.num.c) ∧ u.cell? ⟨w2.heap.size, 2, none⟩ = some (.bool false) ∧ u.cell? ⟨w2.heap.size, 3, none⟩ = some (.slice y.den.A 0 y.den.c) ∧ u.cell? ⟨w2.heap.size + 1, 0, none⟩ = some (.int .i64 6) ∧ u.cell? ⟨w2.heap.size + 1, 1, none⟩ = some (.int .i64 (-1))) (first | (refine HS.out _ ?_; (repeat (first | with_reducible exact G0m | with_reducible exact BN.mono (by omega) | with_reducible exact B1.mono (by omega) | with_reducible exact Below.refl _ _ | with_reducible refine Below.drew ?_ | with_reducible refine below_drewN ?_ _ | with_reducible refine Below.setCell ?_ (by first | (simp; done) | (simp; omega) | omega) _)); done) | fail)
                    (first
                      | (go_at_call 24; (with_reducible refine (at_any _ _ _).mono ?_); rintro e u1 ⟨rfl, hb1⟩; have B1 : Below w24.heap.size w24 u1 := bnext G0 hb1; have b1s := B1.size)
                      | (go_at_call 17; (with_reducible refine (gives_f6 _ y.num.A y.den.A y.num.c y.den.c (QV.mk false none 0 0 [] none 0 0 []) (-1)).mono ?_); rintro e u2 ⟨rfl, hb2⟩; have BN : Below w24.heap.size w24 u2 := bnext B1 hb2)
                      | fail)
                  all_goals (go_wp2_with fail)
                  all_goals go_ret
                  all_goals exact ⟨rfl, E.trans (BN.mono E.size)⟩
          · as_aux_lemma =>
              have HTA := Lib.hid hTa
              clear hTa
              go_wp2_with fail
              try rw [HX.out]
              (with_reducible refine (itx_bad10 _ a ha4 HTA.out).mono ?_)
              rintro e w6 ⟨rfl, hb6⟩
              have sw6 := hb6.size
              replace E := E.trans (hb6.mono E.size)
              replace Hy1 := Hy1.below hb6 (by omega)
              replace Hy2 := Hy2.below hb6 (by omega)
              replace P7 := P7.below hb6 P7.lt
              replace F8 := F8.below hb6 F8.lt
              clear hb6
              go_wp2_with fail
              obtain ⟨V7, hV7⟩ : ∃ V7 : World, V7 = (w6.alloc (.cells #[.bool false, .slice none 0 0] 40)) := ⟨_, rfl⟩
              have bV7 : Below w6.heap.size w6 V7 := by rw [hV7]; (repeat (first | with_reducible exact Below.refl _ _ | with_reducible refine Below.drew ?_ | with_reducible refine below_drewN ?_ _ | with_reducible refine Below.setCell ?_ (by first | (simp; done) | (simp; omega) | omega) _ | with_reducible refine Below.alloc ?_ (by first | (simp; done) | (simp; omega) | omega) _))
              have zV7 : w6.heap.size + 1 ≤ V7.heap.size := by rw [hV7]; simp
              have P15 : Bk2 V7 (w6.heap.size) (.bool false) (.slice none 0 0) := by rw [hV7]; exact (Bk2.newAt _ _ (by first | omega | (simp; done) | (simp; omega)) _ _ _)
              rw [← hV7]
              clear hV7
              replace E := E.trans (bV7.mono E.size)
              replace Hy1 := Hy1.below bV7 (by omega)
              replace Hy2 := Hy2.below bV7 (by omega)
              replace P7 := P7.below bV7 P7.lt
              replace F8 := F8.below bV7 F8.lt
              clear bV7
              (with_reducible refine (number_any _ 1 (by decide) (by decide)).mono ?_)
              rintro e w7 ⟨m7, A7, k7, c7, x7, v7, rfl, hd7, hr7, hs7, hb7⟩
              have sw7 := hb7.size
              replace E := E.trans (hb7.mono E.size)
              replace Hy1 := Hy1.below hb7 (by omega)
              replace Hy2 := Hy2.below hb7 (by omega)
              replace P7 := P7.below hb7 P7.lt
              replace F8 := F8.below hb7 F8.lt
              replace P15 := P15.below hb7 P15.lt
              clear hb7
              have R7 := Lib.hid hr7
              have S7 := Lib.hid hs7
              clear hr7 hs7
              go_upto_region 27 with fail
              obtain ⟨V8, hV8⟩ : ∃ V8 : World, V8 = (w7.alloc (.cells #[.bool m7, .slice A7 k7 c7] 40)) := ⟨_, rfl⟩
              have bV8 : Below w7.heap.size w7 V8 := by rw [hV8]; (repeat (first | with_reducible exact Below.refl _ _ | with_reducible refine Below.drew ?_ | with_reducible refine below_drewN ?_ _ | with_reducible refine Below.setCell ?_ (by first | (simp; done) | (simp; omega) | omega) _ | with_reducible refine Below.alloc ?_ (by first | (simp; done) | (simp; omega) | omega) _))
              have zV8 : w7.heap.size + 1 ≤ V8.heap.size := by rw [hV8]; simp
              have P17 : Bk2 V8 (w7.heap.size) (.bool m7) (.slice A7 k7 c7) := by rw [hV8]; exact (Bk2.newAt _ _ (by first | omega | (simp; done) | (simp; omega)) _ _ _)
              rw [← hV8]
              clear hV8
              replace E := E.trans (bV8.mono E.size)
              replace Hy1 := Hy1.below bV8 (by omega)
              replace Hy2 := Hy2.below bV8 (by omega)
              replace P7 := P7.below bV8 P7.lt
              replace F8 := F8.below bV8 F8.lt
              replace P15 := P15.below bV8 P15.lt
              replace hd7 := hd7.below bV8 (by omega)
              clear bV8
              have hq : q1 = 1 ∨ q2 = 1 := by
                rcases NI.out with ⟨_, _, h, _⟩ | ⟨h, _⟩ | ⟨h, _⟩
                · exact .inl h
                · exact absurd h HTA.out
                · exact absurd h HTA.out
              obtain ⟨rfl, rfl, hzr⟩ : f8 = 1 ∧ g8 = -1 ∧ Zr y := by
                rcases PC.out with ⟨_, h⟩ | ⟨h, _⟩ | ⟨rfl, rfl, _⟩ | ⟨rfl, rfl, _⟩
                · exact h
                · exact absurd hq h
                · omega
                · omega
              clear hq
              obtain ⟨n1, n2, n3, n4⟩ := hzr.form (rv_at Hy1 Hy2)
              rw [n1, n2, n3, n4] at P7
              clear n1 n2 n3 n4 hzr
              go_upto_region 28 with fail
              have lt_P7 := P7.lt
              have lt_F8 := F8.lt
              have HS := Lib.hid (fun (u : World) (hu : Below (V8.heap.size) V8 u) => (⟨(hu.cell (p := ⟨w2.heap.size, 0, none⟩) (by show w2.heap.size < _; omega)).trans P7.c0, (hu.cell (p := ⟨w2.heap.size, 1, none⟩) (by show w2.heap.size < _; omega)).trans P7.c1, (hu.cell (p := ⟨w2.heap.size, 2, none⟩) (by show w2.heap.size < _; omega)).trans P7.c2, (hu.cell (p := ⟨w2.heap.size, 3, none⟩) (by show w2.heap.size < _; omega)).trans P7.c3, (hu.cell (p := ⟨w2.heap.size + 1, 0, none⟩) (by show w2.heap.size + 1 < _; omega)).trans F8.c0, (hu.cell (p := ⟨w2.heap.size + 1, 1, none⟩) (by show w2.heap.size + 1 < _; omega)).trans F8.c1⟩ : u.cell? ⟨w2.heap.size, 0, none⟩ = some (.bool false) ∧ u.cell? ⟨w2.heap.size, 1, none⟩ = some (.slice y.num.A 0 y.num.c) ∧ u.cell? ⟨w2.heap.size, 2, none⟩ = some (.bool false) ∧ u.cell? ⟨w2.heap.size, 3, none⟩ = some (.slice y.den.A 0 y.den.c) ∧ u.cell? ⟨w2.heap.size + 1, 0, none⟩ = some (.int .i64 1) ∧ u.cell? ⟨w2.heap.size + 1, 1, none⟩ = some (.int .i64 (-1))))
              have G0 : Below V8.heap.size V8 V8.drew := Below.drew (Below.refl _ _)
              have g0s := G0.size
              have G0m : Below (V8.heap.size) V8 V8.drew := G0.mono (by omega)
              go_region_held3 (fun u => u.cell? ⟨w2.heap.size, 0, none⟩ = some (.bool false) ∧ u.cell? ⟨w2.heap.size, 1, none⟩ = some (.slice y.num.A 0 y.num.c) ∧ u.cell? ⟨w2.heap.size, 2, none⟩ = some (.bool false) ∧ u.cell? ⟨w2.heap.size, 3, none⟩ = some (.slice y.den.A 0 y.den.c) ∧ u.cell? ⟨w2.heap.size + 1, 0, none⟩ = some (.int .i64 1) ∧ u.cell? ⟨w2.heap.size + 1, 1, none⟩ = some (.int .i64 (-1))) (first | (refine HS.out _ ?_; (repeat (first | with_reducible exact G0m | with_reducible exact BN.mono (by omega) | with_reducible exact B1.mono (by omega) | with_reducible exact Below.refl _ _ | with_reducible refine Below.drew ?_ | with_reducible refine below_drewN ?_ _ | with_reducible refine Below.setCell ?_ (by first | (simp; done) | (simp; omega) | omega) _)); done) | fail)
                (first
                  | (go_at_call 24; (with_reducible refine (at_any _ _ _).mono ?_); rintro e u1 ⟨rfl, hb1⟩; have B1 : Below V8.heap.size V8 u1 := bnext G0 hb1; have b1s := B1.size)
                  | (go_at_call 17; (with_reducible refine (gives_f1 _ y.num.A y.den.A y.num.c y.den.c (QV.mk false none 0 0 [] none 0 0 []) (-1)).mono ?_); rintro e u2 ⟨rfl, hb2⟩; have BN : Below V8.heap.size V8 u2 := bnext B1 hb2)
                  | fail)
              all_goals (go_wp2_with fail)
              all_goals go_ret
              all_goals exact ⟨rfl, E.trans (BN.mono E.size)⟩
    · clear hTB
      have HS := Lib.hid hS
      clear hS
      go_wp2_with fail
      clear hg
      go_loop [14] (fun v => ∃ k : Nat, k ≤ i ∧ v = .int .i64 ((k : Nat) : Int)) (fun v => i - (intOf v).toNat)
      case atStart => exact ⟨0, by omega, rfl⟩
      case round =>
        obtain ⟨k, hk, rfl⟩ := hrel
        by_cases hkn : k < i
        · have hk2 : k < t.size := by have := HS.out.1; omega
          have hb9 : t[k].toNat ≠ 47 := by rw [bat_eq hk2]; exact HS.out.2.2 k hkn
          go_wp2_with fail
          go_round
          case rel => exact ⟨k + 1, by omega, by go_num⟩
          case measure => simp [intOf]; omega
        · obtain rfl : k = i := by omega
          clear hkn hk
          have hk2 : k < t.size := HS.out.1
          have hb9 : t[k].toNat = 47 := by rw [bat_eq hk2]; exact HS.out.2.1
          have ha4 : (t.extract 0 k).size ≤ 4097 := by simp; omega
          have hb4 : (t.extract (k + 1) t.size).size ≤ 4097 := by simp; omega
          have c3 : (0 : Int) ≤ (k : Int) + 1 := by omega
          have c4 : (k : Int) + 1 ≤ (t.size : Int) := by omega
          have c5 : ((k : Int) + 1).toNat = k + 1 := by omega
          have c6 : IntKind.i64.wrap ((k : Int) + 1) = (k : Int) + 1 := IntWalk.i64_in _ (by omega)
          have c7 : (k : Int) < (t.size : Int) := by omega
          by_cases hTa : TxOk (t.extract 0 k) 10
          · have HTA := Lib.hid hTa
            clear hTa
            by_cases hTb : TxOk (t.extract (k + 1) t.size) 10
            · as_aux_lemma =>
                have HTB := Lib.hid hTb
                clear hTb
                go_wp2_with fail
                (with_reducible refine (itx_ok10 _ (t.extract 0 k) ha4 HTA.out).mono ?_)
                rintro e w6 ⟨A5, k5, c5, x5, v5, rfl, hd5, hr5, hs5, hb6⟩
                have sw6 := hb6.size
                replace E := E.trans (hb6.mono E.size)
                replace Hy1 := Hy1.below hb6 (by omega)
                replace Hy2 := Hy2.below hb6 (by omega)
                replace P7 := P7.below hb6 P7.lt
                replace F8 := F8.below hb6 F8.lt
                clear hb6
                have R5 := Lib.hid hr5
                have S5 := Lib.hid hs5
                clear hr5 hs5
                go_wp2_with fail
                obtain ⟨V7, hV7⟩ : ∃ V7 : World, V7 = (w6.alloc (.cells #[.bool (TxNeg (t.extract 0 k)), .slice A5 k5 c5] 40)) := ⟨_, rfl⟩
                have bV7 : Below w6.heap.size w6 V7 := by rw [hV7]; (repeat (first | with_reducible exact Below.refl _ _ | with_reducible refine Below.drew ?_ | with_reducible refine below_drewN ?_ _ | with_reducible refine Below.setCell ?_ (by first | (simp; done) | (simp; omega) | omega) _ | with_reducible refine Below.alloc ?_ (by first | (simp; done) | (simp; omega) | omega) _))
                have zV7 : w6.heap.size + 1 ≤ V7.heap.size := by rw [hV7]; simp
                have P15 : Bk2 V7 (w6.heap.size) (.bool (TxNeg (t.extract 0 k))) (.slice A5 k5 c5) := by rw [hV7]; exact (Bk2.newAt _ _ (by first | omega | (simp; done) | (simp; omega)) _ _ _)
                rw [← hV7]
                clear hV7
                replace E := E.trans (bV7.mono E.size)
                replace Hy1 := Hy1.below bV7 (by omega)
                replace Hy2 := Hy2.below bV7 (by omega)
                replace P7 := P7.below bV7 P7.lt
                replace F8 := F8.below bV7 F8.lt
                replace hd5 := hd5.below bV7 (by omega)
                clear bV7
                (with_reducible refine (number_any _ 1 (by decide) (by decide)).mono ?_)
                rintro e w7 ⟨m7, A7, k7, c7, x7, v7, rfl, hd7, hr7, hs7, hb7⟩
                have sw7 := hb7.size
                replace E := E.trans (hb7.mono E.size)
                replace Hy1 := Hy1.below hb7 (by omega)
                replace Hy2 := Hy2.below hb7 (by omega)
                replace P7 := P7.below hb7 P7.lt
                replace F8 := F8.below hb7 F8.lt
                replace hd5 := hd5.below hb7 (by omega)
                replace P15 := P15.below hb7 P15.lt
                clear hb7
                have R7 := Lib.hid hr7
                have S7 := Lib.hid hs7
                clear hr7 hs7
                go_wp2_with fail
                obtain ⟨V8, hV8⟩ : ∃ V8 : World, V8 = (w7.alloc (.cells #[.bool m7, .slice A7 k7 c7] 40)) := ⟨_, rfl⟩
                have bV8 : Below w7.heap.size w7 V8 := by rw [hV8]; (repeat (first | with_reducible exact Below.refl _ _ | with_reducible refine Below.drew ?_ | with_reducible refine below_drewN ?_ _ | with_reducible refine Below.setCell ?_ (by first | (simp; done) | (simp; omega) | omega) _ | with_reducible refine Below.alloc ?_ (by first | (simp; done) | (simp; omega) | omega) _))
                have zV8 : w7.heap.size + 1 ≤ V8.heap.size := by rw [hV8]; simp
                have P17 : Bk2 V8 (w7.heap.size) (.bool m7) (.slice A7 k7 c7) := by rw [hV8]; exact (Bk2.newAt _ _ (by first | omega | (simp; done) | (simp; omega)) _ _ _)
                rw [← hV8]
                clear hV8
                replace E := E.trans (bV8.mono E.size)
                replace Hy1 := Hy1.below bV8 (by omega)
                replace Hy2 := Hy2.below bV8 (by omega)
                replace P7 := P7.below bV8 P7.lt
                replace F8 := F8.below bV8 F8.lt
                replace hd5 := hd5.below bV8 (by omega)
                replace P15 := P15.below bV8 P15.lt
                replace hd7 := hd7.below bV8 (by omega)
                clear bV8
                (with_reducible refine (itx_ok10 _ (t.extract (k + 1) t.size) hb4 HTB.out).mono ?_)
                rintro e w8 ⟨A8, k8, c8, x8, v8, rfl, hd8, hr8, hs8, hb8⟩
                have sw8 := hb8.size
                replace E := E.trans (hb8.mono E.size)
                replace Hy1 := Hy1.below hb8 (by omega)
                replace Hy2 := Hy2.below hb8 (by omega)
                replace P7 := P7.below hb8 P7.lt
                replace F8 := F8.below hb8 F8.lt
                replace hd5 := hd5.below hb8 (by omega)
                replace P15 := P15.below hb8 P15.lt
                replace hd7 := hd7.below hb8 (by omega)
                replace P17 := P17.below hb8 P17.lt
                clear hb8
                have R8 := Lib.hid hr8
                have S8 := Lib.hid hs8
                clear hr8 hs8
                clear hd7
                have y_P170 := P17.c0
                have z_P170 := P17.z0
                have y_P171 := P17.c1
                have z_P171 := P17.z1
                have lt_P17 := P17.lt
                go_upto_region 26 with fail
                clear y_P170 z_P170 y_P171 z_P171 lt_P17
                obtain ⟨U9P17, hU9P17⟩ : ∃ U9P17 : World, U9P17 = ((w8.setCell ⟨w7.heap.size, 0, none⟩ (.bool (TxNeg (t.extract (k + 1) t.size)))).setCell ⟨w7.heap.size, 1, none⟩ (.slice A8 k8 c8)) := ⟨_, rfl⟩
                have zU9P17 : U9P17.heap.size = w8.heap.size := by rw [hU9P17]; simp [World.setCell]
                replace E : Below w.heap.size w U9P17 := by rw [hU9P17]; exact ((E.setCell (by first | (simp; done) | (simp; omega)) _).setCell (by first | (simp; done) | (simp; omega)) _)
                replace Hy1 : LRd U9P17 (w2.heap.size) y.num.A y.num.n y.num.c y.num.xs := by rw [hU9P17]; first | exact Hy1.setB P17 (by simp) (by simp) _ _ | exact Hy1.setFarL (by omega) _ _
                replace Hy2 : LRd U9P17 (w2.heap.size) y.den.A y.den.n y.den.c y.den.xs := by rw [hU9P17]; first | exact Hy2.setB P17 (by simp) (by simp) _ _ | exact Hy2.setFarL (by omega) _ _
                replace P7 : Bk4 U9P17 (w2.heap.size) (.bool y.num.neg) (.slice y.num.A y.num.n y.num.c) (.bool y.den.neg) (.slice y.den.A y.den.n y.den.c) := by rw [hU9P17]; exact P7.far2 (by omega) _ _
                replace F8 : Bk2 U9P17 (w2.heap.size + 1) (.int .i64 f8) (.int .i64 g8) := by rw [hU9P17]; exact F8.far2 (by omega) _ _
                replace hd5 : DRd U9P17 (w6.heap.size) A5 k5 c5 x5 := by rw [hU9P17]; first | exact hd5.setFar2 (by omega) _ _ | exact hd5.setBD P17 (by simp) (by simp) _ _
                replace P15 : Bk2 U9P17 (w6.heap.size) (.bool (TxNeg (t.extract 0 k))) (.slice A5 k5 c5) := by rw [hU9P17]; exact P15.far2 (by omega) _ _
                replace hd8 : DRd U9P17 (w8.heap.size) A8 k8 c8 x8 := by rw [hU9P17]; first | exact hd8.setFar2 (by omega) _ _ | exact hd8.setBD P17 (by simp) (by simp) _ _
                replace P17 : Bk2 U9P17 (w7.heap.size) (.bool (TxNeg (t.extract (k + 1) t.size))) (.slice A8 k8 c8) := by rw [hU9P17]; exact P17.set _ _
                rw [← hU9P17]
                clear hU9P17
                have zU9P17' := Nat.le_of_eq zU9P17
                replace zU9P17 := Nat.le_of_eq zU9P17.symm
                obtain ⟨okk, hokk⟩ : ∃ o : Bool, o = decide (1 < TxVal (t.extract (k + 1) t.size) 10) := ⟨_, rfl⟩
                have OK := Lib.hid hokk
                clear hokk
                go_cut [16] (fun s wx => s = .bool okk ∧ Below U9P17.heap.size U9P17 wx)
                case first =>
                  as_aux_lemma =>
                    have lt_P17 := P17.lt
                    have HS := Lib.hid (fun (u : World) (hu : Below (U9P17.heap.size) U9P17 u) => (⟨(hu.cell (p := ⟨w7.heap.size, 0, none⟩) (by show w7.heap.size < _; omega)).trans P17.c0, (hu.cell (p := ⟨w7.heap.size, 1, none⟩) (by show w7.heap.size < _; omega)).trans P17.c1⟩ : u.cell? ⟨w7.heap.size, 0, none⟩ = some (.bool (TxNeg (t.extract (k + 1) t.size))) ∧ u.cell? ⟨w7.heap.size, 1, none⟩ = some (.slice A8 k8 c8)))
                    have G0 : Below U9P17.heap.size U9P17 U9P17.drew := Below.drew (Below.refl _ _)
                    have g0s := G0.size
                    have G0m : Below (U9P17.heap.size) U9P17 U9P17.drew := G0.mono (by omega)
                    go_region_held3 (fun u => u.cell? ⟨w7.heap.size, 0, none⟩ = some (.bool (TxNeg (t.extract (k + 1) t.size))) ∧ u.cell? ⟨w7.heap.size, 1, none⟩ = some (.slice A8 k8 c8)) (first | (refine HS.out _ ?_; (repeat (first | with_reducible exact G0m | with_reducible exact BN.mono (by omega) | with_reducible exact B1.mono (by omega) | with_reducible exact Below.refl _ _ | with_reducible refine Below.drew ?_ | with_reducible refine below_drewN ?_ _ | with_reducible refine Below.setCell ?_ (by first | (simp; done) | (simp; omega) | omega) _)); done) | fail)
                      (first
                        | (go_at_call 39; (with_reducible refine (number_any _ 1 (by decide) (by decide)).mono ?_); rintro e u1 ⟨m9, A9, k9, c9, x9, v9, rfl, hd9, hr9, hs9, hb9⟩; have B1 : Below U9P17.heap.size U9P17 u1 := bnext G0 hb9; have b1s := B1.size; have R9 := Lib.hid hr9; have S9 := Lib.hid hs9; clear hr9 hs9)
                        | (go_at_call 48; (with_reducible refine (rorder_any _ u1.heap.size (TxNeg (t.extract (k + 1) t.size)) m9 A8 A9 k8 k9 c8 c9 v8 v9 x8 x9 (DRd.below hd8 B1 (by omega) |>.more (by omega)) hd9 (Nat.le_refl _) R8.out R9.out).mono ?_); rintro e u2 ⟨r9, hic, rfl, hb10⟩; have BN : Below U9P17.heap.size U9P17 u2 := bnext B1 hb10; have RZ := Lib.hid (ord_one hic S8.out S9.out OK.out); clear hic)
                        | fail)
                    all_goals (go_wp2_with fail)
                    all_goals go_meet
                    all_goals exact ⟨by rw [← RZ.out], BN⟩
                case rest =>
                obtain ⟨rfl, hbX⟩ := hcut
                replace E := E.trans (hbX.mono E.size)
                replace Hy1 := Hy1.below hbX (by omega)
                replace Hy2 := Hy2.below hbX (by omega)
                replace P7 := P7.below hbX P7.lt
                replace F8 := F8.below hbX F8.lt
                replace hd5 := hd5.below hbX (by omega)
                replace P15 := P15.below hbX P15.lt
                replace P17 := P17.below hbX P17.lt
                replace hd8 := hd8.below hbX (by omega)
                have sXb := hbX.size
                clear hbX
                obtain ⟨Vb, hVb⟩ : ∃ y : World, y = wc := ⟨_, rfl⟩
                subst hVb
                cases okk
                · have hq : q1 = 1 ∨ q2 = 1 := by
                    have h9 := of_decide_eq_false OK.out.symm
                    rcases DI.out with ⟨_, h⟩ | ⟨h, _⟩
                    · rcases h with ⟨_, _, h, _⟩ | ⟨h, _⟩ | ⟨h, _⟩
                      · exact .inr h
                      · exact absurd h.2.2 h9
                      · exact absurd h.2.2 h9
                    · cases h
                  obtain ⟨rfl, rfl, hzr⟩ : f8 = 1 ∧ g8 = -1 ∧ Zr y := by
                    rcases PC.out with ⟨_, h⟩ | ⟨h, _⟩ | ⟨rfl, rfl, _⟩ | ⟨rfl, rfl, _⟩
                    · exact h
                    · exact absurd hq h
                    · omega
                    · omega
                  clear hq
                  obtain ⟨n1, n2, n3, n4⟩ := hzr.form (rv_at Hy1 Hy2)
                  rw [n1, n2, n3, n4] at P7
                  clear n1 n2 n3 n4 hzr
                  go_upto_region 28 with fail
                  have lt_P7 := P7.lt
                  have lt_F8 := F8.lt
                  have HS := Lib.hid (fun (u : World) (hu : Below (Vb.heap.size) Vb u) => (⟨(hu.cell (p := ⟨w2.heap.size, 0, none⟩) (by show w2.heap.size < _; omega)).trans P7.c0, (hu.cell (p := ⟨w2.heap.size, 1, none⟩) (by show w2.heap.size < _; omega)).trans P7.c1, (hu.cell (p := ⟨w2.heap.size, 2, none⟩) (by show w2.heap.size < _; omega)).trans P7.c2, (hu.cell (p := ⟨w2.heap.size, 3, none⟩) (by show w2.heap.size < _; omega)).trans P7.c3, (hu.cell (p := ⟨w2.heap.size + 1, 0, none⟩) (by show w2.heap.size + 1 < _; omega)).trans F8.c0, (hu.cell (p := ⟨w2.heap.size + 1, 1, none⟩) (by show w2.heap.size + 1 < _; omega)).trans F8.c1⟩ : u.cell? ⟨w2.heap.size, 0, none⟩ = some (.bool false) ∧ u.cell? ⟨w2.heap.size, 1, none⟩ = some (.slice y.num.A 0 y.num.c) ∧ u.cell? ⟨w2.heap.size, 2, none⟩ = some (.bool false) ∧ u.cell? ⟨w2.heap.size, 3, none⟩ = some (.slice y.den.A 0 y.den.c) ∧ u.cell? ⟨w2.heap.size + 1, 0, none⟩ = some (.int .i64 1) ∧ u.cell? ⟨w2.heap.size + 1, 1, none⟩ = some (.int .i64 (-1))))
                  have G0 : Below Vb.heap.size Vb Vb.drew := Below.drew (Below.refl _ _)
                  have g0s := G0.size
                  have G0m : Below (Vb.heap.size) Vb Vb.drew := G0.mono (by omega)
                  go_region_held3 (fun u => u.cell? ⟨w2.heap.size, 0, none⟩ = some (.bool false) ∧ u.cell? ⟨w2.heap.size, 1, none⟩ = some (.slice y.num.A 0 y.num.c) ∧ u.cell? ⟨w2.heap.size, 2, none⟩ = some (.bool false) ∧ u.cell? ⟨w2.heap.size, 3, none⟩ = some (.slice y.den.A 0 y.den.c) ∧ u.cell? ⟨w2.heap.size + 1, 0, none⟩ = some (.int .i64 1) ∧ u.cell? ⟨w2.heap.size + 1, 1, none⟩ = some (.int .i64 (-1))) (first | (refine HS.out _ ?_; (repeat (first | with_reducible exact G0m | with_reducible exact BN.mono (by omega) | with_reducible exact B1.mono (by omega) | with_reducible exact Below.refl _ _ | with_reducible refine Below.drew ?_ | with_reducible refine below_drewN ?_ _ | with_reducible refine Below.setCell ?_ (by first | (simp; done) | (simp; omega) | omega) _)); done) | fail)
                    (first
                      | (go_at_call 24; (with_reducible refine (at_any _ _ _).mono ?_); rintro e u1 ⟨rfl, hb1⟩; have B1 : Below Vb.heap.size Vb u1 := bnext G0 hb1; have b1s := B1.size)
                      | (go_at_call 17; (with_reducible refine (gives_f1 _ y.num.A y.den.A y.num.c y.den.c (QV.mk false none 0 0 [] none 0 0 []) (-1)).mono ?_); rintro e u2 ⟨rfl, hb2⟩; have BN : Below Vb.heap.size Vb u2 := bnext B1 hb2)
                      | fail)
                  all_goals (go_wp2_with fail)
                  all_goals go_ret
                  all_goals exact ⟨rfl, E.trans (BN.mono E.size)⟩
                · have hk5 := hd5.cap
                  have hkd := hd8.cap
                  have YD : DOk (t.extract (k + 1) t.size) := ⟨HTB.out, by
                    cases hh : TxNeg (t.extract (k + 1) t.size)
                    · rfl
                    · have h1 := txv_neg hh
                      have h2 := of_decide_eq_true OK.out.symm
                      omega, of_decide_eq_true OK.out.symm⟩
                  have YD' := Lib.hid YD
                  clear YD
                  have N9 := Lib.hid (show (Top128 ≤ (TxVal (t.extract 0 k) 10).natAbs ∧ q1 = 14) ∨ ((TxVal (t.extract 0 k) 10).natAbs < Top128 ∧ z1 = TxVal (t.extract 0 k) 10 ∧ q1 = 0) by
                    rcases NI.out with ⟨h, _⟩ | ⟨_, h, _, h2, _⟩ | ⟨_, h, h2, h3, _⟩
                    · exact absurd HTA.out h
                    · exact .inl ⟨h, h2⟩
                    · exact .inr ⟨h, h2, h3⟩)
                  have D9 := Lib.hid (show (Top128 ≤ (TxVal (t.extract (k + 1) t.size) 10).natAbs ∧ q2 = 14) ∨ ((TxVal (t.extract (k + 1) t.size) 10).natAbs < Top128 ∧ z2 = (TxVal (t.extract (k + 1) t.size) 10) ∧ q2 = 0) by
                    rcases DI.out with ⟨_, h⟩ | ⟨h, _⟩
                    · rcases h with ⟨h, _⟩ | ⟨_, h, _, h2, _⟩ | ⟨_, h, h2, h3, _⟩
                      · exact absurd YD'.out h
                      · exact .inl ⟨h, h2⟩
                      · exact .inr ⟨h, h2, h3⟩
                    · cases h)
                  have t_P150 := P15.c0
                  have t_P151 := P15.c1
                  go_wp2_with fail
                  clear t_P150 t_P151
                  (with_reducible refine (fits_any _ (TxNeg (t.extract 0 k)) A5 k5 c5 (by omega)).mono ?_)
                  rintro e w20 ⟨rfl, hb20⟩
                  have sw20 := hb20.size
                  replace E := E.trans (hb20.mono E.size)
                  replace Hy1 := Hy1.below hb20 (by omega)
                  replace Hy2 := Hy2.below hb20 (by omega)
                  replace P7 := P7.below hb20 P7.lt
                  replace F8 := F8.below hb20 F8.lt
                  replace hd5 := hd5.below hb20 (by omega)
                  replace P15 := P15.below hb20 P15.lt
                  replace P17 := P17.below hb20 P17.lt
                  replace hd8 := hd8.below hb20 (by omega)
                  clear hb20
                  by_cases hbig : Top128 ≤ (TxVal (t.extract 0 k) 10).natAbs
                  · rw [decide_eq_false (show ¬ k5 ≤ 256 by have h1 := repD_big R5.out (by rw [← sval_abs (TxNeg (t.extract 0 k)) v5, S5.out]; exact hbig) hd5.len.out; omega)]
                    have hq1 : ¬ (q1 = 1 ∨ q2 = 1) ∧ q1 ≠ 0 := by have := N9.out; have := D9.out; omega
                    obtain ⟨hq1, hq0⟩ := hq1
                    clear hbig
                    obtain ⟨rfl, rfl, hzr⟩ : f8 = 14 ∧ g8 = -1 ∧ Zr y := by
                      rcases PC.out with ⟨h, _⟩ | ⟨_, _, h⟩ | ⟨h1, h2, _⟩ | ⟨h1, h2, _⟩
                      · exact absurd h hq1
                      · exact h
                      · exact absurd h1 hq0
                      · exact absurd h1 hq0
                    clear hq1 hq0
                    obtain ⟨n1, n2, n3, n4⟩ := hzr.form (rv_at Hy1 Hy2)
                    rw [n1, n2, n3, n4] at P7
                    clear n1 n2 n3 n4 hzr
                    go_upto_region 30 with fail
                    have lt_P7 := P7.lt
                    have lt_F8 := F8.lt
                    have HS := Lib.hid (fun (u : World) (hu : Below (w20.heap.size) w20 u) => (⟨(hu.cell (p := ⟨w2.heap.size, 0, none⟩) (by show w2.heap.size < _; omega)).trans P7.c0, (hu.cell (p := ⟨w2.heap.size, 1, none⟩) (by show w2.heap.size < _; omega)).trans P7.c1, (hu.cell (p := ⟨w2.heap.size, 2, none⟩) (by show w2.heap.size < _; omega)).trans P7.c2, (hu.cell (p := ⟨w2.heap.size, 3, none⟩) (by show w2.heap.size < _; omega)).trans P7.c3, (hu.cell (p := ⟨w2.heap.size + 1, 0, none⟩) (by show w2.heap.size + 1 < _; omega)).trans F8.c0, (hu.cell (p := ⟨w2.heap.size + 1, 1, none⟩) (by show w2.heap.size + 1 < _; omega)).trans F8.c1⟩ : u.cell? ⟨w2.heap.size, 0, none⟩ = some (.bool false) ∧ u.cell? ⟨w2.heap.size, 1, none⟩ = some (.slice y.num.A 0 y.num.c) ∧ u.cell? ⟨w2.heap.size, 2, none⟩ = some (.bool false) ∧ u.cell? ⟨w2.heap.size, 3, none⟩ = some (.slice y.den.A 0 y.den.c) ∧ u.cell? ⟨w2.heap.size + 1, 0, none⟩ = some (.int .i64 14) ∧ u.cell? ⟨w2.heap.size + 1, 1, none⟩ = some (.int .i64 (-1))))
                    have G0 : Below w20.heap.size w20 w20.drew := Below.drew (Below.refl _ _)
                    have g0s := G0.size
                    have G0m : Below (w20.heap.size) w20 w20.drew := G0.mono (by omega)
                    go_region_held3 (fun u => u.cell? ⟨w2.heap.size, 0, none⟩ = some (.bool false) ∧ u.cell? ⟨w2.heap.size, 1, none⟩ = some (.slice y.num.A 0 y.num.c) ∧ u.cell? ⟨w2.heap.size, 2, none⟩ = some (.bool false) ∧ u.cell? ⟨w2.heap.size, 3, none⟩ = some (.slice y.den.A 0 y.den.c) ∧ u.cell? ⟨w2.heap.size + 1, 0, none⟩ = some (.int .i64 14) ∧ u.cell? ⟨w2.heap.size + 1, 1, none⟩ = some (.int .i64 (-1))) (first | (refine HS.out _ ?_; (repeat (first | with_reducible exact G0m | with_reducible exact BN.mono (by omega) | with_reducible exact B1.mono (by omega) | with_reducible exact Below.refl _ _ | with_reducible refine Below.drew ?_ | with_reducible refine below_drewN ?_ _ | with_reducible refine Below.setCell ?_ (by first | (simp; done) | (simp; omega) | omega) _)); done) | fail)
                      (first
                        | (go_at_call 24; (with_reducible refine (at_any _ _ _).mono ?_); rintro e u1 ⟨rfl, hb1⟩; have B1 : Below w20.heap.size w20 u1 := bnext G0 hb1; have b1s := B1.size)
                        | (go_at_call 17; (with_reducible refine (gives_f14 _ y.num.A y.den.A y.num.c y.den.c (QV.mk false none 0 0 [] none 0 0 []) (-1)).mono ?_); rintro e u2 ⟨rfl, hb2⟩; have BN : Below w20.heap.size w20 u2 := bnext B1 hb2)
                        | fail)
                    all_goals (go_wp2_with fail)
                    all_goals go_ret
                    all_goals exact ⟨rfl, E.trans (BN.mono E.size)⟩
                  · have k256 : k5 ≤ 256 := repD_len128 R5.out (by rw [← sval_abs (TxNeg (t.extract 0 k)) v5, S5.out]; omega) hd5.len.out
                    rw [decide_eq_true k256]
                    have NB := Lib.hid (show (TxVal (t.extract 0 k) 10).natAbs < Top128 by omega)
                    clear hbig
                    have t_P170 := P17.c0
                    have t_P171 := P17.c1
                    go_wp2_with fail
                    clear t_P170 t_P171
                    (with_reducible refine (fits_any _ (TxNeg (t.extract (k + 1) t.size)) A8 k8 c8 (by omega)).mono ?_)
                    rintro e w21 ⟨rfl, hb21⟩
                    have sw21 := hb21.size
                    replace E := E.trans (hb21.mono E.size)
                    replace Hy1 := Hy1.below hb21 (by omega)
                    replace Hy2 := Hy2.below hb21 (by omega)
                    replace P7 := P7.below hb21 P7.lt
                    replace F8 := F8.below hb21 F8.lt
                    replace hd5 := hd5.below hb21 (by omega)
                    replace P15 := P15.below hb21 P15.lt
                    replace P17 := P17.below hb21 P17.lt
                    replace hd8 := hd8.below hb21 (by omega)
                    clear hb21
                    by_cases hbig2 : Top128 ≤ (TxVal (t.extract (k + 1) t.size) 10).natAbs
                    · rw [decide_eq_false (show ¬ k8 ≤ 256 by have h1 := repD_big R8.out (by rw [← sval_abs (TxNeg (t.extract (k + 1) t.size)) v8, S8.out]; exact hbig2) hd8.len.out; omega)]
                      have hq1 : ¬ (q1 = 1 ∨ q2 = 1) ∧ q2 ≠ 0 := by have := N9.out; have := D9.out; omega
                      obtain ⟨hq1, hq0⟩ := hq1
                      clear hbig2
                      obtain ⟨rfl, rfl, hzr⟩ : f8 = 14 ∧ g8 = -1 ∧ Zr y := by
                        rcases PC.out with ⟨h, _⟩ | ⟨_, _, h⟩ | ⟨h1, h2, _⟩ | ⟨h1, h2, _⟩
                        · exact absurd h hq1
                        · exact h
                        · exact absurd h2 hq0
                        · exact absurd h2 hq0
                      clear hq1 hq0
                      obtain ⟨n1, n2, n3, n4⟩ := hzr.form (rv_at Hy1 Hy2)
                      rw [n1, n2, n3, n4] at P7
                      clear n1 n2 n3 n4 hzr
                      go_upto_region 30 with fail
                      have lt_P7 := P7.lt
                      have lt_F8 := F8.lt
                      have HS := Lib.hid (fun (u : World) (hu : Below (w21.heap.size) w21 u) => (⟨(hu.cell (p := ⟨w2.heap.size, 0, none⟩) (by show w2.heap.size < _; omega)).trans P7.c0, (hu.cell (p := ⟨w2.heap.size, 1, none⟩) (by show w2.heap.size < _; omega)).trans P7.c1, (hu.cell (p := ⟨w2.heap.size, 2, none⟩) (by show w2.heap.size < _; omega)).trans P7.c2, (hu.cell (p := ⟨w2.heap.size, 3, none⟩) (by show w2.heap.size < _; omega)).trans P7.c3, (hu.cell (p := ⟨w2.heap.size + 1, 0, none⟩) (by show w2.heap.size + 1 < _; omega)).trans F8.c0, (hu.cell (p := ⟨w2.heap.size + 1, 1, none⟩) (by show w2.heap.size + 1 < _; omega)).trans F8.c1⟩ : u.cell? ⟨w2.heap.size, 0, none⟩ = some (.bool false) ∧ u.cell? ⟨w2.heap.size, 1, none⟩ = some (.slice y.num.A 0 y.num.c) ∧ u.cell? ⟨w2.heap.size, 2, none⟩ = some (.bool false) ∧ u.cell? ⟨w2.heap.size, 3, none⟩ = some (.slice y.den.A 0 y.den.c) ∧ u.cell? ⟨w2.heap.size + 1, 0, none⟩ = some (.int .i64 14) ∧ u.cell? ⟨w2.heap.size + 1, 1, none⟩ = some (.int .i64 (-1))))
                      have G0 : Below w21.heap.size w21 w21.drew := Below.drew (Below.refl _ _)
                      have g0s := G0.size
                      have G0m : Below (w21.heap.size) w21 w21.drew := G0.mono (by omega)
                      go_region_held3 (fun u => u.cell? ⟨w2.heap.size, 0, none⟩ = some (.bool false) ∧ u.cell? ⟨w2.heap.size, 1, none⟩ = some (.slice y.num.A 0 y.num.c) ∧ u.cell? ⟨w2.heap.size, 2, none⟩ = some (.bool false) ∧ u.cell? ⟨w2.heap.size, 3, none⟩ = some (.slice y.den.A 0 y.den.c) ∧ u.cell? ⟨w2.heap.size + 1, 0, none⟩ = some (.int .i64 14) ∧ u.cell? ⟨w2.heap.size + 1, 1, none⟩ = some (.int .i64 (-1))) (first | (refine HS.out _ ?_; (repeat (first | with_reducible exact G0m | with_reducible exact BN.mono (by omega) | with_reducible exact B1.mono (by omega) | with_reducible exact Below.refl _ _ | with_reducible refine Below.drew ?_ | with_reducible refine below_drewN ?_ _ | with_reducible refine Below.setCell ?_ (by first | (simp; done) | (simp; omega) | omega) _)); done) | fail)
                        (first
                          | (go_at_call 24; (with_reducible refine (at_any _ _ _).mono ?_); rintro e u1 ⟨rfl, hb1⟩; have B1 : Below w21.heap.size w21 u1 := bnext G0 hb1; have b1s := B1.size)
                          | (go_at_call 17; (with_reducible refine (gives_f14 _ y.num.A y.den.A y.num.c y.den.c (QV.mk false none 0 0 [] none 0 0 []) (-1)).mono ?_); rintro e u2 ⟨rfl, hb2⟩; have BN : Below w21.heap.size w21 u2 := bnext B1 hb2)
                          | fail)
                      all_goals (go_wp2_with fail)
                      all_goals go_ret
                      all_goals exact ⟨rfl, E.trans (BN.mono E.size)⟩
                    · have DB := Lib.hid (show (TxVal (t.extract (k + 1) t.size) 10).natAbs < Top128 by omega)
                      clear hbig2
                      have QQ := Lib.hid (show q1 = 0 ∧ q2 = 0 ∧ z1 = TxVal (t.extract 0 k) 10 ∧ z2 = (TxVal (t.extract (k + 1) t.size) 10) by have := N9.out; have := D9.out; have := NB.out; have := DB.out; omega)
                      have DP := Lib.hid (show 0 < (TxVal (t.extract (k + 1) t.size) 10) by have := YD'.out.2.2; omega)
                      have kk6 : k8 ≤ 256 := repD_len128 R8.out (by rw [← sval_abs (TxNeg (t.extract (k + 1) t.size)) v8, S8.out]; exact DB.out) hd8.len.out
                      rw [decide_eq_true kk6]
                      have VAb := Lib.hid (show v5 = (TxVal (t.extract 0 k) 10).natAbs by rw [← sval_abs (TxNeg (t.extract 0 k)) v5, S5.out])
                      have VBb := Lib.hid (show v8 = (TxVal (t.extract (k + 1) t.size) 10).natAbs by rw [← sval_abs (TxNeg (t.extract (k + 1) t.size)) v8, S8.out])
                      have t_P150 := P15.c0
                      have t_P151 := P15.c1
                      have t_P170 := P17.c0
                      have t_P171 := P17.c1
                      go_wp2_with fail
                      clear t_P150 t_P151 t_P170 t_P171
                      (with_reducible refine (common_any _ w21.heap.size A5 A8 k5 k8 c5 c8 256 v5 v8 x5 x8 (hd5.more (by omega)) (hd8.more (by omega)) (Nat.le_refl _) k256 kk6 (by omega) R5.out R8.out).mono ?_)
                      rintro e w22 ⟨A22, k22, c22, x22, rfl, hd22, hr22, hb22⟩
                      have sw22 := hb22.size
                      replace E := E.trans (hb22.mono E.size)
                      replace Hy1 := Hy1.below hb22 (by omega)
                      replace Hy2 := Hy2.below hb22 (by omega)
                      replace P7 := P7.below hb22 P7.lt
                      replace F8 := F8.below hb22 F8.lt
                      replace hd5 := hd5.below hb22 (by omega)
                      replace P15 := P15.below hb22 P15.lt
                      replace P17 := P17.below hb22 P17.lt
                      replace hd8 := hd8.below hb22 (by omega)
                      clear hb22
                      have R22 := Lib.hid hr22
                      clear hr22
                      go_wp2_with fail
                      (with_reducible refine (small_1 _).mono ?_)
                      rintro e w23 ⟨A23, k23, c23, x23, rfl, hd23, hr23, hb23⟩
                      have sw23 := hb23.size
                      replace E := E.trans (hb23.mono E.size)
                      replace Hy1 := Hy1.below hb23 (by omega)
                      replace Hy2 := Hy2.below hb23 (by omega)
                      replace P7 := P7.below hb23 P7.lt
                      replace F8 := F8.below hb23 F8.lt
                      replace hd5 := hd5.below hb23 (by omega)
                      replace P15 := P15.below hb23 P15.lt
                      replace P17 := P17.below hb23 P17.lt
                      replace hd8 := hd8.below hb23 (by omega)
                      replace hd22 := hd22.below hb23 (by omega)
                      clear hb23
                      have R23 := Lib.hid hr23
                      clear hr23
                      go_wp2_with fail
                      (with_reducible refine (cmpD_v _ w23.heap.size A22 A23 k22 k23 c22 c23 (Nat.gcd v5 v8) 1 x22 x23 (hd22.more (by omega)) (hd23.more (by omega)) R22.out R23.out).mono ?_)
                      rintro e w24 ⟨rr, hcv, rfl, hb24⟩
                      have sw24 := hb24.size
                      replace E := E.trans (hb24.mono E.size)
                      replace Hy1 := Hy1.below hb24 (by omega)
                      replace Hy2 := Hy2.below hb24 (by omega)
                      replace P7 := P7.below hb24 P7.lt
                      replace F8 := F8.below hb24 F8.lt
                      replace hd5 := hd5.below hb24 (by omega)
                      replace P15 := P15.below hb24 P15.lt
                      replace P17 := P17.below hb24 P17.lt
                      replace hd8 := hd8.below hb24 (by omega)
                      replace hd22 := hd22.below hb24 (by omega)
                      replace hd23 := hd23.below hb24 (by omega)
                      clear hb24
                      by_cases hg : Nat.gcd v5 v8 = 1
                      · obtain rfl : rr = 0 := by unfold CmpV at hcv; omega
                        clear hcv
                        have HG := Lib.hid hg
                        clear hg
                        obtain ⟨rfl, rfl, j1, j2⟩ : f8 = 0 ∧ g8 = 0 ∧ IRep y.num.neg y.num.xs (TxVal (t.extract 0 k) 10) ∧ IRep y.den.neg y.den.xs (TxVal (t.extract (k + 1) t.size) 10) := by
                          rcases PC.out with ⟨h, _⟩ | ⟨_, h, _⟩ | ⟨_, _, h, _⟩ | ⟨_, _, _, h1, h2, h3, h4⟩
                          · exact absurd h (by have := QQ.out; omega)
                          · exact absurd h (by have := QQ.out; omega)
                          · exact absurd (by rw [QQ.out.2.2.1, QQ.out.2.2.2, ← VAb.out, ← VBb.out]; exact HG.out) h
                          · rw [QQ.out.2.2.1] at h3
                            rw [QQ.out.2.2.2] at h4
                            exact ⟨h1, h2, h3, h4⟩
                        have J1 := Lib.hid j1
                        have J2 := Lib.hid j2
                        clear j1 j2
                        have t_P70 := P7.c0
                        have t_P71 := P7.c1
                        have t_P72 := P7.c2
                        have t_P73 := P7.c3
                        have t_F80 := F8.c0
                        have t_F81 := F8.c1
                        have t_P150 := P15.c0
                        have t_P151 := P15.c1
                        have t_P170 := P17.c0
                        have t_P171 := P17.c1
                        go_wp2_with fail
                        clear t_P70 t_P71 t_P72 t_P73 t_F80 t_F81 t_P150 t_P151 t_P170 t_P171
                        (with_reducible refine (gives_ok _ w24.heap.size y (QV.mk (TxNeg (t.extract 0 k)) A5 k5 c5 x5 A8 k8 c8 x8) v5 v8 (TxVal (t.extract 0 k) 10) (TxVal (t.extract (k + 1) t.size) 10) (rv_at (Hy1.more (by omega)) (Hy2.more (by omega))) (qv_at (q := QV.mk (TxNeg (t.extract 0 k)) A5 k5 c5 x5 A8 k8 c8 x8) (hd5.more (by omega)) (hd8.more (by omega))) (Nat.le_refl _) J1 J2 R5 R8 S5 (Lib.hid (by rw [sval_f, VBb.out]; have := DP.out; omega)) k256 kk6).mono ?_)
                        rintro e w25 ⟨rfl, hb25⟩
                        have sw25 := hb25.size
                        replace E := E.trans (hb25.mono E.size)
                        replace Hy1 := Hy1.below hb25 (by omega)
                        replace Hy2 := Hy2.below hb25 (by omega)
                        replace P7 := P7.below hb25 P7.lt
                        replace F8 := F8.below hb25 F8.lt
                        replace hd5 := hd5.below hb25 (by omega)
                        replace P15 := P15.below hb25 P15.lt
                        replace P17 := P17.below hb25 P17.lt
                        replace hd8 := hd8.below hb25 (by omega)
                        replace hd22 := hd22.below hb25 (by omega)
                        replace hd23 := hd23.below hb25 (by omega)
                        clear hb25
                        go_wp2_with fail
                        go_ret
                        exact ⟨rfl, E⟩
                      · have hrr : (rr != 0) = true := by unfold CmpV at hcv; rcases hcv with ⟨rfl, _⟩ | ⟨_, h⟩ | ⟨rfl, _⟩; rfl; exact absurd h hg; rfl
                        clear hcv
                        have HG := Lib.hid hg
                        clear hg
                        obtain ⟨rfl, rfl, hzr⟩ : f8 = 6 ∧ g8 = -1 ∧ Zr y := by
                          rcases PC.out with ⟨h, _⟩ | ⟨_, h, _⟩ | ⟨_, _, _, h⟩ | ⟨_, _, h, _⟩
                          · exact absurd h (by have := QQ.out; omega)
                          · exact absurd h (by have := QQ.out; omega)
                          · exact h
                          · exact absurd (by rw [QQ.out.2.2.1, QQ.out.2.2.2, ← VAb.out, ← VBb.out] at h; exact h) HG.out
                        obtain ⟨n1, n2, n3, n4⟩ := hzr.form (rv_at Hy1 Hy2)
                        rw [n1, n2, n3, n4] at P7
                        clear n1 n2 n3 n4 hzr
                        go_upto_region 32 with fail
                        have lt_P7 := P7.lt
                        have lt_F8 := F8.lt
                        have HS := Lib.hid (fun (u : World) (hu : Below (w24.heap.size) w24 u) => (⟨(hu.cell (p := ⟨w2.heap.size, 0, none⟩) (by show w2.heap.size < _; omega)).trans P7.c0, (hu.cell (p := ⟨w2.heap.size, 1, none⟩) (by show w2.heap.size < _; omega)).trans P7.c1, (hu.cell (p := ⟨w2.heap.size, 2, none⟩) (by show w2.heap.size < _; omega)).trans P7.c2, (hu.cell (p := ⟨w2.heap.size, 3, none⟩) (by show w2.heap.size < _; omega)).trans P7.c3, (hu.cell (p := ⟨w2.heap.size + 1, 0, none⟩) (by show w2.heap.size + 1 < _; omega)).trans F8.c0, (hu.cell (p := ⟨w2.heap.size + 1, 1, none⟩) (by show w2.heap.size + 1 < _; omega)).trans F8.c1⟩ : u.cell? ⟨w2.heap.size, 0, none⟩ = some (.bool false) ∧ u.cell? ⟨w2.heap.size, 1, none⟩ = some (.slice y.num.A 0 y.num.c) ∧ u.cell? ⟨w2.heap.size, 2, none⟩ = some (.bool false) ∧ u.cell? ⟨w2.heap.size, 3, none⟩ = some (.slice y.den.A 0 y.den.c) ∧ u.cell? ⟨w2.heap.size + 1, 0, none⟩ = some (.int .i64 6) ∧ u.cell? ⟨w2.heap.size + 1, 1, none⟩ = some (.int .i64 (-1))))
                        have G0 : Below w24.heap.size w24 w24.drew := Below.drew (Below.refl _ _)
                        have g0s := G0.size
                        have G0m : Below (w24.heap.size) w24 w24.drew := G0.mono (by omega)
                        go_region_held3 (fun u => u.cell? ⟨w2.heap.size, 0, none⟩ = some (.bool false) ∧ u.cell? ⟨w2.heap.size, 1, none⟩ = some (.slice y.num.A 0 y.num.c) ∧ u.cell? ⟨w2.heap.size, 2, none⟩ = some (.bool false) ∧ u.cell? ⟨w2.heap.size, 3, none⟩ = some (.slice y.den.A 0 y.den.c) ∧ u.cell? ⟨w2.heap.size + 1, 0, none⟩ = some (.int .i64 6) ∧ u.cell? ⟨w2.heap.size + 1, 1, none⟩ = some (.int .i64 (-1))) (first | (refine HS.out _ ?_; (repeat (first | with_reducible exact G0m | with_reducible exact BN.mono (by omega) | with_reducible exact B1.mono (by omega) | with_reducible exact Below.refl _ _ | with_reducible refine Below.drew ?_ | with_reducible refine below_drewN ?_ _ | with_reducible refine Below.setCell ?_ (by first | (simp; done) | (simp; omega) | omega) _)); done) | fail)
                          (first
                            | (go_at_call 24; (with_reducible refine (at_any _ _ _).mono ?_); rintro e u1 ⟨rfl, hb1⟩; have B1 : Below w24.heap.size w24 u1 := bnext G0 hb1; have b1s := B1.size)
                            | (go_at_call 17; (with_reducible refine (gives_f6 _ y.num.A y.den.A y.num.c y.den.c (QV.mk false none 0 0 [] none 0 0 []) (-1)).mono ?_); rintro e u2 ⟨rfl, hb2⟩; have BN : Below w24.heap.size w24 u2 := bnext B1 hb2)
                            | fail)
                        all_goals (go_wp2_with fail)
                        all_goals go_ret
                        all_goals exact ⟨rfl, E.trans (BN.mono E.size)⟩
            · as_aux_lemma =>
                have HTB := Lib.hid hTb
                clear hTb
                go_wp2_with fail
                (with_reducible refine (itx_ok10 _ (t.extract 0 k) ha4 HTA.out).mono ?_)
                rintro e w6 ⟨A5, k5, c5, x5, v5, rfl, hd5, hr5, hs5, hb6⟩
                have sw6 := hb6.size
                replace E := E.trans (hb6.mono E.size)
                replace Hy1 := Hy1.below hb6 (by omega)
                replace Hy2 := Hy2.below hb6 (by omega)
                replace P7 := P7.below hb6 P7.lt
                replace F8 := F8.below hb6 F8.lt
                clear hb6
                have R5 := Lib.hid hr5
                have S5 := Lib.hid hs5
                clear hr5 hs5
                go_wp2_with fail
                obtain ⟨V7, hV7⟩ : ∃ V7 : World, V7 = (w6.alloc (.cells #[.bool (TxNeg (t.extract 0 k)), .slice A5 k5 c5] 40)) := ⟨_, rfl⟩
                have bV7 : Below w6.heap.size w6 V7 := by rw [hV7]; (repeat (first | with_reducible exact Below.refl _ _ | with_reducible refine Below.drew ?_ | with_reducible refine below_drewN ?_ _ | with_reducible refine Below.setCell ?_ (by first | (simp; done) | (simp; omega) | omega) _ | with_reducible refine Below.alloc ?_ (by first | (simp; done) | (simp; omega) | omega) _))
                have zV7 : w6.heap.size + 1 ≤ V7.heap.size := by rw [hV7]; simp
                have P15 : Bk2 V7 (w6.heap.size) (.bool (TxNeg (t.extract 0 k))) (.slice A5 k5 c5) := by rw [hV7]; exact (Bk2.newAt _ _ (by first | omega | (simp; done) | (simp; omega)) _ _ _)
                rw [← hV7]
                clear hV7
                replace E := E.trans (bV7.mono E.size)
                replace Hy1 := Hy1.below bV7 (by omega)
                replace Hy2 := Hy2.below bV7 (by omega)
                replace P7 := P7.below bV7 P7.lt
                replace F8 := F8.below bV7 F8.lt
                replace hd5 := hd5.below bV7 (by omega)
                clear bV7
                (with_reducible refine (number_any _ 1 (by decide) (by decide)).mono ?_)
                rintro e w7 ⟨m7, A7, k7, c7, x7, v7, rfl, hd7, hr7, hs7, hb7⟩
                have sw7 := hb7.size
                replace E := E.trans (hb7.mono E.size)
                replace Hy1 := Hy1.below hb7 (by omega)
                replace Hy2 := Hy2.below hb7 (by omega)
                replace P7 := P7.below hb7 P7.lt
                replace F8 := F8.below hb7 F8.lt
                replace hd5 := hd5.below hb7 (by omega)
                replace P15 := P15.below hb7 P15.lt
                clear hb7
                have R7 := Lib.hid hr7
                have S7 := Lib.hid hs7
                clear hr7 hs7
                go_wp2_with fail
                obtain ⟨V8, hV8⟩ : ∃ V8 : World, V8 = (w7.alloc (.cells #[.bool m7, .slice A7 k7 c7] 40)) := ⟨_, rfl⟩
                have bV8 : Below w7.heap.size w7 V8 := by rw [hV8]; (repeat (first | with_reducible exact Below.refl _ _ | with_reducible refine Below.drew ?_ | with_reducible refine below_drewN ?_ _ | with_reducible refine Below.setCell ?_ (by first | (simp; done) | (simp; omega) | omega) _ | with_reducible refine Below.alloc ?_ (by first | (simp; done) | (simp; omega) | omega) _))
                have zV8 : w7.heap.size + 1 ≤ V8.heap.size := by rw [hV8]; simp
                have P17 : Bk2 V8 (w7.heap.size) (.bool m7) (.slice A7 k7 c7) := by rw [hV8]; exact (Bk2.newAt _ _ (by first | omega | (simp; done) | (simp; omega)) _ _ _)
                rw [← hV8]
                clear hV8
                replace E := E.trans (bV8.mono E.size)
                replace Hy1 := Hy1.below bV8 (by omega)
                replace Hy2 := Hy2.below bV8 (by omega)
                replace P7 := P7.below bV8 P7.lt
                replace F8 := F8.below bV8 F8.lt
                replace hd5 := hd5.below bV8 (by omega)
                replace P15 := P15.below bV8 P15.lt
                replace hd7 := hd7.below bV8 (by omega)
                clear bV8
                (with_reducible refine (itx_bad10 _ (t.extract (k + 1) t.size) hb4 HTB.out).mono ?_)
                rintro e w8 ⟨rfl, hb8⟩
                have sw8 := hb8.size
                replace E := E.trans (hb8.mono E.size)
                replace Hy1 := Hy1.below hb8 (by omega)
                replace Hy2 := Hy2.below hb8 (by omega)
                replace P7 := P7.below hb8 P7.lt
                replace F8 := F8.below hb8 F8.lt
                replace hd5 := hd5.below hb8 (by omega)
                replace P15 := P15.below hb8 P15.lt
                replace hd7 := hd7.below hb8 (by omega)
                replace P17 := P17.below hb8 P17.lt
                clear hb8
                clear hd7
                have y_P170 := P17.c0
                have z_P170 := P17.z0
                have y_P171 := P17.c1
                have z_P171 := P17.z1
                have lt_P17 := P17.lt
                go_upto_region 26 with fail
                clear y_P170 z_P170 y_P171 z_P171 lt_P17
                obtain ⟨U9P17, hU9P17⟩ : ∃ U9P17 : World, U9P17 = ((w8.setCell ⟨w7.heap.size, 0, none⟩ (.bool false)).setCell ⟨w7.heap.size, 1, none⟩ (.slice none 0 0)) := ⟨_, rfl⟩
                have zU9P17 : U9P17.heap.size = w8.heap.size := by rw [hU9P17]; simp [World.setCell]
                replace E : Below w.heap.size w U9P17 := by rw [hU9P17]; exact ((E.setCell (by first | (simp; done) | (simp; omega)) _).setCell (by first | (simp; done) | (simp; omega)) _)
                replace Hy1 : LRd U9P17 (w2.heap.size) y.num.A y.num.n y.num.c y.num.xs := by rw [hU9P17]; first | exact Hy1.setB P17 (by simp) (by simp) _ _ | exact Hy1.setFarL (by omega) _ _
                replace Hy2 : LRd U9P17 (w2.heap.size) y.den.A y.den.n y.den.c y.den.xs := by rw [hU9P17]; first | exact Hy2.setB P17 (by simp) (by simp) _ _ | exact Hy2.setFarL (by omega) _ _
                replace P7 : Bk4 U9P17 (w2.heap.size) (.bool y.num.neg) (.slice y.num.A y.num.n y.num.c) (.bool y.den.neg) (.slice y.den.A y.den.n y.den.c) := by rw [hU9P17]; exact P7.far2 (by omega) _ _
                replace F8 : Bk2 U9P17 (w2.heap.size + 1) (.int .i64 f8) (.int .i64 g8) := by rw [hU9P17]; exact F8.far2 (by omega) _ _
                replace hd5 : DRd U9P17 (w6.heap.size) A5 k5 c5 x5 := by rw [hU9P17]; first | exact hd5.setFar2 (by omega) _ _ | exact hd5.setBD P17 (by simp) (by simp) _ _
                replace P15 : Bk2 U9P17 (w6.heap.size) (.bool (TxNeg (t.extract 0 k))) (.slice A5 k5 c5) := by rw [hU9P17]; exact P15.far2 (by omega) _ _
                replace P17 : Bk2 U9P17 (w7.heap.size) (.bool false) (.slice none 0 0) := by rw [hU9P17]; exact P17.set _ _
                rw [← hU9P17]
                clear hU9P17
                have zU9P17' := Nat.le_of_eq zU9P17
                replace zU9P17 := Nat.le_of_eq zU9P17.symm
                go_cut [16] (fun s wx => s = .bool false ∧ Below U9P17.heap.size U9P17 wx)
                case first =>
                  go_quiet (fail)
                  all_goals (go_wp2_with fail)
                  all_goals go_meet
                  all_goals exact ⟨rfl, by (repeat (first | exact Below.refl _ _ | refine below_drewN ?_ _ | refine Below.drew ?_))⟩
                case rest =>
                obtain ⟨rfl, hbX⟩ := hcut
                replace E := E.trans (hbX.mono E.size)
                replace Hy1 := Hy1.below hbX (by omega)
                replace Hy2 := Hy2.below hbX (by omega)
                replace P7 := P7.below hbX P7.lt
                replace F8 := F8.below hbX F8.lt
                replace hd5 := hd5.below hbX (by omega)
                replace P15 := P15.below hbX P15.lt
                replace P17 := P17.below hbX P17.lt
                have sXb := hbX.size
                clear hbX
                obtain ⟨Vb, hVb⟩ : ∃ y : World, y = wc := ⟨_, rfl⟩
                subst hVb
                have hq : q1 = 1 ∨ q2 = 1 := by
                  rcases DI.out with ⟨_, h⟩ | ⟨h, _⟩
                  · rcases h with ⟨_, _, h, _⟩ | ⟨h, _⟩ | ⟨h, _⟩
                    · exact .inr h
                    · exact absurd h.1 HTB.out
                    · exact absurd h.1 HTB.out
                  · cases h
                obtain ⟨rfl, rfl, hzr⟩ : f8 = 1 ∧ g8 = -1 ∧ Zr y := by
                  rcases PC.out with ⟨_, h⟩ | ⟨h, _⟩ | ⟨rfl, rfl, _⟩ | ⟨rfl, rfl, _⟩
                  · exact h
                  · exact absurd hq h
                  · omega
                  · omega
                clear hq
                obtain ⟨n1, n2, n3, n4⟩ := hzr.form (rv_at Hy1 Hy2)
                rw [n1, n2, n3, n4] at P7
                clear n1 n2 n3 n4 hzr
                go_upto_region 28 with fail
                have lt_P7 := P7.lt
                have lt_F8 := F8.lt
                have HS := Lib.hid (fun (u : World) (hu : Below (Vb.heap.size) Vb u) => (⟨(hu.cell (p := ⟨w2.heap.size, 0, none⟩) (by show w2.heap.size < _; omega)).trans P7.c0, (hu.cell (p := ⟨w2.heap.size, 1, none⟩) (by show w2.heap.size < _; omega)).trans P7.c1, (hu.cell (p := ⟨w2.heap.size, 2, none⟩) (by show w2.heap.size < _; omega)).trans P7.c2, (hu.cell (p := ⟨w2.heap.size, 3, none⟩) (by show w2.heap.size < _; omega)).trans P7.c3, (hu.cell (p := ⟨w2.heap.size + 1, 0, none⟩) (by show w2.heap.size + 1 < _; omega)).trans F8.c0, (hu.cell (p := ⟨w2.heap.size + 1, 1, none⟩) (by show w2.heap.size + 1 < _; omega)).trans F8.c1⟩ : u.cell? ⟨w2.heap.size, 0, none⟩ = some (.bool false) ∧ u.cell? ⟨w2.heap.size, 1, none⟩ = some (.slice y.num.A 0 y.num.c) ∧ u.cell? ⟨w2.heap.size, 2, none⟩ = some (.bool false) ∧ u.cell? ⟨w2.heap.size, 3, none⟩ = some (.slice y.den.A 0 y.den.c) ∧ u.cell? ⟨w2.heap.size + 1, 0, none⟩ = some (.int .i64 1) ∧ u.cell? ⟨w2.heap.size + 1, 1, none⟩ = some (.int .i64 (-1))))
                have G0 : Below Vb.heap.size Vb Vb.drew := Below.drew (Below.refl _ _)
                have g0s := G0.size
                have G0m : Below (Vb.heap.size) Vb Vb.drew := G0.mono (by omega)
                go_region_held3 (fun u => u.cell? ⟨w2.heap.size, 0, none⟩ = some (.bool false) ∧ u.cell? ⟨w2.heap.size, 1, none⟩ = some (.slice y.num.A 0 y.num.c) ∧ u.cell? ⟨w2.heap.size, 2, none⟩ = some (.bool false) ∧ u.cell? ⟨w2.heap.size, 3, none⟩ = some (.slice y.den.A 0 y.den.c) ∧ u.cell? ⟨w2.heap.size + 1, 0, none⟩ = some (.int .i64 1) ∧ u.cell? ⟨w2.heap.size + 1, 1, none⟩ = some (.int .i64 (-1))) (first | (refine HS.out _ ?_; (repeat (first | with_reducible exact G0m | with_reducible exact BN.mono (by omega) | with_reducible exact B1.mono (by omega) | with_reducible exact Below.refl _ _ | with_reducible refine Below.drew ?_ | with_reducible refine below_drewN ?_ _ | with_reducible refine Below.setCell ?_ (by first | (simp; done) | (simp; omega) | omega) _)); done) | fail)
                  (first
                    | (go_at_call 24; (with_reducible refine (at_any _ _ _).mono ?_); rintro e u1 ⟨rfl, hb1⟩; have B1 : Below Vb.heap.size Vb u1 := bnext G0 hb1; have b1s := B1.size)
                    | (go_at_call 17; (with_reducible refine (gives_f1 _ y.num.A y.den.A y.num.c y.den.c (QV.mk false none 0 0 [] none 0 0 []) (-1)).mono ?_); rintro e u2 ⟨rfl, hb2⟩; have BN : Below Vb.heap.size Vb u2 := bnext B1 hb2)
                    | fail)
                all_goals (go_wp2_with fail)
                all_goals go_ret
                all_goals exact ⟨rfl, E.trans (BN.mono E.size)⟩
          · have HTA := Lib.hid hTa
            clear hTa
            by_cases hTb : TxOk (t.extract (k + 1) t.size) 10
            · as_aux_lemma =>
                have HTB := Lib.hid hTb
                clear hTb
                go_wp2_with fail
                (with_reducible refine (itx_bad10 _ (t.extract 0 k) ha4 HTA.out).mono ?_)
                rintro e w6 ⟨rfl, hb6⟩
                have sw6 := hb6.size
                replace E := E.trans (hb6.mono E.size)
                replace Hy1 := Hy1.below hb6 (by omega)
                replace Hy2 := Hy2.below hb6 (by omega)
                replace P7 := P7.below hb6 P7.lt
                replace F8 := F8.below hb6 F8.lt
                clear hb6
                go_wp2_with fail
                obtain ⟨V7, hV7⟩ : ∃ V7 : World, V7 = (w6.alloc (.cells #[.bool false, .slice none 0 0] 40)) := ⟨_, rfl⟩
                have bV7 : Below w6.heap.size w6 V7 := by rw [hV7]; (repeat (first | with_reducible exact Below.refl _ _ | with_reducible refine Below.drew ?_ | with_reducible refine below_drewN ?_ _ | with_reducible refine Below.setCell ?_ (by first | (simp; done) | (simp; omega) | omega) _ | with_reducible refine Below.alloc ?_ (by first | (simp; done) | (simp; omega) | omega) _))
                have zV7 : w6.heap.size + 1 ≤ V7.heap.size := by rw [hV7]; simp
                have P15 : Bk2 V7 (w6.heap.size) (.bool false) (.slice none 0 0) := by rw [hV7]; exact (Bk2.newAt _ _ (by first | omega | (simp; done) | (simp; omega)) _ _ _)
                rw [← hV7]
                clear hV7
                replace E := E.trans (bV7.mono E.size)
                replace Hy1 := Hy1.below bV7 (by omega)
                replace Hy2 := Hy2.below bV7 (by omega)
                replace P7 := P7.below bV7 P7.lt
                replace F8 := F8.below bV7 F8.lt
                clear bV7
                (with_reducible refine (number_any _ 1 (by decide) (by decide)).mono ?_)
                rintro e w7 ⟨m7, A7, k7, c7, x7, v7, rfl, hd7, hr7, hs7, hb7⟩
                have sw7 := hb7.size
                replace E := E.trans (hb7.mono E.size)
                replace Hy1 := Hy1.below hb7 (by omega)
                replace Hy2 := Hy2.below hb7 (by omega)
                replace P7 := P7.below hb7 P7.lt
                replace F8 := F8.below hb7 F8.lt
                replace P15 := P15.below hb7 P15.lt
                clear hb7
                have R7 := Lib.hid hr7
                have S7 := Lib.hid hs7
                clear hr7 hs7
                go_wp2_with fail
                obtain ⟨V8, hV8⟩ : ∃ V8 : World, V8 = (w7.alloc (.cells #[.bool m7, .slice A7 k7 c7] 40)) := ⟨_, rfl⟩
                have bV8 : Below w7.heap.size w7 V8 := by rw [hV8]; (repeat (first | with_reducible exact Below.refl _ _ | with_reducible refine Below.drew ?_ | with_reducible refine below_drewN ?_ _ | with_reducible refine Below.setCell ?_ (by first | (simp; done) | (simp; omega) | omega) _ | with_reducible refine Below.alloc ?_ (by first | (simp; done) | (simp; omega) | omega) _))
                have zV8 : w7.heap.size + 1 ≤ V8.heap.size := by rw [hV8]; simp
                have P17 : Bk2 V8 (w7.heap.size) (.bool m7) (.slice A7 k7 c7) := by rw [hV8]; exact (Bk2.newAt _ _ (by first | omega | (simp; done) | (simp; omega)) _ _ _)
                rw [← hV8]
                clear hV8
                replace E := E.trans (bV8.mono E.size)
                replace Hy1 := Hy1.below bV8 (by omega)
                replace Hy2 := Hy2.below bV8 (by omega)
                replace P7 := P7.below bV8 P7.lt
                replace F8 := F8.below bV8 F8.lt
                replace P15 := P15.below bV8 P15.lt
                replace hd7 := hd7.below bV8 (by omega)
                clear bV8
                (with_reducible refine (itx_ok10 _ (t.extract (k + 1) t.size) hb4 HTB.out).mono ?_)
                rintro e w8 ⟨A8, k8, c8, x8, v8, rfl, hd8, hr8, hs8, hb8⟩
                have sw8 := hb8.size
                replace E := E.trans (hb8.mono E.size)
                replace Hy1 := Hy1.below hb8 (by omega)
                replace Hy2 := Hy2.below hb8 (by omega)
                replace P7 := P7.below hb8 P7.lt
                replace F8 := F8.below hb8 F8.lt
                replace P15 := P15.below hb8 P15.lt
                replace hd7 := hd7.below hb8 (by omega)
                replace P17 := P17.below hb8 P17.lt
                clear hb8
                have R8 := Lib.hid hr8
                have S8 := Lib.hid hs8
                clear hr8 hs8
                clear hd7
                have y_P170 := P17.c0
                have z_P170 := P17.z0
                have y_P171 := P17.c1
                have z_P171 := P17.z1
                have lt_P17 := P17.lt
                go_upto_region 26 with fail
                clear y_P170 z_P170 y_P171 z_P171 lt_P17
                obtain ⟨U9P17, hU9P17⟩ : ∃ U9P17 : World, U9P17 = ((w8.setCell ⟨w7.heap.size, 0, none⟩ (.bool (TxNeg (t.extract (k + 1) t.size)))).setCell ⟨w7.heap.size, 1, none⟩ (.slice A8 k8 c8)) := ⟨_, rfl⟩
                have zU9P17 : U9P17.heap.size = w8.heap.size := by rw [hU9P17]; simp [World.setCell]
                replace E : Below w.heap.size w U9P17 := by rw [hU9P17]; exact ((E.setCell (by first | (simp; done) | (simp; omega)) _).setCell (by first | (simp; done) | (simp; omega)) _)
                replace Hy1 : LRd U9P17 (w2.heap.size) y.num.A y.num.n y.num.c y.num.xs := by rw [hU9P17]; first | exact Hy1.setB P17 (by simp) (by simp) _ _ | exact Hy1.setFarL (by omega) _ _
                replace Hy2 : LRd U9P17 (w2.heap.size) y.den.A y.den.n y.den.c y.den.xs := by rw [hU9P17]; first | exact Hy2.setB P17 (by simp) (by simp) _ _ | exact Hy2.setFarL (by omega) _ _
                replace P7 : Bk4 U9P17 (w2.heap.size) (.bool y.num.neg) (.slice y.num.A y.num.n y.num.c) (.bool y.den.neg) (.slice y.den.A y.den.n y.den.c) := by rw [hU9P17]; exact P7.far2 (by omega) _ _
                replace F8 : Bk2 U9P17 (w2.heap.size + 1) (.int .i64 f8) (.int .i64 g8) := by rw [hU9P17]; exact F8.far2 (by omega) _ _
                replace P15 : Bk2 U9P17 (w6.heap.size) (.bool false) (.slice none 0 0) := by rw [hU9P17]; exact P15.far2 (by omega) _ _
                replace hd8 : DRd U9P17 (w8.heap.size) A8 k8 c8 x8 := by rw [hU9P17]; first | exact hd8.setFar2 (by omega) _ _ | exact hd8.setBD P17 (by simp) (by simp) _ _
                replace P17 : Bk2 U9P17 (w7.heap.size) (.bool (TxNeg (t.extract (k + 1) t.size))) (.slice A8 k8 c8) := by rw [hU9P17]; exact P17.set _ _
                rw [← hU9P17]
                clear hU9P17
                have zU9P17' := Nat.le_of_eq zU9P17
                replace zU9P17 := Nat.le_of_eq zU9P17.symm
                go_cut [16] (fun s wx => s = .bool false ∧ Below U9P17.heap.size U9P17 wx)
                case first =>
                  go_quiet (fail)
                  all_goals (go_wp2_with fail)
                  all_goals go_meet
                  all_goals exact ⟨rfl, by (repeat (first | exact Below.refl _ _ | refine below_drewN ?_ _ | refine Below.drew ?_))⟩
                case rest =>
                obtain ⟨rfl, hbX⟩ := hcut
                replace E := E.trans (hbX.mono E.size)
                replace Hy1 := Hy1.below hbX (by omega)
                replace Hy2 := Hy2.below hbX (by omega)
                replace P7 := P7.below hbX P7.lt
                replace F8 := F8.below hbX F8.lt
                replace P15 := P15.below hbX P15.lt
                replace P17 := P17.below hbX P17.lt
                replace hd8 := hd8.below hbX (by omega)
                have sXb := hbX.size
                clear hbX
                obtain ⟨Vb, hVb⟩ : ∃ y : World, y = wc := ⟨_, rfl⟩
                subst hVb
                have hq : q1 = 1 ∨ q2 = 1 := by
                  rcases NI.out with ⟨_, _, h, _⟩ | ⟨h, _⟩ | ⟨h, _⟩
                  · exact .inl h
                  · exact absurd h HTA.out
                  · exact absurd h HTA.out
                obtain ⟨rfl, rfl, hzr⟩ : f8 = 1 ∧ g8 = -1 ∧ Zr y := by
                  rcases PC.out with ⟨_, h⟩ | ⟨h, _⟩ | ⟨rfl, rfl, _⟩ | ⟨rfl, rfl, _⟩
                  · exact h
                  · exact absurd hq h
                  · omega
                  · omega
                clear hq
                obtain ⟨n1, n2, n3, n4⟩ := hzr.form (rv_at Hy1 Hy2)
                rw [n1, n2, n3, n4] at P7
                clear n1 n2 n3 n4 hzr
                go_upto_region 28 with fail
                have lt_P7 := P7.lt
                have lt_F8 := F8.lt
                have HS := Lib.hid (fun (u : World) (hu : Below (Vb.heap.size) Vb u) => (⟨(hu.cell (p := ⟨w2.heap.size, 0, none⟩) (by show w2.heap.size < _; omega)).trans P7.c0, (hu.cell (p := ⟨w2.heap.size, 1, none⟩) (by show w2.heap.size < _; omega)).trans P7.c1, (hu.cell (p := ⟨w2.heap.size, 2, none⟩) (by show w2.heap.size < _; omega)).trans P7.c2, (hu.cell (p := ⟨w2.heap.size, 3, none⟩) (by show w2.heap.size < _; omega)).trans P7.c3, (hu.cell (p := ⟨w2.heap.size + 1, 0, none⟩) (by show w2.heap.size + 1 < _; omega)).trans F8.c0, (hu.cell (p := ⟨w2.heap.size + 1, 1, none⟩) (by show w2.heap.size + 1 < _; omega)).trans F8.c1⟩ : u.cell? ⟨w2.heap.size, 0, none⟩ = some (.bool false) ∧ u.cell? ⟨w2.heap.size, 1, none⟩ = some (.slice y.num.A 0 y.num.c) ∧ u.cell? ⟨w2.heap.size, 2, none⟩ = some (.bool false) ∧ u.cell? ⟨w2.heap.size, 3, none⟩ = some (.slice y.den.A 0 y.den.c) ∧ u.cell? ⟨w2.heap.size + 1, 0, none⟩ = some (.int .i64 1) ∧ u.cell? ⟨w2.heap.size + 1, 1, none⟩ = some (.int .i64 (-1))))
                have G0 : Below Vb.heap.size Vb Vb.drew := Below.drew (Below.refl _ _)
                have g0s := G0.size
                have G0m : Below (Vb.heap.size) Vb Vb.drew := G0.mono (by omega)
                go_region_held3 (fun u => u.cell? ⟨w2.heap.size, 0, none⟩ = some (.bool false) ∧ u.cell? ⟨w2.heap.size, 1, none⟩ = some (.slice y.num.A 0 y.num.c) ∧ u.cell? ⟨w2.heap.size, 2, none⟩ = some (.bool false) ∧ u.cell? ⟨w2.heap.size, 3, none⟩ = some (.slice y.den.A 0 y.den.c) ∧ u.cell? ⟨w2.heap.size + 1, 0, none⟩ = some (.int .i64 1) ∧ u.cell? ⟨w2.heap.size + 1, 1, none⟩ = some (.int .i64 (-1))) (first | (refine HS.out _ ?_; (repeat (first | with_reducible exact G0m | with_reducible exact BN.mono (by omega) | with_reducible exact B1.mono (by omega) | with_reducible exact Below.refl _ _ | with_reducible refine Below.drew ?_ | with_reducible refine below_drewN ?_ _ | with_reducible refine Below.setCell ?_ (by first | (simp; done) | (simp; omega) | omega) _)); done) | fail)
                  (first
                    | (go_at_call 24; (with_reducible refine (at_any _ _ _).mono ?_); rintro e u1 ⟨rfl, hb1⟩; have B1 : Below Vb.heap.size Vb u1 := bnext G0 hb1; have b1s := B1.size)
                    | (go_at_call 17; (with_reducible refine (gives_f1 _ y.num.A y.den.A y.num.c y.den.c (QV.mk false none 0 0 [] none 0 0 []) (-1)).mono ?_); rintro e u2 ⟨rfl, hb2⟩; have BN : Below Vb.heap.size Vb u2 := bnext B1 hb2)
                    | fail)
                all_goals (go_wp2_with fail)
                all_goals go_ret
                all_goals exact ⟨rfl, E.trans (BN.mono E.size)⟩
            · as_aux_lemma =>
                have HTB := Lib.hid hTb
                clear hTb
                go_wp2_with fail
                (with_reducible refine (itx_bad10 _ (t.extract 0 k) ha4 HTA.out).mono ?_)
                rintro e w6 ⟨rfl, hb6⟩
                have sw6 := hb6.size
                replace E := E.trans (hb6.mono E.size)
                replace Hy1 := Hy1.below hb6 (by omega)
                replace Hy2 := Hy2.below hb6 (by omega)
                replace P7 := P7.below hb6 P7.lt
                replace F8 := F8.below hb6 F8.lt
                clear hb6
                go_wp2_with fail
                obtain ⟨V7, hV7⟩ : ∃ V7 : World, V7 = (w6.alloc (.cells #[.bool false, .slice none 0 0] 40)) := ⟨_, rfl⟩
                have bV7 : Below w6.heap.size w6 V7 := by rw [hV7]; (repeat (first | with_reducible exact Below.refl _ _ | with_reducible refine Below.drew ?_ | with_reducible refine below_drewN ?_ _ | with_reducible refine Below.setCell ?_ (by first | (simp; done) | (simp; omega) | omega) _ | with_reducible refine Below.alloc ?_ (by first | (simp; done) | (simp; omega) | omega) _))
                have zV7 : w6.heap.size + 1 ≤ V7.heap.size := by rw [hV7]; simp
                have P15 : Bk2 V7 (w6.heap.size) (.bool false) (.slice none 0 0) := by rw [hV7]; exact (Bk2.newAt _ _ (by first | omega | (simp; done) | (simp; omega)) _ _ _)
                rw [← hV7]
                clear hV7
                replace E := E.trans (bV7.mono E.size)
                replace Hy1 := Hy1.below bV7 (by omega)
                replace Hy2 := Hy2.below bV7 (by omega)
                replace P7 := P7.below bV7 P7.lt
                replace F8 := F8.below bV7 F8.lt
                clear bV7
                (with_reducible refine (number_any _ 1 (by decide) (by decide)).mono ?_)
                rintro e w7 ⟨m7, A7, k7, c7, x7, v7, rfl, hd7, hr7, hs7, hb7⟩
                have sw7 := hb7.size
                replace E := E.trans (hb7.mono E.size)
                replace Hy1 := Hy1.below hb7 (by omega)
                replace Hy2 := Hy2.below hb7 (by omega)
                replace P7 := P7.below hb7 P7.lt
                replace F8 := F8.below hb7 F8.lt
                replace P15 := P15.below hb7 P15.lt
                clear hb7
                have R7 := Lib.hid hr7
                have S7 := Lib.hid hs7
                clear hr7 hs7
                go_wp2_with fail
                obtain ⟨V8, hV8⟩ : ∃ V8 : World, V8 = (w7.alloc (.cells #[.bool m7, .slice A7 k7 c7] 40)) := ⟨_, rfl⟩
                have bV8 : Below w7.heap.size w7 V8 := by rw [hV8]; (repeat (first | with_reducible exact Below.refl _ _ | with_reducible refine Below.drew ?_ | with_reducible refine below_drewN ?_ _ | with_reducible refine Below.setCell ?_ (by first | (simp; done) | (simp; omega) | omega) _ | with_reducible refine Below.alloc ?_ (by first | (simp; done) | (simp; omega) | omega) _))
                have zV8 : w7.heap.size + 1 ≤ V8.heap.size := by rw [hV8]; simp
                have P17 : Bk2 V8 (w7.heap.size) (.bool m7) (.slice A7 k7 c7) := by rw [hV8]; exact (Bk2.newAt _ _ (by first | omega | (simp; done) | (simp; omega)) _ _ _)
                rw [← hV8]
                clear hV8
                replace E := E.trans (bV8.mono E.size)
                replace Hy1 := Hy1.below bV8 (by omega)
                replace Hy2 := Hy2.below bV8 (by omega)
                replace P7 := P7.below bV8 P7.lt
                replace F8 := F8.below bV8 F8.lt
                replace P15 := P15.below bV8 P15.lt
                replace hd7 := hd7.below bV8 (by omega)
                clear bV8
                (with_reducible refine (itx_bad10 _ (t.extract (k + 1) t.size) hb4 HTB.out).mono ?_)
                rintro e w8 ⟨rfl, hb8⟩
                have sw8 := hb8.size
                replace E := E.trans (hb8.mono E.size)
                replace Hy1 := Hy1.below hb8 (by omega)
                replace Hy2 := Hy2.below hb8 (by omega)
                replace P7 := P7.below hb8 P7.lt
                replace F8 := F8.below hb8 F8.lt
                replace P15 := P15.below hb8 P15.lt
                replace hd7 := hd7.below hb8 (by omega)
                replace P17 := P17.below hb8 P17.lt
                clear hb8
                clear hd7
                have y_P170 := P17.c0
                have z_P170 := P17.z0
                have y_P171 := P17.c1
                have z_P171 := P17.z1
                have lt_P17 := P17.lt
                go_upto_region 26 with fail
                clear y_P170 z_P170 y_P171 z_P171 lt_P17
                obtain ⟨U9P17, hU9P17⟩ : ∃ U9P17 : World, U9P17 = ((w8.setCell ⟨w7.heap.size, 0, none⟩ (.bool false)).setCell ⟨w7.heap.size, 1, none⟩ (.slice none 0 0)) := ⟨_, rfl⟩
                have zU9P17 : U9P17.heap.size = w8.heap.size := by rw [hU9P17]; simp [World.setCell]
                replace E : Below w.heap.size w U9P17 := by rw [hU9P17]; exact ((E.setCell (by first | (simp; done) | (simp; omega)) _).setCell (by first | (simp; done) | (simp; omega)) _)
                replace Hy1 : LRd U9P17 (w2.heap.size) y.num.A y.num.n y.num.c y.num.xs := by rw [hU9P17]; first | exact Hy1.setB P17 (by simp) (by simp) _ _ | exact Hy1.setFarL (by omega) _ _
                replace Hy2 : LRd U9P17 (w2.heap.size) y.den.A y.den.n y.den.c y.den.xs := by rw [hU9P17]; first | exact Hy2.setB P17 (by simp) (by simp) _ _ | exact Hy2.setFarL (by omega) _ _
                replace P7 : Bk4 U9P17 (w2.heap.size) (.bool y.num.neg) (.slice y.num.A y.num.n y.num.c) (.bool y.den.neg) (.slice y.den.A y.den.n y.den.c) := by rw [hU9P17]; exact P7.far2 (by omega) _ _
                replace F8 : Bk2 U9P17 (w2.heap.size + 1) (.int .i64 f8) (.int .i64 g8) := by rw [hU9P17]; exact F8.far2 (by omega) _ _
                replace P15 : Bk2 U9P17 (w6.heap.size) (.bool false) (.slice none 0 0) := by rw [hU9P17]; exact P15.far2 (by omega) _ _
                replace P17 : Bk2 U9P17 (w7.heap.size) (.bool false) (.slice none 0 0) := by rw [hU9P17]; exact P17.set _ _
                rw [← hU9P17]
                clear hU9P17
                have zU9P17' := Nat.le_of_eq zU9P17
                replace zU9P17 := Nat.le_of_eq zU9P17.symm
                go_cut [16] (fun s wx => s = .bool false ∧ Below U9P17.heap.size U9P17 wx)
                case first =>
                  go_quiet (fail)
                  all_goals (go_wp2_with fail)
                  all_goals go_meet
                  all_goals exact ⟨rfl, by (repeat (first | exact Below.refl _ _ | refine below_drewN ?_ _ | refine Below.drew ?_))⟩
                case rest =>
                obtain ⟨rfl, hbX⟩ := hcut
                replace E := E.trans (hbX.mono E.size)
                replace Hy1 := Hy1.below hbX (by omega)
                replace Hy2 := Hy2.below hbX (by omega)
                replace P7 := P7.below hbX P7.lt
                replace F8 := F8.below hbX F8.lt
                replace P15 := P15.below hbX P15.lt
                replace P17 := P17.below hbX P17.lt
                have sXb := hbX.size
                clear hbX
                obtain ⟨Vb, hVb⟩ : ∃ y : World, y = wc := ⟨_, rfl⟩
                subst hVb
                have hq : q1 = 1 ∨ q2 = 1 := by
                  rcases NI.out with ⟨_, _, h, _⟩ | ⟨h, _⟩ | ⟨h, _⟩
                  · exact .inl h
                  · exact absurd h HTA.out
                  · exact absurd h HTA.out
                obtain ⟨rfl, rfl, hzr⟩ : f8 = 1 ∧ g8 = -1 ∧ Zr y := by
                  rcases PC.out with ⟨_, h⟩ | ⟨h, _⟩ | ⟨rfl, rfl, _⟩ | ⟨rfl, rfl, _⟩
                  · exact h
                  · exact absurd hq h
                  · omega
                  · omega
                clear hq
                obtain ⟨n1, n2, n3, n4⟩ := hzr.form (rv_at Hy1 Hy2)
                rw [n1, n2, n3, n4] at P7
                clear n1 n2 n3 n4 hzr
                go_upto_region 28 with fail
                have lt_P7 := P7.lt
                have lt_F8 := F8.lt
                have HS := Lib.hid (fun (u : World) (hu : Below (Vb.heap.size) Vb u) => (⟨(hu.cell (p := ⟨w2.heap.size, 0, none⟩) (by show w2.heap.size < _; omega)).trans P7.c0, (hu.cell (p := ⟨w2.heap.size, 1, none⟩) (by show w2.heap.size < _; omega)).trans P7.c1, (hu.cell (p := ⟨w2.heap.size, 2, none⟩) (by show w2.heap.size < _; omega)).trans P7.c2, (hu.cell (p := ⟨w2.heap.size, 3, none⟩) (by show w2.heap.size < _; omega)).trans P7.c3, (hu.cell (p := ⟨w2.heap.size + 1, 0, none⟩) (by show w2.heap.size + 1 < _; omega)).trans F8.c0, (hu.cell (p := ⟨w2.heap.size + 1, 1, none⟩) (by show w2.heap.size + 1 < _; omega)).trans F8.c1⟩ : u.cell? ⟨w2.heap.size, 0, none⟩ = some (.bool false) ∧ u.cell? ⟨w2.heap.size, 1, none⟩ = some (.slice y.num.A 0 y.num.c) ∧ u.cell? ⟨w2.heap.size, 2, none⟩ = some (.bool false) ∧ u.cell? ⟨w2.heap.size, 3, none⟩ = some (.slice y.den.A 0 y.den.c) ∧ u.cell? ⟨w2.heap.size + 1, 0, none⟩ = some (.int .i64 1) ∧ u.cell? ⟨w2.heap.size + 1, 1, none⟩ = some (.int .i64 (-1))))
                have G0 : Below Vb.heap.size Vb Vb.drew := Below.drew (Below.refl _ _)
                have g0s := G0.size
                have G0m : Below (Vb.heap.size) Vb Vb.drew := G0.mono (by omega)
                go_region_held3 (fun u => u.cell? ⟨w2.heap.size, 0, none⟩ = some (.bool false) ∧ u.cell? ⟨w2.heap.size, 1, none⟩ = some (.slice y.num.A 0 y.num.c) ∧ u.cell? ⟨w2.heap.size, 2, none⟩ = some (.bool false) ∧ u.cell? ⟨w2.heap.size, 3, none⟩ = some (.slice y.den.A 0 y.den.c) ∧ u.cell? ⟨w2.heap.size + 1, 0, none⟩ = some (.int .i64 1) ∧ u.cell? ⟨w2.heap.size + 1, 1, none⟩ = some (.int .i64 (-1))) (first | (refine HS.out _ ?_; (repeat (first | with_reducible exact G0m | with_reducible exact BN.mono (by omega) | with_reducible exact B1.mono (by omega) | with_reducible exact Below.refl _ _ | with_reducible refine Below.drew ?_ | with_reducible refine below_drewN ?_ _ | with_reducible refine Below.setCell ?_ (by first | (simp; done) | (simp; omega) | omega) _)); done) | fail)
                  (first
                    | (go_at_call 24; (with_reducible refine (at_any _ _ _).mono ?_); rintro e u1 ⟨rfl, hb1⟩; have B1 : Below Vb.heap.size Vb u1 := bnext G0 hb1; have b1s := B1.size)
                    | (go_at_call 17; (with_reducible refine (gives_f1 _ y.num.A y.den.A y.num.c y.den.c (QV.mk false none 0 0 [] none 0 0 []) (-1)).mono ?_); rintro e u2 ⟨rfl, hb2⟩; have BN : Below Vb.heap.size Vb u2 := bnext B1 hb2)
                    | fail)
                all_goals (go_wp2_with fail)
                all_goals go_ret
                all_goals exact ⟨rfl, E.trans (BN.mono E.size)⟩
theorem rtexts_any (w : World) (x : RV) (t : ByteArray) (hts : t.size ≤ 9223372036854775807) (HX : x.at w w.heap.size) :
    Calls Tryz.prog 7 #[x.v, .string t] w (fun e w' => e = .returned (.bool true) ∧ Below w.heap.size w w') := by
  obtain ⟨a, b, fd, h⟩ := tb_any t
  exact rtexts_law w x t a b fd hts (Lib.hid h) HX
end Go.Proofs.YtflmcgoijofpdaaGreat
