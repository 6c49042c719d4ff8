/- IntegerPowers: the law, where the rest has an exponent. -/
import Derived.Test.YtpidkionieaffaaLPws5
import Derived.Test.YtpidkionieaffaaLd
import Derived.Test.YtpidkionieaffaaLe
import Derived.Test.YtpidkionieaffaaLAri2
import Derived.Test.YtpidkionieaffaaLYld
namespace Go.Proofs.Ytpidkionieaffaa
open Go.RowKit
set_option maxHeartbeats 400000
set_option maxRecDepth 100000
set_option linter.unusedSimpArgs false
set_option linter.unusedVariables false

def R27 (W : World) (h : Int) (s19 s20 : Value) (wx : World) : Prop :=
  ∃ g1 g2 n A k c zs, s19 = .pointer (some ⟨g1, 0, none⟩) ∧ s20 = .pointer (some ⟨g2, 0, none⟩) ∧ Bk2 wx g1 (.bool n) (.slice A k c) ∧ Bk2 wx g2 (.int .i64 0) (.int .i64 0) ∧ LRd wx wx.heap.size A k c zs ∧ Hid (IRep n zs h) ∧ W.heap.size ≤ g1 ∧ Below W.heap.size W wx
theorem le_w1 (w : World) (o : Obj) : w.heap.size ≤ (w.alloc o).heap.size := by simp
theorem le_w2 (w : World) (o p : Obj) : w.heap.size ≤ ((w.alloc o).alloc p).heap.size := by simp; omega
theorem nx1 {w w' : World} {u v : Value} {t : TypeId} (h : Below (w.alloc (.cells #[u, v] t)).heap.size (w.alloc (.cells #[u, v] t)) w') : Bk2 w' w.heap.size u v := Bk2.next (Bk2.new w u v t) h
theorem nx2 {w w' : World} {u v x y : Value} {t s : TypeId} (h : Below ((w.alloc (.cells #[u, v] t)).alloc (.cells #[x, y] s)).heap.size ((w.alloc (.cells #[u, v] t)).alloc (.cells #[x, y] s)) w') : Bk2 w' w.heap.size u v ∧ Bk2 w' (w.heap.size + 1) x y := ⟨Bk2.next (Bk2.alloc (Bk2.new w u v t) _) h, Bk2.next (Bk2.newAt (w.alloc _) _ (by simp) x y s) h⟩
theorem DRd.dr {w : World} {B n c : Nat} {A : Option Addr} {xs : List Nat} (h : DRd w B A n c xs) : DRd w.drew B A n c xs := h.keep (fun _ _ => rfl)
theorem le_d1 (w : World) (o : Obj) : w.heap.size ≤ (w.alloc o).drew.heap.size := le_w1 w o
theorem le_d2 (w : World) (o p : Obj) : w.heap.size ≤ ((w.alloc o).alloc p).drew.heap.size := le_w2 w o p
theorem dx1 {w w' : World} {u v : Value} {t : TypeId} (h : Below (w.alloc (.cells #[u, v] t)).drew.heap.size (w.alloc (.cells #[u, v] t)).drew w') : Bk2 w' w.heap.size u v := Bk2.next (Bk2.drew (Bk2.new w u v t)) h
theorem dx2 {w w' : World} {u v x y : Value} {t s : TypeId} (h : Below ((w.alloc (.cells #[u, v] t)).alloc (.cells #[x, y] s)).drew.heap.size ((w.alloc (.cells #[u, v] t)).alloc (.cells #[x, y] s)).drew w') : Bk2 w' w.heap.size u v ∧ Bk2 w' (w.heap.size + 1) x y := ⟨Bk2.next (Bk2.drew (Bk2.alloc (Bk2.new w u v t) _)) h, Bk2.next (Bk2.drew (Bk2.newAt (w.alloc _) _ (by simp) x y s)) h⟩
theorem nxa {w w' : World} {g : Nat} {u v : Value} {o : Obj} (k : Bk2 w g u v) (h : Below (w.alloc o).heap.size (w.alloc o) w') : Bk2 w' g u v := Bk2.next (k.alloc o) h
theorem half_lt {p T : Nat} (h : p < T) : movedV p (-1) < T := by
  have : movedV p (-1) = p / 2 := by unfold movedV; rw [if_pos (by decide)]; rfl
  rw [this]; omega
theorem half_eq (p : Nat) : movedV p (-1) = p / 2 := by unfold movedV; rw [if_pos (by decide)]; rfl
set_option maxHeartbeats 16000000 in
theorem pws_some (w : World) (a b c : IV) (i : Int) (i1 : -9223372036854775808 ≤ i) (i2 : i ≤ 9223372036854775807) (HA : a.at w w.heap.size) (HB : b.at w w.heap.size) (HC : c.at w w.heap.size) (oa : a.ok = true) (ob : b.ok = true) (oc : c.ok = true) (hb : Hid (b.neg = false)) (hc : Hid (c.neg = false)) (h0 : 0 < c.n) (hz : 0 < b.n) :
    Calls Try.prog 6 #[a.v, .int .i64 i, b.v, c.v] w (fun e w' => e = .returned (.bool true) ∧ Below w.heap.size w w') := by
  replace HA : LRd w w.heap.size a.A a.n a.c a.xs := HA
  replace HB : LRd w w.heap.size b.A b.n b.c b.xs := HB
  replace HC : LRd w w.heap.size c.A c.n c.c c.xs := HC
  have hf : ffault [a, b, c] 0 = (0, 0) := three_ok oa ob oc
  have E : Below w.heap.size w w := Below.refl _ _
  go_enter Try.func6, Try.ntmps6
  go_wp2_with fail
  obtain ⟨V0, hV0⟩ : ∃ V0 : World, V0 = (((w.alloc (.cells #[.bool a.neg, .slice a.A a.n a.c] 24)).alloc (.cells #[.bool b.neg, .slice b.A b.n b.c] 24)).alloc (.cells #[.bool c.neg, .slice c.A c.n c.c] 24)) := ⟨_, rfl⟩
  have bV0 : Below w.heap.size w V0 := by rw [hV0]; (repeat (first | with_reducible exact Below.refl _ _ | with_reducible refine Below.drew ?_ | with_reducible refine below_drewN ?_ _ | with_reducible refine Below.setCell ?_ (by first | (simp; done) | (simp; omega) | omega) _ | with_reducible refine Below.alloc ?_ (by first | (simp; done) | (simp; omega) | omega) _))
  have zV0 : w.heap.size + 3 ≤ V0.heap.size := by rw [hV0]; simp
  have PA : Bk2 V0 (w.heap.size) (.bool a.neg) (.slice a.A a.n a.c) := by rw [hV0]; exact (((Bk2.newAt _ _ (by simp) _ _ _).alloc _).alloc _)
  have PB : Bk2 V0 (w.heap.size + 1) (.bool b.neg) (.slice b.A b.n b.c) := by rw [hV0]; exact ((Bk2.newAt _ _ (by simp) _ _ _).alloc _)
  have PC : Bk2 V0 (w.heap.size + 2) (.bool c.neg) (.slice c.A c.n c.c) := by rw [hV0]; exact (Bk2.newAt _ _ (by simp) _ _ _)
  rw [← hV0]
  clear hV0
  replace E : Below w.heap.size w V0 := E.trans (bV0.mono E.size)
  replace HA : LRd V0 (w.heap.size) a.A a.n a.c a.xs := HA.below bV0 (by omega)
  replace HB : LRd V0 (w.heap.size) b.A b.n b.c b.xs := HB.below bV0 (by omega)
  replace HC : LRd V0 (w.heap.size) c.A c.n c.c c.xs := HC.below bV0 (by omega)
  clear bV0
  refine (ipow_any _ w.heap.size a i HA (by omega)).mono ?_
  rintro e w9 ⟨z9, g1, g2, hpw, n9, A9, k9, c9, x9, rfl, hl9, hr9, hb9⟩
  have PW := Lib.hid hpw
  have I9 := Lib.hid hr9
  clear hpw hr9
  have sw9 := hb9.size
  replace E : Below w.heap.size w w9 := E.trans (hb9.mono E.size)
  replace HA : LRd w9 (w.heap.size) a.A a.n a.c a.xs := HA.below hb9 (by omega)
  replace HB : LRd w9 (w.heap.size) b.A b.n b.c b.xs := HB.below hb9 (by omega)
  replace HC : LRd w9 (w.heap.size) c.A c.n c.c c.xs := HC.below hb9 (by omega)
  replace PA : Bk2 w9 (w.heap.size) (.bool a.neg) (.slice a.A a.n a.c) := PA.below hb9 PA.lt
  replace PB : Bk2 w9 (w.heap.size + 1) (.bool b.neg) (.slice b.A b.n b.c) := PB.below hb9 PB.lt
  replace PC : Bk2 w9 (w.heap.size + 2) (.bool c.neg) (.slice c.A c.n c.c) := PC.below hb9 PC.lt
  clear hb9
  have t_PA0 : ((w9.alloc (.cells #[.bool n9, .slice A9 k9 c9] 24)).alloc (.cells #[.int .i64 g1, .int .i64 g2] 26)).cell? ⟨w.heap.size, 0, none⟩ = some ((.bool a.neg)) := ((PA.alloc _).alloc _).c0
  have t_PA1 : ((w9.alloc (.cells #[.bool n9, .slice A9 k9 c9] 24)).alloc (.cells #[.int .i64 g1, .int .i64 g2] 26)).cell? ⟨w.heap.size, 1, none⟩ = some ((.slice a.A a.n a.c)) := ((PA.alloc _).alloc _).c1
  have t_PB0 : ((w9.alloc (.cells #[.bool n9, .slice A9 k9 c9] 24)).alloc (.cells #[.int .i64 g1, .int .i64 g2] 26)).cell? ⟨w.heap.size + 1, 0, none⟩ = some ((.bool b.neg)) := ((PB.alloc _).alloc _).c0
  have t_PB1 : ((w9.alloc (.cells #[.bool n9, .slice A9 k9 c9] 24)).alloc (.cells #[.int .i64 g1, .int .i64 g2] 26)).cell? ⟨w.heap.size + 1, 1, none⟩ = some ((.slice b.A b.n b.c)) := ((PB.alloc _).alloc _).c1
  have t_PC0 : ((w9.alloc (.cells #[.bool n9, .slice A9 k9 c9] 24)).alloc (.cells #[.int .i64 g1, .int .i64 g2] 26)).cell? ⟨w.heap.size + 2, 0, none⟩ = some ((.bool c.neg)) := ((PC.alloc _).alloc _).c0
  have t_PC1 : ((w9.alloc (.cells #[.bool n9, .slice A9 k9 c9] 24)).alloc (.cells #[.int .i64 g1, .int .i64 g2] 26)).cell? ⟨w.heap.size + 2, 1, none⟩ = some ((.slice c.A c.n c.c)) := ((PC.alloc _).alloc _).c1
  go_wp2_with fail
  clear t_PA0 t_PA1 t_PB0 t_PB1 t_PC0 t_PC1
  obtain ⟨V1, hV1⟩ : ∃ V1 : World, V1 = ((w9.alloc (.cells #[.bool n9, .slice A9 k9 c9] 24)).alloc (.cells #[.int .i64 g1, .int .i64 g2] 26)) := ⟨_, rfl⟩
  have bV1 : Below w9.heap.size w9 V1 := by rw [hV1]; (repeat (first | with_reducible exact Below.refl _ _ | with_reducible refine Below.drew ?_ | with_reducible refine below_drewN ?_ _ | with_reducible refine Below.setCell ?_ (by first | (simp; done) | (simp; omega) | omega) _ | with_reducible refine Below.alloc ?_ (by first | (simp; done) | (simp; omega) | omega) _))
  have zV1 : w9.heap.size + 2 ≤ V1.heap.size := by rw [hV1]; simp
  have P9 : Bk2 V1 (w9.heap.size) (.bool n9) (.slice A9 k9 c9) := by rw [hV1]; exact ((Bk2.newAt _ _ (by simp) _ _ _).alloc _)
  have F10 : Bk2 V1 (w9.heap.size + 1) (.int .i64 g1) (.int .i64 g2) := by rw [hV1]; exact (Bk2.newAt _ _ (by simp) _ _ _)
  rw [← hV1]
  clear hV1
  replace E : Below w.heap.size w V1 := E.trans (bV1.mono E.size)
  replace HA : LRd V1 (w.heap.size) a.A a.n a.c a.xs := HA.below bV1 (by omega)
  replace HB : LRd V1 (w.heap.size) b.A b.n b.c b.xs := HB.below bV1 (by omega)
  replace HC : LRd V1 (w.heap.size) c.A c.n c.c c.xs := HC.below bV1 (by omega)
  replace PA : Bk2 V1 (w.heap.size) (.bool a.neg) (.slice a.A a.n a.c) := PA.below bV1 PA.lt
  replace PB : Bk2 V1 (w.heap.size + 1) (.bool b.neg) (.slice b.A b.n b.c) := PB.below bV1 PB.lt
  replace PC : Bk2 V1 (w.heap.size + 2) (.bool c.neg) (.slice c.A c.n c.c) := PC.below bV1 PC.lt
  replace hl9 : LRd V1 (w9.heap.size) A9 k9 c9 x9 := hl9.below bV1 (by omega)
  clear bV1
  refine (ipm_ok _ w.heap.size a b c HA HB HC (by omega) oa ob oc hb hc h0).mono ?_
  rintro e w11 ⟨n11, A11, k11, c11, x11, rfl, hl11, hr11, hb11⟩
  have I11 := Lib.hid hr11
  clear hr11
  have sw11 := hb11.size
  replace E : Below w.heap.size w w11 := E.trans (hb11.mono E.size)
  replace HA : LRd w11 (w.heap.size) a.A a.n a.c a.xs := HA.below hb11 (by omega)
  replace HB : LRd w11 (w.heap.size) b.A b.n b.c b.xs := HB.below hb11 (by omega)
  replace HC : LRd w11 (w.heap.size) c.A c.n c.c c.xs := HC.below hb11 (by omega)
  replace PA : Bk2 w11 (w.heap.size) (.bool a.neg) (.slice a.A a.n a.c) := PA.below hb11 PA.lt
  replace PB : Bk2 w11 (w.heap.size + 1) (.bool b.neg) (.slice b.A b.n b.c) := PB.below hb11 PB.lt
  replace PC : Bk2 w11 (w.heap.size + 2) (.bool c.neg) (.slice c.A c.n c.c) := PC.below hb11 PC.lt
  replace hl9 : LRd w11 (w9.heap.size) A9 k9 c9 x9 := hl9.below hb11 (by omega)
  replace P9 : Bk2 w11 (w9.heap.size) (.bool n9) (.slice A9 k9 c9) := P9.below hb11 P9.lt
  replace F10 : Bk2 w11 (w9.heap.size + 1) (.int .i64 g1) (.int .i64 g2) := F10.below hb11 F10.lt
  clear hb11
  go_wp2_with fail
  obtain ⟨V2, hV2⟩ : ∃ V2 : World, V2 = ((w11.alloc (.cells #[.bool n11, .slice A11 k11 c11] 24)).alloc (.cells #[.int .i64 0, .int .i64 0] 26)) := ⟨_, rfl⟩
  have bV2 : Below w11.heap.size w11 V2 := by rw [hV2]; (repeat (first | with_reducible exact Below.refl _ _ | with_reducible refine Below.drew ?_ | with_reducible refine below_drewN ?_ _ | with_reducible refine Below.setCell ?_ (by first | (simp; done) | (simp; omega) | omega) _ | with_reducible refine Below.alloc ?_ (by first | (simp; done) | (simp; omega) | omega) _))
  have zV2 : w11.heap.size + 2 ≤ V2.heap.size := by rw [hV2]; simp
  have P11 : Bk2 V2 (w11.heap.size) (.bool n11) (.slice A11 k11 c11) := by rw [hV2]; exact ((Bk2.newAt _ _ (by simp) _ _ _).alloc _)
  have F12 : Bk2 V2 (w11.heap.size + 1) (.int .i64 0) (.int .i64 0) := by rw [hV2]; exact (Bk2.newAt _ _ (by simp) _ _ _)
  rw [← hV2]
  clear hV2
  replace E : Below w.heap.size w V2 := E.trans (bV2.mono E.size)
  replace HA : LRd V2 (w.heap.size) a.A a.n a.c a.xs := HA.below bV2 (by omega)
  replace HB : LRd V2 (w.heap.size) b.A b.n b.c b.xs := HB.below bV2 (by omega)
  replace HC : LRd V2 (w.heap.size) c.A c.n c.c c.xs := HC.below bV2 (by omega)
  replace PA : Bk2 V2 (w.heap.size) (.bool a.neg) (.slice a.A a.n a.c) := PA.below bV2 PA.lt
  replace PB : Bk2 V2 (w.heap.size + 1) (.bool b.neg) (.slice b.A b.n b.c) := PB.below bV2 PB.lt
  replace PC : Bk2 V2 (w.heap.size + 2) (.bool c.neg) (.slice c.A c.n c.c) := PC.below bV2 PC.lt
  replace hl9 : LRd V2 (w9.heap.size) A9 k9 c9 x9 := hl9.below bV2 (by omega)
  replace P9 : Bk2 V2 (w9.heap.size) (.bool n9) (.slice A9 k9 c9) := P9.below bV2 P9.lt
  replace F10 : Bk2 V2 (w9.heap.size + 1) (.int .i64 g1) (.int .i64 g2) := F10.below bV2 F10.lt
  replace hl11 : LRd V2 (w11.heap.size) A11 k11 c11 x11 := hl11.below bV2 (by omega)
  clear bV2
  (with_reducible refine (counts_any _).mono ?_)
  rintro e w13 ⟨rfl, hb13⟩
  have sw13 := hb13.size
  replace E : Below w.heap.size w w13 := E.trans (hb13.mono E.size)
  replace HA : LRd w13 (w.heap.size) a.A a.n a.c a.xs := HA.below hb13 (by omega)
  replace HB : LRd w13 (w.heap.size) b.A b.n b.c b.xs := HB.below hb13 (by omega)
  replace HC : LRd w13 (w.heap.size) c.A c.n c.c c.xs := HC.below hb13 (by omega)
  replace PA : Bk2 w13 (w.heap.size) (.bool a.neg) (.slice a.A a.n a.c) := PA.below hb13 PA.lt
  replace PB : Bk2 w13 (w.heap.size + 1) (.bool b.neg) (.slice b.A b.n b.c) := PB.below hb13 PB.lt
  replace PC : Bk2 w13 (w.heap.size + 2) (.bool c.neg) (.slice c.A c.n c.c) := PC.below hb13 PC.lt
  replace hl9 : LRd w13 (w9.heap.size) A9 k9 c9 x9 := hl9.below hb13 (by omega)
  replace P9 : Bk2 w13 (w9.heap.size) (.bool n9) (.slice A9 k9 c9) := P9.below hb13 P9.lt
  replace F10 : Bk2 w13 (w9.heap.size + 1) (.int .i64 g1) (.int .i64 g2) := F10.below hb13 F10.lt
  replace hl11 : LRd w13 (w11.heap.size) A11 k11 c11 x11 := hl11.below hb13 (by omega)
  replace P11 : Bk2 w13 (w11.heap.size) (.bool n11) (.slice A11 k11 c11) := P11.below hb13 P11.lt
  replace F12 : Bk2 w13 (w11.heap.size + 1) (.int .i64 0) (.int .i64 0) := F12.below hb13 F12.lt
  clear hb13
  go_upto_block 0 with fail
  go_cut [] (fun wx => Below w13.heap.size w13 wx)
  case first =>
    as_aux_lemma =>
      have E0 : Below w13.heap.size w13 w13 := Below.refl _ _
      clear E PB PC P11 F12 HB HC hl11
      have t_PA0 : w13.cell? ⟨w.heap.size, 0, none⟩ = some ((.bool a.neg)) := PA.c0
      have t_PA1 : w13.cell? ⟨w.heap.size, 1, none⟩ = some ((.slice a.A a.n a.c)) := PA.c1
      go_wp2_with fail
      clear t_PA0 t_PA1
      (with_reducible refine (intOk_any _ w.heap.size a.neg a.A a.n a.c a.xs HA (by omega)).mono ?_)
      rintro e w14 ⟨rfl, hb14⟩
      have sw14 := hb14.size
      replace HA : LRd w14 (w.heap.size) a.A a.n a.c a.xs := HA.below hb14 (by omega)
      replace PA : Bk2 w14 (w.heap.size) (.bool a.neg) (.slice a.A a.n a.c) := PA.below hb14 PA.lt
      replace hl9 : LRd w14 (w9.heap.size) A9 k9 c9 x9 := hl9.below hb14 (by omega)
      replace P9 : Bk2 w14 (w9.heap.size) (.bool n9) (.slice A9 k9 c9) := P9.below hb14 P9.lt
      replace F10 : Bk2 w14 (w9.heap.size + 1) (.int .i64 g1) (.int .i64 g2) := F10.below hb14 F10.lt
      replace E0 : Below w13.heap.size w13 w14 := E0.trans (hb14.mono E0.size)
      clear hb14
      obtain ⟨va, hva⟩ : ∃ va, ivld a.neg a.xs = va := ⟨_, rfl⟩
      rw [hva]
      have HVA := Lib.hid hva
      clear hva
      rcases PW.out with ⟨na, rfl, rfl, rfl⟩ | ⟨oa, hz, rfl, rfl, rfl⟩ | ⟨oa, n, rfl, hn, hyr⟩
      · obtain rfl : va = false := HVA.out.symm.trans na
        obtain ⟨rfl, rfl⟩ := irep_nil I9.out hl9.len.out
        go_upto_region 9 with fail
        have G0 : Below w14.heap.size w14 w14.drew := Below.drew (Below.refl _ _)
        have HS := Lib.hid (fun (u : World) (hu : Below w14.heap.size w14 u) => (⟨hu, (P9.below hu P9.lt).c0, (P9.below hu P9.lt).c1, (F10.below hu F10.lt).c0, (F10.below hu F10.lt).c1⟩ : Below w14.heap.size w14 u ∧ u.cell? ⟨w9.heap.size, 0, none⟩ = some (.bool false) ∧ u.cell? ⟨w9.heap.size, 1, none⟩ = some (.slice A9 0 c9) ∧ u.cell? ⟨w9.heap.size + 1, 0, none⟩ = some (.int .i64 6) ∧ u.cell? ⟨w9.heap.size + 1, 1, none⟩ = some (.int .i64 (-1))))
        go_region_held3 (fun u => Below w14.heap.size w14 u ∧ u.cell? ⟨w9.heap.size, 0, none⟩ = some (.bool false) ∧ u.cell? ⟨w9.heap.size, 1, none⟩ = some (.slice A9 0 c9) ∧ u.cell? ⟨w9.heap.size + 1, 0, none⟩ = some (.int .i64 6) ∧ u.cell? ⟨w9.heap.size + 1, 1, none⟩ = some (.int .i64 (-1))) (first | with_reducible exact HS.out _ G0 | with_reducible exact HS.out _ B2 | with_reducible exact HS.out _ B1 | fail)
          (first
            | (go_at_call 25; (with_reducible refine (at_any _ _ _).mono ?_); rintro e u1 ⟨rfl, hB1⟩; have B1 : Below w14.heap.size w14 u1 := bnext G0 hB1)
            | (go_at_call 26; (with_reducible refine (noInt_any _ false A9 0 c9 (by omega)).mono ?_); rintro e u2 ⟨rfl, hB2⟩; have B2 : Below w14.heap.size w14 u2 := bnext B1 hB2; rw [show (!false && decide (0 = 0)) = true from rfl])
            | fail)
        all_goals (go_wp2_with fail)
        all_goals go_meet
        all_goals (case rel => exact E0.trans (B2.mono E0.size))
      · obtain rfl : va = true := HVA.out.symm.trans oa
        obtain ⟨rfl, rfl⟩ := irep_nil I9.out hl9.len.out
        rcases hz with hz | hz
        · go_upto_region 12 with fail
          have G0 : Below w14.heap.size w14 w14.drew := Below.drew (Below.refl _ _)
          have HS := Lib.hid (fun (u : World) (hu : Below w14.heap.size w14 u) => (⟨hu, (P9.below hu P9.lt).c0, (P9.below hu P9.lt).c1, (F10.below hu F10.lt).c0, (F10.below hu F10.lt).c1⟩ : Below w14.heap.size w14 u ∧ u.cell? ⟨w9.heap.size, 0, none⟩ = some (.bool false) ∧ u.cell? ⟨w9.heap.size, 1, none⟩ = some (.slice A9 0 c9) ∧ u.cell? ⟨w9.heap.size + 1, 0, none⟩ = some (.int .i64 4) ∧ u.cell? ⟨w9.heap.size + 1, 1, none⟩ = some (.int .i64 (-2))))
          go_region_held3 (fun u => Below w14.heap.size w14 u ∧ u.cell? ⟨w9.heap.size, 0, none⟩ = some (.bool false) ∧ u.cell? ⟨w9.heap.size, 1, none⟩ = some (.slice A9 0 c9) ∧ u.cell? ⟨w9.heap.size + 1, 0, none⟩ = some (.int .i64 4) ∧ u.cell? ⟨w9.heap.size + 1, 1, none⟩ = some (.int .i64 (-2))) (first | with_reducible exact HS.out _ G0 | with_reducible exact HS.out _ B2 | with_reducible exact HS.out _ B1 | fail)
            (first
              | (go_at_call 25; (with_reducible refine (at_any _ _ _).mono ?_); rintro e u1 ⟨rfl, hB1⟩; have B1 : Below w14.heap.size w14 u1 := bnext G0 hB1)
              | (go_at_call 26; (with_reducible refine (noInt_any _ false A9 0 c9 (by omega)).mono ?_); rintro e u2 ⟨rfl, hB2⟩; have B2 : Below w14.heap.size w14 u2 := bnext B1 hB2; rw [show (!false && decide (0 = 0)) = true from rfl])
              | fail)
          all_goals (go_wp2_with fail)
          all_goals go_meet
          all_goals (case rel => exact E0.trans (B2.mono E0.size))
        · go_upto_region 12 with fail
          have G0 : Below w14.heap.size w14 w14.drew := Below.drew (Below.refl _ _)
          have HS := Lib.hid (fun (u : World) (hu : Below w14.heap.size w14 u) => (⟨hu, (P9.below hu P9.lt).c0, (P9.below hu P9.lt).c1, (F10.below hu F10.lt).c0, (F10.below hu F10.lt).c1⟩ : Below w14.heap.size w14 u ∧ u.cell? ⟨w9.heap.size, 0, none⟩ = some (.bool false) ∧ u.cell? ⟨w9.heap.size, 1, none⟩ = some (.slice A9 0 c9) ∧ u.cell? ⟨w9.heap.size + 1, 0, none⟩ = some (.int .i64 4) ∧ u.cell? ⟨w9.heap.size + 1, 1, none⟩ = some (.int .i64 (-2))))
          go_region_held3 (fun u => Below w14.heap.size w14 u ∧ u.cell? ⟨w9.heap.size, 0, none⟩ = some (.bool false) ∧ u.cell? ⟨w9.heap.size, 1, none⟩ = some (.slice A9 0 c9) ∧ u.cell? ⟨w9.heap.size + 1, 0, none⟩ = some (.int .i64 4) ∧ u.cell? ⟨w9.heap.size + 1, 1, none⟩ = some (.int .i64 (-2))) (first | with_reducible exact HS.out _ G0 | with_reducible exact HS.out _ B2 | with_reducible exact HS.out _ B1 | fail)
            (first
              | (go_at_call 25; (with_reducible refine (at_any _ _ _).mono ?_); rintro e u1 ⟨rfl, hB1⟩; have B1 : Below w14.heap.size w14 u1 := bnext G0 hB1)
              | (go_at_call 26; (with_reducible refine (noInt_any _ false A9 0 c9 (by omega)).mono ?_); rintro e u2 ⟨rfl, hB2⟩; have B2 : Below w14.heap.size w14 u2 := bnext B1 hB2; rw [show (!false && decide (0 = 0)) = true from rfl])
              | fail)
          all_goals (go_wp2_with fail)
          all_goals go_meet
          all_goals (case rel => exact E0.trans (B2.mono E0.size))
      · obtain rfl : va = true := HVA.out.symm.trans oa
        have hn1 : (0 : Int) ≤ (n : Int) := by omega
        have hn2 : (n : Int) ≤ 10000 := by omega
        have YY := Lib.hid hyr
        clear hyr
        have t_PA0 : w14.cell? ⟨w.heap.size, 0, none⟩ = some ((.bool a.neg)) := PA.c0
        have t_PA1 : w14.cell? ⟨w.heap.size, 1, none⟩ = some ((.slice a.A a.n a.c)) := PA.c1
        go_wp2_with fail
        clear t_PA0 t_PA1
        (with_reducible refine (intOf_any _ w.heap.size a.neg a.A a.n a.c a.xs HA (by omega) (by have := HA.len.out; have := (IV.vld oa).2; omega)).mono ?_)
        rintro e w15 ⟨mp, Ap, kp, cp, xp, vp, rfl, hdp, hrp, hvp, hb15⟩
        have sw15 := hb15.size
        replace HA : LRd w15 (w.heap.size) a.A a.n a.c a.xs := HA.below hb15 (by omega)
        replace PA : Bk2 w15 (w.heap.size) (.bool a.neg) (.slice a.A a.n a.c) := PA.below hb15 PA.lt
        replace hl9 : LRd w15 (w9.heap.size) A9 k9 c9 x9 := hl9.below hb15 (by omega)
        replace P9 : Bk2 w15 (w9.heap.size) (.bool n9) (.slice A9 k9 c9) := P9.below hb15 P9.lt
        replace F10 : Bk2 w15 (w9.heap.size + 1) (.int .i64 g1) (.int .i64 g2) := F10.below hb15 F10.lt
        replace E0 : Below w13.heap.size w13 w15 := E0.trans (hb15.mono E0.size)
        clear hb15
        have VP := Lib.hid (show sval mp vp = a.val from hvp)
        have KP := len512 hrp hdp.len.out (top_sq (by have := abs_sval VP.out; have e2 := IV.abs a; have := lt128 (⟨HA.lim, rfl, (vld_top (IV.vld oa).1).1⟩ : Rep 4294967296 a.xs (vb 4294967296 a.xs)) rfl (IV.vld oa).2; omega))
        have RP := Lib.hid hrp
        clear hrp hvp
        go_wp2_with fail
        refine (raised_any _ w15.heap.size mp Ap kp cp vp n xp hdp (by omega) RP.out KP hn).mono ?_
        rintro e w16 hrs
        rw [VP.out] at hrs
        rcases hrs with ⟨mr, Ar, kr, cr, xr, vr, rfl, hdr, hrr, hvr, hsm, hb16⟩ | ⟨rfl, hbig, hb16⟩
        · have sw16 := hb16.size
          obtain ⟨rfl, rfl, rfl⟩ : z9 = a.val ^ n ∧ g1 = 0 ∧ g2 = 0 := by
            rcases YY.out with ⟨_, h1, h2, h3⟩ | ⟨h1, _⟩
            · exact ⟨h1, h2, h3⟩
            · exact absurd hsm (Nat.not_lt_of_le h1)
          have KR := len512 hrr hdr.len.out (top_sq (by have := abs_sval hvr; omega))
          have RR := Lib.hid hrr
          have VR := Lib.hid hvr
          have SM := Lib.hid hsm
          clear hrr hvr hsm
          clear hdp
          replace HA : LRd w16 (w.heap.size) a.A a.n a.c a.xs := HA.below hb16 (by omega)
          replace PA : Bk2 w16 (w.heap.size) (.bool a.neg) (.slice a.A a.n a.c) := PA.below hb16 PA.lt
          replace hl9 : LRd w16 (w9.heap.size) A9 k9 c9 x9 := hl9.below hb16 (by omega)
          replace P9 : Bk2 w16 (w9.heap.size) (.bool n9) (.slice A9 k9 c9) := P9.below hb16 P9.lt
          replace F10 : Bk2 w16 (w9.heap.size + 1) (.int .i64 0) (.int .i64 0) := F10.below hb16 F10.lt
          replace E0 : Below w13.heap.size w13 w16 := E0.trans (hb16.mono E0.size)
          clear hb16
          go_upto_region 6 with fail
          obtain ⟨V6, hV6⟩ : ∃ V6 : World, V6 = (w16.alloc (.cells #[.bool mr, .slice Ar kr cr] 37)) := ⟨_, rfl⟩
          have bV6 : Below w16.heap.size w16 V6 := by rw [hV6]; (repeat (first | with_reducible exact Below.refl _ _ | with_reducible refine Below.drew ?_ | with_reducible refine below_drewN ?_ _ | with_reducible refine Below.setCell ?_ (by first | (simp; done) | (simp; omega) | omega) _ | with_reducible refine Below.alloc ?_ (by first | (simp; done) | (simp; omega) | omega) _))
          have zV6 : w16.heap.size + 1 ≤ V6.heap.size := by rw [hV6]; simp
          have P13 : Bk2 V6 (w16.heap.size) (.bool mr) (.slice Ar kr cr) := by rw [hV6]; exact (Bk2.newAt _ _ (by simp) _ _ _)
          rw [← hV6]
          clear hV6
          replace HA : LRd V6 (w.heap.size) a.A a.n a.c a.xs := HA.below bV6 (by omega)
          replace PA : Bk2 V6 (w.heap.size) (.bool a.neg) (.slice a.A a.n a.c) := PA.below bV6 PA.lt
          replace hl9 : LRd V6 (w9.heap.size) A9 k9 c9 x9 := hl9.below bV6 (by omega)
          replace P9 : Bk2 V6 (w9.heap.size) (.bool n9) (.slice A9 k9 c9) := P9.below bV6 P9.lt
          replace F10 : Bk2 V6 (w9.heap.size + 1) (.int .i64 0) (.int .i64 0) := F10.below bV6 F10.lt
          replace E0 : Below w13.heap.size w13 V6 := E0.trans (bV6.mono E0.size)
          replace hdr : DRd V6 (w16.heap.size) Ar kr cr xr := hdr.below bV6 (by omega)
          clear bV6
          have G0 : Below V6.heap.size V6 V6.drew := Below.drew (Below.refl _ _)
          have HS := Lib.hid (fun (u : World) (hu : Below V6.heap.size V6 u) => (⟨hu, (P9.below hu P9.lt).c0, (P9.below hu P9.lt).c1, (F10.below hu F10.lt).c0, (F10.below hu F10.lt).c1, (P13.below hu P13.lt).c0, (P13.below hu P13.lt).c1⟩ : Below V6.heap.size V6 u ∧ u.cell? ⟨w9.heap.size, 0, none⟩ = some (.bool n9) ∧ u.cell? ⟨w9.heap.size, 1, none⟩ = some (.slice A9 k9 c9) ∧ u.cell? ⟨w9.heap.size + 1, 0, none⟩ = some (.int .i64 0) ∧ u.cell? ⟨w9.heap.size + 1, 1, none⟩ = some (.int .i64 0) ∧ u.cell? ⟨w16.heap.size, 0, none⟩ = some (.bool mr) ∧ u.cell? ⟨w16.heap.size, 1, none⟩ = some (.slice Ar kr cr)))
          refine wp_region_held_drew (S := (fun u => Below V6.heap.size V6 u ∧ u.cell? ⟨w9.heap.size, 0, none⟩ = some (.bool n9) ∧ u.cell? ⟨w9.heap.size, 1, none⟩ = some (.slice A9 k9 c9) ∧ u.cell? ⟨w9.heap.size + 1, 0, none⟩ = some (.int .i64 0) ∧ u.cell? ⟨w9.heap.size + 1, 1, none⟩ = some (.int .i64 0) ∧ u.cell? ⟨w16.heap.size, 0, none⟩ = some (.bool mr) ∧ u.cell? ⟨w16.heap.size, 1, none⟩ = some (.slice Ar kr cr))) (by kernel_rfl) (HS.out _ G0) (fun hHeld => ?_)
          refine takeW (i := 0) (v := ?_) rfl (by kernel_rfl) (by kernel_rfl) (by kernel_rfl) (fun _ _ _ h => h) (by rfl) (by assumption) ?_ ?_
          rotate_left 1
          · (intro w9 hSw; (try dsimp only at hSw); go_simp); (first | done | with_reducible rfl)
          try simp only [Act.put, List.setIfInBounds_toArray, List.set_cons_zero, List.set_cons_succ]
          refine takeW (i := 1) (v := ?_) rfl (by kernel_rfl) (by kernel_rfl) (by kernel_rfl) (fun _ _ _ h => h) (by rfl) (by assumption) ?_ ?_
          rotate_left 1
          · (intro w9 hSw; (try dsimp only at hSw); go_simp); (first | done | with_reducible rfl)
          try simp only [Act.put, List.setIfInBounds_toArray, List.set_cons_zero, List.set_cons_succ]
          refine takeW (i := 2) (v := ?_) rfl (by kernel_rfl) (by kernel_rfl) (by kernel_rfl) (fun _ _ _ h => h) (by rfl) (by assumption) ?_ ?_
          rotate_left 1
          · (intro w9 hSw; (try dsimp only at hSw); go_simp); (first | done | with_reducible rfl)
          try simp only [Act.put, List.setIfInBounds_toArray, List.set_cons_zero, List.set_cons_succ]
          refine takeW (i := 3) (v := ?_) rfl (by kernel_rfl) (by kernel_rfl) (by kernel_rfl) (fun _ _ _ h => h) (by rfl) (by assumption) ?_ ?_
          rotate_left 1
          · (intro w9 hSw; (try dsimp only at hSw); go_simp); (first | done | with_reducible rfl)
          try simp only [Act.put, List.setIfInBounds_toArray, List.set_cons_zero, List.set_cons_succ]
          refine takeW (i := 4) (v := ?_) rfl (by kernel_rfl) (by kernel_rfl) (by kernel_rfl) (fun _ _ _ h => h) (by rfl) (by assumption) ?_ ?_
          rotate_left 1
          · (intro w9 hSw; (try dsimp only at hSw); go_simp); (first | done | with_reducible rfl)
          try simp only [Act.put, List.setIfInBounds_toArray, List.set_cons_zero, List.set_cons_succ]
          refine takeW (i := 5) (v := ?_) rfl (by kernel_rfl) (by kernel_rfl) (by kernel_rfl) (fun _ _ _ h => h) (by rfl) (by assumption) ?_ ?_
          rotate_left 1
          · (intro w9 hSw; (try dsimp only at hSw); go_simp); (first | done | with_reducible rfl)
          try simp only [Act.put, List.setIfInBounds_toArray, List.set_cons_zero, List.set_cons_succ]
          refine readyW (i := 6) (by kernel_rfl) rfl (by rfl) (fun K hK => ?_)
          go_simp
          (go_at_call 30; (with_reducible refine (yields_any' _ _ n9 A9 k9 c9 x9 mr Ar kr cr vr xr (a.val ^ n) (a.val ^ n) 0 0 ((hl9.below G0 (by omega)).more (by have := G0.size; omega)) ((hdr.below G0 (by omega)).more (by have := G0.size; omega)) (Nat.le_refl _) (yr_fit SM.out) I9.out RR.out VR.out KR).mono ?_); rintro e u1 ⟨rfl, hb1⟩; have B1 : Below V6.heap.size V6 u1 := bnext G0 hb1)
          go_wp2_with fail
          refine hK.out _ _ (HS.out _ B1) (fun hHeld1 => ?_)
          clear hK K
          try simp only [Act.put, List.setIfInBounds_toArray, List.set_cons_zero, List.set_cons_succ]
          refine takeW (i := 7) (v := ?_) rfl (by kernel_rfl) (by kernel_rfl) (by kernel_rfl) (fun _ _ _ h => h) (by rfl) (by assumption) ?_ ?_
          rotate_left 1
          · (intro w9 hSw; (try dsimp only at hSw); go_simp); (first | done | with_reducible rfl)
          try simp only [Act.put, List.setIfInBounds_toArray, List.set_cons_zero, List.set_cons_succ]
          refine takeW (i := 8) (v := ?_) rfl (by kernel_rfl) (by kernel_rfl) (by kernel_rfl) (fun _ _ _ h => h) (by rfl) (by assumption) ?_ ?_
          rotate_left 1
          · (intro w9 hSw; (try dsimp only at hSw); go_simp); (first | done | with_reducible rfl)
          try simp only [Act.put, List.setIfInBounds_toArray, List.set_cons_zero, List.set_cons_succ]
          refine takeW (i := 9) (v := ?_) rfl (by kernel_rfl) (by kernel_rfl) (by kernel_rfl) (fun _ _ _ h => h) (by rfl) (by assumption) ?_ ?_
          rotate_left 1
          · (intro w9 hSw; (try dsimp only at hSw); go_simp); (first | done | with_reducible rfl)
          try simp only [Act.put, List.setIfInBounds_toArray, List.set_cons_zero, List.set_cons_succ]
          refine takeW (i := 10) (v := ?_) rfl (by kernel_rfl) (by kernel_rfl) (by kernel_rfl) (fun _ _ _ h => h) (by rfl) (by assumption) ?_ ?_
          rotate_left 1
          · (intro w9 hSw; (try dsimp only at hSw); go_simp); (first | done | with_reducible rfl)
          try simp only [Act.put, List.setIfInBounds_toArray, List.set_cons_zero, List.set_cons_succ]
          refine takeW (i := 11) (v := ?_) rfl (by kernel_rfl) (by kernel_rfl) (by kernel_rfl) (fun _ _ _ h => h) (by rfl) (by assumption) ?_ ?_
          rotate_left 1
          · (intro w9 hSw; (try dsimp only at hSw); go_simp); (first | done | with_reducible rfl)
          try simp only [Act.put, List.setIfInBounds_toArray, List.set_cons_zero, List.set_cons_succ]
          refine takeW (i := 12) (v := ?_) rfl (by kernel_rfl) (by kernel_rfl) (by kernel_rfl) (fun _ _ _ h => h) (by rfl) (by assumption) ?_ ?_
          rotate_left 1
          · (intro w9 hSw; (try dsimp only at hSw); go_simp); (first | done | with_reducible rfl)
          try simp only [Act.put, List.setIfInBounds_toArray, List.set_cons_zero, List.set_cons_succ]
          refine takeN (i := 13) rfl (by kernel_rfl) (by kernel_rfl) (by kernel_rfl) (fun _ _ _ h => h) (by rfl) (by assumption) ?_
          try simp only [Act.put, List.setIfInBounds_toArray, List.set_cons_zero, List.set_cons_succ]
          refine readyN (i := 14) (by kernel_rfl) rfl (by rfl) (by assumption) ?_
          try simp only [Act.put, List.setIfInBounds_toArray, List.set_cons_zero, List.set_cons_succ]
          refine takeN (i := 15) rfl (by kernel_rfl) (by kernel_rfl) (by kernel_rfl) (fun _ _ _ h => h) (by rfl) (by assumption) ?_
          try simp only [Act.put, List.setIfInBounds_toArray, List.set_cons_zero, List.set_cons_succ]
          refine takeN (i := 16) rfl (by kernel_rfl) (by kernel_rfl) (by kernel_rfl) (fun _ _ _ h => h) (by rfl) (by assumption) ?_
          try simp only [Act.put, List.setIfInBounds_toArray, List.set_cons_zero, List.set_cons_succ]
          refine takeN (i := 17) rfl (by kernel_rfl) (by kernel_rfl) (by kernel_rfl) (fun _ _ _ h => h) (by rfl) (by assumption) ?_
          try simp only [Act.put, List.setIfInBounds_toArray, List.set_cons_zero, List.set_cons_succ]
          refine readyN (i := 18) (by kernel_rfl) rfl (by rfl) (by assumption) ?_
          try simp only [Act.put, List.setIfInBounds_toArray, List.set_cons_zero, List.set_cons_succ]
          refine takeN (i := 19) rfl (by kernel_rfl) (by kernel_rfl) (by kernel_rfl) (fun _ _ _ h => h) (by rfl) (by assumption) ?_
          try simp only [Act.put, List.setIfInBounds_toArray, List.set_cons_zero, List.set_cons_succ]
          refine takeN (i := 20) rfl (by kernel_rfl) (by kernel_rfl) (by kernel_rfl) (fun _ _ _ h => h) (by rfl) (by assumption) ?_
          try simp only [Act.put, List.setIfInBounds_toArray, List.set_cons_zero, List.set_cons_succ]
          refine takeW (i := 21) (v := ?_) rfl (by kernel_rfl) (by kernel_rfl) (by kernel_rfl) (fun _ _ _ h => h) (by rfl) (by assumption) ?_ ?_
          rotate_left 1
          · (intro w9 hSw; (try dsimp only at hSw); go_simp); (first | done | with_reducible rfl)
          try simp only [Act.put, List.setIfInBounds_toArray, List.set_cons_zero, List.set_cons_succ]
          refine takeW (i := 22) (v := ?_) rfl (by kernel_rfl) (by kernel_rfl) (by kernel_rfl) (fun _ _ _ h => h) (by rfl) (by assumption) ?_ ?_
          rotate_left 1
          · (intro w9 hSw; (try dsimp only at hSw); go_simp); (first | done | with_reducible rfl)
          try simp only [Act.put, List.setIfInBounds_toArray, List.set_cons_zero, List.set_cons_succ]
          refine wpAnyH_done (by kernel_rfl) ?_ _
          go_wp2_with fail
          go_meet
          case rel => exact E0.trans (B1.mono E0.size)
        · have sw16 := hb16.size
          obtain ⟨rfl, rfl, rfl⟩ : z9 = 0 ∧ g1 = 14 ∧ g2 = -1 := by
            rcases YY.out with ⟨h1, _⟩ | ⟨_, h1, h2, h3⟩
            · exact absurd h1 (Nat.not_lt_of_le hbig)
            · exact ⟨h1, h2, h3⟩
          obtain ⟨rfl, rfl⟩ := irep_nil I9.out hl9.len.out
          clear hbig
          clear hdp hl9
          replace HA : LRd w16 (w.heap.size) a.A a.n a.c a.xs := HA.below hb16 (by omega)
          replace PA : Bk2 w16 (w.heap.size) (.bool a.neg) (.slice a.A a.n a.c) := PA.below hb16 PA.lt
          replace P9 : Bk2 w16 (w9.heap.size) (.bool false) (.slice A9 0 c9) := P9.below hb16 P9.lt
          replace F10 : Bk2 w16 (w9.heap.size + 1) (.int .i64 14) (.int .i64 (-1)) := F10.below hb16 F10.lt
          replace E0 : Below w13.heap.size w13 w16 := E0.trans (hb16.mono E0.size)
          clear hb16
          go_upto_region 6 with fail
          obtain ⟨V6, hV6⟩ : ∃ V6 : World, V6 = (w16.alloc (.cells #[.bool false, .slice none 0 0] 37)) := ⟨_, rfl⟩
          have bV6 : Below w16.heap.size w16 V6 := by rw [hV6]; (repeat (first | with_reducible exact Below.refl _ _ | with_reducible refine Below.drew ?_ | with_reducible refine below_drewN ?_ _ | with_reducible refine Below.setCell ?_ (by first | (simp; done) | (simp; omega) | omega) _ | with_reducible refine Below.alloc ?_ (by first | (simp; done) | (simp; omega) | omega) _))
          have zV6 : w16.heap.size + 1 ≤ V6.heap.size := by rw [hV6]; simp
          have P13 : Bk2 V6 (w16.heap.size) (.bool false) (.slice none 0 0) := by rw [hV6]; exact (Bk2.newAt _ _ (by simp) _ _ _)
          rw [← hV6]
          clear hV6
          replace HA : LRd V6 (w.heap.size) a.A a.n a.c a.xs := HA.below bV6 (by omega)
          replace PA : Bk2 V6 (w.heap.size) (.bool a.neg) (.slice a.A a.n a.c) := PA.below bV6 PA.lt
          replace P9 : Bk2 V6 (w9.heap.size) (.bool false) (.slice A9 0 c9) := P9.below bV6 P9.lt
          replace F10 : Bk2 V6 (w9.heap.size + 1) (.int .i64 14) (.int .i64 (-1)) := F10.below bV6 F10.lt
          replace E0 : Below w13.heap.size w13 V6 := E0.trans (bV6.mono E0.size)
          clear bV6
          have G0 : Below V6.heap.size V6 V6.drew := Below.drew (Below.refl _ _)
          have HS := Lib.hid (fun (u : World) (hu : Below V6.heap.size V6 u) => (⟨hu, (P9.below hu P9.lt).c0, (P9.below hu P9.lt).c1, (F10.below hu F10.lt).c0, (F10.below hu F10.lt).c1, (P13.below hu P13.lt).c0, (P13.below hu P13.lt).c1⟩ : Below V6.heap.size V6 u ∧ u.cell? ⟨w9.heap.size, 0, none⟩ = some (.bool false) ∧ u.cell? ⟨w9.heap.size, 1, none⟩ = some (.slice A9 0 c9) ∧ u.cell? ⟨w9.heap.size + 1, 0, none⟩ = some (.int .i64 14) ∧ u.cell? ⟨w9.heap.size + 1, 1, none⟩ = some (.int .i64 (-1)) ∧ u.cell? ⟨w16.heap.size, 0, none⟩ = some (.bool false) ∧ u.cell? ⟨w16.heap.size, 1, none⟩ = some (.slice none 0 0)))
          refine wp_region_held_drew (S := (fun u => Below V6.heap.size V6 u ∧ u.cell? ⟨w9.heap.size, 0, none⟩ = some (.bool false) ∧ u.cell? ⟨w9.heap.size, 1, none⟩ = some (.slice A9 0 c9) ∧ u.cell? ⟨w9.heap.size + 1, 0, none⟩ = some (.int .i64 14) ∧ u.cell? ⟨w9.heap.size + 1, 1, none⟩ = some (.int .i64 (-1)) ∧ u.cell? ⟨w16.heap.size, 0, none⟩ = some (.bool false) ∧ u.cell? ⟨w16.heap.size, 1, none⟩ = some (.slice none 0 0))) (by kernel_rfl) (HS.out _ G0) (fun hHeld => ?_)
          refine takeW (i := 0) (v := ?_) rfl (by kernel_rfl) (by kernel_rfl) (by kernel_rfl) (fun _ _ _ h => h) (by rfl) (by assumption) ?_ ?_
          rotate_left 1
          · (intro w9 hSw; (try dsimp only at hSw); go_simp); (first | done | with_reducible rfl)
          try simp only [Act.put, List.setIfInBounds_toArray, List.set_cons_zero, List.set_cons_succ]
          refine takeW (i := 1) (v := ?_) rfl (by kernel_rfl) (by kernel_rfl) (by kernel_rfl) (fun _ _ _ h => h) (by rfl) (by assumption) ?_ ?_
          rotate_left 1
          · (intro w9 hSw; (try dsimp only at hSw); go_simp); (first | done | with_reducible rfl)
          try simp only [Act.put, List.setIfInBounds_toArray, List.set_cons_zero, List.set_cons_succ]
          refine takeN (i := 2) rfl (by kernel_rfl) (by kernel_rfl) (by kernel_rfl) (fun _ _ _ h => h) (by rfl) (by assumption) ?_
          try simp only [Act.put, List.setIfInBounds_toArray, List.set_cons_zero, List.set_cons_succ]
          refine takeN (i := 3) rfl (by kernel_rfl) (by kernel_rfl) (by kernel_rfl) (fun _ _ _ h => h) (by rfl) (by assumption) ?_
          try simp only [Act.put, List.setIfInBounds_toArray, List.set_cons_zero, List.set_cons_succ]
          refine takeN (i := 4) rfl (by kernel_rfl) (by kernel_rfl) (by kernel_rfl) (fun _ _ _ h => h) (by rfl) (by assumption) ?_
          try simp only [Act.put, List.setIfInBounds_toArray, List.set_cons_zero, List.set_cons_succ]
          refine takeN (i := 5) rfl (by kernel_rfl) (by kernel_rfl) (by kernel_rfl) (fun _ _ _ h => h) (by rfl) (by assumption) ?_
          try simp only [Act.put, List.setIfInBounds_toArray, List.set_cons_zero, List.set_cons_succ]
          refine readyN (i := 6) (by kernel_rfl) rfl (by rfl) (by assumption) ?_
          try simp only [Act.put, List.setIfInBounds_toArray, List.set_cons_zero, List.set_cons_succ]
          refine takeN (i := 7) rfl (by kernel_rfl) (by kernel_rfl) (by kernel_rfl) (fun _ _ _ h => h) (by rfl) (by assumption) ?_
          try simp only [Act.put, List.setIfInBounds_toArray, List.set_cons_zero, List.set_cons_succ]
          refine takeW (i := 8) (v := ?_) rfl (by kernel_rfl) (by kernel_rfl) (by kernel_rfl) (fun _ _ _ h => h) (by rfl) (by assumption) ?_ ?_
          rotate_left 1
          · (intro w9 hSw; (try dsimp only at hSw); go_simp); (first | done | with_reducible rfl)
          try simp only [Act.put, List.setIfInBounds_toArray, List.set_cons_zero, List.set_cons_succ]
          refine takeW (i := 9) (v := ?_) rfl (by kernel_rfl) (by kernel_rfl) (by kernel_rfl) (fun _ _ _ h => h) (by rfl) (by assumption) ?_ ?_
          rotate_left 1
          · (intro w9 hSw; (try dsimp only at hSw); go_simp); (first | done | with_reducible rfl)
          try simp only [Act.put, List.setIfInBounds_toArray, List.set_cons_zero, List.set_cons_succ]
          refine takeW (i := 10) (v := ?_) rfl (by kernel_rfl) (by kernel_rfl) (by kernel_rfl) (fun _ _ _ h => h) (by rfl) (by assumption) ?_ ?_
          rotate_left 1
          · (intro w9 hSw; (try dsimp only at hSw); go_simp); (first | done | with_reducible rfl)
          try simp only [Act.put, List.setIfInBounds_toArray, List.set_cons_zero, List.set_cons_succ]
          refine takeW (i := 11) (v := ?_) rfl (by kernel_rfl) (by kernel_rfl) (by kernel_rfl) (fun _ _ _ h => h) (by rfl) (by assumption) ?_ ?_
          rotate_left 1
          · (intro w9 hSw; (try dsimp only at hSw); go_simp); (first | done | with_reducible rfl)
          try simp only [Act.put, List.setIfInBounds_toArray, List.set_cons_zero, List.set_cons_succ]
          refine takeW (i := 12) (v := ?_) rfl (by kernel_rfl) (by kernel_rfl) (by kernel_rfl) (fun _ _ _ h => h) (by rfl) (by assumption) ?_ ?_
          rotate_left 1
          · (intro w9 hSw; (try dsimp only at hSw); go_simp); (first | done | with_reducible rfl)
          try simp only [Act.put, List.setIfInBounds_toArray, List.set_cons_zero, List.set_cons_succ]
          refine takeW (i := 13) (v := ?_) rfl (by kernel_rfl) (by kernel_rfl) (by kernel_rfl) (fun _ _ _ h => h) (by rfl) (by assumption) ?_ ?_
          rotate_left 1
          · (intro w9 hSw; (try dsimp only at hSw); go_simp); (first | done | with_reducible rfl)
          try simp only [Act.put, List.setIfInBounds_toArray, List.set_cons_zero, List.set_cons_succ]
          refine readyW (i := 14) (by kernel_rfl) rfl (by rfl) (fun K hK => ?_)
          go_simp
          (go_at_call 25; (with_reducible refine (at_any _ _ _).mono ?_); rintro e u1 ⟨rfl, hB1⟩; have B1 : Below V6.heap.size V6 u1 := bnext G0 hB1)
          go_wp2_with fail
          refine hK.out _ _ (HS.out _ B1) (fun hHeld1 => ?_)
          clear hK K
          try simp only [Act.put, List.setIfInBounds_toArray, List.set_cons_zero, List.set_cons_succ]
          refine takeW (i := 15) (v := ?_) rfl (by kernel_rfl) (by kernel_rfl) (by kernel_rfl) (fun _ _ _ h => h) (by rfl) (by assumption) ?_ ?_
          rotate_left 1
          · (intro w9 hSw; (try dsimp only at hSw); go_simp); (first | done | with_reducible rfl)
          try simp only [Act.put, List.setIfInBounds_toArray, List.set_cons_zero, List.set_cons_succ]
          refine takeW (i := 16) (v := ?_) rfl (by kernel_rfl) (by kernel_rfl) (by kernel_rfl) (fun _ _ _ h => h) (by rfl) (by assumption) ?_ ?_
          rotate_left 1
          · (intro w9 hSw; (try dsimp only at hSw); go_simp); (first | done | with_reducible rfl)
          try simp only [Act.put, List.setIfInBounds_toArray, List.set_cons_zero, List.set_cons_succ]
          refine takeW (i := 17) (v := ?_) rfl (by kernel_rfl) (by kernel_rfl) (by kernel_rfl) (fun _ _ _ h => h) (by rfl) (by assumption) ?_ ?_
          rotate_left 1
          · (intro w9 hSw; (try dsimp only at hSw); go_simp); (first | done | with_reducible rfl)
          try simp only [Act.put, List.setIfInBounds_toArray, List.set_cons_zero, List.set_cons_succ]
          refine readyW (i := 18) (by kernel_rfl) rfl (by rfl) (fun K hK => ?_)
          go_simp
          (go_at_call 26; (with_reducible refine (noInt_any _ false A9 0 c9 (by omega)).mono ?_); rintro e u2 ⟨rfl, hB2⟩; have B2 : Below V6.heap.size V6 u2 := bnext B1 hB2; rw [show (!false && decide (0 = 0)) = true from rfl])
          go_wp2_with fail
          refine hK.out _ _ (HS.out _ B2) (fun hHeld2 => ?_)
          clear hK K
          try simp only [Act.put, List.setIfInBounds_toArray, List.set_cons_zero, List.set_cons_succ]
          refine takeW (i := 19) (v := ?_) rfl (by kernel_rfl) (by kernel_rfl) (by kernel_rfl) (fun _ _ _ h => h) (by rfl) (by assumption) ?_ ?_
          rotate_left 1
          · (intro w9 hSw; (try dsimp only at hSw); go_simp); (first | done | with_reducible rfl)
          try simp only [Act.put, List.setIfInBounds_toArray, List.set_cons_zero, List.set_cons_succ]
          refine takeW (i := 20) (v := ?_) rfl (by kernel_rfl) (by kernel_rfl) (by kernel_rfl) (fun _ _ _ h => h) (by rfl) (by assumption) ?_ ?_
          rotate_left 1
          · (intro w9 hSw; (try dsimp only at hSw); go_simp); (first | done | with_reducible rfl)
          try simp only [Act.put, List.setIfInBounds_toArray, List.set_cons_zero, List.set_cons_succ]
          refine takeW (i := 21) (v := ?_) rfl (by kernel_rfl) (by kernel_rfl) (by kernel_rfl) (fun _ _ _ h => h) (by rfl) (by assumption) ?_ ?_
          rotate_left 1
          · (intro w9 hSw; (try dsimp only at hSw); go_simp); (first | done | with_reducible rfl)
          try simp only [Act.put, List.setIfInBounds_toArray, List.set_cons_zero, List.set_cons_succ]
          refine takeW (i := 22) (v := ?_) rfl (by kernel_rfl) (by kernel_rfl) (by kernel_rfl) (fun _ _ _ h => h) (by rfl) (by assumption) ?_ ?_
          rotate_left 1
          · (intro w9 hSw; (try dsimp only at hSw); go_simp); (first | done | with_reducible rfl)
          try simp only [Act.put, List.setIfInBounds_toArray, List.set_cons_zero, List.set_cons_succ]
          refine wpAnyH_done (by kernel_rfl) ?_ _
          go_wp2_with fail
          go_meet
          case rel => exact E0.trans (B2.mono E0.size)
  case rest =>
  have sX := hcut.size
  clear P9 F10 hl9
  replace E : Below w.heap.size w wc := E.trans (hcut.mono E.size)
  replace HA : LRd wc (w.heap.size) a.A a.n a.c a.xs := HA.below hcut (by omega)
  replace HB : LRd wc (w.heap.size) b.A b.n b.c b.xs := HB.below hcut (by omega)
  replace HC : LRd wc (w.heap.size) c.A c.n c.c c.xs := HC.below hcut (by omega)
  replace PA : Bk2 wc (w.heap.size) (.bool a.neg) (.slice a.A a.n a.c) := PA.below hcut PA.lt
  replace PB : Bk2 wc (w.heap.size + 1) (.bool b.neg) (.slice b.A b.n b.c) := PB.below hcut PB.lt
  replace PC : Bk2 wc (w.heap.size + 2) (.bool c.neg) (.slice c.A c.n c.c) := PC.below hcut PC.lt
  replace hl11 : LRd wc (w11.heap.size) A11 k11 c11 x11 := hl11.below hcut (by omega)
  replace P11 : Bk2 wc (w11.heap.size) (.bool n11) (.slice A11 k11 c11) := P11.below hcut P11.lt
  replace F12 : Bk2 wc (w11.heap.size + 1) (.int .i64 0) (.int .i64 0) := F12.below hcut F12.lt
  clear hcut
  have IR := Lib.hid (irow3 wc w.heap.size a b c HA HB HC (by omega))
  have p_PA0 : wc.cell? ⟨w.heap.size, 0, none⟩ = some ((.bool a.neg)) := PA.c0
  have p_PA1 : wc.cell? ⟨w.heap.size, 1, none⟩ = some ((.slice a.A a.n a.c)) := PA.c1
  have p_PB0 : wc.cell? ⟨w.heap.size + 1, 0, none⟩ = some ((.bool b.neg)) := PB.c0
  have p_PB1 : wc.cell? ⟨w.heap.size + 1, 1, none⟩ = some ((.slice b.A b.n b.c)) := PB.c1
  have p_PC0 : wc.cell? ⟨w.heap.size + 2, 0, none⟩ = some ((.bool c.neg)) := PC.c0
  have p_PC1 : wc.cell? ⟨w.heap.size + 2, 1, none⟩ = some ((.slice c.A c.n c.c)) := PC.c1
  go_wp2_with fail
  clear p_PA0 p_PA1 p_PB0 p_PB1 p_PC0 p_PC1
  obtain ⟨V3, hV3⟩ : ∃ V3 : World, V3 = (wc.alloc (.cells #[.bool a.neg, .slice a.A a.n a.c, .bool b.neg, .slice b.A b.n b.c, .bool c.neg, .slice c.A c.n c.c] 24)) := ⟨_, rfl⟩
  have bV3 : Below wc.heap.size wc V3 := by rw [hV3]; (repeat (first | with_reducible exact Below.refl _ _ | with_reducible refine Below.drew ?_ | with_reducible refine below_drewN ?_ _ | with_reducible refine Below.setCell ?_ (by first | (simp; done) | (simp; omega) | omega) _ | with_reducible refine Below.alloc ?_ (by first | (simp; done) | (simp; omega) | omega) _))
  have zV3 : wc.heap.size + 1 ≤ V3.heap.size := by rw [hV3]; simp
  replace IR : Hid (IRow V3 w.heap.size wc.heap.size [a, b, c]) := by have h9 := IR.out; rw [hV3]; exact h9
  rw [← hV3]
  clear hV3
  replace E : Below w.heap.size w V3 := E.trans (bV3.mono E.size)
  replace HA : LRd V3 (w.heap.size) a.A a.n a.c a.xs := HA.below bV3 (by omega)
  replace HB : LRd V3 (w.heap.size) b.A b.n b.c b.xs := HB.below bV3 (by omega)
  replace HC : LRd V3 (w.heap.size) c.A c.n c.c c.xs := HC.below bV3 (by omega)
  replace PA : Bk2 V3 (w.heap.size) (.bool a.neg) (.slice a.A a.n a.c) := PA.below bV3 PA.lt
  replace PB : Bk2 V3 (w.heap.size + 1) (.bool b.neg) (.slice b.A b.n b.c) := PB.below bV3 PB.lt
  replace PC : Bk2 V3 (w.heap.size + 2) (.bool c.neg) (.slice c.A c.n c.c) := PC.below bV3 PC.lt
  replace hl11 : LRd V3 (w11.heap.size) A11 k11 c11 x11 := hl11.below bV3 (by omega)
  replace P11 : Bk2 V3 (w11.heap.size) (.bool n11) (.slice A11 k11 c11) := P11.below bV3 P11.lt
  replace F12 : Bk2 V3 (w11.heap.size + 1) (.int .i64 0) (.int .i64 0) := F12.below bV3 F12.lt
  clear bV3
  (with_reducible refine (faults_any _ w.heap.size wc.heap.size 3 [a, b, c] IR.out rfl (by omega) (by omega)).mono ?_)
  rintro e w20 ⟨rfl, hb20⟩
  have sw20 := hb20.size
  replace E : Below w.heap.size w w20 := E.trans (hb20.mono E.size)
  replace HA : LRd w20 (w.heap.size) a.A a.n a.c a.xs := HA.below hb20 (by omega)
  replace HB : LRd w20 (w.heap.size) b.A b.n b.c b.xs := HB.below hb20 (by omega)
  replace HC : LRd w20 (w.heap.size) c.A c.n c.c c.xs := HC.below hb20 (by omega)
  replace PA : Bk2 w20 (w.heap.size) (.bool a.neg) (.slice a.A a.n a.c) := PA.below hb20 PA.lt
  replace PB : Bk2 w20 (w.heap.size + 1) (.bool b.neg) (.slice b.A b.n b.c) := PB.below hb20 PB.lt
  replace PC : Bk2 w20 (w.heap.size + 2) (.bool c.neg) (.slice c.A c.n c.c) := PC.below hb20 PC.lt
  replace hl11 : LRd w20 (w11.heap.size) A11 k11 c11 x11 := hl11.below hb20 (by omega)
  replace P11 : Bk2 w20 (w11.heap.size) (.bool n11) (.slice A11 k11 c11) := P11.below hb20 P11.lt
  replace F12 : Bk2 w20 (w11.heap.size + 1) (.int .i64 0) (.int .i64 0) := F12.below hb20 F12.lt
  clear hb20
  rw [hf]
  clear IR
  have t_PB0 : (w20.alloc (.cells #[.int .i64 0, .int .i64 0] 26)).cell? ⟨w.heap.size + 1, 0, none⟩ = some ((.bool b.neg)) := (PB.alloc _).c0
  have t_PB1 : (w20.alloc (.cells #[.int .i64 0, .int .i64 0] 26)).cell? ⟨w.heap.size + 1, 1, none⟩ = some ((.slice b.A b.n b.c)) := (PB.alloc _).c1
  have t_PC0 : (w20.alloc (.cells #[.int .i64 0, .int .i64 0] 26)).cell? ⟨w.heap.size + 2, 0, none⟩ = some ((.bool c.neg)) := (PC.alloc _).c0
  have t_PC1 : (w20.alloc (.cells #[.int .i64 0, .int .i64 0] 26)).cell? ⟨w.heap.size + 2, 1, none⟩ = some ((.slice c.A c.n c.c)) := (PC.alloc _).c1
  go_upto_region 15 with fail
  clear t_PB0 t_PB1 t_PC0 t_PC1
  obtain ⟨V4, hV4⟩ : ∃ V4 : World, V4 = (w20.alloc (.cells #[.int .i64 0, .int .i64 0] 26)) := ⟨_, rfl⟩
  have bV4 : Below w20.heap.size w20 V4 := by rw [hV4]; (repeat (first | with_reducible exact Below.refl _ _ | with_reducible refine Below.drew ?_ | with_reducible refine below_drewN ?_ _ | with_reducible refine Below.setCell ?_ (by first | (simp; done) | (simp; omega) | omega) _ | with_reducible refine Below.alloc ?_ (by first | (simp; done) | (simp; omega) | omega) _))
  have zV4 : w20.heap.size + 1 ≤ V4.heap.size := by rw [hV4]; simp
  have F15 : Bk2 V4 (w20.heap.size) (.int .i64 0) (.int .i64 0) := by rw [hV4]; exact (Bk2.newAt _ _ (by simp) _ _ _)
  rw [← hV4]
  clear hV4
  replace E : Below w.heap.size w V4 := E.trans (bV4.mono E.size)
  replace HA : LRd V4 (w.heap.size) a.A a.n a.c a.xs := HA.below bV4 (by omega)
  replace HB : LRd V4 (w.heap.size) b.A b.n b.c b.xs := HB.below bV4 (by omega)
  replace HC : LRd V4 (w.heap.size) c.A c.n c.c c.xs := HC.below bV4 (by omega)
  replace PA : Bk2 V4 (w.heap.size) (.bool a.neg) (.slice a.A a.n a.c) := PA.below bV4 PA.lt
  replace PB : Bk2 V4 (w.heap.size + 1) (.bool b.neg) (.slice b.A b.n b.c) := PB.below bV4 PB.lt
  replace PC : Bk2 V4 (w.heap.size + 2) (.bool c.neg) (.slice c.A c.n c.c) := PC.below bV4 PC.lt
  replace hl11 : LRd V4 (w11.heap.size) A11 k11 c11 x11 := hl11.below bV4 (by omega)
  replace P11 : Bk2 V4 (w11.heap.size) (.bool n11) (.slice A11 k11 c11) := P11.below bV4 P11.lt
  replace F12 : Bk2 V4 (w11.heap.size + 1) (.int .i64 0) (.int .i64 0) := F12.below bV4 F12.lt
  clear bV4
  rw [hb.out] at PB
  rw [hc.out] at PC
  have TC := Lib.hid (show vb 4294967296 c.xs < Top128 from lt128 (⟨HC.lim, rfl, (vld_top (IV.vld oc).1).1⟩ : Rep 4294967296 c.xs (vb 4294967296 c.xs)) rfl (IV.vld oc).2)
  have MP := Lib.hid (show 0 < vb 4294967296 c.xs from rep_pos4' (⟨HC.lim, rfl, (vld_top (IV.vld oc).1).1⟩ : Rep 4294967296 c.xs (vb 4294967296 c.xs)) HC.len.out h0)
  have CV := Lib.hid (show c.val = sval false (vb 4294967296 c.xs) by rw [sval_val, hc.out])
  have CP := Lib.hid (show 0 < c.val by have h1 : c.val = ((vb 4294967296 c.xs : Nat) : Int) := CV.out; have := MP.out; omega)
  have CT := Lib.hid (show c.val.natAbs < Top128 by rw [IV.abs]; exact TC.out)
  have hcl : c.n ≤ 128 := by have := HC.len.out; have := (IV.vld oc).2; omega
  have hbl : b.n ≤ 128 := by have := HB.len.out; have := (IV.vld ob).2; omega
  have t_F150 : V4.cell? ⟨w20.heap.size, 0, none⟩ = some ((.int .i64 0)) := F15.c0
  have t_F151 : V4.cell? ⟨w20.heap.size, 1, none⟩ = some ((.int .i64 0)) := F15.c1
  have t_PB0 : V4.cell? ⟨w.heap.size + 1, 0, none⟩ = some ((.bool false)) := PB.c0
  have t_PB1 : V4.cell? ⟨w.heap.size + 1, 1, none⟩ = some ((.slice b.A b.n b.c)) := PB.c1
  have t_PC0 : V4.cell? ⟨w.heap.size + 2, 0, none⟩ = some ((.bool false)) := PC.c0
  have t_PC1 : V4.cell? ⟨w.heap.size + 2, 1, none⟩ = some ((.slice c.A c.n c.c)) := PC.c1
  go_wp2_with fail
  clear t_F150 t_F151 t_PB0 t_PB1 t_PC0 t_PC1
  (with_reducible refine (noInt_any _ false c.A c.n c.c (by omega)).mono ?_)
  rintro e w24 ⟨rfl, hq0⟩
  have sw24 := hq0.size
  replace E : Below w.heap.size w w24 := E.trans (hq0.mono E.size)
  replace HA : LRd w24 (w.heap.size) a.A a.n a.c a.xs := HA.below hq0 (by omega)
  replace HB : LRd w24 (w.heap.size) b.A b.n b.c b.xs := HB.below hq0 (by omega)
  replace HC : LRd w24 (w.heap.size) c.A c.n c.c c.xs := HC.below hq0 (by omega)
  replace PA : Bk2 w24 (w.heap.size) (.bool a.neg) (.slice a.A a.n a.c) := PA.below hq0 PA.lt
  replace PB : Bk2 w24 (w.heap.size + 1) (.bool false) (.slice b.A b.n b.c) := PB.below hq0 PB.lt
  replace PC : Bk2 w24 (w.heap.size + 2) (.bool false) (.slice c.A c.n c.c) := PC.below hq0 PC.lt
  replace hl11 : LRd w24 (w11.heap.size) A11 k11 c11 x11 := hl11.below hq0 (by omega)
  replace P11 : Bk2 w24 (w11.heap.size) (.bool n11) (.slice A11 k11 c11) := P11.below hq0 P11.lt
  replace F12 : Bk2 w24 (w11.heap.size + 1) (.int .i64 0) (.int .i64 0) := F12.below hq0 F12.lt
  replace F15 : Bk2 w24 (w20.heap.size) (.int .i64 0) (.int .i64 0) := F15.below hq0 F15.lt
  clear hq0
  rw [show (!false && decide (c.n = 0)) = false by rw [decide_eq_false (by omega)]; rfl]
  have t_F150 : w24.cell? ⟨w20.heap.size, 0, none⟩ = some ((.int .i64 0)) := F15.c0
  have t_F151 : w24.cell? ⟨w20.heap.size, 1, none⟩ = some ((.int .i64 0)) := F15.c1
  have t_PC0 : w24.cell? ⟨w.heap.size + 2, 0, none⟩ = some ((.bool false)) := PC.c0
  have t_PC1 : w24.cell? ⟨w.heap.size + 2, 1, none⟩ = some ((.slice c.A c.n c.c)) := PC.c1
  go_wp2_with fail
  clear t_F150 t_F151 t_PC0 t_PC1
  clear F15
  (with_reducible refine (intOf_any _ w.heap.size false c.A c.n c.c c.xs HC (by omega) (by omega)).mono ?_)
  rintro e w25 ⟨mM, AM, kM, cM, xM, vM, rfl, hdM, hrM, hvM, hbM⟩
  have sw25 := hbM.size
  replace E : Below w.heap.size w w25 := E.trans (hbM.mono E.size)
  replace HA : LRd w25 (w.heap.size) a.A a.n a.c a.xs := HA.below hbM (by omega)
  replace HB : LRd w25 (w.heap.size) b.A b.n b.c b.xs := HB.below hbM (by omega)
  replace HC : LRd w25 (w.heap.size) c.A c.n c.c c.xs := HC.below hbM (by omega)
  replace PA : Bk2 w25 (w.heap.size) (.bool a.neg) (.slice a.A a.n a.c) := PA.below hbM PA.lt
  replace PB : Bk2 w25 (w.heap.size + 1) (.bool false) (.slice b.A b.n b.c) := PB.below hbM PB.lt
  replace PC : Bk2 w25 (w.heap.size + 2) (.bool false) (.slice c.A c.n c.c) := PC.below hbM PC.lt
  replace hl11 : LRd w25 (w11.heap.size) A11 k11 c11 x11 := hl11.below hbM (by omega)
  replace P11 : Bk2 w25 (w11.heap.size) (.bool n11) (.slice A11 k11 c11) := P11.below hbM P11.lt
  replace F12 : Bk2 w25 (w11.heap.size + 1) (.int .i64 0) (.int .i64 0) := F12.below hbM F12.lt
  clear hbM
  have VM := Lib.hid (show sval mM vM = c.val by rw [CV.out]; exact hvM)
  have KM := len512 hrM hdM.len.out (top_sq (by have := abs_sval VM.out; have := CT.out; omega))
  have hvM0 : 0 < vM := by have := abs_sval VM.out; have := CP.out; omega
  have RM := Lib.hid hrM
  clear hrM hvM
  go_wp2_with fail
  (with_reducible refine (number_any _ 1 (by omega) (by omega)).mono ?_)
  rintro e w26 ⟨m1, A1, k1, c1, x1, v1, rfl, hd1, hr1, hv1, hbN⟩
  have sw26 := hbN.size
  replace E : Below w.heap.size w w26 := E.trans (hbN.mono E.size)
  replace HA : LRd w26 (w.heap.size) a.A a.n a.c a.xs := HA.below hbN (by omega)
  replace HB : LRd w26 (w.heap.size) b.A b.n b.c b.xs := HB.below hbN (by omega)
  replace HC : LRd w26 (w.heap.size) c.A c.n c.c c.xs := HC.below hbN (by omega)
  replace PA : Bk2 w26 (w.heap.size) (.bool a.neg) (.slice a.A a.n a.c) := PA.below hbN PA.lt
  replace PB : Bk2 w26 (w.heap.size + 1) (.bool false) (.slice b.A b.n b.c) := PB.below hbN PB.lt
  replace PC : Bk2 w26 (w.heap.size + 2) (.bool false) (.slice c.A c.n c.c) := PC.below hbN PC.lt
  replace hl11 : LRd w26 (w11.heap.size) A11 k11 c11 x11 := hl11.below hbN (by omega)
  replace P11 : Bk2 w26 (w11.heap.size) (.bool n11) (.slice A11 k11 c11) := P11.below hbN P11.lt
  replace F12 : Bk2 w26 (w11.heap.size + 1) (.int .i64 0) (.int .i64 0) := F12.below hbN F12.lt
  replace hdM : DRd w26 (w25.heap.size) AM kM cM xM := hdM.below hbN (by omega)
  clear hbN
  have V1 := Lib.hid hv1
  have K1 := len512 hr1 hd1.len.out (top_sq (by have := abs_sval hv1; have := top_i64; omega))
  have R1 := Lib.hid hr1
  clear hr1 hv1
  have t_PB0 : ((w26.alloc (.cells #[.bool mM, .slice AM kM cM] 37)).alloc (.cells #[.bool m1, .slice A1 k1 c1] 37)).cell? ⟨w.heap.size + 1, 0, none⟩ = some ((.bool false)) := ((PB.alloc _).alloc _).c0
  have t_PB1 : ((w26.alloc (.cells #[.bool mM, .slice AM kM cM] 37)).alloc (.cells #[.bool m1, .slice A1 k1 c1] 37)).cell? ⟨w.heap.size + 1, 1, none⟩ = some ((.slice b.A b.n b.c)) := ((PB.alloc _).alloc _).c1
  go_wp2_with fail
  clear t_PB0 t_PB1
  obtain ⟨V8, hV8⟩ : ∃ V8 : World, V8 = ((w26.alloc (.cells #[.bool mM, .slice AM kM cM] 37)).alloc (.cells #[.bool m1, .slice A1 k1 c1] 37)) := ⟨_, rfl⟩
  have bV8 : Below w26.heap.size w26 V8 := by rw [hV8]; (repeat (first | with_reducible exact Below.refl _ _ | with_reducible refine Below.drew ?_ | with_reducible refine below_drewN ?_ _ | with_reducible refine Below.setCell ?_ (by first | (simp; done) | (simp; omega) | omega) _ | with_reducible refine Below.alloc ?_ (by first | (simp; done) | (simp; omega) | omega) _))
  have zV8 : w26.heap.size + 2 ≤ V8.heap.size := by rw [hV8]; simp
  have P16 : Bk2 V8 (w26.heap.size) (.bool mM) (.slice AM kM cM) := by rw [hV8]; exact ((Bk2.newAt _ _ (by simp) _ _ _).alloc _)
  have P17 : Bk2 V8 (w26.heap.size + 1) (.bool m1) (.slice A1 k1 c1) := by rw [hV8]; exact (Bk2.newAt _ _ (by simp) _ _ _)
  rw [← hV8]
  clear hV8
  replace E : Below w.heap.size w V8 := E.trans (bV8.mono E.size)
  replace HA : LRd V8 (w.heap.size) a.A a.n a.c a.xs := HA.below bV8 (by omega)
  replace HB : LRd V8 (w.heap.size) b.A b.n b.c b.xs := HB.below bV8 (by omega)
  replace HC : LRd V8 (w.heap.size) c.A c.n c.c c.xs := HC.below bV8 (by omega)
  replace PA : Bk2 V8 (w.heap.size) (.bool a.neg) (.slice a.A a.n a.c) := PA.below bV8 PA.lt
  replace PB : Bk2 V8 (w.heap.size + 1) (.bool false) (.slice b.A b.n b.c) := PB.below bV8 PB.lt
  replace PC : Bk2 V8 (w.heap.size + 2) (.bool false) (.slice c.A c.n c.c) := PC.below bV8 PC.lt
  replace hl11 : LRd V8 (w11.heap.size) A11 k11 c11 x11 := hl11.below bV8 (by omega)
  replace P11 : Bk2 V8 (w11.heap.size) (.bool n11) (.slice A11 k11 c11) := P11.below bV8 P11.lt
  replace F12 : Bk2 V8 (w11.heap.size + 1) (.int .i64 0) (.int .i64 0) := F12.below bV8 F12.lt
  replace hdM : DRd V8 (w25.heap.size) AM kM cM xM := hdM.below bV8 (by omega)
  replace hd1 : DRd V8 (w26.heap.size) A1 k1 c1 x1 := hd1.below bV8 (by omega)
  clear bV8
  (with_reducible refine (noInt_any _ false b.A b.n b.c (by omega)).mono ?_)
  rintro e w27 ⟨rfl, hq2⟩
  have sw27 := hq2.size
  replace E : Below w.heap.size w w27 := E.trans (hq2.mono E.size)
  replace HA : LRd w27 (w.heap.size) a.A a.n a.c a.xs := HA.below hq2 (by omega)
  replace HB : LRd w27 (w.heap.size) b.A b.n b.c b.xs := HB.below hq2 (by omega)
  replace HC : LRd w27 (w.heap.size) c.A c.n c.c c.xs := HC.below hq2 (by omega)
  replace PA : Bk2 w27 (w.heap.size) (.bool a.neg) (.slice a.A a.n a.c) := PA.below hq2 PA.lt
  replace PB : Bk2 w27 (w.heap.size + 1) (.bool false) (.slice b.A b.n b.c) := PB.below hq2 PB.lt
  replace PC : Bk2 w27 (w.heap.size + 2) (.bool false) (.slice c.A c.n c.c) := PC.below hq2 PC.lt
  replace hl11 : LRd w27 (w11.heap.size) A11 k11 c11 x11 := hl11.below hq2 (by omega)
  replace P11 : Bk2 w27 (w11.heap.size) (.bool n11) (.slice A11 k11 c11) := P11.below hq2 P11.lt
  replace F12 : Bk2 w27 (w11.heap.size + 1) (.int .i64 0) (.int .i64 0) := F12.below hq2 F12.lt
  replace hdM : DRd w27 (w25.heap.size) AM kM cM xM := hdM.below hq2 (by omega)
  replace hd1 : DRd w27 (w26.heap.size) A1 k1 c1 x1 := hd1.below hq2 (by omega)
  replace P16 : Bk2 w27 (w26.heap.size) (.bool mM) (.slice AM kM cM) := P16.below hq2 P16.lt
  replace P17 : Bk2 w27 (w26.heap.size + 1) (.bool m1) (.slice A1 k1 c1) := P17.below hq2 P17.lt
  clear hq2
  rw [show (!false && decide (b.n = 0)) = false by rw [decide_eq_false (by omega)]; rfl]
  have TB := Lib.hid (show vb 4294967296 b.xs < Top128 from lt128 (⟨HB.lim, rfl, (vld_top (IV.vld ob).1).1⟩ : Rep 4294967296 b.xs (vb 4294967296 b.xs)) rfl (IV.vld ob).2)
  have TA := Lib.hid (show a.val.natAbs < Top128 by rw [IV.abs]; exact lt128 (⟨HA.lim, rfl, (vld_top (IV.vld oa).1).1⟩ : Rep 4294967296 a.xs (vb 4294967296 a.xs)) rfl (IV.vld oa).2)
  have t_PB0 : w27.cell? ⟨w.heap.size + 1, 0, none⟩ = some ((.bool false)) := PB.c0
  have t_PB1 : w27.cell? ⟨w.heap.size + 1, 1, none⟩ = some ((.slice b.A b.n b.c)) := PB.c1
  go_wp2_with fail
  clear t_PB0 t_PB1
  (with_reducible refine (of_any _ w.heap.size b.A b.n b.c b.xs HB (by omega) (by omega)).mono ?_)
  rintro e w31 ⟨Ao, ko, co, xo, rfl, hdo, hro, hbo⟩
  have sw31 := hbo.size
  replace E : Below w.heap.size w w31 := E.trans (hbo.mono E.size)
  replace HA : LRd w31 (w.heap.size) a.A a.n a.c a.xs := HA.below hbo (by omega)
  replace HB : LRd w31 (w.heap.size) b.A b.n b.c b.xs := HB.below hbo (by omega)
  replace HC : LRd w31 (w.heap.size) c.A c.n c.c c.xs := HC.below hbo (by omega)
  replace PA : Bk2 w31 (w.heap.size) (.bool a.neg) (.slice a.A a.n a.c) := PA.below hbo PA.lt
  replace PB : Bk2 w31 (w.heap.size + 1) (.bool false) (.slice b.A b.n b.c) := PB.below hbo PB.lt
  replace PC : Bk2 w31 (w.heap.size + 2) (.bool false) (.slice c.A c.n c.c) := PC.below hbo PC.lt
  replace hl11 : LRd w31 (w11.heap.size) A11 k11 c11 x11 := hl11.below hbo (by omega)
  replace P11 : Bk2 w31 (w11.heap.size) (.bool n11) (.slice A11 k11 c11) := P11.below hbo P11.lt
  replace F12 : Bk2 w31 (w11.heap.size + 1) (.int .i64 0) (.int .i64 0) := F12.below hbo F12.lt
  replace hdM : DRd w31 (w25.heap.size) AM kM cM xM := hdM.below hbo (by omega)
  replace hd1 : DRd w31 (w26.heap.size) A1 k1 c1 x1 := hd1.below hbo (by omega)
  replace P16 : Bk2 w31 (w26.heap.size) (.bool mM) (.slice AM kM cM) := P16.below hbo P16.lt
  replace P17 : Bk2 w31 (w26.heap.size + 1) (.bool m1) (.slice A1 k1 c1) := P17.below hbo P17.lt
  clear hbo
  have KO := len512 hro hdo.len.out (top_sq (by have := TB.out; omega))
  have RO := Lib.hid hro
  clear hro
  go_wp2_with fail
  (with_reducible refine (moved_any _ w31.heap.size Ao ko co (vb 4294967296 b.xs) (-1) xo hdo (by omega) (by omega) RO.out (by omega) (by omega)).mono ?_)
  rintro e w32 ⟨Ah, kh, ch, xh, rfl, hdh, hrh, hbh⟩
  have sw32 := hbh.size
  replace E : Below w.heap.size w w32 := E.trans (hbh.mono E.size)
  replace HA : LRd w32 (w.heap.size) a.A a.n a.c a.xs := HA.below hbh (by omega)
  replace HB : LRd w32 (w.heap.size) b.A b.n b.c b.xs := HB.below hbh (by omega)
  replace HC : LRd w32 (w.heap.size) c.A c.n c.c c.xs := HC.below hbh (by omega)
  replace PA : Bk2 w32 (w.heap.size) (.bool a.neg) (.slice a.A a.n a.c) := PA.below hbh PA.lt
  replace PB : Bk2 w32 (w.heap.size + 1) (.bool false) (.slice b.A b.n b.c) := PB.below hbh PB.lt
  replace PC : Bk2 w32 (w.heap.size + 2) (.bool false) (.slice c.A c.n c.c) := PC.below hbh PC.lt
  replace hl11 : LRd w32 (w11.heap.size) A11 k11 c11 x11 := hl11.below hbh (by omega)
  replace P11 : Bk2 w32 (w11.heap.size) (.bool n11) (.slice A11 k11 c11) := P11.below hbh P11.lt
  replace F12 : Bk2 w32 (w11.heap.size + 1) (.int .i64 0) (.int .i64 0) := F12.below hbh F12.lt
  replace hdM : DRd w32 (w25.heap.size) AM kM cM xM := hdM.below hbh (by omega)
  replace hd1 : DRd w32 (w26.heap.size) A1 k1 c1 x1 := hd1.below hbh (by omega)
  replace P16 : Bk2 w32 (w26.heap.size) (.bool mM) (.slice AM kM cM) := P16.below hbh P16.lt
  replace P17 : Bk2 w32 (w26.heap.size + 1) (.bool m1) (.slice A1 k1 c1) := P17.below hbh P17.lt
  replace hdo : DRd w32 (w31.heap.size) Ao ko co xo := hdo.below hbh (by omega)
  clear hbh
  have KH := len512 hrh hdh.len.out (top_sq (by have := half_lt TB.out; omega))
  rw [half_eq] at hrh
  have RH := Lib.hid hrh
  have hch := hdh.cap
  clear hrh
  clear hdo
  go_upto_region 27 with fail
  have om0 := Lib.hid (show (IV.mk false c.A c.n c.c c.xs).ok = true by have h9 := oc; rw [show c.ok = ivld c.neg c.xs from rfl, hc.out] at h9; exact h9)
  have HCV := Lib.hid (show (IV.mk false c.A c.n c.c c.xs).val = c.val by rw [val_mk, ← hc.out]; rfl)
  go_cut [19, 20] (fun s19 s20 wx => R27 w32 (a.val ^ (vb 4294967296 b.xs / 2) % c.val) s19 s20 wx)
  case first =>
    as_aux_lemma =>
      have G0 : Below w32.heap.size w32 w32.drew := Below.drew (Below.refl _ _)
      have HS := Lib.hid (fun (u : World) (hu : Below w32.heap.size w32 u) => (⟨hu, (PA.below hu PA.lt).c0, (PA.below hu PA.lt).c1, (PC.below hu PC.lt).c0, (PC.below hu PC.lt).c1⟩ : Below w32.heap.size w32 u ∧ u.cell? ⟨w.heap.size, 0, none⟩ = some (.bool a.neg) ∧ u.cell? ⟨w.heap.size, 1, none⟩ = some (.slice a.A a.n a.c) ∧ u.cell? ⟨w.heap.size + 2, 0, none⟩ = some (.bool false) ∧ u.cell? ⟨w.heap.size + 2, 1, none⟩ = some (.slice c.A c.n c.c)))
      go_region_held3 (fun u => Below w32.heap.size w32 u ∧ u.cell? ⟨w.heap.size, 0, none⟩ = some (.bool a.neg) ∧ u.cell? ⟨w.heap.size, 1, none⟩ = some (.slice a.A a.n a.c) ∧ u.cell? ⟨w.heap.size + 2, 0, none⟩ = some (.bool false) ∧ u.cell? ⟨w.heap.size + 2, 1, none⟩ = some (.slice c.A c.n c.c))
        (first | with_reducible exact HS.out _ G0 | with_reducible exact HS.out _ HBQ | with_reducible exact HS.out _ HBP | (refine HS.out _ ?_; (repeat (first | with_reducible exact G0 | with_reducible exact HBQ | with_reducible exact HBP | with_reducible exact Below.refl _ _ | with_reducible refine Below.drew ?_ | with_reducible refine Below.alloc ?_ (by first | (simp; done) | (have := HBQ.size; simp; omega) | (have := HBP.size; simp; omega)) _ | with_reducible refine Below.setCell ?_ (by first | (simp; done) | (have := HBQ.size; simp; omega) | (have := HBP.size; simp; omega)) _)); done) | fail)
        (first
          | (go_at_call 48; (with_reducible refine (limbs_any _ w32.heap.size Ah kh ch (vb 4294967296 b.xs / 2) xh ?_ ?_ (by omega) RH.out).mono ?_); (first | with_reducible exact hdh.below G0 (Nat.le_refl _) | with_reducible exact DRd.dr (hdh.alloc (Nat.le_refl _) _) | with_reducible exact DRd.dr (DRd.alloc (hdh.alloc (Nat.le_refl _) _) (le_w1 _ _) _)); (first | with_reducible exact G0.size | with_reducible exact le_d1 _ _ | with_reducible exact le_d2 _ _ _); rintro e wp ⟨Ap, kp, cp, xp, rfl, hlp, hrp, hbp⟩; have HBP : Below w32.heap.size w32 wp := (by refine bnext ?_ hbp; (repeat (first | with_reducible exact G0 | with_reducible exact HBQ | with_reducible exact HBP | with_reducible exact Below.refl _ _ | with_reducible refine Below.drew ?_ | with_reducible refine Below.alloc ?_ (by first | (simp; done) | (have := HBQ.size; simp; omega) | (have := HBP.size; simp; omega)) _ | with_reducible refine Below.setCell ?_ (by first | (simp; done) | (have := HBQ.size; simp; omega) | (have := HBP.size; simp; omega)) _))); have op := Lib.hid (show (IV.mk false Ap kp cp xp).ok = true from IRep.iok (z := sval false (vb 4294967296 b.xs / 2)) ⟨by rw [sval_abs]; exact hrp, by rw [show sval false (vb 4294967296 b.xs / 2) = ((vb 4294967296 b.xs / 2 : Nat) : Int) from rfl]; rw [decide_eq_false (by omega)]⟩ (by rw [sval_abs]; have := TB.out; omega)); have VPP := Lib.hid hrp.val; clear hrp; (first | (have p9 := dx2 hbp; obtain ⟨p1, p2⟩ := p9; obtain ⟨_, _, _, _, _⟩ := id p1; obtain ⟨_, _, _, _, _⟩ := id p2) | (have p1 := dx1 hbp; obtain ⟨_, _, _, _, _⟩ := id p1) | skip))
          | (go_at_call 45; (with_reducible refine (ipm_ok _ wp.heap.size a (IV.mk false Ap kp cp xp) (IV.mk false c.A c.n c.c c.xs) ?_ ?_ ?_ ?_ oa op.out om0.out (Lib.hid rfl) (Lib.hid rfl) h0).mono ?_); (show LRd _ wp.heap.size a.A a.n a.c a.xs); (first | with_reducible exact ((HA.below HBP (by omega)).more (by have := HBP.size; omega)) | with_reducible exact LRd.alloc ((HA.below HBP (by omega)).more (by have := HBP.size; omega)) (Nat.le_refl _) _ | with_reducible exact LRd.alloc (LRd.alloc ((HA.below HBP (by omega)).more (by have := HBP.size; omega)) (Nat.le_refl _) _) (le_w1 _ _) _); (show LRd _ wp.heap.size Ap kp cp xp); (first | with_reducible exact hlp | with_reducible exact LRd.alloc hlp (Nat.le_refl _) _ | with_reducible exact LRd.alloc (LRd.alloc hlp (Nat.le_refl _) _) (le_w1 _ _) _); (show LRd _ wp.heap.size c.A c.n c.c c.xs); (first | with_reducible exact ((HC.below HBP (by omega)).more (by have := HBP.size; omega)) | with_reducible exact LRd.alloc ((HC.below HBP (by omega)).more (by have := HBP.size; omega)) (Nat.le_refl _) _ | with_reducible exact LRd.alloc (LRd.alloc ((HC.below HBP (by omega)).more (by have := HBP.size; omega)) (Nat.le_refl _) _) (le_w1 _ _) _); (first | with_reducible exact Nat.le_refl _ | with_reducible exact le_w1 _ _ | with_reducible exact le_w2 _ _ _); rintro e wq ⟨nq, Aq, kq, cq, xq, rfl, hlq, hrq, hbq⟩; have HBQ : Below w32.heap.size w32 wq := (by first | exact bnext HBP hbq | exact bnext (Below.alloc HBP HBP.size _) hbq | exact bnext (Below.alloc (Below.alloc HBP HBP.size _) (Nat.le_trans HBP.size (le_w1 _ _)) _) hbq); have IQ := Lib.hid (show IRep nq xq (a.val ^ (vb 4294967296 b.xs / 2) % c.val) by have h9 := hrq; rw [HCV.out] at h9; rw [← VPP.out]; exact h9); have hszq : wp.heap.size ≤ wq.heap.size := (by first | with_reducible exact hbq.size | with_reducible exact Nat.le_trans (le_w1 _ _) hbq.size | with_reducible exact Nat.le_trans (le_w2 _ _ _) hbq.size); clear hrq; (first | (have s9 := nx2 hbq; obtain ⟨s1, s2⟩ := s9; obtain ⟨_, _, _, _, _⟩ := id s1; obtain ⟨_, _, _, _, _⟩ := id s2) | (have s1 := nx1 hbq; obtain ⟨_, _, _, _, _⟩ := id s1) | skip); (first | (have s3 := Bk2.next p1 hbq; obtain ⟨_, _, _, _, _⟩ := id s3) | (have s3 := nxa p1 hbq; obtain ⟨_, _, _, _, _⟩ := id s3) | skip); (first | (have s4 := Bk2.next p2 hbq; obtain ⟨_, _, _, _, _⟩ := id s4) | (have s4 := nxa p2 hbq; obtain ⟨_, _, _, _, _⟩ := id s4) | skip))
          | fail)
      all_goals (go_wp2_with fail)
      all_goals
        go_meet
        refine ⟨_, _, nq, Aq, kq, cq, xq, rfl, rfl, ?_, ?_, ?_, IQ, ?_, ?_⟩
        · (repeat (first | with_reducible exact Bk2.newAt _ _ (by first | rfl | (simp; done)) _ _ _ | with_reducible refine Bk2.alloc ?_ _ | with_reducible refine Bk2.set (u := .bool false) (v := .slice none 0 0) ?_ _ _ | with_reducible refine Bk2.far2 ?_ (by omega) _ _ | with_reducible exact s1 | with_reducible exact s2 | with_reducible exact s3 | with_reducible exact s4))
        · (repeat (first | with_reducible exact Bk2.newAt _ _ (by first | rfl | (simp; done)) _ _ _ | with_reducible refine Bk2.alloc ?_ _ | with_reducible refine Bk2.set (u := .int .i64 0) (v := .int .i64 0) ?_ _ _ | with_reducible refine Bk2.far2 ?_ (by omega) _ _ | with_reducible exact s1 | with_reducible exact s2 | with_reducible exact s3 | with_reducible exact s4))
        · (with_reducible refine LRd.more (B := wq.heap.size) ?_ (by first | (simp; done) | (have := HBQ.size; simp; omega) | (have := HBP.size; have := hbq.size; simp at *; omega) | omega)); (repeat (first | with_reducible exact hlq | with_reducible refine LRd.alloc ?_ (by first | (simp; done) | (have := HBQ.size; simp; omega) | (have := HBP.size; have := hbq.size; simp at *; omega) | omega) _ | with_reducible refine LRd.setB ?_ s1 (by simp) (by simp) _ _ | with_reducible refine LRd.setB ?_ (s1.far2 (by omega) _ _) (by simp) (by simp) _ _ | with_reducible refine LRd.setB ?_ s2 (by simp) (by simp) _ _ | with_reducible refine LRd.setB ?_ (s2.far2 (by omega) _ _) (by simp) (by simp) _ _ | with_reducible refine LRd.setB ?_ s3 (by simp) (by simp) _ _ | with_reducible refine LRd.setB ?_ (s3.far2 (by omega) _ _) (by simp) (by simp) _ _ | with_reducible refine LRd.setB ?_ s4 (by simp) (by simp) _ _ | with_reducible refine LRd.setB ?_ (s4.far2 (by omega) _ _) (by simp) (by simp) _ _ | with_reducible refine LRd.setFar2 ?_ (by first | (simp; done) | (have := HBQ.size; simp; omega) | (have := HBP.size; have := hbq.size; simp at *; omega) | omega) _ _))
        · (first | (simp; done) | (have := HBQ.size; simp; omega) | (have := HBP.size; simp; omega) | (have := HBP.size; omega) | omega)
        · (repeat (first | with_reducible exact G0 | with_reducible exact HBQ | with_reducible exact HBP | with_reducible exact Below.refl _ _ | with_reducible refine Below.drew ?_ | with_reducible refine Below.alloc ?_ (by first | (simp; done) | (have := HBQ.size; simp; omega) | (have := HBP.size; simp; omega)) _ | with_reducible refine Below.setCell ?_ (by first | (simp; done) | (have := HBQ.size; simp; omega) | (have := HBP.size; simp; omega)) _))
  case rest =>
  obtain ⟨g19, g20, n19, A19, k19, c19, x19, rfl, rfl, P19, F20, hl19, I19, hg19, hbX⟩ := hcut
  have sX := hbX.size
  clear hdh
  replace E : Below w.heap.size w wc := E.trans (hbX.mono E.size)
  replace HA : LRd wc (w.heap.size) a.A a.n a.c a.xs := HA.below hbX (by omega)
  replace HB : LRd wc (w.heap.size) b.A b.n b.c b.xs := HB.below hbX (by omega)
  replace HC : LRd wc (w.heap.size) c.A c.n c.c c.xs := HC.below hbX (by omega)
  replace PA : Bk2 wc (w.heap.size) (.bool a.neg) (.slice a.A a.n a.c) := PA.below hbX PA.lt
  replace PB : Bk2 wc (w.heap.size + 1) (.bool false) (.slice b.A b.n b.c) := PB.below hbX PB.lt
  replace PC : Bk2 wc (w.heap.size + 2) (.bool false) (.slice c.A c.n c.c) := PC.below hbX PC.lt
  replace hl11 : LRd wc (w11.heap.size) A11 k11 c11 x11 := hl11.below hbX (by omega)
  replace P11 : Bk2 wc (w11.heap.size) (.bool n11) (.slice A11 k11 c11) := P11.below hbX P11.lt
  replace F12 : Bk2 wc (w11.heap.size + 1) (.int .i64 0) (.int .i64 0) := F12.below hbX F12.lt
  replace hdM : DRd wc (w25.heap.size) AM kM cM xM := hdM.below hbX (by omega)
  replace hd1 : DRd wc (w26.heap.size) A1 k1 c1 x1 := hd1.below hbX (by omega)
  replace P16 : Bk2 wc (w26.heap.size) (.bool mM) (.slice AM kM cM) := P16.below hbX P16.lt
  replace P17 : Bk2 wc (w26.heap.size + 1) (.bool m1) (.slice A1 k1 c1) := P17.below hbX P17.lt
  clear hbX
  have HA1 := Lib.hid (emod_abs (x := a.val ^ (vb 4294967296 b.xs / 2)) CP.out CT.out)
  have kl19 : k19 ≤ 128 := by have := irep_len I19.out HA1.out; have := hl19.len.out; omega
  have t_F200 : wc.cell? ⟨g20, 0, none⟩ = some ((.int .i64 0)) := F20.c0
  have t_F201 : wc.cell? ⟨g20, 1, none⟩ = some ((.int .i64 0)) := F20.c1
  have t_P190 : wc.cell? ⟨g19, 0, none⟩ = some ((.bool n19)) := P19.c0
  have t_P191 : wc.cell? ⟨g19, 1, none⟩ = some ((.slice A19 k19 c19)) := P19.c1
  go_wp2_with fail
  clear t_F200 t_F201 t_P190 t_P191
  (with_reducible refine (intOk_any _ wc.heap.size n19 A19 k19 c19 x19 hl19 (by omega)).mono ?_)
  rintro e w41 ⟨rfl, hb41⟩
  have sw41 := hb41.size
  replace E : Below w.heap.size w w41 := E.trans (hb41.mono E.size)
  replace HA : LRd w41 (w.heap.size) a.A a.n a.c a.xs := HA.below hb41 (by omega)
  replace HB : LRd w41 (w.heap.size) b.A b.n b.c b.xs := HB.below hb41 (by omega)
  replace HC : LRd w41 (w.heap.size) c.A c.n c.c c.xs := HC.below hb41 (by omega)
  replace PA : Bk2 w41 (w.heap.size) (.bool a.neg) (.slice a.A a.n a.c) := PA.below hb41 PA.lt
  replace PB : Bk2 w41 (w.heap.size + 1) (.bool false) (.slice b.A b.n b.c) := PB.below hb41 PB.lt
  replace PC : Bk2 w41 (w.heap.size + 2) (.bool false) (.slice c.A c.n c.c) := PC.below hb41 PC.lt
  replace hl11 : LRd w41 (w11.heap.size) A11 k11 c11 x11 := hl11.below hb41 (by omega)
  replace P11 : Bk2 w41 (w11.heap.size) (.bool n11) (.slice A11 k11 c11) := P11.below hb41 P11.lt
  replace F12 : Bk2 w41 (w11.heap.size + 1) (.int .i64 0) (.int .i64 0) := F12.below hb41 F12.lt
  replace hdM : DRd w41 (w25.heap.size) AM kM cM xM := hdM.below hb41 (by omega)
  replace hd1 : DRd w41 (w26.heap.size) A1 k1 c1 x1 := hd1.below hb41 (by omega)
  replace P16 : Bk2 w41 (w26.heap.size) (.bool mM) (.slice AM kM cM) := P16.below hb41 P16.lt
  replace P17 : Bk2 w41 (w26.heap.size + 1) (.bool m1) (.slice A1 k1 c1) := P17.below hb41 P17.lt
  replace P19 : Bk2 w41 (g19) (.bool n19) (.slice A19 k19 c19) := P19.below hb41 P19.lt
  replace F20 : Bk2 w41 (g20) (.int .i64 0) (.int .i64 0) := F20.below hb41 F20.lt
  replace hl19 : LRd w41 (wc.heap.size) A19 k19 c19 x19 := hl19.below hb41 (by omega)
  clear hb41
  rw [show ivld n19 x19 = true from IRep.iok I19.out HA1.out]
  go_upto_region 30 with fail
  clear F20
  have hne17 : w26.heap.size + 1 ≠ g19 := by omega
  have G0 : Below w41.heap.size w41 w41.drew := Below.drew (Below.refl _ _)
  have HS := Lib.hid (fun (u : World) (hu : Below w41.heap.size w41 u) => (⟨(P19.below hu P19.lt).c0, (P19.below hu P19.lt).c1⟩ : u.cell? ⟨g19, 0, none⟩ = some (.bool n19) ∧ u.cell? ⟨g19, 1, none⟩ = some (.slice A19 k19 c19)))
  have HS2 := Lib.hid (fun (u : World) (hu : Below w41.heap.size w41 u) (x y : Value) => (⟨((P19.below hu P19.lt).far2 hne17 x y).c0, ((P19.below hu P19.lt).far2 hne17 x y).c1⟩ : (fun u => u.cell? ⟨g19, 0, none⟩ = some (.bool n19) ∧ u.cell? ⟨g19, 1, none⟩ = some (.slice A19 k19 c19)) ((u.setCell ⟨w26.heap.size + 1, 0, none⟩ x).setCell ⟨w26.heap.size + 1, 1, none⟩ y)))
  obtain ⟨y170, y171, z170, z171, lt17⟩ := id P17
  go_region_held3 (fun u => u.cell? ⟨g19, 0, none⟩ = some (.bool n19) ∧ u.cell? ⟨g19, 1, none⟩ = some (.slice A19 k19 c19))
    (first | with_reducible exact HS.out _ G0 | with_reducible exact HS.out _ B3 | with_reducible exact HS.out _ B2 | with_reducible exact HS.out _ B1 | exact HS2.out _ B3 _ _ | fail)
    (first
      | (go_at_call 27; (with_reducible refine (intOf_any _ _ n19 A19 k19 c19 x19 ((hl19.below G0 (by omega)).more (by have := G0.size; omega)) (Nat.le_refl _) (by omega)).mono ?_); rintro e u1 ⟨mGa, AGa, kGa, cGa, xGa, vGa, rfl, hdGa, hrGa, hvGa, hbGa⟩; have B1 : Below w41.heap.size w41 u1 := bnext G0 hbGa; have VGa := Lib.hid (hvGa.trans I19.out.val.symm); have KGa := len512 hrGa hdGa.len.out (top_sq (by have := abs_sval VGa.out; have := HA1.out; omega)); have RGa := Lib.hid hrGa; clear hrGa hvGa)
      | (go_at_call 27; (with_reducible refine (intOf_any _ _ n19 A19 k19 c19 x19 ((hl19.below B1 (by omega)).more (by have := B1.size; omega)) (Nat.le_refl _) (by omega)).mono ?_); rintro e u2 ⟨mGb, AGb, kGb, cGb, xGb, vGb, rfl, hdGb, hrGb, hvGb, hbGb⟩; have B2 : Below w41.heap.size w41 u2 := bnext B1 hbGb; have VGb := Lib.hid (hvGb.trans I19.out.val.symm); have KGb := len512 hrGb hdGb.len.out (top_sq (by have := abs_sval VGb.out; have := HA1.out; omega)); have RGb := Lib.hid hrGb; clear hrGb hvGb)
      | (go_at_call 36; (with_reducible refine (rtimes_any _ _ mGa mGb AGa AGb kGa kGb cGa cGb vGa vGb xGa xGb ((hdGa.below hbGb (Nat.le_refl _)).more hbGb.size) hdGb (Nat.le_refl _) RGa.out RGb.out KGa KGb).mono ?_); rintro e u3 ⟨mT, AT, kT, cT, xT, vT, rfl, hdT, hrT, hvT, hbT⟩; have B3 : Below w41.heap.size w41 u3 := bnext B2 hbT; rw [VGa.out, VGb.out] at hvT; have KT := len512 hrT hdT.len.out (by rw [← abs_sval hvT, Int.natAbs_mul]; exact Nat.mul_lt_mul'' HA1.out HA1.out); have RT := Lib.hid hrT; have VT := Lib.hid hvT; clear hrT hvT; obtain ⟨_, _, _, _, _⟩ := P17.below B3 P17.lt)
      | fail)
  go_upto_region 31 with fail
  clear HS HS2 G0 hdGa hdGb hbGa hbGb hbT RGa RGb KGa KGb VGa VGb B1 B2 y170 y171 z170 z171 lt17
  have s30 := B3.size
  clear P19 hl19
  replace E : Below w.heap.size w u3 := E.trans (B3.mono E.size)
  replace HA : LRd u3 (w.heap.size) a.A a.n a.c a.xs := HA.below B3 (by omega)
  replace HB : LRd u3 (w.heap.size) b.A b.n b.c b.xs := HB.below B3 (by omega)
  replace HC : LRd u3 (w.heap.size) c.A c.n c.c c.xs := HC.below B3 (by omega)
  replace PA : Bk2 u3 (w.heap.size) (.bool a.neg) (.slice a.A a.n a.c) := PA.below B3 PA.lt
  replace PB : Bk2 u3 (w.heap.size + 1) (.bool false) (.slice b.A b.n b.c) := PB.below B3 PB.lt
  replace PC : Bk2 u3 (w.heap.size + 2) (.bool false) (.slice c.A c.n c.c) := PC.below B3 PC.lt
  replace hl11 : LRd u3 (w11.heap.size) A11 k11 c11 x11 := hl11.below B3 (by omega)
  replace P11 : Bk2 u3 (w11.heap.size) (.bool n11) (.slice A11 k11 c11) := P11.below B3 P11.lt
  replace F12 : Bk2 u3 (w11.heap.size + 1) (.int .i64 0) (.int .i64 0) := F12.below B3 F12.lt
  replace hdM : DRd u3 (w25.heap.size) AM kM cM xM := hdM.below B3 (by omega)
  replace hd1 : DRd u3 (w26.heap.size) A1 k1 c1 x1 := hd1.below B3 (by omega)
  replace P16 : Bk2 u3 (w26.heap.size) (.bool mM) (.slice AM kM cM) := P16.below B3 P16.lt
  replace P17 : Bk2 u3 (w26.heap.size + 1) (.bool m1) (.slice A1 k1 c1) := P17.below B3 P17.lt
  clear B3
  obtain ⟨U30P17, hU30P17⟩ : ∃ U30P17 : World, U30P17 = ((u3.setCell ⟨w26.heap.size + 1, 0, none⟩ (.bool mT)).setCell ⟨w26.heap.size + 1, 1, none⟩ (.slice AT kT cT)) := ⟨_, rfl⟩
  have zU30P17 : U30P17.heap.size = u3.heap.size := by rw [hU30P17]; simp [World.setCell]
  replace E : Below w.heap.size w U30P17 := by rw [hU30P17]; exact (E.setCell (by first | (simp; done) | (simp; omega)) _).setCell (by first | (simp; done) | (simp; omega)) _
  replace HA : LRd U30P17 (w.heap.size) a.A a.n a.c a.xs := by rw [hU30P17]; first | exact HA.setB P17 (by simp) (by simp) _ _ | exact HA.setFar2 (by omega) _ _
  replace HB : LRd U30P17 (w.heap.size) b.A b.n b.c b.xs := by rw [hU30P17]; first | exact HB.setB P17 (by simp) (by simp) _ _ | exact HB.setFar2 (by omega) _ _
  replace HC : LRd U30P17 (w.heap.size) c.A c.n c.c c.xs := by rw [hU30P17]; first | exact HC.setB P17 (by simp) (by simp) _ _ | exact HC.setFar2 (by omega) _ _
  replace PA : Bk2 U30P17 (w.heap.size) (.bool a.neg) (.slice a.A a.n a.c) := by rw [hU30P17]; exact PA.far2 (by omega) _ _
  replace PB : Bk2 U30P17 (w.heap.size + 1) (.bool false) (.slice b.A b.n b.c) := by rw [hU30P17]; exact PB.far2 (by omega) _ _
  replace PC : Bk2 U30P17 (w.heap.size + 2) (.bool false) (.slice c.A c.n c.c) := by rw [hU30P17]; exact PC.far2 (by omega) _ _
  replace hl11 : LRd U30P17 (w11.heap.size) A11 k11 c11 x11 := by rw [hU30P17]; first | exact hl11.setB P17 (by simp) (by simp) _ _ | exact hl11.setFar2 (by omega) _ _
  replace P11 : Bk2 U30P17 (w11.heap.size) (.bool n11) (.slice A11 k11 c11) := by rw [hU30P17]; exact P11.far2 (by omega) _ _
  replace F12 : Bk2 U30P17 (w11.heap.size + 1) (.int .i64 0) (.int .i64 0) := by rw [hU30P17]; exact F12.far2 (by omega) _ _
  replace hdM : DRd U30P17 (w25.heap.size) AM kM cM xM := by rw [hU30P17]; first | exact hdM.setFar2 (by omega) _ _ | exact hdM.setBD P17 (by simp) (by simp) _ _
  replace hd1 : DRd U30P17 (w26.heap.size) A1 k1 c1 x1 := by rw [hU30P17]; first | exact hd1.setFar2 (by omega) _ _ | exact hd1.setBD P17 (by simp) (by simp) _ _
  replace P16 : Bk2 U30P17 (w26.heap.size) (.bool mM) (.slice AM kM cM) := by rw [hU30P17]; exact P16.far2 (by omega) _ _
  replace hdT : DRd U30P17 (u3.heap.size) AT kT cT xT := by rw [hU30P17]; first | exact hdT.setFar2 (by omega) _ _ | exact hdT.setBD P17 (by simp) (by simp) _ _
  replace P17 : Bk2 U30P17 (w26.heap.size + 1) (.bool mT) (.slice AT kT cT) := by rw [hU30P17]; exact P17.set _ _
  rw [← hU30P17]
  clear hU30P17
  have zU30P17' := Nat.le_of_eq zU30P17
  replace zU30P17 := Nat.le_of_eq zU30P17.symm
  have hbR := Lib.hid (⟨HB.lim, rfl, (vld_top (IV.vld ob).1).1⟩ : Rep 4294967296 b.xs (vb 4294967296 b.xs))
  obtain ⟨bb, boff, hbA, hbb, hcc⟩ := HB.rd hz
  have gB : U30P17.cell? ⟨bb, boff, none⟩ = some (.int .u32 (nth b.xs 0)) := hcc 0 hz
  have hpar := bit_at hbR.out (q := 0) (r := 0) (by have := HB.len.out; omega) (by decide)
  rw [Nat.pow_zero, Nat.div_one, Nat.div_one] at hpar
  have hlz : 0 < (b.n : Int) := by omega
  rw [hbA] at PB
  clear hcc hbA
  have n0 := nth_nn b.xs 0
  have n1 := Lim.nth HB.lim 0
  rcases Nat.mod_two_eq_zero_or_one (vb 4294967296 b.xs) with hb2 | hb2
  · as_aux_lemma =>
      have hp2 : nth b.xs 0 % 2 = 0 := by unfold nth; omega
      clear hpar
      clear HA HB HC PA PC
      have t_PB0 : U30P17.cell? ⟨w.heap.size + 1, 0, none⟩ = some ((.bool false)) := PB.c0
      have t_PB1 : U30P17.cell? ⟨w.heap.size + 1, 1, none⟩ = some ((.slice (some ⟨bb, boff, none⟩) b.n b.c)) := PB.c1
      have t_P160 : U30P17.cell? ⟨w26.heap.size, 0, none⟩ = some ((.bool mM)) := P16.c0
      have t_P161 : U30P17.cell? ⟨w26.heap.size, 1, none⟩ = some ((.slice AM kM cM)) := P16.c1
      have t_P170 : U30P17.cell? ⟨w26.heap.size + 1, 0, none⟩ = some ((.bool mT)) := P17.c0
      have t_P171 : U30P17.cell? ⟨w26.heap.size + 1, 1, none⟩ = some ((.slice AT kT cT)) := P17.c1
      go_wp2_with fail
      clear t_PB0 t_PB1 t_P160 t_P161 t_P170 t_P171
      clear PB
      (with_reducible refine (floorD_any _ U30P17.heap.size mT mM AT AM kT kM cT cM vT vM xT xM (hdT.more (by omega)) (hdM.more (by omega)) (by omega) RT.out RM.out hvM0 KT KM).mono ?_)
      rintro e wfe ⟨mqe, Aqe, kqe, cqe, xqe, vqe, mre, Are, kre, cre, xre, vre, qe, re, rfl, hdqe, hrqe, hvqe, hdre, hrre, hvre, hfle, hbfe⟩
      have swfe := hbfe.size
      replace E : Below w.heap.size w wfe := E.trans (hbfe.mono E.size)
      replace hl11 : LRd wfe (w11.heap.size) A11 k11 c11 x11 := hl11.below hbfe (by omega)
      replace P11 : Bk2 wfe (w11.heap.size) (.bool n11) (.slice A11 k11 c11) := P11.below hbfe P11.lt
      replace F12 : Bk2 wfe (w11.heap.size + 1) (.int .i64 0) (.int .i64 0) := F12.below hbfe F12.lt
      replace hdM : DRd wfe (w25.heap.size) AM kM cM xM := hdM.below hbfe (by omega)
      replace hd1 : DRd wfe (w26.heap.size) A1 k1 c1 x1 := hd1.below hbfe (by omega)
      replace P16 : Bk2 wfe (w26.heap.size) (.bool mM) (.slice AM kM cM) := P16.below hbfe P16.lt
      replace P17 : Bk2 wfe (w26.heap.size + 1) (.bool mT) (.slice AT kT cT) := P17.below hbfe P17.lt
      replace hdT : DRd wfe (u3.heap.size) AT kT cT xT := hdT.below hbfe (by omega)
      clear hbfe
      have hqce := hdqe.cap
      rw [VT.out, VM.out] at hfle
      have VRe := Lib.hid (hvre.trans (floor_emod hfle CP.out))
      have KRe := len512 hrre hdre.len.out (top_sq (by have := abs_sval VRe.out; have := emod_abs (x := (a.val ^ (vb 4294967296 b.xs / 2) % c.val) * (a.val ^ (vb 4294967296 b.xs / 2) % c.val)) CP.out CT.out; omega))
      have RRe := Lib.hid hrre
      clear hdqe hrqe hvqe hvre hfle hrre
      clear P16 hdM hdT
      have y_P170 : wfe.cell? ⟨w26.heap.size + 1, 0, none⟩ = some ((.bool mT)) := P17.c0
      have z_P170 : wfe.frozen? ⟨w26.heap.size + 1, 0, none⟩ = false := P17.z0
      have y_P171 : wfe.cell? ⟨w26.heap.size + 1, 1, none⟩ = some ((.slice AT kT cT)) := P17.c1
      have z_P171 : wfe.frozen? ⟨w26.heap.size + 1, 1, none⟩ = false := P17.z1
      have lt_P17 := P17.lt
      have t_F120 : wfe.cell? ⟨w11.heap.size + 1, 0, none⟩ = some ((.int .i64 0)) := F12.c0
      have t_F121 : wfe.cell? ⟨w11.heap.size + 1, 1, none⟩ = some ((.int .i64 0)) := F12.c1
      have lt_F12 := F12.lt
      have t_P110 : wfe.cell? ⟨w11.heap.size, 0, none⟩ = some ((.bool n11)) := P11.c0
      have t_P111 : wfe.cell? ⟨w11.heap.size, 1, none⟩ = some ((.slice A11 k11 c11)) := P11.c1
      have lt_P11 := P11.lt
      go_wp2_with fail
      clear y_P170 z_P170 y_P171 z_P171 lt_P17 t_F120 t_F121 lt_F12 t_P110 t_P111 lt_P11
      obtain ⟨U13P17, hU13P17⟩ : ∃ U13P17 : World, U13P17 = ((wfe.setCell ⟨w26.heap.size + 1, 0, none⟩ (.bool mre)).setCell ⟨w26.heap.size + 1, 1, none⟩ (.slice Are kre cre)) := ⟨_, rfl⟩
      have zU13P17 : U13P17.heap.size = wfe.heap.size := by rw [hU13P17]; simp [World.setCell]
      replace E : Below w.heap.size w U13P17 := by rw [hU13P17]; exact (E.setCell (by first | (simp; done) | (simp; omega)) _).setCell (by first | (simp; done) | (simp; omega)) _
      replace hl11 : LRd U13P17 (w11.heap.size) A11 k11 c11 x11 := by rw [hU13P17]; first | exact hl11.setB P17 (by simp) (by simp) _ _ | exact hl11.setFar2 (by omega) _ _
      replace P11 : Bk2 U13P17 (w11.heap.size) (.bool n11) (.slice A11 k11 c11) := by rw [hU13P17]; exact P11.far2 (by omega) _ _
      replace F12 : Bk2 U13P17 (w11.heap.size + 1) (.int .i64 0) (.int .i64 0) := by rw [hU13P17]; exact F12.far2 (by omega) _ _
      replace hd1 : DRd U13P17 (w26.heap.size) A1 k1 c1 x1 := by rw [hU13P17]; first | exact hd1.setFar2 (by omega) _ _ | exact hd1.setBD P17 (by simp) (by simp) _ _
      replace hdre : DRd U13P17 (wfe.heap.size) Are kre cre xre := by rw [hU13P17]; first | exact hdre.setFar2 (by omega) _ _ | exact hdre.setBD P17 (by simp) (by simp) _ _
      replace P17 : Bk2 U13P17 (w26.heap.size + 1) (.bool mre) (.slice Are kre cre) := by rw [hU13P17]; exact P17.set _ _
      rw [← hU13P17]
      clear hU13P17
      have zU13P17' := Nat.le_of_eq zU13P17
      replace zU13P17 := Nat.le_of_eq zU13P17.symm
      (with_reducible refine (sameInt_any _ _ n11 mre A11 Are k11 kre c11 cre vre (a.val ^ vb 4294967296 b.xs % c.val) x11 xre (hl11.more (by omega)) (hdre.more (by omega)) (Nat.le_refl _) I11.out RRe.out (by rw [VRe.out]; exact pv_even (by omega)) KRe).mono ?_)
      rintro e w40 ⟨rfl, hb40⟩
      have sw40 := hb40.size
      replace E : Below w.heap.size w w40 := E.trans (hb40.mono E.size)
      replace hl11 : LRd w40 (w11.heap.size) A11 k11 c11 x11 := hl11.below hb40 (by omega)
      replace P11 : Bk2 w40 (w11.heap.size) (.bool n11) (.slice A11 k11 c11) := P11.below hb40 P11.lt
      replace F12 : Bk2 w40 (w11.heap.size + 1) (.int .i64 0) (.int .i64 0) := F12.below hb40 F12.lt
      replace hd1 : DRd w40 (w26.heap.size) A1 k1 c1 x1 := hd1.below hb40 (by omega)
      replace P17 : Bk2 w40 (w26.heap.size + 1) (.bool mre) (.slice Are kre cre) := P17.below hb40 P17.lt
      replace hdre : DRd w40 (wfe.heap.size) Are kre cre xre := hdre.below hb40 (by omega)
      clear hb40
      go_wp2_with fail
      go_ret
      exact ⟨by first | rfl | (simp; done), E⟩
  · as_aux_lemma =>
      have hp2 : nth b.xs 0 % 2 = 1 := by unfold nth; omega
      clear hpar
      clear HB HC PC
      have t_PB0 : U30P17.cell? ⟨w.heap.size + 1, 0, none⟩ = some ((.bool false)) := PB.c0
      have t_PB1 : U30P17.cell? ⟨w.heap.size + 1, 1, none⟩ = some ((.slice (some ⟨bb, boff, none⟩) b.n b.c)) := PB.c1
      have t_P160 : U30P17.cell? ⟨w26.heap.size, 0, none⟩ = some ((.bool mM)) := P16.c0
      have t_P161 : U30P17.cell? ⟨w26.heap.size, 1, none⟩ = some ((.slice AM kM cM)) := P16.c1
      have t_P170 : U30P17.cell? ⟨w26.heap.size + 1, 0, none⟩ = some ((.bool mT)) := P17.c0
      have t_P171 : U30P17.cell? ⟨w26.heap.size + 1, 1, none⟩ = some ((.slice AT kT cT)) := P17.c1
      go_wp2_with fail
      clear t_PB0 t_PB1 t_P160 t_P161 t_P170 t_P171
      clear PB
      (with_reducible refine (floorD_any _ U30P17.heap.size mT mM AT AM kT kM cT cM vT vM xT xM (hdT.more (by omega)) (hdM.more (by omega)) (by omega) RT.out RM.out hvM0 KT KM).mono ?_)
      rintro e wfo ⟨mqo, Aqo, kqo, cqo, xqo, vqo, mro, Aro, kro, cro, xro, vro, qo, ro, rfl, hdqo, hrqo, hvqo, hdro, hrro, hvro, hflo, hbfo⟩
      have swfo := hbfo.size
      replace E : Below w.heap.size w wfo := E.trans (hbfo.mono E.size)
      replace HA : LRd wfo (w.heap.size) a.A a.n a.c a.xs := HA.below hbfo (by omega)
      replace PA : Bk2 wfo (w.heap.size) (.bool a.neg) (.slice a.A a.n a.c) := PA.below hbfo PA.lt
      replace hl11 : LRd wfo (w11.heap.size) A11 k11 c11 x11 := hl11.below hbfo (by omega)
      replace P11 : Bk2 wfo (w11.heap.size) (.bool n11) (.slice A11 k11 c11) := P11.below hbfo P11.lt
      replace F12 : Bk2 wfo (w11.heap.size + 1) (.int .i64 0) (.int .i64 0) := F12.below hbfo F12.lt
      replace hdM : DRd wfo (w25.heap.size) AM kM cM xM := hdM.below hbfo (by omega)
      replace hd1 : DRd wfo (w26.heap.size) A1 k1 c1 x1 := hd1.below hbfo (by omega)
      replace P16 : Bk2 wfo (w26.heap.size) (.bool mM) (.slice AM kM cM) := P16.below hbfo P16.lt
      replace P17 : Bk2 wfo (w26.heap.size + 1) (.bool mT) (.slice AT kT cT) := P17.below hbfo P17.lt
      replace hdT : DRd wfo (u3.heap.size) AT kT cT xT := hdT.below hbfo (by omega)
      clear hbfo
      have hqco := hdqo.cap
      rw [VT.out, VM.out] at hflo
      have VRo := Lib.hid (hvro.trans (floor_emod hflo CP.out))
      have KRo := len512 hrro hdro.len.out (top_sq (by have := abs_sval VRo.out; have := emod_abs (x := (a.val ^ (vb 4294967296 b.xs / 2) % c.val) * (a.val ^ (vb 4294967296 b.xs / 2) % c.val)) CP.out CT.out; omega))
      have RRo := Lib.hid hrro
      clear hdqo hrqo hvqo hvro hflo hrro
      clear hdT
      have y_P170 : wfo.cell? ⟨w26.heap.size + 1, 0, none⟩ = some ((.bool mT)) := P17.c0
      have z_P170 : wfo.frozen? ⟨w26.heap.size + 1, 0, none⟩ = false := P17.z0
      have y_P171 : wfo.cell? ⟨w26.heap.size + 1, 1, none⟩ = some ((.slice AT kT cT)) := P17.c1
      have z_P171 : wfo.frozen? ⟨w26.heap.size + 1, 1, none⟩ = false := P17.z1
      have lt_P17 := P17.lt
      have t_PA0 : wfo.cell? ⟨w.heap.size, 0, none⟩ = some ((.bool a.neg)) := PA.c0
      have t_PA1 : wfo.cell? ⟨w.heap.size, 1, none⟩ = some ((.slice a.A a.n a.c)) := PA.c1
      have lt_PA := PA.lt
      go_upto_region 33 with fail
      clear y_P170 z_P170 y_P171 z_P171 lt_P17 t_PA0 t_PA1 lt_PA
      obtain ⟨U13P17, hU13P17⟩ : ∃ U13P17 : World, U13P17 = ((wfo.setCell ⟨w26.heap.size + 1, 0, none⟩ (.bool mro)).setCell ⟨w26.heap.size + 1, 1, none⟩ (.slice Aro kro cro)) := ⟨_, rfl⟩
      have zU13P17 : U13P17.heap.size = wfo.heap.size := by rw [hU13P17]; simp [World.setCell]
      replace E : Below w.heap.size w U13P17 := by rw [hU13P17]; exact (E.setCell (by first | (simp; done) | (simp; omega)) _).setCell (by first | (simp; done) | (simp; omega)) _
      replace HA : LRd U13P17 (w.heap.size) a.A a.n a.c a.xs := by rw [hU13P17]; first | exact HA.setB P17 (by simp) (by simp) _ _ | exact HA.setFar2 (by omega) _ _
      replace PA : Bk2 U13P17 (w.heap.size) (.bool a.neg) (.slice a.A a.n a.c) := by rw [hU13P17]; exact PA.far2 (by omega) _ _
      replace hl11 : LRd U13P17 (w11.heap.size) A11 k11 c11 x11 := by rw [hU13P17]; first | exact hl11.setB P17 (by simp) (by simp) _ _ | exact hl11.setFar2 (by omega) _ _
      replace P11 : Bk2 U13P17 (w11.heap.size) (.bool n11) (.slice A11 k11 c11) := by rw [hU13P17]; exact P11.far2 (by omega) _ _
      replace F12 : Bk2 U13P17 (w11.heap.size + 1) (.int .i64 0) (.int .i64 0) := by rw [hU13P17]; exact F12.far2 (by omega) _ _
      replace hdM : DRd U13P17 (w25.heap.size) AM kM cM xM := by rw [hU13P17]; first | exact hdM.setFar2 (by omega) _ _ | exact hdM.setBD P17 (by simp) (by simp) _ _
      replace hd1 : DRd U13P17 (w26.heap.size) A1 k1 c1 x1 := by rw [hU13P17]; first | exact hd1.setFar2 (by omega) _ _ | exact hd1.setBD P17 (by simp) (by simp) _ _
      replace P16 : Bk2 U13P17 (w26.heap.size) (.bool mM) (.slice AM kM cM) := by rw [hU13P17]; exact P16.far2 (by omega) _ _
      replace hdro : DRd U13P17 (wfo.heap.size) Aro kro cro xro := by rw [hU13P17]; first | exact hdro.setFar2 (by omega) _ _ | exact hdro.setBD P17 (by simp) (by simp) _ _
      replace P17 : Bk2 U13P17 (w26.heap.size + 1) (.bool mro) (.slice Aro kro cro) := by rw [hU13P17]; exact P17.set _ _
      rw [← hU13P17]
      clear hU13P17
      have zU13P17' := Nat.le_of_eq zU13P17
      replace zU13P17 := Nat.le_of_eq zU13P17.symm
      have G0 : Below U13P17.heap.size U13P17 U13P17.drew := Below.drew (Below.refl _ _)
      obtain ⟨y170, y171, z170, z171, lt17⟩ := id P17
      obtain ⟨yA0, yA1, _, _, _⟩ := id PA
      go_region_with (first
        | (go_at_call 27; (with_reducible refine (intOf_any _ _ a.neg a.A a.n a.c a.xs ((HA.below G0 (by omega)).more (by have := G0.size; omega)) (Nat.le_refl _) (by have := HA.len.out; have := (IV.vld oa).2; omega)).mono ?_); rintro e u1 ⟨mB, AB, kB, cB, xB, vB, rfl, hdB, hrB, hvB, hbB⟩; have B1 : Below U13P17.heap.size U13P17 u1 := bnext G0 hbB; have VB := Lib.hid (show sval mB vB = a.val from hvB); have KB := len512 hrB hdB.len.out (top_sq (by have := abs_sval VB.out; have := TA.out; omega)); have RB' := Lib.hid hrB; obtain ⟨_, _, _, _, _⟩ := P17.below B1 P17.lt)
        | (go_at_call 36; (with_reducible refine (rtimes_any _ _ mro mB Aro AB kro kB cro cB vro vB xro xB ((hdro.below B1 (by omega)).more (by have := B1.size; omega)) hdB (Nat.le_refl _) RRo.out RB'.out KRo KB).mono ?_); rintro e u2 ⟨mU, AU, kU, cU, xU, vU, rfl, hdU, hrU, hvU, hbU⟩; have B2 : Below U13P17.heap.size U13P17 u2 := bnext B1 hbU; obtain ⟨_, _, _, _, _⟩ := P17.below B2 P17.lt)
        | fail)
      all_goals (go_upto_region 34 with fail)
      all_goals
        rw [VRo.out, VB.out] at hvU
        have HU1 := Lib.hid (emod_abs (x := (a.val ^ (vb 4294967296 b.xs / 2) % c.val) * (a.val ^ (vb 4294967296 b.xs / 2) % c.val)) CP.out CT.out)
        have KU := len512 hrU hdU.len.out (by rw [← abs_sval hvU, Int.natAbs_mul]; exact Nat.mul_lt_mul'' HU1.out TA.out)
        have RU := Lib.hid hrU
        have VU := Lib.hid hvU
        clear hrU hvU
        clear y170 y171 z170 z171 lt17 yA0 yA1 G0
        have s33 := B2.size
        clear PA HA hdro
        replace E : Below w.heap.size w u2 := E.trans (B2.mono E.size)
        replace hl11 : LRd u2 (w11.heap.size) A11 k11 c11 x11 := hl11.below B2 (by omega)
        replace P11 : Bk2 u2 (w11.heap.size) (.bool n11) (.slice A11 k11 c11) := P11.below B2 P11.lt
        replace F12 : Bk2 u2 (w11.heap.size + 1) (.int .i64 0) (.int .i64 0) := F12.below B2 F12.lt
        replace hdM : DRd u2 (w25.heap.size) AM kM cM xM := hdM.below B2 (by omega)
        replace hd1 : DRd u2 (w26.heap.size) A1 k1 c1 x1 := hd1.below B2 (by omega)
        replace P16 : Bk2 u2 (w26.heap.size) (.bool mM) (.slice AM kM cM) := P16.below B2 P16.lt
        replace P17 : Bk2 u2 (w26.heap.size + 1) (.bool mro) (.slice Aro kro cro) := P17.below B2 P17.lt
        clear B2
        obtain ⟨U33P17, hU33P17⟩ : ∃ U33P17 : World, U33P17 = ((u2.setCell ⟨w26.heap.size + 1, 0, none⟩ (.bool mU)).setCell ⟨w26.heap.size + 1, 1, none⟩ (.slice AU kU cU)) := ⟨_, rfl⟩
        have zU33P17 : U33P17.heap.size = u2.heap.size := by rw [hU33P17]; simp [World.setCell]
        replace E : Below w.heap.size w U33P17 := by rw [hU33P17]; exact (E.setCell (by first | (simp; done) | (simp; omega)) _).setCell (by first | (simp; done) | (simp; omega)) _
        replace hl11 : LRd U33P17 (w11.heap.size) A11 k11 c11 x11 := by rw [hU33P17]; first | exact hl11.setB P17 (by simp) (by simp) _ _ | exact hl11.setFar2 (by omega) _ _
        replace P11 : Bk2 U33P17 (w11.heap.size) (.bool n11) (.slice A11 k11 c11) := by rw [hU33P17]; exact P11.far2 (by omega) _ _
        replace F12 : Bk2 U33P17 (w11.heap.size + 1) (.int .i64 0) (.int .i64 0) := by rw [hU33P17]; exact F12.far2 (by omega) _ _
        replace hdM : DRd U33P17 (w25.heap.size) AM kM cM xM := by rw [hU33P17]; first | exact hdM.setFar2 (by omega) _ _ | exact hdM.setBD P17 (by simp) (by simp) _ _
        replace hd1 : DRd U33P17 (w26.heap.size) A1 k1 c1 x1 := by rw [hU33P17]; first | exact hd1.setFar2 (by omega) _ _ | exact hd1.setBD P17 (by simp) (by simp) _ _
        replace P16 : Bk2 U33P17 (w26.heap.size) (.bool mM) (.slice AM kM cM) := by rw [hU33P17]; exact P16.far2 (by omega) _ _
        replace hdU : DRd U33P17 (u2.heap.size) AU kU cU xU := by rw [hU33P17]; first | exact hdU.setFar2 (by omega) _ _ | exact hdU.setBD P17 (by simp) (by simp) _ _
        replace P17 : Bk2 U33P17 (w26.heap.size + 1) (.bool mU) (.slice AU kU cU) := by rw [hU33P17]; exact P17.set _ _
        rw [← hU33P17]
        clear hU33P17
        have zU33P17' := Nat.le_of_eq zU33P17
        replace zU33P17 := Nat.le_of_eq zU33P17.symm
        have t_P160 : U33P17.cell? ⟨w26.heap.size, 0, none⟩ = some ((.bool mM)) := P16.c0
        have t_P161 : U33P17.cell? ⟨w26.heap.size, 1, none⟩ = some ((.slice AM kM cM)) := P16.c1
        have t_P170 : U33P17.cell? ⟨w26.heap.size + 1, 0, none⟩ = some ((.bool mU)) := P17.c0
        have t_P171 : U33P17.cell? ⟨w26.heap.size + 1, 1, none⟩ = some ((.slice AU kU cU)) := P17.c1
        go_wp2_with fail
        clear t_P160 t_P161 t_P170 t_P171
        (with_reducible refine (floorD_any _ U33P17.heap.size mU mM AU AM kU kM cU cM vU vM xU xM (hdU.more (by omega)) (hdM.more (by omega)) (by omega) RU.out RM.out hvM0 KU KM).mono ?_)
        rintro e wfp ⟨mqp, Aqp, kqp, cqp, xqp, vqp, mrp, Arp, krp, crp, xrp, vrp, qp, rp, rfl, hdqp, hrqp, hvqp, hdrp, hrrp, hvrp, hflp, hbfp⟩
        have swfp := hbfp.size
        replace E : Below w.heap.size w wfp := E.trans (hbfp.mono E.size)
        replace hl11 : LRd wfp (w11.heap.size) A11 k11 c11 x11 := hl11.below hbfp (by omega)
        replace P11 : Bk2 wfp (w11.heap.size) (.bool n11) (.slice A11 k11 c11) := P11.below hbfp P11.lt
        replace F12 : Bk2 wfp (w11.heap.size + 1) (.int .i64 0) (.int .i64 0) := F12.below hbfp F12.lt
        replace hdM : DRd wfp (w25.heap.size) AM kM cM xM := hdM.below hbfp (by omega)
        replace hd1 : DRd wfp (w26.heap.size) A1 k1 c1 x1 := hd1.below hbfp (by omega)
        replace P16 : Bk2 wfp (w26.heap.size) (.bool mM) (.slice AM kM cM) := P16.below hbfp P16.lt
        replace P17 : Bk2 wfp (w26.heap.size + 1) (.bool mU) (.slice AU kU cU) := P17.below hbfp P17.lt
        replace hdU : DRd wfp (u2.heap.size) AU kU cU xU := hdU.below hbfp (by omega)
        clear hbfp
        have hqcp := hdqp.cap
        rw [VU.out, VM.out] at hflp
        have VRp := Lib.hid (hvrp.trans (floor_emod hflp CP.out))
        have KRp := len512 hrrp hdrp.len.out (top_sq (by have := abs_sval VRp.out; have := emod_abs (x := (a.val ^ (vb 4294967296 b.xs / 2) % c.val) * (a.val ^ (vb 4294967296 b.xs / 2) % c.val) % c.val * a.val) CP.out CT.out; omega))
        have RRp := Lib.hid hrrp
        clear hdqp hrqp hvqp hvrp hflp hrrp
        clear P16 hdM hdU
        have y_P170 : wfp.cell? ⟨w26.heap.size + 1, 0, none⟩ = some ((.bool mU)) := P17.c0
        have z_P170 : wfp.frozen? ⟨w26.heap.size + 1, 0, none⟩ = false := P17.z0
        have y_P171 : wfp.cell? ⟨w26.heap.size + 1, 1, none⟩ = some ((.slice AU kU cU)) := P17.c1
        have z_P171 : wfp.frozen? ⟨w26.heap.size + 1, 1, none⟩ = false := P17.z1
        have lt_P17 := P17.lt
        have t_F120 : wfp.cell? ⟨w11.heap.size + 1, 0, none⟩ = some ((.int .i64 0)) := F12.c0
        have t_F121 : wfp.cell? ⟨w11.heap.size + 1, 1, none⟩ = some ((.int .i64 0)) := F12.c1
        have lt_F12 := F12.lt
        have t_P110 : wfp.cell? ⟨w11.heap.size, 0, none⟩ = some ((.bool n11)) := P11.c0
        have t_P111 : wfp.cell? ⟨w11.heap.size, 1, none⟩ = some ((.slice A11 k11 c11)) := P11.c1
        have lt_P11 := P11.lt
        go_wp2_with fail
        clear y_P170 z_P170 y_P171 z_P171 lt_P17 t_F120 t_F121 lt_F12 t_P110 t_P111 lt_P11
        obtain ⟨U15P17, hU15P17⟩ : ∃ U15P17 : World, U15P17 = ((wfp.setCell ⟨w26.heap.size + 1, 0, none⟩ (.bool mrp)).setCell ⟨w26.heap.size + 1, 1, none⟩ (.slice Arp krp crp)) := ⟨_, rfl⟩
        have zU15P17 : U15P17.heap.size = wfp.heap.size := by rw [hU15P17]; simp [World.setCell]
        replace E : Below w.heap.size w U15P17 := by rw [hU15P17]; exact (E.setCell (by first | (simp; done) | (simp; omega)) _).setCell (by first | (simp; done) | (simp; omega)) _
        replace hl11 : LRd U15P17 (w11.heap.size) A11 k11 c11 x11 := by rw [hU15P17]; first | exact hl11.setB P17 (by simp) (by simp) _ _ | exact hl11.setFar2 (by omega) _ _
        replace P11 : Bk2 U15P17 (w11.heap.size) (.bool n11) (.slice A11 k11 c11) := by rw [hU15P17]; exact P11.far2 (by omega) _ _
        replace F12 : Bk2 U15P17 (w11.heap.size + 1) (.int .i64 0) (.int .i64 0) := by rw [hU15P17]; exact F12.far2 (by omega) _ _
        replace hd1 : DRd U15P17 (w26.heap.size) A1 k1 c1 x1 := by rw [hU15P17]; first | exact hd1.setFar2 (by omega) _ _ | exact hd1.setBD P17 (by simp) (by simp) _ _
        replace hdrp : DRd U15P17 (wfp.heap.size) Arp krp crp xrp := by rw [hU15P17]; first | exact hdrp.setFar2 (by omega) _ _ | exact hdrp.setBD P17 (by simp) (by simp) _ _
        replace P17 : Bk2 U15P17 (w26.heap.size + 1) (.bool mrp) (.slice Arp krp crp) := by rw [hU15P17]; exact P17.set _ _
        rw [← hU15P17]
        clear hU15P17
        have zU15P17' := Nat.le_of_eq zU15P17
        replace zU15P17 := Nat.le_of_eq zU15P17.symm
        (with_reducible refine (sameInt_any _ _ n11 mrp A11 Arp k11 krp c11 crp vrp (a.val ^ vb 4294967296 b.xs % c.val) x11 xrp (hl11.more (by omega)) (hdrp.more (by omega)) (Nat.le_refl _) I11.out RRp.out (by rw [VRp.out]; exact pv_odd (by omega)) KRp).mono ?_)
        rintro e w40 ⟨rfl, hb40⟩
        have sw40 := hb40.size
        replace E : Below w.heap.size w w40 := E.trans (hb40.mono E.size)
        replace hl11 : LRd w40 (w11.heap.size) A11 k11 c11 x11 := hl11.below hb40 (by omega)
        replace P11 : Bk2 w40 (w11.heap.size) (.bool n11) (.slice A11 k11 c11) := P11.below hb40 P11.lt
        replace F12 : Bk2 w40 (w11.heap.size + 1) (.int .i64 0) (.int .i64 0) := F12.below hb40 F12.lt
        replace hd1 : DRd w40 (w26.heap.size) A1 k1 c1 x1 := hd1.below hb40 (by omega)
        replace P17 : Bk2 w40 (w26.heap.size + 1) (.bool mrp) (.slice Arp krp crp) := P17.below hb40 P17.lt
        replace hdrp : DRd w40 (wfp.heap.size) Arp krp crp xrp := hdrp.below hb40 (by omega)
        clear hb40
        go_wp2_with fail
        go_ret
        exact ⟨by first | rfl | (simp; done), E⟩
end Go.Proofs.Ytpidkionieaffaa
