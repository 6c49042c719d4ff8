/- The program's PowMod where it has a rest. -/
import Derived.Test.YtpidkionieaffaaMPow5
import Derived.Test.YtpidkionieaffaaMj
import Derived.Test.YtpidkionieaffaaMAri2
import Derived.Deep.RegionHeld3
import Derived.Deep.DeepCutAuto
import Derived.Deep.Cut
import Derived.Deep.CutRange
namespace Go.Proofs.Ytpidkionieaffaa
open Go.RowKit
set_option maxHeartbeats 400000
set_option maxRecDepth 100000
set_option linter.unusedSimpArgs false
set_option linter.unusedVariables false

theorem le_al1' (w : World) (o : Obj) : w.heap.size ≤ (w.alloc o).heap.size := by simp
set_option maxHeartbeats 8000000 in
theorem ipm_ok (w : World) (B : Nat) (a b c : IV) (HA : a.at w B) (HB : b.at w B) (HC : c.at w B) (hB : B ≤ w.heap.size) (oa : a.ok = true) (ob : b.ok = true) (oc : c.ok = true) (hb : Hid (b.neg = false)) (hc : Hid (c.neg = false)) (h0 : 0 < c.n) :
    Calls Try.prog 45 #[a.v, b.v, c.v] w (GivesVF w (a.val ^ vb 4294967296 b.xs % c.val) 0 0) := by
  replace HA : LRd w B a.A a.n a.c a.xs := HA
  replace HB : LRd w B b.A b.n b.c b.xs := HB
  replace HC : LRd w B c.A c.n c.c c.xs := HC
  have E : Below w.heap.size w w := Below.refl _ _
  have IR := Lib.hid (irow3 (((((w.alloc a.cells).alloc b.cells).alloc c.cells).alloc (.cells #[.bool false, .slice none 0 0] 24)).alloc (.cells #[.int .i64 0, .int .i64 0] 26)) B a b c (((((HA.alloc (by omega) _).alloc (by simp; omega) _).alloc (by simp; omega) _).alloc (by simp; omega) _).alloc (by simp; omega) _) (((((HB.alloc (by omega) _).alloc (by simp; omega) _).alloc (by simp; omega) _).alloc (by simp; omega) _).alloc (by simp; omega) _) (((((HC.alloc (by omega) _).alloc (by simp; omega) _).alloc (by simp; omega) _).alloc (by simp; omega) _).alloc (by simp; omega) _) (by simp; omega))
  go_enter Try.func45, Try.ntmps45
  go_wp2_with fail
  obtain ⟨V0, hV0⟩ : ∃ V0 : World, V0 = ((((((w.alloc (.cells #[.bool a.neg, .slice a.A a.n a.c] 24)).alloc (.cells #[.bool b.neg, .slice b.A b.n b.c] 24)).alloc (.cells #[.bool c.neg, .slice c.A c.n c.c] 24)).alloc (.cells #[.bool false, .slice none 0 0] 24)).alloc (.cells #[.int .i64 0, .int .i64 0] 26)).alloc (.cells #[.bool a.neg, .slice a.A a.n a.c, .bool b.neg, .slice b.A b.n b.c, .bool c.neg, .slice c.A c.n c.c] 24)) := ⟨_, rfl⟩
  have bV0 : Below w.heap.size w V0 := by rw [hV0]; (repeat (first | with_reducible exact Below.refl _ _ | with_reducible refine Below.drew ?_ | with_reducible refine below_drewN ?_ _ | with_reducible refine Below.setCell ?_ (by first | (simp; done) | (simp; omega) | omega) _ | with_reducible refine Below.alloc ?_ (by first | (simp; done) | (simp; omega) | omega) _))
  have zV0 : w.heap.size + 6 ≤ V0.heap.size := by rw [hV0]; simp
  have PA : Bk2 V0 (w.heap.size) (.bool a.neg) (.slice a.A a.n a.c) := by rw [hV0]; exact ((((((Bk2.newAt _ _ (by simp) _ _ _).alloc _).alloc _).alloc _).alloc _).alloc _)
  have PB : Bk2 V0 (w.heap.size + 1) (.bool b.neg) (.slice b.A b.n b.c) := by rw [hV0]; exact (((((Bk2.newAt _ _ (by simp) _ _ _).alloc _).alloc _).alloc _).alloc _)
  have PC : Bk2 V0 (w.heap.size + 2) (.bool c.neg) (.slice c.A c.n c.c) := by rw [hV0]; exact ((((Bk2.newAt _ _ (by simp) _ _ _).alloc _).alloc _).alloc _)
  have PR : Bk2 V0 (w.heap.size + 3) (.bool false) (.slice none 0 0) := by rw [hV0]; exact (((Bk2.newAt _ _ (by simp) _ _ _).alloc _).alloc _)
  have PF : Bk2 V0 (w.heap.size + 4) (.int .i64 0) (.int .i64 0) := by rw [hV0]; exact ((Bk2.newAt _ _ (by simp) _ _ _).alloc _)
  replace IR : Hid (IRow V0 B (w.heap.size + 5) [a, b, c]) := by have h9 := IR.out; rw [hV0]; rw [show (((((w.alloc a.cells).alloc b.cells).alloc c.cells).alloc (.cells #[.bool false, .slice none 0 0] 24)).alloc (.cells #[.int .i64 0, .int .i64 0] 26)).heap.size = w.heap.size + 5 by simp] at h9; exact h9
  rw [← hV0]
  clear hV0
  replace E : Below w.heap.size w V0 := E.trans (bV0.mono E.size)
  replace HA : LRd V0 (B) a.A a.n a.c a.xs := HA.below bV0 (by omega)
  replace HB : LRd V0 (B) b.A b.n b.c b.xs := HB.below bV0 (by omega)
  replace HC : LRd V0 (B) c.A c.n c.c c.xs := HC.below bV0 (by omega)
  clear bV0
  (with_reducible refine (check_any _ B (w.heap.size + 5) 3 [a, b, c] IR.out rfl (by omega) (by omega)).mono ?_)
  rintro e w1 ⟨rfl, hb1⟩
  have sw1 := hb1.size
  replace E : Below w.heap.size w w1 := E.trans (hb1.mono E.size)
  replace HA : LRd w1 (B) a.A a.n a.c a.xs := HA.below hb1 (by omega)
  replace HB : LRd w1 (B) b.A b.n b.c b.xs := HB.below hb1 (by omega)
  replace HC : LRd w1 (B) c.A c.n c.c c.xs := HC.below hb1 (by omega)
  replace PA : Bk2 w1 (w.heap.size) (.bool a.neg) (.slice a.A a.n a.c) := PA.below hb1 PA.lt
  replace PB : Bk2 w1 (w.heap.size + 1) (.bool b.neg) (.slice b.A b.n b.c) := PB.below hb1 PB.lt
  replace PC : Bk2 w1 (w.heap.size + 2) (.bool c.neg) (.slice c.A c.n c.c) := PC.below hb1 PC.lt
  replace PR : Bk2 w1 (w.heap.size + 3) (.bool false) (.slice none 0 0) := PR.below hb1 PR.lt
  replace PF : Bk2 w1 (w.heap.size + 4) (.int .i64 0) (.int .i64 0) := PF.below hb1 PF.lt
  clear hb1
  rw [three_ok oa ob oc]
  clear IR
  rw [hb.out] at PB
  rw [hc.out] at PC
  have hc0 : 0 < (c.n : Int) := by omega
  have hcl : c.n ≤ 128 := by have := HC.len.out; have := (IV.vld oc).2; omega
  have t_PB0 : (w1.alloc (.cells #[.int .i64 0, .int .i64 0] 26)).cell? ⟨w.heap.size + 1, 0, none⟩ = some ((.bool false)) := (PB.alloc _).c0
  have t_PB1 : (w1.alloc (.cells #[.int .i64 0, .int .i64 0] 26)).cell? ⟨w.heap.size + 1, 1, none⟩ = some ((.slice b.A b.n b.c)) := (PB.alloc _).c1
  have t_PC0 : (w1.alloc (.cells #[.int .i64 0, .int .i64 0] 26)).cell? ⟨w.heap.size + 2, 0, none⟩ = some ((.bool false)) := (PC.alloc _).c0
  have t_PC1 : (w1.alloc (.cells #[.int .i64 0, .int .i64 0] 26)).cell? ⟨w.heap.size + 2, 1, none⟩ = some ((.slice c.A c.n c.c)) := (PC.alloc _).c1
  have t_PA0 : (w1.alloc (.cells #[.int .i64 0, .int .i64 0] 26)).cell? ⟨w.heap.size, 0, none⟩ = some ((.bool a.neg)) := (PA.alloc _).c0
  have t_PA1 : (w1.alloc (.cells #[.int .i64 0, .int .i64 0] 26)).cell? ⟨w.heap.size, 1, none⟩ = some ((.slice a.A a.n a.c)) := (PA.alloc _).c1
  go_wp2_with fail
  clear t_PB0 t_PB1 t_PC0 t_PC1 t_PA0 t_PA1
  obtain ⟨V1, hV1⟩ : ∃ V1 : World, V1 = (w1.alloc (.cells #[.int .i64 0, .int .i64 0] 26)) := ⟨_, rfl⟩
  have bV1 : Below w1.heap.size w1 V1 := by rw [hV1]; (repeat (first | with_reducible exact Below.refl _ _ | with_reducible refine Below.drew ?_ | with_reducible refine below_drewN ?_ _ | with_reducible refine Below.setCell ?_ (by first | (simp; done) | (simp; omega) | omega) _ | with_reducible refine Below.alloc ?_ (by first | (simp; done) | (simp; omega) | omega) _))
  have zV1 : w1.heap.size + 1 ≤ V1.heap.size := by rw [hV1]; simp
  have PQ : Bk2 V1 (w1.heap.size) (.int .i64 0) (.int .i64 0) := by rw [hV1]; exact (Bk2.newAt _ _ (by simp) _ _ _)
  rw [← hV1]
  clear hV1
  replace E : Below w.heap.size w V1 := E.trans (bV1.mono E.size)
  replace HA : LRd V1 (B) a.A a.n a.c a.xs := HA.below bV1 (by omega)
  replace HB : LRd V1 (B) b.A b.n b.c b.xs := HB.below bV1 (by omega)
  replace HC : LRd V1 (B) c.A c.n c.c c.xs := HC.below bV1 (by omega)
  replace PA : Bk2 V1 (w.heap.size) (.bool a.neg) (.slice a.A a.n a.c) := PA.below bV1 PA.lt
  replace PB : Bk2 V1 (w.heap.size + 1) (.bool false) (.slice b.A b.n b.c) := PB.below bV1 PB.lt
  replace PC : Bk2 V1 (w.heap.size + 2) (.bool false) (.slice c.A c.n c.c) := PC.below bV1 PC.lt
  replace PR : Bk2 V1 (w.heap.size + 3) (.bool false) (.slice none 0 0) := PR.below bV1 PR.lt
  replace PF : Bk2 V1 (w.heap.size + 4) (.int .i64 0) (.int .i64 0) := PF.below bV1 PF.lt
  clear bV1
  clear PQ
  have om0 := Lib.hid (show (IV.mk false c.A c.n c.c c.xs).ok = true by have h9 := oc; rw [show c.ok = ivld c.neg c.xs from rfl, hc.out] at h9; exact h9)
  have HCV := Lib.hid (show (IV.mk false c.A c.n c.c c.xs).val = c.val by rw [val_mk, ← hc.out]; rfl)
  refine (idivmod_ok _ B a (IV.mk false c.A c.n c.c c.xs) HA HC (by omega) oa om0.out h0).mono ?_
  rintro e w2 ⟨q, r, hfl, n9, A9, k9, c9, x9, n10, A10, k10, c10, x10, rfl, hl9, hr9, hl10, hr10, hb2⟩
  rw [HCV.out] at hfl
  have FL := Lib.hid hfl
  have R10 := Lib.hid hr10
  have c9c := hl9.cap
  have sw2 := hb2.size
  clear hfl hr9 hr10
  replace E : Below w.heap.size w w2 := E.trans (hb2.mono E.size)
  replace HA : LRd w2 (B) a.A a.n a.c a.xs := HA.below hb2 (by omega)
  replace HB : LRd w2 (B) b.A b.n b.c b.xs := HB.below hb2 (by omega)
  replace HC : LRd w2 (B) c.A c.n c.c c.xs := HC.below hb2 (by omega)
  replace PA : Bk2 w2 (w.heap.size) (.bool a.neg) (.slice a.A a.n a.c) := PA.below hb2 PA.lt
  replace PB : Bk2 w2 (w.heap.size + 1) (.bool false) (.slice b.A b.n b.c) := PB.below hb2 PB.lt
  replace PC : Bk2 w2 (w.heap.size + 2) (.bool false) (.slice c.A c.n c.c) := PC.below hb2 PC.lt
  replace PR : Bk2 w2 (w.heap.size + 3) (.bool false) (.slice none 0 0) := PR.below hb2 PR.lt
  replace PF : Bk2 w2 (w.heap.size + 4) (.int .i64 0) (.int .i64 0) := PF.below hb2 PF.lt
  clear hb2 hl9
  go_upto_region 11 with fail
  obtain ⟨V2, hV2⟩ : ∃ V2 : World, V2 = (((w2.alloc (.cells #[.bool n9, .slice A9 k9 c9] 24)).alloc (.cells #[.bool n10, .slice A10 k10 c10] 24)).alloc (.cells #[.int .i64 0, .int .i64 0] 26)) := ⟨_, rfl⟩
  have bV2 : Below w2.heap.size w2 V2 := by rw [hV2]; (repeat (first | with_reducible exact Below.refl _ _ | with_reducible refine Below.drew ?_ | with_reducible refine below_drewN ?_ _ | with_reducible refine Below.setCell ?_ (by first | (simp; done) | (simp; omega) | omega) _ | with_reducible refine Below.alloc ?_ (by first | (simp; done) | (simp; omega) | omega) _))
  have zV2 : w2.heap.size + 3 ≤ V2.heap.size := by rw [hV2]; simp
  have P9 : Bk2 V2 (w2.heap.size) (.bool n9) (.slice A9 k9 c9) := by rw [hV2]; exact (((Bk2.newAt _ _ (by simp) _ _ _).alloc _).alloc _)
  have P10 : Bk2 V2 (w2.heap.size + 1) (.bool n10) (.slice A10 k10 c10) := by rw [hV2]; exact ((Bk2.newAt _ _ (by simp) _ _ _).alloc _)
  have P11 : Bk2 V2 (w2.heap.size + 2) (.int .i64 0) (.int .i64 0) := by rw [hV2]; exact (Bk2.newAt _ _ (by simp) _ _ _)
  rw [← hV2]
  clear hV2
  replace E : Below w.heap.size w V2 := E.trans (bV2.mono E.size)
  replace HA : LRd V2 (B) a.A a.n a.c a.xs := HA.below bV2 (by omega)
  replace HB : LRd V2 (B) b.A b.n b.c b.xs := HB.below bV2 (by omega)
  replace HC : LRd V2 (B) c.A c.n c.c c.xs := HC.below bV2 (by omega)
  replace PA : Bk2 V2 (w.heap.size) (.bool a.neg) (.slice a.A a.n a.c) := PA.below bV2 PA.lt
  replace PB : Bk2 V2 (w.heap.size + 1) (.bool false) (.slice b.A b.n b.c) := PB.below bV2 PB.lt
  replace PC : Bk2 V2 (w.heap.size + 2) (.bool false) (.slice c.A c.n c.c) := PC.below bV2 PC.lt
  replace PR : Bk2 V2 (w.heap.size + 3) (.bool false) (.slice none 0 0) := PR.below bV2 PR.lt
  replace PF : Bk2 V2 (w.heap.size + 4) (.int .i64 0) (.int .i64 0) := PF.below bV2 PF.lt
  replace hl10 : LRd V2 (w2.heap.size) A10 k10 c10 x10 := hl10.below bV2 (by omega)
  clear bV2
  clear P9 P11
  have MP := Lib.hid (show 0 < vb 4294967296 c.xs from rep_pos4' (⟨HC.lim, rfl, (vld_top (IV.vld oc).1).1⟩ : Rep 4294967296 c.xs (vb 4294967296 c.xs)) HC.len.out h0)
  go_cut [13] (fun s13 wx => ∃ A k c' zs, s13 = .slice A k c' ∧ LRd wx wx.heap.size A k c' zs ∧ Hid (Rep 4294967296 zs (1 % vb 4294967296 c.xs)) ∧ Below V2.heap.size V2 wx)
  case first =>
    have G0 : Below V2.heap.size V2 V2.drew := Below.drew (Below.refl _ _)
    have HS := Lib.hid (fun (u : World) (hu : Below V2.heap.size V2 u) => (⟨hu, (PC.below hu PC.lt).c0, (PC.below hu PC.lt).c1⟩ : Below V2.heap.size V2 u ∧ u.cell? ⟨w.heap.size + 2, 0, none⟩ = some (.bool false) ∧ u.cell? ⟨w.heap.size + 2, 1, none⟩ = some (.slice c.A c.n c.c)))
    go_region_held3 (fun u => Below V2.heap.size V2 u ∧ u.cell? ⟨w.heap.size + 2, 0, none⟩ = some (.bool false) ∧ u.cell? ⟨w.heap.size + 2, 1, none⟩ = some (.slice c.A c.n c.c))
      (first | with_reducible exact HS.out _ G0 | with_reducible exact HS.out _ HBQ | with_reducible exact HS.out _ HBP | (refine HS.out _ ?_; (repeat (first | with_reducible exact G0 | with_reducible exact HBQ | with_reducible exact HBP | with_reducible exact Below.refl _ _ | with_reducible refine Below.drew ?_ | with_reducible refine Below.alloc ?_ (by first | (simp; done) | (have := HBQ.size; simp; omega) | (have := HBP.size; simp; omega)) _ | with_reducible refine Below.setCell ?_ (by first | (simp; done) | (have := HBQ.size; simp; omega) | (have := HBP.size; simp; omega)) _)); done) | fail)
      (first
        | (go_at_call 81; (with_reducible refine (one_any _).mono ?_); rintro e wp ⟨Ao, ko, co, xo, rfl, hlo, hro, hbp⟩; have HBP : Below V2.heap.size V2 wp := (by refine bnext ?_ hbp; (repeat (first | with_reducible exact G0 | with_reducible exact HBQ | with_reducible exact HBP | with_reducible exact Below.refl _ _ | with_reducible refine Below.drew ?_ | with_reducible refine Below.alloc ?_ (by first | (simp; done) | (have := HBQ.size; simp; omega) | (have := HBP.size; simp; omega)) _ | with_reducible refine Below.setCell ?_ (by first | (simp; done) | (have := HBQ.size; simp; omega) | (have := HBP.size; simp; omega)) _))); have kl5 : ko ≤ 128 := (by have := hro.length_le (m := 1) (by decide) (by decide); have := hlo.len.out; omega); have RO := Lib.hid hro; clear hro; (first | (have q1 : Bk2 wp (V2.heap.size) (.int .i64 0) (.int .i64 0) := Bk2.next (Bk2.drew (Bk2.new V2 _ _ _)) hbp; obtain ⟨_, _, _, _, _⟩ := id q1) | skip))
        | (go_at_call 79; (with_reducible refine (divmod_ok _ wp.heap.size Ao c.A ko c.n co c.c xo c.xs ?_ ?_ ?_ (rep_vld1 RO.out hlo.len.out kl5) (IV.vld oc).1).mono ?_); (first | with_reducible exact hlo | with_reducible exact hlo.alloc (Nat.le_refl _) _); (first | with_reducible exact ((HC.below HBP (by omega)).more (by have := HBP.size; omega)) | with_reducible exact LRd.alloc ((HC.below HBP (by omega)).more (by have := HBP.size; omega)) (Nat.le_refl _) _); (first | with_reducible exact Nat.le_refl _ | with_reducible exact le_al1' _ _); rintro e wq hgb; obtain ⟨Q, l1, r1, qs, D2, l2, r2, rs, rfl, hq1, hq2, hr1, hr2, hbq⟩ := hgb.elim (fun h => absurd h.1 (by have := HC.len.out; omega)) (fun h => h.2); have HBQ : Below V2.heap.size V2 wq := (by first | exact bnext HBP hbq | exact bnext (Below.alloc HBP HBP.size _) hbq); rw [RO.out.val] at hr2; have RD := Lib.hid hr2; have hq1c := hq1.cap; have hr1c := hr1.cap; clear hr2 hq2; (first | (have s1 : Bk2 wq (V2.heap.size) (.int .i64 0) (.int .i64 0) := Bk2.next q1 hbq; obtain ⟨_, _, _, _, _⟩ := id s1) | skip); (first | (have s3 : Bk2 wq (wp.heap.size) (.int .i64 0) (.int .i64 0) := Bk2.next (Bk2.new wp _ _ _) hbq; obtain ⟨_, _, _, _, _⟩ := id s3) | skip))
        | fail)
    all_goals (go_wp2_with fail)
    all_goals
      go_meet
      refine ⟨D2, l2, r2, rs, rfl, ?_, RD, ?_⟩
      · first
          | with_reducible exact (hr1.alloc (Nat.le_refl _) _).more (by simp)
          | with_reducible exact (hr1.setB s3 (by simp) (by simp) _ _).more (by simp [World.setCell])
          | with_reducible exact (hr1.setB s1 (by simp) (by simp) _ _).more (by simp [World.setCell])
      · (repeat (first | with_reducible exact G0 | with_reducible exact HBQ | with_reducible exact HBP | with_reducible exact Below.refl _ _ | with_reducible refine Below.drew ?_ | with_reducible refine Below.alloc ?_ (by first | (simp; done) | (have := HBQ.size; simp; omega) | (have := HBP.size; simp; omega)) _ | with_reducible refine Below.setCell ?_ (by first | (simp; done) | (have := HBQ.size; simp; omega) | (have := HBP.size; simp; omega)) _))
  case rest =>
  obtain ⟨A3, k3, c3, x3, rfl, hl3, R3, hbX⟩ := hcut
  have sX := hbX.size
  replace E : Below w.heap.size w wc := E.trans (hbX.mono E.size)
  replace HA : LRd wc (B) a.A a.n a.c a.xs := HA.below hbX (by omega)
  replace HB : LRd wc (B) b.A b.n b.c b.xs := HB.below hbX (by omega)
  replace HC : LRd wc (B) c.A c.n c.c c.xs := HC.below hbX (by omega)
  replace PA : Bk2 wc (w.heap.size) (.bool a.neg) (.slice a.A a.n a.c) := PA.below hbX PA.lt
  replace PB : Bk2 wc (w.heap.size + 1) (.bool false) (.slice b.A b.n b.c) := PB.below hbX PB.lt
  replace PC : Bk2 wc (w.heap.size + 2) (.bool false) (.slice c.A c.n c.c) := PC.below hbX PC.lt
  replace PR : Bk2 wc (w.heap.size + 3) (.bool false) (.slice none 0 0) := PR.below hbX PR.lt
  replace PF : Bk2 wc (w.heap.size + 4) (.int .i64 0) (.int .i64 0) := PF.below hbX PF.lt
  replace hl10 : LRd wc (w2.heap.size) A10 k10 c10 x10 := hl10.below hbX (by omega)
  replace P10 : Bk2 wc (w2.heap.size + 1) (.bool n10) (.slice A10 k10 c10) := P10.below hbX P10.lt
  clear hbX
  have kl10 : k10 ≤ 128 := by
    have h1 := FL.out.2
    have h2 := lt128 (⟨HC.lim, rfl, (vld_top (IV.vld oc).1).1⟩ : Rep 4294967296 c.xs (vb 4294967296 c.xs)) rfl (IV.vld oc).2
    have h3 : c.val.natAbs = vb 4294967296 c.xs := IV.abs c
    have := irep_len R10.out (by omega)
    have := hl10.len.out
    omega
  have hmk := fun (fn : Fn) (first cap : Array Value) (w : World) => run_make fn first cap w
  have t_P100 : wc.cell? ⟨w2.heap.size + 1, 0, none⟩ = some ((.bool n10)) := P10.c0
  have t_P101 : wc.cell? ⟨w2.heap.size + 1, 1, none⟩ = some ((.slice A10 k10 c10)) := P10.c1
  have t_PB0 : wc.cell? ⟨w.heap.size + 1, 0, none⟩ = some ((.bool false)) := PB.c0
  have t_PB1 : wc.cell? ⟨w.heap.size + 1, 1, none⟩ = some ((.slice b.A b.n b.c)) := PB.c1
  go_wp2_with fail
  clear t_P100 t_P101 t_PB0 t_PB1
  refine (power2_any _ wc.heap.size (w.heap.size + 1 + 1) A10 b.A A3 k10 b.n k3 c10 b.c c3 r.natAbs (vb 4294967296 b.xs) (IV.mk false c.A c.n c.c c.xs) x10 b.xs x3 (hl10.more (by omega)) (HB.more (by omega)) hl3 (Nat.le_refl _) R10.out.rep ⟨HB.lim, rfl, (vld_top (IV.vld ob).1).1⟩ R3.out kl10 (by have := HB.len.out; have := (IV.vld ob).2; omega) (HC.more (by omega)) om0.out h0 PC).mono ?_
  rintro e w4 ⟨A4, k4, c4, x4, rfl, hl4, hr4, hb4⟩
  have sw4 := hb4.size
  replace E : Below w.heap.size w w4 := E.trans (hb4.mono E.size)
  replace HA : LRd w4 (B) a.A a.n a.c a.xs := HA.below hb4 (by omega)
  replace HB : LRd w4 (B) b.A b.n b.c b.xs := HB.below hb4 (by omega)
  replace HC : LRd w4 (B) c.A c.n c.c c.xs := HC.below hb4 (by omega)
  replace PA : Bk2 w4 (w.heap.size) (.bool a.neg) (.slice a.A a.n a.c) := PA.below hb4 PA.lt
  replace PB : Bk2 w4 (w.heap.size + 1) (.bool false) (.slice b.A b.n b.c) := PB.below hb4 PB.lt
  replace PC : Bk2 w4 (w.heap.size + 2) (.bool false) (.slice c.A c.n c.c) := PC.below hb4 PC.lt
  replace PR : Bk2 w4 (w.heap.size + 3) (.bool false) (.slice none 0 0) := PR.below hb4 PR.lt
  replace PF : Bk2 w4 (w.heap.size + 4) (.int .i64 0) (.int .i64 0) := PF.below hb4 PF.lt
  replace hl10 : LRd w4 (w2.heap.size) A10 k10 c10 x10 := hl10.below hb4 (by omega)
  replace P10 : Bk2 w4 (w2.heap.size + 1) (.bool n10) (.slice A10 k10 c10) := P10.below hb4 P10.lt
  replace hl3 : LRd w4 (wc.heap.size) A3 k3 c3 x3 := hl3.below hb4 (by omega)
  clear hb4
  have HPM := Lib.hid (show sval false (r.natAbs ^ vb 4294967296 b.xs % vb 4294967296 c.xs) = a.val ^ vb 4294967296 b.xs % c.val by
    have h3 : c.val.natAbs = vb 4294967296 c.xs := IV.abs c
    have h4 : 0 < c.val := by
      have : c.val = ((vb 4294967296 c.xs : Nat) : Int) := by rw [sval_val, hc.out]; rfl
      have := MP.out
      omega
    rw [← h3]
    exact pm_val FL.out h4)
  have R4 := Lib.hid hr4
  clear hr4 hmk
  go_wp2_with fail
  clear PA PB PC P10 hl10 HA HB HC hl3
  (with_reducible refine (signed_any _ false A4 k4 c4 _ x4 hl4 R4.out).mono ?_)
  rintro e u8 ⟨m8, A8, k8, c8, x8, rfl, hl8, hr8, hb8⟩
  have su8 := hb8.size
  replace E : Below w.heap.size w u8 := E.trans (hb8.mono E.size)
  replace PR : Bk2 u8 (w.heap.size + 3) (.bool false) (.slice none 0 0) := PR.below hb8 PR.lt
  replace PF : Bk2 u8 (w.heap.size + 4) (.int .i64 0) (.int .i64 0) := PF.below hb8 PF.lt
  replace hl4 : LRd u8 (w4.heap.size) A4 k4 c4 x4 := hl4.below hb8 (by omega)
  clear hb8
  clear hl4
  rw [HPM.out] at hr8
  have R8 := Lib.hid hr8
  clear hr8
  have y_PR0 : u8.cell? ⟨w.heap.size + 3, 0, none⟩ = some ((.bool false)) := PR.c0
  have z_PR0 : u8.frozen? ⟨w.heap.size + 3, 0, none⟩ = false := PR.z0
  have y_PR1 : u8.cell? ⟨w.heap.size + 3, 1, none⟩ = some ((.slice none 0 0)) := PR.c1
  have z_PR1 : u8.frozen? ⟨w.heap.size + 3, 1, none⟩ = false := PR.z1
  have lt_PR := PR.lt
  have y_PF0 : u8.cell? ⟨w.heap.size + 4, 0, none⟩ = some ((.int .i64 0)) := PF.c0
  have z_PF0 : u8.frozen? ⟨w.heap.size + 4, 0, none⟩ = false := PF.z0
  have y_PF1 : u8.cell? ⟨w.heap.size + 4, 1, none⟩ = some ((.int .i64 0)) := PF.c1
  have z_PF1 : u8.frozen? ⟨w.heap.size + 4, 1, none⟩ = false := PF.z1
  have lt_PF := PF.lt
  go_wp2_with fail
  clear y_PR0 z_PR0 y_PR1 z_PR1 lt_PR y_PF0 z_PF0 y_PF1 z_PF1 lt_PF
  obtain ⟨U4PR, hU4PR⟩ : ∃ U4PR : World, U4PR = ((u8.setCell ⟨w.heap.size + 3, 0, none⟩ (.bool m8)).setCell ⟨w.heap.size + 3, 1, none⟩ (.slice A8 k8 c8)) := ⟨_, rfl⟩
  have zU4PR : U4PR.heap.size = u8.heap.size := by rw [hU4PR]; simp [World.setCell]
  replace E : Below w.heap.size w U4PR := by rw [hU4PR]; exact (E.setCell (by first | (simp; done) | (simp; omega)) _).setCell (by first | (simp; done) | (simp; omega)) _
  replace PF : Bk2 U4PR (w.heap.size + 4) (.int .i64 0) (.int .i64 0) := by rw [hU4PR]; exact PF.far2 (by omega) _ _
  replace hl8 : LRd U4PR (u8.heap.size) A8 k8 c8 x8 := by rw [hU4PR]; first | exact hl8.setB PR (by simp) (by simp) _ _ | exact hl8.setFar2 (by omega) _ _
  replace PR : Bk2 U4PR (w.heap.size + 3) (.bool m8) (.slice A8 k8 c8) := by rw [hU4PR]; exact PR.set _ _
  rw [← hU4PR]
  clear hU4PR
  have zU4PR' := Nat.le_of_eq zU4PR
  replace zU4PR := Nat.le_of_eq zU4PR.symm
  obtain ⟨U4PF, hU4PF⟩ : ∃ U4PF : World, U4PF = ((U4PR.setCell ⟨w.heap.size + 4, 0, none⟩ (.int .i64 0)).setCell ⟨w.heap.size + 4, 1, none⟩ (.int .i64 0)) := ⟨_, rfl⟩
  have zU4PF : U4PF.heap.size = U4PR.heap.size := by rw [hU4PF]; simp [World.setCell]
  replace E : Below w.heap.size w U4PF := by rw [hU4PF]; exact (E.setCell (by first | (simp; done) | (simp; omega)) _).setCell (by first | (simp; done) | (simp; omega)) _
  replace PR : Bk2 U4PF (w.heap.size + 3) (.bool m8) (.slice A8 k8 c8) := by rw [hU4PF]; exact PR.far2 (by omega) _ _
  replace hl8 : LRd U4PF (u8.heap.size) A8 k8 c8 x8 := by rw [hU4PF]; first | exact hl8.setB PF (by simp) (by simp) _ _ | exact hl8.setFar2 (by omega) _ _
  replace PF : Bk2 U4PF (w.heap.size + 4) (.int .i64 0) (.int .i64 0) := by rw [hU4PF]; exact PF.set _ _
  rw [← hU4PF]
  clear hU4PF
  have zU4PF' := Nat.le_of_eq zU4PF
  replace zU4PF := Nat.le_of_eq zU4PF.symm
  obtain ⟨f0, f1, _, _, _⟩ := PF
  obtain ⟨r0, r1, _, _, _⟩ := PR
  refine bodyPost_ret (v := .tuple #[intv m8 A8 k8 c8, flt 0 0]) (by simp [results, Try.results45, go_sem, f0, f1, r0, r1]) rfl ⟨m8, A8, k8, c8, x8, rfl, hl8.more (by omega), R8.out, E⟩
end Go.Proofs.Ytpidkionieaffaa
