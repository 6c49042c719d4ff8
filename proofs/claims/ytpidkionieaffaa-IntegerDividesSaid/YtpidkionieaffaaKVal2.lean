/- IntegerValues: the law, where the first integer is valid. -/
import Derived.Test.YtpidkionieaffaaKVal1
import Derived.Test.YtpidkionieaffaaKh
import Derived.Test.YtpidkionieaffaaKHand
import Derived.Test.YtpidkionieaffaaKe
import Derived.Test.YtpidkionieaffaaKc
import Derived.Test.YtpidkionieaffaaKAri2
namespace Go.Proofs.Ytpidkionieaffaa
open Go.RowKit
set_option maxHeartbeats 400000
set_option maxRecDepth 100000
set_option linter.unusedSimpArgs false
set_option linter.unusedVariables false

def CR (x y : Int) (ok : Bool) (f1 r : Int) : Prop := (f1 = 0 ∧ ok = true ∧ ICmp x y r) ∨ (f1 = 6 ∧ r = 0)
def CmpAny (x y : Int) (ok : Bool) (f1 f2 : Int) (w : World) (e : Ending) (w' : World) : Prop := ∃ r, CR x y ok f1 r ∧ GivesI w r f1 f2 e w'
theorem icmp_any (w : World) (B : Nat) (a b : IV) (HA : a.at w B) (HB : b.at w B) (hB : B ≤ w.heap.size) (f1 f2 : Int) (hf : ffault [a, b] 0 = (f1, f2)) (oa : a.ok = true) :
    Calls Try.prog 14 #[a.v, b.v] w (CmpAny a.val b.val b.ok f1 f2 w) := by
  by_cases ob : b.ok = true
  · rw [two_ok oa ob] at hf
    obtain ⟨rfl, rfl⟩ := Prod.mk.inj hf
    refine (icmp_ok w B a b HA HB hB oa ob).mono ?_
    rintro e w1 ⟨r, hr, h⟩
    exact ⟨r, .inl ⟨rfl, ob, hr⟩, h⟩
  · obtain ⟨g2, hg⟩ := two_bad (a := a) (b := b) (fun h => ob h.2)
    rw [hg] at hf
    obtain ⟨rfl, rfl⟩ := Prod.mk.inj hf
    refine (icmp_bad w B a b HA HB hB g2 hg).mono ?_
    rintro e w1 h
    exact ⟨0, .inr ⟨rfl, rfl⟩, h⟩
theorem ones_len {xs zs : List Nat} {k : Nat} (hx : Lim xs) (ht : Top xs) (h : Rep 2 zs (vb 4294967296 xs)) (hl : zs.length = k) : k = nbits xs := by
  have h1 := nbits_hi hx
  have h2 := h.length_le (by decide) h1
  rcases Nat.eq_zero_or_pos (nbits xs) with e | e
  · omega
  · have h0 : xs.length ≠ 0 := fun e0 => by rw [nbits_nil e0] at e; omega
    have h3 := nbits_lo hx ht h0
    have h4 := h.lt_pow (by decide)
    have h5 : 2 ^ (nbits xs - 1) < 2 ^ zs.length := Nat.lt_of_le_of_lt h3 h4
    have := (Nat.pow_lt_pow_iff_right (by decide : 1 < 2)).1 h5
    omega
theorem yr_fit {z : Int} (h : z.natAbs < Top128) : YR z z 0 0 := .inl ⟨h, rfl, rfl, rfl⟩
theorem icmp_uniq {x y r q : Int} (h : ICmp x y r) (h2 : ICmp x y q) : r = q := by unfold ICmp at h h2; omega
set_option maxHeartbeats 8000000 in
theorem vals_in (w : World) (a b : IV) (i : Int) (i1 : -9223372036854775808 ≤ i) (i2 : i ≤ 9223372036854775807) (HA : a.at w w.heap.size) (HB : b.at w w.heap.size) (f1 f2 : Int) (hf : ffault [a, b] 0 = (f1, f2)) (oa : a.ok = true) (hs : -9223372036854775808 ≤ a.val ∧ a.val ≤ 9223372036854775807) :
    Calls Try.prog 3 #[a.v, b.v, .int .i64 i] w (fun e w' => e = .returned (.bool true) ∧ Below w.heap.size w w') := by
  replace HA : LRd w w.heap.size a.A a.n a.c a.xs := HA
  replace HB : LRd w w.heap.size b.A b.n b.c b.xs := HB
  have E : Below w.heap.size w w := Below.refl _ _
  have IR := Lib.hid (irow2 ((w.alloc a.cells).alloc b.cells) w.heap.size a b ((HA.alloc (Nat.le_refl _) _).alloc (by simp) _) ((HB.alloc (Nat.le_refl _) _).alloc (by simp) _) (by simp; omega))
  go_enter Try.func3, Try.ntmps3
  go_wp2_with fail
  obtain ⟨V0, hV0⟩ : ∃ V0 : World, V0 = (((w.alloc (.cells #[.bool a.neg, .slice a.A a.n a.c] 24)).alloc (.cells #[.bool b.neg, .slice b.A b.n b.c] 24)).alloc (.cells #[.bool a.neg, .slice a.A a.n a.c, .bool b.neg, .slice b.A b.n b.c] 24)) := ⟨_, rfl⟩
  have bV0 : Below w.heap.size w V0 := by rw [hV0]; (repeat (first | with_reducible exact Below.refl _ _ | with_reducible refine Below.drew ?_ | with_reducible refine below_drewN ?_ _ | with_reducible refine Below.setCell ?_ (by first | (simp; done) | (simp; omega) | omega) _ | with_reducible refine Below.alloc ?_ (by first | (simp; done) | (simp; omega) | omega) _))
  have zV0 : w.heap.size + 3 ≤ V0.heap.size := by rw [hV0]; simp
  have PA : Bk2 V0 (w.heap.size) (.bool a.neg) (.slice a.A a.n a.c) := by rw [hV0]; exact (((Bk2.newAt _ _ (by simp) _ _ _).alloc _).alloc _)
  have PB : Bk2 V0 (w.heap.size + 1) (.bool b.neg) (.slice b.A b.n b.c) := by rw [hV0]; exact ((Bk2.newAt _ _ (by simp) _ _ _).alloc _)
  replace IR : Hid (IRow V0 w.heap.size (w.heap.size + 2) [a, b]) := by have h9 := IR.out; rw [hV0]; rw [show ((w.alloc a.cells).alloc b.cells).heap.size = w.heap.size + 2 by simp] at h9; exact h9
  rw [← hV0]
  clear hV0
  replace E : Below w.heap.size w V0 := E.trans (bV0.mono E.size)
  replace HA : LRd V0 (w.heap.size) a.A a.n a.c a.xs := HA.below bV0 (by omega)
  replace HB : LRd V0 (w.heap.size) b.A b.n b.c b.xs := HB.below bV0 (by omega)
  clear bV0
  (with_reducible refine (faults_any _ w.heap.size (w.heap.size + 2) 2 [a, b] IR.out rfl (by omega) (by omega)).mono ?_)
  rintro e w1 ⟨rfl, hb1⟩
  have sw1 := hb1.size
  replace E : Below w.heap.size w w1 := E.trans (hb1.mono E.size)
  replace HA : LRd w1 (w.heap.size) a.A a.n a.c a.xs := HA.below hb1 (by omega)
  replace HB : LRd w1 (w.heap.size) b.A b.n b.c b.xs := HB.below hb1 (by omega)
  replace PA : Bk2 w1 (w.heap.size) (.bool a.neg) (.slice a.A a.n a.c) := PA.below hb1 PA.lt
  replace PB : Bk2 w1 (w.heap.size + 1) (.bool b.neg) (.slice b.A b.n b.c) := PB.below hb1 PB.lt
  clear hb1
  rw [hf]
  clear IR
  have t_PA0 : (w1.alloc (.cells #[.int .i64 f1, .int .i64 f2] 26)).cell? ⟨w.heap.size, 0, none⟩ = some ((.bool a.neg)) := (PA.alloc _).c0
  have t_PA1 : (w1.alloc (.cells #[.int .i64 f1, .int .i64 f2] 26)).cell? ⟨w.heap.size, 1, none⟩ = some ((.slice a.A a.n a.c)) := (PA.alloc _).c1
  have t_PB0 : (w1.alloc (.cells #[.int .i64 f1, .int .i64 f2] 26)).cell? ⟨w.heap.size + 1, 0, none⟩ = some ((.bool b.neg)) := (PB.alloc _).c0
  have t_PB1 : (w1.alloc (.cells #[.int .i64 f1, .int .i64 f2] 26)).cell? ⟨w.heap.size + 1, 1, none⟩ = some ((.slice b.A b.n b.c)) := (PB.alloc _).c1
  go_wp2_with fail
  clear t_PA0 t_PA1 t_PB0 t_PB1
  obtain ⟨V1, hV1⟩ : ∃ V1 : World, V1 = (w1.alloc (.cells #[.int .i64 f1, .int .i64 f2] 26)) := ⟨_, rfl⟩
  have bV1 : Below w1.heap.size w1 V1 := by rw [hV1]; (repeat (first | with_reducible exact Below.refl _ _ | with_reducible refine Below.drew ?_ | with_reducible refine below_drewN ?_ _ | with_reducible refine Below.setCell ?_ (by first | (simp; done) | (simp; omega) | omega) _ | with_reducible refine Below.alloc ?_ (by first | (simp; done) | (simp; omega) | omega) _))
  have zV1 : w1.heap.size + 1 ≤ V1.heap.size := by rw [hV1]; simp
  have F7 : Bk2 V1 (w1.heap.size) (.int .i64 f1) (.int .i64 f2) := by rw [hV1]; exact (Bk2.newAt _ _ (by simp) _ _ _)
  rw [← hV1]
  clear hV1
  replace E : Below w.heap.size w V1 := E.trans (bV1.mono E.size)
  replace HA : LRd V1 (w.heap.size) a.A a.n a.c a.xs := HA.below bV1 (by omega)
  replace HB : LRd V1 (w.heap.size) b.A b.n b.c b.xs := HB.below bV1 (by omega)
  replace PA : Bk2 V1 (w.heap.size) (.bool a.neg) (.slice a.A a.n a.c) := PA.below bV1 PA.lt
  replace PB : Bk2 V1 (w.heap.size + 1) (.bool b.neg) (.slice b.A b.n b.c) := PB.below bV1 PB.lt
  clear bV1
  refine (icmp_any _ w.heap.size a b HA HB (by omega) f1 f2 hf oa).mono ?_
  rintro e w2 ⟨r, hr2, rfl, hb2⟩
  have R2 := Lib.hid hr2
  clear hr2
  have sw2 := hb2.size
  replace E : Below w.heap.size w w2 := E.trans (hb2.mono E.size)
  replace HA : LRd w2 (w.heap.size) a.A a.n a.c a.xs := HA.below hb2 (by omega)
  replace HB : LRd w2 (w.heap.size) b.A b.n b.c b.xs := HB.below hb2 (by omega)
  replace PA : Bk2 w2 (w.heap.size) (.bool a.neg) (.slice a.A a.n a.c) := PA.below hb2 PA.lt
  replace PB : Bk2 w2 (w.heap.size + 1) (.bool b.neg) (.slice b.A b.n b.c) := PB.below hb2 PB.lt
  replace F7 : Bk2 w2 (w1.heap.size) (.int .i64 f1) (.int .i64 f2) := F7.below hb2 F7.lt
  clear hb2
  go_upto_region 3 with fail
  obtain ⟨V2, hV2⟩ : ∃ V2 : World, V2 = (w2.alloc (.cells #[.int .i64 f1, .int .i64 f2] 26)) := ⟨_, rfl⟩
  have bV2 : Below w2.heap.size w2 V2 := by rw [hV2]; (repeat (first | with_reducible exact Below.refl _ _ | with_reducible refine Below.drew ?_ | with_reducible refine below_drewN ?_ _ | with_reducible refine Below.setCell ?_ (by first | (simp; done) | (simp; omega) | omega) _ | with_reducible refine Below.alloc ?_ (by first | (simp; done) | (simp; omega) | omega) _))
  have zV2 : w2.heap.size + 1 ≤ V2.heap.size := by rw [hV2]; simp
  have F9 : Bk2 V2 (w2.heap.size) (.int .i64 f1) (.int .i64 f2) := by rw [hV2]; exact (Bk2.newAt _ _ (by simp) _ _ _)
  rw [← hV2]
  clear hV2
  replace E : Below w.heap.size w V2 := E.trans (bV2.mono E.size)
  replace HA : LRd V2 (w.heap.size) a.A a.n a.c a.xs := HA.below bV2 (by omega)
  replace HB : LRd V2 (w.heap.size) b.A b.n b.c b.xs := HB.below bV2 (by omega)
  replace PA : Bk2 V2 (w.heap.size) (.bool a.neg) (.slice a.A a.n a.c) := PA.below bV2 PA.lt
  replace PB : Bk2 V2 (w.heap.size + 1) (.bool b.neg) (.slice b.A b.n b.c) := PB.below bV2 PB.lt
  replace F7 : Bk2 V2 (w1.heap.size) (.int .i64 f1) (.int .i64 f2) := F7.below bV2 F7.lt
  clear bV2
  have VA : ivld a.neg a.xs = true := oa
  have G0 : Below V2.heap.size V2 V2.drew := Below.drew (Below.refl _ _)
  have HS := Lib.hid (fun (u : World) (hu : Below V2.heap.size V2 u) => (⟨hu, (PA.below hu PA.lt).c0, (PA.below hu PA.lt).c1, (F7.below hu F7.lt).c0, (F7.below hu F7.lt).c1, (F9.below hu F9.lt).c0, (F9.below hu F9.lt).c1⟩ : Below V2.heap.size V2 u ∧ u.cell? ⟨w.heap.size, 0, none⟩ = some (.bool a.neg) ∧ u.cell? ⟨w.heap.size, 1, none⟩ = some (.slice a.A a.n a.c) ∧ u.cell? ⟨w1.heap.size, 0, none⟩ = some (.int .i64 f1) ∧ u.cell? ⟨w1.heap.size, 1, none⟩ = some (.int .i64 f2) ∧ u.cell? ⟨w2.heap.size, 0, none⟩ = some (.int .i64 f1) ∧ u.cell? ⟨w2.heap.size, 1, none⟩ = some (.int .i64 f2)))
  go_region_held3 (fun u => Below V2.heap.size V2 u ∧ u.cell? ⟨w.heap.size, 0, none⟩ = some (.bool a.neg) ∧ u.cell? ⟨w.heap.size, 1, none⟩ = some (.slice a.A a.n a.c) ∧ u.cell? ⟨w1.heap.size, 0, none⟩ = some (.int .i64 f1) ∧ u.cell? ⟨w1.heap.size, 1, none⟩ = some (.int .i64 f2) ∧ u.cell? ⟨w2.heap.size, 0, none⟩ = some (.int .i64 f1) ∧ u.cell? ⟨w2.heap.size, 1, none⟩ = some (.int .i64 f2)) (first | with_reducible exact HS.out _ G0 | with_reducible exact HS.out _ B6 | with_reducible exact HS.out _ B5 | with_reducible exact HS.out _ B4 | with_reducible exact HS.out _ B3 | with_reducible exact HS.out _ B2 | with_reducible exact HS.out _ B1 | fail)
    (first
      | (go_at_call 15; (with_reducible refine (counts_any _).mono ?_); rintro e u1 ⟨rfl, hb1⟩; have B1 : Below V2.heap.size V2 u1 := bnext G0 hb1)
      | (go_at_call 16; (with_reducible refine (ivalid_any _ _ a.neg a.A a.n a.c a.xs ((HA.below B1 (by omega)).more (by have := B1.size; omega)) (Nat.le_refl _)).mono ?_); rintro e u2 ⟨rfl, hb2⟩; have B2 : Below V2.heap.size V2 u2 := bnext B1 hb2; rw [VA])
      | (go_at_call 17; (with_reducible refine (intOk_any _ _ a.neg a.A a.n a.c a.xs ((HA.below B2 (by omega)).more (by have := B2.size; omega)) (Nat.le_refl _)).mono ?_); rintro e u3 ⟨rfl, hb3⟩; have B3 : Below V2.heap.size V2 u3 := bnext B2 hb3; rw [VA])
      | (go_at_call 19; (with_reducible refine (iof_any _ i i1 i2).mono ?_); rintro e u4 ⟨m4, A4, k4, c4, x4, rfl, hl4, hr4, hb4⟩; have B4 : Below V2.heap.size V2 u4 := bnext B3 hb4; have R4 := Lib.hid hr4; clear hr4)
      | (go_at_call 20; (with_reducible refine (number_any _ i i1 i2).mono ?_); rintro e u5 ⟨m5, A5, k5, c5, x5, v5, rfl, hd5, hr5, hv5, hb5⟩; have B5 : Below V2.heap.size V2 u5 := bnext B4 hb5; have K5 := len512 hr5 hd5.len.out (top_sq (by have := abs_sval hv5; have := top_i64; omega)); have R5 := Lib.hid hr5; have V5 := Lib.hid hv5; clear hr5 hv5)
      | (go_at_call 18; (with_reducible refine (sameInt_any _ _ m4 m5 A4 A5 k4 k5 c4 c5 v5 i x4 x5 ((hl4.below hb5 (Nat.le_refl _)).more hb5.size) hd5 (Nat.le_refl _) R4.out R5.out V5.out K5).mono ?_); rintro e u6 ⟨rfl, hb6⟩; have B6 : Below V2.heap.size V2 u6 := bnext B5 hb6)
      | fail)
  go_wp2_with fail
  clear HS G0
  have s6 := B6.size
  replace E : Below w.heap.size w u6 := E.trans (B6.mono E.size)
  replace HA : LRd u6 (w.heap.size) a.A a.n a.c a.xs := HA.below B6 (by omega)
  replace HB : LRd u6 (w.heap.size) b.A b.n b.c b.xs := HB.below B6 (by omega)
  replace PA : Bk2 u6 (w.heap.size) (.bool a.neg) (.slice a.A a.n a.c) := PA.below B6 PA.lt
  replace PB : Bk2 u6 (w.heap.size + 1) (.bool b.neg) (.slice b.A b.n b.c) := PB.below B6 PB.lt
  replace F7 : Bk2 u6 (w1.heap.size) (.int .i64 f1) (.int .i64 f2) := F7.below B6 F7.lt
  replace F9 : Bk2 u6 (w2.heap.size) (.int .i64 f1) (.int .i64 f2) := F9.below B6 F9.lt
  clear B1 B2 B3 B4 B5 B6 hb1 hb2 hb3 hb4 hb5 hb6 R4 R5 V5 K5 hd5 hl4
  refine (ismall_ok _ w.heap.size a HA (by omega) oa).mono ?_
  rintro e w7 hS
  obtain ⟨rfl, hb7⟩ := hS.elim (fun h => h.2) (fun h => absurd hs h.1)
  clear hS
  have sw7 := hb7.size
  replace E : Below w.heap.size w w7 := E.trans (hb7.mono E.size)
  replace HA : LRd w7 (w.heap.size) a.A a.n a.c a.xs := HA.below hb7 (by omega)
  replace HB : LRd w7 (w.heap.size) b.A b.n b.c b.xs := HB.below hb7 (by omega)
  replace PA : Bk2 w7 (w.heap.size) (.bool a.neg) (.slice a.A a.n a.c) := PA.below hb7 PA.lt
  replace PB : Bk2 w7 (w.heap.size + 1) (.bool b.neg) (.slice b.A b.n b.c) := PB.below hb7 PB.lt
  replace F7 : Bk2 w7 (w1.heap.size) (.int .i64 f1) (.int .i64 f2) := F7.below hb7 F7.lt
  replace F9 : Bk2 w7 (w2.heap.size) (.int .i64 f1) (.int .i64 f2) := F9.below hb7 F9.lt
  clear hb7
  have t_PA0 : (w7.alloc (.cells #[.int .i64 0, .int .i64 0] 26)).cell? ⟨w.heap.size, 0, none⟩ = some ((.bool a.neg)) := (PA.alloc _).c0
  have t_PA1 : (w7.alloc (.cells #[.int .i64 0, .int .i64 0] 26)).cell? ⟨w.heap.size, 1, none⟩ = some ((.slice a.A a.n a.c)) := (PA.alloc _).c1
  go_wp2_with fail
  clear t_PA0 t_PA1
  obtain ⟨V3, hV3⟩ : ∃ V3 : World, V3 = (w7.alloc (.cells #[.int .i64 0, .int .i64 0] 26)) := ⟨_, rfl⟩
  have bV3 : Below w7.heap.size w7 V3 := by rw [hV3]; (repeat (first | with_reducible exact Below.refl _ _ | with_reducible refine Below.drew ?_ | with_reducible refine below_drewN ?_ _ | with_reducible refine Below.setCell ?_ (by first | (simp; done) | (simp; omega) | omega) _ | with_reducible refine Below.alloc ?_ (by first | (simp; done) | (simp; omega) | omega) _))
  have zV3 : w7.heap.size + 1 ≤ V3.heap.size := by rw [hV3]; simp
  have FS : Bk2 V3 (w7.heap.size) (.int .i64 0) (.int .i64 0) := by rw [hV3]; exact (Bk2.newAt _ _ (by simp) _ _ _)
  rw [← hV3]
  clear hV3
  replace E : Below w.heap.size w V3 := E.trans (bV3.mono E.size)
  replace HA : LRd V3 (w.heap.size) a.A a.n a.c a.xs := HA.below bV3 (by omega)
  replace HB : LRd V3 (w.heap.size) b.A b.n b.c b.xs := HB.below bV3 (by omega)
  replace PA : Bk2 V3 (w.heap.size) (.bool a.neg) (.slice a.A a.n a.c) := PA.below bV3 PA.lt
  replace PB : Bk2 V3 (w.heap.size + 1) (.bool b.neg) (.slice b.A b.n b.c) := PB.below bV3 PB.lt
  replace F7 : Bk2 V3 (w1.heap.size) (.int .i64 f1) (.int .i64 f2) := F7.below bV3 F7.lt
  replace F9 : Bk2 V3 (w2.heap.size) (.int .i64 f1) (.int .i64 f2) := F9.below bV3 F9.lt
  clear bV3
  refine (ibits_ok _ w.heap.size a HA (by omega) oa).mono ?_
  rintro e w8 ⟨rfl, hb8⟩
  have sw8 := hb8.size
  replace E : Below w.heap.size w w8 := E.trans (hb8.mono E.size)
  replace HA : LRd w8 (w.heap.size) a.A a.n a.c a.xs := HA.below hb8 (by omega)
  replace HB : LRd w8 (w.heap.size) b.A b.n b.c b.xs := HB.below hb8 (by omega)
  replace PA : Bk2 w8 (w.heap.size) (.bool a.neg) (.slice a.A a.n a.c) := PA.below hb8 PA.lt
  replace PB : Bk2 w8 (w.heap.size + 1) (.bool b.neg) (.slice b.A b.n b.c) := PB.below hb8 PB.lt
  replace F7 : Bk2 w8 (w1.heap.size) (.int .i64 f1) (.int .i64 f2) := F7.below hb8 F7.lt
  replace F9 : Bk2 w8 (w2.heap.size) (.int .i64 f1) (.int .i64 f2) := F9.below hb8 F9.lt
  replace FS : Bk2 w8 (w7.heap.size) (.int .i64 0) (.int .i64 0) := FS.below hb8 FS.lt
  clear hb8
  have t_PA0 : (w8.alloc (.cells #[.int .i64 0, .int .i64 0] 26)).cell? ⟨w.heap.size, 0, none⟩ = some ((.bool a.neg)) := (PA.alloc _).c0
  have t_PA1 : (w8.alloc (.cells #[.int .i64 0, .int .i64 0] 26)).cell? ⟨w.heap.size, 1, none⟩ = some ((.slice a.A a.n a.c)) := (PA.alloc _).c1
  go_wp2_with fail
  clear t_PA0 t_PA1
  obtain ⟨V4, hV4⟩ : ∃ V4 : World, V4 = (w8.alloc (.cells #[.int .i64 0, .int .i64 0] 26)) := ⟨_, rfl⟩
  have bV4 : Below w8.heap.size w8 V4 := by rw [hV4]; (repeat (first | with_reducible exact Below.refl _ _ | with_reducible refine Below.drew ?_ | with_reducible refine below_drewN ?_ _ | with_reducible refine Below.setCell ?_ (by first | (simp; done) | (simp; omega) | omega) _ | with_reducible refine Below.alloc ?_ (by first | (simp; done) | (simp; omega) | omega) _))
  have zV4 : w8.heap.size + 1 ≤ V4.heap.size := by rw [hV4]; simp
  have FB : Bk2 V4 (w8.heap.size) (.int .i64 0) (.int .i64 0) := by rw [hV4]; exact (Bk2.newAt _ _ (by simp) _ _ _)
  rw [← hV4]
  clear hV4
  replace E : Below w.heap.size w V4 := E.trans (bV4.mono E.size)
  replace HA : LRd V4 (w.heap.size) a.A a.n a.c a.xs := HA.below bV4 (by omega)
  replace HB : LRd V4 (w.heap.size) b.A b.n b.c b.xs := HB.below bV4 (by omega)
  replace PA : Bk2 V4 (w.heap.size) (.bool a.neg) (.slice a.A a.n a.c) := PA.below bV4 PA.lt
  replace PB : Bk2 V4 (w.heap.size + 1) (.bool b.neg) (.slice b.A b.n b.c) := PB.below bV4 PB.lt
  replace F7 : Bk2 V4 (w1.heap.size) (.int .i64 f1) (.int .i64 f2) := F7.below bV4 F7.lt
  replace F9 : Bk2 V4 (w2.heap.size) (.int .i64 f1) (.int .i64 f2) := F9.below bV4 F9.lt
  replace FS : Bk2 V4 (w7.heap.size) (.int .i64 0) (.int .i64 0) := FS.below bV4 FS.lt
  clear bV4
  refine (ineg_ok _ w.heap.size a HA (by omega) oa).mono ?_
  rintro e w9 ⟨n9, A9, k9, c9, x9, rfl, hl9, hr9, hb9⟩
  have sw9 := hb9.size
  replace E : Below w.heap.size w w9 := E.trans (hb9.mono E.size)
  replace HA : LRd w9 (w.heap.size) a.A a.n a.c a.xs := HA.below hb9 (by omega)
  replace HB : LRd w9 (w.heap.size) b.A b.n b.c b.xs := HB.below hb9 (by omega)
  replace PA : Bk2 w9 (w.heap.size) (.bool a.neg) (.slice a.A a.n a.c) := PA.below hb9 PA.lt
  replace PB : Bk2 w9 (w.heap.size + 1) (.bool b.neg) (.slice b.A b.n b.c) := PB.below hb9 PB.lt
  replace F7 : Bk2 w9 (w1.heap.size) (.int .i64 f1) (.int .i64 f2) := F7.below hb9 F7.lt
  replace F9 : Bk2 w9 (w2.heap.size) (.int .i64 f1) (.int .i64 f2) := F9.below hb9 F9.lt
  replace FS : Bk2 w9 (w7.heap.size) (.int .i64 0) (.int .i64 0) := FS.below hb9 FS.lt
  replace FB : Bk2 w9 (w8.heap.size) (.int .i64 0) (.int .i64 0) := FB.below hb9 FB.lt
  clear hb9
  have I9 := Lib.hid hr9
  clear hr9
  have t_PA0 : ((w9.alloc (.cells #[.bool n9, .slice A9 k9 c9] 24)).alloc (.cells #[.int .i64 0, .int .i64 0] 26)).cell? ⟨w.heap.size, 0, none⟩ = some ((.bool a.neg)) := ((PA.alloc _).alloc _).c0
  have t_PA1 : ((w9.alloc (.cells #[.bool n9, .slice A9 k9 c9] 24)).alloc (.cells #[.int .i64 0, .int .i64 0] 26)).cell? ⟨w.heap.size, 1, none⟩ = some ((.slice a.A a.n a.c)) := ((PA.alloc _).alloc _).c1
  go_wp2_with fail
  clear t_PA0 t_PA1
  obtain ⟨V5, hV5⟩ : ∃ V5 : World, V5 = ((w9.alloc (.cells #[.bool n9, .slice A9 k9 c9] 24)).alloc (.cells #[.int .i64 0, .int .i64 0] 26)) := ⟨_, rfl⟩
  have bV5 : Below w9.heap.size w9 V5 := by rw [hV5]; (repeat (first | with_reducible exact Below.refl _ _ | with_reducible refine Below.drew ?_ | with_reducible refine below_drewN ?_ _ | with_reducible refine Below.setCell ?_ (by first | (simp; done) | (simp; omega) | omega) _ | with_reducible refine Below.alloc ?_ (by first | (simp; done) | (simp; omega) | omega) _))
  have zV5 : w9.heap.size + 2 ≤ V5.heap.size := by rw [hV5]; simp
  have P9 : Bk2 V5 (w9.heap.size) (.bool n9) (.slice A9 k9 c9) := by rw [hV5]; exact ((Bk2.newAt _ _ (by simp) _ _ _).alloc _)
  have F100 : Bk2 V5 (w9.heap.size + 1) (.int .i64 0) (.int .i64 0) := by rw [hV5]; exact (Bk2.newAt _ _ (by simp) _ _ _)
  rw [← hV5]
  clear hV5
  replace E : Below w.heap.size w V5 := E.trans (bV5.mono E.size)
  replace HA : LRd V5 (w.heap.size) a.A a.n a.c a.xs := HA.below bV5 (by omega)
  replace HB : LRd V5 (w.heap.size) b.A b.n b.c b.xs := HB.below bV5 (by omega)
  replace PA : Bk2 V5 (w.heap.size) (.bool a.neg) (.slice a.A a.n a.c) := PA.below bV5 PA.lt
  replace PB : Bk2 V5 (w.heap.size + 1) (.bool b.neg) (.slice b.A b.n b.c) := PB.below bV5 PB.lt
  replace F7 : Bk2 V5 (w1.heap.size) (.int .i64 f1) (.int .i64 f2) := F7.below bV5 F7.lt
  replace F9 : Bk2 V5 (w2.heap.size) (.int .i64 f1) (.int .i64 f2) := F9.below bV5 F9.lt
  replace FS : Bk2 V5 (w7.heap.size) (.int .i64 0) (.int .i64 0) := FS.below bV5 FS.lt
  replace FB : Bk2 V5 (w8.heap.size) (.int .i64 0) (.int .i64 0) := FB.below bV5 FB.lt
  replace hl9 : LRd V5 (w9.heap.size) A9 k9 c9 x9 := hl9.below bV5 (by omega)
  clear bV5
  refine (iabs_ok _ w.heap.size a HA (by omega) oa).mono ?_
  rintro e w10 ⟨n10, A10, k10, c10, x10, rfl, hl10, hr10, hb10⟩
  have sw10 := hb10.size
  replace E : Below w.heap.size w w10 := E.trans (hb10.mono E.size)
  replace HA : LRd w10 (w.heap.size) a.A a.n a.c a.xs := HA.below hb10 (by omega)
  replace HB : LRd w10 (w.heap.size) b.A b.n b.c b.xs := HB.below hb10 (by omega)
  replace PA : Bk2 w10 (w.heap.size) (.bool a.neg) (.slice a.A a.n a.c) := PA.below hb10 PA.lt
  replace PB : Bk2 w10 (w.heap.size + 1) (.bool b.neg) (.slice b.A b.n b.c) := PB.below hb10 PB.lt
  replace F7 : Bk2 w10 (w1.heap.size) (.int .i64 f1) (.int .i64 f2) := F7.below hb10 F7.lt
  replace F9 : Bk2 w10 (w2.heap.size) (.int .i64 f1) (.int .i64 f2) := F9.below hb10 F9.lt
  replace FS : Bk2 w10 (w7.heap.size) (.int .i64 0) (.int .i64 0) := FS.below hb10 FS.lt
  replace FB : Bk2 w10 (w8.heap.size) (.int .i64 0) (.int .i64 0) := FB.below hb10 FB.lt
  replace hl9 : LRd w10 (w9.heap.size) A9 k9 c9 x9 := hl9.below hb10 (by omega)
  replace P9 : Bk2 w10 (w9.heap.size) (.bool n9) (.slice A9 k9 c9) := P9.below hb10 P9.lt
  replace F100 : Bk2 w10 (w9.heap.size + 1) (.int .i64 0) (.int .i64 0) := F100.below hb10 F100.lt
  clear hb10
  have I10 := Lib.hid hr10
  clear hr10
  have t_PA0 : ((w10.alloc (.cells #[.bool n10, .slice A10 k10 c10] 24)).alloc (.cells #[.int .i64 0, .int .i64 0] 26)).cell? ⟨w.heap.size, 0, none⟩ = some ((.bool a.neg)) := ((PA.alloc _).alloc _).c0
  have t_PA1 : ((w10.alloc (.cells #[.bool n10, .slice A10 k10 c10] 24)).alloc (.cells #[.int .i64 0, .int .i64 0] 26)).cell? ⟨w.heap.size, 1, none⟩ = some ((.slice a.A a.n a.c)) := ((PA.alloc _).alloc _).c1
  go_wp2_with fail
  clear t_PA0 t_PA1
  obtain ⟨V6, hV6⟩ : ∃ V6 : World, V6 = ((w10.alloc (.cells #[.bool n10, .slice A10 k10 c10] 24)).alloc (.cells #[.int .i64 0, .int .i64 0] 26)) := ⟨_, rfl⟩
  have bV6 : Below w10.heap.size w10 V6 := by rw [hV6]; (repeat (first | with_reducible exact Below.refl _ _ | with_reducible refine Below.drew ?_ | with_reducible refine below_drewN ?_ _ | with_reducible refine Below.setCell ?_ (by first | (simp; done) | (simp; omega) | omega) _ | with_reducible refine Below.alloc ?_ (by first | (simp; done) | (simp; omega) | omega) _))
  have zV6 : w10.heap.size + 2 ≤ V6.heap.size := by rw [hV6]; simp
  have P10 : Bk2 V6 (w10.heap.size) (.bool n10) (.slice A10 k10 c10) := by rw [hV6]; exact ((Bk2.newAt _ _ (by simp) _ _ _).alloc _)
  have F110 : Bk2 V6 (w10.heap.size + 1) (.int .i64 0) (.int .i64 0) := by rw [hV6]; exact (Bk2.newAt _ _ (by simp) _ _ _)
  rw [← hV6]
  clear hV6
  replace E : Below w.heap.size w V6 := E.trans (bV6.mono E.size)
  replace HA : LRd V6 (w.heap.size) a.A a.n a.c a.xs := HA.below bV6 (by omega)
  replace HB : LRd V6 (w.heap.size) b.A b.n b.c b.xs := HB.below bV6 (by omega)
  replace PA : Bk2 V6 (w.heap.size) (.bool a.neg) (.slice a.A a.n a.c) := PA.below bV6 PA.lt
  replace PB : Bk2 V6 (w.heap.size + 1) (.bool b.neg) (.slice b.A b.n b.c) := PB.below bV6 PB.lt
  replace F7 : Bk2 V6 (w1.heap.size) (.int .i64 f1) (.int .i64 f2) := F7.below bV6 F7.lt
  replace F9 : Bk2 V6 (w2.heap.size) (.int .i64 f1) (.int .i64 f2) := F9.below bV6 F9.lt
  replace FS : Bk2 V6 (w7.heap.size) (.int .i64 0) (.int .i64 0) := FS.below bV6 FS.lt
  replace FB : Bk2 V6 (w8.heap.size) (.int .i64 0) (.int .i64 0) := FB.below bV6 FB.lt
  replace hl9 : LRd V6 (w9.heap.size) A9 k9 c9 x9 := hl9.below bV6 (by omega)
  replace P9 : Bk2 V6 (w9.heap.size) (.bool n9) (.slice A9 k9 c9) := P9.below bV6 P9.lt
  replace F100 : Bk2 V6 (w9.heap.size + 1) (.int .i64 0) (.int .i64 0) := F100.below bV6 F100.lt
  replace hl10 : LRd V6 (w10.heap.size) A10 k10 c10 x10 := hl10.below bV6 (by omega)
  clear bV6
  (with_reducible refine (intOk_any _ w.heap.size a.neg a.A a.n a.c a.xs HA (by omega)).mono ?_)
  rintro e w11 ⟨rfl, hb11⟩
  have sw11 := hb11.size
  replace E : Below w.heap.size w w11 := E.trans (hb11.mono E.size)
  replace HA : LRd w11 (w.heap.size) a.A a.n a.c a.xs := HA.below hb11 (by omega)
  replace HB : LRd w11 (w.heap.size) b.A b.n b.c b.xs := HB.below hb11 (by omega)
  replace PA : Bk2 w11 (w.heap.size) (.bool a.neg) (.slice a.A a.n a.c) := PA.below hb11 PA.lt
  replace PB : Bk2 w11 (w.heap.size + 1) (.bool b.neg) (.slice b.A b.n b.c) := PB.below hb11 PB.lt
  replace F7 : Bk2 w11 (w1.heap.size) (.int .i64 f1) (.int .i64 f2) := F7.below hb11 F7.lt
  replace F9 : Bk2 w11 (w2.heap.size) (.int .i64 f1) (.int .i64 f2) := F9.below hb11 F9.lt
  replace FS : Bk2 w11 (w7.heap.size) (.int .i64 0) (.int .i64 0) := FS.below hb11 FS.lt
  replace FB : Bk2 w11 (w8.heap.size) (.int .i64 0) (.int .i64 0) := FB.below hb11 FB.lt
  replace hl9 : LRd w11 (w9.heap.size) A9 k9 c9 x9 := hl9.below hb11 (by omega)
  replace P9 : Bk2 w11 (w9.heap.size) (.bool n9) (.slice A9 k9 c9) := P9.below hb11 P9.lt
  replace F100 : Bk2 w11 (w9.heap.size + 1) (.int .i64 0) (.int .i64 0) := F100.below hb11 F100.lt
  replace hl10 : LRd w11 (w10.heap.size) A10 k10 c10 x10 := hl10.below hb11 (by omega)
  replace P10 : Bk2 w11 (w10.heap.size) (.bool n10) (.slice A10 k10 c10) := P10.below hb11 P10.lt
  replace F110 : Bk2 w11 (w10.heap.size + 1) (.int .i64 0) (.int .i64 0) := F110.below hb11 F110.lt
  clear hb11
  rw [VA]
  have t_PA0 : w11.cell? ⟨w.heap.size, 0, none⟩ = some ((.bool a.neg)) := PA.c0
  have t_PA1 : w11.cell? ⟨w.heap.size, 1, none⟩ = some ((.slice a.A a.n a.c)) := PA.c1
  go_wp2_with fail
  clear t_PA0 t_PA1
  (with_reducible refine (intOf_any _ w.heap.size a.neg a.A a.n a.c a.xs HA (by omega) (by have := HA.len.out; have := (IV.vld oa).2; omega)).mono ?_)
  rintro e w12 ⟨mp, Ap, kp, cp, xp, vp, rfl, hdp, hrp, hvp, hb12⟩
  have sw12 := hb12.size
  replace E : Below w.heap.size w w12 := E.trans (hb12.mono E.size)
  replace HA : LRd w12 (w.heap.size) a.A a.n a.c a.xs := HA.below hb12 (by omega)
  replace HB : LRd w12 (w.heap.size) b.A b.n b.c b.xs := HB.below hb12 (by omega)
  replace PA : Bk2 w12 (w.heap.size) (.bool a.neg) (.slice a.A a.n a.c) := PA.below hb12 PA.lt
  replace PB : Bk2 w12 (w.heap.size + 1) (.bool b.neg) (.slice b.A b.n b.c) := PB.below hb12 PB.lt
  replace F7 : Bk2 w12 (w1.heap.size) (.int .i64 f1) (.int .i64 f2) := F7.below hb12 F7.lt
  replace F9 : Bk2 w12 (w2.heap.size) (.int .i64 f1) (.int .i64 f2) := F9.below hb12 F9.lt
  replace FS : Bk2 w12 (w7.heap.size) (.int .i64 0) (.int .i64 0) := FS.below hb12 FS.lt
  replace FB : Bk2 w12 (w8.heap.size) (.int .i64 0) (.int .i64 0) := FB.below hb12 FB.lt
  replace hl9 : LRd w12 (w9.heap.size) A9 k9 c9 x9 := hl9.below hb12 (by omega)
  replace P9 : Bk2 w12 (w9.heap.size) (.bool n9) (.slice A9 k9 c9) := P9.below hb12 P9.lt
  replace F100 : Bk2 w12 (w9.heap.size + 1) (.int .i64 0) (.int .i64 0) := F100.below hb12 F100.lt
  replace hl10 : LRd w12 (w10.heap.size) A10 k10 c10 x10 := hl10.below hb12 (by omega)
  replace P10 : Bk2 w12 (w10.heap.size) (.bool n10) (.slice A10 k10 c10) := P10.below hb12 P10.lt
  replace F110 : Bk2 w12 (w10.heap.size + 1) (.int .i64 0) (.int .i64 0) := F110.below hb12 F110.lt
  clear hb12
  have RP := Lib.hid hrp
  have VP := Lib.hid (show sval mp vp = a.val from hvp)
  clear hrp hvp
  go_upto_region 12 with fail
  obtain ⟨V8, hV8⟩ : ∃ V8 : World, V8 = (w12.alloc (.cells #[.bool mp, .slice Ap kp cp] 37)) := ⟨_, rfl⟩
  have bV8 : Below w12.heap.size w12 V8 := by rw [hV8]; (repeat (first | with_reducible exact Below.refl _ _ | with_reducible refine Below.drew ?_ | with_reducible refine below_drewN ?_ _ | with_reducible refine Below.setCell ?_ (by first | (simp; done) | (simp; omega) | omega) _ | with_reducible refine Below.alloc ?_ (by first | (simp; done) | (simp; omega) | omega) _))
  have zV8 : w12.heap.size + 1 ≤ V8.heap.size := by rw [hV8]; simp
  have PR : Bk2 V8 (w12.heap.size) (.bool mp) (.slice Ap kp cp) := by rw [hV8]; exact (Bk2.newAt _ _ (by simp) _ _ _)
  rw [← hV8]
  clear hV8
  replace E : Below w.heap.size w V8 := E.trans (bV8.mono E.size)
  replace HA : LRd V8 (w.heap.size) a.A a.n a.c a.xs := HA.below bV8 (by omega)
  replace HB : LRd V8 (w.heap.size) b.A b.n b.c b.xs := HB.below bV8 (by omega)
  replace PA : Bk2 V8 (w.heap.size) (.bool a.neg) (.slice a.A a.n a.c) := PA.below bV8 PA.lt
  replace PB : Bk2 V8 (w.heap.size + 1) (.bool b.neg) (.slice b.A b.n b.c) := PB.below bV8 PB.lt
  replace F7 : Bk2 V8 (w1.heap.size) (.int .i64 f1) (.int .i64 f2) := F7.below bV8 F7.lt
  replace F9 : Bk2 V8 (w2.heap.size) (.int .i64 f1) (.int .i64 f2) := F9.below bV8 F9.lt
  replace FS : Bk2 V8 (w7.heap.size) (.int .i64 0) (.int .i64 0) := FS.below bV8 FS.lt
  replace FB : Bk2 V8 (w8.heap.size) (.int .i64 0) (.int .i64 0) := FB.below bV8 FB.lt
  replace hl9 : LRd V8 (w9.heap.size) A9 k9 c9 x9 := hl9.below bV8 (by omega)
  replace P9 : Bk2 V8 (w9.heap.size) (.bool n9) (.slice A9 k9 c9) := P9.below bV8 P9.lt
  replace F100 : Bk2 V8 (w9.heap.size + 1) (.int .i64 0) (.int .i64 0) := F100.below bV8 F100.lt
  replace hl10 : LRd V8 (w10.heap.size) A10 k10 c10 x10 := hl10.below bV8 (by omega)
  replace P10 : Bk2 V8 (w10.heap.size) (.bool n10) (.slice A10 k10 c10) := P10.below bV8 P10.lt
  replace F110 : Bk2 V8 (w10.heap.size + 1) (.int .i64 0) (.int .i64 0) := F110.below bV8 F110.lt
  replace hdp : DRd V8 (w12.heap.size) Ap kp cp xp := hdp.below bV8 (by omega)
  clear bV8
  have G0 : Below V8.heap.size V8 V8.drew := Below.drew (Below.refl _ _)
  have HS := Lib.hid (fun (u : World) (hu : Below V8.heap.size V8 u) => (⟨hu, (PR.below hu PR.lt).c0, (PR.below hu PR.lt).c1⟩ : Below V8.heap.size V8 u ∧ u.cell? ⟨w12.heap.size, 0, none⟩ = some (.bool mp) ∧ u.cell? ⟨w12.heap.size, 1, none⟩ = some (.slice Ap kp cp)))
  go_region_held3 (fun u => Below V8.heap.size V8 u ∧ u.cell? ⟨w12.heap.size, 0, none⟩ = some (.bool mp) ∧ u.cell? ⟨w12.heap.size, 1, none⟩ = some (.slice Ap kp cp)) (first | with_reducible exact HS.out _ G0 | with_reducible exact HS.out _ B4 | with_reducible exact HS.out _ B3 | with_reducible exact HS.out _ B2 | with_reducible exact HS.out _ B1 | fail)
    (first
      | (go_at_call 20; (with_reducible refine (number_any _ (-9223372036854775808) (by omega) (by omega)).mono ?_); rintro e u1 ⟨mMn, AMn, kMn, cMn, xMn, vMn, rfl, hdMn, hrMn, hvMn, hbMn⟩; have B1 : Below V8.heap.size V8 u1 := bnext G0 hbMn; have RMn := Lib.hid hrMn; have VMn := Lib.hid hvMn; clear hrMn hvMn)
      | (go_at_call 28; (with_reducible refine (rorder_any _ _ mp mMn Ap AMn kp kMn cp cMn vp vMn xp xMn ((hdp.below B1 (by omega)).more (by have := B1.size; omega)) hdMn (Nat.le_refl _) RP.out RMn.out).mono ?_); rintro e u2 ⟨qMn, hqMn, rfl, hbMn'⟩; have B2 : Below V8.heap.size V8 u2 := bnext B1 hbMn'; rw [VP.out, VMn.out] at hqMn; have qn : (0 : Int) ≤ qMn := (by unfold ICmp at hqMn; omega); clear hqMn)
      | (go_at_call 20; (with_reducible refine (number_any _ 9223372036854775807 (by omega) (by omega)).mono ?_); rintro e u3 ⟨mMx, AMx, kMx, cMx, xMx, vMx, rfl, hdMx, hrMx, hvMx, hbMx⟩; have B3 : Below V8.heap.size V8 u3 := bnext B2 hbMx; have RMx := Lib.hid hrMx; have VMx := Lib.hid hvMx; clear hrMx hvMx)
      | (go_at_call 28; (with_reducible refine (rorder_any _ _ mp mMx Ap AMx kp kMx cp cMx vp vMx xp xMx ((hdp.below B3 (by omega)).more (by have := B3.size; omega)) hdMx (Nat.le_refl _) RP.out RMx.out).mono ?_); rintro e u4 ⟨qMx, hqMx, rfl, hbMx'⟩; have B4 : Below V8.heap.size V8 u4 := bnext B3 hbMx'; rw [VP.out, VMx.out] at hqMx; have qx : qMx ≤ (0 : Int) := (by unfold ICmp at hqMx; omega); clear hqMx)
      | fail)
  go_upto_region 13 with fail
  clear HS G0 RMn VMn RMx VMx hdMn hdMx hbMn hbMx hbMn' hbMx' B1 B2 B3
  have s12 := B4.size
  replace E : Below w.heap.size w u4 := E.trans (B4.mono E.size)
  replace HA : LRd u4 (w.heap.size) a.A a.n a.c a.xs := HA.below B4 (by omega)
  replace HB : LRd u4 (w.heap.size) b.A b.n b.c b.xs := HB.below B4 (by omega)
  replace PA : Bk2 u4 (w.heap.size) (.bool a.neg) (.slice a.A a.n a.c) := PA.below B4 PA.lt
  replace PB : Bk2 u4 (w.heap.size + 1) (.bool b.neg) (.slice b.A b.n b.c) := PB.below B4 PB.lt
  replace F7 : Bk2 u4 (w1.heap.size) (.int .i64 f1) (.int .i64 f2) := F7.below B4 F7.lt
  replace F9 : Bk2 u4 (w2.heap.size) (.int .i64 f1) (.int .i64 f2) := F9.below B4 F9.lt
  replace FS : Bk2 u4 (w7.heap.size) (.int .i64 0) (.int .i64 0) := FS.below B4 FS.lt
  replace FB : Bk2 u4 (w8.heap.size) (.int .i64 0) (.int .i64 0) := FB.below B4 FB.lt
  replace hl9 : LRd u4 (w9.heap.size) A9 k9 c9 x9 := hl9.below B4 (by omega)
  replace P9 : Bk2 u4 (w9.heap.size) (.bool n9) (.slice A9 k9 c9) := P9.below B4 P9.lt
  replace F100 : Bk2 u4 (w9.heap.size + 1) (.int .i64 0) (.int .i64 0) := F100.below B4 F100.lt
  replace hl10 : LRd u4 (w10.heap.size) A10 k10 c10 x10 := hl10.below B4 (by omega)
  replace P10 : Bk2 u4 (w10.heap.size) (.bool n10) (.slice A10 k10 c10) := P10.below B4 P10.lt
  replace F110 : Bk2 u4 (w10.heap.size + 1) (.int .i64 0) (.int .i64 0) := F110.below B4 F110.lt
  replace hdp : DRd u4 (w12.heap.size) Ap kp cp xp := hdp.below B4 (by omega)
  replace PR : Bk2 u4 (w12.heap.size) (.bool mp) (.slice Ap kp cp) := PR.below B4 PR.lt
  clear B4
  have G0 : Below u4.heap.size u4 u4.drew := Below.drew (Below.refl _ _)
  have HS := Lib.hid (fun (u : World) (hu : Below u4.heap.size u4 u) => (⟨hu, (PA.below hu PA.lt).c0, (PA.below hu PA.lt).c1, (FS.below hu FS.lt).c0, (FS.below hu FS.lt).c1⟩ : Below u4.heap.size u4 u ∧ u.cell? ⟨w.heap.size, 0, none⟩ = some (.bool a.neg) ∧ u.cell? ⟨w.heap.size, 1, none⟩ = some (.slice a.A a.n a.c) ∧ u.cell? ⟨w7.heap.size, 0, none⟩ = some (.int .i64 0) ∧ u.cell? ⟨w7.heap.size, 1, none⟩ = some (.int .i64 0)))
  refine wp_region_held_drew (S := (fun u => Below u4.heap.size u4 u ∧ u.cell? ⟨w.heap.size, 0, none⟩ = some (.bool a.neg) ∧ u.cell? ⟨w.heap.size, 1, none⟩ = some (.slice a.A a.n a.c) ∧ u.cell? ⟨w7.heap.size, 0, none⟩ = some (.int .i64 0) ∧ u.cell? ⟨w7.heap.size, 1, none⟩ = some (.int .i64 0))) (by kernel_rfl) (HS.out _ G0) (fun hHeld => ?_)
  refine takeW (i := 0) (v := ?_) rfl (by kernel_rfl) (by kernel_rfl) (by kernel_rfl) (fun _ _ _ h => h) (by rfl) (by assumption) ?_ ?_
  rotate_left 1
  · (intro w9 hSw; (try dsimp only at hSw); go_simp); (first | done | with_reducible rfl)
  try simp only [Act.put, List.setIfInBounds_toArray, List.set_cons_zero, List.set_cons_succ]
  refine takeW (i := 1) (v := ?_) rfl (by kernel_rfl) (by kernel_rfl) (by kernel_rfl) (fun _ _ _ h => h) (by rfl) (by assumption) ?_ ?_
  rotate_left 1
  · (intro w9 hSw; (try dsimp only at hSw); go_simp); (first | done | with_reducible rfl)
  try simp only [Act.put, List.setIfInBounds_toArray, List.set_cons_zero, List.set_cons_succ]
  refine takeW (i := 2) (v := ?_) rfl (by kernel_rfl) (by kernel_rfl) (by kernel_rfl) (fun _ _ _ h => h) (by rfl) (by assumption) ?_ ?_
  rotate_left 1
  · (intro w9 hSw; (try dsimp only at hSw); go_simp); (first | done | with_reducible rfl)
  try simp only [Act.put, List.setIfInBounds_toArray, List.set_cons_zero, List.set_cons_succ]
  refine takeW (i := 3) (v := ?_) rfl (by kernel_rfl) (by kernel_rfl) (by kernel_rfl) (fun _ _ _ h => h) (by rfl) (by assumption) ?_ ?_
  rotate_left 1
  · (intro w9 hSw; (try dsimp only at hSw); go_simp); (first | done | with_reducible rfl)
  try simp only [Act.put, List.setIfInBounds_toArray, List.set_cons_zero, List.set_cons_succ]
  refine takeW (i := 4) (v := ?_) rfl (by kernel_rfl) (by kernel_rfl) (by kernel_rfl) (fun _ _ _ h => h) (by rfl) (by assumption) ?_ ?_
  rotate_left 1
  · (intro w9 hSw; (try dsimp only at hSw); go_simp); (first | done | with_reducible rfl)
  try simp only [Act.put, List.setIfInBounds_toArray, List.set_cons_zero, List.set_cons_succ]
  refine takeW (i := 5) (v := ?_) rfl (by kernel_rfl) (by kernel_rfl) (by kernel_rfl) (fun _ _ _ h => h) (by rfl) (by assumption) ?_ ?_
  rotate_left 1
  · (intro w9 hSw; (try dsimp only at hSw); go_simp); (first | done | with_reducible rfl)
  try simp only [Act.put, List.setIfInBounds_toArray, List.set_cons_zero, List.set_cons_succ]
  refine takeW (i := 6) (v := ?_) rfl (by kernel_rfl) (by kernel_rfl) (by kernel_rfl) (fun _ _ _ h => h) (by rfl) (by assumption) ?_ ?_
  rotate_left 1
  · (intro w9 hSw; (try dsimp only at hSw); go_simp); (first | done | with_reducible rfl)
  try simp only [Act.put, List.setIfInBounds_toArray, List.set_cons_zero, List.set_cons_succ]
  refine takeW (i := 7) (v := ?_) rfl (by kernel_rfl) (by kernel_rfl) (by kernel_rfl) (fun _ _ _ h => h) (by rfl) (by assumption) ?_ ?_
  rotate_left 1
  · (intro w9 hSw; (try dsimp only at hSw); go_simp); (first | done | with_reducible rfl)
  try simp only [Act.put, List.setIfInBounds_toArray, List.set_cons_zero, List.set_cons_succ]
  refine readyW (i := 8) (by kernel_rfl) rfl (by rfl) (fun K hK => ?_)
  go_simp
  (go_at_call 20; (with_reducible refine (number_any _ a.val hs.1 hs.2).mono ?_); rintro e u1 ⟨mMs, AMs, kMs, cMs, xMs, vMs, rfl, hdMs, hrMs, hvMs, hbMs⟩; have B1 : Below u4.heap.size u4 u1 := bnext G0 hbMs; have RMs := Lib.hid hrMs; have VMs := Lib.hid hvMs; clear hrMs hvMs)
  have KMs := len512 RMs.out hdMs.len.out (top_sq (by have := abs_sval VMs.out; have := top_i64; omega))
  go_wp2_with fail
  refine hK.out _ _ (HS.out _ B1) (fun hHeld1 => ?_)
  clear hK K
  try simp only [Act.put, List.setIfInBounds_toArray, List.set_cons_zero, List.set_cons_succ]
  refine readyW (i := 9) (by kernel_rfl) rfl (by rfl) (fun K hK => ?_)
  go_simp
  (go_at_call 18; (with_reducible refine (sameInt_any _ _ a.neg mMs a.A AMs a.n kMs a.c cMs vMs a.val a.xs xMs ((HA.below B1 (by omega)).more (by have := B1.size; omega)) hdMs (Nat.le_refl _) (IV.irep oa HA.lim) RMs.out VMs.out KMs).mono ?_); rintro e u2 ⟨rfl, hb2⟩; have B2 : Below u4.heap.size u4 u2 := bnext B1 hb2)
  go_wp2_with fail
  refine hK.out _ _ (HS.out _ B2) (fun hHeld2 => ?_)
  clear hK K
  try simp only [Act.put, List.setIfInBounds_toArray, List.set_cons_zero, List.set_cons_succ]
  refine takeW (i := 10) (v := ?_) rfl (by kernel_rfl) (by kernel_rfl) (by kernel_rfl) (fun _ _ _ h => h) (by rfl) (by assumption) ?_ ?_
  rotate_left 1
  · (intro w9 hSw; (try dsimp only at hSw); go_simp); (first | done | with_reducible rfl)
  try simp only [Act.put, List.setIfInBounds_toArray, List.set_cons_zero, List.set_cons_succ]
  refine takeW (i := 11) (v := ?_) rfl (by kernel_rfl) (by kernel_rfl) (by kernel_rfl) (fun _ _ _ h => h) (by rfl) (by assumption) ?_ ?_
  rotate_left 1
  · (intro w9 hSw; (try dsimp only at hSw); go_simp); (first | done | with_reducible rfl)
  try simp only [Act.put, List.setIfInBounds_toArray, List.set_cons_zero, List.set_cons_succ]
  refine takeW (i := 12) (v := ?_) rfl (by kernel_rfl) (by kernel_rfl) (by kernel_rfl) (fun _ _ _ h => h) (by rfl) (by assumption) ?_ ?_
  rotate_left 1
  · (intro w9 hSw; (try dsimp only at hSw); go_simp); (first | done | with_reducible rfl)
  try simp only [Act.put, List.setIfInBounds_toArray, List.set_cons_zero, List.set_cons_succ]
  refine takeW (i := 13) (v := ?_) rfl (by kernel_rfl) (by kernel_rfl) (by kernel_rfl) (fun _ _ _ h => h) (by rfl) (by assumption) ?_ ?_
  rotate_left 1
  · (intro w9 hSw; (try dsimp only at hSw); go_simp); (first | done | with_reducible rfl)
  try simp only [Act.put, List.setIfInBounds_toArray, List.set_cons_zero, List.set_cons_succ]
  refine takeW (i := 14) (v := ?_) rfl (by kernel_rfl) (by kernel_rfl) (by kernel_rfl) (fun _ _ _ h => h) (by rfl) (by assumption) ?_ ?_
  rotate_left 1
  · (intro w9 hSw; (try dsimp only at hSw); go_simp); (first | done | with_reducible rfl)
  try simp only [Act.put, List.setIfInBounds_toArray, List.set_cons_zero, List.set_cons_succ]
  refine takeW (i := 15) (v := ?_) rfl (by kernel_rfl) (by kernel_rfl) (by kernel_rfl) (fun _ _ _ h => h) (by rfl) (by assumption) ?_ ?_
  rotate_left 1
  · (intro w9 hSw; (try dsimp only at hSw); go_simp); (first | done | with_reducible rfl)
  try simp only [Act.put, List.setIfInBounds_toArray, List.set_cons_zero, List.set_cons_succ]
  refine takeW (i := 16) (v := ?_) rfl (by kernel_rfl) (by kernel_rfl) (by kernel_rfl) (fun _ _ _ h => h) (by rfl) (by assumption) ?_ ?_
  rotate_left 1
  · (intro w9 hSw; (try dsimp only at hSw); go_simp); (first | done | with_reducible rfl)
  try simp only [Act.put, List.setIfInBounds_toArray, List.set_cons_zero, List.set_cons_succ]
  refine takeN (i := 17) rfl (by kernel_rfl) (by kernel_rfl) (by kernel_rfl) (fun _ _ _ h => h) (by rfl) (by assumption) ?_
  try simp only [Act.put, List.setIfInBounds_toArray, List.set_cons_zero, List.set_cons_succ]
  refine readyN (i := 18) (by kernel_rfl) rfl (by rfl) (by assumption) ?_
  try simp only [Act.put, List.setIfInBounds_toArray, List.set_cons_zero, List.set_cons_succ]
  refine takeN (i := 19) rfl (by kernel_rfl) (by kernel_rfl) (by kernel_rfl) (fun _ _ _ h => h) (by rfl) (by assumption) ?_
  try simp only [Act.put, List.setIfInBounds_toArray, List.set_cons_zero, List.set_cons_succ]
  refine takeN (i := 20) rfl (by kernel_rfl) (by kernel_rfl) (by kernel_rfl) (fun _ _ _ h => h) (by rfl) (by assumption) ?_
  try simp only [Act.put, List.setIfInBounds_toArray, List.set_cons_zero, List.set_cons_succ]
  refine takeN (i := 21) rfl (by kernel_rfl) (by kernel_rfl) (by kernel_rfl) (fun _ _ _ h => h) (by rfl) (by assumption) ?_
  try simp only [Act.put, List.setIfInBounds_toArray, List.set_cons_zero, List.set_cons_succ]
  refine takeN (i := 22) rfl (by kernel_rfl) (by kernel_rfl) (by kernel_rfl) (fun _ _ _ h => h) (by rfl) (by assumption) ?_
  try simp only [Act.put, List.setIfInBounds_toArray, List.set_cons_zero, List.set_cons_succ]
  refine takeN (i := 23) rfl (by kernel_rfl) (by kernel_rfl) (by kernel_rfl) (fun _ _ _ h => h) (by rfl) (by assumption) ?_
  try simp only [Act.put, List.setIfInBounds_toArray, List.set_cons_zero, List.set_cons_succ]
  refine takeW (i := 24) (v := ?_) rfl (by kernel_rfl) (by kernel_rfl) (by kernel_rfl) (fun _ _ _ h => h) (by rfl) (by assumption) ?_ ?_
  rotate_left 1
  · (intro w9 hSw; (try dsimp only at hSw); go_simp); (first | done | with_reducible rfl)
  try simp only [Act.put, List.setIfInBounds_toArray, List.set_cons_zero, List.set_cons_succ]
  refine takeW (i := 25) (v := ?_) rfl (by kernel_rfl) (by kernel_rfl) (by kernel_rfl) (fun _ _ _ h => h) (by rfl) (by assumption) ?_ ?_
  rotate_left 1
  · (intro w9 hSw; (try dsimp only at hSw); go_simp); (first | done | with_reducible rfl)
  try simp only [Act.put, List.setIfInBounds_toArray, List.set_cons_zero, List.set_cons_succ]
  refine wpAnyH_done (by kernel_rfl) ?_ _
  go_upto_region 15 with fail
  clear HS G0 hHeld hHeld1 hHeld2 B1 RMs VMs KMs hdMs hb2 hbMs
  have s13 := B2.size
  replace E : Below w.heap.size w u2 := E.trans (B2.mono E.size)
  replace HA : LRd u2 (w.heap.size) a.A a.n a.c a.xs := HA.below B2 (by omega)
  replace HB : LRd u2 (w.heap.size) b.A b.n b.c b.xs := HB.below B2 (by omega)
  replace PA : Bk2 u2 (w.heap.size) (.bool a.neg) (.slice a.A a.n a.c) := PA.below B2 PA.lt
  replace PB : Bk2 u2 (w.heap.size + 1) (.bool b.neg) (.slice b.A b.n b.c) := PB.below B2 PB.lt
  replace F7 : Bk2 u2 (w1.heap.size) (.int .i64 f1) (.int .i64 f2) := F7.below B2 F7.lt
  replace F9 : Bk2 u2 (w2.heap.size) (.int .i64 f1) (.int .i64 f2) := F9.below B2 F9.lt
  replace FS : Bk2 u2 (w7.heap.size) (.int .i64 0) (.int .i64 0) := FS.below B2 FS.lt
  replace FB : Bk2 u2 (w8.heap.size) (.int .i64 0) (.int .i64 0) := FB.below B2 FB.lt
  replace hl9 : LRd u2 (w9.heap.size) A9 k9 c9 x9 := hl9.below B2 (by omega)
  replace P9 : Bk2 u2 (w9.heap.size) (.bool n9) (.slice A9 k9 c9) := P9.below B2 P9.lt
  replace F100 : Bk2 u2 (w9.heap.size + 1) (.int .i64 0) (.int .i64 0) := F100.below B2 F100.lt
  replace hl10 : LRd u2 (w10.heap.size) A10 k10 c10 x10 := hl10.below B2 (by omega)
  replace P10 : Bk2 u2 (w10.heap.size) (.bool n10) (.slice A10 k10 c10) := P10.below B2 P10.lt
  replace F110 : Bk2 u2 (w10.heap.size + 1) (.int .i64 0) (.int .i64 0) := F110.below B2 F110.lt
  replace hdp : DRd u2 (w12.heap.size) Ap kp cp xp := hdp.below B2 (by omega)
  replace PR : Bk2 u2 (w12.heap.size) (.bool mp) (.slice Ap kp cp) := PR.below B2 PR.lt
  clear B2
  have TP := Lib.hid (show (sval false (vb 4294967296 a.xs)).natAbs < Top128 by rw [sval_abs]; exact lt128 (⟨HA.lim, rfl, (vld_top (IV.vld oa).1).1⟩ : Rep 4294967296 a.xs (vb 4294967296 a.xs)) rfl (IV.vld oa).2)
  have TN := Lib.hid (show (-a.val).natAbs < Top128 by rw [Int.natAbs_neg, IV.abs]; exact lt128 (⟨HA.lim, rfl, (vld_top (IV.vld oa).1).1⟩ : Rep 4294967296 a.xs (vb 4294967296 a.xs)) rfl (IV.vld oa).2)
  have EV := Lib.hid (show vp = vb 4294967296 a.xs by have := abs_sval VP.out; rw [IV.abs] at this; exact this.symm)
  have KP := len512 RP.out hdp.len.out (top_sq (by have := TP.out; rw [sval_abs] at this; have := EV.out; omega))
  have HX := Lib.hid (⟨HA.lim, (vld_top (IV.vld oa).1).1⟩ : Lim a.xs ∧ Top a.xs)
  have G0 : Below u2.heap.size u2 u2.drew := Below.drew (Below.refl _ _)
  have HS := Lib.hid (fun (u : World) (hu : Below u2.heap.size u2 u) => (⟨hu, (FB.below hu FB.lt).c0, (FB.below hu FB.lt).c1, (PR.below hu PR.lt).c0, (PR.below hu PR.lt).c1, (P9.below hu P9.lt).c0, (P9.below hu P9.lt).c1, (F100.below hu F100.lt).c0, (F100.below hu F100.lt).c1, (P10.below hu P10.lt).c0, (P10.below hu P10.lt).c1, (F110.below hu F110.lt).c0, (F110.below hu F110.lt).c1⟩ : Below u2.heap.size u2 u ∧ u.cell? ⟨w8.heap.size, 0, none⟩ = some (.int .i64 0) ∧ u.cell? ⟨w8.heap.size, 1, none⟩ = some (.int .i64 0) ∧ u.cell? ⟨w12.heap.size, 0, none⟩ = some (.bool mp) ∧ u.cell? ⟨w12.heap.size, 1, none⟩ = some (.slice Ap kp cp) ∧ u.cell? ⟨w9.heap.size, 0, none⟩ = some (.bool n9) ∧ u.cell? ⟨w9.heap.size, 1, none⟩ = some (.slice A9 k9 c9) ∧ u.cell? ⟨w9.heap.size + 1, 0, none⟩ = some (.int .i64 0) ∧ u.cell? ⟨w9.heap.size + 1, 1, none⟩ = some (.int .i64 0) ∧ u.cell? ⟨w10.heap.size, 0, none⟩ = some (.bool n10) ∧ u.cell? ⟨w10.heap.size, 1, none⟩ = some (.slice A10 k10 c10) ∧ u.cell? ⟨w10.heap.size + 1, 0, none⟩ = some (.int .i64 0) ∧ u.cell? ⟨w10.heap.size + 1, 1, none⟩ = some (.int .i64 0)))
  go_region_held3 (fun u => Below u2.heap.size u2 u ∧ u.cell? ⟨w8.heap.size, 0, none⟩ = some (.int .i64 0) ∧ u.cell? ⟨w8.heap.size, 1, none⟩ = some (.int .i64 0) ∧ u.cell? ⟨w12.heap.size, 0, none⟩ = some (.bool mp) ∧ u.cell? ⟨w12.heap.size, 1, none⟩ = some (.slice Ap kp cp) ∧ u.cell? ⟨w9.heap.size, 0, none⟩ = some (.bool n9) ∧ u.cell? ⟨w9.heap.size, 1, none⟩ = some (.slice A9 k9 c9) ∧ u.cell? ⟨w9.heap.size + 1, 0, none⟩ = some (.int .i64 0) ∧ u.cell? ⟨w9.heap.size + 1, 1, none⟩ = some (.int .i64 0) ∧ u.cell? ⟨w10.heap.size, 0, none⟩ = some (.bool n10) ∧ u.cell? ⟨w10.heap.size, 1, none⟩ = some (.slice A10 k10 c10) ∧ u.cell? ⟨w10.heap.size + 1, 0, none⟩ = some (.int .i64 0) ∧ u.cell? ⟨w10.heap.size + 1, 1, none⟩ = some (.int .i64 0)) (first | with_reducible exact HS.out _ G0 | with_reducible exact HS.out _ B4 | with_reducible exact HS.out _ B3 | with_reducible exact HS.out _ B2 | with_reducible exact HS.out _ B1 | fail)
    (first
      | (go_at_call 29; (with_reducible refine (ones_any _ _ Ap kp cp xp ((hdp.below G0 (by omega)).more (by have := G0.size; omega)) (Nat.le_refl _) (by omega)).mono ?_); rintro e y1 ⟨Ao, ko, co, os, rfl, ho, hro, hb1⟩; have B1 : Below u2.heap.size u2 y1 := bnext G0 hb1; rw [RP.out.val, EV.out] at hro; obtain rfl := ones_len HX.out.1 HX.out.2 hro ho.len.out; have hoc := ho.cap; clear hro ho)
      | (go_at_call 31; (with_reducible refine (rminus_any _ _ mp Ap kp cp vp xp ((hdp.below B1 (by omega)).more (by have := B1.size; omega)) RP.out (Nat.le_refl _)).mono ?_); rintro e y2 ⟨mM, AM, kM, cM, xM, vM, rfl, hdM, hrM, hvM, hbM⟩; have B2 : Below u2.heap.size u2 y2 := bnext B1 hbM; rw [VP.out] at hvM; have KM := len512 hrM hdM.len.out (top_sq (by have := abs_sval hvM; have := TN.out; omega)); have RM := Lib.hid hrM; have VM := Lib.hid hvM; clear hrM hvM)
      | (go_at_call 30; (with_reducible refine (yields_any' _ _ n9 A9 k9 c9 x9 mM AM kM cM vM xM (-a.val) (-a.val) 0 0 ((hl9.below B2 (by omega)).more (by have := B2.size; omega)) hdM (Nat.le_refl _) (yr_fit TN.out) I9.out RM.out VM.out KM).mono ?_); rintro e y3 ⟨rfl, hy9⟩; have B3 : Below u2.heap.size u2 y3 := bnext B2 hy9)
      | (go_at_call 30; (with_reducible refine (yields_any' _ _ n10 A10 k10 c10 x10 false Ap kp cp vp xp (sval false (vb 4294967296 a.xs)) (sval false (vb 4294967296 a.xs)) 0 0 ((hl10.below B3 (by omega)).more (by have := B3.size; omega)) ((hdp.below B3 (by omega)).more (by have := B3.size; omega)) (Nat.le_refl _) (yr_fit TP.out) I10.out RP.out (by rw [EV.out]) KP).mono ?_); rintro e y4 ⟨rfl, hy10⟩; have B4 : Below u2.heap.size u2 y4 := bnext B3 hy10)
      | fail)
  clear HS G0 KP KM RM VM hdM hbM hb1 hy9 hy10 hoc B1 B2 B3
  have sy4 := B4.size
  replace E : Below w.heap.size w y4 := E.trans (B4.mono E.size)
  replace HA : LRd y4 (w.heap.size) a.A a.n a.c a.xs := HA.below B4 (by omega)
  replace HB : LRd y4 (w.heap.size) b.A b.n b.c b.xs := HB.below B4 (by omega)
  replace PA : Bk2 y4 (w.heap.size) (.bool a.neg) (.slice a.A a.n a.c) := PA.below B4 PA.lt
  replace PB : Bk2 y4 (w.heap.size + 1) (.bool b.neg) (.slice b.A b.n b.c) := PB.below B4 PB.lt
  replace F7 : Bk2 y4 (w1.heap.size) (.int .i64 f1) (.int .i64 f2) := F7.below B4 F7.lt
  replace F9 : Bk2 y4 (w2.heap.size) (.int .i64 f1) (.int .i64 f2) := F9.below B4 F9.lt
  replace FS : Bk2 y4 (w7.heap.size) (.int .i64 0) (.int .i64 0) := FS.below B4 FS.lt
  replace FB : Bk2 y4 (w8.heap.size) (.int .i64 0) (.int .i64 0) := FB.below B4 FB.lt
  replace hl9 : LRd y4 (w9.heap.size) A9 k9 c9 x9 := hl9.below B4 (by omega)
  replace P9 : Bk2 y4 (w9.heap.size) (.bool n9) (.slice A9 k9 c9) := P9.below B4 P9.lt
  replace F100 : Bk2 y4 (w9.heap.size + 1) (.int .i64 0) (.int .i64 0) := F100.below B4 F100.lt
  replace hl10 : LRd y4 (w10.heap.size) A10 k10 c10 x10 := hl10.below B4 (by omega)
  replace P10 : Bk2 y4 (w10.heap.size) (.bool n10) (.slice A10 k10 c10) := P10.below B4 P10.lt
  replace F110 : Bk2 y4 (w10.heap.size + 1) (.int .i64 0) (.int .i64 0) := F110.below B4 F110.lt
  replace hdp : DRd y4 (w12.heap.size) Ap kp cp xp := hdp.below B4 (by omega)
  replace PR : Bk2 y4 (w12.heap.size) (.bool mp) (.slice Ap kp cp) := PR.below B4 PR.lt
  clear B4
  clear FS FB P9 F100 P10 F110 F9 PA HA hl9 hl10
  rcases R2.out with ⟨rfl, ob, hr⟩ | ⟨rfl, rfl⟩
  rotate_left 1
  · have t0 := F7.c0
    go_wp2_with fail
    all_goals go_ret
    all_goals exact ⟨by first | rfl | (simp; done), E⟩
  have t0 := F7.c0
  have RQ := Lib.hid hr
  clear hr
  go_upto_region 19 with fail
  clear t0
  have G0 : Below y4.heap.size y4 y4.drew := Below.drew (Below.refl _ _)
  have HS := Lib.hid (fun (u : World) (hu : Below y4.heap.size y4 u) => (⟨hu, (PR.below hu PR.lt).c0, (PR.below hu PR.lt).c1, (PB.below hu PB.lt).c0, (PB.below hu PB.lt).c1⟩ : Below y4.heap.size y4 u ∧ u.cell? ⟨w12.heap.size, 0, none⟩ = some (.bool mp) ∧ u.cell? ⟨w12.heap.size, 1, none⟩ = some (.slice Ap kp cp) ∧ u.cell? ⟨w.heap.size + 1, 0, none⟩ = some (.bool b.neg) ∧ u.cell? ⟨w.heap.size + 1, 1, none⟩ = some (.slice b.A b.n b.c)))
  go_region_held3 (fun u => Below y4.heap.size y4 u ∧ u.cell? ⟨w12.heap.size, 0, none⟩ = some (.bool mp) ∧ u.cell? ⟨w12.heap.size, 1, none⟩ = some (.slice Ap kp cp) ∧ u.cell? ⟨w.heap.size + 1, 0, none⟩ = some (.bool b.neg) ∧ u.cell? ⟨w.heap.size + 1, 1, none⟩ = some (.slice b.A b.n b.c)) (first | with_reducible exact HS.out _ G0 | with_reducible exact HS.out _ B2 | with_reducible exact HS.out _ B1 | fail)
    (first
      | (go_at_call 27; (with_reducible refine (intOf_any _ w.heap.size b.neg b.A b.n b.c b.xs (HB.below G0 (by omega)) (by have := G0.size; omega) (by have := HB.len.out; have := (IV.vld ob).2; omega)).mono ?_); rintro e y5 ⟨mb, Ab, kb, cb, xb, vb', rfl, hdb, hrb, hvb, hb5⟩; have B1 : Below y4.heap.size y4 y5 := bnext G0 hb5; have RB := Lib.hid hrb; have VB := Lib.hid (show sval mb vb' = b.val from hvb); clear hrb hvb)
      | (go_at_call 28; (with_reducible refine (rorder_any _ _ mp mb Ap Ab kp kb cp cb vp vb' xp xb ((hdp.below B1 (by omega)).more (by have := B1.size; omega)) hdb (Nat.le_refl _) RP.out RB.out).mono ?_); rintro e y6 ⟨qo, hqo, rfl, hb6⟩; have B2 : Below y4.heap.size y4 y6 := bnext B1 hb6; rw [VP.out, VB.out] at hqo; obtain rfl := icmp_uniq RQ.out hqo; clear hqo)
      | fail)
  all_goals (go_wp2_with fail)
  all_goals go_ret
  all_goals exact ⟨by first | rfl | (simp; done), E.trans (B2.mono E.size)⟩
end Go.Proofs.Ytpidkionieaffaa
