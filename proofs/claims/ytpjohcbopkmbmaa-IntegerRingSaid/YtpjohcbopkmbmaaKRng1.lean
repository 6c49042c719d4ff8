/- IntegerRing: the law, where an argument is refused. -/
import Derived.Test.YtpjohcbopkmbmaaKDvs1
import Derived.Test.YtpjohcbopkmbmaaKInt21
import Derived.Test.YtpjohcbopkmbmaaKg
import Derived.Test.YtpjohcbopkmbmaaKYld
namespace Go.Proofs.Ytpjohcbopkmbmaa
open Go.RowKit
set_option maxHeartbeats 400000
set_option maxRecDepth 100000
set_option linter.unusedSimpArgs false
set_option linter.unusedVariables false

abbrev three (a b c : IV) : Obj := .cells #[.bool a.neg, .slice a.A a.n a.c, .bool b.neg, .slice b.A b.n b.c, .bool c.neg, .slice c.A c.n c.c] 24
theorem irow3 (w : World) (B : Nat) (a b c : IV) (ha : a.at w B) (hb : b.at w B) (hc : c.at w B) (hB : B ≤ w.heap.size) : IRow (w.alloc (three a b c)) B w.heap.size [a, b, c] := by
  have ha' := LRd.alloc ha hB (three a b c)
  have hb' := LRd.alloc hb hB (three a b c)
  have hc' := LRd.alloc hc hB (three a b c)
  refine ⟨fun i hi => ?_, fun i hi => ?_, fun i hi => ?_, by simp⟩
  all_goals
    have hi' : i < 3 := hi
    rcases (show i = 0 ∨ i = 1 ∨ i = 2 by omega) with rfl | rfl | rfl
    all_goals first | exact ha' | exact hb' | exact hc' | simp [go_sem]
theorem three_ok {a b c : IV} (ha : a.ok = true) (hb : b.ok = true) (hc : c.ok = true) : ffault [a, b, c] 0 = (0, 0) := by
  show (if a.ok then (if b.ok then (if c.ok then (0, 0) else _) else _) else _) = _
  rw [if_pos ha, if_pos hb, if_pos hc]
theorem three_bad {a b c : IV} (h : ¬ (a.ok = true ∧ b.ok = true ∧ c.ok = true)) : ∃ f2, ffault [a, b, c] 0 = (6, f2) := by
  by_cases ha : a.ok = true
  · by_cases hb : b.ok = true
    · have hc : ¬ c.ok = true := fun e => h ⟨ha, hb, e⟩
      exact ⟨_, by show (if a.ok then (if b.ok then (if c.ok then (0, 0) else _) else _) else _) = _; rw [if_pos ha, if_pos hb, if_neg hc]⟩
    · exact ⟨_, by show (if a.ok then (if b.ok then _ else _) else _) = _; rw [if_pos ha, if_neg hb]⟩
  · exact ⟨_, by show (if a.ok then _ else _) = _; rw [if_neg ha]⟩
set_option maxHeartbeats 8000000 in
theorem ring_bad (w : World) (a b c : IV) (HA : a.at w w.heap.size) (HB : b.at w w.heap.size) (HC : c.at w w.heap.size) (f2 : Int) (hf : ffault [a, b, c] 0 = (6, f2)) :
    Calls Try.prog 9 #[a.v, b.v, c.v] w (fun e w' => e = .returned (.bool true) ∧ Below w.heap.size w w') := by
  replace HA : LRd w w.heap.size a.A a.n a.c a.xs := HA
  replace HB : LRd w w.heap.size b.A b.n b.c b.xs := HB
  replace HC : LRd w w.heap.size c.A c.n c.c c.xs := HC
  have E : Below w.heap.size w w := Below.refl _ _
  have hfd := field_code
  go_enter Try.func9, Try.ntmps9
  go_wp2_with fail
  obtain ⟨V0, hV0⟩ : ∃ V0 : World, V0 = (((w.alloc (.cells #[.bool a.neg, .slice a.A a.n a.c] 24)).alloc (.cells #[.bool b.neg, .slice b.A b.n b.c] 24)).alloc (.cells #[.bool c.neg, .slice c.A c.n c.c] 24)) := ⟨_, rfl⟩
  have bV0 : Below w.heap.size w V0 := by rw [hV0]; (repeat (first | with_reducible exact Below.refl _ _ | with_reducible refine Below.drew ?_ | with_reducible refine below_drewN ?_ _ | with_reducible refine Below.setCell ?_ (by first | (simp; done) | (simp; omega) | omega) _ | with_reducible refine Below.alloc ?_ (by first | (simp; done) | (simp; omega) | omega) _))
  have zV0 : w.heap.size + 3 ≤ V0.heap.size := by rw [hV0]; simp
  have PA : Bk2 V0 (w.heap.size) (.bool a.neg) (.slice a.A a.n a.c) := by rw [hV0]; exact (((Bk2.newAt _ _ (by simp) _ _ _).alloc _).alloc _)
  have PB : Bk2 V0 (w.heap.size + 1) (.bool b.neg) (.slice b.A b.n b.c) := by rw [hV0]; exact ((Bk2.newAt _ _ (by simp) _ _ _).alloc _)
  have PC : Bk2 V0 (w.heap.size + 2) (.bool c.neg) (.slice c.A c.n c.c) := by rw [hV0]; exact (Bk2.newAt _ _ (by simp) _ _ _)
  rw [← hV0]
  clear hV0
  replace E : Below w.heap.size w V0 := E.trans (bV0.mono E.size)
  replace HA : LRd V0 (w.heap.size) a.A a.n a.c a.xs := HA.below bV0 (by omega)
  replace HB : LRd V0 (w.heap.size) b.A b.n b.c b.xs := HB.below bV0 (by omega)
  replace HC : LRd V0 (w.heap.size) c.A c.n c.c c.xs := HC.below bV0 (by omega)
  clear bV0
  (with_reducible refine (counts_any _).mono ?_)
  rintro e w1 ⟨rfl, hb1⟩
  have sw1 := hb1.size
  replace E : Below w.heap.size w w1 := E.trans (hb1.mono E.size)
  replace HA : LRd w1 (w.heap.size) a.A a.n a.c a.xs := HA.below hb1 (by omega)
  replace HB : LRd w1 (w.heap.size) b.A b.n b.c b.xs := HB.below hb1 (by omega)
  replace HC : LRd w1 (w.heap.size) c.A c.n c.c c.xs := HC.below hb1 (by omega)
  replace PA : Bk2 w1 (w.heap.size) (.bool a.neg) (.slice a.A a.n a.c) := PA.below hb1 PA.lt
  replace PB : Bk2 w1 (w.heap.size + 1) (.bool b.neg) (.slice b.A b.n b.c) := PB.below hb1 PB.lt
  replace PC : Bk2 w1 (w.heap.size + 2) (.bool c.neg) (.slice c.A c.n c.c) := PC.below hb1 PC.lt
  clear hb1
  have IR := Lib.hid (irow3 w1 w.heap.size a b c HA HB HC (by omega))
  have p_PA0 : w1.cell? ⟨w.heap.size, 0, none⟩ = some ((.bool a.neg)) := PA.c0
  have p_PA1 : w1.cell? ⟨w.heap.size, 1, none⟩ = some ((.slice a.A a.n a.c)) := PA.c1
  have p_PB0 : w1.cell? ⟨w.heap.size + 1, 0, none⟩ = some ((.bool b.neg)) := PB.c0
  have p_PB1 : w1.cell? ⟨w.heap.size + 1, 1, none⟩ = some ((.slice b.A b.n b.c)) := PB.c1
  have p_PC0 : w1.cell? ⟨w.heap.size + 2, 0, none⟩ = some ((.bool c.neg)) := PC.c0
  have p_PC1 : w1.cell? ⟨w.heap.size + 2, 1, none⟩ = some ((.slice c.A c.n c.c)) := PC.c1
  go_wp2_with fail
  clear p_PA0 p_PA1 p_PB0 p_PB1 p_PC0 p_PC1
  obtain ⟨V1, hV1⟩ : ∃ V1 : World, V1 = (w1.alloc (.cells #[.bool a.neg, .slice a.A a.n a.c, .bool b.neg, .slice b.A b.n b.c, .bool c.neg, .slice c.A c.n c.c] 24)) := ⟨_, rfl⟩
  have bV1 : Below w1.heap.size w1 V1 := by rw [hV1]; (repeat (first | with_reducible exact Below.refl _ _ | with_reducible refine Below.drew ?_ | with_reducible refine below_drewN ?_ _ | with_reducible refine Below.setCell ?_ (by first | (simp; done) | (simp; omega) | omega) _ | with_reducible refine Below.alloc ?_ (by first | (simp; done) | (simp; omega) | omega) _))
  have zV1 : w1.heap.size + 1 ≤ V1.heap.size := by rw [hV1]; simp
  replace IR : Hid (IRow V1 w.heap.size w1.heap.size [a, b, c]) := by rw [hV1]; exact IR
  rw [← hV1]
  clear hV1
  replace E : Below w.heap.size w V1 := E.trans (bV1.mono E.size)
  replace HA : LRd V1 (w.heap.size) a.A a.n a.c a.xs := HA.below bV1 (by omega)
  replace HB : LRd V1 (w.heap.size) b.A b.n b.c b.xs := HB.below bV1 (by omega)
  replace HC : LRd V1 (w.heap.size) c.A c.n c.c c.xs := HC.below bV1 (by omega)
  replace PA : Bk2 V1 (w.heap.size) (.bool a.neg) (.slice a.A a.n a.c) := PA.below bV1 PA.lt
  replace PB : Bk2 V1 (w.heap.size + 1) (.bool b.neg) (.slice b.A b.n b.c) := PB.below bV1 PB.lt
  replace PC : Bk2 V1 (w.heap.size + 2) (.bool c.neg) (.slice c.A c.n c.c) := PC.below bV1 PC.lt
  clear bV1
  (with_reducible refine (faults_any _ w.heap.size w1.heap.size 3 [a, b, c] IR.out rfl (by omega) (by omega)).mono ?_)
  rintro e w2 ⟨rfl, hb2⟩
  have sw2 := hb2.size
  replace E : Below w.heap.size w w2 := E.trans (hb2.mono E.size)
  replace HA : LRd w2 (w.heap.size) a.A a.n a.c a.xs := HA.below hb2 (by omega)
  replace HB : LRd w2 (w.heap.size) b.A b.n b.c b.xs := HB.below hb2 (by omega)
  replace HC : LRd w2 (w.heap.size) c.A c.n c.c c.xs := HC.below hb2 (by omega)
  replace PA : Bk2 w2 (w.heap.size) (.bool a.neg) (.slice a.A a.n a.c) := PA.below hb2 PA.lt
  replace PB : Bk2 w2 (w.heap.size + 1) (.bool b.neg) (.slice b.A b.n b.c) := PB.below hb2 PB.lt
  replace PC : Bk2 w2 (w.heap.size + 2) (.bool c.neg) (.slice c.A c.n c.c) := PC.below hb2 PC.lt
  clear hb2
  rw [hf]
  unfold flt
  clear IR
  go_wp2_with fail
  all_goals go_ret
  all_goals exact ⟨by first | rfl | (simp; done), E⟩
set_option maxHeartbeats 8000000 in
theorem ring_long1 (w : World) (a b c : IV) (HA : a.at w w.heap.size) (HB : b.at w w.heap.size) (HC : c.at w w.heap.size) (oa : a.ok = true) (ob : b.ok = true) (oc : c.ok = true)  (hl : 60 < a.n) :
    Calls Try.prog 9 #[a.v, b.v, c.v] w (fun e w' => e = .returned (.bool true) ∧ Below w.heap.size w w') := by
  have hl' : 60 < (a.n : Int) := by omega
  replace HA : LRd w w.heap.size a.A a.n a.c a.xs := HA
  replace HB : LRd w w.heap.size b.A b.n b.c b.xs := HB
  replace HC : LRd w w.heap.size c.A c.n c.c c.xs := HC
  have E : Below w.heap.size w w := Below.refl _ _
  have hfd := field_code
  go_enter Try.func9, Try.ntmps9
  go_wp2_with fail
  obtain ⟨V0, hV0⟩ : ∃ V0 : World, V0 = (((w.alloc (.cells #[.bool a.neg, .slice a.A a.n a.c] 24)).alloc (.cells #[.bool b.neg, .slice b.A b.n b.c] 24)).alloc (.cells #[.bool c.neg, .slice c.A c.n c.c] 24)) := ⟨_, rfl⟩
  have bV0 : Below w.heap.size w V0 := by rw [hV0]; (repeat (first | with_reducible exact Below.refl _ _ | with_reducible refine Below.drew ?_ | with_reducible refine below_drewN ?_ _ | with_reducible refine Below.setCell ?_ (by first | (simp; done) | (simp; omega) | omega) _ | with_reducible refine Below.alloc ?_ (by first | (simp; done) | (simp; omega) | omega) _))
  have zV0 : w.heap.size + 3 ≤ V0.heap.size := by rw [hV0]; simp
  have PA : Bk2 V0 (w.heap.size) (.bool a.neg) (.slice a.A a.n a.c) := by rw [hV0]; exact (((Bk2.newAt _ _ (by simp) _ _ _).alloc _).alloc _)
  have PB : Bk2 V0 (w.heap.size + 1) (.bool b.neg) (.slice b.A b.n b.c) := by rw [hV0]; exact ((Bk2.newAt _ _ (by simp) _ _ _).alloc _)
  have PC : Bk2 V0 (w.heap.size + 2) (.bool c.neg) (.slice c.A c.n c.c) := by rw [hV0]; exact (Bk2.newAt _ _ (by simp) _ _ _)
  rw [← hV0]
  clear hV0
  replace E : Below w.heap.size w V0 := E.trans (bV0.mono E.size)
  replace HA : LRd V0 (w.heap.size) a.A a.n a.c a.xs := HA.below bV0 (by omega)
  replace HB : LRd V0 (w.heap.size) b.A b.n b.c b.xs := HB.below bV0 (by omega)
  replace HC : LRd V0 (w.heap.size) c.A c.n c.c c.xs := HC.below bV0 (by omega)
  clear bV0
  (with_reducible refine (counts_any _).mono ?_)
  rintro e w1 ⟨rfl, hb1⟩
  have sw1 := hb1.size
  replace E : Below w.heap.size w w1 := E.trans (hb1.mono E.size)
  replace HA : LRd w1 (w.heap.size) a.A a.n a.c a.xs := HA.below hb1 (by omega)
  replace HB : LRd w1 (w.heap.size) b.A b.n b.c b.xs := HB.below hb1 (by omega)
  replace HC : LRd w1 (w.heap.size) c.A c.n c.c c.xs := HC.below hb1 (by omega)
  replace PA : Bk2 w1 (w.heap.size) (.bool a.neg) (.slice a.A a.n a.c) := PA.below hb1 PA.lt
  replace PB : Bk2 w1 (w.heap.size + 1) (.bool b.neg) (.slice b.A b.n b.c) := PB.below hb1 PB.lt
  replace PC : Bk2 w1 (w.heap.size + 2) (.bool c.neg) (.slice c.A c.n c.c) := PC.below hb1 PC.lt
  clear hb1
  have IR := Lib.hid (irow3 w1 w.heap.size a b c HA HB HC (by omega))
  have p_PA0 : w1.cell? ⟨w.heap.size, 0, none⟩ = some ((.bool a.neg)) := PA.c0
  have p_PA1 : w1.cell? ⟨w.heap.size, 1, none⟩ = some ((.slice a.A a.n a.c)) := PA.c1
  have p_PB0 : w1.cell? ⟨w.heap.size + 1, 0, none⟩ = some ((.bool b.neg)) := PB.c0
  have p_PB1 : w1.cell? ⟨w.heap.size + 1, 1, none⟩ = some ((.slice b.A b.n b.c)) := PB.c1
  have p_PC0 : w1.cell? ⟨w.heap.size + 2, 0, none⟩ = some ((.bool c.neg)) := PC.c0
  have p_PC1 : w1.cell? ⟨w.heap.size + 2, 1, none⟩ = some ((.slice c.A c.n c.c)) := PC.c1
  go_wp2_with fail
  clear p_PA0 p_PA1 p_PB0 p_PB1 p_PC0 p_PC1
  obtain ⟨V1, hV1⟩ : ∃ V1 : World, V1 = (w1.alloc (.cells #[.bool a.neg, .slice a.A a.n a.c, .bool b.neg, .slice b.A b.n b.c, .bool c.neg, .slice c.A c.n c.c] 24)) := ⟨_, rfl⟩
  have bV1 : Below w1.heap.size w1 V1 := by rw [hV1]; (repeat (first | with_reducible exact Below.refl _ _ | with_reducible refine Below.drew ?_ | with_reducible refine below_drewN ?_ _ | with_reducible refine Below.setCell ?_ (by first | (simp; done) | (simp; omega) | omega) _ | with_reducible refine Below.alloc ?_ (by first | (simp; done) | (simp; omega) | omega) _))
  have zV1 : w1.heap.size + 1 ≤ V1.heap.size := by rw [hV1]; simp
  replace IR : Hid (IRow V1 w.heap.size w1.heap.size [a, b, c]) := by rw [hV1]; exact IR
  rw [← hV1]
  clear hV1
  replace E : Below w.heap.size w V1 := E.trans (bV1.mono E.size)
  replace HA : LRd V1 (w.heap.size) a.A a.n a.c a.xs := HA.below bV1 (by omega)
  replace HB : LRd V1 (w.heap.size) b.A b.n b.c b.xs := HB.below bV1 (by omega)
  replace HC : LRd V1 (w.heap.size) c.A c.n c.c c.xs := HC.below bV1 (by omega)
  replace PA : Bk2 V1 (w.heap.size) (.bool a.neg) (.slice a.A a.n a.c) := PA.below bV1 PA.lt
  replace PB : Bk2 V1 (w.heap.size + 1) (.bool b.neg) (.slice b.A b.n b.c) := PB.below bV1 PB.lt
  replace PC : Bk2 V1 (w.heap.size + 2) (.bool c.neg) (.slice c.A c.n c.c) := PC.below bV1 PC.lt
  clear bV1
  (with_reducible refine (faults_any _ w.heap.size w1.heap.size 3 [a, b, c] IR.out rfl (by omega) (by omega)).mono ?_)
  rintro e w2 ⟨rfl, hb2⟩
  have sw2 := hb2.size
  replace E : Below w.heap.size w w2 := E.trans (hb2.mono E.size)
  replace HA : LRd w2 (w.heap.size) a.A a.n a.c a.xs := HA.below hb2 (by omega)
  replace HB : LRd w2 (w.heap.size) b.A b.n b.c b.xs := HB.below hb2 (by omega)
  replace HC : LRd w2 (w.heap.size) c.A c.n c.c c.xs := HC.below hb2 (by omega)
  replace PA : Bk2 w2 (w.heap.size) (.bool a.neg) (.slice a.A a.n a.c) := PA.below hb2 PA.lt
  replace PB : Bk2 w2 (w.heap.size + 1) (.bool b.neg) (.slice b.A b.n b.c) := PB.below hb2 PB.lt
  replace PC : Bk2 w2 (w.heap.size + 2) (.bool c.neg) (.slice c.A c.n c.c) := PC.below hb2 PC.lt
  clear hb2
  rw [three_ok oa ob oc]
  unfold flt
  clear IR
  have t0 := PA.c1
  have t1 := PB.c1
  have t2 := PC.c1
  go_wp2_with fail
  all_goals go_ret
  all_goals exact ⟨by first | rfl | (simp; done), E⟩
set_option maxHeartbeats 8000000 in
theorem ring_long2 (w : World) (a b c : IV) (HA : a.at w w.heap.size) (HB : b.at w w.heap.size) (HC : c.at w w.heap.size) (oa : a.ok = true) (ob : b.ok = true) (oc : c.ok = true) (ha60 : a.n ≤ 60) (hl : 60 < b.n) :
    Calls Try.prog 9 #[a.v, b.v, c.v] w (fun e w' => e = .returned (.bool true) ∧ Below w.heap.size w w') := by
  have hl' : 60 < (b.n : Int) := by omega
  have hla : (a.n : Int) ≤ 60 := by omega
  replace HA : LRd w w.heap.size a.A a.n a.c a.xs := HA
  replace HB : LRd w w.heap.size b.A b.n b.c b.xs := HB
  replace HC : LRd w w.heap.size c.A c.n c.c c.xs := HC
  have E : Below w.heap.size w w := Below.refl _ _
  have hfd := field_code
  go_enter Try.func9, Try.ntmps9
  go_wp2_with fail
  obtain ⟨V0, hV0⟩ : ∃ V0 : World, V0 = (((w.alloc (.cells #[.bool a.neg, .slice a.A a.n a.c] 24)).alloc (.cells #[.bool b.neg, .slice b.A b.n b.c] 24)).alloc (.cells #[.bool c.neg, .slice c.A c.n c.c] 24)) := ⟨_, rfl⟩
  have bV0 : Below w.heap.size w V0 := by rw [hV0]; (repeat (first | with_reducible exact Below.refl _ _ | with_reducible refine Below.drew ?_ | with_reducible refine below_drewN ?_ _ | with_reducible refine Below.setCell ?_ (by first | (simp; done) | (simp; omega) | omega) _ | with_reducible refine Below.alloc ?_ (by first | (simp; done) | (simp; omega) | omega) _))
  have zV0 : w.heap.size + 3 ≤ V0.heap.size := by rw [hV0]; simp
  have PA : Bk2 V0 (w.heap.size) (.bool a.neg) (.slice a.A a.n a.c) := by rw [hV0]; exact (((Bk2.newAt _ _ (by simp) _ _ _).alloc _).alloc _)
  have PB : Bk2 V0 (w.heap.size + 1) (.bool b.neg) (.slice b.A b.n b.c) := by rw [hV0]; exact ((Bk2.newAt _ _ (by simp) _ _ _).alloc _)
  have PC : Bk2 V0 (w.heap.size + 2) (.bool c.neg) (.slice c.A c.n c.c) := by rw [hV0]; exact (Bk2.newAt _ _ (by simp) _ _ _)
  rw [← hV0]
  clear hV0
  replace E : Below w.heap.size w V0 := E.trans (bV0.mono E.size)
  replace HA : LRd V0 (w.heap.size) a.A a.n a.c a.xs := HA.below bV0 (by omega)
  replace HB : LRd V0 (w.heap.size) b.A b.n b.c b.xs := HB.below bV0 (by omega)
  replace HC : LRd V0 (w.heap.size) c.A c.n c.c c.xs := HC.below bV0 (by omega)
  clear bV0
  (with_reducible refine (counts_any _).mono ?_)
  rintro e w1 ⟨rfl, hb1⟩
  have sw1 := hb1.size
  replace E : Below w.heap.size w w1 := E.trans (hb1.mono E.size)
  replace HA : LRd w1 (w.heap.size) a.A a.n a.c a.xs := HA.below hb1 (by omega)
  replace HB : LRd w1 (w.heap.size) b.A b.n b.c b.xs := HB.below hb1 (by omega)
  replace HC : LRd w1 (w.heap.size) c.A c.n c.c c.xs := HC.below hb1 (by omega)
  replace PA : Bk2 w1 (w.heap.size) (.bool a.neg) (.slice a.A a.n a.c) := PA.below hb1 PA.lt
  replace PB : Bk2 w1 (w.heap.size + 1) (.bool b.neg) (.slice b.A b.n b.c) := PB.below hb1 PB.lt
  replace PC : Bk2 w1 (w.heap.size + 2) (.bool c.neg) (.slice c.A c.n c.c) := PC.below hb1 PC.lt
  clear hb1
  have IR := Lib.hid (irow3 w1 w.heap.size a b c HA HB HC (by omega))
  have p_PA0 : w1.cell? ⟨w.heap.size, 0, none⟩ = some ((.bool a.neg)) := PA.c0
  have p_PA1 : w1.cell? ⟨w.heap.size, 1, none⟩ = some ((.slice a.A a.n a.c)) := PA.c1
  have p_PB0 : w1.cell? ⟨w.heap.size + 1, 0, none⟩ = some ((.bool b.neg)) := PB.c0
  have p_PB1 : w1.cell? ⟨w.heap.size + 1, 1, none⟩ = some ((.slice b.A b.n b.c)) := PB.c1
  have p_PC0 : w1.cell? ⟨w.heap.size + 2, 0, none⟩ = some ((.bool c.neg)) := PC.c0
  have p_PC1 : w1.cell? ⟨w.heap.size + 2, 1, none⟩ = some ((.slice c.A c.n c.c)) := PC.c1
  go_wp2_with fail
  clear p_PA0 p_PA1 p_PB0 p_PB1 p_PC0 p_PC1
  obtain ⟨V1, hV1⟩ : ∃ V1 : World, V1 = (w1.alloc (.cells #[.bool a.neg, .slice a.A a.n a.c, .bool b.neg, .slice b.A b.n b.c, .bool c.neg, .slice c.A c.n c.c] 24)) := ⟨_, rfl⟩
  have bV1 : Below w1.heap.size w1 V1 := by rw [hV1]; (repeat (first | with_reducible exact Below.refl _ _ | with_reducible refine Below.drew ?_ | with_reducible refine below_drewN ?_ _ | with_reducible refine Below.setCell ?_ (by first | (simp; done) | (simp; omega) | omega) _ | with_reducible refine Below.alloc ?_ (by first | (simp; done) | (simp; omega) | omega) _))
  have zV1 : w1.heap.size + 1 ≤ V1.heap.size := by rw [hV1]; simp
  replace IR : Hid (IRow V1 w.heap.size w1.heap.size [a, b, c]) := by rw [hV1]; exact IR
  rw [← hV1]
  clear hV1
  replace E : Below w.heap.size w V1 := E.trans (bV1.mono E.size)
  replace HA : LRd V1 (w.heap.size) a.A a.n a.c a.xs := HA.below bV1 (by omega)
  replace HB : LRd V1 (w.heap.size) b.A b.n b.c b.xs := HB.below bV1 (by omega)
  replace HC : LRd V1 (w.heap.size) c.A c.n c.c c.xs := HC.below bV1 (by omega)
  replace PA : Bk2 V1 (w.heap.size) (.bool a.neg) (.slice a.A a.n a.c) := PA.below bV1 PA.lt
  replace PB : Bk2 V1 (w.heap.size + 1) (.bool b.neg) (.slice b.A b.n b.c) := PB.below bV1 PB.lt
  replace PC : Bk2 V1 (w.heap.size + 2) (.bool c.neg) (.slice c.A c.n c.c) := PC.below bV1 PC.lt
  clear bV1
  (with_reducible refine (faults_any _ w.heap.size w1.heap.size 3 [a, b, c] IR.out rfl (by omega) (by omega)).mono ?_)
  rintro e w2 ⟨rfl, hb2⟩
  have sw2 := hb2.size
  replace E : Below w.heap.size w w2 := E.trans (hb2.mono E.size)
  replace HA : LRd w2 (w.heap.size) a.A a.n a.c a.xs := HA.below hb2 (by omega)
  replace HB : LRd w2 (w.heap.size) b.A b.n b.c b.xs := HB.below hb2 (by omega)
  replace HC : LRd w2 (w.heap.size) c.A c.n c.c c.xs := HC.below hb2 (by omega)
  replace PA : Bk2 w2 (w.heap.size) (.bool a.neg) (.slice a.A a.n a.c) := PA.below hb2 PA.lt
  replace PB : Bk2 w2 (w.heap.size + 1) (.bool b.neg) (.slice b.A b.n b.c) := PB.below hb2 PB.lt
  replace PC : Bk2 w2 (w.heap.size + 2) (.bool c.neg) (.slice c.A c.n c.c) := PC.below hb2 PC.lt
  clear hb2
  rw [three_ok oa ob oc]
  unfold flt
  clear IR
  have t0 := PA.c1
  have t1 := PB.c1
  have t2 := PC.c1
  go_wp2_with fail
  all_goals go_ret
  all_goals exact ⟨by first | rfl | (simp; done), E⟩
set_option maxHeartbeats 8000000 in
theorem ring_long3 (w : World) (a b c : IV) (HA : a.at w w.heap.size) (HB : b.at w w.heap.size) (HC : c.at w w.heap.size) (oa : a.ok = true) (ob : b.ok = true) (oc : c.ok = true) (ha60 : a.n ≤ 60) (hb60 : b.n ≤ 60) (hl : 60 < c.n) :
    Calls Try.prog 9 #[a.v, b.v, c.v] w (fun e w' => e = .returned (.bool true) ∧ Below w.heap.size w w') := by
  have hl' : 60 < (c.n : Int) := by omega
  have hla : (a.n : Int) ≤ 60 := by omega
  have hlb : (b.n : Int) ≤ 60 := by omega
  replace HA : LRd w w.heap.size a.A a.n a.c a.xs := HA
  replace HB : LRd w w.heap.size b.A b.n b.c b.xs := HB
  replace HC : LRd w w.heap.size c.A c.n c.c c.xs := HC
  have E : Below w.heap.size w w := Below.refl _ _
  have hfd := field_code
  go_enter Try.func9, Try.ntmps9
  go_wp2_with fail
  obtain ⟨V0, hV0⟩ : ∃ V0 : World, V0 = (((w.alloc (.cells #[.bool a.neg, .slice a.A a.n a.c] 24)).alloc (.cells #[.bool b.neg, .slice b.A b.n b.c] 24)).alloc (.cells #[.bool c.neg, .slice c.A c.n c.c] 24)) := ⟨_, rfl⟩
  have bV0 : Below w.heap.size w V0 := by rw [hV0]; (repeat (first | with_reducible exact Below.refl _ _ | with_reducible refine Below.drew ?_ | with_reducible refine below_drewN ?_ _ | with_reducible refine Below.setCell ?_ (by first | (simp; done) | (simp; omega) | omega) _ | with_reducible refine Below.alloc ?_ (by first | (simp; done) | (simp; omega) | omega) _))
  have zV0 : w.heap.size + 3 ≤ V0.heap.size := by rw [hV0]; simp
  have PA : Bk2 V0 (w.heap.size) (.bool a.neg) (.slice a.A a.n a.c) := by rw [hV0]; exact (((Bk2.newAt _ _ (by simp) _ _ _).alloc _).alloc _)
  have PB : Bk2 V0 (w.heap.size + 1) (.bool b.neg) (.slice b.A b.n b.c) := by rw [hV0]; exact ((Bk2.newAt _ _ (by simp) _ _ _).alloc _)
  have PC : Bk2 V0 (w.heap.size + 2) (.bool c.neg) (.slice c.A c.n c.c) := by rw [hV0]; exact (Bk2.newAt _ _ (by simp) _ _ _)
  rw [← hV0]
  clear hV0
  replace E : Below w.heap.size w V0 := E.trans (bV0.mono E.size)
  replace HA : LRd V0 (w.heap.size) a.A a.n a.c a.xs := HA.below bV0 (by omega)
  replace HB : LRd V0 (w.heap.size) b.A b.n b.c b.xs := HB.below bV0 (by omega)
  replace HC : LRd V0 (w.heap.size) c.A c.n c.c c.xs := HC.below bV0 (by omega)
  clear bV0
  (with_reducible refine (counts_any _).mono ?_)
  rintro e w1 ⟨rfl, hb1⟩
  have sw1 := hb1.size
  replace E : Below w.heap.size w w1 := E.trans (hb1.mono E.size)
  replace HA : LRd w1 (w.heap.size) a.A a.n a.c a.xs := HA.below hb1 (by omega)
  replace HB : LRd w1 (w.heap.size) b.A b.n b.c b.xs := HB.below hb1 (by omega)
  replace HC : LRd w1 (w.heap.size) c.A c.n c.c c.xs := HC.below hb1 (by omega)
  replace PA : Bk2 w1 (w.heap.size) (.bool a.neg) (.slice a.A a.n a.c) := PA.below hb1 PA.lt
  replace PB : Bk2 w1 (w.heap.size + 1) (.bool b.neg) (.slice b.A b.n b.c) := PB.below hb1 PB.lt
  replace PC : Bk2 w1 (w.heap.size + 2) (.bool c.neg) (.slice c.A c.n c.c) := PC.below hb1 PC.lt
  clear hb1
  have IR := Lib.hid (irow3 w1 w.heap.size a b c HA HB HC (by omega))
  have p_PA0 : w1.cell? ⟨w.heap.size, 0, none⟩ = some ((.bool a.neg)) := PA.c0
  have p_PA1 : w1.cell? ⟨w.heap.size, 1, none⟩ = some ((.slice a.A a.n a.c)) := PA.c1
  have p_PB0 : w1.cell? ⟨w.heap.size + 1, 0, none⟩ = some ((.bool b.neg)) := PB.c0
  have p_PB1 : w1.cell? ⟨w.heap.size + 1, 1, none⟩ = some ((.slice b.A b.n b.c)) := PB.c1
  have p_PC0 : w1.cell? ⟨w.heap.size + 2, 0, none⟩ = some ((.bool c.neg)) := PC.c0
  have p_PC1 : w1.cell? ⟨w.heap.size + 2, 1, none⟩ = some ((.slice c.A c.n c.c)) := PC.c1
  go_wp2_with fail
  clear p_PA0 p_PA1 p_PB0 p_PB1 p_PC0 p_PC1
  obtain ⟨V1, hV1⟩ : ∃ V1 : World, V1 = (w1.alloc (.cells #[.bool a.neg, .slice a.A a.n a.c, .bool b.neg, .slice b.A b.n b.c, .bool c.neg, .slice c.A c.n c.c] 24)) := ⟨_, rfl⟩
  have bV1 : Below w1.heap.size w1 V1 := by rw [hV1]; (repeat (first | with_reducible exact Below.refl _ _ | with_reducible refine Below.drew ?_ | with_reducible refine below_drewN ?_ _ | with_reducible refine Below.setCell ?_ (by first | (simp; done) | (simp; omega) | omega) _ | with_reducible refine Below.alloc ?_ (by first | (simp; done) | (simp; omega) | omega) _))
  have zV1 : w1.heap.size + 1 ≤ V1.heap.size := by rw [hV1]; simp
  replace IR : Hid (IRow V1 w.heap.size w1.heap.size [a, b, c]) := by rw [hV1]; exact IR
  rw [← hV1]
  clear hV1
  replace E : Below w.heap.size w V1 := E.trans (bV1.mono E.size)
  replace HA : LRd V1 (w.heap.size) a.A a.n a.c a.xs := HA.below bV1 (by omega)
  replace HB : LRd V1 (w.heap.size) b.A b.n b.c b.xs := HB.below bV1 (by omega)
  replace HC : LRd V1 (w.heap.size) c.A c.n c.c c.xs := HC.below bV1 (by omega)
  replace PA : Bk2 V1 (w.heap.size) (.bool a.neg) (.slice a.A a.n a.c) := PA.below bV1 PA.lt
  replace PB : Bk2 V1 (w.heap.size + 1) (.bool b.neg) (.slice b.A b.n b.c) := PB.below bV1 PB.lt
  replace PC : Bk2 V1 (w.heap.size + 2) (.bool c.neg) (.slice c.A c.n c.c) := PC.below bV1 PC.lt
  clear bV1
  (with_reducible refine (faults_any _ w.heap.size w1.heap.size 3 [a, b, c] IR.out rfl (by omega) (by omega)).mono ?_)
  rintro e w2 ⟨rfl, hb2⟩
  have sw2 := hb2.size
  replace E : Below w.heap.size w w2 := E.trans (hb2.mono E.size)
  replace HA : LRd w2 (w.heap.size) a.A a.n a.c a.xs := HA.below hb2 (by omega)
  replace HB : LRd w2 (w.heap.size) b.A b.n b.c b.xs := HB.below hb2 (by omega)
  replace HC : LRd w2 (w.heap.size) c.A c.n c.c c.xs := HC.below hb2 (by omega)
  replace PA : Bk2 w2 (w.heap.size) (.bool a.neg) (.slice a.A a.n a.c) := PA.below hb2 PA.lt
  replace PB : Bk2 w2 (w.heap.size + 1) (.bool b.neg) (.slice b.A b.n b.c) := PB.below hb2 PB.lt
  replace PC : Bk2 w2 (w.heap.size + 2) (.bool c.neg) (.slice c.A c.n c.c) := PC.below hb2 PC.lt
  clear hb2
  rw [three_ok oa ob oc]
  unfold flt
  clear IR
  have t0 := PA.c1
  have t1 := PB.c1
  have t2 := PC.c1
  go_wp2_with fail
  all_goals go_ret
  all_goals exact ⟨by first | rfl | (simp; done), E⟩
end Go.Proofs.Ytpjohcbopkmbmaa
