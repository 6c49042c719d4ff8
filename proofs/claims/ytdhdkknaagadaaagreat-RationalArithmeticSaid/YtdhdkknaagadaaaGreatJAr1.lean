/- RationalArithmetic: a refused argument. -/
import Derived.Test.YtdhdkknaagadaaaGreatJt
import Derived.Test.YtdhdkknaagadaaaGreatJx
import Derived.Test.YtdhdkknaagadaaaGreatJRcp
import Derived.Test.YtdhdkknaagadaaaGreatJo
import Derived.Deep.DeepCutAuto
namespace Go.Proofs.YtdhdkknaagadaaaGreat
open Go.RowKit
set_option maxHeartbeats 400000
set_option maxRecDepth 100000
set_option linter.unusedSimpArgs false
set_option linter.unusedVariables false

theorem rat_zero {w w' : World} {f1 f2 : Int} {e : Ending} (h : GivesRat w 0 0 f1 f2 e w') : ∃ A c D d, e = .returned (.tuple #[ratv false A 0 c false D 0 d, flt f1 f2]) ∧ Below w.heap.size w w' := by
  obtain ⟨m, A, k, c, xs, m', D, l, d, ys, rfl, H1, H2, I, J, hb⟩ := h
  obtain rfl : m = false := by rw [I.sgn]; rfl
  obtain rfl : m' = false := by rw [J.sgn]; rfl
  have h1 := (IRep.len0 I).2 rfl
  have h2 := (IRep.len0 J).2 rfl
  have h3 := H1.len.out
  have h4 := H2.len.out
  obtain rfl : k = 0 := by omega
  obtain rfl : l = 0 := by omega
  exact ⟨A, c, D, d, rfl, hb⟩
theorem radd_b (w : World) (B : Nat) (a b : RV) (H1 : a.at w B) (H2 : b.at w B) (hB : B ≤ w.heap.size) (f2 : Int) (hf : rfault [a, b] 0 = (6, f2)) : Calls Tryz.prog 9 #[a.v, b.v] w (fun e w' => ∃ A c D d, e = .returned (.tuple #[ratv false A 0 c false D 0 d, flt 6 f2]) ∧ Below w.heap.size w w') := (radd_bad w B a b H1 H2 hB f2 hf).mono fun _ _ h => rat_zero h
theorem rsub_b (w : World) (B : Nat) (a b : RV) (H1 : a.at w B) (H2 : b.at w B) (hB : B ≤ w.heap.size) (f2 : Int) (hf : rfault [a, b] 0 = (6, f2)) : Calls Tryz.prog 10 #[a.v, b.v] w (fun e w' => ∃ A c D d, e = .returned (.tuple #[ratv false A 0 c false D 0 d, flt 6 f2]) ∧ Below w.heap.size w w') := (rsub_bad w B a b H1 H2 hB f2 hf).mono fun _ _ h => rat_zero h
theorem rmul_b (w : World) (B : Nat) (a b : RV) (H1 : a.at w B) (H2 : b.at w B) (hB : B ≤ w.heap.size) (f2 : Int) (hf : rfault [a, b] 0 = (6, f2)) : Calls Tryz.prog 11 #[a.v, b.v] w (fun e w' => ∃ A c D d, e = .returned (.tuple #[ratv false A 0 c false D 0 d, flt 6 f2]) ∧ Below w.heap.size w w') := (rmul_bad w B a b H1 H2 hB f2 hf).mono fun _ _ h => rat_zero h
theorem rdiv_b (w : World) (B : Nat) (a b : RV) (H1 : a.at w B) (H2 : b.at w B) (hB : B ≤ w.heap.size) (f2 : Int) (hf : rfault [a, b] 0 = (6, f2)) : Calls Tryz.prog 12 #[a.v, b.v] w (fun e w' => ∃ A c D d, e = .returned (.tuple #[ratv false A 0 c false D 0 d, flt 6 f2]) ∧ Below w.heap.size w w') := (rdiv_bad w B a b H1 H2 hB f2 hf).mono fun _ _ h => rat_zero h
set_option maxHeartbeats 40000000 in
theorem ar_bad (w : World) (a b : RV) (HA : a.at w w.heap.size) (HB : b.at w w.heap.size) (z : Bool) (f2 : Int) (hf : rfault [a, b] 0 = (6, f2)) (oz : Hid (a.ok = z)) :
    Calls Tryz.prog 3 #[a.v, b.v] w (fun e w' => e = .returned (.bool true) ∧ Below w.heap.size w w') := by
  have HF := Lib.hid hf
  have Ha1 : LRd w w.heap.size a.num.A a.num.n a.num.c a.num.xs := HA.1
  have Ha2 : LRd w w.heap.size a.den.A a.den.n a.den.c a.den.xs := HA.2
  have Hb1 : LRd w w.heap.size b.num.A b.num.n b.num.c b.num.xs := HB.1
  have Hb2 : LRd w w.heap.size b.den.A b.den.n b.den.c b.den.xs := HB.2
  have E : Below w.heap.size w w := Below.refl _ _
  go_enter Tryz.func3, Tryz.ntmps3
  go_upto_region 1 with fail
  obtain ⟨V0, hV0⟩ : ∃ V0 : World, V0 = ((w.alloc (.cells #[.bool a.num.neg, .slice a.num.A a.num.n a.num.c, .bool a.den.neg, .slice a.den.A a.den.n a.den.c] 26)).alloc (.cells #[.bool b.num.neg, .slice b.num.A b.num.n b.num.c, .bool b.den.neg, .slice b.den.A b.den.n b.den.c] 26)) := ⟨_, rfl⟩
  have bV0 : Below w.heap.size w V0 := by rw [hV0]; (repeat (first | with_reducible exact Below.refl _ _ | with_reducible refine Below.drew ?_ | with_reducible refine below_drewN ?_ _ | with_reducible refine Below.setCell ?_ (by first | (simp; done) | (simp; omega) | omega) _ | with_reducible refine Below.alloc ?_ (by first | (simp; done) | (simp; omega) | omega) _))
  have zV0 : w.heap.size + 2 ≤ V0.heap.size := by rw [hV0]; simp
  have PA : Bk4 V0 (w.heap.size) (.bool a.num.neg) (.slice a.num.A a.num.n a.num.c) (.bool a.den.neg) (.slice a.den.A a.den.n a.den.c) := by rw [hV0]; exact ((Bk4.newAt _ _ (by first | omega | (simp; done) | (simp; omega)) _ _ _ _ _).alloc _)
  have PB : Bk4 V0 (w.heap.size + 1) (.bool b.num.neg) (.slice b.num.A b.num.n b.num.c) (.bool b.den.neg) (.slice b.den.A b.den.n b.den.c) := by rw [hV0]; exact (Bk4.newAt _ _ (by first | omega | (simp; done) | (simp; omega)) _ _ _ _ _)
  rw [← hV0]
  clear hV0
  replace E := E.trans (bV0.mono E.size)
  replace Ha1 := Ha1.below bV0 (by omega)
  replace Ha2 := Ha2.below bV0 (by omega)
  replace Hb1 := Hb1.below bV0 (by omega)
  replace Hb2 := Hb2.below bV0 (by omega)
  clear bV0
  have RR := Lib.hid (rrow2 V0 w.heap.size a b (rv_at Ha1 Ha2) (rv_at Hb1 Hb2) (by omega))
  have p_PA0 := PA.c0
  have p_PA1 := PA.c1
  have p_PA2 := PA.c2
  have p_PA3 := PA.c3
  have p_PB0 := PB.c0
  have p_PB1 := PB.c1
  have p_PB2 := PB.c2
  have p_PB3 := PB.c3
  go_wp2_with fail
  clear p_PA0 p_PA1 p_PA2 p_PA3 p_PB0 p_PB1 p_PB2 p_PB3
  obtain ⟨V1, hV1⟩ : ∃ V1 : World, V1 = (V0.alloc (.cells #[.bool a.num.neg, .slice a.num.A a.num.n a.num.c, .bool a.den.neg, .slice a.den.A a.den.n a.den.c, .bool b.num.neg, .slice b.num.A b.num.n b.num.c, .bool b.den.neg, .slice b.den.A b.den.n b.den.c] 26)) := ⟨_, rfl⟩
  have bV1 : Below V0.heap.size V0 V1 := by rw [hV1]; (repeat (first | with_reducible exact Below.refl _ _ | with_reducible refine Below.drew ?_ | with_reducible refine below_drewN ?_ _ | with_reducible refine Below.setCell ?_ (by first | (simp; done) | (simp; omega) | omega) _ | with_reducible refine Below.alloc ?_ (by first | (simp; done) | (simp; omega) | omega) _))
  have zV1 : V0.heap.size + 1 ≤ V1.heap.size := by rw [hV1]; simp
  replace RR : Hid (RRow V1 w.heap.size V0.heap.size [a, b]) := by rw [hV1]; exact RR
  rw [← hV1]
  clear hV1
  replace E := E.trans (bV1.mono E.size)
  replace Ha1 := Ha1.below bV1 (by omega)
  replace Ha2 := Ha2.below bV1 (by omega)
  replace Hb1 := Hb1.below bV1 (by omega)
  replace Hb2 := Hb2.below bV1 (by omega)
  replace PA := PA.below bV1 PA.lt
  replace PB := PB.below bV1 PB.lt
  clear bV1
  (with_reducible refine (ratioFaults_any _ w.heap.size V0.heap.size 2 [a, b] RR.out rfl (by omega) (by omega)).mono ?_)
  rintro e w1 ⟨rfl, hb1⟩
  have sw1 := hb1.size
  replace E := E.trans (hb1.mono E.size)
  replace Ha1 := Ha1.below hb1 (by omega)
  replace Ha2 := Ha2.below hb1 (by omega)
  replace Hb1 := Hb1.below hb1 (by omega)
  replace Hb2 := Hb2.below hb1 (by omega)
  replace PA := PA.below hb1 PA.lt
  replace PB := PB.below hb1 PB.lt
  clear hb1
  rw [hf]
  clear RR
  have t_PA0 : (w1.alloc (.cells #[.int .i64 6, .int .i64 f2] 28)).cell? ⟨w.heap.size, 0, none⟩ = some ((.bool a.num.neg)) := (PA.alloc _).c0
  have t_PA1 : (w1.alloc (.cells #[.int .i64 6, .int .i64 f2] 28)).cell? ⟨w.heap.size, 1, none⟩ = some ((.slice a.num.A a.num.n a.num.c)) := (PA.alloc _).c1
  have t_PA2 : (w1.alloc (.cells #[.int .i64 6, .int .i64 f2] 28)).cell? ⟨w.heap.size, 2, none⟩ = some ((.bool a.den.neg)) := (PA.alloc _).c2
  have t_PA3 : (w1.alloc (.cells #[.int .i64 6, .int .i64 f2] 28)).cell? ⟨w.heap.size, 3, none⟩ = some ((.slice a.den.A a.den.n a.den.c)) := (PA.alloc _).c3
  have t_PB0 : (w1.alloc (.cells #[.int .i64 6, .int .i64 f2] 28)).cell? ⟨w.heap.size + 1, 0, none⟩ = some ((.bool b.num.neg)) := (PB.alloc _).c0
  have t_PB1 : (w1.alloc (.cells #[.int .i64 6, .int .i64 f2] 28)).cell? ⟨w.heap.size + 1, 1, none⟩ = some ((.slice b.num.A b.num.n b.num.c)) := (PB.alloc _).c1
  have t_PB2 : (w1.alloc (.cells #[.int .i64 6, .int .i64 f2] 28)).cell? ⟨w.heap.size + 1, 2, none⟩ = some ((.bool b.den.neg)) := (PB.alloc _).c2
  have t_PB3 : (w1.alloc (.cells #[.int .i64 6, .int .i64 f2] 28)).cell? ⟨w.heap.size + 1, 3, none⟩ = some ((.slice b.den.A b.den.n b.den.c)) := (PB.alloc _).c3
  go_wp2_with fail
  clear t_PA0 t_PA1 t_PA2 t_PA3 t_PB0 t_PB1 t_PB2 t_PB3
  obtain ⟨V2, hV2⟩ : ∃ V2 : World, V2 = (w1.alloc (.cells #[.int .i64 6, .int .i64 f2] 28)) := ⟨_, rfl⟩
  have bV2 : Below w1.heap.size w1 V2 := by rw [hV2]; (repeat (first | with_reducible exact Below.refl _ _ | with_reducible refine Below.drew ?_ | with_reducible refine below_drewN ?_ _ | with_reducible refine Below.setCell ?_ (by first | (simp; done) | (simp; omega) | omega) _ | with_reducible refine Below.alloc ?_ (by first | (simp; done) | (simp; omega) | omega) _))
  have zV2 : w1.heap.size + 1 ≤ V2.heap.size := by rw [hV2]; simp
  have P5 : Bk2 V2 (w1.heap.size) (.int .i64 6) (.int .i64 f2) := by rw [hV2]; exact (Bk2.newAt _ _ (by first | omega | (simp; done) | (simp; omega)) _ _ _)
  rw [← hV2]
  clear hV2
  replace E := E.trans (bV2.mono E.size)
  replace Ha1 := Ha1.below bV2 (by omega)
  replace Ha2 := Ha2.below bV2 (by omega)
  replace Hb1 := Hb1.below bV2 (by omega)
  replace Hb2 := Hb2.below bV2 (by omega)
  replace PA := PA.below bV2 PA.lt
  replace PB := PB.below bV2 PB.lt
  clear bV2
  (with_reducible refine (radd_b _ w.heap.size a b (rv_at (Ha1.more (by omega)) (Ha2.more (by omega))) (rv_at (Hb1.more (by omega)) (Hb2.more (by omega))) (by omega) f2 HF.out).mono ?_)
  rintro e w2 ⟨A1, c1, D1, d1, rfl, hb2⟩
  have sw2 := hb2.size
  replace E := E.trans (hb2.mono E.size)
  replace Ha1 := Ha1.below hb2 (by omega)
  replace Ha2 := Ha2.below hb2 (by omega)
  replace Hb1 := Hb1.below hb2 (by omega)
  replace Hb2 := Hb2.below hb2 (by omega)
  replace PA := PA.below hb2 PA.lt
  replace PB := PB.below hb2 PB.lt
  replace P5 := P5.below hb2 P5.lt
  clear hb2
  have t_PA0 : ((w2.alloc (.cells #[.bool false, .slice A1 0 c1, .bool false, .slice D1 0 d1] 26)).alloc (.cells #[.int .i64 6, .int .i64 f2] 28)).cell? ⟨w.heap.size, 0, none⟩ = some ((.bool a.num.neg)) := ((PA.alloc _).alloc _).c0
  have t_PA1 : ((w2.alloc (.cells #[.bool false, .slice A1 0 c1, .bool false, .slice D1 0 d1] 26)).alloc (.cells #[.int .i64 6, .int .i64 f2] 28)).cell? ⟨w.heap.size, 1, none⟩ = some ((.slice a.num.A a.num.n a.num.c)) := ((PA.alloc _).alloc _).c1
  have t_PA2 : ((w2.alloc (.cells #[.bool false, .slice A1 0 c1, .bool false, .slice D1 0 d1] 26)).alloc (.cells #[.int .i64 6, .int .i64 f2] 28)).cell? ⟨w.heap.size, 2, none⟩ = some ((.bool a.den.neg)) := ((PA.alloc _).alloc _).c2
  have t_PA3 : ((w2.alloc (.cells #[.bool false, .slice A1 0 c1, .bool false, .slice D1 0 d1] 26)).alloc (.cells #[.int .i64 6, .int .i64 f2] 28)).cell? ⟨w.heap.size, 3, none⟩ = some ((.slice a.den.A a.den.n a.den.c)) := ((PA.alloc _).alloc _).c3
  have t_PB0 : ((w2.alloc (.cells #[.bool false, .slice A1 0 c1, .bool false, .slice D1 0 d1] 26)).alloc (.cells #[.int .i64 6, .int .i64 f2] 28)).cell? ⟨w.heap.size + 1, 0, none⟩ = some ((.bool b.num.neg)) := ((PB.alloc _).alloc _).c0
  have t_PB1 : ((w2.alloc (.cells #[.bool false, .slice A1 0 c1, .bool false, .slice D1 0 d1] 26)).alloc (.cells #[.int .i64 6, .int .i64 f2] 28)).cell? ⟨w.heap.size + 1, 1, none⟩ = some ((.slice b.num.A b.num.n b.num.c)) := ((PB.alloc _).alloc _).c1
  have t_PB2 : ((w2.alloc (.cells #[.bool false, .slice A1 0 c1, .bool false, .slice D1 0 d1] 26)).alloc (.cells #[.int .i64 6, .int .i64 f2] 28)).cell? ⟨w.heap.size + 1, 2, none⟩ = some ((.bool b.den.neg)) := ((PB.alloc _).alloc _).c2
  have t_PB3 : ((w2.alloc (.cells #[.bool false, .slice A1 0 c1, .bool false, .slice D1 0 d1] 26)).alloc (.cells #[.int .i64 6, .int .i64 f2] 28)).cell? ⟨w.heap.size + 1, 3, none⟩ = some ((.slice b.den.A b.den.n b.den.c)) := ((PB.alloc _).alloc _).c3
  go_wp2_with fail
  clear t_PA0 t_PA1 t_PA2 t_PA3 t_PB0 t_PB1 t_PB2 t_PB3
  obtain ⟨V3, hV3⟩ : ∃ V3 : World, V3 = ((w2.alloc (.cells #[.bool false, .slice A1 0 c1, .bool false, .slice D1 0 d1] 26)).alloc (.cells #[.int .i64 6, .int .i64 f2] 28)) := ⟨_, rfl⟩
  have bV3 : Below w2.heap.size w2 V3 := by rw [hV3]; (repeat (first | with_reducible exact Below.refl _ _ | with_reducible refine Below.drew ?_ | with_reducible refine below_drewN ?_ _ | with_reducible refine Below.setCell ?_ (by first | (simp; done) | (simp; omega) | omega) _ | with_reducible refine Below.alloc ?_ (by first | (simp; done) | (simp; omega) | omega) _))
  have zV3 : w2.heap.size + 2 ≤ V3.heap.size := by rw [hV3]; simp
  have R1 : Bk4 V3 (w2.heap.size) (.bool false) (.slice A1 0 c1) (.bool false) (.slice D1 0 d1) := by rw [hV3]; exact ((Bk4.newAt _ _ (by first | omega | (simp; done) | (simp; omega)) _ _ _ _ _).alloc _)
  have F1 : Bk2 V3 (w2.heap.size + 1) (.int .i64 6) (.int .i64 f2) := by rw [hV3]; exact (Bk2.newAt _ _ (by first | omega | (simp; done) | (simp; omega)) _ _ _)
  rw [← hV3]
  clear hV3
  replace E := E.trans (bV3.mono E.size)
  replace Ha1 := Ha1.below bV3 (by omega)
  replace Ha2 := Ha2.below bV3 (by omega)
  replace Hb1 := Hb1.below bV3 (by omega)
  replace Hb2 := Hb2.below bV3 (by omega)
  replace PA := PA.below bV3 PA.lt
  replace PB := PB.below bV3 PB.lt
  replace P5 := P5.below bV3 P5.lt
  clear bV3
  (with_reducible refine (rsub_b _ w.heap.size a b (rv_at (Ha1.more (by omega)) (Ha2.more (by omega))) (rv_at (Hb1.more (by omega)) (Hb2.more (by omega))) (by omega) f2 HF.out).mono ?_)
  rintro e w3 ⟨A2, c2, D2, d2, rfl, hb3⟩
  have sw3 := hb3.size
  replace E := E.trans (hb3.mono E.size)
  replace Ha1 := Ha1.below hb3 (by omega)
  replace Ha2 := Ha2.below hb3 (by omega)
  replace Hb1 := Hb1.below hb3 (by omega)
  replace Hb2 := Hb2.below hb3 (by omega)
  replace PA := PA.below hb3 PA.lt
  replace PB := PB.below hb3 PB.lt
  replace P5 := P5.below hb3 P5.lt
  replace R1 := R1.below hb3 R1.lt
  replace F1 := F1.below hb3 F1.lt
  clear hb3
  have t_PA0 : ((w3.alloc (.cells #[.bool false, .slice A2 0 c2, .bool false, .slice D2 0 d2] 26)).alloc (.cells #[.int .i64 6, .int .i64 f2] 28)).cell? ⟨w.heap.size, 0, none⟩ = some ((.bool a.num.neg)) := ((PA.alloc _).alloc _).c0
  have t_PA1 : ((w3.alloc (.cells #[.bool false, .slice A2 0 c2, .bool false, .slice D2 0 d2] 26)).alloc (.cells #[.int .i64 6, .int .i64 f2] 28)).cell? ⟨w.heap.size, 1, none⟩ = some ((.slice a.num.A a.num.n a.num.c)) := ((PA.alloc _).alloc _).c1
  have t_PA2 : ((w3.alloc (.cells #[.bool false, .slice A2 0 c2, .bool false, .slice D2 0 d2] 26)).alloc (.cells #[.int .i64 6, .int .i64 f2] 28)).cell? ⟨w.heap.size, 2, none⟩ = some ((.bool a.den.neg)) := ((PA.alloc _).alloc _).c2
  have t_PA3 : ((w3.alloc (.cells #[.bool false, .slice A2 0 c2, .bool false, .slice D2 0 d2] 26)).alloc (.cells #[.int .i64 6, .int .i64 f2] 28)).cell? ⟨w.heap.size, 3, none⟩ = some ((.slice a.den.A a.den.n a.den.c)) := ((PA.alloc _).alloc _).c3
  have t_PB0 : ((w3.alloc (.cells #[.bool false, .slice A2 0 c2, .bool false, .slice D2 0 d2] 26)).alloc (.cells #[.int .i64 6, .int .i64 f2] 28)).cell? ⟨w.heap.size + 1, 0, none⟩ = some ((.bool b.num.neg)) := ((PB.alloc _).alloc _).c0
  have t_PB1 : ((w3.alloc (.cells #[.bool false, .slice A2 0 c2, .bool false, .slice D2 0 d2] 26)).alloc (.cells #[.int .i64 6, .int .i64 f2] 28)).cell? ⟨w.heap.size + 1, 1, none⟩ = some ((.slice b.num.A b.num.n b.num.c)) := ((PB.alloc _).alloc _).c1
  have t_PB2 : ((w3.alloc (.cells #[.bool false, .slice A2 0 c2, .bool false, .slice D2 0 d2] 26)).alloc (.cells #[.int .i64 6, .int .i64 f2] 28)).cell? ⟨w.heap.size + 1, 2, none⟩ = some ((.bool b.den.neg)) := ((PB.alloc _).alloc _).c2
  have t_PB3 : ((w3.alloc (.cells #[.bool false, .slice A2 0 c2, .bool false, .slice D2 0 d2] 26)).alloc (.cells #[.int .i64 6, .int .i64 f2] 28)).cell? ⟨w.heap.size + 1, 3, none⟩ = some ((.slice b.den.A b.den.n b.den.c)) := ((PB.alloc _).alloc _).c3
  go_wp2_with fail
  clear t_PA0 t_PA1 t_PA2 t_PA3 t_PB0 t_PB1 t_PB2 t_PB3
  obtain ⟨V4, hV4⟩ : ∃ V4 : World, V4 = ((w3.alloc (.cells #[.bool false, .slice A2 0 c2, .bool false, .slice D2 0 d2] 26)).alloc (.cells #[.int .i64 6, .int .i64 f2] 28)) := ⟨_, rfl⟩
  have bV4 : Below w3.heap.size w3 V4 := by rw [hV4]; (repeat (first | with_reducible exact Below.refl _ _ | with_reducible refine Below.drew ?_ | with_reducible refine below_drewN ?_ _ | with_reducible refine Below.setCell ?_ (by first | (simp; done) | (simp; omega) | omega) _ | with_reducible refine Below.alloc ?_ (by first | (simp; done) | (simp; omega) | omega) _))
  have zV4 : w3.heap.size + 2 ≤ V4.heap.size := by rw [hV4]; simp
  have R2 : Bk4 V4 (w3.heap.size) (.bool false) (.slice A2 0 c2) (.bool false) (.slice D2 0 d2) := by rw [hV4]; exact ((Bk4.newAt _ _ (by first | omega | (simp; done) | (simp; omega)) _ _ _ _ _).alloc _)
  have F2 : Bk2 V4 (w3.heap.size + 1) (.int .i64 6) (.int .i64 f2) := by rw [hV4]; exact (Bk2.newAt _ _ (by first | omega | (simp; done) | (simp; omega)) _ _ _)
  rw [← hV4]
  clear hV4
  replace E := E.trans (bV4.mono E.size)
  replace Ha1 := Ha1.below bV4 (by omega)
  replace Ha2 := Ha2.below bV4 (by omega)
  replace Hb1 := Hb1.below bV4 (by omega)
  replace Hb2 := Hb2.below bV4 (by omega)
  replace PA := PA.below bV4 PA.lt
  replace PB := PB.below bV4 PB.lt
  replace P5 := P5.below bV4 P5.lt
  replace R1 := R1.below bV4 R1.lt
  replace F1 := F1.below bV4 F1.lt
  clear bV4
  (with_reducible refine (rmul_b _ w.heap.size a b (rv_at (Ha1.more (by omega)) (Ha2.more (by omega))) (rv_at (Hb1.more (by omega)) (Hb2.more (by omega))) (by omega) f2 HF.out).mono ?_)
  rintro e w4 ⟨A3, c3, D3, d3, rfl, hb4⟩
  have sw4 := hb4.size
  replace E := E.trans (hb4.mono E.size)
  replace Ha1 := Ha1.below hb4 (by omega)
  replace Ha2 := Ha2.below hb4 (by omega)
  replace Hb1 := Hb1.below hb4 (by omega)
  replace Hb2 := Hb2.below hb4 (by omega)
  replace PA := PA.below hb4 PA.lt
  replace PB := PB.below hb4 PB.lt
  replace P5 := P5.below hb4 P5.lt
  replace R1 := R1.below hb4 R1.lt
  replace F1 := F1.below hb4 F1.lt
  replace R2 := R2.below hb4 R2.lt
  replace F2 := F2.below hb4 F2.lt
  clear hb4
  have t_PA0 : ((w4.alloc (.cells #[.bool false, .slice A3 0 c3, .bool false, .slice D3 0 d3] 26)).alloc (.cells #[.int .i64 6, .int .i64 f2] 28)).cell? ⟨w.heap.size, 0, none⟩ = some ((.bool a.num.neg)) := ((PA.alloc _).alloc _).c0
  have t_PA1 : ((w4.alloc (.cells #[.bool false, .slice A3 0 c3, .bool false, .slice D3 0 d3] 26)).alloc (.cells #[.int .i64 6, .int .i64 f2] 28)).cell? ⟨w.heap.size, 1, none⟩ = some ((.slice a.num.A a.num.n a.num.c)) := ((PA.alloc _).alloc _).c1
  have t_PA2 : ((w4.alloc (.cells #[.bool false, .slice A3 0 c3, .bool false, .slice D3 0 d3] 26)).alloc (.cells #[.int .i64 6, .int .i64 f2] 28)).cell? ⟨w.heap.size, 2, none⟩ = some ((.bool a.den.neg)) := ((PA.alloc _).alloc _).c2
  have t_PA3 : ((w4.alloc (.cells #[.bool false, .slice A3 0 c3, .bool false, .slice D3 0 d3] 26)).alloc (.cells #[.int .i64 6, .int .i64 f2] 28)).cell? ⟨w.heap.size, 3, none⟩ = some ((.slice a.den.A a.den.n a.den.c)) := ((PA.alloc _).alloc _).c3
  have t_PB0 : ((w4.alloc (.cells #[.bool false, .slice A3 0 c3, .bool false, .slice D3 0 d3] 26)).alloc (.cells #[.int .i64 6, .int .i64 f2] 28)).cell? ⟨w.heap.size + 1, 0, none⟩ = some ((.bool b.num.neg)) := ((PB.alloc _).alloc _).c0
  have t_PB1 : ((w4.alloc (.cells #[.bool false, .slice A3 0 c3, .bool false, .slice D3 0 d3] 26)).alloc (.cells #[.int .i64 6, .int .i64 f2] 28)).cell? ⟨w.heap.size + 1, 1, none⟩ = some ((.slice b.num.A b.num.n b.num.c)) := ((PB.alloc _).alloc _).c1
  have t_PB2 : ((w4.alloc (.cells #[.bool false, .slice A3 0 c3, .bool false, .slice D3 0 d3] 26)).alloc (.cells #[.int .i64 6, .int .i64 f2] 28)).cell? ⟨w.heap.size + 1, 2, none⟩ = some ((.bool b.den.neg)) := ((PB.alloc _).alloc _).c2
  have t_PB3 : ((w4.alloc (.cells #[.bool false, .slice A3 0 c3, .bool false, .slice D3 0 d3] 26)).alloc (.cells #[.int .i64 6, .int .i64 f2] 28)).cell? ⟨w.heap.size + 1, 3, none⟩ = some ((.slice b.den.A b.den.n b.den.c)) := ((PB.alloc _).alloc _).c3
  go_wp2_with fail
  clear t_PA0 t_PA1 t_PA2 t_PA3 t_PB0 t_PB1 t_PB2 t_PB3
  obtain ⟨V5, hV5⟩ : ∃ V5 : World, V5 = ((w4.alloc (.cells #[.bool false, .slice A3 0 c3, .bool false, .slice D3 0 d3] 26)).alloc (.cells #[.int .i64 6, .int .i64 f2] 28)) := ⟨_, rfl⟩
  have bV5 : Below w4.heap.size w4 V5 := by rw [hV5]; (repeat (first | with_reducible exact Below.refl _ _ | with_reducible refine Below.drew ?_ | with_reducible refine below_drewN ?_ _ | with_reducible refine Below.setCell ?_ (by first | (simp; done) | (simp; omega) | omega) _ | with_reducible refine Below.alloc ?_ (by first | (simp; done) | (simp; omega) | omega) _))
  have zV5 : w4.heap.size + 2 ≤ V5.heap.size := by rw [hV5]; simp
  have R3 : Bk4 V5 (w4.heap.size) (.bool false) (.slice A3 0 c3) (.bool false) (.slice D3 0 d3) := by rw [hV5]; exact ((Bk4.newAt _ _ (by first | omega | (simp; done) | (simp; omega)) _ _ _ _ _).alloc _)
  have F3 : Bk2 V5 (w4.heap.size + 1) (.int .i64 6) (.int .i64 f2) := by rw [hV5]; exact (Bk2.newAt _ _ (by first | omega | (simp; done) | (simp; omega)) _ _ _)
  rw [← hV5]
  clear hV5
  replace E := E.trans (bV5.mono E.size)
  replace Ha1 := Ha1.below bV5 (by omega)
  replace Ha2 := Ha2.below bV5 (by omega)
  replace Hb1 := Hb1.below bV5 (by omega)
  replace Hb2 := Hb2.below bV5 (by omega)
  replace PA := PA.below bV5 PA.lt
  replace PB := PB.below bV5 PB.lt
  replace P5 := P5.below bV5 P5.lt
  replace R1 := R1.below bV5 R1.lt
  replace F1 := F1.below bV5 F1.lt
  replace R2 := R2.below bV5 R2.lt
  replace F2 := F2.below bV5 F2.lt
  clear bV5
  (with_reducible refine (rdiv_b _ w.heap.size a b (rv_at (Ha1.more (by omega)) (Ha2.more (by omega))) (rv_at (Hb1.more (by omega)) (Hb2.more (by omega))) (by omega) f2 HF.out).mono ?_)
  rintro e w5 ⟨A4, c4, D4, d4, rfl, hb5⟩
  have sw5 := hb5.size
  replace E := E.trans (hb5.mono E.size)
  replace Ha1 := Ha1.below hb5 (by omega)
  replace Ha2 := Ha2.below hb5 (by omega)
  replace Hb1 := Hb1.below hb5 (by omega)
  replace Hb2 := Hb2.below hb5 (by omega)
  replace PA := PA.below hb5 PA.lt
  replace PB := PB.below hb5 PB.lt
  replace P5 := P5.below hb5 P5.lt
  replace R1 := R1.below hb5 R1.lt
  replace F1 := F1.below hb5 F1.lt
  replace R2 := R2.below hb5 R2.lt
  replace F2 := F2.below hb5 F2.lt
  replace R3 := R3.below hb5 R3.lt
  replace F3 := F3.below hb5 F3.lt
  clear hb5
  have t_PA0 : ((w5.alloc (.cells #[.bool false, .slice A4 0 c4, .bool false, .slice D4 0 d4] 26)).alloc (.cells #[.int .i64 6, .int .i64 f2] 28)).cell? ⟨w.heap.size, 0, none⟩ = some ((.bool a.num.neg)) := ((PA.alloc _).alloc _).c0
  have t_PA1 : ((w5.alloc (.cells #[.bool false, .slice A4 0 c4, .bool false, .slice D4 0 d4] 26)).alloc (.cells #[.int .i64 6, .int .i64 f2] 28)).cell? ⟨w.heap.size, 1, none⟩ = some ((.slice a.num.A a.num.n a.num.c)) := ((PA.alloc _).alloc _).c1
  have t_PA2 : ((w5.alloc (.cells #[.bool false, .slice A4 0 c4, .bool false, .slice D4 0 d4] 26)).alloc (.cells #[.int .i64 6, .int .i64 f2] 28)).cell? ⟨w.heap.size, 2, none⟩ = some ((.bool a.den.neg)) := ((PA.alloc _).alloc _).c2
  have t_PA3 : ((w5.alloc (.cells #[.bool false, .slice A4 0 c4, .bool false, .slice D4 0 d4] 26)).alloc (.cells #[.int .i64 6, .int .i64 f2] 28)).cell? ⟨w.heap.size, 3, none⟩ = some ((.slice a.den.A a.den.n a.den.c)) := ((PA.alloc _).alloc _).c3
  have t_PB0 : ((w5.alloc (.cells #[.bool false, .slice A4 0 c4, .bool false, .slice D4 0 d4] 26)).alloc (.cells #[.int .i64 6, .int .i64 f2] 28)).cell? ⟨w.heap.size + 1, 0, none⟩ = some ((.bool b.num.neg)) := ((PB.alloc _).alloc _).c0
  have t_PB1 : ((w5.alloc (.cells #[.bool false, .slice A4 0 c4, .bool false, .slice D4 0 d4] 26)).alloc (.cells #[.int .i64 6, .int .i64 f2] 28)).cell? ⟨w.heap.size + 1, 1, none⟩ = some ((.slice b.num.A b.num.n b.num.c)) := ((PB.alloc _).alloc _).c1
  have t_PB2 : ((w5.alloc (.cells #[.bool false, .slice A4 0 c4, .bool false, .slice D4 0 d4] 26)).alloc (.cells #[.int .i64 6, .int .i64 f2] 28)).cell? ⟨w.heap.size + 1, 2, none⟩ = some ((.bool b.den.neg)) := ((PB.alloc _).alloc _).c2
  have t_PB3 : ((w5.alloc (.cells #[.bool false, .slice A4 0 c4, .bool false, .slice D4 0 d4] 26)).alloc (.cells #[.int .i64 6, .int .i64 f2] 28)).cell? ⟨w.heap.size + 1, 3, none⟩ = some ((.slice b.den.A b.den.n b.den.c)) := ((PB.alloc _).alloc _).c3
  go_wp2_with fail
  clear t_PA0 t_PA1 t_PA2 t_PA3 t_PB0 t_PB1 t_PB2 t_PB3
  obtain ⟨V6, hV6⟩ : ∃ V6 : World, V6 = ((w5.alloc (.cells #[.bool false, .slice A4 0 c4, .bool false, .slice D4 0 d4] 26)).alloc (.cells #[.int .i64 6, .int .i64 f2] 28)) := ⟨_, rfl⟩
  have bV6 : Below w5.heap.size w5 V6 := by rw [hV6]; (repeat (first | with_reducible exact Below.refl _ _ | with_reducible refine Below.drew ?_ | with_reducible refine below_drewN ?_ _ | with_reducible refine Below.setCell ?_ (by first | (simp; done) | (simp; omega) | omega) _ | with_reducible refine Below.alloc ?_ (by first | (simp; done) | (simp; omega) | omega) _))
  have zV6 : w5.heap.size + 2 ≤ V6.heap.size := by rw [hV6]; simp
  have R4 : Bk4 V6 (w5.heap.size) (.bool false) (.slice A4 0 c4) (.bool false) (.slice D4 0 d4) := by rw [hV6]; exact ((Bk4.newAt _ _ (by first | omega | (simp; done) | (simp; omega)) _ _ _ _ _).alloc _)
  have F4 : Bk2 V6 (w5.heap.size + 1) (.int .i64 6) (.int .i64 f2) := by rw [hV6]; exact (Bk2.newAt _ _ (by first | omega | (simp; done) | (simp; omega)) _ _ _)
  rw [← hV6]
  clear hV6
  replace E := E.trans (bV6.mono E.size)
  replace Ha1 := Ha1.below bV6 (by omega)
  replace Ha2 := Ha2.below bV6 (by omega)
  replace Hb1 := Hb1.below bV6 (by omega)
  replace Hb2 := Hb2.below bV6 (by omega)
  replace PA := PA.below bV6 PA.lt
  replace PB := PB.below bV6 PB.lt
  replace P5 := P5.below bV6 P5.lt
  replace R1 := R1.below bV6 R1.lt
  replace F1 := F1.below bV6 F1.lt
  replace R2 := R2.below bV6 R2.lt
  replace F2 := F2.below bV6 F2.lt
  replace R3 := R3.below bV6 R3.lt
  replace F3 := F3.below bV6 F3.lt
  clear bV6
  (with_reducible refine (rcmp_bad _ w.heap.size a b (rv_at (Ha1.more (by omega)) (Ha2.more (by omega))) (rv_at (Hb1.more (by omega)) (Hb2.more (by omega))) (by omega) f2 HF.out).mono ?_)
  rintro e w6 ⟨rfl, hb6⟩
  have sw6 := hb6.size
  replace E := E.trans (hb6.mono E.size)
  replace Ha1 := Ha1.below hb6 (by omega)
  replace Ha2 := Ha2.below hb6 (by omega)
  replace Hb1 := Hb1.below hb6 (by omega)
  replace Hb2 := Hb2.below hb6 (by omega)
  replace PA := PA.below hb6 PA.lt
  replace PB := PB.below hb6 PB.lt
  replace P5 := P5.below hb6 P5.lt
  replace R1 := R1.below hb6 R1.lt
  replace F1 := F1.below hb6 F1.lt
  replace R2 := R2.below hb6 R2.lt
  replace F2 := F2.below hb6 F2.lt
  replace R3 := R3.below hb6 R3.lt
  replace F3 := F3.below hb6 F3.lt
  replace R4 := R4.below hb6 R4.lt
  replace F4 := F4.below hb6 F4.lt
  clear hb6
  go_upto_region 7 with fail
  obtain ⟨V7, hV7⟩ : ∃ V7 : World, V7 = (w6.alloc (.cells #[.int .i64 6, .int .i64 f2] 28)) := ⟨_, rfl⟩
  have bV7 : Below w6.heap.size w6 V7 := by rw [hV7]; (repeat (first | with_reducible exact Below.refl _ _ | with_reducible refine Below.drew ?_ | with_reducible refine below_drewN ?_ _ | with_reducible refine Below.setCell ?_ (by first | (simp; done) | (simp; omega) | omega) _ | with_reducible refine Below.alloc ?_ (by first | (simp; done) | (simp; omega) | omega) _))
  have zV7 : w6.heap.size + 1 ≤ V7.heap.size := by rw [hV7]; simp
  have F15 : Bk2 V7 (w6.heap.size) (.int .i64 6) (.int .i64 f2) := by rw [hV7]; exact (Bk2.newAt _ _ (by first | omega | (simp; done) | (simp; omega)) _ _ _)
  rw [← hV7]
  clear hV7
  replace E := E.trans (bV7.mono E.size)
  replace Ha1 := Ha1.below bV7 (by omega)
  replace Ha2 := Ha2.below bV7 (by omega)
  replace Hb1 := Hb1.below bV7 (by omega)
  replace Hb2 := Hb2.below bV7 (by omega)
  replace PA := PA.below bV7 PA.lt
  replace PB := PB.below bV7 PB.lt
  replace P5 := P5.below bV7 P5.lt
  replace R1 := R1.below bV7 R1.lt
  replace F1 := F1.below bV7 F1.lt
  replace R2 := R2.below bV7 R2.lt
  replace F2 := F2.below bV7 F2.lt
  replace R3 := R3.below bV7 R3.lt
  replace F3 := F3.below bV7 F3.lt
  replace R4 := R4.below bV7 R4.lt
  replace F4 := F4.below bV7 F4.lt
  clear bV7
  have lt_PA := PA.lt
  have lt_P5 := P5.lt
  have lt_F15 := F15.lt
  have HS := Lib.hid (fun (u : World) (hu : Below (V7.heap.size) V7 u) => (⟨(hu.cell (p := ⟨w.heap.size, 0, none⟩) (by show w.heap.size < _; omega)).trans PA.c0, (hu.cell (p := ⟨w.heap.size, 1, none⟩) (by show w.heap.size < _; omega)).trans PA.c1, (hu.cell (p := ⟨w.heap.size, 2, none⟩) (by show w.heap.size < _; omega)).trans PA.c2, (hu.cell (p := ⟨w.heap.size, 3, none⟩) (by show w.heap.size < _; omega)).trans PA.c3, (hu.cell (p := ⟨w1.heap.size, 0, none⟩) (by show w1.heap.size < _; omega)).trans P5.c0, (hu.cell (p := ⟨w1.heap.size, 1, none⟩) (by show w1.heap.size < _; omega)).trans P5.c1, (hu.cell (p := ⟨w6.heap.size, 0, none⟩) (by show w6.heap.size < _; omega)).trans F15.c0, (hu.cell (p := ⟨w6.heap.size, 1, none⟩) (by show w6.heap.size < _; omega)).trans F15.c1⟩ : u.cell? ⟨w.heap.size, 0, none⟩ = some (.bool a.num.neg) ∧ u.cell? ⟨w.heap.size, 1, none⟩ = some (.slice a.num.A a.num.n a.num.c) ∧ u.cell? ⟨w.heap.size, 2, none⟩ = some (.bool a.den.neg) ∧ u.cell? ⟨w.heap.size, 3, none⟩ = some (.slice a.den.A a.den.n a.den.c) ∧ u.cell? ⟨w1.heap.size, 0, none⟩ = some (.int .i64 6) ∧ u.cell? ⟨w1.heap.size, 1, none⟩ = some (.int .i64 f2) ∧ u.cell? ⟨w6.heap.size, 0, none⟩ = some (.int .i64 6) ∧ u.cell? ⟨w6.heap.size, 1, none⟩ = some (.int .i64 f2)))
  have G0 : Below V7.heap.size V7 V7.drew := Below.drew (Below.refl _ _)
  have g0s := G0.size
  have G0m : Below (V7.heap.size) V7 V7.drew := G0.mono (by omega)
  go_region_held3 (fun u => u.cell? ⟨w.heap.size, 0, none⟩ = some (.bool a.num.neg) ∧ u.cell? ⟨w.heap.size, 1, none⟩ = some (.slice a.num.A a.num.n a.num.c) ∧ u.cell? ⟨w.heap.size, 2, none⟩ = some (.bool a.den.neg) ∧ u.cell? ⟨w.heap.size, 3, none⟩ = some (.slice a.den.A a.den.n a.den.c) ∧ u.cell? ⟨w1.heap.size, 0, none⟩ = some (.int .i64 6) ∧ u.cell? ⟨w1.heap.size, 1, none⟩ = some (.int .i64 f2) ∧ u.cell? ⟨w6.heap.size, 0, none⟩ = some (.int .i64 6) ∧ u.cell? ⟨w6.heap.size, 1, none⟩ = some (.int .i64 f2)) (first | (refine HS.out _ ?_; (repeat (first | with_reducible exact G0m | with_reducible exact BN.mono (by omega) | with_reducible exact B2.mono (by omega) | with_reducible exact B1.mono (by omega) | with_reducible exact Below.refl _ _ | with_reducible refine Below.drew ?_ | with_reducible refine below_drewN ?_ _ | with_reducible refine Below.setCell ?_ (by first | (simp; done) | (simp; omega) | omega) _)); done) | fail)
    (first
      | (go_at_call 14; (with_reducible refine (parts_any _).mono ?_); rintro e u1 ⟨rfl, hb1⟩; have B1 : Below V7.heap.size V7 u1 := bnext G0 hb1; have b1s := B1.size)
      | (go_at_call 15; (with_reducible refine (rvalid_any _ u1.heap.size a (rv_at ((Ha1.below B1 (by omega)).more (by omega)) ((Ha2.below B1 (by omega)).more (by omega))) (Nat.le_refl _)).mono ?_); rintro e u2 ⟨rfl, hb2⟩; have B2 : Below V7.heap.size V7 u2 := bnext B1 hb2; have b2s := B2.size; rw [oz.out])
      | (go_at_call 16; (with_reducible refine (rok_any _ u2.heap.size a (rv_at ((Ha1.below B2 (by omega)).more (by omega)) ((Ha2.below B2 (by omega)).more (by omega))) (Nat.le_refl _)).mono ?_); rintro e u3 ⟨rfl, hb3⟩; have BN : Below V7.heap.size V7 u3 := bnext B2 hb3; have b3s := BN.size; rw [oz.out])
      | fail)
  clear HS G0 g0s G0m
  replace E := E.trans (BN.mono E.size)
  replace Ha1 := Ha1.below BN (by omega)
  replace Ha2 := Ha2.below BN (by omega)
  replace Hb1 := Hb1.below BN (by omega)
  replace Hb2 := Hb2.below BN (by omega)
  replace PA := PA.below BN PA.lt
  replace PB := PB.below BN PB.lt
  replace P5 := P5.below BN P5.lt
  replace R1 := R1.below BN R1.lt
  replace F1 := F1.below BN F1.lt
  replace R2 := R2.below BN R2.lt
  replace F2 := F2.below BN F2.lt
  replace R3 := R3.below BN R3.lt
  replace F3 := F3.below BN F3.lt
  replace R4 := R4.below BN R4.lt
  replace F4 := F4.below BN F4.lt
  replace F15 := F15.below BN F15.lt
  have t_P50 := P5.c0
  have t_P51 := P5.c1
  have t_R10 := R1.c0
  have t_R11 := R1.c1
  have t_R12 := R1.c2
  have t_R13 := R1.c3
  have t_F10 := F1.c0
  have t_F11 := F1.c1
  go_wp2_with fail
  clear t_P50 t_P51 t_R10 t_R11 t_R12 t_R13 t_F10 t_F11
  (with_reducible refine (gives_f6 _ A1 D1 c1 d1 (QV.mk false none 0 0 [] none 0 0 []) f2).mono ?_)
  rintro e w11 ⟨rfl, hb11⟩
  have sw11 := hb11.size
  replace E := E.trans (hb11.mono E.size)
  replace Ha1 := Ha1.below hb11 (by omega)
  replace Ha2 := Ha2.below hb11 (by omega)
  replace Hb1 := Hb1.below hb11 (by omega)
  replace Hb2 := Hb2.below hb11 (by omega)
  replace PA := PA.below hb11 PA.lt
  replace PB := PB.below hb11 PB.lt
  replace P5 := P5.below hb11 P5.lt
  replace R1 := R1.below hb11 R1.lt
  replace F1 := F1.below hb11 F1.lt
  replace R2 := R2.below hb11 R2.lt
  replace F2 := F2.below hb11 F2.lt
  replace R3 := R3.below hb11 R3.lt
  replace F3 := F3.below hb11 F3.lt
  replace R4 := R4.below hb11 R4.lt
  replace F4 := F4.below hb11 F4.lt
  replace F15 := F15.below hb11 F15.lt
  clear hb11
  have t_P50 := P5.c0
  have t_P51 := P5.c1
  have t_R20 := R2.c0
  have t_R21 := R2.c1
  have t_R22 := R2.c2
  have t_R23 := R2.c3
  have t_F20 := F2.c0
  have t_F21 := F2.c1
  go_wp2_with fail
  clear t_P50 t_P51 t_R20 t_R21 t_R22 t_R23 t_F20 t_F21
  (with_reducible refine (gives_f6 _ A2 D2 c2 d2 (QV.mk false none 0 0 [] none 0 0 []) f2).mono ?_)
  rintro e w12 ⟨rfl, hb12⟩
  have sw12 := hb12.size
  replace E := E.trans (hb12.mono E.size)
  replace Ha1 := Ha1.below hb12 (by omega)
  replace Ha2 := Ha2.below hb12 (by omega)
  replace Hb1 := Hb1.below hb12 (by omega)
  replace Hb2 := Hb2.below hb12 (by omega)
  replace PA := PA.below hb12 PA.lt
  replace PB := PB.below hb12 PB.lt
  replace P5 := P5.below hb12 P5.lt
  replace R1 := R1.below hb12 R1.lt
  replace F1 := F1.below hb12 F1.lt
  replace R2 := R2.below hb12 R2.lt
  replace F2 := F2.below hb12 F2.lt
  replace R3 := R3.below hb12 R3.lt
  replace F3 := F3.below hb12 F3.lt
  replace R4 := R4.below hb12 R4.lt
  replace F4 := F4.below hb12 F4.lt
  replace F15 := F15.below hb12 F15.lt
  clear hb12
  have t_P50 := P5.c0
  have t_P51 := P5.c1
  have t_R30 := R3.c0
  have t_R31 := R3.c1
  have t_R32 := R3.c2
  have t_R33 := R3.c3
  have t_F30 := F3.c0
  have t_F31 := F3.c1
  go_wp2_with fail
  clear t_P50 t_P51 t_R30 t_R31 t_R32 t_R33 t_F30 t_F31
  (with_reducible refine (gives_f6 _ A3 D3 c3 d3 (QV.mk false none 0 0 [] none 0 0 []) f2).mono ?_)
  rintro e w13 ⟨rfl, hb13⟩
  have sw13 := hb13.size
  replace E := E.trans (hb13.mono E.size)
  replace Ha1 := Ha1.below hb13 (by omega)
  replace Ha2 := Ha2.below hb13 (by omega)
  replace Hb1 := Hb1.below hb13 (by omega)
  replace Hb2 := Hb2.below hb13 (by omega)
  replace PA := PA.below hb13 PA.lt
  replace PB := PB.below hb13 PB.lt
  replace P5 := P5.below hb13 P5.lt
  replace R1 := R1.below hb13 R1.lt
  replace F1 := F1.below hb13 F1.lt
  replace R2 := R2.below hb13 R2.lt
  replace F2 := F2.below hb13 F2.lt
  replace R3 := R3.below hb13 R3.lt
  replace F3 := F3.below hb13 F3.lt
  replace R4 := R4.below hb13 R4.lt
  replace F4 := F4.below hb13 F4.lt
  replace F15 := F15.below hb13 F15.lt
  clear hb13
  have t_P50 := P5.c0
  have t_P51 := P5.c1
  have t_R40 := R4.c0
  have t_R41 := R4.c1
  have t_R42 := R4.c2
  have t_R43 := R4.c3
  have t_F40 := F4.c0
  have t_F41 := F4.c1
  go_wp2_with fail
  clear t_P50 t_P51 t_R40 t_R41 t_R42 t_R43 t_F40 t_F41
  (with_reducible refine (gives_f6 _ A4 D4 c4 d4 (QV.mk false none 0 0 [] none 0 0 []) f2).mono ?_)
  rintro e w14 ⟨rfl, hb14⟩
  have sw14 := hb14.size
  replace E := E.trans (hb14.mono E.size)
  replace Ha1 := Ha1.below hb14 (by omega)
  replace Ha2 := Ha2.below hb14 (by omega)
  replace Hb1 := Hb1.below hb14 (by omega)
  replace Hb2 := Hb2.below hb14 (by omega)
  replace PA := PA.below hb14 PA.lt
  replace PB := PB.below hb14 PB.lt
  replace P5 := P5.below hb14 P5.lt
  replace R1 := R1.below hb14 R1.lt
  replace F1 := F1.below hb14 F1.lt
  replace R2 := R2.below hb14 R2.lt
  replace F2 := F2.below hb14 F2.lt
  replace R3 := R3.below hb14 R3.lt
  replace F3 := F3.below hb14 F3.lt
  replace R4 := R4.below hb14 R4.lt
  replace F4 := F4.below hb14 F4.lt
  replace F15 := F15.below hb14 F15.lt
  clear hb14
  go_wp2_with fail
  go_ret
  exact ⟨rfl, E⟩
end Go.Proofs.YtdhdkknaagadaaaGreat
