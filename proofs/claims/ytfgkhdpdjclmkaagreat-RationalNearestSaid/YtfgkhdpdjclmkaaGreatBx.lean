/- Two ratios of the reference in two blocks. NoRatio of a ratio of zeros; gives of the laws. Results of operations on ratios, too large ones among them. -/
import Derived.Test.YtfgkhdpdjclmkaaGreatBw
import Derived.Deep.DeepCutAuto
import Derived.Test.YtfgkhdpdjclmkaaGreatBs
namespace Go.Proofs.YtfgkhdpdjclmkaaGreat
open Go.RowKit
set_option maxHeartbeats 400000
set_option maxRecDepth 100000
set_option linter.unusedSimpArgs false
set_option linter.unusedVariables false

theorem n3 {w w' : World} (h : Below (w.alloc (.cells #[.bool false, .slice none 0 0, .slice none 0 0] 42)).heap.size (w.alloc (.cells #[.bool false, .slice none 0 0, .slice none 0 0] 42)) w') : Bk3 w' w.heap.size (.bool false) (.slice none 0 0) (.slice none 0 0) := (Bk3.newAt w w.heap.size rfl _ _ _ _).below h (by simp)
theorem QV.at.alloc {u : World} {q : QV} (H : q.at u u.heap.size) (o : Obj) : q.at (u.alloc o) (u.alloc o).heap.size := ⟨DRd.more (DRd.alloc H.1 (Nat.le_refl _) _) (by simp), DRd.more (DRd.alloc H.2 (Nat.le_refl _) _) (by simp)⟩
theorem QV.at.set3 {u : World} {q : QV} {g n k c d : Nat} {b : Bool} {A D : Option Addr} (H : q.at u u.heap.size) (G : Bk3 u g (.bool b) (.slice A n c) (.slice D k d)) (x y z : Value) : q.at (((u.setCell ⟨g, 0, none⟩ x).setCell ⟨g, 1, none⟩ y).setCell ⟨g, 2, none⟩ z) (((u.setCell ⟨g, 0, none⟩ x).setCell ⟨g, 1, none⟩ y).setCell ⟨g, 2, none⟩ z).heap.size := ⟨DRd.set3k H.1 (Nat.le_refl _) G.c0 G.c1 G.c2, DRd.set3k H.2 (Nat.le_refl _) G.c0 G.c1 G.c2⟩
theorem Bk3.far33 {w : World} {g k : Nat} {u v x : Value} (h : Bk3 w g u v x) (hk : k ≠ g) (a b c : Value) : Bk3 (((w.setCell ⟨k, 0, none⟩ a).setCell ⟨k, 1, none⟩ b).setCell ⟨k, 2, none⟩ c) g u v x := by
  obtain ⟨h0, h1, h2, z0, z1, z2, lt⟩ := h
  have hk' : ¬ g = k := fun h => hk h.symm
  constructor <;> simp [go_sem, h0, h1, h2, z0, z1, z2, lt, hk, hk']
theorem Bk3.put {w : World} {g : Nat} {u v x : Value} (h : Bk3 w g u v x) (a b c : Value) : Bk3 (((w.setCell ⟨g, 0, none⟩ a).setCell ⟨g, 1, none⟩ b).setCell ⟨g, 2, none⟩ c) g a b c := by
  obtain ⟨h0, h1, h2, z0, z1, z2, lt⟩ := h
  constructor <;> simp [go_sem, h0, h1, h2, z0, z1, z2, lt]
section
variable {V u : World} {x1 y1 : Int} {x2 y2 g h : Nat} {p q : QV} (H1 : p.at u u.heap.size) (H2 : q.at u u.heap.size) (I1 : Hid (p.is x1 x2)) (I2 : Hid (q.is y1 y2)) (b : Below V.heap.size V u)
include H1 H2 I1 I2 b
end
set_option maxHeartbeats 4000000 in
theorem noRatio_zero (w : World) (A D : Option Addr) (c d : Nat) :
    Calls Tryz.prog 36 #[ratv false A 0 c false D 0 d] w (fun e w' => e = .returned (.bool true) ∧ Below w.heap.size w w') := by
  have E : Below w.heap.size w w := Below.refl _ _
  go_enter Tryz.func36, Tryz.ntmps36
  go_upto_region 1 with fail
  obtain ⟨V0, hV0⟩ : ∃ V0 : World, V0 = (w.alloc (.cells #[.bool false, .slice A 0 c, .bool false, .slice D 0 d] 26)) := ⟨_, rfl⟩
  have bV0 : Below w.heap.size w V0 := by rw [hV0]; (repeat (first | with_reducible exact Below.refl _ _ | with_reducible refine Below.alloc ?_ (by first | (simp <;> omega) | omega) _))
  have zV0 : w.heap.size + 1 ≤ V0.heap.size := by rw [hV0]; simp
  have PA : Bk4 V0 (w.heap.size) (.bool false) (.slice A 0 c) (.bool false) (.slice D 0 d) := by rw [hV0]; exact (Bk4.newAt _ _ (by first | omega | (simp; done) | (simp; omega)) _ _ _ _ _)
  rw [← hV0]
  clear hV0
  replace E := E.trans (bV0.mono E.size)
  clear bV0
  have t_PA0 := PA.c0
  have t_PA1 := PA.c1
  have t_PA2 := PA.c2
  have t_PA3 := PA.c3
  go_wp2_with fail
  clear t_PA0 t_PA1 t_PA2 t_PA3
  (with_reducible refine (noInt_any _ false A 0 c (by omega)).mono ?_)
  rintro e w1 ⟨rfl, hb1⟩
  have sw1 := hb1.size
  replace E := E.trans (hb1.mono E.size)
  replace PA := PA.below hb1 PA.lt
  clear hb1
  rw [show (!false && decide ((0 : Nat) = 0)) = true from rfl]
  have t_PA0 := PA.c0
  have t_PA1 := PA.c1
  have t_PA2 := PA.c2
  have t_PA3 := PA.c3
  go_wp2_with fail
  clear t_PA0 t_PA1 t_PA2 t_PA3
  (with_reducible refine (noInt_any _ false D 0 d (by omega)).mono ?_)
  rintro e w2 ⟨rfl, hb2⟩
  have sw2 := hb2.size
  replace E := E.trans (hb2.mono E.size)
  replace PA := PA.below hb2 PA.lt
  clear hb2
  rw [show (!false && decide ((0 : Nat) = 0)) = true from rfl]
  go_wp2_with fail
  go_ret
  exact ⟨rfl, E⟩
set_option maxHeartbeats 4000000 in
theorem gives_f4 (w : World) (A D : Option Addr) (c d : Nat) (q : QV) (j : Int) :
    Calls Tryz.prog 17 #[ratv false A 0 c false D 0 d, flt 4 j, q.v, flt 4 j] w (fun e w' => e = .returned (.bool true) ∧ Below w.heap.size w w') := by
  have E : Below w.heap.size w w := Below.refl _ _
  go_enter Tryz.func17, Tryz.ntmps17
  go_upto_region 1 with fail
  obtain ⟨V0, hV0⟩ : ∃ V0 : World, V0 = ((((w.alloc (.cells #[.bool false, .slice A 0 c, .bool false, .slice D 0 d] 26)).alloc (.cells #[.int .i64 4, .int .i64 j] 28)).alloc (.cells #[.bool q.m, .slice q.A q.n q.c, .slice q.D q.k q.d] 42)).alloc (.cells #[.int .i64 4, .int .i64 j] 28)) := ⟨_, rfl⟩
  have bV0 : Below w.heap.size w V0 := by rw [hV0]; (repeat (first | with_reducible exact Below.refl _ _ | with_reducible refine Below.alloc ?_ (by first | (simp <;> omega) | omega) _))
  have zV0 : w.heap.size + 4 ≤ V0.heap.size := by rw [hV0]; simp
  have PA : Bk4 V0 (w.heap.size) (.bool false) (.slice A 0 c) (.bool false) (.slice D 0 d) := by rw [hV0]; exact ((((Bk4.newAt _ _ (by first | omega | (simp; done) | (simp; omega)) _ _ _ _ _).alloc _).alloc _).alloc _)
  have PF : Bk2 V0 (w.heap.size + 1) (.int .i64 4) (.int .i64 j) := by rw [hV0]; exact (((Bk2.newAt _ _ (by first | omega | (simp; done) | (simp; omega)) _ _ _).alloc _).alloc _)
  have PQ : Bk3 V0 (w.heap.size + 2) (.bool q.m) (.slice q.A q.n q.c) (.slice q.D q.k q.d) := by rw [hV0]; exact ((Bk3.newAt _ _ (by first | omega | (simp; done) | (simp; omega)) _ _ _ _).alloc _)
  have PW : Bk2 V0 (w.heap.size + 3) (.int .i64 4) (.int .i64 j) := by rw [hV0]; exact (Bk2.newAt _ _ (by first | omega | (simp; done) | (simp; omega)) _ _ _)
  rw [← hV0]
  clear hV0
  replace E := E.trans (bV0.mono E.size)
  clear bV0
  have t_PW0 := PW.c0
  have t_PW1 := PW.c1
  have t_PF0 := PF.c0
  have t_PF1 := PF.c1
  have t_PA0 := PA.c0
  have t_PA1 := PA.c1
  have t_PA2 := PA.c2
  have t_PA3 := PA.c3
  go_wp2_with fail
  clear t_PW0 t_PW1 t_PF0 t_PF1 t_PA0 t_PA1 t_PA2 t_PA3
  (with_reducible refine (noRatio_zero _ A D c d).mono ?_)
  rintro e w1 ⟨rfl, hb1⟩
  have sw1 := hb1.size
  replace PQ := PQ.below hb1 PQ.lt
  replace E := E.trans (hb1.mono E.size)
  replace PA := PA.below hb1 PA.lt
  replace PF := PF.below hb1 PF.lt
  replace PW := PW.below hb1 PW.lt
  clear hb1
  go_wp2_with fail
  go_ret
  exact ⟨rfl, E⟩
set_option maxHeartbeats 4000000 in
theorem gives_f6 (w : World) (A D : Option Addr) (c d : Nat) (q : QV) (j : Int) :
    Calls Tryz.prog 17 #[ratv false A 0 c false D 0 d, flt 6 j, q.v, flt 6 j] w (fun e w' => e = .returned (.bool true) ∧ Below w.heap.size w w') := by
  have E : Below w.heap.size w w := Below.refl _ _
  go_enter Tryz.func17, Tryz.ntmps17
  go_upto_region 1 with fail
  obtain ⟨V0, hV0⟩ : ∃ V0 : World, V0 = ((((w.alloc (.cells #[.bool false, .slice A 0 c, .bool false, .slice D 0 d] 26)).alloc (.cells #[.int .i64 6, .int .i64 j] 28)).alloc (.cells #[.bool q.m, .slice q.A q.n q.c, .slice q.D q.k q.d] 42)).alloc (.cells #[.int .i64 6, .int .i64 j] 28)) := ⟨_, rfl⟩
  have bV0 : Below w.heap.size w V0 := by rw [hV0]; (repeat (first | with_reducible exact Below.refl _ _ | with_reducible refine Below.alloc ?_ (by first | (simp <;> omega) | omega) _))
  have zV0 : w.heap.size + 4 ≤ V0.heap.size := by rw [hV0]; simp
  have PA : Bk4 V0 (w.heap.size) (.bool false) (.slice A 0 c) (.bool false) (.slice D 0 d) := by rw [hV0]; exact ((((Bk4.newAt _ _ (by first | omega | (simp; done) | (simp; omega)) _ _ _ _ _).alloc _).alloc _).alloc _)
  have PF : Bk2 V0 (w.heap.size + 1) (.int .i64 6) (.int .i64 j) := by rw [hV0]; exact (((Bk2.newAt _ _ (by first | omega | (simp; done) | (simp; omega)) _ _ _).alloc _).alloc _)
  have PQ : Bk3 V0 (w.heap.size + 2) (.bool q.m) (.slice q.A q.n q.c) (.slice q.D q.k q.d) := by rw [hV0]; exact ((Bk3.newAt _ _ (by first | omega | (simp; done) | (simp; omega)) _ _ _ _).alloc _)
  have PW : Bk2 V0 (w.heap.size + 3) (.int .i64 6) (.int .i64 j) := by rw [hV0]; exact (Bk2.newAt _ _ (by first | omega | (simp; done) | (simp; omega)) _ _ _)
  rw [← hV0]
  clear hV0
  replace E := E.trans (bV0.mono E.size)
  clear bV0
  have t_PW0 := PW.c0
  have t_PW1 := PW.c1
  have t_PF0 := PF.c0
  have t_PF1 := PF.c1
  have t_PA0 := PA.c0
  have t_PA1 := PA.c1
  have t_PA2 := PA.c2
  have t_PA3 := PA.c3
  go_wp2_with fail
  clear t_PW0 t_PW1 t_PF0 t_PF1 t_PA0 t_PA1 t_PA2 t_PA3
  (with_reducible refine (noRatio_zero _ A D c d).mono ?_)
  rintro e w1 ⟨rfl, hb1⟩
  have sw1 := hb1.size
  replace PQ := PQ.below hb1 PQ.lt
  replace E := E.trans (hb1.mono E.size)
  replace PA := PA.below hb1 PA.lt
  replace PF := PF.below hb1 PF.lt
  replace PW := PW.below hb1 PW.lt
  clear hb1
  go_wp2_with fail
  go_ret
  exact ⟨rfl, E⟩
set_option maxHeartbeats 4000000 in
theorem gives_ok (w : World) (B : Nat) (r : RV) (q : QV) (v1 v2 : Nat) (z1 z2 : Int) (H : r.at w B) (HQ : q.at w B) (hB : B ≤ w.heap.size) (I1 : Hid (IRep r.num.neg r.num.xs z1)) (I2 : Hid (IRep r.den.neg r.den.xs z2)) (R1 : Hid (Rep 65536 q.xs v1)) (R2 : Hid (Rep 65536 q.ys v2)) (S1 : Hid (sval q.m v1 = z1)) (S2 : Hid (sval false v2 = z2)) (hn : q.n ≤ 256) (hk : q.k ≤ 256) :
    Calls Tryz.prog 17 #[r.v, flt 0 0, q.v, flt 0 0] w (fun e w' => e = .returned (.bool true) ∧ Below w.heap.size w w') := by
  have hfit : (decide (q.n ≤ 256) && decide (q.k ≤ 256)) = true := by rw [decide_eq_true hn, decide_eq_true hk]; rfl
  have HR1 : LRd w B r.num.A r.num.n r.num.c r.num.xs := H.1
  have HR2 : LRd w B r.den.A r.den.n r.den.c r.den.xs := H.2
  have HQ1 : DRd w B q.A q.n q.c q.xs := HQ.1
  have HQ2 : DRd w B q.D q.k q.d q.ys := HQ.2
  clear H HQ
  have E : Below w.heap.size w w := Below.refl _ _
  go_enter Tryz.func17, Tryz.ntmps17
  go_upto_region 1 with fail
  obtain ⟨V0, hV0⟩ : ∃ V0 : World, V0 = ((((w.alloc (.cells #[.bool r.num.neg, .slice r.num.A r.num.n r.num.c, .bool r.den.neg, .slice r.den.A r.den.n r.den.c] 26)).alloc (.cells #[.int .i64 0, .int .i64 0] 28)).alloc (.cells #[.bool q.m, .slice q.A q.n q.c, .slice q.D q.k q.d] 42)).alloc (.cells #[.int .i64 0, .int .i64 0] 28)) := ⟨_, rfl⟩
  have bV0 : Below w.heap.size w V0 := by rw [hV0]; (repeat (first | with_reducible exact Below.refl _ _ | with_reducible refine Below.alloc ?_ (by first | (simp <;> omega) | omega) _))
  have zV0 : w.heap.size + 4 ≤ V0.heap.size := by rw [hV0]; simp
  have PA : Bk4 V0 (w.heap.size) (.bool r.num.neg) (.slice r.num.A r.num.n r.num.c) (.bool r.den.neg) (.slice r.den.A r.den.n r.den.c) := by rw [hV0]; exact ((((Bk4.newAt _ _ (by first | omega | (simp; done) | (simp; omega)) _ _ _ _ _).alloc _).alloc _).alloc _)
  have PF : Bk2 V0 (w.heap.size + 1) (.int .i64 0) (.int .i64 0) := by rw [hV0]; exact (((Bk2.newAt _ _ (by first | omega | (simp; done) | (simp; omega)) _ _ _).alloc _).alloc _)
  have PQ : Bk3 V0 (w.heap.size + 2) (.bool q.m) (.slice q.A q.n q.c) (.slice q.D q.k q.d) := by rw [hV0]; exact ((Bk3.newAt _ _ (by first | omega | (simp; done) | (simp; omega)) _ _ _ _).alloc _)
  have PW : Bk2 V0 (w.heap.size + 3) (.int .i64 0) (.int .i64 0) := by rw [hV0]; exact (Bk2.newAt _ _ (by first | omega | (simp; done) | (simp; omega)) _ _ _)
  rw [← hV0]
  clear hV0
  replace E := E.trans (bV0.mono E.size)
  replace HR1 := HR1.below bV0 (by omega)
  replace HR2 := HR2.below bV0 (by omega)
  replace HQ1 := HQ1.below bV0 (by omega)
  replace HQ2 := HQ2.below bV0 (by omega)
  clear bV0
  have t_PW0 := PW.c0
  have t_PW1 := PW.c1
  have t_PQ0 := PQ.c0
  have t_PQ1 := PQ.c1
  have t_PQ2 := PQ.c2
  go_wp2_with fail
  clear t_PW0 t_PW1 t_PQ0 t_PQ1 t_PQ2
  (with_reducible refine (qfits_v _ q (by omega) (by omega)).mono ?_)
  rintro e w1 ⟨rfl, hb1⟩
  have sw1 := hb1.size
  replace PQ := PQ.below hb1 PQ.lt
  replace E := E.trans (hb1.mono E.size)
  replace HR1 := HR1.below hb1 (by omega)
  replace HR2 := HR2.below hb1 (by omega)
  replace HQ1 := HQ1.below hb1 (by omega)
  replace HQ2 := HQ2.below hb1 (by omega)
  replace PA := PA.below hb1 PA.lt
  replace PF := PF.below hb1 PF.lt
  replace PW := PW.below hb1 PW.lt
  clear hb1
  rw [hfit]
  have t_PW0 := PW.c0
  have t_PW1 := PW.c1
  have t_PF0 := PF.c0
  have t_PF1 := PF.c1
  have t_PA0 := PA.c0
  have t_PA1 := PA.c1
  have t_PA2 := PA.c2
  have t_PA3 := PA.c3
  have t_PQ0 := PQ.c0
  have t_PQ1 := PQ.c1
  have t_PQ2 := PQ.c2
  go_wp2_with fail
  clear t_PW0 t_PW1 t_PF0 t_PF1 t_PA0 t_PA1 t_PA2 t_PA3 t_PQ0 t_PQ1 t_PQ2
  (with_reducible refine (sameRatio_any _ B r q.m q.A q.D q.n q.c q.k q.d v1 v2 z1 z2 q.xs q.ys (rv_at HR1 HR2) HQ1 HQ2 (by omega) I1 I2 R1 R2 S1 S2 (by omega) (by omega)).mono ?_)
  rintro e w2 ⟨rfl, hb2⟩
  have sw2 := hb2.size
  replace PQ := PQ.below hb2 PQ.lt
  replace E := E.trans (hb2.mono E.size)
  replace HR1 := HR1.below hb2 (by omega)
  replace HR2 := HR2.below hb2 (by omega)
  replace HQ1 := HQ1.below hb2 (by omega)
  replace HQ2 := HQ2.below hb2 (by omega)
  replace PA := PA.below hb2 PA.lt
  replace PF := PF.below hb2 PF.lt
  replace PW := PW.below hb2 PW.lt
  clear hb2
  go_wp2_with fail
  go_ret
  exact ⟨rfl, E⟩
section
variable (w : World) (B : Nat) (a b : RV) (H1 : a.at w B) (H2 : b.at w B) (hB : B ≤ w.heap.size) (oa : a.ok = true) (ob : b.ok = true)
include H1 H2 hB oa ob
end
end Go.Proofs.YtfgkhdpdjclmkaaGreat
