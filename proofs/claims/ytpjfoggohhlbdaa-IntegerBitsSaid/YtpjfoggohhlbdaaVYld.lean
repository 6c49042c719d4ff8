/- The law's yields. -/
import Derived.Test.YtpjfoggohhlbdaaVInt20
import Derived.Test.YtpjfoggohhlbdaaVl
import Derived.Laws.StructEq
namespace Go.Proofs.Ytpjfoggohhlbdaa
open Go.RowKit
set_option maxHeartbeats 400000
set_option maxRecDepth 100000
set_option linter.unusedSimpArgs false
set_option linter.unusedVariables false

theorem DRd.setFar2 {w : World} {B n c g : Nat} {A : Option Addr} {xs : List Nat} (h : DRd w B A n c xs) (hg : B ≤ g) (x y : Value) : DRd ((w.setCell ⟨g, 0, none⟩ x).setCell ⟨g, 1, none⟩ y) B A n c xs :=
  h.keep fun p hp => by
    rw [World.cell?_setCell_other _ _ _ _ (fun e => by rw [← e] at hp; simp at hp; omega), World.cell?_setCell_other _ _ _ _ (fun e => by rw [← e] at hp; simp at hp; omega)]
theorem LRd.setFar2 {w : World} {B n c g : Nat} {A : Option Addr} {xs : List Nat} (h : LRd w B A n c xs) (hg : B ≤ g) (x y : Value) : LRd ((w.setCell ⟨g, 0, none⟩ x).setCell ⟨g, 1, none⟩ y) B A n c xs :=
  h.keep fun p hp => by
    rw [World.cell?_setCell_other _ _ _ _ (fun e => by rw [← e] at hp; simp at hp; omega), World.cell?_setCell_other _ _ _ _ (fun e => by rw [← e] at hp; simp at hp; omega)]
theorem top_256 : ∀ {m k : Nat}, m = 128 → k = 256 → 4294967296 ^ m = 65536 ^ k := by
  intro m k hm hk
  have e : k = 2 * m := by omega
  rw [e, Nat.pow_mul]
theorem fits_len {zs : List Nat} {v k : Nat} (h : Rep 65536 zs v) (hl : zs.length = k) (hv : v < Top128) : k ≤ 256 := by
  obtain ⟨m, hm⟩ : ∃ m, m = 128 := ⟨_, rfl⟩
  obtain ⟨j, hj⟩ : ∃ j, j = 256 := ⟨_, rfl⟩
  rw [top128 hm, top_256 hm hj] at hv
  have := h.length_le (by decide) hv
  omega
theorem fits_len' {zs : List Nat} {v k : Nat} (h : Rep 65536 zs v) (hl : zs.length = k) (hv : Top128 ≤ v) : 256 < k := by
  obtain ⟨m, hm⟩ : ∃ m, m = 128 := ⟨_, rfl⟩
  obtain ⟨j, hj⟩ : ∃ j, j = 256 := ⟨_, rfl⟩
  rw [top128 hm, top_256 hm hj] at hv
  rcases Nat.lt_or_ge 256 k with e | e
  · exact e
  · exfalso
    have h1 := h.lt_pow (by decide)
    have h2 : 65536 ^ zs.length ≤ 65536 ^ j := Nat.pow_le_pow_right (by decide) (by omega)
    omega
set_option maxHeartbeats 1000000 in
theorem yields_fit (w : World) (B : Nat) (a : IV) (m : Bool) (D : Option Addr) (k d v : Nat) (zs : List Nat) (z : Int) (HA : LRd w B a.A a.n a.c a.xs) (HD : DRd w B D k d zs) (hB : B ≤ w.heap.size) (hI : IRep a.neg a.xs z) (hz : Rep 65536 zs v) (hv : sval m v = z) (hk : k ≤ 100000) (ht : z.natAbs < Top128) :
    Calls Try.prog 30 #[a.v, flt 0 0, intv m D k d, flt 0 0] w (fun e w' => e = .returned (.bool true) ∧ Below w.heap.size w w') := by
  have HI := Lib.hid hI
  have HZ := Lib.hid hz
  have HV := Lib.hid hv
  have HT := Lib.hid ht
  clear hI hz hv ht
  have E : Below w.heap.size w w := Below.refl _ _
  go_enter Try.func30, Try.ntmps30
  go_wp2_with fail
  obtain ⟨V0, hV0⟩ : ∃ V0 : World, V0 = ((((w.alloc (.cells #[.bool a.neg, .slice a.A a.n a.c] 24)).alloc (.cells #[.int .i64 0, .int .i64 0] 26)).alloc (.cells #[.bool m, .slice D k d] 37)).alloc (.cells #[.int .i64 0, .int .i64 0] 26)) := ⟨_, rfl⟩
  have bV0 : Below w.heap.size w V0 := by rw [hV0]; (repeat (first | with_reducible exact Below.refl _ _ | with_reducible refine Below.drew ?_ | with_reducible refine below_drewN ?_ _ | with_reducible refine Below.setCell ?_ (by first | (simp; done) | (simp; omega) | omega) _ | with_reducible refine Below.alloc ?_ (by first | (simp; done) | (simp; omega) | omega) _))
  have zV0 : w.heap.size + 4 ≤ V0.heap.size := by rw [hV0]; simp
  have PA : Bk2 V0 (w.heap.size) (.bool a.neg) (.slice a.A a.n a.c) := by rw [hV0]; exact ((((Bk2.newAt _ _ (by simp) _ _ _).alloc _).alloc _).alloc _)
  have PF : Bk2 V0 (w.heap.size + 1) (.int .i64 0) (.int .i64 0) := by rw [hV0]; exact (((Bk2.newAt _ _ (by simp) _ _ _).alloc _).alloc _)
  have PW : Bk2 V0 (w.heap.size + 2) (.bool m) (.slice D k d) := by rw [hV0]; exact ((Bk2.newAt _ _ (by simp) _ _ _).alloc _)
  have PG : Bk2 V0 (w.heap.size + 3) (.int .i64 0) (.int .i64 0) := by rw [hV0]; exact (Bk2.newAt _ _ (by simp) _ _ _)
  rw [← hV0]
  clear hV0
  have E : Below w.heap.size w V0 := E.trans (bV0.mono E.size)
  have HA : LRd V0 (B) a.A a.n a.c a.xs := HA.below bV0 (by omega)
  have HD : DRd V0 (B) D k d zs := HD.below bV0 (by omega)
  clear bV0
  (with_reducible refine (fits_any _ m D k d (by omega)).mono ?_)
  rintro e w1 ⟨rfl, hb1⟩
  have sw1 := hb1.size
  have E : Below w.heap.size w w1 := E.trans (hb1.mono E.size)
  have HA : LRd w1 (B) a.A a.n a.c a.xs := HA.below hb1 (by omega)
  have HD : DRd w1 (B) D k d zs := HD.below hb1 (by omega)
  have PA : Bk2 w1 (w.heap.size) (.bool a.neg) (.slice a.A a.n a.c) := PA.below hb1 PA.lt
  have PF : Bk2 w1 (w.heap.size + 1) (.int .i64 0) (.int .i64 0) := PF.below hb1 PF.lt
  have PW : Bk2 w1 (w.heap.size + 2) (.bool m) (.slice D k d) := PW.below hb1 PW.lt
  have PG : Bk2 w1 (w.heap.size + 3) (.int .i64 0) (.int .i64 0) := PG.below hb1 PG.lt
  clear hb1
  rw [show decide (k ≤ 256) = true by simp [fits_len HZ.out HD.len.out (by rw [← abs_sval HV.out]; exact HT.out)]]
  have t_PG0 : w1.cell? ⟨w.heap.size + 3, 0, none⟩ = some ((.int .i64 0)) := PG.c0
  have t_PG1 : w1.cell? ⟨w.heap.size + 3, 1, none⟩ = some ((.int .i64 0)) := PG.c1
  have t_PF0 : w1.cell? ⟨w.heap.size + 1, 0, none⟩ = some ((.int .i64 0)) := PF.c0
  have t_PF1 : w1.cell? ⟨w.heap.size + 1, 1, none⟩ = some ((.int .i64 0)) := PF.c1
  have t_PA0 : w1.cell? ⟨w.heap.size, 0, none⟩ = some ((.bool a.neg)) := PA.c0
  have t_PA1 : w1.cell? ⟨w.heap.size, 1, none⟩ = some ((.slice a.A a.n a.c)) := PA.c1
  have t_PW0 : w1.cell? ⟨w.heap.size + 2, 0, none⟩ = some ((.bool m)) := PW.c0
  have t_PW1 : w1.cell? ⟨w.heap.size + 2, 1, none⟩ = some ((.slice D k d)) := PW.c1
  go_wp2_with fail
  clear t_PG0 t_PG1 t_PF0 t_PF1 t_PA0 t_PA1 t_PW0 t_PW1
  (with_reducible refine (sameInt_any _ B a.neg m a.A D a.n k a.c d v z a.xs zs HA HD (by omega) HI.out HZ.out HV.out hk).mono ?_)
  rintro e w2 ⟨rfl, hb2⟩
  have sw2 := hb2.size
  have E : Below w.heap.size w w2 := E.trans (hb2.mono E.size)
  have HA : LRd w2 (B) a.A a.n a.c a.xs := HA.below hb2 (by omega)
  have HD : DRd w2 (B) D k d zs := HD.below hb2 (by omega)
  have PA : Bk2 w2 (w.heap.size) (.bool a.neg) (.slice a.A a.n a.c) := PA.below hb2 PA.lt
  have PF : Bk2 w2 (w.heap.size + 1) (.int .i64 0) (.int .i64 0) := PF.below hb2 PF.lt
  have PW : Bk2 w2 (w.heap.size + 2) (.bool m) (.slice D k d) := PW.below hb2 PW.lt
  have PG : Bk2 w2 (w.heap.size + 3) (.int .i64 0) (.int .i64 0) := PG.below hb2 PG.lt
  clear hb2
  go_wp2_with fail
  all_goals go_ret
  all_goals exact ⟨by first | rfl | (simp; done), E⟩
set_option maxHeartbeats 1000000 in
theorem yields_big (w : World) (B : Nat) (a : IV) (m : Bool) (D : Option Addr) (k d v : Nat) (zs : List Nat) (z : Int) (HA : LRd w B a.A a.n a.c a.xs) (HD : DRd w B D k d zs) (hB : B ≤ w.heap.size) (hI : IRep a.neg a.xs 0) (hz : Rep 65536 zs v) (hv : sval m v = z) (hk : k ≤ 100000) (ht : Top128 ≤ z.natAbs) :
    Calls Try.prog 30 #[a.v, flt 14 (-1), intv m D k d, flt 0 0] w (fun e w' => e = .returned (.bool true) ∧ Below w.heap.size w w') := by
  have HI := Lib.hid hI
  have HZ := Lib.hid hz
  have HV := Lib.hid hv
  have HT := Lib.hid ht
  clear hI hz hv ht
  have E : Below w.heap.size w w := Below.refl _ _
  go_enter Try.func30, Try.ntmps30
  go_wp2_with fail
  obtain ⟨V0, hV0⟩ : ∃ V0 : World, V0 = ((((w.alloc (.cells #[.bool a.neg, .slice a.A a.n a.c] 24)).alloc (.cells #[.int .i64 14, .int .i64 (-1)] 26)).alloc (.cells #[.bool m, .slice D k d] 37)).alloc (.cells #[.int .i64 0, .int .i64 0] 26)) := ⟨_, rfl⟩
  have bV0 : Below w.heap.size w V0 := by rw [hV0]; (repeat (first | with_reducible exact Below.refl _ _ | with_reducible refine Below.drew ?_ | with_reducible refine below_drewN ?_ _ | with_reducible refine Below.setCell ?_ (by first | (simp; done) | (simp; omega) | omega) _ | with_reducible refine Below.alloc ?_ (by first | (simp; done) | (simp; omega) | omega) _))
  have zV0 : w.heap.size + 4 ≤ V0.heap.size := by rw [hV0]; simp
  have PA : Bk2 V0 (w.heap.size) (.bool a.neg) (.slice a.A a.n a.c) := by rw [hV0]; exact ((((Bk2.newAt _ _ (by simp) _ _ _).alloc _).alloc _).alloc _)
  have PF : Bk2 V0 (w.heap.size + 1) (.int .i64 14) (.int .i64 (-1)) := by rw [hV0]; exact (((Bk2.newAt _ _ (by simp) _ _ _).alloc _).alloc _)
  have PW : Bk2 V0 (w.heap.size + 2) (.bool m) (.slice D k d) := by rw [hV0]; exact ((Bk2.newAt _ _ (by simp) _ _ _).alloc _)
  have PG : Bk2 V0 (w.heap.size + 3) (.int .i64 0) (.int .i64 0) := by rw [hV0]; exact (Bk2.newAt _ _ (by simp) _ _ _)
  rw [← hV0]
  clear hV0
  have E : Below w.heap.size w V0 := E.trans (bV0.mono E.size)
  have HA : LRd V0 (B) a.A a.n a.c a.xs := HA.below bV0 (by omega)
  have HD : DRd V0 (B) D k d zs := HD.below bV0 (by omega)
  clear bV0
  (with_reducible refine (fits_any _ m D k d (by omega)).mono ?_)
  rintro e w1 ⟨rfl, hb1⟩
  have sw1 := hb1.size
  have E : Below w.heap.size w w1 := E.trans (hb1.mono E.size)
  have HA : LRd w1 (B) a.A a.n a.c a.xs := HA.below hb1 (by omega)
  have HD : DRd w1 (B) D k d zs := HD.below hb1 (by omega)
  have PA : Bk2 w1 (w.heap.size) (.bool a.neg) (.slice a.A a.n a.c) := PA.below hb1 PA.lt
  have PF : Bk2 w1 (w.heap.size + 1) (.int .i64 14) (.int .i64 (-1)) := PF.below hb1 PF.lt
  have PW : Bk2 w1 (w.heap.size + 2) (.bool m) (.slice D k d) := PW.below hb1 PW.lt
  have PG : Bk2 w1 (w.heap.size + 3) (.int .i64 0) (.int .i64 0) := PG.below hb1 PG.lt
  clear hb1
  have hk2 := fits_len' HZ.out HD.len.out (by rw [← abs_sval HV.out]; exact HT.out)
  have hn0 : a.n = 0 := nil_len (by have := HI.out.rep; simpa using this) HA.len.out
  have hng : a.neg = false := by rw [HI.out.sgn]; rfl
  have HN := Lib.hid hn0
  have HG := Lib.hid hng
  clear hn0 hng
  have hac := HA.cap
  rw [show decide (k ≤ 256) = false by first | (simp; done) | (simp; omega)]
  go_wp2_with fail
  (with_reducible refine (at_any 14 (-1) _).mono ?_)
  rintro e w2 ⟨rfl, hb2⟩
  have sw2 := hb2.size
  have E : Below w.heap.size w w2 := E.trans (hb2.mono E.size)
  have HA : LRd w2 (B) a.A a.n a.c a.xs := HA.below hb2 (by omega)
  have HD : DRd w2 (B) D k d zs := HD.below hb2 (by omega)
  have PA : Bk2 w2 (w.heap.size) (.bool a.neg) (.slice a.A a.n a.c) := PA.below hb2 PA.lt
  have PF : Bk2 w2 (w.heap.size + 1) (.int .i64 14) (.int .i64 (-1)) := PF.below hb2 PF.lt
  have PW : Bk2 w2 (w.heap.size + 2) (.bool m) (.slice D k d) := PW.below hb2 PW.lt
  have PG : Bk2 w2 (w.heap.size + 3) (.int .i64 0) (.int .i64 0) := PG.below hb2 PG.lt
  clear hb2
  have t_PF0 : w2.cell? ⟨w.heap.size + 1, 0, none⟩ = some ((.int .i64 14)) := PF.c0
  have t_PF1 : w2.cell? ⟨w.heap.size + 1, 1, none⟩ = some ((.int .i64 (-1))) := PF.c1
  have t_PA0 : w2.cell? ⟨w.heap.size, 0, none⟩ = some ((.bool a.neg)) := PA.c0
  have t_PA1 : w2.cell? ⟨w.heap.size, 1, none⟩ = some ((.slice a.A a.n a.c)) := PA.c1
  have y_PG0 : w2.cell? ⟨w.heap.size + 3, 0, none⟩ = some ((.int .i64 0)) := PG.c0
  have z_PG0 : w2.frozen? ⟨w.heap.size + 3, 0, none⟩ = false := PG.z0
  have y_PG1 : w2.cell? ⟨w.heap.size + 3, 1, none⟩ = some ((.int .i64 0)) := PG.c1
  have z_PG1 : w2.frozen? ⟨w.heap.size + 3, 1, none⟩ = false := PG.z1
  go_wp2_with fail
  clear t_PF0 t_PF1 t_PA0 t_PA1 y_PG0 z_PG0 y_PG1 z_PG1
  obtain ⟨U1PG, hU1PG⟩ : ∃ U1PG : World, U1PG = ((w2.setCell ⟨w.heap.size + 3, 0, none⟩ (.int .i64 14)).setCell ⟨w.heap.size + 3, 1, none⟩ (.int .i64 (-1))) := ⟨_, rfl⟩
  have zU1PG : U1PG.heap.size = w2.heap.size := by rw [hU1PG]; simp [World.setCell]
  have E : Below w.heap.size w U1PG := by rw [hU1PG]; exact (E.setCell (by first | (simp; done) | (simp; omega)) _).setCell (by first | (simp; done) | (simp; omega)) _
  have HA : LRd U1PG (B) a.A a.n a.c a.xs := by rw [hU1PG]; first | exact HA.setB PG (by simp) (by simp) _ _ | exact HA.setFar2 (by omega) _ _
  have HD : DRd U1PG (B) D k d zs := by rw [hU1PG]; first | exact HD.setFar2 (by omega) _ _ | exact HD.setBD PG (by simp) (by simp) _ _
  have PA : Bk2 U1PG (w.heap.size) (.bool a.neg) (.slice a.A a.n a.c) := by rw [hU1PG]; exact PA.far2 (by omega) _ _
  have PF : Bk2 U1PG (w.heap.size + 1) (.int .i64 14) (.int .i64 (-1)) := by rw [hU1PG]; exact PF.far2 (by omega) _ _
  have PW : Bk2 U1PG (w.heap.size + 2) (.bool m) (.slice D k d) := by rw [hU1PG]; exact PW.far2 (by omega) _ _
  have PG : Bk2 U1PG (w.heap.size + 3) (.int .i64 14) (.int .i64 (-1)) := by rw [hU1PG]; exact PG.set _ _
  rw [← hU1PG]
  clear hU1PG
  have zU1PG := Nat.le_of_eq zU1PG.symm
  (with_reducible refine (noInt_any _ a.neg a.A a.n a.c (by omega)).mono ?_)
  rintro e w3 ⟨rfl, hb3⟩
  have sw3 := hb3.size
  have E : Below w.heap.size w w3 := E.trans (hb3.mono E.size)
  have HA : LRd w3 (B) a.A a.n a.c a.xs := HA.below hb3 (by omega)
  have HD : DRd w3 (B) D k d zs := HD.below hb3 (by omega)
  have PA : Bk2 w3 (w.heap.size) (.bool a.neg) (.slice a.A a.n a.c) := PA.below hb3 PA.lt
  have PF : Bk2 w3 (w.heap.size + 1) (.int .i64 14) (.int .i64 (-1)) := PF.below hb3 PF.lt
  have PW : Bk2 w3 (w.heap.size + 2) (.bool m) (.slice D k d) := PW.below hb3 PW.lt
  have PG : Bk2 w3 (w.heap.size + 3) (.int .i64 14) (.int .i64 (-1)) := PG.below hb3 PG.lt
  clear hb3
  rw [show (!a.neg && decide (a.n = 0)) = true by rw [HG.out, HN.out]; rfl]
  go_wp2_with fail
  all_goals go_ret
  all_goals exact ⟨by first | rfl | (simp; done), E⟩
end Go.Proofs.Ytpjfoggohhlbdaa
