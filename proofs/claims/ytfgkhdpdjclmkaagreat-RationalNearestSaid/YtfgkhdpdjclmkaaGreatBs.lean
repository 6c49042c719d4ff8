/- The reference's RatioOk. The reference's RatioOf and SameRatio; ratioFaults. Results of operations on ratios, where they fit; they are told by their cross products. -/
import Derived.Test.YtfgkhdpdjclmkaaGreatBo
import Derived.Test.YtfgkhdpdjclmkaaGreatBe
import Derived.Test.YtfgkhdpdjclmkaaGreatBd
import Derived.Test.YtfgkhdpdjclmkaaGreatBi
import Derived.Deep.DeepCutAuto
import Derived.Test.YtfgkhdpdjclmkaaGreatBr
import Derived.Test.YtfgkhdpdjclmkaaGreatBInt21
namespace Go.Proofs.YtfgkhdpdjclmkaaGreat
open Go.RowKit
set_option maxHeartbeats 400000
set_option maxRecDepth 100000
set_option linter.unusedSimpArgs false
set_option linter.unusedVariables false

theorem repD_len128 {zs : List Nat} {p k : Nat} (h : Rep 65536 zs p) (hp : p < Top128) (hl : zs.length = k) : k ≤ 256 := by
  obtain ⟨m, hm⟩ : ∃ m, m = 256 := ⟨_, rfl⟩
  obtain ⟨q, hq⟩ : ∃ q, q = 128 := ⟨_, rfl⟩
  have h2 : p < 65536 ^ m := by
    rw [top128 hq] at hp
    rw [show m = 2 * q by omega, Nat.pow_mul]
    exact hp
  have := h.length_le (m := m) (by decide) h2
  omega
theorem IV.lt_top {a : IV} (oa : a.ok = true) (hl : Lim a.xs) : vb 4294967296 a.xs < Top128 :=
  _root_.Go.Proofs.YtfgkhdpdjclmkaaGreat.lt128 (⟨hl, rfl, (vld_top (IV.vld oa).1).1⟩ : Rep 4294967296 a.xs _) rfl (IV.vld oa).2
theorem cmpv_eq {p q : Nat} {r : Int} (h : CmpV p q r) : (r == 0) = decide (p = q) := by
  unfold CmpV at h
  rcases h with ⟨rfl, h⟩ | ⟨rfl, h⟩ | ⟨rfl, h⟩
  · rw [decide_eq_false (by omega)]; rfl
  · rw [decide_eq_true h]; rfl
  · rw [decide_eq_false (by omega)]; rfl
theorem cmpD_v (w : World) (B : Nat) (A D : Option Addr) (n m c d p q : Nat) (xs ys : List Nat) (h : DRd w B A n c xs) (k : DRd w B D m d ys) (rx : Rep 65536 xs p) (ry : Rep 65536 ys q) :
    Calls Tryz.prog 46 #[.slice A n c, .slice D m d] w (fun e w' => ∃ r, CmpV p q r ∧ e = .returned (.int .i64 r) ∧ Below w.heap.size w w') :=
  (compareD_any w B A D n m c d xs ys h k).mono fun e w' ⟨r, he, hi, q, hw⟩ => ⟨r, cmp_rep (by decide) hi h.len.out k.len.out rx ry, he, by rw [hw]; exact below_drewN (Below.refl _ _) _⟩
theorem small_1 (w : World) : Calls Tryz.prog 40 #[.int .i64 1] w (GivesN w 1) := by
  have := small_any w 1 (by decide)
  exact this
set_option maxHeartbeats 2000000 in
theorem rok_a (w : World) (B : Nat) (r : RV) (HA : LRd w B r.num.A r.num.n r.num.c r.num.xs) (HC : LRd w B r.den.A r.den.n r.den.c r.den.xs) (hB : B ≤ w.heap.size) (o1 : Hid (ivld r.num.neg r.num.xs = false)) :
    Calls Tryz.prog 16 #[r.v] w (fun e w' => e = .returned (.bool (false)) ∧ Below w.heap.size w w') := by
  have E : Below w.heap.size w w := Below.refl _ _
  go_enter Tryz.func16, Tryz.ntmps16
  go_wp2_with fail
  obtain ⟨V0, hV0⟩ : ∃ V0 : World, V0 = (w.alloc (.cells #[.bool r.num.neg, .slice r.num.A r.num.n r.num.c, .bool r.den.neg, .slice r.den.A r.den.n r.den.c] 26)) := ⟨_, rfl⟩
  have bV0 : Below w.heap.size w V0 := by rw [hV0]; (repeat (first | with_reducible exact Below.refl _ _ | with_reducible refine Below.alloc ?_ (by first | (simp <;> omega) | omega) _))
  have zV0 : w.heap.size + 1 ≤ V0.heap.size := by rw [hV0]; simp
  have PA : Bk4 V0 (w.heap.size) (.bool r.num.neg) (.slice r.num.A r.num.n r.num.c) (.bool r.den.neg) (.slice r.den.A r.den.n r.den.c) := by rw [hV0]; exact (Bk4.newAt _ _ (by first | omega | (simp; done) | (simp; omega)) _ _ _ _ _)
  rw [← hV0]
  clear hV0
  replace E := E.trans (bV0.mono E.size)
  replace HA := HA.below bV0 (by omega)
  replace HC := HC.below bV0 (by omega)
  clear bV0
  (with_reducible refine (intOk_any _ B r.num.neg r.num.A r.num.n r.num.c r.num.xs HA (by omega)).mono ?_)
  rintro e w1 ⟨rfl, hb1⟩
  have sw1 := hb1.size
  replace E := E.trans (hb1.mono E.size)
  replace HA := HA.below hb1 (by omega)
  replace HC := HC.below hb1 (by omega)
  replace PA := PA.below hb1 PA.lt
  clear hb1
  rw [o1.out]
  have t_PA0 := PA.c0
  have t_PA1 := PA.c1
  have t_PA2 := PA.c2
  have t_PA3 := PA.c3
  go_wp2_with fail
  clear t_PA0 t_PA1 t_PA2 t_PA3
  go_ret
  exact ⟨rfl, E⟩
set_option maxHeartbeats 2000000 in
theorem rok_b (w : World) (B : Nat) (r : RV) (HA : LRd w B r.num.A r.num.n r.num.c r.num.xs) (HC : LRd w B r.den.A r.den.n r.den.c r.den.xs) (hB : B ≤ w.heap.size) (o1 : Hid (ivld r.num.neg r.num.xs = true)) (o2 : Hid (ivld r.den.neg r.den.xs = false)) :
    Calls Tryz.prog 16 #[r.v] w (fun e w' => e = .returned (.bool (false)) ∧ Below w.heap.size w w') := by
  have E : Below w.heap.size w w := Below.refl _ _
  go_enter Tryz.func16, Tryz.ntmps16
  go_wp2_with fail
  obtain ⟨V0, hV0⟩ : ∃ V0 : World, V0 = (w.alloc (.cells #[.bool r.num.neg, .slice r.num.A r.num.n r.num.c, .bool r.den.neg, .slice r.den.A r.den.n r.den.c] 26)) := ⟨_, rfl⟩
  have bV0 : Below w.heap.size w V0 := by rw [hV0]; (repeat (first | with_reducible exact Below.refl _ _ | with_reducible refine Below.alloc ?_ (by first | (simp <;> omega) | omega) _))
  have zV0 : w.heap.size + 1 ≤ V0.heap.size := by rw [hV0]; simp
  have PA : Bk4 V0 (w.heap.size) (.bool r.num.neg) (.slice r.num.A r.num.n r.num.c) (.bool r.den.neg) (.slice r.den.A r.den.n r.den.c) := by rw [hV0]; exact (Bk4.newAt _ _ (by first | omega | (simp; done) | (simp; omega)) _ _ _ _ _)
  rw [← hV0]
  clear hV0
  replace E := E.trans (bV0.mono E.size)
  replace HA := HA.below bV0 (by omega)
  replace HC := HC.below bV0 (by omega)
  clear bV0
  (with_reducible refine (intOk_any _ B r.num.neg r.num.A r.num.n r.num.c r.num.xs HA (by omega)).mono ?_)
  rintro e w1 ⟨rfl, hb1⟩
  have sw1 := hb1.size
  replace E := E.trans (hb1.mono E.size)
  replace HA := HA.below hb1 (by omega)
  replace HC := HC.below hb1 (by omega)
  replace PA := PA.below hb1 PA.lt
  clear hb1
  rw [o1.out]
  have t_PA0 := PA.c0
  have t_PA1 := PA.c1
  have t_PA2 := PA.c2
  have t_PA3 := PA.c3
  go_wp2_with fail
  clear t_PA0 t_PA1 t_PA2 t_PA3
  (with_reducible refine (intOk_any _ B r.den.neg r.den.A r.den.n r.den.c r.den.xs HC (by omega)).mono ?_)
  rintro e w2 ⟨rfl, hb2⟩
  have sw2 := hb2.size
  replace E := E.trans (hb2.mono E.size)
  replace HA := HA.below hb2 (by omega)
  replace HC := HC.below hb2 (by omega)
  replace PA := PA.below hb2 PA.lt
  clear hb2
  rw [o2.out]
  have t_PA0 := PA.c0
  have t_PA1 := PA.c1
  have t_PA2 := PA.c2
  have t_PA3 := PA.c3
  go_wp2_with fail
  clear t_PA0 t_PA1 t_PA2 t_PA3
  go_ret
  exact ⟨rfl, E⟩
set_option maxHeartbeats 2000000 in
theorem rok_c (w : World) (B : Nat) (rn : IV) (D : Option Addr) (k d : Nat) (ys : List Nat) (HA : LRd w B rn.A rn.n rn.c rn.xs) (HC : LRd w B D k d ys) (hB : B ≤ w.heap.size) (o1 : Hid (ivld rn.neg rn.xs = true)) (o2 : Hid (ivld true ys = true)) :
    Calls Tryz.prog 16 #[ratv rn.neg rn.A rn.n rn.c true D k d] w (fun e w' => e = .returned (.bool (false)) ∧ Below w.heap.size w w') := by
  have E : Below w.heap.size w w := Below.refl _ _
  go_enter Tryz.func16, Tryz.ntmps16
  go_wp2_with fail
  obtain ⟨V0, hV0⟩ : ∃ V0 : World, V0 = (w.alloc (.cells #[.bool rn.neg, .slice rn.A rn.n rn.c, .bool true, .slice D k d] 26)) := ⟨_, rfl⟩
  have bV0 : Below w.heap.size w V0 := by rw [hV0]; (repeat (first | with_reducible exact Below.refl _ _ | with_reducible refine Below.alloc ?_ (by first | (simp <;> omega) | omega) _))
  have zV0 : w.heap.size + 1 ≤ V0.heap.size := by rw [hV0]; simp
  have PA : Bk4 V0 (w.heap.size) (.bool rn.neg) (.slice rn.A rn.n rn.c) (.bool true) (.slice D k d) := by rw [hV0]; exact (Bk4.newAt _ _ (by first | omega | (simp; done) | (simp; omega)) _ _ _ _ _)
  rw [← hV0]
  clear hV0
  replace E := E.trans (bV0.mono E.size)
  replace HA := HA.below bV0 (by omega)
  replace HC := HC.below bV0 (by omega)
  clear bV0
  (with_reducible refine (intOk_any _ B rn.neg rn.A rn.n rn.c rn.xs HA (by omega)).mono ?_)
  rintro e w1 ⟨rfl, hb1⟩
  have sw1 := hb1.size
  replace E := E.trans (hb1.mono E.size)
  replace HA := HA.below hb1 (by omega)
  replace HC := HC.below hb1 (by omega)
  replace PA := PA.below hb1 PA.lt
  clear hb1
  rw [o1.out]
  have t_PA0 := PA.c0
  have t_PA1 := PA.c1
  have t_PA2 := PA.c2
  have t_PA3 := PA.c3
  go_wp2_with fail
  clear t_PA0 t_PA1 t_PA2 t_PA3
  (with_reducible refine (intOk_any _ B true D k d ys HC (by omega)).mono ?_)
  rintro e w2 ⟨rfl, hb2⟩
  have sw2 := hb2.size
  replace E := E.trans (hb2.mono E.size)
  replace HA := HA.below hb2 (by omega)
  replace HC := HC.below hb2 (by omega)
  replace PA := PA.below hb2 PA.lt
  clear hb2
  rw [o2.out]
  have hcap := HC.cap
  have t_PA0 := PA.c0
  have t_PA1 := PA.c1
  have t_PA2 := PA.c2
  have t_PA3 := PA.c3
  go_wp2_with fail
  clear t_PA0 t_PA1 t_PA2 t_PA3
  go_ret
  exact ⟨rfl, E⟩
set_option maxHeartbeats 2000000 in
theorem rok_d (w : World) (B : Nat) (rn : IV) (D : Option Addr) (d : Nat) (ys : List Nat) (HA : LRd w B rn.A rn.n rn.c rn.xs) (HC : LRd w B D 0 d ys) (hB : B ≤ w.heap.size) (o1 : Hid (ivld rn.neg rn.xs = true)) (o2 : Hid (ivld false ys = true)) :
    Calls Tryz.prog 16 #[ratv rn.neg rn.A rn.n rn.c false D 0 d] w (fun e w' => e = .returned (.bool (false)) ∧ Below w.heap.size w w') := by
  have E : Below w.heap.size w w := Below.refl _ _
  go_enter Tryz.func16, Tryz.ntmps16
  go_wp2_with fail
  obtain ⟨V0, hV0⟩ : ∃ V0 : World, V0 = (w.alloc (.cells #[.bool rn.neg, .slice rn.A rn.n rn.c, .bool false, .slice D 0 d] 26)) := ⟨_, rfl⟩
  have bV0 : Below w.heap.size w V0 := by rw [hV0]; (repeat (first | with_reducible exact Below.refl _ _ | with_reducible refine Below.alloc ?_ (by first | (simp <;> omega) | omega) _))
  have zV0 : w.heap.size + 1 ≤ V0.heap.size := by rw [hV0]; simp
  have PA : Bk4 V0 (w.heap.size) (.bool rn.neg) (.slice rn.A rn.n rn.c) (.bool false) (.slice D 0 d) := by rw [hV0]; exact (Bk4.newAt _ _ (by first | omega | (simp; done) | (simp; omega)) _ _ _ _ _)
  rw [← hV0]
  clear hV0
  replace E := E.trans (bV0.mono E.size)
  replace HA := HA.below bV0 (by omega)
  replace HC := HC.below bV0 (by omega)
  clear bV0
  (with_reducible refine (intOk_any _ B rn.neg rn.A rn.n rn.c rn.xs HA (by omega)).mono ?_)
  rintro e w1 ⟨rfl, hb1⟩
  have sw1 := hb1.size
  replace E := E.trans (hb1.mono E.size)
  replace HA := HA.below hb1 (by omega)
  replace HC := HC.below hb1 (by omega)
  replace PA := PA.below hb1 PA.lt
  clear hb1
  rw [o1.out]
  have t_PA0 := PA.c0
  have t_PA1 := PA.c1
  have t_PA2 := PA.c2
  have t_PA3 := PA.c3
  go_wp2_with fail
  clear t_PA0 t_PA1 t_PA2 t_PA3
  (with_reducible refine (intOk_any _ B false D 0 d ys HC (by omega)).mono ?_)
  rintro e w2 ⟨rfl, hb2⟩
  have sw2 := hb2.size
  replace E := E.trans (hb2.mono E.size)
  replace HA := HA.below hb2 (by omega)
  replace HC := HC.below hb2 (by omega)
  replace PA := PA.below hb2 PA.lt
  clear hb2
  rw [o2.out]
  have hcap := HC.cap
  have t_PA0 := PA.c0
  have t_PA1 := PA.c1
  have t_PA2 := PA.c2
  have t_PA3 := PA.c3
  go_wp2_with fail
  clear t_PA0 t_PA1 t_PA2 t_PA3
  go_ret
  exact ⟨rfl, E⟩
set_option maxHeartbeats 2000000 in
theorem rok_ok (w : World) (B : Nat) (rn : IV) (D : Option Addr) (k d : Nat) (ys : List Nat) (HA : LRd w B rn.A rn.n rn.c rn.xs) (HC : LRd w B D k d ys) (hB : B ≤ w.heap.size) (o1 : Hid (ivld rn.neg rn.xs = true)) (o2 : Hid (ivld false ys = true)) (v1 : Hid (vb 4294967296 rn.xs < Top128)) (v2 : Hid (vb 4294967296 ys < Top128)) (hn1 : rn.n ≤ 128) (hk1 : k ≤ 128) (hk0 : decide ((k : Int) = 0) = false) (hk : ((k : Int) == 0) = false) :
    Calls Tryz.prog 16 #[ratv rn.neg rn.A rn.n rn.c false D k d] w (fun e w' => e = .returned (.bool (decide (Nat.gcd (vb 4294967296 rn.xs) (vb 4294967296 ys) = 1))) ∧ Below w.heap.size w w') := by
  have E : Below w.heap.size w w := Below.refl _ _
  go_enter Tryz.func16, Tryz.ntmps16
  go_wp2_with fail
  obtain ⟨V0, hV0⟩ : ∃ V0 : World, V0 = (w.alloc (.cells #[.bool rn.neg, .slice rn.A rn.n rn.c, .bool false, .slice D k d] 26)) := ⟨_, rfl⟩
  have bV0 : Below w.heap.size w V0 := by rw [hV0]; (repeat (first | with_reducible exact Below.refl _ _ | with_reducible refine Below.alloc ?_ (by first | (simp <;> omega) | omega) _))
  have zV0 : w.heap.size + 1 ≤ V0.heap.size := by rw [hV0]; simp
  have PA : Bk4 V0 (w.heap.size) (.bool rn.neg) (.slice rn.A rn.n rn.c) (.bool false) (.slice D k d) := by rw [hV0]; exact (Bk4.newAt _ _ (by first | omega | (simp; done) | (simp; omega)) _ _ _ _ _)
  rw [← hV0]
  clear hV0
  replace E := E.trans (bV0.mono E.size)
  replace HA := HA.below bV0 (by omega)
  replace HC := HC.below bV0 (by omega)
  clear bV0
  (with_reducible refine (intOk_any _ B rn.neg rn.A rn.n rn.c rn.xs HA (by omega)).mono ?_)
  rintro e w1 ⟨rfl, hb1⟩
  have sw1 := hb1.size
  replace E := E.trans (hb1.mono E.size)
  replace HA := HA.below hb1 (by omega)
  replace HC := HC.below hb1 (by omega)
  replace PA := PA.below hb1 PA.lt
  clear hb1
  rw [o1.out]
  have t_PA0 := PA.c0
  have t_PA1 := PA.c1
  have t_PA2 := PA.c2
  have t_PA3 := PA.c3
  go_wp2_with fail
  clear t_PA0 t_PA1 t_PA2 t_PA3
  (with_reducible refine (intOk_any _ B false D k d ys HC (by omega)).mono ?_)
  rintro e w2 ⟨rfl, hb2⟩
  have sw2 := hb2.size
  replace E := E.trans (hb2.mono E.size)
  replace HA := HA.below hb2 (by omega)
  replace HC := HC.below hb2 (by omega)
  replace PA := PA.below hb2 PA.lt
  clear hb2
  rw [o2.out]
  have t_PA0 := PA.c0
  have t_PA1 := PA.c1
  have t_PA2 := PA.c2
  have t_PA3 := PA.c3
  go_upto_region 3 with fail
  clear t_PA0 t_PA1 t_PA2 t_PA3
  have lt_PA := PA.lt
  have HS := Lib.hid (fun (u : World) (hu : Below (w.heap.size + 1) w2 u) => (⟨(hu.cell (p := ⟨w.heap.size, 0, none⟩) (by show w.heap.size < _; omega)).trans PA.c0, (hu.cell (p := ⟨w.heap.size, 1, none⟩) (by show w.heap.size < _; omega)).trans PA.c1, (hu.cell (p := ⟨w.heap.size, 2, none⟩) (by show w.heap.size < _; omega)).trans PA.c2, (hu.cell (p := ⟨w.heap.size, 3, none⟩) (by show w.heap.size < _; omega)).trans PA.c3⟩ : u.cell? ⟨w.heap.size, 0, none⟩ = some (.bool rn.neg) ∧ u.cell? ⟨w.heap.size, 1, none⟩ = some (.slice rn.A rn.n rn.c) ∧ u.cell? ⟨w.heap.size, 2, none⟩ = some (.bool false) ∧ u.cell? ⟨w.heap.size, 3, none⟩ = some (.slice D k d)))
  have G0 : Below w2.heap.size w2 w2.drew := Below.drew (Below.refl _ _)
  have g0s := G0.size
  have G0m : Below (w.heap.size + 1) w2 w2.drew := G0.mono (by omega)
  go_region_held3 (fun u => u.cell? ⟨w.heap.size, 0, none⟩ = some (.bool rn.neg) ∧ u.cell? ⟨w.heap.size, 1, none⟩ = some (.slice rn.A rn.n rn.c) ∧ u.cell? ⟨w.heap.size, 2, none⟩ = some (.bool false) ∧ u.cell? ⟨w.heap.size, 3, none⟩ = some (.slice D k d)) (first | (refine HS.out _ ?_; (repeat (first | with_reducible exact G0m | with_reducible exact BN.mono (by omega) | with_reducible exact B4.mono (by omega) | with_reducible exact B3.mono (by omega) | with_reducible exact B2.mono (by omega) | with_reducible exact B1.mono (by omega) | with_reducible exact Below.refl _ _ | with_reducible refine Below.drew ?_ | with_reducible refine below_drewN ?_ _ | with_reducible refine Below.setCell ?_ (by first | (simp <;> omega) | omega) _)); done) | fail)
    (first
      | (go_at_call 30; (with_reducible refine (of_any _ w2.heap.size rn.A rn.n rn.c rn.xs ((HA.below G0 (by omega)).more (by omega)) (by omega) (by omega)).mono ?_); rintro e u1 ⟨A1, k1, c1, z1, rfl, hd1, hr1, hb1⟩; have B1 : Below w2.heap.size w2 u1 := bnext G0 hb1; have R1 := Lib.hid hr1; clear hr1; have b1s := hb1.size)
      | (go_at_call 30; (with_reducible refine (of_any _ u1.heap.size D k d ys ((HC.below B1 (by omega)).more (by omega)) (by omega) (by omega)).mono ?_); rintro e u2 ⟨A2, k2, c2, z2, rfl, hd2, hr2, hb2⟩; have B2 : Below w2.heap.size w2 u2 := bnext B1 hb2; have R2 := Lib.hid hr2; clear hr2; have hd1q := hd1.below hb2 (Nat.le_refl _); have b2s := hb2.size)
      | (go_at_call 56; (with_reducible refine (common_any _ u2.heap.size A1 A2 k1 k2 c1 c2 256 _ _ z1 z2 (hd1q.more (by omega)) hd2 (by omega) (repD_len128 R1.out v1.out hd1.len.out) (repD_len128 R2.out v2.out hd2.len.out) (by omega) R1.out R2.out).mono ?_); rintro e u3 ⟨A3, k3, c3, z3, rfl, hd3, hr3, hb3⟩; have B3 : Below w2.heap.size w2 u3 := bnext B2 hb3; have R3 := Lib.hid hr3; clear hr3; have b3s := hb3.size)
      | (go_at_call 40; (with_reducible refine (small_1 _).mono ?_); rintro e u4 ⟨A4, k4, c4, z4, rfl, hd4, hr4, hb4⟩; have B4 : Below w2.heap.size w2 u4 := bnext B3 hb4; have R4 := Lib.hid hr4; clear hr4; have hd3q := hd3.below hb4 (Nat.le_refl _); have b4s := hb4.size)
      | (go_at_call 46; (with_reducible refine (cmpD_v _ u4.heap.size A3 A4 k3 k4 c3 c4 _ 1 z3 z4 (hd3q.more (by omega)) hd4 R3.out R4.out).mono ?_); rintro e u5 ⟨rr, hcv, rfl, hb5⟩; have BN : Below w2.heap.size w2 u5 := bnext B4 hb5; have HCV := Lib.hid (cmpv_eq hcv); have hr3 : rr = -1 ∨ rr = 0 ∨ rr = 1 := (by unfold CmpV at hcv; omega); clear hcv)
      | fail)
  all_goals (go_wp2_with fail)
  all_goals go_ret
  all_goals exact ⟨by first | rfl | (rw [HCV.out]; rfl), E.trans (BN.mono E.size)⟩
theorem rok_any (w : World) (B : Nat) (r : RV) (H : r.at w B) (hB : B ≤ w.heap.size) :
    Calls Tryz.prog 16 #[r.v] w (fun e w' => e = .returned (.bool r.ok) ∧ Below w.heap.size w w') := by
  obtain ⟨HA, HC⟩ := H
  obtain ⟨rn, ⟨m2, D, k, d, ys⟩⟩ := r
  replace HA : LRd w B rn.A rn.n rn.c rn.xs := HA
  replace HC : LRd w B D k d ys := HC
  by_cases h1 : rn.ok = true
  · by_cases h2 : (IV.mk m2 D k d ys).ok = true
    · cases m2
      · rcases Nat.eq_zero_or_pos k with e | e
        · subst e
          have h : (RV.mk rn ⟨false, D, 0, d, ys⟩).ok = false := by simp [RV.ok]
          rw [h]
          exact rok_d w B rn D d ys HA HC hB (Lib.hid h1) (Lib.hid h2)
        · have h : (RV.mk rn ⟨false, D, k, d, ys⟩).ok = decide (Nat.gcd (vb 4294967296 rn.xs) (vb 4294967296 ys) = 1) := by
            unfold RV.ok
            rw [h1, h2, decide_eq_true (show k ≠ 0 by omega)]
            simp
          rw [h]
          have l1 := (IV.vld h1).2
          have l2 : ys.length ≤ 128 := (IV.vld h2).2
          have l3 := HA.len.out
          have l4 := HC.len.out
          exact rok_ok w B rn D k d ys HA HC hB (Lib.hid h1) (Lib.hid h2) (Lib.hid (IV.lt_top h1 HA.lim)) (Lib.hid (IV.lt_top h2 HC.lim)) (by omega) (by omega) (decide_eq_false (by omega)) (beq_eq_false_iff_ne.2 (by omega))
      · have h : (RV.mk rn ⟨true, D, k, d, ys⟩).ok = false := by simp [RV.ok]
        rw [h]
        exact rok_c w B rn D k d ys HA HC hB (Lib.hid h1) (Lib.hid h2)
    · have h : (RV.mk rn ⟨m2, D, k, d, ys⟩).ok = false := by
        unfold RV.ok
        cases h4 : (IV.mk m2 D k d ys).ok <;> simp_all
      rw [h]
      have h3 : (IV.mk m2 D k d ys).ok = false := by simpa using h2
      exact rok_b w B ⟨rn, ⟨m2, D, k, d, ys⟩⟩ HA HC hB (Lib.hid h1) (Lib.hid h3)
  · have h : (RV.mk rn ⟨m2, D, k, d, ys⟩).ok = false := by
      unfold RV.ok
      cases h4 : rn.ok <;> simp_all
    rw [h]
    have h3 : rn.ok = false := by simpa using h1
    exact rok_a w B ⟨rn, ⟨m2, D, k, d, ys⟩⟩ HA HC hB (Lib.hid h3)
/-- Block g holds three values of the call's own. -/
structure Bk3 (w : World) (g : Nat) (u v x : Value) : Prop where
  c0 : w.cell? ⟨g, 0, none⟩ = some u
  c1 : w.cell? ⟨g, 1, none⟩ = some v
  c2 : w.cell? ⟨g, 2, none⟩ = some x
  z0 : w.frozen? ⟨g, 0, none⟩ = false
  z1 : w.frozen? ⟨g, 1, none⟩ = false
  z2 : w.frozen? ⟨g, 2, none⟩ = false
  lt : g < w.heap.size
section
variable {w w' : World} {g : Nat} {u v x : Value}
theorem Bk3.below {B : Nat} (h : Bk3 w g u v x) (hb : Below B w w') (hg : g < B) : Bk3 w' g u v x :=
  ⟨(hb.cell (p := ⟨g, 0, none⟩) hg).trans h.c0, (hb.cell (p := ⟨g, 1, none⟩) hg).trans h.c1, (hb.cell (p := ⟨g, 2, none⟩) hg).trans h.c2,
   (hb.frozen (p := ⟨g, 0, none⟩) hg).trans h.z0, (hb.frozen (p := ⟨g, 1, none⟩) hg).trans h.z1, (hb.frozen (p := ⟨g, 2, none⟩) hg).trans h.z2, by have := hb.size; have := h.lt; omega⟩
theorem Bk3.alloc (h : Bk3 w g u v x) (o : Obj) : Bk3 (w.alloc o) g u v x := h.below (bl1 w o) h.lt
theorem Bk3.newAt (w : World) (n : Nat) (hn : n = w.heap.size) (u v x : Value) (t : TypeId) : Bk3 (w.alloc (.cells #[u, v, x] t)) n u v x := by
  subst hn
  constructor <;> simp [go_sem]
theorem DRd.set3 {B n c k : Nat} {A : Option Addr} {xs : List Nat} (h : DRd w B A n c xs) (hk : B ≤ k) (a b e : Value) : DRd (((w.setCell ⟨k, 0, none⟩ a).setCell ⟨k, 1, none⟩ b).setCell ⟨k, 2, none⟩ e) B A n c xs :=
  h.keep fun p hp => by
    rw [World.cell?_setCell_other _ _ _ _ (fun e => by have h1 : k = p.block := congrArg Addr.block e; omega), World.cell?_setCell_other _ _ _ _ (fun e => by have h1 : k = p.block := congrArg Addr.block e; omega), World.cell?_setCell_other _ _ _ _ (fun e => by have h1 : k = p.block := congrArg Addr.block e; omega)]
end
/-- A ratio of the reference as a value. -/
abbrev refv (m : Bool) (A : Option Addr) (n c : Nat) (D : Option Addr) (k d : Nat) : Value := .agg #[.bool m, .slice A n c, .slice D k d]
/-- A ratio of the reference. -/
def GivesRR (w : World) (z1 z2 : Int) (e : Ending) (w' : World) : Prop :=
  ∃ m A n c xs v1 D k d ys v2, e = .returned (refv m A n c D k d) ∧ DRd w' w'.heap.size A n c xs ∧ DRd w' w'.heap.size D k d ys ∧ Rep 65536 xs v1 ∧ Rep 65536 ys v2 ∧ sval m v1 = z1 ∧ ((v2 : Nat) : Int) = z2 ∧ Below w.heap.size w w'
theorem DRd.setK {w : World} {B n c : Nat} {A : Option Addr} {xs : List Nat} (h : DRd w B A n c xs) {p : Addr} {u : Value} (hp : w.cell? p = some u) (hu : ∀ k x, u ≠ .int k x) (z : Value) : DRd (w.setCell p z) B A n c xs := by
  refine ⟨h.len, h.cap, h.lim, fun hn => ?_⟩
  obtain ⟨b0, off, e, hb, hc⟩ := h.rd hn
  refine ⟨b0, off, e, hb, fun j hj => ?_⟩
  have h1 := hc j hj
  rw [World.cell?_setCell_other _ _ _ _ (fun e => by rw [e, h1] at hp; exact hu _ _ (by injection hp with hp; exact hp.symm))]
  exact h1
theorem DRd.set3k {w : World} {B n c g : Nat} {A : Option Addr} {xs : List Nat} (h : DRd w B A n c xs) {b : Bool} {A1 A2 : Option Addr} {n1 c1 n2 c2 : Nat} {a e f : Value} (hB : B ≤ w.heap.size) (h0 : w.cell? ⟨g, 0, none⟩ = some (.bool b)) (h1 : w.cell? ⟨g, 1, none⟩ = some (.slice A1 n1 c1)) (h2 : w.cell? ⟨g, 2, none⟩ = some (.slice A2 n2 c2)) : DRd (((w.setCell ⟨g, 0, none⟩ a).setCell ⟨g, 1, none⟩ e).setCell ⟨g, 2, none⟩ f) (((w.setCell ⟨g, 0, none⟩ a).setCell ⟨g, 1, none⟩ e).setCell ⟨g, 2, none⟩ f).heap.size A n c xs := by
  have q0 := h.setK h0 (by intro k x; simp) a
  have q1 := q0.setK (p := ⟨g, 1, none⟩) (u := .slice A1 n1 c1) (by rw [World.cell?_setCell_other _ _ _ _ (by simp)]; exact h1) (by intro k x; simp) e
  have q2 := q1.setK (p := ⟨g, 2, none⟩) (u := .slice A2 n2 c2) (by rw [World.cell?_setCell_other _ _ _ _ (by simp), World.cell?_setCell_other _ _ _ _ (by simp)]; exact h2) (by intro k x; simp) f
  exact q2.more (by simp [World.setCell]; exact hB)
set_option maxHeartbeats 2000000 in
theorem ratioOf_any (w : World) (B : Nat) (r : RV) (H : r.at w B) (hB : B ≤ w.heap.size) (oa : r.ok = true) :
    Calls Tryz.prog 18 #[r.v] w (GivesRR w r.num.val r.den.val) := by
  have VA := RV.val oa H
  obtain ⟨HA, HC⟩ := H
  replace HA : LRd w B r.num.A r.num.n r.num.c r.num.xs := HA
  replace HC : LRd w B r.den.A r.den.n r.den.c r.den.xs := HC
  have hn1 : r.num.n ≤ 128 := by have l1 := (IV.vld (RV.okn oa)).2; have l3 := HA.len.out; omega
  have hn2 : r.den.n ≤ 128 := by have l1 := (IV.vld (RV.okd oa)).2; have l3 := HC.len.out; omega
  have HV1 := Lib.hid (show sval r.num.neg (vb 4294967296 r.num.xs) = r.num.val from rfl)
  have HV2 := Lib.hid (show ((vb 4294967296 r.den.xs : Nat) : Int) = r.den.val by
    have h1 : sval r.den.neg (vb 4294967296 r.den.xs) = r.den.val := rfl
    have h2 := VA.pos
    have h3 : r.den.neg = false := by rw [VA.den.sgn]; exact decide_eq_false (by omega)
    rw [h3] at h1
    exact h1)
  clear VA oa
  have E : Below w.heap.size w w := Below.refl _ _
  go_enter Tryz.func18, Tryz.ntmps18
  go_upto_region 1 with fail
  obtain ⟨V0, hV0⟩ : ∃ V0 : World, V0 = ((w.alloc (.cells #[.bool r.num.neg, .slice r.num.A r.num.n r.num.c, .bool r.den.neg, .slice r.den.A r.den.n r.den.c] 26)).alloc (.cells #[.bool false, .slice none 0 0, .slice none 0 0] 42)) := ⟨_, rfl⟩
  have bV0 : Below w.heap.size w V0 := by rw [hV0]; (repeat (first | with_reducible exact Below.refl _ _ | with_reducible refine Below.alloc ?_ (by first | (simp <;> omega) | omega) _))
  have zV0 : w.heap.size + 2 ≤ V0.heap.size := by rw [hV0]; simp
  have PA : Bk4 V0 (w.heap.size) (.bool r.num.neg) (.slice r.num.A r.num.n r.num.c) (.bool r.den.neg) (.slice r.den.A r.den.n r.den.c) := by rw [hV0]; exact ((Bk4.newAt _ _ (by first | omega | (simp; done) | (simp; omega)) _ _ _ _ _).alloc _)
  have PR : Bk3 V0 (w.heap.size + 1) (.bool false) (.slice none 0 0) (.slice none 0 0) := by rw [hV0]; exact Bk3.newAt _ _ (by simp) _ _ _ _
  rw [← hV0]
  clear hV0
  replace E := E.trans (bV0.mono E.size)
  replace HA := HA.below bV0 (by omega)
  replace HC := HC.below bV0 (by omega)
  clear bV0
  have lt_PA := PA.lt
  have HS := Lib.hid (fun (u : World) (hu : Below (w.heap.size + 1) V0 u) => (⟨(hu.cell (p := ⟨w.heap.size, 0, none⟩) (by show w.heap.size < _; omega)).trans PA.c0, (hu.cell (p := ⟨w.heap.size, 1, none⟩) (by show w.heap.size < _; omega)).trans PA.c1, (hu.cell (p := ⟨w.heap.size, 2, none⟩) (by show w.heap.size < _; omega)).trans PA.c2, (hu.cell (p := ⟨w.heap.size, 3, none⟩) (by show w.heap.size < _; omega)).trans PA.c3⟩ : u.cell? ⟨w.heap.size, 0, none⟩ = some (.bool r.num.neg) ∧ u.cell? ⟨w.heap.size, 1, none⟩ = some (.slice r.num.A r.num.n r.num.c) ∧ u.cell? ⟨w.heap.size, 2, none⟩ = some (.bool r.den.neg) ∧ u.cell? ⟨w.heap.size, 3, none⟩ = some (.slice r.den.A r.den.n r.den.c)))
  have G0 : Below V0.heap.size V0 V0.drew := Below.drew (Below.refl _ _)
  have g0s := G0.size
  have G0m : Below (w.heap.size + 1) V0 V0.drew := G0.mono (by omega)
  go_region_held3 (fun u => u.cell? ⟨w.heap.size, 0, none⟩ = some (.bool r.num.neg) ∧ u.cell? ⟨w.heap.size, 1, none⟩ = some (.slice r.num.A r.num.n r.num.c) ∧ u.cell? ⟨w.heap.size, 2, none⟩ = some (.bool r.den.neg) ∧ u.cell? ⟨w.heap.size, 3, none⟩ = some (.slice r.den.A r.den.n r.den.c)) (first | (refine HS.out _ ?_; (repeat (first | with_reducible exact G0m | with_reducible exact BN.mono (by omega) | with_reducible exact B1.mono (by omega) | with_reducible exact Below.refl _ _ | with_reducible refine Below.drew ?_ | with_reducible refine below_drewN ?_ _ | with_reducible refine Below.setCell ?_ (by first | (simp <;> omega) | omega) _)); done) | fail)
    (first
      | (go_at_call 29; (with_reducible refine (intOf_any _ V0.heap.size r.num.neg r.num.A r.num.n r.num.c r.num.xs ((HA.below G0 (by omega)).more (by omega)) (by omega) (by omega)).mono ?_); rintro e u1 ⟨m1, A1, k1, c1, z1, v1, rfl, hd1, hr1, hs1, hb1⟩; have B1 : Below V0.heap.size V0 u1 := bnext G0 hb1; have R1 := Lib.hid hr1; have S1 := Lib.hid hs1; clear hr1 hs1; have b1s := hb1.size)
      | (go_at_call 30; (with_reducible refine (of_any _ u1.heap.size r.den.A r.den.n r.den.c r.den.xs ((HC.below B1 (by omega)).more (by omega)) (by omega) (by omega)).mono ?_); rintro e u2 ⟨A2, k2, c2, z2, rfl, hd2, hr2, hb2⟩; have BN : Below V0.heap.size V0 u2 := bnext B1 hb2; have R2 := Lib.hid hr2; clear hr2; have hd1q := hd1.below hb2 (Nat.le_refl _); have b2s := hb2.size; have PRq := PR.below BN PR.lt; obtain ⟨r0, r1, r2, y0, y1, y2, ltr⟩ := PRq)
      | fail)
  all_goals (go_wp2_with fail)
  all_goals
    refine bodyPost_ret (v := refv m1 A1 k1 c1 A2 k2 c2) (by simp [results, Tryz.results18, go_sem, r0, r1, r2]) rfl ⟨m1, A1, k1, c1, z1, v1, A2, k2, c2, z2, _, rfl, ?_, ?_, R1.out, R2.out, by rw [S1.out, HV1.out], HV2.out, ?_⟩
    · first | with_reducible exact DRd.set3k hd1q b2s r0 r1 r2 | with_reducible exact DRd.set3k (DRd.drew hd1q) b2s r0 r1 r2
    · first | with_reducible exact DRd.set3k hd2 (Nat.le_refl _) r0 r1 r2 | with_reducible exact DRd.set3k (DRd.drew hd2) (Nat.le_refl _) r0 r1 r2
    · (repeat (first | with_reducible exact E.trans (BN.mono E.size) | with_reducible refine Below.drew ?_ | with_reducible refine below_drewN ?_ _ | with_reducible refine Below.setCell ?_ (by first | (simp <;> omega) | omega) _))
set_option maxHeartbeats 2000000 in
theorem sameRatio_any (w : World) (B : Nat) (r : RV) (m : Bool) (A D : Option Addr) (n c k d v1 v2 : Nat) (z1 z2 : Int) (xs ys : List Nat) (H : r.at w B) (HP : DRd w B A n c xs) (HQ : DRd w B D k d ys) (hB : B ≤ w.heap.size) (I1 : Hid (IRep r.num.neg r.num.xs z1)) (I2 : Hid (IRep r.den.neg r.den.xs z2)) (R1 : Hid (Rep 65536 xs v1)) (R2 : Hid (Rep 65536 ys v2)) (S1 : Hid (sval m v1 = z1)) (S2 : Hid (sval false v2 = z2)) (hn : n ≤ 100000) (hk : k ≤ 100000) :
    Calls Tryz.prog 43 #[r.v, refv m A n c D k d] w (fun e w' => e = .returned (.bool true) ∧ Below w.heap.size w w') := by
  obtain ⟨HA, HC⟩ := H
  replace HA : LRd w B r.num.A r.num.n r.num.c r.num.xs := HA
  replace HC : LRd w B r.den.A r.den.n r.den.c r.den.xs := HC
  have E : Below w.heap.size w w := Below.refl _ _
  go_enter Tryz.func43, Tryz.ntmps43
  go_upto_region 1 with fail
  obtain ⟨V0, hV0⟩ : ∃ V0 : World, V0 = ((w.alloc (.cells #[.bool r.num.neg, .slice r.num.A r.num.n r.num.c, .bool r.den.neg, .slice r.den.A r.den.n r.den.c] 26)).alloc (.cells #[.bool m, .slice A n c, .slice D k d] 42)) := ⟨_, rfl⟩
  have bV0 : Below w.heap.size w V0 := by rw [hV0]; (repeat (first | with_reducible exact Below.refl _ _ | with_reducible refine Below.alloc ?_ (by first | (simp <;> omega) | omega) _))
  have zV0 : w.heap.size + 2 ≤ V0.heap.size := by rw [hV0]; simp
  have PA : Bk4 V0 (w.heap.size) (.bool r.num.neg) (.slice r.num.A r.num.n r.num.c) (.bool r.den.neg) (.slice r.den.A r.den.n r.den.c) := by rw [hV0]; exact ((Bk4.newAt _ _ (by first | omega | (simp; done) | (simp; omega)) _ _ _ _ _).alloc _)
  have PR : Bk3 V0 (w.heap.size + 1) (.bool m) (.slice A n c) (.slice D k d) := by rw [hV0]; exact Bk3.newAt _ _ (by simp) _ _ _ _
  rw [← hV0]
  clear hV0
  replace E := E.trans (bV0.mono E.size)
  replace HA := HA.below bV0 (by omega)
  replace HC := HC.below bV0 (by omega)
  replace HP := HP.below bV0 (by omega)
  replace HQ := HQ.below bV0 (by omega)
  clear bV0
  have q0 := PR.c0
  have q1 := PR.c1
  have q2 := PR.c2
  have t_PA0 := PA.c0
  have t_PA1 := PA.c1
  have t_PA2 := PA.c2
  have t_PA3 := PA.c3
  go_wp2_with fail
  clear t_PA0 t_PA1 t_PA2 t_PA3
  clear q0 q1 q2
  (with_reducible refine (sameInt_any _ B r.num.neg m r.num.A A r.num.n n r.num.c c v1 z1 r.num.xs xs HA HP (by omega) I1.out R1.out S1.out (by omega)).mono ?_)
  rintro e w1 ⟨rfl, hb1⟩
  have sw1 := hb1.size
  replace E := E.trans (hb1.mono E.size)
  replace HA := HA.below hb1 (by omega)
  replace HC := HC.below hb1 (by omega)
  replace HP := HP.below hb1 (by omega)
  replace HQ := HQ.below hb1 (by omega)
  replace PA := PA.below hb1 PA.lt
  have PRn := PR.below hb1 PR.lt
  clear hb1
  replace PR : Bk3 w1 (w.heap.size + 1) (.bool m) (.slice A n c) (.slice D k d) := PRn
  have q0 := PR.c0
  have q1 := PR.c1
  have q2 := PR.c2
  have t_PA0 := PA.c0
  have t_PA1 := PA.c1
  have t_PA2 := PA.c2
  have t_PA3 := PA.c3
  go_wp2_with fail
  clear t_PA0 t_PA1 t_PA2 t_PA3
  clear q0 q1 q2
  (with_reducible refine (sameInt_any _ B r.den.neg false r.den.A D r.den.n k r.den.c d v2 z2 r.den.xs ys HC HQ (by omega) I2.out R2.out S2.out (by omega)).mono ?_)
  rintro e w2 ⟨rfl, hb2⟩
  have sw2 := hb2.size
  replace E := E.trans (hb2.mono E.size)
  replace HA := HA.below hb2 (by omega)
  replace HC := HC.below hb2 (by omega)
  replace HP := HP.below hb2 (by omega)
  replace HQ := HQ.below hb2 (by omega)
  replace PA := PA.below hb2 PA.lt
  clear hb2
  go_wp2_with fail
  go_ret
  exact ⟨rfl, E⟩
set_option maxHeartbeats 2000000 in
theorem ratioFaults_any (w : World) (B g k : Nat) (vs : List RV) (h : RRow w B g vs) (hk : vs.length = k) (hB : B ≤ w.heap.size) (hM : k ≤ 1000) :
    Calls Tryz.prog 8 #[.slice (some ⟨g, 0, none⟩) k k] w (fun e w' => e = .returned (flt (rfault vs 0).1 (rfault vs 0).2) ∧ Below w.heap.size w w') := by
  have HK := Lib.hid hk
  clear hk
  go_enter Tryz.func8, Tryz.ntmps8
  go_wp2_with fail
  obtain ⟨V, hV⟩ : ∃ V : World, V = w.alloc (.cells #[.int .i64 0, .int .i64 0] 28) := ⟨_, rfl⟩
  have bV : Below w.heap.size w V := by rw [hV]; exact bl1 _ _
  have PF : Bk2 V w.heap.size (.int .i64 0) (.int .i64 0) := by rw [hV]; exact Bk2.new _ _ _ _
  have zV : w.heap.size + 1 ≤ V.heap.size := by rw [hV]; simp
  rw [← hV]
  clear hV
  replace h := h.below bV hB
  go_loopw [3] (RkRel k vs V) (fun i _ => k - (intOf i).toNat)
  case atStart => exact ⟨0, by omega, rfl, rfl, Below.refl _ _⟩
  case round =>
    obtain ⟨j, hj, rfl, hff, hbw⟩ := hrel
    have hz := hbw.size
    have PW := PF.below hbw PF.lt
    have E := bV.trans (hbw.mono bV.size)
    by_cases h1 : j < k
    · have hjv : j < vs.length := by rw [HK.out]; exact h1
      have hr := h.below hbw (by omega)
      obtain ⟨v, hv⟩ : ∃ v, v = vs[j] := ⟨_, rfl⟩
      have e0 := hr.c0 j hjv
      have e1 := hr.c1 j hjv
      have e2 := hr.c2 j hjv
      have e3 := hr.c3 j hjv
      have ed := hr.rd j hjv
      have hst := Lib.hid (rf_at (k := j) hjv)
      rw [← hv] at e0 e1 e2 e3 ed hst
      clear hv hr
      go_wp2_with fail
      clear e0 e1 e2 e3
      refine (rok_any _ B v ed (by omega)).mono ?_
      rintro e w5 ⟨rfl, hb5⟩
      have PV := PW.below hb5 PW.lt
      have z5 := hb5.size
      have E5 := E.trans (hb5.mono (by omega))
      cases hok : v.ok
      · have HN := Lib.hid (show rfault vs 0 = (6, -1 - (j : Int)) by rw [hff.out, hst.out, hok]; rfl)
        clear hok
        go_wp2_with fail
        refine (at_any _ _ _).mono ?_
        rintro e w6 ⟨rfl, hb6⟩
        have PX := PV.below hb6 PV.lt
        have E6 := E5.trans (hb6.mono (by omega))
        obtain ⟨x0, x1, y0, y1, _⟩ := PX
        go_wp2_with fail
        refine bodyPost_ret (v := flt 6 (-1 - (j : Int))) (by simp [results, Tryz.results8, go_sem, x0, x1]) rfl ⟨by rw [HN.out], ?_⟩
        (repeat (first | with_reducible exact E6 | with_reducible refine Below.drew ?_ | with_reducible refine below_drewN ?_ _ | with_reducible refine Below.setCell ?_ (by first | (simp <;> omega) | omega) _))
      · have HN := Lib.hid (show rfault vs 0 = rfault (vs.drop (j + 1)) (j + 1) by rw [hff.out, hst.out, hok]; rfl)
        clear hok
        go_wp2_with fail
        go_roundw
        case rel => exact ⟨j + 1, by omega, by go_num, HN, hbw.trans (hb5.mono (by omega))⟩
        case measure => first | (simp [intOf]; done) | (simp [intOf]; omega)
    · obtain rfl : j = k := by omega
      have HN := Lib.hid (show rfault vs 0 = (0, 0) by rw [hff.out, List.drop_of_length_le (by rw [HK.out]; exact Nat.le_refl _)]; rfl)
      obtain ⟨x0, x1, y0, y1, _⟩ := PW
      go_wp2_with fail
      refine bodyPost_ret (v := flt 0 0) (by simp [results, Tryz.results8, go_sem, x0, x1]) rfl ⟨by rw [HN.out], ?_⟩
      (repeat (first | with_reducible exact E | with_reducible refine Below.drew ?_ | with_reducible refine below_drewN ?_ _ | with_reducible refine Below.setCell ?_ (by first | (simp <;> omega) | omega) _))
/-- A ratio in lowest terms whose cross products with z1 / z2 are equal. -/
def GivesX (w : World) (z1 z2 : Int) (e : Ending) (w' : World) : Prop :=
  ∃ x : RV, e = .returned (.tuple #[x.v, flt 0 0]) ∧ x.at w' w'.heap.size ∧ x.ok = true ∧ x.num.val * z2 = z1 * x.den.val ∧ 0 < x.den.val ∧ x.num.val.natAbs ≤ z1.natAbs ∧ x.den.val.natAbs ≤ z2.natAbs ∧ Below w.heap.size w w'
theorem cross_s (s1 s2 : Bool) (g P Q : Nat) : sval (s1 != s2) P * sval s2 (g * Q) = sval s1 (g * P) * ((Q : Nat) : Int) := by
  cases s1 <;> cases s2 <;> simp [sval] <;> grind
theorem sv_abs (z : Int) : z = sval (decide (z < 0)) z.natAbs := by
  unfold sval
  by_cases h : z < 0
  · rw [decide_eq_true h]; simp; omega
  · rw [decide_eq_false h]; simp; omega
theorem rv_ok {x : RV} {n d : Int} (I : IRep x.num.neg x.num.xs n) (J : IRep x.den.neg x.den.xs d) (hl : x.den.xs.length = x.den.n) (hn : n.natAbs < Top128) (hd : d.natAbs < Top128) (h0 : 0 < d) (hg : Nat.gcd n.natAbs d.natAbs = 1) : x.ok = true := by
  unfold RV.ok
  have e1 : x.den.neg = false := by rw [J.sgn]; exact decide_eq_false (by omega)
  have e2 : x.den.n ≠ 0 := by
    intro h
    have := (IRep.len0 J).1 (by omega)
    omega
  have e3 : x.num.ok = true := I.iok hn
  have e4 : x.den.ok = true := J.iok hd
  rw [e1, e3, e4, decide_eq_true e2, I.rep.val, J.rep.val, decide_eq_true hg]
  rfl
theorem rv_vals {x : RV} {n d : Int} (I : IRep x.num.neg x.num.xs n) (J : IRep x.den.neg x.den.xs d) : x.num.val = n ∧ x.den.val = d :=
  ⟨I.ival (A := x.num.A) (n := x.num.n) (c := x.num.c), J.ival (A := x.den.A) (n := x.den.n) (c := x.den.c)⟩
theorem quo_x {w w' : World} {z1 z2 : Int} {e : Ending} (h : GivesQuo w (decide (z1 < 0) != decide (z2 < 0)) z1.natAbs z2.natAbs e w') (b1 : z1.natAbs < Top128) (b2 : z2.natAbs < Top128) (hz : z2 ≠ 0) : GivesX w z1 z2 e w' := by
  have g0 : 0 < Nat.gcd z1.natAbs z2.natAbs := Nat.gcd_pos_of_pos_right _ (by omega)
  rcases h with ⟨h1, h2, m, A, k, c, xs, m', D, l, d, ys, rfl, H1, H2, I, J, hb⟩ | ⟨h1, _⟩
  · obtain ⟨g, hg⟩ : ∃ g, g = Nat.gcd z1.natAbs z2.natAbs := ⟨_, rfl⟩
    have hlow := Nat.gcd_div_gcd_div_gcd_of_pos_left (m := z1.natAbs) (n := z2.natAbs)
    rw [← hg] at h1 h2 I J g0
    obtain ⟨P, hP⟩ : ∃ P, P = z1.natAbs / g := ⟨_, rfl⟩
    obtain ⟨Q, hQ⟩ : ∃ Q, Q = z2.natAbs / g := ⟨_, rfl⟩
    have eP : z1.natAbs = g * P := by rw [hP, hg]; exact (Nat.mul_div_cancel' (Nat.gcd_dvd_left _ _)).symm
    have eQ : z2.natAbs = g * Q := by rw [hQ, hg]; exact (Nat.mul_div_cancel' (Nat.gcd_dvd_right _ _)).symm
    have hQ0 : 0 < Q := by
      rcases Nat.eq_zero_or_pos Q with e | e
      · rw [e, Nat.mul_zero] at eQ; omega
      · exact e
    have hgcd : Nat.gcd P Q = 1 := by
      have h5 : Nat.gcd (g * P) (g * Q) = g * Nat.gcd P Q := Nat.gcd_mul_left g P Q
      rw [← eP, ← eQ, ← hg] at h5
      have h6 : g * 1 = g * Nat.gcd P Q := by rw [Nat.mul_one]; exact h5
      exact (Nat.eq_of_mul_eq_mul_left g0 h6).symm
    rw [← hP] at h1 I
    rw [← hQ] at h2 J
    have vI : (IV.mk m A k c xs).val = sval (decide (z1 < 0) != decide (z2 < 0)) P := I.ival
    have vJ : (IV.mk m' D l d ys).val = ((Q : Nat) : Int) := J.ival
    refine ⟨⟨⟨m, A, k, c, xs⟩, ⟨m', D, l, d, ys⟩⟩, rfl, ⟨H1, H2⟩, rv_ok (x := ⟨⟨m, A, k, c, xs⟩, ⟨m', D, l, d, ys⟩⟩) I J H2.len.out (by rw [sval_abs]; exact h1) (by omega) (by omega) (by rw [sval_abs]; exact hgcd), ?_, ?_, ?_, ?_, hb⟩
    · show (IV.mk m A k c xs).val * z2 = z1 * (IV.mk m' D l d ys).val
      rw [vI, vJ]
      have := cross_s (decide (z1 < 0)) (decide (z2 < 0)) g P Q
      rw [← eP, ← eQ, ← sv_abs, ← sv_abs] at this
      exact this
    · show 0 < (IV.mk m' D l d ys).val
      rw [vJ]; omega
    · show (IV.mk m A k c xs).val.natAbs ≤ _
      rw [vI, sval_abs, hP]
      exact Nat.div_le_self _ _
    · show (IV.mk m' D l d ys).val.natAbs ≤ _
      rw [vJ]
      show Q ≤ _
      rw [hQ]
      exact Nat.div_le_self _ _
  · exfalso
    have h3 := Nat.div_le_self z1.natAbs (Nat.gcd z1.natAbs z2.natAbs)
    have h4 := Nat.div_le_self z2.natAbs (Nat.gcd z1.natAbs z2.natAbs)
    omega
theorem low_uniq {n d n' d' : Int} (h : n * d' = n' * d) (hd : 0 < d) (hd' : 0 < d') (hg : Nat.gcd n.natAbs d.natAbs = 1) (hg' : Nat.gcd n'.natAbs d'.natAbs = 1) : n = n' ∧ d = d' := by
  have h1 : n.natAbs * d'.natAbs = n'.natAbs * d.natAbs := by rw [← Int.natAbs_mul, ← Int.natAbs_mul, h]
  have h2 : d.natAbs ∣ d'.natAbs := by
    have : d.natAbs ∣ n.natAbs * d'.natAbs := ⟨n'.natAbs, by rw [h1, Nat.mul_comm]⟩
    exact Nat.Coprime.dvd_of_dvd_mul_left (Nat.Coprime.symm hg) this
  have h3 : d'.natAbs ∣ d.natAbs := by
    have : d'.natAbs ∣ n'.natAbs * d.natAbs := ⟨n.natAbs, by rw [← h1, Nat.mul_comm]⟩
    exact Nat.Coprime.dvd_of_dvd_mul_left (Nat.Coprime.symm hg') this
  have h4 := Nat.dvd_antisymm h2 h3
  have h5 : d = d' := by omega
  subst h5
  exact ⟨Int.eq_of_mul_eq_mul_right (by omega) h, rfl⟩
theorem rv_low {w : World} {B : Nat} {r : RV} (h : r.ok = true) (H : r.at w B) : Nat.gcd r.num.val.natAbs r.den.val.natAbs = 1 := (RV.val h H).low
section
variable (w : World) (B : Nat) (a b : RV) (H1 : a.at w B) (H2 : b.at w B) (hB : B ≤ w.heap.size) (oa : a.ok = true) (ob : b.ok = true)
include H1 H2 hB oa ob
end
theorem rmake_x (w : World) (B : Nat) (a b : IV) (za zb : Int) (HA : LRd w B a.A a.n a.c a.xs) (HB : LRd w B b.A b.n b.c b.xs) (hB : B ≤ w.heap.size) (I : IRep a.neg a.xs za) (J : IRep b.neg b.xs zb) (h1 : za.natAbs < Top128) (h2 : zb.natAbs < Top128) (hz : zb ≠ 0) :
    Calls Tryz.prog 26 #[a.v, b.v] w (GivesX w za zb) := by
  have e1 : a.val = za := I.ival (A := a.A) (n := a.n) (c := a.c)
  have e2 : b.val = zb := J.ival (A := b.A) (n := b.n) (c := b.c)
  have h := rmake_ok w B a b HA HB hB (I.iok h1) (J.iok h2) (by rw [e2]; exact hz)
  rw [e1, e2] at h
  exact h.mono fun _ _ h => quo_x h h1 h2 hz
end Go.Proofs.YtfgkhdpdjclmkaaGreat
