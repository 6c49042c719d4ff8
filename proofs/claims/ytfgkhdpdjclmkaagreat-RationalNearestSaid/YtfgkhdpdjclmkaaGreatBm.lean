/- A block of four cells: a ratio. The program's wide integers: signed, isZero, isOne, opposite, product, sum. The program's quotient of two wide integers. The program's Valid and check of ratios. The program's gap of two ratios. -/
import Derived.Test.YtfgkhdpdjclmkaaGreatBf
import Derived.Test.YtfgkhdpdjclmkaaGreatBi
import Derived.Test.YtfgkhdpdjclmkaaGreatBj
import Derived.Test.YtfgkhdpdjclmkaaGreatBc
import Derived.Test.YtfgkhdpdjclmkaaGreatBl
import Derived.Deep.RegionHeld3
import Derived.Test.YtfgkhdpdjclmkaaGreatBg
import Derived.Deep.DeepCutAuto
namespace Go.Proofs.YtfgkhdpdjclmkaaGreat
open Go.RowKit
set_option maxHeartbeats 400000
set_option maxRecDepth 100000
set_option linter.unusedSimpArgs false
set_option linter.unusedVariables false

/-- Block g holds four values of the call's own. -/
structure Bk4 (w : World) (g : Nat) (u v x y : Value) : Prop where
  c0 : w.cell? ⟨g, 0, none⟩ = some u
  c1 : w.cell? ⟨g, 1, none⟩ = some v
  c2 : w.cell? ⟨g, 2, none⟩ = some x
  c3 : w.cell? ⟨g, 3, none⟩ = some y
  z0 : w.frozen? ⟨g, 0, none⟩ = false
  z1 : w.frozen? ⟨g, 1, none⟩ = false
  z2 : w.frozen? ⟨g, 2, none⟩ = false
  z3 : w.frozen? ⟨g, 3, none⟩ = false
  lt : g < w.heap.size
section
variable {w w' : World} {g : Nat} {u v x y : Value}
theorem Bk4.below {B : Nat} (h : Bk4 w g u v x y) (hb : Below B w w') (hg : g < B) : Bk4 w' g u v x y :=
  ⟨(hb.cell (p := ⟨g, 0, none⟩) hg).trans h.c0, (hb.cell (p := ⟨g, 1, none⟩) hg).trans h.c1, (hb.cell (p := ⟨g, 2, none⟩) hg).trans h.c2, (hb.cell (p := ⟨g, 3, none⟩) hg).trans h.c3,
   (hb.frozen (p := ⟨g, 0, none⟩) hg).trans h.z0, (hb.frozen (p := ⟨g, 1, none⟩) hg).trans h.z1, (hb.frozen (p := ⟨g, 2, none⟩) hg).trans h.z2, (hb.frozen (p := ⟨g, 3, none⟩) hg).trans h.z3, by have := hb.size; have := h.lt; omega⟩
theorem Bk4.alloc (h : Bk4 w g u v x y) (o : Obj) : Bk4 (w.alloc o) g u v x y := h.below (bl1 w o) h.lt
theorem Bk4.drew (h : Bk4 w g u v x y) : Bk4 w.drew g u v x y := h.below (Below.drew (Below.refl w.heap.size w)) h.lt
theorem Bk4.drewN (h : Bk4 w g u v x y) (n : Nat) : Bk4 (w.drewN n) g u v x y := h.below (below_drewN (Below.refl w.heap.size w) n) h.lt
theorem Bk4.newAt (w : World) (n : Nat) (hn : n = w.heap.size) (u v x y : Value) (t : TypeId) : Bk4 (w.alloc (.cells #[u, v, x, y] t)) n u v x y := by
  subst hn
  constructor <;> simp [go_sem]
theorem Bk4.far (h : Bk4 w g u v x y) {p : Addr} (hp : g ≠ p.block) (z : Value) : Bk4 (w.setCell p z) g u v x y := by
  have k : ∀ j, (w.setCell p z).cell? ⟨g, j, none⟩ = w.cell? ⟨g, j, none⟩ := fun j => World.cell?_setCell_other _ _ _ _ (fun e => hp (by rw [e]))
  exact ⟨(k 0).trans h.c0, (k 1).trans h.c1, (k 2).trans h.c2, (k 3).trans h.c3, by rw [World.frozen?_setCell]; exact h.z0, by rw [World.frozen?_setCell]; exact h.z1, by rw [World.frozen?_setCell]; exact h.z2, by rw [World.frozen?_setCell]; exact h.z3, by simpa [World.setCell] using h.lt⟩
theorem Bk4.far2 (h : Bk4 w g u v x y) {k : Nat} (hk : k ≠ g) (a b : Value) : Bk4 ((w.setCell ⟨k, 0, none⟩ a).setCell ⟨k, 1, none⟩ b) g u v x y := (h.far (p := ⟨k, 0, none⟩) (Ne.symm hk) a).far (p := ⟨k, 1, none⟩) (Ne.symm hk) b
end
abbrev World.set4 (w : World) (g : Nat) (a b c d : Value) : World := (((w.setCell ⟨g, 0, none⟩ a).setCell ⟨g, 1, none⟩ b).setCell ⟨g, 2, none⟩ c).setCell ⟨g, 3, none⟩ d
section
variable {w w' : World} {g : Nat} {u v x y : Value}
theorem Bk4.far4 (h : Bk4 w g u v x y) {k : Nat} (hk : k ≠ g) (a b c d : Value) : Bk4 (World.set4 w k a b c d) g u v x y :=
  (((h.far (p := ⟨k, 0, none⟩) (Ne.symm hk) a).far (p := ⟨k, 1, none⟩) (Ne.symm hk) b).far (p := ⟨k, 2, none⟩) (Ne.symm hk) c).far (p := ⟨k, 3, none⟩) (Ne.symm hk) d
theorem Bk4.set (h : Bk4 w g u v x y) (a b c d : Value) : Bk4 (World.set4 w g a b c d) g a b c d := by
  obtain ⟨h0, h1, h2, h3, z0, z1, z2, z3, lt⟩ := h
  constructor <;> simp [go_sem, h0, h1, h2, h3, z0, z1, z2, z3, lt]
theorem Bk2.farA {a b : Value} (h : Bk2 w g a b) {p : Addr} (hp : g ≠ p.block) (z : Value) : Bk2 (w.setCell p z) g a b := by
  have k : ∀ j, (w.setCell p z).cell? ⟨g, j, none⟩ = w.cell? ⟨g, j, none⟩ := fun j => World.cell?_setCell_other _ _ _ _ (fun e => hp (by rw [e]))
  exact ⟨(k 0).trans h.c0, (k 1).trans h.c1, by rw [World.frozen?_setCell]; exact h.z0, by rw [World.frozen?_setCell]; exact h.z1, by simpa [World.setCell] using h.lt⟩
theorem Bk2.far4 {e f : Value} (h : Bk2 w g e f) {k : Nat} (hk : k ≠ g) (a b c d : Value) : Bk2 (World.set4 w k a b c d) g e f :=
  (((h.farA (p := ⟨k, 0, none⟩) (Ne.symm hk) a).farA (p := ⟨k, 1, none⟩) (Ne.symm hk) b).farA (p := ⟨k, 2, none⟩) (Ne.symm hk) c).farA (p := ⟨k, 3, none⟩) (Ne.symm hk) d
theorem LRd.set4O {B n c k : Nat} {A : Option Addr} {xs : List Nat} (h : LRd w B A n c xs) (hk : B ≤ k) (a b e d : Value) : LRd (World.set4 w k a b e d) B A n c xs :=
  (((h.setO (p := ⟨k, 0, none⟩) hk a).setO (p := ⟨k, 1, none⟩) hk b).setO (p := ⟨k, 2, none⟩) hk e).setO (p := ⟨k, 3, none⟩) hk d
theorem LRd.set4 {B n c k : Nat} {A : Option Addr} {xs : List Nat} (h : LRd w B A n c xs) (q : Bk4 w k u v x y) (hu : ∀ i, u ≠ .int .u32 i) (hv : ∀ i, v ≠ .int .u32 i) (hx : ∀ i, x ≠ .int .u32 i) (hy : ∀ i, y ≠ .int .u32 i) (a b e d : Value) : LRd (World.set4 w k a b e d) B A n c xs := by
  have s0 : ∀ i, w.cell? ⟨k, 0, none⟩ ≠ some (.int .u32 i) := fun i => by rw [q.c0]; intro e; injection e with e; exact hu i e
  have h1 := h.setN s0 a
  have s1 : ∀ i, (w.setCell ⟨k, 0, none⟩ a).cell? ⟨k, 1, none⟩ ≠ some (.int .u32 i) := fun i => by
    rw [World.cell?_setCell_other _ _ _ _ (by simp), q.c1]; intro e; injection e with e; exact hv i e
  have h2 := h1.setN s1 b
  have s2 : ∀ i, ((w.setCell ⟨k, 0, none⟩ a).setCell ⟨k, 1, none⟩ b).cell? ⟨k, 2, none⟩ ≠ some (.int .u32 i) := fun i => by
    rw [World.cell?_setCell_other _ _ _ _ (by simp), World.cell?_setCell_other _ _ _ _ (by simp), q.c2]; intro e; injection e with e; exact hx i e
  have h3 := h2.setN s2 e
  have s3 : ∀ i, (((w.setCell ⟨k, 0, none⟩ a).setCell ⟨k, 1, none⟩ b).setCell ⟨k, 2, none⟩ e).cell? ⟨k, 3, none⟩ ≠ some (.int .u32 i) := fun i => by
    rw [World.cell?_setCell_other _ _ _ _ (by simp), World.cell?_setCell_other _ _ _ _ (by simp), World.cell?_setCell_other _ _ _ _ (by simp), q.c3]; intro e; injection e with e; exact hy i e
  exact h3.setN s3 d
end
/-- A ratio as a value. -/
abbrev ratv (m : Bool) (A : Option Addr) (n c : Nat) (m' : Bool) (D : Option Addr) (k d : Nat) : Value := .agg #[.bool m, .slice A n c, .bool m', .slice D k d]
theorem irep_sg {m : Bool} {zs : List Nat} {v k : Nat} (h : Rep 4294967296 zs v) (hl : zs.length = k) : IRep (m && decide (0 < k)) zs (sval m v) := by
  have hz : (sval m v).natAbs = v := sval_abs m v
  refine ⟨by rw [hz]; exact h, ?_⟩
  rcases Nat.eq_zero_or_pos k with e | e
  · have hv : v = 0 := by rw [← h.val, List.eq_nil_of_length_eq_zero (hl.trans e), vb_nil]
    subst hv; subst e
    cases m <;> rfl
  · have hv : 0 < v := by
      rcases Nat.eq_zero_or_pos v with e2 | e2
      · exfalso
        subst e2
        have := h.length_le (m := 0) (by decide) (by decide)
        omega
      · exact e2
    rw [decide_eq_true e, Bool.and_true]
    cases m
    · exact (decide_eq_false (by show ¬ ((v : Nat) : Int) < 0; omega)).symm
    · exact (decide_eq_true (by show -((v : Nat) : Int) < 0; omega)).symm
theorem mul_ff (p q : Nat) : sval false (p * q) = sval false p * sval false q := Int.natCast_mul p q
theorem mul_ft (p q : Nat) : sval true (p * q) = sval false p * sval true q := by show -((p * q : Nat) : Int) = (p : Int) * -(q : Int); rw [Int.natCast_mul, Int.mul_neg]
theorem mul_tf (p q : Nat) : sval true (p * q) = sval true p * sval false q := by show -((p * q : Nat) : Int) = -(p : Int) * (q : Int); rw [Int.natCast_mul, Int.neg_mul]
theorem mul_tt (p q : Nat) : sval false (p * q) = sval true p * sval true q := by show ((p * q : Nat) : Int) = -(p : Int) * -(q : Int); rw [Int.natCast_mul, Int.neg_mul_neg]
theorem rsigned_any (w : World) (m : Bool) (A : Option Addr) (k c : Nat) (hk : k ≤ 9223372036854775807) :
    Calls Tryz.prog 75 #[.bool m, .slice A k c] w (fun e w' => e = .returned (intv (m && decide (0 < k)) A k c) ∧ Below w.heap.size w w') := by
  rcases Nat.eq_zero_or_pos k with e | e
  · subst e
    cases m
    all_goals
      go_enter Tryz.func75, Tryz.ntmps75
      go_wp2_with fail
      refine bodyPost_ret (v := intv false A 0 c) (by simp [results, Tryz.results75, go_sem]) rfl ⟨rfl, ?_⟩
      (repeat (first | with_reducible exact Below.refl _ _ | with_reducible refine Below.drew ?_ | with_reducible refine below_drewN ?_ _ | with_reducible refine Below.setCell ?_ (by first | (simp <;> omega) | omega) _ | with_reducible refine Below.alloc ?_ (by first | (simp <;> omega) | omega) _))
  · have e1 : 0 < (k : Int) := by omega
    have e2 : decide (0 < k) = true := decide_eq_true e
    cases m
    · rw [Bool.false_and]
      go_enter Tryz.func75, Tryz.ntmps75
      go_wp2_with fail
      refine bodyPost_ret (v := intv false A k c) (by simp [results, Tryz.results75, go_sem]) rfl ⟨rfl, ?_⟩
      (repeat (first | with_reducible exact Below.refl _ _ | with_reducible refine Below.drew ?_ | with_reducible refine below_drewN ?_ _ | with_reducible refine Below.setCell ?_ (by first | (simp <;> omega) | omega) _ | with_reducible refine Below.alloc ?_ (by first | (simp <;> omega) | omega) _))
    · rw [Bool.true_and, e2]
      clear e2
      go_enter Tryz.func75, Tryz.ntmps75
      go_wp2_with fail
      refine bodyPost_ret (v := intv true A k c) (by simp [results, Tryz.results75, go_sem]) rfl ⟨rfl, ?_⟩
      (repeat (first | with_reducible exact Below.refl _ _ | with_reducible refine Below.drew ?_ | with_reducible refine below_drewN ?_ _ | with_reducible refine Below.setCell ?_ (by first | (simp <;> omega) | omega) _ | with_reducible refine Below.alloc ?_ (by first | (simp <;> omega) | omega) _))
theorem isZero_any (w : World) (m : Bool) (A : Option Addr) (n c : Nat) (hn : n ≤ 9223372036854775807) :
    Calls Tryz.prog 62 #[intv m A n c] w (fun e w' => e = .returned (.bool (decide (n = 0))) ∧ Below w.heap.size w w') := by
  rcases Nat.eq_zero_or_pos n with e | e
  · subst e
    go_enter Tryz.func62, Tryz.ntmps62
    go_wp2_with fail
    go_ret
    exact ⟨rfl, bl1 _ _⟩
  · have e2 : decide (n = 0) = false := decide_eq_false (by omega)
    have e1 : ((n : Int) == 0) = false := beq_eq_false_iff_ne.2 (by omega)
    rw [e2]
    clear e2
    go_enter Tryz.func62, Tryz.ntmps62
    go_wp2_with fail
    go_ret
    exact ⟨rfl, bl1 _ _⟩
def isone (xs : List Nat) (n : Nat) : Bool := decide (n = 1 ∧ xs.getD 0 0 = 1)
theorem isOne_any (w : World) (B : Nat) (m : Bool) (A : Option Addr) (n c : Nat) (xs : List Nat) (H : LRd w B A n c xs) (hB : B ≤ w.heap.size) :
    Calls Tryz.prog 65 #[intv m A n c] w (fun e w' => e = .returned (.bool (isone xs n)) ∧ Below w.heap.size w w') := by
  have hcap := H.cap
  by_cases h1 : n = 1
  · subst h1
    have H2 := H.alloc hB (.cells #[.bool m, .slice A 1 c] 24)
    obtain ⟨b, off, rfl, hb, hc⟩ := H2.rd (by omega)
    have g1 : (w.alloc (.cells #[.bool m, .slice (some ⟨b, off, none⟩) 1 c] 24)).cell? ⟨b, off, none⟩ = some (.int .u32 (nth xs 0)) := hc 0 (by omega)
    have a1 := nth_nn xs 0
    have a2 := H.lim.nth 0
    clear hc
    by_cases hx : xs.getD 0 0 = 1
    · have e : isone xs 1 = true := decide_eq_true ⟨rfl, hx⟩
      have e3 : nth xs 0 = 1 := by unfold nth; rw [hx]; rfl
      rw [e3] at g1
      rw [e]
      clear e e3 a1 a2
      go_enter Tryz.func65, Tryz.ntmps65
      go_wp2_with fail
      go_ret
      exact ⟨rfl, bl1 _ _⟩
    · have e : isone xs 1 = false := decide_eq_false fun k => hx k.2
      have e3 : (nth xs 0 == 1) = false := beq_eq_false_iff_ne.2 (by unfold nth; omega)
      rw [e]
      clear e
      go_enter Tryz.func65, Tryz.ntmps65
      go_wp2_with fail
      go_ret
      exact ⟨by first | rfl | (simp [e3]; done), bl1 _ _⟩
  · have e : isone xs n = false := decide_eq_false fun k => h1 k.1
    have e1 : ((n : Int) == 1) = false := beq_eq_false_iff_ne.2 (by omega)
    rw [e]
    clear e
    go_enter Tryz.func65, Tryz.ntmps65
    go_wp2_with fail
    go_ret
    exact ⟨rfl, bl1 _ _⟩
theorem opposite_any (w : World) (m : Bool) (A : Option Addr) (n c : Nat) (hn : n ≤ 9223372036854775807) :
    Calls Tryz.prog 58 #[intv m A n c] w (fun e w' => e = .returned (intv (!m && decide (0 < n)) A n c) ∧ Below w.heap.size w w') := by
  have E : Below w.heap.size w w := Below.refl _ _
  go_enter Tryz.func58, Tryz.ntmps58
  go_wp2_with fail
  obtain ⟨V0, hV0⟩ : ∃ V0 : World, V0 = ((w.alloc (.cells #[.bool m, .slice A n c] 24)).alloc (.cells #[.bool false, .slice none 0 0] 24)) := ⟨_, rfl⟩
  have bV0 : Below w.heap.size w V0 := by rw [hV0]; (repeat (first | with_reducible exact Below.refl _ _ | with_reducible refine Below.alloc ?_ (by first | (simp <;> omega) | omega) _))
  have zV0 : w.heap.size + 2 ≤ V0.heap.size := by rw [hV0]; simp
  have PA : Bk2 V0 (w.heap.size) (.bool m) (.slice A n c) := by rw [hV0]; exact ((Bk2.newAt _ _ (by simp) _ _ _).alloc _)
  have PR : Bk2 V0 (w.heap.size + 1) (.bool false) (.slice none 0 0) := by rw [hV0]; exact (Bk2.newAt _ _ (by simp) _ _ _)
  rw [← hV0]
  clear hV0
  replace E := E.trans (bV0.mono E.size)
  clear bV0
  (with_reducible refine (rsigned_any _ (!m) A n c hn).mono ?_)
  rintro e w1 ⟨rfl, hb1⟩
  have sw1 := hb1.size
  replace E := E.trans (hb1.mono E.size)
  replace PA := PA.below hb1 PA.lt
  replace PR := PR.below hb1 PR.lt
  clear hb1
  obtain ⟨sg, hsg⟩ : ∃ sg, sg = (!m && decide (0 < n)) := ⟨_, rfl⟩
  have HSG := Lib.hid hsg
  rw [← hsg]
  clear hsg
  have y_PR0 := PR.c0
  have z_PR0 := PR.z0
  have y_PR1 := PR.c1
  have z_PR1 := PR.z1
  have lt_PR := PR.lt
  go_wp2_with fail
  clear y_PR0 z_PR0 y_PR1 z_PR1 lt_PR
  obtain ⟨U1PR, hU1PR⟩ : ∃ U1PR : World, U1PR = ((w1.setCell ⟨w.heap.size + 1, 0, none⟩ (.bool sg)).setCell ⟨w.heap.size + 1, 1, none⟩ (.slice A n c)) := ⟨_, rfl⟩
  have zU1PR : U1PR.heap.size = w1.heap.size := by rw [hU1PR]; simp [World.setCell]
  replace E : Below w.heap.size w U1PR := by rw [hU1PR]; exact (E.setCell (by first | (simp; done) | (simp; omega)) _).setCell (by first | (simp; done) | (simp; omega)) _
  replace PA : Bk2 U1PR (w.heap.size) (.bool m) (.slice A n c) := by rw [hU1PR]; exact PA.far2 (by omega) _ _
  replace PR : Bk2 U1PR (w.heap.size + 1) (.bool sg) (.slice A n c) := by rw [hU1PR]; exact PR.set _ _
  rw [← hU1PR]
  clear hU1PR
  have zU1PR' := Nat.le_of_eq zU1PR
  replace zU1PR := Nat.le_of_eq zU1PR.symm
  obtain ⟨r0, r1, _, _, _⟩ := PR
  rw [← HSG.out]
  refine bodyPost_ret (v := intv sg A n c) (by simp [results, Tryz.results58, go_sem, r0, r1]) rfl ⟨rfl, E⟩
theorem product_ff (w : World) (B : Nat) (A D : Option Addr) (n k c d p q : Nat) (xs ys : List Nat) (HA : LRd w B A n c xs) (HB : LRd w B D k d ys) (hB : B ≤ w.heap.size) (hx : Rep 4294967296 xs p) (hy : Rep 4294967296 ys q) (va : vld xs = true) (vb' : vld ys = true) (hg : p * q < Big) :
    Calls Tryz.prog 61 #[intv false A n c, intv false D k d] w (GivesV w (sval false p * sval false q)) := by
  have HX := Lib.hid hx
  have HY := Lib.hid hy
  have HG := Lib.hid hg
  clear hx hy hg
  have E : Below w.heap.size w w := Below.refl _ _
  go_enter Tryz.func61, Tryz.ntmps61
  go_wp2_with fail
  obtain ⟨V0, hV0⟩ : ∃ V0 : World, V0 = (((w.alloc (.cells #[.bool false, .slice A n c] 24)).alloc (.cells #[.bool false, .slice D k d] 24)).alloc (.cells #[.bool false, .slice none 0 0] 24)) := ⟨_, rfl⟩
  have bV0 : Below w.heap.size w V0 := by rw [hV0]; (repeat (first | with_reducible exact Below.refl _ _ | with_reducible refine Below.alloc ?_ (by first | (simp <;> omega) | omega) _))
  have zV0 : w.heap.size + 3 ≤ V0.heap.size := by rw [hV0]; simp
  have PA : Bk2 V0 (w.heap.size) (.bool false) (.slice A n c) := by rw [hV0]; exact (((Bk2.newAt _ _ (by simp) _ _ _).alloc _).alloc _)
  have PB : Bk2 V0 (w.heap.size + 1) (.bool false) (.slice D k d) := by rw [hV0]; exact ((Bk2.newAt _ _ (by simp) _ _ _).alloc _)
  have PR : Bk2 V0 (w.heap.size + 2) (.bool false) (.slice none 0 0) := by rw [hV0]; exact (Bk2.newAt _ _ (by simp) _ _ _)
  rw [← hV0]
  clear hV0
  replace E := E.trans (bV0.mono E.size)
  replace HA := HA.below bV0 (by omega)
  replace HB := HB.below bV0 (by omega)
  clear bV0
  refine (mul_ok _ B A D n k c d xs ys HA HB (by omega) va vb').mono ?_
  rw [HX.out.val, HY.out.val]
  rintro e w2 (⟨_, A2, k2, c2, x2, rfl, hl2, hr2, hb2⟩ | ⟨hge, _⟩)
  rotate_left
  · exact absurd HG.out (by omega)
  have R2 := Lib.hid hr2
  have K2 := hl2.cap
  have L2 := Lib.hid hl2.len.out
  have sw2 := hb2.size
  clear hr2
  clear HA HB
  replace E := E.trans (hb2.mono E.size)
  replace PA := PA.below hb2 PA.lt
  replace PB := PB.below hb2 PB.lt
  replace PR := PR.below hb2 PR.lt
  clear hb2
  have t_PA0 : (w2.alloc (.cells #[.int .i64 0, .int .i64 0] 28)).cell? ⟨w.heap.size, 0, none⟩ = some ((.bool false)) := (PA.alloc _).c0
  have t_PA1 : (w2.alloc (.cells #[.int .i64 0, .int .i64 0] 28)).cell? ⟨w.heap.size, 1, none⟩ = some ((.slice A n c)) := (PA.alloc _).c1
  have t_PB0 : (w2.alloc (.cells #[.int .i64 0, .int .i64 0] 28)).cell? ⟨w.heap.size + 1, 0, none⟩ = some ((.bool false)) := (PB.alloc _).c0
  have t_PB1 : (w2.alloc (.cells #[.int .i64 0, .int .i64 0] 28)).cell? ⟨w.heap.size + 1, 1, none⟩ = some ((.slice D k d)) := (PB.alloc _).c1
  go_wp2_with fail
  clear t_PA0 t_PA1 t_PB0 t_PB1
  obtain ⟨V1, hV1⟩ : ∃ V1 : World, V1 = (w2.alloc (.cells #[.int .i64 0, .int .i64 0] 28)) := ⟨_, rfl⟩
  have bV1 : Below w2.heap.size w2 V1 := by rw [hV1]; (repeat (first | with_reducible exact Below.refl _ _ | with_reducible refine Below.alloc ?_ (by first | (simp <;> omega) | omega) _))
  have zV1 : w2.heap.size + 1 ≤ V1.heap.size := by rw [hV1]; simp
  have F6 : Bk2 V1 (w2.heap.size) (.int .i64 0) (.int .i64 0) := by rw [hV1]; exact (Bk2.newAt _ _ (by simp) _ _ _)
  rw [← hV1]
  clear hV1
  replace E := E.trans (bV1.mono E.size)
  replace PA := PA.below bV1 PA.lt
  replace PB := PB.below bV1 PB.lt
  replace PR := PR.below bV1 PR.lt
  replace hl2 := hl2.below bV1 (by omega)
  clear bV1
  clear F6
  (with_reducible refine (rsigned_any _ false A2 k2 c2 (by omega)).mono ?_)
  rintro e w3 ⟨rfl, hb3⟩
  have sw3 := hb3.size
  replace E := E.trans (hb3.mono E.size)
  replace PA := PA.below hb3 PA.lt
  replace PB := PB.below hb3 PB.lt
  replace PR := PR.below hb3 PR.lt
  replace hl2 := hl2.below hb3 (by omega)
  clear hb3
  obtain ⟨sg, hsg⟩ : ∃ sg, sg = (false && decide (0 < k2)) := ⟨_, rfl⟩
  have HSG := Lib.hid hsg
  rw [← hsg]
  clear hsg
  have y_PR0 := PR.c0
  have z_PR0 := PR.z0
  have y_PR1 := PR.c1
  have z_PR1 := PR.z1
  have lt_PR := PR.lt
  go_wp2_with fail
  clear y_PR0 z_PR0 y_PR1 z_PR1 lt_PR
  obtain ⟨U2PR, hU2PR⟩ : ∃ U2PR : World, U2PR = ((w3.setCell ⟨w.heap.size + 2, 0, none⟩ (.bool sg)).setCell ⟨w.heap.size + 2, 1, none⟩ (.slice A2 k2 c2)) := ⟨_, rfl⟩
  have zU2PR : U2PR.heap.size = w3.heap.size := by rw [hU2PR]; simp [World.setCell]
  replace E : Below w.heap.size w U2PR := by rw [hU2PR]; exact (E.setCell (by first | (simp; done) | (simp; omega)) _).setCell (by first | (simp; done) | (simp; omega)) _
  replace PA : Bk2 U2PR (w.heap.size) (.bool false) (.slice A n c) := by rw [hU2PR]; exact PA.far2 (by omega) _ _
  replace PB : Bk2 U2PR (w.heap.size + 1) (.bool false) (.slice D k d) := by rw [hU2PR]; exact PB.far2 (by omega) _ _
  replace hl2 : LRd U2PR (w2.heap.size) A2 k2 c2 x2 := by rw [hU2PR]; first | exact hl2.setB PR (by simp) (by simp) _ _ | exact hl2.setFar2 (by omega) _ _
  replace PR : Bk2 U2PR (w.heap.size + 2) (.bool sg) (.slice A2 k2 c2) := by rw [hU2PR]; exact PR.set _ _
  rw [← hU2PR]
  clear hU2PR
  have zU2PR' := Nat.le_of_eq zU2PR
  replace zU2PR := Nat.le_of_eq zU2PR.symm
  obtain ⟨r0, r1, _, _, _⟩ := PR
  have h9 := irep_sg (m := false) R2.out L2.out
  rw [show sval false (p * q) = sval false p * sval false q from mul_ff p q] at h9
  rw [← HSG.out] at h9
  refine bodyPost_ret (v := intv sg A2 k2 c2) (by simp [results, Tryz.results61, go_sem, r0, r1]) rfl ⟨_, A2, k2, c2, x2, rfl, hl2.more (by omega), h9, E⟩
theorem product_ft (w : World) (B : Nat) (A D : Option Addr) (n k c d p q : Nat) (xs ys : List Nat) (HA : LRd w B A n c xs) (HB : LRd w B D k d ys) (hB : B ≤ w.heap.size) (hx : Rep 4294967296 xs p) (hy : Rep 4294967296 ys q) (va : vld xs = true) (vb' : vld ys = true) (hg : p * q < Big) :
    Calls Tryz.prog 61 #[intv false A n c, intv true D k d] w (GivesV w (sval false p * sval true q)) := by
  have HX := Lib.hid hx
  have HY := Lib.hid hy
  have HG := Lib.hid hg
  clear hx hy hg
  have E : Below w.heap.size w w := Below.refl _ _
  go_enter Tryz.func61, Tryz.ntmps61
  go_wp2_with fail
  obtain ⟨V0, hV0⟩ : ∃ V0 : World, V0 = (((w.alloc (.cells #[.bool false, .slice A n c] 24)).alloc (.cells #[.bool true, .slice D k d] 24)).alloc (.cells #[.bool false, .slice none 0 0] 24)) := ⟨_, rfl⟩
  have bV0 : Below w.heap.size w V0 := by rw [hV0]; (repeat (first | with_reducible exact Below.refl _ _ | with_reducible refine Below.alloc ?_ (by first | (simp <;> omega) | omega) _))
  have zV0 : w.heap.size + 3 ≤ V0.heap.size := by rw [hV0]; simp
  have PA : Bk2 V0 (w.heap.size) (.bool false) (.slice A n c) := by rw [hV0]; exact (((Bk2.newAt _ _ (by simp) _ _ _).alloc _).alloc _)
  have PB : Bk2 V0 (w.heap.size + 1) (.bool true) (.slice D k d) := by rw [hV0]; exact ((Bk2.newAt _ _ (by simp) _ _ _).alloc _)
  have PR : Bk2 V0 (w.heap.size + 2) (.bool false) (.slice none 0 0) := by rw [hV0]; exact (Bk2.newAt _ _ (by simp) _ _ _)
  rw [← hV0]
  clear hV0
  replace E := E.trans (bV0.mono E.size)
  replace HA := HA.below bV0 (by omega)
  replace HB := HB.below bV0 (by omega)
  clear bV0
  refine (mul_ok _ B A D n k c d xs ys HA HB (by omega) va vb').mono ?_
  rw [HX.out.val, HY.out.val]
  rintro e w2 (⟨_, A2, k2, c2, x2, rfl, hl2, hr2, hb2⟩ | ⟨hge, _⟩)
  rotate_left
  · exact absurd HG.out (by omega)
  have R2 := Lib.hid hr2
  have K2 := hl2.cap
  have L2 := Lib.hid hl2.len.out
  have sw2 := hb2.size
  clear hr2
  clear HA HB
  replace E := E.trans (hb2.mono E.size)
  replace PA := PA.below hb2 PA.lt
  replace PB := PB.below hb2 PB.lt
  replace PR := PR.below hb2 PR.lt
  clear hb2
  have t_PA0 : (w2.alloc (.cells #[.int .i64 0, .int .i64 0] 28)).cell? ⟨w.heap.size, 0, none⟩ = some ((.bool false)) := (PA.alloc _).c0
  have t_PA1 : (w2.alloc (.cells #[.int .i64 0, .int .i64 0] 28)).cell? ⟨w.heap.size, 1, none⟩ = some ((.slice A n c)) := (PA.alloc _).c1
  have t_PB0 : (w2.alloc (.cells #[.int .i64 0, .int .i64 0] 28)).cell? ⟨w.heap.size + 1, 0, none⟩ = some ((.bool true)) := (PB.alloc _).c0
  have t_PB1 : (w2.alloc (.cells #[.int .i64 0, .int .i64 0] 28)).cell? ⟨w.heap.size + 1, 1, none⟩ = some ((.slice D k d)) := (PB.alloc _).c1
  go_wp2_with fail
  clear t_PA0 t_PA1 t_PB0 t_PB1
  obtain ⟨V1, hV1⟩ : ∃ V1 : World, V1 = (w2.alloc (.cells #[.int .i64 0, .int .i64 0] 28)) := ⟨_, rfl⟩
  have bV1 : Below w2.heap.size w2 V1 := by rw [hV1]; (repeat (first | with_reducible exact Below.refl _ _ | with_reducible refine Below.alloc ?_ (by first | (simp <;> omega) | omega) _))
  have zV1 : w2.heap.size + 1 ≤ V1.heap.size := by rw [hV1]; simp
  have F6 : Bk2 V1 (w2.heap.size) (.int .i64 0) (.int .i64 0) := by rw [hV1]; exact (Bk2.newAt _ _ (by simp) _ _ _)
  rw [← hV1]
  clear hV1
  replace E := E.trans (bV1.mono E.size)
  replace PA := PA.below bV1 PA.lt
  replace PB := PB.below bV1 PB.lt
  replace PR := PR.below bV1 PR.lt
  replace hl2 := hl2.below bV1 (by omega)
  clear bV1
  clear F6
  (with_reducible refine (rsigned_any _ true A2 k2 c2 (by omega)).mono ?_)
  rintro e w3 ⟨rfl, hb3⟩
  have sw3 := hb3.size
  replace E := E.trans (hb3.mono E.size)
  replace PA := PA.below hb3 PA.lt
  replace PB := PB.below hb3 PB.lt
  replace PR := PR.below hb3 PR.lt
  replace hl2 := hl2.below hb3 (by omega)
  clear hb3
  obtain ⟨sg, hsg⟩ : ∃ sg, sg = (true && decide (0 < k2)) := ⟨_, rfl⟩
  have HSG := Lib.hid hsg
  rw [← hsg]
  clear hsg
  have y_PR0 := PR.c0
  have z_PR0 := PR.z0
  have y_PR1 := PR.c1
  have z_PR1 := PR.z1
  have lt_PR := PR.lt
  go_wp2_with fail
  clear y_PR0 z_PR0 y_PR1 z_PR1 lt_PR
  obtain ⟨U2PR, hU2PR⟩ : ∃ U2PR : World, U2PR = ((w3.setCell ⟨w.heap.size + 2, 0, none⟩ (.bool sg)).setCell ⟨w.heap.size + 2, 1, none⟩ (.slice A2 k2 c2)) := ⟨_, rfl⟩
  have zU2PR : U2PR.heap.size = w3.heap.size := by rw [hU2PR]; simp [World.setCell]
  replace E : Below w.heap.size w U2PR := by rw [hU2PR]; exact (E.setCell (by first | (simp; done) | (simp; omega)) _).setCell (by first | (simp; done) | (simp; omega)) _
  replace PA : Bk2 U2PR (w.heap.size) (.bool false) (.slice A n c) := by rw [hU2PR]; exact PA.far2 (by omega) _ _
  replace PB : Bk2 U2PR (w.heap.size + 1) (.bool true) (.slice D k d) := by rw [hU2PR]; exact PB.far2 (by omega) _ _
  replace hl2 : LRd U2PR (w2.heap.size) A2 k2 c2 x2 := by rw [hU2PR]; first | exact hl2.setB PR (by simp) (by simp) _ _ | exact hl2.setFar2 (by omega) _ _
  replace PR : Bk2 U2PR (w.heap.size + 2) (.bool sg) (.slice A2 k2 c2) := by rw [hU2PR]; exact PR.set _ _
  rw [← hU2PR]
  clear hU2PR
  have zU2PR' := Nat.le_of_eq zU2PR
  replace zU2PR := Nat.le_of_eq zU2PR.symm
  obtain ⟨r0, r1, _, _, _⟩ := PR
  have h9 := irep_sg (m := true) R2.out L2.out
  rw [show sval true (p * q) = sval false p * sval true q from mul_ft p q] at h9
  rw [← HSG.out] at h9
  refine bodyPost_ret (v := intv sg A2 k2 c2) (by simp [results, Tryz.results61, go_sem, r0, r1]) rfl ⟨_, A2, k2, c2, x2, rfl, hl2.more (by omega), h9, E⟩
theorem product_tf (w : World) (B : Nat) (A D : Option Addr) (n k c d p q : Nat) (xs ys : List Nat) (HA : LRd w B A n c xs) (HB : LRd w B D k d ys) (hB : B ≤ w.heap.size) (hx : Rep 4294967296 xs p) (hy : Rep 4294967296 ys q) (va : vld xs = true) (vb' : vld ys = true) (hg : p * q < Big) :
    Calls Tryz.prog 61 #[intv true A n c, intv false D k d] w (GivesV w (sval true p * sval false q)) := by
  have HX := Lib.hid hx
  have HY := Lib.hid hy
  have HG := Lib.hid hg
  clear hx hy hg
  have E : Below w.heap.size w w := Below.refl _ _
  go_enter Tryz.func61, Tryz.ntmps61
  go_wp2_with fail
  obtain ⟨V0, hV0⟩ : ∃ V0 : World, V0 = (((w.alloc (.cells #[.bool true, .slice A n c] 24)).alloc (.cells #[.bool false, .slice D k d] 24)).alloc (.cells #[.bool false, .slice none 0 0] 24)) := ⟨_, rfl⟩
  have bV0 : Below w.heap.size w V0 := by rw [hV0]; (repeat (first | with_reducible exact Below.refl _ _ | with_reducible refine Below.alloc ?_ (by first | (simp <;> omega) | omega) _))
  have zV0 : w.heap.size + 3 ≤ V0.heap.size := by rw [hV0]; simp
  have PA : Bk2 V0 (w.heap.size) (.bool true) (.slice A n c) := by rw [hV0]; exact (((Bk2.newAt _ _ (by simp) _ _ _).alloc _).alloc _)
  have PB : Bk2 V0 (w.heap.size + 1) (.bool false) (.slice D k d) := by rw [hV0]; exact ((Bk2.newAt _ _ (by simp) _ _ _).alloc _)
  have PR : Bk2 V0 (w.heap.size + 2) (.bool false) (.slice none 0 0) := by rw [hV0]; exact (Bk2.newAt _ _ (by simp) _ _ _)
  rw [← hV0]
  clear hV0
  replace E := E.trans (bV0.mono E.size)
  replace HA := HA.below bV0 (by omega)
  replace HB := HB.below bV0 (by omega)
  clear bV0
  refine (mul_ok _ B A D n k c d xs ys HA HB (by omega) va vb').mono ?_
  rw [HX.out.val, HY.out.val]
  rintro e w2 (⟨_, A2, k2, c2, x2, rfl, hl2, hr2, hb2⟩ | ⟨hge, _⟩)
  rotate_left
  · exact absurd HG.out (by omega)
  have R2 := Lib.hid hr2
  have K2 := hl2.cap
  have L2 := Lib.hid hl2.len.out
  have sw2 := hb2.size
  clear hr2
  clear HA HB
  replace E := E.trans (hb2.mono E.size)
  replace PA := PA.below hb2 PA.lt
  replace PB := PB.below hb2 PB.lt
  replace PR := PR.below hb2 PR.lt
  clear hb2
  have t_PA0 : (w2.alloc (.cells #[.int .i64 0, .int .i64 0] 28)).cell? ⟨w.heap.size, 0, none⟩ = some ((.bool true)) := (PA.alloc _).c0
  have t_PA1 : (w2.alloc (.cells #[.int .i64 0, .int .i64 0] 28)).cell? ⟨w.heap.size, 1, none⟩ = some ((.slice A n c)) := (PA.alloc _).c1
  have t_PB0 : (w2.alloc (.cells #[.int .i64 0, .int .i64 0] 28)).cell? ⟨w.heap.size + 1, 0, none⟩ = some ((.bool false)) := (PB.alloc _).c0
  have t_PB1 : (w2.alloc (.cells #[.int .i64 0, .int .i64 0] 28)).cell? ⟨w.heap.size + 1, 1, none⟩ = some ((.slice D k d)) := (PB.alloc _).c1
  go_wp2_with fail
  clear t_PA0 t_PA1 t_PB0 t_PB1
  obtain ⟨V1, hV1⟩ : ∃ V1 : World, V1 = (w2.alloc (.cells #[.int .i64 0, .int .i64 0] 28)) := ⟨_, rfl⟩
  have bV1 : Below w2.heap.size w2 V1 := by rw [hV1]; (repeat (first | with_reducible exact Below.refl _ _ | with_reducible refine Below.alloc ?_ (by first | (simp <;> omega) | omega) _))
  have zV1 : w2.heap.size + 1 ≤ V1.heap.size := by rw [hV1]; simp
  have F6 : Bk2 V1 (w2.heap.size) (.int .i64 0) (.int .i64 0) := by rw [hV1]; exact (Bk2.newAt _ _ (by simp) _ _ _)
  rw [← hV1]
  clear hV1
  replace E := E.trans (bV1.mono E.size)
  replace PA := PA.below bV1 PA.lt
  replace PB := PB.below bV1 PB.lt
  replace PR := PR.below bV1 PR.lt
  replace hl2 := hl2.below bV1 (by omega)
  clear bV1
  clear F6
  (with_reducible refine (rsigned_any _ true A2 k2 c2 (by omega)).mono ?_)
  rintro e w3 ⟨rfl, hb3⟩
  have sw3 := hb3.size
  replace E := E.trans (hb3.mono E.size)
  replace PA := PA.below hb3 PA.lt
  replace PB := PB.below hb3 PB.lt
  replace PR := PR.below hb3 PR.lt
  replace hl2 := hl2.below hb3 (by omega)
  clear hb3
  obtain ⟨sg, hsg⟩ : ∃ sg, sg = (true && decide (0 < k2)) := ⟨_, rfl⟩
  have HSG := Lib.hid hsg
  rw [← hsg]
  clear hsg
  have y_PR0 := PR.c0
  have z_PR0 := PR.z0
  have y_PR1 := PR.c1
  have z_PR1 := PR.z1
  have lt_PR := PR.lt
  go_wp2_with fail
  clear y_PR0 z_PR0 y_PR1 z_PR1 lt_PR
  obtain ⟨U2PR, hU2PR⟩ : ∃ U2PR : World, U2PR = ((w3.setCell ⟨w.heap.size + 2, 0, none⟩ (.bool sg)).setCell ⟨w.heap.size + 2, 1, none⟩ (.slice A2 k2 c2)) := ⟨_, rfl⟩
  have zU2PR : U2PR.heap.size = w3.heap.size := by rw [hU2PR]; simp [World.setCell]
  replace E : Below w.heap.size w U2PR := by rw [hU2PR]; exact (E.setCell (by first | (simp; done) | (simp; omega)) _).setCell (by first | (simp; done) | (simp; omega)) _
  replace PA : Bk2 U2PR (w.heap.size) (.bool true) (.slice A n c) := by rw [hU2PR]; exact PA.far2 (by omega) _ _
  replace PB : Bk2 U2PR (w.heap.size + 1) (.bool false) (.slice D k d) := by rw [hU2PR]; exact PB.far2 (by omega) _ _
  replace hl2 : LRd U2PR (w2.heap.size) A2 k2 c2 x2 := by rw [hU2PR]; first | exact hl2.setB PR (by simp) (by simp) _ _ | exact hl2.setFar2 (by omega) _ _
  replace PR : Bk2 U2PR (w.heap.size + 2) (.bool sg) (.slice A2 k2 c2) := by rw [hU2PR]; exact PR.set _ _
  rw [← hU2PR]
  clear hU2PR
  have zU2PR' := Nat.le_of_eq zU2PR
  replace zU2PR := Nat.le_of_eq zU2PR.symm
  obtain ⟨r0, r1, _, _, _⟩ := PR
  have h9 := irep_sg (m := true) R2.out L2.out
  rw [show sval true (p * q) = sval true p * sval false q from mul_tf p q] at h9
  rw [← HSG.out] at h9
  refine bodyPost_ret (v := intv sg A2 k2 c2) (by simp [results, Tryz.results61, go_sem, r0, r1]) rfl ⟨_, A2, k2, c2, x2, rfl, hl2.more (by omega), h9, E⟩
theorem product_tt (w : World) (B : Nat) (A D : Option Addr) (n k c d p q : Nat) (xs ys : List Nat) (HA : LRd w B A n c xs) (HB : LRd w B D k d ys) (hB : B ≤ w.heap.size) (hx : Rep 4294967296 xs p) (hy : Rep 4294967296 ys q) (va : vld xs = true) (vb' : vld ys = true) (hg : p * q < Big) :
    Calls Tryz.prog 61 #[intv true A n c, intv true D k d] w (GivesV w (sval true p * sval true q)) := by
  have HX := Lib.hid hx
  have HY := Lib.hid hy
  have HG := Lib.hid hg
  clear hx hy hg
  have E : Below w.heap.size w w := Below.refl _ _
  go_enter Tryz.func61, Tryz.ntmps61
  go_wp2_with fail
  obtain ⟨V0, hV0⟩ : ∃ V0 : World, V0 = (((w.alloc (.cells #[.bool true, .slice A n c] 24)).alloc (.cells #[.bool true, .slice D k d] 24)).alloc (.cells #[.bool false, .slice none 0 0] 24)) := ⟨_, rfl⟩
  have bV0 : Below w.heap.size w V0 := by rw [hV0]; (repeat (first | with_reducible exact Below.refl _ _ | with_reducible refine Below.alloc ?_ (by first | (simp <;> omega) | omega) _))
  have zV0 : w.heap.size + 3 ≤ V0.heap.size := by rw [hV0]; simp
  have PA : Bk2 V0 (w.heap.size) (.bool true) (.slice A n c) := by rw [hV0]; exact (((Bk2.newAt _ _ (by simp) _ _ _).alloc _).alloc _)
  have PB : Bk2 V0 (w.heap.size + 1) (.bool true) (.slice D k d) := by rw [hV0]; exact ((Bk2.newAt _ _ (by simp) _ _ _).alloc _)
  have PR : Bk2 V0 (w.heap.size + 2) (.bool false) (.slice none 0 0) := by rw [hV0]; exact (Bk2.newAt _ _ (by simp) _ _ _)
  rw [← hV0]
  clear hV0
  replace E := E.trans (bV0.mono E.size)
  replace HA := HA.below bV0 (by omega)
  replace HB := HB.below bV0 (by omega)
  clear bV0
  refine (mul_ok _ B A D n k c d xs ys HA HB (by omega) va vb').mono ?_
  rw [HX.out.val, HY.out.val]
  rintro e w2 (⟨_, A2, k2, c2, x2, rfl, hl2, hr2, hb2⟩ | ⟨hge, _⟩)
  rotate_left
  · exact absurd HG.out (by omega)
  have R2 := Lib.hid hr2
  have K2 := hl2.cap
  have L2 := Lib.hid hl2.len.out
  have sw2 := hb2.size
  clear hr2
  clear HA HB
  replace E := E.trans (hb2.mono E.size)
  replace PA := PA.below hb2 PA.lt
  replace PB := PB.below hb2 PB.lt
  replace PR := PR.below hb2 PR.lt
  clear hb2
  have t_PA0 : (w2.alloc (.cells #[.int .i64 0, .int .i64 0] 28)).cell? ⟨w.heap.size, 0, none⟩ = some ((.bool true)) := (PA.alloc _).c0
  have t_PA1 : (w2.alloc (.cells #[.int .i64 0, .int .i64 0] 28)).cell? ⟨w.heap.size, 1, none⟩ = some ((.slice A n c)) := (PA.alloc _).c1
  have t_PB0 : (w2.alloc (.cells #[.int .i64 0, .int .i64 0] 28)).cell? ⟨w.heap.size + 1, 0, none⟩ = some ((.bool true)) := (PB.alloc _).c0
  have t_PB1 : (w2.alloc (.cells #[.int .i64 0, .int .i64 0] 28)).cell? ⟨w.heap.size + 1, 1, none⟩ = some ((.slice D k d)) := (PB.alloc _).c1
  go_wp2_with fail
  clear t_PA0 t_PA1 t_PB0 t_PB1
  obtain ⟨V1, hV1⟩ : ∃ V1 : World, V1 = (w2.alloc (.cells #[.int .i64 0, .int .i64 0] 28)) := ⟨_, rfl⟩
  have bV1 : Below w2.heap.size w2 V1 := by rw [hV1]; (repeat (first | with_reducible exact Below.refl _ _ | with_reducible refine Below.alloc ?_ (by first | (simp <;> omega) | omega) _))
  have zV1 : w2.heap.size + 1 ≤ V1.heap.size := by rw [hV1]; simp
  have F6 : Bk2 V1 (w2.heap.size) (.int .i64 0) (.int .i64 0) := by rw [hV1]; exact (Bk2.newAt _ _ (by simp) _ _ _)
  rw [← hV1]
  clear hV1
  replace E := E.trans (bV1.mono E.size)
  replace PA := PA.below bV1 PA.lt
  replace PB := PB.below bV1 PB.lt
  replace PR := PR.below bV1 PR.lt
  replace hl2 := hl2.below bV1 (by omega)
  clear bV1
  clear F6
  (with_reducible refine (rsigned_any _ false A2 k2 c2 (by omega)).mono ?_)
  rintro e w3 ⟨rfl, hb3⟩
  have sw3 := hb3.size
  replace E := E.trans (hb3.mono E.size)
  replace PA := PA.below hb3 PA.lt
  replace PB := PB.below hb3 PB.lt
  replace PR := PR.below hb3 PR.lt
  replace hl2 := hl2.below hb3 (by omega)
  clear hb3
  obtain ⟨sg, hsg⟩ : ∃ sg, sg = (false && decide (0 < k2)) := ⟨_, rfl⟩
  have HSG := Lib.hid hsg
  rw [← hsg]
  clear hsg
  have y_PR0 := PR.c0
  have z_PR0 := PR.z0
  have y_PR1 := PR.c1
  have z_PR1 := PR.z1
  have lt_PR := PR.lt
  go_wp2_with fail
  clear y_PR0 z_PR0 y_PR1 z_PR1 lt_PR
  obtain ⟨U2PR, hU2PR⟩ : ∃ U2PR : World, U2PR = ((w3.setCell ⟨w.heap.size + 2, 0, none⟩ (.bool sg)).setCell ⟨w.heap.size + 2, 1, none⟩ (.slice A2 k2 c2)) := ⟨_, rfl⟩
  have zU2PR : U2PR.heap.size = w3.heap.size := by rw [hU2PR]; simp [World.setCell]
  replace E : Below w.heap.size w U2PR := by rw [hU2PR]; exact (E.setCell (by first | (simp; done) | (simp; omega)) _).setCell (by first | (simp; done) | (simp; omega)) _
  replace PA : Bk2 U2PR (w.heap.size) (.bool true) (.slice A n c) := by rw [hU2PR]; exact PA.far2 (by omega) _ _
  replace PB : Bk2 U2PR (w.heap.size + 1) (.bool true) (.slice D k d) := by rw [hU2PR]; exact PB.far2 (by omega) _ _
  replace hl2 : LRd U2PR (w2.heap.size) A2 k2 c2 x2 := by rw [hU2PR]; first | exact hl2.setB PR (by simp) (by simp) _ _ | exact hl2.setFar2 (by omega) _ _
  replace PR : Bk2 U2PR (w.heap.size + 2) (.bool sg) (.slice A2 k2 c2) := by rw [hU2PR]; exact PR.set _ _
  rw [← hU2PR]
  clear hU2PR
  have zU2PR' := Nat.le_of_eq zU2PR
  replace zU2PR := Nat.le_of_eq zU2PR.symm
  obtain ⟨r0, r1, _, _, _⟩ := PR
  have h9 := irep_sg (m := false) R2.out L2.out
  rw [show sval false (p * q) = sval true p * sval true q from mul_tt p q] at h9
  rw [← HSG.out] at h9
  refine bodyPost_ret (v := intv sg A2 k2 c2) (by simp [results, Tryz.results61, go_sem, r0, r1]) rfl ⟨_, A2, k2, c2, x2, rfl, hl2.more (by omega), h9, E⟩
theorem rprod_any (w : World) (B : Nat) (m m2 : Bool) (A D : Option Addr) (n k c d p q : Nat) (xs ys : List Nat) (HA : LRd w B A n c xs) (HB : LRd w B D k d ys) (hB : B ≤ w.heap.size) (hx : Rep 4294967296 xs p) (hy : Rep 4294967296 ys q) (va : vld xs = true) (vb' : vld ys = true) (hg : p * q < Big) :
    Calls Tryz.prog 61 #[intv m A n c, intv m2 D k d] w (GivesV w (sval m p * sval m2 q)) := by
  cases m <;> cases m2
  · exact product_ff w B A D n k c d p q xs ys HA HB hB hx hy va vb' hg
  · exact product_ft w B A D n k c d p q xs ys HA HB hB hx hy va vb' hg
  · exact product_tf w B A D n k c d p q xs ys HA HB hB hx hy va vb' hg
  · exact product_tt w B A D n k c d p q xs ys HA HB hB hx hy va vb' hg
set_option maxHeartbeats 1000000 in
theorem rsum_ff (w : World) (B : Nat) (A D : Option Addr) (n k c d p q : Nat) (xs ys : List Nat) (HA : LRd w B A n c xs) (HB : LRd w B D k d ys) (hB : B ≤ w.heap.size) (hx : Rep 4294967296 xs p) (hy : Rep 4294967296 ys q) (va : vld xs = true) (vb' : vld ys = true) (hg : p + q < Big) :
    Calls Tryz.prog 91 #[intv false A n c, intv false D k d] w (GivesV w (sval false p + sval false q)) := by
  have HX := Lib.hid hx
  have HY := Lib.hid hy
  have HG := Lib.hid hg
  clear hx hy hg
  have E : Below w.heap.size w w := Below.refl _ _
  go_enter Tryz.func91, Tryz.ntmps91
  go_wp2_with fail
  obtain ⟨V0, hV0⟩ : ∃ V0 : World, V0 = (((w.alloc (.cells #[.bool false, .slice A n c] 24)).alloc (.cells #[.bool false, .slice D k d] 24)).alloc (.cells #[.bool false, .slice none 0 0] 24)) := ⟨_, rfl⟩
  have bV0 : Below w.heap.size w V0 := by rw [hV0]; (repeat (first | with_reducible exact Below.refl _ _ | with_reducible refine Below.alloc ?_ (by first | (simp <;> omega) | omega) _))
  have zV0 : w.heap.size + 3 ≤ V0.heap.size := by rw [hV0]; simp
  have PA : Bk2 V0 (w.heap.size) (.bool false) (.slice A n c) := by rw [hV0]; exact (((Bk2.newAt _ _ (by simp) _ _ _).alloc _).alloc _)
  have PB : Bk2 V0 (w.heap.size + 1) (.bool false) (.slice D k d) := by rw [hV0]; exact ((Bk2.newAt _ _ (by simp) _ _ _).alloc _)
  have PR : Bk2 V0 (w.heap.size + 2) (.bool false) (.slice none 0 0) := by rw [hV0]; exact (Bk2.newAt _ _ (by simp) _ _ _)
  rw [← hV0]
  clear hV0
  replace E := E.trans (bV0.mono E.size)
  replace HA := HA.below bV0 (by omega)
  replace HB := HB.below bV0 (by omega)
  clear bV0
  refine (add_ok _ B A D n k c d xs ys HA HB (by omega) va vb').mono ?_
  rw [HX.out.val, HY.out.val]
  rintro e w2 (⟨_, A2, k2, c2, x2, rfl, hl2, hr2, hb2⟩ | ⟨hge, _⟩)
  rotate_left
  · exact absurd HG.out (by omega)
  have R2 := Lib.hid hr2
  have K2 := hl2.cap
  have L2 := Lib.hid hl2.len.out
  have sw2 := hb2.size
  clear hr2
  clear HA HB
  replace E := E.trans (hb2.mono E.size)
  replace PA := PA.below hb2 PA.lt
  replace PB := PB.below hb2 PB.lt
  replace PR := PR.below hb2 PR.lt
  clear hb2
  have t_PA0 : (w2.alloc (.cells #[.int .i64 0, .int .i64 0] 28)).cell? ⟨w.heap.size, 0, none⟩ = some ((.bool false)) := (PA.alloc _).c0
  have t_PA1 : (w2.alloc (.cells #[.int .i64 0, .int .i64 0] 28)).cell? ⟨w.heap.size, 1, none⟩ = some ((.slice A n c)) := (PA.alloc _).c1
  have t_PB0 : (w2.alloc (.cells #[.int .i64 0, .int .i64 0] 28)).cell? ⟨w.heap.size + 1, 0, none⟩ = some ((.bool false)) := (PB.alloc _).c0
  have t_PB1 : (w2.alloc (.cells #[.int .i64 0, .int .i64 0] 28)).cell? ⟨w.heap.size + 1, 1, none⟩ = some ((.slice D k d)) := (PB.alloc _).c1
  go_wp2_with fail
  clear t_PA0 t_PA1 t_PB0 t_PB1
  obtain ⟨V1, hV1⟩ : ∃ V1 : World, V1 = (w2.alloc (.cells #[.int .i64 0, .int .i64 0] 28)) := ⟨_, rfl⟩
  have bV1 : Below w2.heap.size w2 V1 := by rw [hV1]; (repeat (first | with_reducible exact Below.refl _ _ | with_reducible refine Below.alloc ?_ (by first | (simp <;> omega) | omega) _))
  have zV1 : w2.heap.size + 1 ≤ V1.heap.size := by rw [hV1]; simp
  have F6 : Bk2 V1 (w2.heap.size) (.int .i64 0) (.int .i64 0) := by rw [hV1]; exact (Bk2.newAt _ _ (by simp) _ _ _)
  rw [← hV1]
  clear hV1
  replace E := E.trans (bV1.mono E.size)
  replace PA := PA.below bV1 PA.lt
  replace PB := PB.below bV1 PB.lt
  replace PR := PR.below bV1 PR.lt
  replace hl2 := hl2.below bV1 (by omega)
  clear bV1
  clear F6
  (with_reducible refine (rsigned_any _ false A2 k2 c2 (by omega)).mono ?_)
  rintro e w13 ⟨rfl, hb3⟩
  have sw13 := hb3.size
  replace E := E.trans (hb3.mono E.size)
  replace PA := PA.below hb3 PA.lt
  replace PB := PB.below hb3 PB.lt
  replace PR := PR.below hb3 PR.lt
  replace hl2 := hl2.below hb3 (by omega)
  clear hb3
  obtain ⟨sg, hsg⟩ : ∃ sg, sg = (false && decide (0 < k2)) := ⟨_, rfl⟩
  have HSG := Lib.hid hsg
  rw [← hsg]
  clear hsg
  have y_PR0 := PR.c0
  have z_PR0 := PR.z0
  have y_PR1 := PR.c1
  have z_PR1 := PR.z1
  have lt_PR := PR.lt
  go_wp2_with fail
  clear y_PR0 z_PR0 y_PR1 z_PR1 lt_PR
  obtain ⟨U2PR, hU2PR⟩ : ∃ U2PR : World, U2PR = ((w13.setCell ⟨w.heap.size + 2, 0, none⟩ (.bool sg)).setCell ⟨w.heap.size + 2, 1, none⟩ (.slice A2 k2 c2)) := ⟨_, rfl⟩
  have zU2PR : U2PR.heap.size = w13.heap.size := by rw [hU2PR]; simp [World.setCell]
  replace E : Below w.heap.size w U2PR := by rw [hU2PR]; exact (E.setCell (by first | (simp; done) | (simp; omega)) _).setCell (by first | (simp; done) | (simp; omega)) _
  replace PA : Bk2 U2PR (w.heap.size) (.bool false) (.slice A n c) := by rw [hU2PR]; exact PA.far2 (by omega) _ _
  replace PB : Bk2 U2PR (w.heap.size + 1) (.bool false) (.slice D k d) := by rw [hU2PR]; exact PB.far2 (by omega) _ _
  replace hl2 : LRd U2PR (w2.heap.size) A2 k2 c2 x2 := by rw [hU2PR]; first | exact hl2.setB PR (by simp) (by simp) _ _ | exact hl2.setFar2 (by omega) _ _
  replace PR : Bk2 U2PR (w.heap.size + 2) (.bool sg) (.slice A2 k2 c2) := by rw [hU2PR]; exact PR.set _ _
  rw [← hU2PR]
  clear hU2PR
  have zU2PR' := Nat.le_of_eq zU2PR
  replace zU2PR := Nat.le_of_eq zU2PR.symm
  obtain ⟨r0, r1, _, _, _⟩ := PR
  have h9 := irep_sg (m := false) R2.out L2.out
  rw [show sval false (p + q) = sval false p + sval false q by unfold sval; simp] at h9
  rw [← HSG.out] at h9
  refine bodyPost_ret (v := intv sg A2 k2 c2) (by simp [results, Tryz.results91, go_sem, r0, r1]) rfl ⟨_, A2, k2, c2, x2, rfl, hl2.more (by omega), h9, E⟩
set_option maxHeartbeats 1000000 in
theorem rsum_tt (w : World) (B : Nat) (A D : Option Addr) (n k c d p q : Nat) (xs ys : List Nat) (HA : LRd w B A n c xs) (HB : LRd w B D k d ys) (hB : B ≤ w.heap.size) (hx : Rep 4294967296 xs p) (hy : Rep 4294967296 ys q) (va : vld xs = true) (vb' : vld ys = true) (hg : p + q < Big) :
    Calls Tryz.prog 91 #[intv true A n c, intv true D k d] w (GivesV w (sval true p + sval true q)) := by
  have HX := Lib.hid hx
  have HY := Lib.hid hy
  have HG := Lib.hid hg
  clear hx hy hg
  have E : Below w.heap.size w w := Below.refl _ _
  go_enter Tryz.func91, Tryz.ntmps91
  go_wp2_with fail
  obtain ⟨V0, hV0⟩ : ∃ V0 : World, V0 = (((w.alloc (.cells #[.bool true, .slice A n c] 24)).alloc (.cells #[.bool true, .slice D k d] 24)).alloc (.cells #[.bool false, .slice none 0 0] 24)) := ⟨_, rfl⟩
  have bV0 : Below w.heap.size w V0 := by rw [hV0]; (repeat (first | with_reducible exact Below.refl _ _ | with_reducible refine Below.alloc ?_ (by first | (simp <;> omega) | omega) _))
  have zV0 : w.heap.size + 3 ≤ V0.heap.size := by rw [hV0]; simp
  have PA : Bk2 V0 (w.heap.size) (.bool true) (.slice A n c) := by rw [hV0]; exact (((Bk2.newAt _ _ (by simp) _ _ _).alloc _).alloc _)
  have PB : Bk2 V0 (w.heap.size + 1) (.bool true) (.slice D k d) := by rw [hV0]; exact ((Bk2.newAt _ _ (by simp) _ _ _).alloc _)
  have PR : Bk2 V0 (w.heap.size + 2) (.bool false) (.slice none 0 0) := by rw [hV0]; exact (Bk2.newAt _ _ (by simp) _ _ _)
  rw [← hV0]
  clear hV0
  replace E := E.trans (bV0.mono E.size)
  replace HA := HA.below bV0 (by omega)
  replace HB := HB.below bV0 (by omega)
  clear bV0
  refine (add_ok _ B A D n k c d xs ys HA HB (by omega) va vb').mono ?_
  rw [HX.out.val, HY.out.val]
  rintro e w2 (⟨_, A2, k2, c2, x2, rfl, hl2, hr2, hb2⟩ | ⟨hge, _⟩)
  rotate_left
  · exact absurd HG.out (by omega)
  have R2 := Lib.hid hr2
  have K2 := hl2.cap
  have L2 := Lib.hid hl2.len.out
  have sw2 := hb2.size
  clear hr2
  clear HA HB
  replace E := E.trans (hb2.mono E.size)
  replace PA := PA.below hb2 PA.lt
  replace PB := PB.below hb2 PB.lt
  replace PR := PR.below hb2 PR.lt
  clear hb2
  have t_PA0 : (w2.alloc (.cells #[.int .i64 0, .int .i64 0] 28)).cell? ⟨w.heap.size, 0, none⟩ = some ((.bool true)) := (PA.alloc _).c0
  have t_PA1 : (w2.alloc (.cells #[.int .i64 0, .int .i64 0] 28)).cell? ⟨w.heap.size, 1, none⟩ = some ((.slice A n c)) := (PA.alloc _).c1
  have t_PB0 : (w2.alloc (.cells #[.int .i64 0, .int .i64 0] 28)).cell? ⟨w.heap.size + 1, 0, none⟩ = some ((.bool true)) := (PB.alloc _).c0
  have t_PB1 : (w2.alloc (.cells #[.int .i64 0, .int .i64 0] 28)).cell? ⟨w.heap.size + 1, 1, none⟩ = some ((.slice D k d)) := (PB.alloc _).c1
  go_wp2_with fail
  clear t_PA0 t_PA1 t_PB0 t_PB1
  obtain ⟨V1, hV1⟩ : ∃ V1 : World, V1 = (w2.alloc (.cells #[.int .i64 0, .int .i64 0] 28)) := ⟨_, rfl⟩
  have bV1 : Below w2.heap.size w2 V1 := by rw [hV1]; (repeat (first | with_reducible exact Below.refl _ _ | with_reducible refine Below.alloc ?_ (by first | (simp <;> omega) | omega) _))
  have zV1 : w2.heap.size + 1 ≤ V1.heap.size := by rw [hV1]; simp
  have F6 : Bk2 V1 (w2.heap.size) (.int .i64 0) (.int .i64 0) := by rw [hV1]; exact (Bk2.newAt _ _ (by simp) _ _ _)
  rw [← hV1]
  clear hV1
  replace E := E.trans (bV1.mono E.size)
  replace PA := PA.below bV1 PA.lt
  replace PB := PB.below bV1 PB.lt
  replace PR := PR.below bV1 PR.lt
  replace hl2 := hl2.below bV1 (by omega)
  clear bV1
  clear F6
  (with_reducible refine (rsigned_any _ true A2 k2 c2 (by omega)).mono ?_)
  rintro e w13 ⟨rfl, hb3⟩
  have sw13 := hb3.size
  replace E := E.trans (hb3.mono E.size)
  replace PA := PA.below hb3 PA.lt
  replace PB := PB.below hb3 PB.lt
  replace PR := PR.below hb3 PR.lt
  replace hl2 := hl2.below hb3 (by omega)
  clear hb3
  obtain ⟨sg, hsg⟩ : ∃ sg, sg = (true && decide (0 < k2)) := ⟨_, rfl⟩
  have HSG := Lib.hid hsg
  rw [← hsg]
  clear hsg
  have y_PR0 := PR.c0
  have z_PR0 := PR.z0
  have y_PR1 := PR.c1
  have z_PR1 := PR.z1
  have lt_PR := PR.lt
  go_wp2_with fail
  clear y_PR0 z_PR0 y_PR1 z_PR1 lt_PR
  obtain ⟨U2PR, hU2PR⟩ : ∃ U2PR : World, U2PR = ((w13.setCell ⟨w.heap.size + 2, 0, none⟩ (.bool sg)).setCell ⟨w.heap.size + 2, 1, none⟩ (.slice A2 k2 c2)) := ⟨_, rfl⟩
  have zU2PR : U2PR.heap.size = w13.heap.size := by rw [hU2PR]; simp [World.setCell]
  replace E : Below w.heap.size w U2PR := by rw [hU2PR]; exact (E.setCell (by first | (simp; done) | (simp; omega)) _).setCell (by first | (simp; done) | (simp; omega)) _
  replace PA : Bk2 U2PR (w.heap.size) (.bool true) (.slice A n c) := by rw [hU2PR]; exact PA.far2 (by omega) _ _
  replace PB : Bk2 U2PR (w.heap.size + 1) (.bool true) (.slice D k d) := by rw [hU2PR]; exact PB.far2 (by omega) _ _
  replace hl2 : LRd U2PR (w2.heap.size) A2 k2 c2 x2 := by rw [hU2PR]; first | exact hl2.setB PR (by simp) (by simp) _ _ | exact hl2.setFar2 (by omega) _ _
  replace PR : Bk2 U2PR (w.heap.size + 2) (.bool sg) (.slice A2 k2 c2) := by rw [hU2PR]; exact PR.set _ _
  rw [← hU2PR]
  clear hU2PR
  have zU2PR' := Nat.le_of_eq zU2PR
  replace zU2PR := Nat.le_of_eq zU2PR.symm
  obtain ⟨r0, r1, _, _, _⟩ := PR
  have h9 := irep_sg (m := true) R2.out L2.out
  rw [show sval true (p + q) = sval true p + sval true q by unfold sval; simp; omega] at h9
  rw [← HSG.out] at h9
  refine bodyPost_ret (v := intv sg A2 k2 c2) (by simp [results, Tryz.results91, go_sem, r0, r1]) rfl ⟨_, A2, k2, c2, x2, rfl, hl2.more (by omega), h9, E⟩
set_option maxHeartbeats 1000000 in
theorem rsum_ft (w : World) (B : Nat) (A D : Option Addr) (n k c d p q : Nat) (xs ys : List Nat) (HA : LRd w B A n c xs) (HB : LRd w B D k d ys) (hB : B ≤ w.heap.size) (hx : Rep 4294967296 xs p) (hy : Rep 4294967296 ys q) (va : vld xs = true) (vb' : vld ys = true) (hg : p + q < Big) :
    Calls Tryz.prog 91 #[intv false A n c, intv true D k d] w (GivesV w (sval false p + sval true q)) := by
  have HX := Lib.hid hx
  have HY := Lib.hid hy
  have HG := Lib.hid hg
  clear hx hy hg
  have E : Below w.heap.size w w := Below.refl _ _
  go_enter Tryz.func91, Tryz.ntmps91
  go_wp2_with fail
  obtain ⟨V0, hV0⟩ : ∃ V0 : World, V0 = (((w.alloc (.cells #[.bool false, .slice A n c] 24)).alloc (.cells #[.bool true, .slice D k d] 24)).alloc (.cells #[.bool false, .slice none 0 0] 24)) := ⟨_, rfl⟩
  have bV0 : Below w.heap.size w V0 := by rw [hV0]; (repeat (first | with_reducible exact Below.refl _ _ | with_reducible refine Below.alloc ?_ (by first | (simp <;> omega) | omega) _))
  have zV0 : w.heap.size + 3 ≤ V0.heap.size := by rw [hV0]; simp
  have PA : Bk2 V0 (w.heap.size) (.bool false) (.slice A n c) := by rw [hV0]; exact (((Bk2.newAt _ _ (by simp) _ _ _).alloc _).alloc _)
  have PB : Bk2 V0 (w.heap.size + 1) (.bool true) (.slice D k d) := by rw [hV0]; exact ((Bk2.newAt _ _ (by simp) _ _ _).alloc _)
  have PR : Bk2 V0 (w.heap.size + 2) (.bool false) (.slice none 0 0) := by rw [hV0]; exact (Bk2.newAt _ _ (by simp) _ _ _)
  rw [← hV0]
  clear hV0
  replace E := E.trans (bV0.mono E.size)
  replace HA := HA.below bV0 (by omega)
  replace HB := HB.below bV0 (by omega)
  clear bV0
  refine (cmp_ok _ B A D n k c d xs ys HA HB (by omega) va vb').mono ?_
  rw [HX.out.val, HY.out.val]
  rintro e w1 ⟨r, hcv, rfl, hb1⟩
  have sw1 := hb1.size
  have hr3 : r = -1 ∨ r = 0 ∨ r = 1 := by unfold CmpV at hcv; omega
  have HC := Lib.hid (show (r < 0 ∧ p < q) ∨ (0 ≤ r ∧ q ≤ p) by unfold CmpV at hcv; omega)
  clear hcv
  replace E := E.trans (hb1.mono E.size)
  replace HA := HA.below hb1 (by omega)
  replace HB := HB.below hb1 (by omega)
  replace PA := PA.below hb1 PA.lt
  replace PB := PB.below hb1 PB.lt
  replace PR := PR.below hb1 PR.lt
  clear hb1

  rcases HC.out with ⟨hrn, hpq⟩ | ⟨hrn, hpq⟩
  · have HPQ := Lib.hid hpq
    clear hpq HC hr3
    have y_PA0 := PA.c0
    have z_PA0 := PA.z0
    have y_PA1 := PA.c1
    have z_PA1 := PA.z1
    have lt_PA := PA.lt
    have y_PB0 := PB.c0
    have z_PB0 := PB.z0
    have y_PB1 := PB.c1
    have z_PB1 := PB.z1
    have lt_PB := PB.lt
    go_wp2_with fail
    clear y_PA0 z_PA0 y_PA1 z_PA1 lt_PA y_PB0 z_PB0 y_PB1 z_PB1 lt_PB
    obtain ⟨U2PA, hU2PA⟩ : ∃ U2PA : World, U2PA = ((w1.setCell ⟨w.heap.size, 0, none⟩ (.bool true)).setCell ⟨w.heap.size, 1, none⟩ (.slice D k d)) := ⟨_, rfl⟩
    have zU2PA : U2PA.heap.size = w1.heap.size := by rw [hU2PA]; simp [World.setCell]
    replace E : Below w.heap.size w U2PA := by rw [hU2PA]; exact (E.setCell (by first | (simp; done) | (simp; omega)) _).setCell (by first | (simp; done) | (simp; omega)) _
    replace HA : LRd U2PA (B) A n c xs := by rw [hU2PA]; first | exact HA.setB PA (by simp) (by simp) _ _ | exact HA.setFar2 (by omega) _ _
    replace HB : LRd U2PA (B) D k d ys := by rw [hU2PA]; first | exact HB.setB PA (by simp) (by simp) _ _ | exact HB.setFar2 (by omega) _ _
    replace PB : Bk2 U2PA (w.heap.size + 1) (.bool true) (.slice D k d) := by rw [hU2PA]; exact PB.far2 (by omega) _ _
    replace PR : Bk2 U2PA (w.heap.size + 2) (.bool false) (.slice none 0 0) := by rw [hU2PA]; exact PR.far2 (by omega) _ _
    replace PA : Bk2 U2PA (w.heap.size) (.bool true) (.slice D k d) := by rw [hU2PA]; exact PA.set _ _
    rw [← hU2PA]
    clear hU2PA
    have zU2PA' := Nat.le_of_eq zU2PA
    replace zU2PA := Nat.le_of_eq zU2PA.symm
    obtain ⟨U2PB, hU2PB⟩ : ∃ U2PB : World, U2PB = ((U2PA.setCell ⟨w.heap.size + 1, 0, none⟩ (.bool false)).setCell ⟨w.heap.size + 1, 1, none⟩ (.slice A n c)) := ⟨_, rfl⟩
    have zU2PB : U2PB.heap.size = U2PA.heap.size := by rw [hU2PB]; simp [World.setCell]
    replace E : Below w.heap.size w U2PB := by rw [hU2PB]; exact (E.setCell (by first | (simp; done) | (simp; omega)) _).setCell (by first | (simp; done) | (simp; omega)) _
    replace HA : LRd U2PB (B) A n c xs := by rw [hU2PB]; first | exact HA.setB PB (by simp) (by simp) _ _ | exact HA.setFar2 (by omega) _ _
    replace HB : LRd U2PB (B) D k d ys := by rw [hU2PB]; first | exact HB.setB PB (by simp) (by simp) _ _ | exact HB.setFar2 (by omega) _ _
    replace PA : Bk2 U2PB (w.heap.size) (.bool true) (.slice D k d) := by rw [hU2PB]; exact PA.far2 (by omega) _ _
    replace PR : Bk2 U2PB (w.heap.size + 2) (.bool false) (.slice none 0 0) := by rw [hU2PB]; exact PR.far2 (by omega) _ _
    replace PB : Bk2 U2PB (w.heap.size + 1) (.bool false) (.slice A n c) := by rw [hU2PB]; exact PB.set _ _
    rw [← hU2PB]
    clear hU2PB
    have zU2PB' := Nat.le_of_eq zU2PB
    replace zU2PB := Nat.le_of_eq zU2PB.symm
    obtain ⟨V2, hV2⟩ : ∃ V2 : World, V2 = (U2PB.alloc (.cells #[.int .i64 0, .int .i64 0] 28)) := ⟨_, rfl⟩
    have bV2 : Below U2PB.heap.size U2PB V2 := by rw [hV2]; (repeat (first | with_reducible exact Below.refl _ _ | with_reducible refine Below.alloc ?_ (by first | (simp <;> omega) | omega) _))
    have zV2 : U2PB.heap.size + 1 ≤ V2.heap.size := by rw [hV2]; simp
    have F8 : Bk2 V2 (w1.heap.size) (.int .i64 0) (.int .i64 0) := by rw [hV2]; exact (Bk2.newAt _ _ (by first | omega | (simp; done) | (simp; omega)) _ _ _)
    rw [← hV2]
    clear hV2
    replace E := E.trans (bV2.mono E.size)
    replace HA := HA.below bV2 (by omega)
    replace HB := HB.below bV2 (by omega)
    replace PA := PA.below bV2 PA.lt
    replace PB := PB.below bV2 PB.lt
    replace PR := PR.below bV2 PR.lt
    clear bV2
    clear F8
    refine (sub_ok _ B D A k n d c ys xs HB HA (by omega) vb' va).mono ?_
    rw [HX.out.val, HY.out.val]
    rintro e w2 (⟨_, A2, k2, c2, x2, rfl, hl2, hr2, hb2⟩ | ⟨hlt, _⟩)
    rotate_left
    · exact absurd hlt (by have := HPQ.out; omega)
    have R2 := Lib.hid hr2
    have K2 := hl2.cap
    have L2 := Lib.hid hl2.len.out
    have sw2 := hb2.size
    clear hr2
    clear HA HB
    replace E := E.trans (hb2.mono E.size)
    replace PA := PA.below hb2 PA.lt
    replace PB := PB.below hb2 PB.lt
    replace PR := PR.below hb2 PR.lt
    clear hb2
    have t_PA0 : (w2.alloc (.cells #[.int .i64 0, .int .i64 0] 28)).cell? ⟨w.heap.size, 0, none⟩ = some ((.bool true)) := (PA.alloc _).c0
    have t_PA1 : (w2.alloc (.cells #[.int .i64 0, .int .i64 0] 28)).cell? ⟨w.heap.size, 1, none⟩ = some ((.slice D k d)) := (PA.alloc _).c1
    have t_PB0 : (w2.alloc (.cells #[.int .i64 0, .int .i64 0] 28)).cell? ⟨w.heap.size + 1, 0, none⟩ = some ((.bool false)) := (PB.alloc _).c0
    have t_PB1 : (w2.alloc (.cells #[.int .i64 0, .int .i64 0] 28)).cell? ⟨w.heap.size + 1, 1, none⟩ = some ((.slice A n c)) := (PB.alloc _).c1
    go_wp2_with fail
    clear t_PA0 t_PA1 t_PB0 t_PB1
    obtain ⟨V3, hV3⟩ : ∃ V3 : World, V3 = (w2.alloc (.cells #[.int .i64 0, .int .i64 0] 28)) := ⟨_, rfl⟩
    have bV3 : Below w2.heap.size w2 V3 := by rw [hV3]; (repeat (first | with_reducible exact Below.refl _ _ | with_reducible refine Below.alloc ?_ (by first | (simp <;> omega) | omega) _))
    have zV3 : w2.heap.size + 1 ≤ V3.heap.size := by rw [hV3]; simp
    have F6 : Bk2 V3 (w2.heap.size) (.int .i64 0) (.int .i64 0) := by rw [hV3]; exact (Bk2.newAt _ _ (by simp) _ _ _)
    rw [← hV3]
    clear hV3
    replace E := E.trans (bV3.mono E.size)
    replace PA := PA.below bV3 PA.lt
    replace PB := PB.below bV3 PB.lt
    replace PR := PR.below bV3 PR.lt
    replace hl2 := hl2.below bV3 (by omega)
    clear bV3
    clear F6
    (with_reducible refine (rsigned_any _ true A2 k2 c2 (by omega)).mono ?_)
    rintro e w13 ⟨rfl, hb3⟩
    have sw13 := hb3.size
    replace E := E.trans (hb3.mono E.size)
    replace PA := PA.below hb3 PA.lt
    replace PB := PB.below hb3 PB.lt
    replace PR := PR.below hb3 PR.lt
    replace hl2 := hl2.below hb3 (by omega)
    clear hb3
    obtain ⟨sg, hsg⟩ : ∃ sg, sg = (true && decide (0 < k2)) := ⟨_, rfl⟩
    have HSG := Lib.hid hsg
    rw [← hsg]
    clear hsg
    have y_PR0 := PR.c0
    have z_PR0 := PR.z0
    have y_PR1 := PR.c1
    have z_PR1 := PR.z1
    have lt_PR := PR.lt
    go_wp2_with fail
    clear y_PR0 z_PR0 y_PR1 z_PR1 lt_PR
    obtain ⟨U4PR, hU4PR⟩ : ∃ U4PR : World, U4PR = ((w13.setCell ⟨w.heap.size + 2, 0, none⟩ (.bool sg)).setCell ⟨w.heap.size + 2, 1, none⟩ (.slice A2 k2 c2)) := ⟨_, rfl⟩
    have zU4PR : U4PR.heap.size = w13.heap.size := by rw [hU4PR]; simp [World.setCell]
    replace E : Below w.heap.size w U4PR := by rw [hU4PR]; exact (E.setCell (by first | (simp; done) | (simp; omega)) _).setCell (by first | (simp; done) | (simp; omega)) _
    replace PA : Bk2 U4PR (w.heap.size) (.bool true) (.slice D k d) := by rw [hU4PR]; exact PA.far2 (by omega) _ _
    replace PB : Bk2 U4PR (w.heap.size + 1) (.bool false) (.slice A n c) := by rw [hU4PR]; exact PB.far2 (by omega) _ _
    replace hl2 : LRd U4PR (w2.heap.size) A2 k2 c2 x2 := by rw [hU4PR]; first | exact hl2.setB PR (by simp) (by simp) _ _ | exact hl2.setFar2 (by omega) _ _
    replace PR : Bk2 U4PR (w.heap.size + 2) (.bool sg) (.slice A2 k2 c2) := by rw [hU4PR]; exact PR.set _ _
    rw [← hU4PR]
    clear hU4PR
    have zU4PR' := Nat.le_of_eq zU4PR
    replace zU4PR := Nat.le_of_eq zU4PR.symm
    obtain ⟨r0, r1, _, _, _⟩ := PR
    have h9 := irep_sg (m := true) R2.out L2.out
    rw [show sval true (q - p) = sval false p + sval true q by have := HPQ.out; unfold sval; simp; omega] at h9
    rw [← HSG.out] at h9
    refine bodyPost_ret (v := intv sg A2 k2 c2) (by simp [results, Tryz.results91, go_sem, r0, r1]) rfl ⟨_, A2, k2, c2, x2, rfl, hl2.more (by omega), h9, E⟩
  · have HPQ := Lib.hid hpq
    clear hpq HC hr3
    have t_PA0 : (w1.alloc (.cells #[.int .i64 0, .int .i64 0] 28)).cell? ⟨w.heap.size, 0, none⟩ = some ((.bool false)) := (PA.alloc _).c0
    have t_PA1 : (w1.alloc (.cells #[.int .i64 0, .int .i64 0] 28)).cell? ⟨w.heap.size, 1, none⟩ = some ((.slice A n c)) := (PA.alloc _).c1
    have t_PB0 : (w1.alloc (.cells #[.int .i64 0, .int .i64 0] 28)).cell? ⟨w.heap.size + 1, 0, none⟩ = some ((.bool true)) := (PB.alloc _).c0
    have t_PB1 : (w1.alloc (.cells #[.int .i64 0, .int .i64 0] 28)).cell? ⟨w.heap.size + 1, 1, none⟩ = some ((.slice D k d)) := (PB.alloc _).c1
    go_wp2_with fail
    clear t_PA0 t_PA1 t_PB0 t_PB1
    obtain ⟨V2, hV2⟩ : ∃ V2 : World, V2 = (w1.alloc (.cells #[.int .i64 0, .int .i64 0] 28)) := ⟨_, rfl⟩
    have bV2 : Below w1.heap.size w1 V2 := by rw [hV2]; (repeat (first | with_reducible exact Below.refl _ _ | with_reducible refine Below.alloc ?_ (by first | (simp <;> omega) | omega) _))
    have zV2 : w1.heap.size + 1 ≤ V2.heap.size := by rw [hV2]; simp
    have F8 : Bk2 V2 (w1.heap.size) (.int .i64 0) (.int .i64 0) := by rw [hV2]; exact (Bk2.newAt _ _ (by simp) _ _ _)
    rw [← hV2]
    clear hV2
    replace E := E.trans (bV2.mono E.size)
    replace HA := HA.below bV2 (by omega)
    replace HB := HB.below bV2 (by omega)
    replace PA := PA.below bV2 PA.lt
    replace PB := PB.below bV2 PB.lt
    replace PR := PR.below bV2 PR.lt
    clear bV2
    clear F8
    refine (sub_ok _ B A D n k c d xs ys HA HB (by omega) va vb').mono ?_
    rw [HX.out.val, HY.out.val]
    rintro e w2 (⟨_, A2, k2, c2, x2, rfl, hl2, hr2, hb2⟩ | ⟨hlt, _⟩)
    rotate_left
    · exact absurd hlt (by have := HPQ.out; omega)
    have R2 := Lib.hid hr2
    have K2 := hl2.cap
    have L2 := Lib.hid hl2.len.out
    have sw2 := hb2.size
    clear hr2
    clear HA HB
    replace E := E.trans (hb2.mono E.size)
    replace PA := PA.below hb2 PA.lt
    replace PB := PB.below hb2 PB.lt
    replace PR := PR.below hb2 PR.lt
    clear hb2
    have t_PA0 : (w2.alloc (.cells #[.int .i64 0, .int .i64 0] 28)).cell? ⟨w.heap.size, 0, none⟩ = some ((.bool false)) := (PA.alloc _).c0
    have t_PA1 : (w2.alloc (.cells #[.int .i64 0, .int .i64 0] 28)).cell? ⟨w.heap.size, 1, none⟩ = some ((.slice A n c)) := (PA.alloc _).c1
    have t_PB0 : (w2.alloc (.cells #[.int .i64 0, .int .i64 0] 28)).cell? ⟨w.heap.size + 1, 0, none⟩ = some ((.bool true)) := (PB.alloc _).c0
    have t_PB1 : (w2.alloc (.cells #[.int .i64 0, .int .i64 0] 28)).cell? ⟨w.heap.size + 1, 1, none⟩ = some ((.slice D k d)) := (PB.alloc _).c1
    go_wp2_with fail
    clear t_PA0 t_PA1 t_PB0 t_PB1
    obtain ⟨V3, hV3⟩ : ∃ V3 : World, V3 = (w2.alloc (.cells #[.int .i64 0, .int .i64 0] 28)) := ⟨_, rfl⟩
    have bV3 : Below w2.heap.size w2 V3 := by rw [hV3]; (repeat (first | with_reducible exact Below.refl _ _ | with_reducible refine Below.alloc ?_ (by first | (simp <;> omega) | omega) _))
    have zV3 : w2.heap.size + 1 ≤ V3.heap.size := by rw [hV3]; simp
    have F6 : Bk2 V3 (w2.heap.size) (.int .i64 0) (.int .i64 0) := by rw [hV3]; exact (Bk2.newAt _ _ (by simp) _ _ _)
    rw [← hV3]
    clear hV3
    replace E := E.trans (bV3.mono E.size)
    replace PA := PA.below bV3 PA.lt
    replace PB := PB.below bV3 PB.lt
    replace PR := PR.below bV3 PR.lt
    replace hl2 := hl2.below bV3 (by omega)
    clear bV3
    clear F6
    (with_reducible refine (rsigned_any _ false A2 k2 c2 (by omega)).mono ?_)
    rintro e w13 ⟨rfl, hb3⟩
    have sw13 := hb3.size
    replace E := E.trans (hb3.mono E.size)
    replace PA := PA.below hb3 PA.lt
    replace PB := PB.below hb3 PB.lt
    replace PR := PR.below hb3 PR.lt
    replace hl2 := hl2.below hb3 (by omega)
    clear hb3
    obtain ⟨sg, hsg⟩ : ∃ sg, sg = (false && decide (0 < k2)) := ⟨_, rfl⟩
    have HSG := Lib.hid hsg
    rw [← hsg]
    clear hsg
    have y_PR0 := PR.c0
    have z_PR0 := PR.z0
    have y_PR1 := PR.c1
    have z_PR1 := PR.z1
    have lt_PR := PR.lt
    go_wp2_with fail
    clear y_PR0 z_PR0 y_PR1 z_PR1 lt_PR
    obtain ⟨U4PR, hU4PR⟩ : ∃ U4PR : World, U4PR = ((w13.setCell ⟨w.heap.size + 2, 0, none⟩ (.bool sg)).setCell ⟨w.heap.size + 2, 1, none⟩ (.slice A2 k2 c2)) := ⟨_, rfl⟩
    have zU4PR : U4PR.heap.size = w13.heap.size := by rw [hU4PR]; simp [World.setCell]
    replace E : Below w.heap.size w U4PR := by rw [hU4PR]; exact (E.setCell (by first | (simp; done) | (simp; omega)) _).setCell (by first | (simp; done) | (simp; omega)) _
    replace PA : Bk2 U4PR (w.heap.size) (.bool false) (.slice A n c) := by rw [hU4PR]; exact PA.far2 (by omega) _ _
    replace PB : Bk2 U4PR (w.heap.size + 1) (.bool true) (.slice D k d) := by rw [hU4PR]; exact PB.far2 (by omega) _ _
    replace hl2 : LRd U4PR (w2.heap.size) A2 k2 c2 x2 := by rw [hU4PR]; first | exact hl2.setB PR (by simp) (by simp) _ _ | exact hl2.setFar2 (by omega) _ _
    replace PR : Bk2 U4PR (w.heap.size + 2) (.bool sg) (.slice A2 k2 c2) := by rw [hU4PR]; exact PR.set _ _
    rw [← hU4PR]
    clear hU4PR
    have zU4PR' := Nat.le_of_eq zU4PR
    replace zU4PR := Nat.le_of_eq zU4PR.symm
    obtain ⟨r0, r1, _, _, _⟩ := PR
    have h9 := irep_sg (m := false) R2.out L2.out
    rw [show sval false (p - q) = sval false p + sval true q by have := HPQ.out; unfold sval; simp; omega] at h9
    rw [← HSG.out] at h9
    refine bodyPost_ret (v := intv sg A2 k2 c2) (by simp [results, Tryz.results91, go_sem, r0, r1]) rfl ⟨_, A2, k2, c2, x2, rfl, hl2.more (by omega), h9, E⟩
set_option maxHeartbeats 1000000 in
theorem rsum_tf (w : World) (B : Nat) (A D : Option Addr) (n k c d p q : Nat) (xs ys : List Nat) (HA : LRd w B A n c xs) (HB : LRd w B D k d ys) (hB : B ≤ w.heap.size) (hx : Rep 4294967296 xs p) (hy : Rep 4294967296 ys q) (va : vld xs = true) (vb' : vld ys = true) (hg : p + q < Big) :
    Calls Tryz.prog 91 #[intv true A n c, intv false D k d] w (GivesV w (sval true p + sval false q)) := by
  have HX := Lib.hid hx
  have HY := Lib.hid hy
  have HG := Lib.hid hg
  clear hx hy hg
  have E : Below w.heap.size w w := Below.refl _ _
  go_enter Tryz.func91, Tryz.ntmps91
  go_wp2_with fail
  obtain ⟨V0, hV0⟩ : ∃ V0 : World, V0 = (((w.alloc (.cells #[.bool true, .slice A n c] 24)).alloc (.cells #[.bool false, .slice D k d] 24)).alloc (.cells #[.bool false, .slice none 0 0] 24)) := ⟨_, rfl⟩
  have bV0 : Below w.heap.size w V0 := by rw [hV0]; (repeat (first | with_reducible exact Below.refl _ _ | with_reducible refine Below.alloc ?_ (by first | (simp <;> omega) | omega) _))
  have zV0 : w.heap.size + 3 ≤ V0.heap.size := by rw [hV0]; simp
  have PA : Bk2 V0 (w.heap.size) (.bool true) (.slice A n c) := by rw [hV0]; exact (((Bk2.newAt _ _ (by simp) _ _ _).alloc _).alloc _)
  have PB : Bk2 V0 (w.heap.size + 1) (.bool false) (.slice D k d) := by rw [hV0]; exact ((Bk2.newAt _ _ (by simp) _ _ _).alloc _)
  have PR : Bk2 V0 (w.heap.size + 2) (.bool false) (.slice none 0 0) := by rw [hV0]; exact (Bk2.newAt _ _ (by simp) _ _ _)
  rw [← hV0]
  clear hV0
  replace E := E.trans (bV0.mono E.size)
  replace HA := HA.below bV0 (by omega)
  replace HB := HB.below bV0 (by omega)
  clear bV0
  refine (cmp_ok _ B A D n k c d xs ys HA HB (by omega) va vb').mono ?_
  rw [HX.out.val, HY.out.val]
  rintro e w1 ⟨r, hcv, rfl, hb1⟩
  have sw1 := hb1.size
  have hr3 : r = -1 ∨ r = 0 ∨ r = 1 := by unfold CmpV at hcv; omega
  have HC := Lib.hid (show (r < 0 ∧ p < q) ∨ (0 ≤ r ∧ q ≤ p) by unfold CmpV at hcv; omega)
  clear hcv
  replace E := E.trans (hb1.mono E.size)
  replace HA := HA.below hb1 (by omega)
  replace HB := HB.below hb1 (by omega)
  replace PA := PA.below hb1 PA.lt
  replace PB := PB.below hb1 PB.lt
  replace PR := PR.below hb1 PR.lt
  clear hb1

  rcases HC.out with ⟨hrn, hpq⟩ | ⟨hrn, hpq⟩
  · have HPQ := Lib.hid hpq
    clear hpq HC hr3
    have y_PA0 := PA.c0
    have z_PA0 := PA.z0
    have y_PA1 := PA.c1
    have z_PA1 := PA.z1
    have lt_PA := PA.lt
    have y_PB0 := PB.c0
    have z_PB0 := PB.z0
    have y_PB1 := PB.c1
    have z_PB1 := PB.z1
    have lt_PB := PB.lt
    go_wp2_with fail
    clear y_PA0 z_PA0 y_PA1 z_PA1 lt_PA y_PB0 z_PB0 y_PB1 z_PB1 lt_PB
    obtain ⟨U2PA, hU2PA⟩ : ∃ U2PA : World, U2PA = ((w1.setCell ⟨w.heap.size, 0, none⟩ (.bool false)).setCell ⟨w.heap.size, 1, none⟩ (.slice D k d)) := ⟨_, rfl⟩
    have zU2PA : U2PA.heap.size = w1.heap.size := by rw [hU2PA]; simp [World.setCell]
    replace E : Below w.heap.size w U2PA := by rw [hU2PA]; exact (E.setCell (by first | (simp; done) | (simp; omega)) _).setCell (by first | (simp; done) | (simp; omega)) _
    replace HA : LRd U2PA (B) A n c xs := by rw [hU2PA]; first | exact HA.setB PA (by simp) (by simp) _ _ | exact HA.setFar2 (by omega) _ _
    replace HB : LRd U2PA (B) D k d ys := by rw [hU2PA]; first | exact HB.setB PA (by simp) (by simp) _ _ | exact HB.setFar2 (by omega) _ _
    replace PB : Bk2 U2PA (w.heap.size + 1) (.bool false) (.slice D k d) := by rw [hU2PA]; exact PB.far2 (by omega) _ _
    replace PR : Bk2 U2PA (w.heap.size + 2) (.bool false) (.slice none 0 0) := by rw [hU2PA]; exact PR.far2 (by omega) _ _
    replace PA : Bk2 U2PA (w.heap.size) (.bool false) (.slice D k d) := by rw [hU2PA]; exact PA.set _ _
    rw [← hU2PA]
    clear hU2PA
    have zU2PA' := Nat.le_of_eq zU2PA
    replace zU2PA := Nat.le_of_eq zU2PA.symm
    obtain ⟨U2PB, hU2PB⟩ : ∃ U2PB : World, U2PB = ((U2PA.setCell ⟨w.heap.size + 1, 0, none⟩ (.bool true)).setCell ⟨w.heap.size + 1, 1, none⟩ (.slice A n c)) := ⟨_, rfl⟩
    have zU2PB : U2PB.heap.size = U2PA.heap.size := by rw [hU2PB]; simp [World.setCell]
    replace E : Below w.heap.size w U2PB := by rw [hU2PB]; exact (E.setCell (by first | (simp; done) | (simp; omega)) _).setCell (by first | (simp; done) | (simp; omega)) _
    replace HA : LRd U2PB (B) A n c xs := by rw [hU2PB]; first | exact HA.setB PB (by simp) (by simp) _ _ | exact HA.setFar2 (by omega) _ _
    replace HB : LRd U2PB (B) D k d ys := by rw [hU2PB]; first | exact HB.setB PB (by simp) (by simp) _ _ | exact HB.setFar2 (by omega) _ _
    replace PA : Bk2 U2PB (w.heap.size) (.bool false) (.slice D k d) := by rw [hU2PB]; exact PA.far2 (by omega) _ _
    replace PR : Bk2 U2PB (w.heap.size + 2) (.bool false) (.slice none 0 0) := by rw [hU2PB]; exact PR.far2 (by omega) _ _
    replace PB : Bk2 U2PB (w.heap.size + 1) (.bool true) (.slice A n c) := by rw [hU2PB]; exact PB.set _ _
    rw [← hU2PB]
    clear hU2PB
    have zU2PB' := Nat.le_of_eq zU2PB
    replace zU2PB := Nat.le_of_eq zU2PB.symm
    obtain ⟨V2, hV2⟩ : ∃ V2 : World, V2 = (U2PB.alloc (.cells #[.int .i64 0, .int .i64 0] 28)) := ⟨_, rfl⟩
    have bV2 : Below U2PB.heap.size U2PB V2 := by rw [hV2]; (repeat (first | with_reducible exact Below.refl _ _ | with_reducible refine Below.alloc ?_ (by first | (simp <;> omega) | omega) _))
    have zV2 : U2PB.heap.size + 1 ≤ V2.heap.size := by rw [hV2]; simp
    have F8 : Bk2 V2 (w1.heap.size) (.int .i64 0) (.int .i64 0) := by rw [hV2]; exact (Bk2.newAt _ _ (by first | omega | (simp; done) | (simp; omega)) _ _ _)
    rw [← hV2]
    clear hV2
    replace E := E.trans (bV2.mono E.size)
    replace HA := HA.below bV2 (by omega)
    replace HB := HB.below bV2 (by omega)
    replace PA := PA.below bV2 PA.lt
    replace PB := PB.below bV2 PB.lt
    replace PR := PR.below bV2 PR.lt
    clear bV2
    clear F8
    refine (sub_ok _ B D A k n d c ys xs HB HA (by omega) vb' va).mono ?_
    rw [HX.out.val, HY.out.val]
    rintro e w2 (⟨_, A2, k2, c2, x2, rfl, hl2, hr2, hb2⟩ | ⟨hlt, _⟩)
    rotate_left
    · exact absurd hlt (by have := HPQ.out; omega)
    have R2 := Lib.hid hr2
    have K2 := hl2.cap
    have L2 := Lib.hid hl2.len.out
    have sw2 := hb2.size
    clear hr2
    clear HA HB
    replace E := E.trans (hb2.mono E.size)
    replace PA := PA.below hb2 PA.lt
    replace PB := PB.below hb2 PB.lt
    replace PR := PR.below hb2 PR.lt
    clear hb2
    have t_PA0 : (w2.alloc (.cells #[.int .i64 0, .int .i64 0] 28)).cell? ⟨w.heap.size, 0, none⟩ = some ((.bool false)) := (PA.alloc _).c0
    have t_PA1 : (w2.alloc (.cells #[.int .i64 0, .int .i64 0] 28)).cell? ⟨w.heap.size, 1, none⟩ = some ((.slice D k d)) := (PA.alloc _).c1
    have t_PB0 : (w2.alloc (.cells #[.int .i64 0, .int .i64 0] 28)).cell? ⟨w.heap.size + 1, 0, none⟩ = some ((.bool true)) := (PB.alloc _).c0
    have t_PB1 : (w2.alloc (.cells #[.int .i64 0, .int .i64 0] 28)).cell? ⟨w.heap.size + 1, 1, none⟩ = some ((.slice A n c)) := (PB.alloc _).c1
    go_wp2_with fail
    clear t_PA0 t_PA1 t_PB0 t_PB1
    obtain ⟨V3, hV3⟩ : ∃ V3 : World, V3 = (w2.alloc (.cells #[.int .i64 0, .int .i64 0] 28)) := ⟨_, rfl⟩
    have bV3 : Below w2.heap.size w2 V3 := by rw [hV3]; (repeat (first | with_reducible exact Below.refl _ _ | with_reducible refine Below.alloc ?_ (by first | (simp <;> omega) | omega) _))
    have zV3 : w2.heap.size + 1 ≤ V3.heap.size := by rw [hV3]; simp
    have F6 : Bk2 V3 (w2.heap.size) (.int .i64 0) (.int .i64 0) := by rw [hV3]; exact (Bk2.newAt _ _ (by simp) _ _ _)
    rw [← hV3]
    clear hV3
    replace E := E.trans (bV3.mono E.size)
    replace PA := PA.below bV3 PA.lt
    replace PB := PB.below bV3 PB.lt
    replace PR := PR.below bV3 PR.lt
    replace hl2 := hl2.below bV3 (by omega)
    clear bV3
    clear F6
    (with_reducible refine (rsigned_any _ false A2 k2 c2 (by omega)).mono ?_)
    rintro e w13 ⟨rfl, hb3⟩
    have sw13 := hb3.size
    replace E := E.trans (hb3.mono E.size)
    replace PA := PA.below hb3 PA.lt
    replace PB := PB.below hb3 PB.lt
    replace PR := PR.below hb3 PR.lt
    replace hl2 := hl2.below hb3 (by omega)
    clear hb3
    obtain ⟨sg, hsg⟩ : ∃ sg, sg = (false && decide (0 < k2)) := ⟨_, rfl⟩
    have HSG := Lib.hid hsg
    rw [← hsg]
    clear hsg
    have y_PR0 := PR.c0
    have z_PR0 := PR.z0
    have y_PR1 := PR.c1
    have z_PR1 := PR.z1
    have lt_PR := PR.lt
    go_wp2_with fail
    clear y_PR0 z_PR0 y_PR1 z_PR1 lt_PR
    obtain ⟨U4PR, hU4PR⟩ : ∃ U4PR : World, U4PR = ((w13.setCell ⟨w.heap.size + 2, 0, none⟩ (.bool sg)).setCell ⟨w.heap.size + 2, 1, none⟩ (.slice A2 k2 c2)) := ⟨_, rfl⟩
    have zU4PR : U4PR.heap.size = w13.heap.size := by rw [hU4PR]; simp [World.setCell]
    replace E : Below w.heap.size w U4PR := by rw [hU4PR]; exact (E.setCell (by first | (simp; done) | (simp; omega)) _).setCell (by first | (simp; done) | (simp; omega)) _
    replace PA : Bk2 U4PR (w.heap.size) (.bool false) (.slice D k d) := by rw [hU4PR]; exact PA.far2 (by omega) _ _
    replace PB : Bk2 U4PR (w.heap.size + 1) (.bool true) (.slice A n c) := by rw [hU4PR]; exact PB.far2 (by omega) _ _
    replace hl2 : LRd U4PR (w2.heap.size) A2 k2 c2 x2 := by rw [hU4PR]; first | exact hl2.setB PR (by simp) (by simp) _ _ | exact hl2.setFar2 (by omega) _ _
    replace PR : Bk2 U4PR (w.heap.size + 2) (.bool sg) (.slice A2 k2 c2) := by rw [hU4PR]; exact PR.set _ _
    rw [← hU4PR]
    clear hU4PR
    have zU4PR' := Nat.le_of_eq zU4PR
    replace zU4PR := Nat.le_of_eq zU4PR.symm
    obtain ⟨r0, r1, _, _, _⟩ := PR
    have h9 := irep_sg (m := false) R2.out L2.out
    rw [show sval false (q - p) = sval true p + sval false q by have := HPQ.out; unfold sval; simp; omega] at h9
    rw [← HSG.out] at h9
    refine bodyPost_ret (v := intv sg A2 k2 c2) (by simp [results, Tryz.results91, go_sem, r0, r1]) rfl ⟨_, A2, k2, c2, x2, rfl, hl2.more (by omega), h9, E⟩
  · have HPQ := Lib.hid hpq
    clear hpq HC hr3
    have t_PA0 : (w1.alloc (.cells #[.int .i64 0, .int .i64 0] 28)).cell? ⟨w.heap.size, 0, none⟩ = some ((.bool true)) := (PA.alloc _).c0
    have t_PA1 : (w1.alloc (.cells #[.int .i64 0, .int .i64 0] 28)).cell? ⟨w.heap.size, 1, none⟩ = some ((.slice A n c)) := (PA.alloc _).c1
    have t_PB0 : (w1.alloc (.cells #[.int .i64 0, .int .i64 0] 28)).cell? ⟨w.heap.size + 1, 0, none⟩ = some ((.bool false)) := (PB.alloc _).c0
    have t_PB1 : (w1.alloc (.cells #[.int .i64 0, .int .i64 0] 28)).cell? ⟨w.heap.size + 1, 1, none⟩ = some ((.slice D k d)) := (PB.alloc _).c1
    go_wp2_with fail
    clear t_PA0 t_PA1 t_PB0 t_PB1
    obtain ⟨V2, hV2⟩ : ∃ V2 : World, V2 = (w1.alloc (.cells #[.int .i64 0, .int .i64 0] 28)) := ⟨_, rfl⟩
    have bV2 : Below w1.heap.size w1 V2 := by rw [hV2]; (repeat (first | with_reducible exact Below.refl _ _ | with_reducible refine Below.alloc ?_ (by first | (simp <;> omega) | omega) _))
    have zV2 : w1.heap.size + 1 ≤ V2.heap.size := by rw [hV2]; simp
    have F8 : Bk2 V2 (w1.heap.size) (.int .i64 0) (.int .i64 0) := by rw [hV2]; exact (Bk2.newAt _ _ (by simp) _ _ _)
    rw [← hV2]
    clear hV2
    replace E := E.trans (bV2.mono E.size)
    replace HA := HA.below bV2 (by omega)
    replace HB := HB.below bV2 (by omega)
    replace PA := PA.below bV2 PA.lt
    replace PB := PB.below bV2 PB.lt
    replace PR := PR.below bV2 PR.lt
    clear bV2
    clear F8
    refine (sub_ok _ B A D n k c d xs ys HA HB (by omega) va vb').mono ?_
    rw [HX.out.val, HY.out.val]
    rintro e w2 (⟨_, A2, k2, c2, x2, rfl, hl2, hr2, hb2⟩ | ⟨hlt, _⟩)
    rotate_left
    · exact absurd hlt (by have := HPQ.out; omega)
    have R2 := Lib.hid hr2
    have K2 := hl2.cap
    have L2 := Lib.hid hl2.len.out
    have sw2 := hb2.size
    clear hr2
    clear HA HB
    replace E := E.trans (hb2.mono E.size)
    replace PA := PA.below hb2 PA.lt
    replace PB := PB.below hb2 PB.lt
    replace PR := PR.below hb2 PR.lt
    clear hb2
    have t_PA0 : (w2.alloc (.cells #[.int .i64 0, .int .i64 0] 28)).cell? ⟨w.heap.size, 0, none⟩ = some ((.bool true)) := (PA.alloc _).c0
    have t_PA1 : (w2.alloc (.cells #[.int .i64 0, .int .i64 0] 28)).cell? ⟨w.heap.size, 1, none⟩ = some ((.slice A n c)) := (PA.alloc _).c1
    have t_PB0 : (w2.alloc (.cells #[.int .i64 0, .int .i64 0] 28)).cell? ⟨w.heap.size + 1, 0, none⟩ = some ((.bool false)) := (PB.alloc _).c0
    have t_PB1 : (w2.alloc (.cells #[.int .i64 0, .int .i64 0] 28)).cell? ⟨w.heap.size + 1, 1, none⟩ = some ((.slice D k d)) := (PB.alloc _).c1
    go_wp2_with fail
    clear t_PA0 t_PA1 t_PB0 t_PB1
    obtain ⟨V3, hV3⟩ : ∃ V3 : World, V3 = (w2.alloc (.cells #[.int .i64 0, .int .i64 0] 28)) := ⟨_, rfl⟩
    have bV3 : Below w2.heap.size w2 V3 := by rw [hV3]; (repeat (first | with_reducible exact Below.refl _ _ | with_reducible refine Below.alloc ?_ (by first | (simp <;> omega) | omega) _))
    have zV3 : w2.heap.size + 1 ≤ V3.heap.size := by rw [hV3]; simp
    have F6 : Bk2 V3 (w2.heap.size) (.int .i64 0) (.int .i64 0) := by rw [hV3]; exact (Bk2.newAt _ _ (by simp) _ _ _)
    rw [← hV3]
    clear hV3
    replace E := E.trans (bV3.mono E.size)
    replace PA := PA.below bV3 PA.lt
    replace PB := PB.below bV3 PB.lt
    replace PR := PR.below bV3 PR.lt
    replace hl2 := hl2.below bV3 (by omega)
    clear bV3
    clear F6
    (with_reducible refine (rsigned_any _ true A2 k2 c2 (by omega)).mono ?_)
    rintro e w13 ⟨rfl, hb3⟩
    have sw13 := hb3.size
    replace E := E.trans (hb3.mono E.size)
    replace PA := PA.below hb3 PA.lt
    replace PB := PB.below hb3 PB.lt
    replace PR := PR.below hb3 PR.lt
    replace hl2 := hl2.below hb3 (by omega)
    clear hb3
    obtain ⟨sg, hsg⟩ : ∃ sg, sg = (true && decide (0 < k2)) := ⟨_, rfl⟩
    have HSG := Lib.hid hsg
    rw [← hsg]
    clear hsg
    have y_PR0 := PR.c0
    have z_PR0 := PR.z0
    have y_PR1 := PR.c1
    have z_PR1 := PR.z1
    have lt_PR := PR.lt
    go_wp2_with fail
    clear y_PR0 z_PR0 y_PR1 z_PR1 lt_PR
    obtain ⟨U4PR, hU4PR⟩ : ∃ U4PR : World, U4PR = ((w13.setCell ⟨w.heap.size + 2, 0, none⟩ (.bool sg)).setCell ⟨w.heap.size + 2, 1, none⟩ (.slice A2 k2 c2)) := ⟨_, rfl⟩
    have zU4PR : U4PR.heap.size = w13.heap.size := by rw [hU4PR]; simp [World.setCell]
    replace E : Below w.heap.size w U4PR := by rw [hU4PR]; exact (E.setCell (by first | (simp; done) | (simp; omega)) _).setCell (by first | (simp; done) | (simp; omega)) _
    replace PA : Bk2 U4PR (w.heap.size) (.bool true) (.slice A n c) := by rw [hU4PR]; exact PA.far2 (by omega) _ _
    replace PB : Bk2 U4PR (w.heap.size + 1) (.bool false) (.slice D k d) := by rw [hU4PR]; exact PB.far2 (by omega) _ _
    replace hl2 : LRd U4PR (w2.heap.size) A2 k2 c2 x2 := by rw [hU4PR]; first | exact hl2.setB PR (by simp) (by simp) _ _ | exact hl2.setFar2 (by omega) _ _
    replace PR : Bk2 U4PR (w.heap.size + 2) (.bool sg) (.slice A2 k2 c2) := by rw [hU4PR]; exact PR.set _ _
    rw [← hU4PR]
    clear hU4PR
    have zU4PR' := Nat.le_of_eq zU4PR
    replace zU4PR := Nat.le_of_eq zU4PR.symm
    obtain ⟨r0, r1, _, _, _⟩ := PR
    have h9 := irep_sg (m := true) R2.out L2.out
    rw [show sval true (p - q) = sval true p + sval false q by have := HPQ.out; unfold sval; simp; omega] at h9
    rw [← HSG.out] at h9
    refine bodyPost_ret (v := intv sg A2 k2 c2) (by simp [results, Tryz.results91, go_sem, r0, r1]) rfl ⟨_, A2, k2, c2, x2, rfl, hl2.more (by omega), h9, E⟩
theorem rsum_any (w : World) (B : Nat) (m m2 : Bool) (A D : Option Addr) (n k c d p q : Nat) (xs ys : List Nat) (HA : LRd w B A n c xs) (HB : LRd w B D k d ys) (hB : B ≤ w.heap.size) (hx : Rep 4294967296 xs p) (hy : Rep 4294967296 ys q) (va : vld xs = true) (vb' : vld ys = true) (hg : p + q < Big) :
    Calls Tryz.prog 91 #[intv m A n c, intv m2 D k d] w (GivesV w (sval m p + sval m2 q)) := by
  cases m <;> cases m2
  · exact rsum_ff w B A D n k c d p q xs ys HA HB hB hx hy va vb' hg
  · exact rsum_ft w B A D n k c d p q xs ys HA HB hB hx hy va vb' hg
  · exact rsum_tf w B A D n k c d p q xs ys HA HB hB hx hy va vb' hg
  · exact rsum_tt w B A D n k c d p q xs ys HA HB hB hx hy va vb' hg
theorem LRd.setFarL {w : World} {B n c g : Nat} {A : Option Addr} {xs : List Nat} (h : LRd w B A n c xs) (hg : B ≤ g) (x y : Value) : LRd ((w.setCell ⟨g, 0, none⟩ x).setCell ⟨g, 1, none⟩ y) B A n c xs :=
  (h.setO (p := ⟨g, 0, none⟩) hg x).setO (p := ⟨g, 1, none⟩) hg y
/-- A ratio and a fault. -/
def GivesRat (w : World) (z1 z2 f1 f2 : Int) (e : Ending) (w' : World) : Prop :=
  ∃ m A k c xs m' D l d ys, e = .returned (.tuple #[ratv m A k c m' D l d, flt f1 f2]) ∧ LRd w' w'.heap.size A k c xs ∧ LRd w' w'.heap.size D l d ys ∧ IRep m xs z1 ∧ IRep m' ys z2 ∧ Below w.heap.size w w'
/-- The quotient in lowest terms, or the fault of one that is too large. -/
def GivesQuo (w : World) (x : Bool) (p q : Nat) (e : Ending) (w' : World) : Prop :=
  (p / Nat.gcd p q < Top128 ∧ q / Nat.gcd p q < Top128 ∧ GivesRat w (sval x (p / Nat.gcd p q)) ((q / Nat.gcd p q : Nat) : Int) 0 0 e w') ∨
  ((Top128 ≤ p / Nat.gcd p q ∨ Top128 ≤ q / Nat.gcd p q) ∧ GivesRat w 0 0 14 (-1) e w')
theorem len_top {zs : List Nat} {v k : Nat} (h : Rep 4294967296 zs v) (hl : zs.length = k) : k ≤ 128 ↔ v < Top128 := by
  constructor
  · exact fun hk => lt128 h hl hk
  · intro hv
    obtain ⟨m, hm⟩ : ∃ m, m = 128 := ⟨_, rfl⟩
    rw [top128 hm] at hv
    have := h.length_le (by decide) hv
    omega
theorem irep_pos {zs : List Nat} {v : Nat} (h : Rep 4294967296 zs v) : IRep false zs ((v : Nat) : Int) := ⟨by rw [Int.natAbs_natCast]; exact h, (decide_eq_false (by omega)).symm⟩
theorem rlen {xs zs : List Nat} {p v : Nat} (h : Rep 4294967296 zs v) (hx : Rep 4294967296 xs p) (hv : v ≤ p) (va : vld xs = true) : zs.length ≤ 600 := by
  have h1 := hx.lt_pow (by decide)
  have h2 := (vld_top va).2
  have := h.length_le (m := xs.length) (by decide) (by omega)
  omega
set_option maxHeartbeats 4000000 in
theorem quotient_ff (w : World) (B : Nat) (A D : Option Addr) (n k c d p q : Nat) (xs ys : List Nat) (HA : LRd w B A n c xs) (HB : LRd w B D k d ys) (hB : B ≤ w.heap.size) (hx : Rep 4294967296 xs p) (hy : Rep 4294967296 ys q) (va : vld xs = true) (vb' : vld ys = true) (hq : 0 < q) :
    Calls Tryz.prog 59 #[intv false A n c, intv false D k d] w (GivesQuo w false p q) := by
  have HX := Lib.hid hx
  have HY := Lib.hid hy
  have HQ := Lib.hid hq
  clear hx hy hq
  have E : Below w.heap.size w w := Below.refl _ _
  go_enter Tryz.func59, Tryz.ntmps59
  go_wp2_with fail
  obtain ⟨V0, hV0⟩ : ∃ V0 : World, V0 = ((((w.alloc (.cells #[.bool false, .slice A n c] 24)).alloc (.cells #[.bool false, .slice D k d] 24)).alloc (.cells #[.bool false, .slice none 0 0, .bool false, .slice none 0 0] 26)).alloc (.cells #[.int .i64 0, .int .i64 0] 28)) := ⟨_, rfl⟩
  have bV0 : Below w.heap.size w V0 := by rw [hV0]; (repeat (first | with_reducible exact Below.refl _ _ | with_reducible refine Below.alloc ?_ (by first | (simp <;> omega) | omega) _))
  have zV0 : w.heap.size + 4 ≤ V0.heap.size := by rw [hV0]; simp
  have PA : Bk2 V0 (w.heap.size) (.bool false) (.slice A n c) := by rw [hV0]; exact ((((Bk2.newAt _ _ (by first | omega | (simp; done) | (simp; omega)) _ _ _).alloc _).alloc _).alloc _)
  have PB : Bk2 V0 (w.heap.size + 1) (.bool false) (.slice D k d) := by rw [hV0]; exact (((Bk2.newAt _ _ (by first | omega | (simp; done) | (simp; omega)) _ _ _).alloc _).alloc _)
  have PR : Bk4 V0 (w.heap.size + 2) (.bool false) (.slice none 0 0) (.bool false) (.slice none 0 0) := by rw [hV0]; exact ((Bk4.newAt _ _ (by first | omega | (simp; done) | (simp; omega)) _ _ _ _ _).alloc _)
  have PF : Bk2 V0 (w.heap.size + 3) (.int .i64 0) (.int .i64 0) := by rw [hV0]; exact (Bk2.newAt _ _ (by first | omega | (simp; done) | (simp; omega)) _ _ _)
  rw [← hV0]
  clear hV0
  replace E := E.trans (bV0.mono E.size)
  replace HA := HA.below bV0 (by omega)
  replace HB := HB.below bV0 (by omega)
  clear bV0
  refine (gcd_ok _ B A D n k c d xs ys HA HB (by omega) va vb').mono ?_
  rw [HX.out.val, HY.out.val]
  rintro e w1 ⟨A1, k1, c1, x1, rfl, hl1, hr1, hb1⟩
  have R1 := Lib.hid hr1
  have hg0 : 0 < Nat.gcd p q := Nat.gcd_pos_of_pos_right _ HQ.out
  have L1 := Lib.hid (rlen hr1 HY.out (Nat.gcd_le_right _ HQ.out) vb')
  have V1g := Lib.hid (rep_vld hr1.top L1.out)
  have N1 := Lib.hid (show x1.length ≠ 0 from fun e => by
    have h1 := hr1.val
    rw [List.eq_nil_of_length_eq_zero e, vb_nil] at h1
    omega)
  have sw1 := hb1.size
  clear hr1
  replace E := E.trans (hb1.mono E.size)
  replace HA := HA.below hb1 (by omega)
  replace HB := HB.below hb1 (by omega)
  replace PA := PA.below hb1 PA.lt
  replace PB := PB.below hb1 PB.lt
  replace PR := PR.below hb1 PR.lt
  replace PF := PF.below hb1 PF.lt
  clear hb1
  have t_PA0 : (w1.alloc (.cells #[.int .i64 0, .int .i64 0] 28)).cell? ⟨w.heap.size, 0, none⟩ = some ((.bool false)) := (PA.alloc _).c0
  have t_PA1 : (w1.alloc (.cells #[.int .i64 0, .int .i64 0] 28)).cell? ⟨w.heap.size, 1, none⟩ = some ((.slice A n c)) := (PA.alloc _).c1
  go_wp2_with fail
  clear t_PA0 t_PA1
  obtain ⟨V1, hV1⟩ : ∃ V1 : World, V1 = (w1.alloc (.cells #[.int .i64 0, .int .i64 0] 28)) := ⟨_, rfl⟩
  have bV1 : Below w1.heap.size w1 V1 := by rw [hV1]; (repeat (first | with_reducible exact Below.refl _ _ | with_reducible refine Below.alloc ?_ (by first | (simp <;> omega) | omega) _))
  have zV1 : w1.heap.size + 1 ≤ V1.heap.size := by rw [hV1]; simp
  have F7 : Bk2 V1 (w1.heap.size) (.int .i64 0) (.int .i64 0) := by rw [hV1]; exact (Bk2.newAt _ _ (by first | omega | (simp; done) | (simp; omega)) _ _ _)
  rw [← hV1]
  clear hV1
  replace E := E.trans (bV1.mono E.size)
  replace HA := HA.below bV1 (by omega)
  replace HB := HB.below bV1 (by omega)
  replace PA := PA.below bV1 PA.lt
  replace PB := PB.below bV1 PB.lt
  replace PR := PR.below bV1 PR.lt
  replace PF := PF.below bV1 PF.lt
  replace hl1 := hl1.below bV1 (by omega)
  clear bV1
  clear F7
  refine (divmod_ok _ w1.heap.size A A1 n k1 c c1 xs x1 (HA.more (by omega)) hl1 (by omega) va V1g.out).mono ?_
  unfold DmPost
  rw [HX.out.val, R1.out.val]
  rintro e w2 (⟨h0, _⟩ | ⟨_, A2, k2, c2, x2, B2, l2, d2, y2, rfl, hl2, hr2, hm2, hs2, hb2⟩)
  · exact absurd h0 N1.out
  have R2 := Lib.hid hr2
  have K2 := hl2.cap
  have T2 := Lib.hid (len_top hr2 hl2.len.out)
  have sw2 := hb2.size
  clear hr2 hm2 hs2
  replace E := E.trans (hb2.mono E.size)
  replace HA := HA.below hb2 (by omega)
  replace HB := HB.below hb2 (by omega)
  replace PA := PA.below hb2 PA.lt
  replace PB := PB.below hb2 PB.lt
  replace PR := PR.below hb2 PR.lt
  replace PF := PF.below hb2 PF.lt
  replace hl1 := hl1.below hb2 (by omega)
  clear hb2
  have t_PB0 : (w2.alloc (.cells #[.int .i64 0, .int .i64 0] 28)).cell? ⟨w.heap.size + 1, 0, none⟩ = some ((.bool false)) := (PB.alloc _).c0
  have t_PB1 : (w2.alloc (.cells #[.int .i64 0, .int .i64 0] 28)).cell? ⟨w.heap.size + 1, 1, none⟩ = some ((.slice D k d)) := (PB.alloc _).c1
  go_wp2_with fail
  clear t_PB0 t_PB1
  obtain ⟨V2, hV2⟩ : ∃ V2 : World, V2 = (w2.alloc (.cells #[.int .i64 0, .int .i64 0] 28)) := ⟨_, rfl⟩
  have bV2 : Below w2.heap.size w2 V2 := by rw [hV2]; (repeat (first | with_reducible exact Below.refl _ _ | with_reducible refine Below.alloc ?_ (by first | (simp <;> omega) | omega) _))
  have zV2 : w2.heap.size + 1 ≤ V2.heap.size := by rw [hV2]; simp
  have G2 : Bk2 V2 (w2.heap.size) (.int .i64 0) (.int .i64 0) := by rw [hV2]; exact (Bk2.newAt _ _ (by first | omega | (simp; done) | (simp; omega)) _ _ _)
  rw [← hV2]
  clear hV2
  replace E := E.trans (bV2.mono E.size)
  replace HA := HA.below bV2 (by omega)
  replace HB := HB.below bV2 (by omega)
  replace PA := PA.below bV2 PA.lt
  replace PB := PB.below bV2 PB.lt
  replace PR := PR.below bV2 PR.lt
  replace PF := PF.below bV2 PF.lt
  replace hl1 := hl1.below bV2 (by omega)
  replace hl2 := hl2.below bV2 (by omega)
  clear bV2
  clear G2
  refine (divmod_ok _ w1.heap.size D A1 k k1 d c1 ys x1 (HB.more (by omega)) hl1 (by omega) vb' V1g.out).mono ?_
  unfold DmPost
  rw [HY.out.val, R1.out.val]
  rintro e w3 (⟨h0, _⟩ | ⟨_, A3, k3, c3, x3, B3, l3, d3, y3, rfl, hl3, hr3, hm3, hs3, hb3⟩)
  · exact absurd h0 N1.out
  have R3 := Lib.hid hr3
  have K3 := hl3.cap
  have T3 := Lib.hid (len_top hr3 hl3.len.out)
  have sw3 := hb3.size
  clear hr3 hm3 hs3
  replace E := E.trans (hb3.mono E.size)
  replace HA := HA.below hb3 (by omega)
  replace HB := HB.below hb3 (by omega)
  replace PA := PA.below hb3 PA.lt
  replace PB := PB.below hb3 PB.lt
  replace PR := PR.below hb3 PR.lt
  replace PF := PF.below hb3 PF.lt
  replace hl1 := hl1.below hb3 (by omega)
  replace hl2 := hl2.below hb3 (by omega)
  clear hb3
  clear HA HB hl1
  by_cases hf : k2 ≤ 128 ∧ k3 ≤ 128
  · have hmx : max (k2 : Int) (k3 : Int) ≤ 128 := by omega
    obtain ⟨h21, h31⟩ := hf
    have t_PA0 : (w3.alloc (.cells #[.int .i64 0, .int .i64 0] 28)).cell? ⟨w.heap.size, 0, none⟩ = some ((.bool false)) := (PA.alloc _).c0
    have t_PA1 : (w3.alloc (.cells #[.int .i64 0, .int .i64 0] 28)).cell? ⟨w.heap.size, 1, none⟩ = some ((.slice A n c)) := (PA.alloc _).c1
    have t_PB0 : (w3.alloc (.cells #[.int .i64 0, .int .i64 0] 28)).cell? ⟨w.heap.size + 1, 0, none⟩ = some ((.bool false)) := (PB.alloc _).c0
    have t_PB1 : (w3.alloc (.cells #[.int .i64 0, .int .i64 0] 28)).cell? ⟨w.heap.size + 1, 1, none⟩ = some ((.slice D k d)) := (PB.alloc _).c1
    go_wp2_with fail
    clear t_PA0 t_PA1 t_PB0 t_PB1
    obtain ⟨V3, hV3⟩ : ∃ V3 : World, V3 = (w3.alloc (.cells #[.int .i64 0, .int .i64 0] 28)) := ⟨_, rfl⟩
    have bV3 : Below w3.heap.size w3 V3 := by rw [hV3]; (repeat (first | with_reducible exact Below.refl _ _ | with_reducible refine Below.alloc ?_ (by first | (simp <;> omega) | omega) _))
    have zV3 : w3.heap.size + 1 ≤ V3.heap.size := by rw [hV3]; simp
    have G3 : Bk2 V3 (w3.heap.size) (.int .i64 0) (.int .i64 0) := by rw [hV3]; exact (Bk2.newAt _ _ (by first | omega | (simp; done) | (simp; omega)) _ _ _)
    rw [← hV3]
    clear hV3
    replace E := E.trans (bV3.mono E.size)
    replace PA := PA.below bV3 PA.lt
    replace PB := PB.below bV3 PB.lt
    replace PR := PR.below bV3 PR.lt
    replace PF := PF.below bV3 PF.lt
    replace hl2 := hl2.below bV3 (by omega)
    replace hl3 := hl3.below bV3 (by omega)
    clear bV3
    clear G3
    clear hmx
    (with_reducible refine (rsigned_any _ false A2 k2 c2 (by omega)).mono ?_)
    rintro e w4 ⟨rfl, hb4⟩
    have sw4 := hb4.size
    replace E := E.trans (hb4.mono E.size)
    replace PA := PA.below hb4 PA.lt
    replace PB := PB.below hb4 PB.lt
    replace PR := PR.below hb4 PR.lt
    replace PF := PF.below hb4 PF.lt
    replace hl2 := hl2.below hb4 (by omega)
    replace hl3 := hl3.below hb4 (by omega)
    clear hb4
    obtain ⟨sg, hsg⟩ : ∃ sg, sg = (false && decide (0 < k2)) := ⟨_, rfl⟩
    have HSG := Lib.hid hsg
    rw [← hsg]
    clear hsg
    go_wp2_with fail
    (with_reducible refine (rsigned_any _ false A3 k3 c3 (by omega)).mono ?_)
    rintro e w5 ⟨rfl, hb5⟩
    have sw5 := hb5.size
    replace E := E.trans (hb5.mono E.size)
    replace PA := PA.below hb5 PA.lt
    replace PB := PB.below hb5 PB.lt
    replace PR := PR.below hb5 PR.lt
    replace PF := PF.below hb5 PF.lt
    replace hl2 := hl2.below hb5 (by omega)
    replace hl3 := hl3.below hb5 (by omega)
    clear hb5
    rw [Bool.false_and]
    have y_PR0 := PR.c0
    have z_PR0 := PR.z0
    have y_PR1 := PR.c1
    have z_PR1 := PR.z1
    have y_PR2 := PR.c2
    have z_PR2 := PR.z2
    have y_PR3 := PR.c3
    have z_PR3 := PR.z3
    have lt_PR := PR.lt
    have y_PF0 := PF.c0
    have z_PF0 := PF.z0
    have y_PF1 := PF.c1
    have z_PF1 := PF.z1
    have lt_PF := PF.lt
    go_wp2_with fail
    clear y_PR0 z_PR0 y_PR1 z_PR1 y_PR2 z_PR2 y_PR3 z_PR3 lt_PR y_PF0 z_PF0 y_PF1 z_PF1 lt_PF
    obtain ⟨U5PR, hU5PR⟩ : ∃ U5PR : World, U5PR = ((((w5.setCell ⟨w.heap.size + 2, 0, none⟩ (.bool sg)).setCell ⟨w.heap.size + 2, 1, none⟩ (.slice A2 k2 c2)).setCell ⟨w.heap.size + 2, 2, none⟩ (.bool false)).setCell ⟨w.heap.size + 2, 3, none⟩ (.slice A3 k3 c3)) := ⟨_, rfl⟩
    have zU5PR : U5PR.heap.size = w5.heap.size := by rw [hU5PR]; simp [World.setCell]
    replace E : Below w.heap.size w U5PR := by rw [hU5PR]; exact ((((E.setCell (by first | (simp; done) | (simp; omega)) _).setCell (by first | (simp; done) | (simp; omega)) _).setCell (by first | (simp; done) | (simp; omega)) _).setCell (by first | (simp; done) | (simp; omega)) _)
    replace PA : Bk2 U5PR (w.heap.size) (.bool false) (.slice A n c) := by rw [hU5PR]; exact PA.far4 (by omega) _ _ _ _
    replace PB : Bk2 U5PR (w.heap.size + 1) (.bool false) (.slice D k d) := by rw [hU5PR]; exact PB.far4 (by omega) _ _ _ _
    replace PF : Bk2 U5PR (w.heap.size + 3) (.int .i64 0) (.int .i64 0) := by rw [hU5PR]; exact PF.far4 (by omega) _ _ _ _
    replace hl2 : LRd U5PR (w2.heap.size) A2 k2 c2 x2 := by rw [hU5PR]; first | exact hl2.set4 PR (by simp) (by simp) (by simp) (by simp) _ _ _ _ | exact hl2.set4O (by omega) _ _ _ _
    replace hl3 : LRd U5PR (w3.heap.size) A3 k3 c3 x3 := by rw [hU5PR]; first | exact hl3.set4 PR (by simp) (by simp) (by simp) (by simp) _ _ _ _ | exact hl3.set4O (by omega) _ _ _ _
    replace PR : Bk4 U5PR (w.heap.size + 2) (.bool sg) (.slice A2 k2 c2) (.bool false) (.slice A3 k3 c3) := by rw [hU5PR]; exact PR.set _ _ _ _
    rw [← hU5PR]
    clear hU5PR
    have zU5PR' := Nat.le_of_eq zU5PR
    replace zU5PR := Nat.le_of_eq zU5PR.symm
    obtain ⟨U5PF, hU5PF⟩ : ∃ U5PF : World, U5PF = ((U5PR.setCell ⟨w.heap.size + 3, 0, none⟩ (.int .i64 0)).setCell ⟨w.heap.size + 3, 1, none⟩ (.int .i64 0)) := ⟨_, rfl⟩
    have zU5PF : U5PF.heap.size = U5PR.heap.size := by rw [hU5PF]; simp [World.setCell]
    replace E : Below w.heap.size w U5PF := by rw [hU5PF]; exact ((E.setCell (by first | (simp; done) | (simp; omega)) _).setCell (by first | (simp; done) | (simp; omega)) _)
    replace PA : Bk2 U5PF (w.heap.size) (.bool false) (.slice A n c) := by rw [hU5PF]; exact PA.far2 (by omega) _ _
    replace PB : Bk2 U5PF (w.heap.size + 1) (.bool false) (.slice D k d) := by rw [hU5PF]; exact PB.far2 (by omega) _ _
    replace PR : Bk4 U5PF (w.heap.size + 2) (.bool sg) (.slice A2 k2 c2) (.bool false) (.slice A3 k3 c3) := by rw [hU5PF]; exact PR.far2 (by omega) _ _
    replace hl2 : LRd U5PF (w2.heap.size) A2 k2 c2 x2 := by rw [hU5PF]; first | exact hl2.setB PF (by simp) (by simp) _ _ | exact hl2.setFarL (by omega) _ _
    replace hl3 : LRd U5PF (w3.heap.size) A3 k3 c3 x3 := by rw [hU5PF]; first | exact hl3.setB PF (by simp) (by simp) _ _ | exact hl3.setFarL (by omega) _ _
    replace PF : Bk2 U5PF (w.heap.size + 3) (.int .i64 0) (.int .i64 0) := by rw [hU5PF]; exact PF.set _ _
    rw [← hU5PF]
    clear hU5PF
    have zU5PF' := Nat.le_of_eq zU5PF
    replace zU5PF := Nat.le_of_eq zU5PF.symm
    obtain ⟨f0, f1, _, _, _⟩ := PF
    obtain ⟨r0, r1, r2, r3, _, _, _, _, _⟩ := PR
    have h9 := irep_sg (m := false) R2.out hl2.len.out
    rw [← HSG.out] at h9
    refine bodyPost_ret (v := .tuple #[ratv sg A2 k2 c2 false A3 k3 c3, flt 0 0]) (by simp [results, Tryz.results59, go_sem, r0, r1, r2, r3, f0, f1]) rfl (.inl ⟨T2.out.1 h21, T3.out.1 h31, sg, A2, k2, c2, x2, false, A3, k3, c3, x3, rfl, hl2.more (by omega), hl3.more (by omega), h9, irep_pos R3.out, E⟩)
  · have hmx : 128 < max (k2 : Int) (k3 : Int) := by omega
    have HF := Lib.hid hf
    clear hf
    clear PA PB hl2 hl3
    have y_PR0 := PR.c0
    have z_PR0 := PR.z0
    have y_PR1 := PR.c1
    have z_PR1 := PR.z1
    have y_PR2 := PR.c2
    have z_PR2 := PR.z2
    have y_PR3 := PR.c3
    have z_PR3 := PR.z3
    have lt_PR := PR.lt
    have y_PF0 := PF.c0
    have z_PF0 := PF.z0
    have y_PF1 := PF.c1
    have z_PF1 := PF.z1
    have lt_PF := PF.lt
    go_wp2_with fail
    clear y_PR0 z_PR0 y_PR1 z_PR1 y_PR2 z_PR2 y_PR3 z_PR3 lt_PR y_PF0 z_PF0 y_PF1 z_PF1 lt_PF
    obtain ⟨U3PR, hU3PR⟩ : ∃ U3PR : World, U3PR = ((((w3.setCell ⟨w.heap.size + 2, 0, none⟩ (.bool false)).setCell ⟨w.heap.size + 2, 1, none⟩ (.slice none 0 0)).setCell ⟨w.heap.size + 2, 2, none⟩ (.bool false)).setCell ⟨w.heap.size + 2, 3, none⟩ (.slice none 0 0)) := ⟨_, rfl⟩
    have zU3PR : U3PR.heap.size = w3.heap.size := by rw [hU3PR]; simp [World.setCell]
    replace E : Below w.heap.size w U3PR := by rw [hU3PR]; exact ((((E.setCell (by first | (simp; done) | (simp; omega)) _).setCell (by first | (simp; done) | (simp; omega)) _).setCell (by first | (simp; done) | (simp; omega)) _).setCell (by first | (simp; done) | (simp; omega)) _)
    replace PF : Bk2 U3PR (w.heap.size + 3) (.int .i64 0) (.int .i64 0) := by rw [hU3PR]; exact PF.far4 (by omega) _ _ _ _
    replace PR : Bk4 U3PR (w.heap.size + 2) (.bool false) (.slice none 0 0) (.bool false) (.slice none 0 0) := by rw [hU3PR]; exact PR.set _ _ _ _
    rw [← hU3PR]
    clear hU3PR
    have zU3PR' := Nat.le_of_eq zU3PR
    replace zU3PR := Nat.le_of_eq zU3PR.symm
    obtain ⟨U3PF, hU3PF⟩ : ∃ U3PF : World, U3PF = ((U3PR.setCell ⟨w.heap.size + 3, 0, none⟩ (.int .i64 14)).setCell ⟨w.heap.size + 3, 1, none⟩ (.int .i64 (-1))) := ⟨_, rfl⟩
    have zU3PF : U3PF.heap.size = U3PR.heap.size := by rw [hU3PF]; simp [World.setCell]
    replace E : Below w.heap.size w U3PF := by rw [hU3PF]; exact ((E.setCell (by first | (simp; done) | (simp; omega)) _).setCell (by first | (simp; done) | (simp; omega)) _)
    replace PR : Bk4 U3PF (w.heap.size + 2) (.bool false) (.slice none 0 0) (.bool false) (.slice none 0 0) := by rw [hU3PF]; exact PR.far2 (by omega) _ _
    replace PF : Bk2 U3PF (w.heap.size + 3) (.int .i64 14) (.int .i64 (-1)) := by rw [hU3PF]; exact PF.set _ _
    rw [← hU3PF]
    clear hU3PF
    have zU3PF' := Nat.le_of_eq zU3PF
    replace zU3PF := Nat.le_of_eq zU3PF.symm
    obtain ⟨V3, hV3⟩ : ∃ V3 : World, V3 = (U3PF.alloc (.cells #[.int .i64 0, .int .i64 0] 28)) := ⟨_, rfl⟩
    have bV3 : Below U3PF.heap.size U3PF V3 := by rw [hV3]; (repeat (first | with_reducible exact Below.refl _ _ | with_reducible refine Below.alloc ?_ (by first | (simp <;> omega) | omega) _))
    have zV3 : U3PF.heap.size + 1 ≤ V3.heap.size := by rw [hV3]; simp
    have G3 : Bk2 V3 (w3.heap.size) (.int .i64 0) (.int .i64 0) := by rw [hV3]; exact (Bk2.newAt _ _ (by first | omega | (simp; done) | (simp; omega)) _ _ _)
    rw [← hV3]
    clear hV3
    replace E := E.trans (bV3.mono E.size)
    replace PR := PR.below bV3 PR.lt
    replace PF := PF.below bV3 PF.lt
    clear bV3
    obtain ⟨f0, f1, _, _, _⟩ := PF
    obtain ⟨r0, r1, r2, r3, _, _, _, _, _⟩ := PR
    refine bodyPost_ret (v := .tuple #[ratv false none 0 0 false none 0 0, flt 14 (-1)]) (by simp [results, Tryz.results59, go_sem, r0, r1, r2, r3, f0, f1]) rfl (.inr ⟨?_, false, none, 0, 0, [], false, none, 0, 0, [], rfl, nil_lrd _, nil_lrd _, IRep.zero, IRep.zero, E⟩)
    rcases Nat.lt_or_ge 128 k2 with h | h
    · exact .inl (Nat.le_of_not_lt fun h2 => by have := T2.out.2 h2; omega)
    · exact .inr (Nat.le_of_not_lt fun h2 => by have := T3.out.2 h2; exact HF.out ⟨h, this⟩)
set_option maxHeartbeats 4000000 in
theorem quotient_ft (w : World) (B : Nat) (A D : Option Addr) (n k c d p q : Nat) (xs ys : List Nat) (HA : LRd w B A n c xs) (HB : LRd w B D k d ys) (hB : B ≤ w.heap.size) (hx : Rep 4294967296 xs p) (hy : Rep 4294967296 ys q) (va : vld xs = true) (vb' : vld ys = true) (hq : 0 < q) :
    Calls Tryz.prog 59 #[intv false A n c, intv true D k d] w (GivesQuo w true p q) := by
  have HX := Lib.hid hx
  have HY := Lib.hid hy
  have HQ := Lib.hid hq
  clear hx hy hq
  have E : Below w.heap.size w w := Below.refl _ _
  go_enter Tryz.func59, Tryz.ntmps59
  go_wp2_with fail
  obtain ⟨V0, hV0⟩ : ∃ V0 : World, V0 = ((((w.alloc (.cells #[.bool false, .slice A n c] 24)).alloc (.cells #[.bool true, .slice D k d] 24)).alloc (.cells #[.bool false, .slice none 0 0, .bool false, .slice none 0 0] 26)).alloc (.cells #[.int .i64 0, .int .i64 0] 28)) := ⟨_, rfl⟩
  have bV0 : Below w.heap.size w V0 := by rw [hV0]; (repeat (first | with_reducible exact Below.refl _ _ | with_reducible refine Below.alloc ?_ (by first | (simp <;> omega) | omega) _))
  have zV0 : w.heap.size + 4 ≤ V0.heap.size := by rw [hV0]; simp
  have PA : Bk2 V0 (w.heap.size) (.bool false) (.slice A n c) := by rw [hV0]; exact ((((Bk2.newAt _ _ (by first | omega | (simp; done) | (simp; omega)) _ _ _).alloc _).alloc _).alloc _)
  have PB : Bk2 V0 (w.heap.size + 1) (.bool true) (.slice D k d) := by rw [hV0]; exact (((Bk2.newAt _ _ (by first | omega | (simp; done) | (simp; omega)) _ _ _).alloc _).alloc _)
  have PR : Bk4 V0 (w.heap.size + 2) (.bool false) (.slice none 0 0) (.bool false) (.slice none 0 0) := by rw [hV0]; exact ((Bk4.newAt _ _ (by first | omega | (simp; done) | (simp; omega)) _ _ _ _ _).alloc _)
  have PF : Bk2 V0 (w.heap.size + 3) (.int .i64 0) (.int .i64 0) := by rw [hV0]; exact (Bk2.newAt _ _ (by first | omega | (simp; done) | (simp; omega)) _ _ _)
  rw [← hV0]
  clear hV0
  replace E := E.trans (bV0.mono E.size)
  replace HA := HA.below bV0 (by omega)
  replace HB := HB.below bV0 (by omega)
  clear bV0
  refine (gcd_ok _ B A D n k c d xs ys HA HB (by omega) va vb').mono ?_
  rw [HX.out.val, HY.out.val]
  rintro e w1 ⟨A1, k1, c1, x1, rfl, hl1, hr1, hb1⟩
  have R1 := Lib.hid hr1
  have hg0 : 0 < Nat.gcd p q := Nat.gcd_pos_of_pos_right _ HQ.out
  have L1 := Lib.hid (rlen hr1 HY.out (Nat.gcd_le_right _ HQ.out) vb')
  have V1g := Lib.hid (rep_vld hr1.top L1.out)
  have N1 := Lib.hid (show x1.length ≠ 0 from fun e => by
    have h1 := hr1.val
    rw [List.eq_nil_of_length_eq_zero e, vb_nil] at h1
    omega)
  have sw1 := hb1.size
  clear hr1
  replace E := E.trans (hb1.mono E.size)
  replace HA := HA.below hb1 (by omega)
  replace HB := HB.below hb1 (by omega)
  replace PA := PA.below hb1 PA.lt
  replace PB := PB.below hb1 PB.lt
  replace PR := PR.below hb1 PR.lt
  replace PF := PF.below hb1 PF.lt
  clear hb1
  have t_PA0 : (w1.alloc (.cells #[.int .i64 0, .int .i64 0] 28)).cell? ⟨w.heap.size, 0, none⟩ = some ((.bool false)) := (PA.alloc _).c0
  have t_PA1 : (w1.alloc (.cells #[.int .i64 0, .int .i64 0] 28)).cell? ⟨w.heap.size, 1, none⟩ = some ((.slice A n c)) := (PA.alloc _).c1
  go_wp2_with fail
  clear t_PA0 t_PA1
  obtain ⟨V1, hV1⟩ : ∃ V1 : World, V1 = (w1.alloc (.cells #[.int .i64 0, .int .i64 0] 28)) := ⟨_, rfl⟩
  have bV1 : Below w1.heap.size w1 V1 := by rw [hV1]; (repeat (first | with_reducible exact Below.refl _ _ | with_reducible refine Below.alloc ?_ (by first | (simp <;> omega) | omega) _))
  have zV1 : w1.heap.size + 1 ≤ V1.heap.size := by rw [hV1]; simp
  have F7 : Bk2 V1 (w1.heap.size) (.int .i64 0) (.int .i64 0) := by rw [hV1]; exact (Bk2.newAt _ _ (by first | omega | (simp; done) | (simp; omega)) _ _ _)
  rw [← hV1]
  clear hV1
  replace E := E.trans (bV1.mono E.size)
  replace HA := HA.below bV1 (by omega)
  replace HB := HB.below bV1 (by omega)
  replace PA := PA.below bV1 PA.lt
  replace PB := PB.below bV1 PB.lt
  replace PR := PR.below bV1 PR.lt
  replace PF := PF.below bV1 PF.lt
  replace hl1 := hl1.below bV1 (by omega)
  clear bV1
  clear F7
  refine (divmod_ok _ w1.heap.size A A1 n k1 c c1 xs x1 (HA.more (by omega)) hl1 (by omega) va V1g.out).mono ?_
  unfold DmPost
  rw [HX.out.val, R1.out.val]
  rintro e w2 (⟨h0, _⟩ | ⟨_, A2, k2, c2, x2, B2, l2, d2, y2, rfl, hl2, hr2, hm2, hs2, hb2⟩)
  · exact absurd h0 N1.out
  have R2 := Lib.hid hr2
  have K2 := hl2.cap
  have T2 := Lib.hid (len_top hr2 hl2.len.out)
  have sw2 := hb2.size
  clear hr2 hm2 hs2
  replace E := E.trans (hb2.mono E.size)
  replace HA := HA.below hb2 (by omega)
  replace HB := HB.below hb2 (by omega)
  replace PA := PA.below hb2 PA.lt
  replace PB := PB.below hb2 PB.lt
  replace PR := PR.below hb2 PR.lt
  replace PF := PF.below hb2 PF.lt
  replace hl1 := hl1.below hb2 (by omega)
  clear hb2
  have t_PB0 : (w2.alloc (.cells #[.int .i64 0, .int .i64 0] 28)).cell? ⟨w.heap.size + 1, 0, none⟩ = some ((.bool true)) := (PB.alloc _).c0
  have t_PB1 : (w2.alloc (.cells #[.int .i64 0, .int .i64 0] 28)).cell? ⟨w.heap.size + 1, 1, none⟩ = some ((.slice D k d)) := (PB.alloc _).c1
  go_wp2_with fail
  clear t_PB0 t_PB1
  obtain ⟨V2, hV2⟩ : ∃ V2 : World, V2 = (w2.alloc (.cells #[.int .i64 0, .int .i64 0] 28)) := ⟨_, rfl⟩
  have bV2 : Below w2.heap.size w2 V2 := by rw [hV2]; (repeat (first | with_reducible exact Below.refl _ _ | with_reducible refine Below.alloc ?_ (by first | (simp <;> omega) | omega) _))
  have zV2 : w2.heap.size + 1 ≤ V2.heap.size := by rw [hV2]; simp
  have G2 : Bk2 V2 (w2.heap.size) (.int .i64 0) (.int .i64 0) := by rw [hV2]; exact (Bk2.newAt _ _ (by first | omega | (simp; done) | (simp; omega)) _ _ _)
  rw [← hV2]
  clear hV2
  replace E := E.trans (bV2.mono E.size)
  replace HA := HA.below bV2 (by omega)
  replace HB := HB.below bV2 (by omega)
  replace PA := PA.below bV2 PA.lt
  replace PB := PB.below bV2 PB.lt
  replace PR := PR.below bV2 PR.lt
  replace PF := PF.below bV2 PF.lt
  replace hl1 := hl1.below bV2 (by omega)
  replace hl2 := hl2.below bV2 (by omega)
  clear bV2
  clear G2
  refine (divmod_ok _ w1.heap.size D A1 k k1 d c1 ys x1 (HB.more (by omega)) hl1 (by omega) vb' V1g.out).mono ?_
  unfold DmPost
  rw [HY.out.val, R1.out.val]
  rintro e w3 (⟨h0, _⟩ | ⟨_, A3, k3, c3, x3, B3, l3, d3, y3, rfl, hl3, hr3, hm3, hs3, hb3⟩)
  · exact absurd h0 N1.out
  have R3 := Lib.hid hr3
  have K3 := hl3.cap
  have T3 := Lib.hid (len_top hr3 hl3.len.out)
  have sw3 := hb3.size
  clear hr3 hm3 hs3
  replace E := E.trans (hb3.mono E.size)
  replace HA := HA.below hb3 (by omega)
  replace HB := HB.below hb3 (by omega)
  replace PA := PA.below hb3 PA.lt
  replace PB := PB.below hb3 PB.lt
  replace PR := PR.below hb3 PR.lt
  replace PF := PF.below hb3 PF.lt
  replace hl1 := hl1.below hb3 (by omega)
  replace hl2 := hl2.below hb3 (by omega)
  clear hb3
  clear HA HB hl1
  by_cases hf : k2 ≤ 128 ∧ k3 ≤ 128
  · have hmx : max (k2 : Int) (k3 : Int) ≤ 128 := by omega
    obtain ⟨h21, h31⟩ := hf
    have t_PA0 : (w3.alloc (.cells #[.int .i64 0, .int .i64 0] 28)).cell? ⟨w.heap.size, 0, none⟩ = some ((.bool false)) := (PA.alloc _).c0
    have t_PA1 : (w3.alloc (.cells #[.int .i64 0, .int .i64 0] 28)).cell? ⟨w.heap.size, 1, none⟩ = some ((.slice A n c)) := (PA.alloc _).c1
    have t_PB0 : (w3.alloc (.cells #[.int .i64 0, .int .i64 0] 28)).cell? ⟨w.heap.size + 1, 0, none⟩ = some ((.bool true)) := (PB.alloc _).c0
    have t_PB1 : (w3.alloc (.cells #[.int .i64 0, .int .i64 0] 28)).cell? ⟨w.heap.size + 1, 1, none⟩ = some ((.slice D k d)) := (PB.alloc _).c1
    go_wp2_with fail
    clear t_PA0 t_PA1 t_PB0 t_PB1
    obtain ⟨V3, hV3⟩ : ∃ V3 : World, V3 = (w3.alloc (.cells #[.int .i64 0, .int .i64 0] 28)) := ⟨_, rfl⟩
    have bV3 : Below w3.heap.size w3 V3 := by rw [hV3]; (repeat (first | with_reducible exact Below.refl _ _ | with_reducible refine Below.alloc ?_ (by first | (simp <;> omega) | omega) _))
    have zV3 : w3.heap.size + 1 ≤ V3.heap.size := by rw [hV3]; simp
    have G3 : Bk2 V3 (w3.heap.size) (.int .i64 0) (.int .i64 0) := by rw [hV3]; exact (Bk2.newAt _ _ (by first | omega | (simp; done) | (simp; omega)) _ _ _)
    rw [← hV3]
    clear hV3
    replace E := E.trans (bV3.mono E.size)
    replace PA := PA.below bV3 PA.lt
    replace PB := PB.below bV3 PB.lt
    replace PR := PR.below bV3 PR.lt
    replace PF := PF.below bV3 PF.lt
    replace hl2 := hl2.below bV3 (by omega)
    replace hl3 := hl3.below bV3 (by omega)
    clear bV3
    clear G3
    clear hmx
    (with_reducible refine (rsigned_any _ true A2 k2 c2 (by omega)).mono ?_)
    rintro e w4 ⟨rfl, hb4⟩
    have sw4 := hb4.size
    replace E := E.trans (hb4.mono E.size)
    replace PA := PA.below hb4 PA.lt
    replace PB := PB.below hb4 PB.lt
    replace PR := PR.below hb4 PR.lt
    replace PF := PF.below hb4 PF.lt
    replace hl2 := hl2.below hb4 (by omega)
    replace hl3 := hl3.below hb4 (by omega)
    clear hb4
    obtain ⟨sg, hsg⟩ : ∃ sg, sg = (true && decide (0 < k2)) := ⟨_, rfl⟩
    have HSG := Lib.hid hsg
    rw [← hsg]
    clear hsg
    go_wp2_with fail
    (with_reducible refine (rsigned_any _ false A3 k3 c3 (by omega)).mono ?_)
    rintro e w5 ⟨rfl, hb5⟩
    have sw5 := hb5.size
    replace E := E.trans (hb5.mono E.size)
    replace PA := PA.below hb5 PA.lt
    replace PB := PB.below hb5 PB.lt
    replace PR := PR.below hb5 PR.lt
    replace PF := PF.below hb5 PF.lt
    replace hl2 := hl2.below hb5 (by omega)
    replace hl3 := hl3.below hb5 (by omega)
    clear hb5
    rw [Bool.false_and]
    have y_PR0 := PR.c0
    have z_PR0 := PR.z0
    have y_PR1 := PR.c1
    have z_PR1 := PR.z1
    have y_PR2 := PR.c2
    have z_PR2 := PR.z2
    have y_PR3 := PR.c3
    have z_PR3 := PR.z3
    have lt_PR := PR.lt
    have y_PF0 := PF.c0
    have z_PF0 := PF.z0
    have y_PF1 := PF.c1
    have z_PF1 := PF.z1
    have lt_PF := PF.lt
    go_wp2_with fail
    clear y_PR0 z_PR0 y_PR1 z_PR1 y_PR2 z_PR2 y_PR3 z_PR3 lt_PR y_PF0 z_PF0 y_PF1 z_PF1 lt_PF
    obtain ⟨U5PR, hU5PR⟩ : ∃ U5PR : World, U5PR = ((((w5.setCell ⟨w.heap.size + 2, 0, none⟩ (.bool sg)).setCell ⟨w.heap.size + 2, 1, none⟩ (.slice A2 k2 c2)).setCell ⟨w.heap.size + 2, 2, none⟩ (.bool false)).setCell ⟨w.heap.size + 2, 3, none⟩ (.slice A3 k3 c3)) := ⟨_, rfl⟩
    have zU5PR : U5PR.heap.size = w5.heap.size := by rw [hU5PR]; simp [World.setCell]
    replace E : Below w.heap.size w U5PR := by rw [hU5PR]; exact ((((E.setCell (by first | (simp; done) | (simp; omega)) _).setCell (by first | (simp; done) | (simp; omega)) _).setCell (by first | (simp; done) | (simp; omega)) _).setCell (by first | (simp; done) | (simp; omega)) _)
    replace PA : Bk2 U5PR (w.heap.size) (.bool false) (.slice A n c) := by rw [hU5PR]; exact PA.far4 (by omega) _ _ _ _
    replace PB : Bk2 U5PR (w.heap.size + 1) (.bool true) (.slice D k d) := by rw [hU5PR]; exact PB.far4 (by omega) _ _ _ _
    replace PF : Bk2 U5PR (w.heap.size + 3) (.int .i64 0) (.int .i64 0) := by rw [hU5PR]; exact PF.far4 (by omega) _ _ _ _
    replace hl2 : LRd U5PR (w2.heap.size) A2 k2 c2 x2 := by rw [hU5PR]; first | exact hl2.set4 PR (by simp) (by simp) (by simp) (by simp) _ _ _ _ | exact hl2.set4O (by omega) _ _ _ _
    replace hl3 : LRd U5PR (w3.heap.size) A3 k3 c3 x3 := by rw [hU5PR]; first | exact hl3.set4 PR (by simp) (by simp) (by simp) (by simp) _ _ _ _ | exact hl3.set4O (by omega) _ _ _ _
    replace PR : Bk4 U5PR (w.heap.size + 2) (.bool sg) (.slice A2 k2 c2) (.bool false) (.slice A3 k3 c3) := by rw [hU5PR]; exact PR.set _ _ _ _
    rw [← hU5PR]
    clear hU5PR
    have zU5PR' := Nat.le_of_eq zU5PR
    replace zU5PR := Nat.le_of_eq zU5PR.symm
    obtain ⟨U5PF, hU5PF⟩ : ∃ U5PF : World, U5PF = ((U5PR.setCell ⟨w.heap.size + 3, 0, none⟩ (.int .i64 0)).setCell ⟨w.heap.size + 3, 1, none⟩ (.int .i64 0)) := ⟨_, rfl⟩
    have zU5PF : U5PF.heap.size = U5PR.heap.size := by rw [hU5PF]; simp [World.setCell]
    replace E : Below w.heap.size w U5PF := by rw [hU5PF]; exact ((E.setCell (by first | (simp; done) | (simp; omega)) _).setCell (by first | (simp; done) | (simp; omega)) _)
    replace PA : Bk2 U5PF (w.heap.size) (.bool false) (.slice A n c) := by rw [hU5PF]; exact PA.far2 (by omega) _ _
    replace PB : Bk2 U5PF (w.heap.size + 1) (.bool true) (.slice D k d) := by rw [hU5PF]; exact PB.far2 (by omega) _ _
    replace PR : Bk4 U5PF (w.heap.size + 2) (.bool sg) (.slice A2 k2 c2) (.bool false) (.slice A3 k3 c3) := by rw [hU5PF]; exact PR.far2 (by omega) _ _
    replace hl2 : LRd U5PF (w2.heap.size) A2 k2 c2 x2 := by rw [hU5PF]; first | exact hl2.setB PF (by simp) (by simp) _ _ | exact hl2.setFarL (by omega) _ _
    replace hl3 : LRd U5PF (w3.heap.size) A3 k3 c3 x3 := by rw [hU5PF]; first | exact hl3.setB PF (by simp) (by simp) _ _ | exact hl3.setFarL (by omega) _ _
    replace PF : Bk2 U5PF (w.heap.size + 3) (.int .i64 0) (.int .i64 0) := by rw [hU5PF]; exact PF.set _ _
    rw [← hU5PF]
    clear hU5PF
    have zU5PF' := Nat.le_of_eq zU5PF
    replace zU5PF := Nat.le_of_eq zU5PF.symm
    obtain ⟨f0, f1, _, _, _⟩ := PF
    obtain ⟨r0, r1, r2, r3, _, _, _, _, _⟩ := PR
    have h9 := irep_sg (m := true) R2.out hl2.len.out
    rw [← HSG.out] at h9
    refine bodyPost_ret (v := .tuple #[ratv sg A2 k2 c2 false A3 k3 c3, flt 0 0]) (by simp [results, Tryz.results59, go_sem, r0, r1, r2, r3, f0, f1]) rfl (.inl ⟨T2.out.1 h21, T3.out.1 h31, sg, A2, k2, c2, x2, false, A3, k3, c3, x3, rfl, hl2.more (by omega), hl3.more (by omega), h9, irep_pos R3.out, E⟩)
  · have hmx : 128 < max (k2 : Int) (k3 : Int) := by omega
    have HF := Lib.hid hf
    clear hf
    clear PA PB hl2 hl3
    have y_PR0 := PR.c0
    have z_PR0 := PR.z0
    have y_PR1 := PR.c1
    have z_PR1 := PR.z1
    have y_PR2 := PR.c2
    have z_PR2 := PR.z2
    have y_PR3 := PR.c3
    have z_PR3 := PR.z3
    have lt_PR := PR.lt
    have y_PF0 := PF.c0
    have z_PF0 := PF.z0
    have y_PF1 := PF.c1
    have z_PF1 := PF.z1
    have lt_PF := PF.lt
    go_wp2_with fail
    clear y_PR0 z_PR0 y_PR1 z_PR1 y_PR2 z_PR2 y_PR3 z_PR3 lt_PR y_PF0 z_PF0 y_PF1 z_PF1 lt_PF
    obtain ⟨U3PR, hU3PR⟩ : ∃ U3PR : World, U3PR = ((((w3.setCell ⟨w.heap.size + 2, 0, none⟩ (.bool false)).setCell ⟨w.heap.size + 2, 1, none⟩ (.slice none 0 0)).setCell ⟨w.heap.size + 2, 2, none⟩ (.bool false)).setCell ⟨w.heap.size + 2, 3, none⟩ (.slice none 0 0)) := ⟨_, rfl⟩
    have zU3PR : U3PR.heap.size = w3.heap.size := by rw [hU3PR]; simp [World.setCell]
    replace E : Below w.heap.size w U3PR := by rw [hU3PR]; exact ((((E.setCell (by first | (simp; done) | (simp; omega)) _).setCell (by first | (simp; done) | (simp; omega)) _).setCell (by first | (simp; done) | (simp; omega)) _).setCell (by first | (simp; done) | (simp; omega)) _)
    replace PF : Bk2 U3PR (w.heap.size + 3) (.int .i64 0) (.int .i64 0) := by rw [hU3PR]; exact PF.far4 (by omega) _ _ _ _
    replace PR : Bk4 U3PR (w.heap.size + 2) (.bool false) (.slice none 0 0) (.bool false) (.slice none 0 0) := by rw [hU3PR]; exact PR.set _ _ _ _
    rw [← hU3PR]
    clear hU3PR
    have zU3PR' := Nat.le_of_eq zU3PR
    replace zU3PR := Nat.le_of_eq zU3PR.symm
    obtain ⟨U3PF, hU3PF⟩ : ∃ U3PF : World, U3PF = ((U3PR.setCell ⟨w.heap.size + 3, 0, none⟩ (.int .i64 14)).setCell ⟨w.heap.size + 3, 1, none⟩ (.int .i64 (-1))) := ⟨_, rfl⟩
    have zU3PF : U3PF.heap.size = U3PR.heap.size := by rw [hU3PF]; simp [World.setCell]
    replace E : Below w.heap.size w U3PF := by rw [hU3PF]; exact ((E.setCell (by first | (simp; done) | (simp; omega)) _).setCell (by first | (simp; done) | (simp; omega)) _)
    replace PR : Bk4 U3PF (w.heap.size + 2) (.bool false) (.slice none 0 0) (.bool false) (.slice none 0 0) := by rw [hU3PF]; exact PR.far2 (by omega) _ _
    replace PF : Bk2 U3PF (w.heap.size + 3) (.int .i64 14) (.int .i64 (-1)) := by rw [hU3PF]; exact PF.set _ _
    rw [← hU3PF]
    clear hU3PF
    have zU3PF' := Nat.le_of_eq zU3PF
    replace zU3PF := Nat.le_of_eq zU3PF.symm
    obtain ⟨V3, hV3⟩ : ∃ V3 : World, V3 = (U3PF.alloc (.cells #[.int .i64 0, .int .i64 0] 28)) := ⟨_, rfl⟩
    have bV3 : Below U3PF.heap.size U3PF V3 := by rw [hV3]; (repeat (first | with_reducible exact Below.refl _ _ | with_reducible refine Below.alloc ?_ (by first | (simp <;> omega) | omega) _))
    have zV3 : U3PF.heap.size + 1 ≤ V3.heap.size := by rw [hV3]; simp
    have G3 : Bk2 V3 (w3.heap.size) (.int .i64 0) (.int .i64 0) := by rw [hV3]; exact (Bk2.newAt _ _ (by first | omega | (simp; done) | (simp; omega)) _ _ _)
    rw [← hV3]
    clear hV3
    replace E := E.trans (bV3.mono E.size)
    replace PR := PR.below bV3 PR.lt
    replace PF := PF.below bV3 PF.lt
    clear bV3
    obtain ⟨f0, f1, _, _, _⟩ := PF
    obtain ⟨r0, r1, r2, r3, _, _, _, _, _⟩ := PR
    refine bodyPost_ret (v := .tuple #[ratv false none 0 0 false none 0 0, flt 14 (-1)]) (by simp [results, Tryz.results59, go_sem, r0, r1, r2, r3, f0, f1]) rfl (.inr ⟨?_, false, none, 0, 0, [], false, none, 0, 0, [], rfl, nil_lrd _, nil_lrd _, IRep.zero, IRep.zero, E⟩)
    rcases Nat.lt_or_ge 128 k2 with h | h
    · exact .inl (Nat.le_of_not_lt fun h2 => by have := T2.out.2 h2; omega)
    · exact .inr (Nat.le_of_not_lt fun h2 => by have := T3.out.2 h2; exact HF.out ⟨h, this⟩)
set_option maxHeartbeats 4000000 in
theorem quotient_tf (w : World) (B : Nat) (A D : Option Addr) (n k c d p q : Nat) (xs ys : List Nat) (HA : LRd w B A n c xs) (HB : LRd w B D k d ys) (hB : B ≤ w.heap.size) (hx : Rep 4294967296 xs p) (hy : Rep 4294967296 ys q) (va : vld xs = true) (vb' : vld ys = true) (hq : 0 < q) :
    Calls Tryz.prog 59 #[intv true A n c, intv false D k d] w (GivesQuo w true p q) := by
  have HX := Lib.hid hx
  have HY := Lib.hid hy
  have HQ := Lib.hid hq
  clear hx hy hq
  have E : Below w.heap.size w w := Below.refl _ _
  go_enter Tryz.func59, Tryz.ntmps59
  go_wp2_with fail
  obtain ⟨V0, hV0⟩ : ∃ V0 : World, V0 = ((((w.alloc (.cells #[.bool true, .slice A n c] 24)).alloc (.cells #[.bool false, .slice D k d] 24)).alloc (.cells #[.bool false, .slice none 0 0, .bool false, .slice none 0 0] 26)).alloc (.cells #[.int .i64 0, .int .i64 0] 28)) := ⟨_, rfl⟩
  have bV0 : Below w.heap.size w V0 := by rw [hV0]; (repeat (first | with_reducible exact Below.refl _ _ | with_reducible refine Below.alloc ?_ (by first | (simp <;> omega) | omega) _))
  have zV0 : w.heap.size + 4 ≤ V0.heap.size := by rw [hV0]; simp
  have PA : Bk2 V0 (w.heap.size) (.bool true) (.slice A n c) := by rw [hV0]; exact ((((Bk2.newAt _ _ (by first | omega | (simp; done) | (simp; omega)) _ _ _).alloc _).alloc _).alloc _)
  have PB : Bk2 V0 (w.heap.size + 1) (.bool false) (.slice D k d) := by rw [hV0]; exact (((Bk2.newAt _ _ (by first | omega | (simp; done) | (simp; omega)) _ _ _).alloc _).alloc _)
  have PR : Bk4 V0 (w.heap.size + 2) (.bool false) (.slice none 0 0) (.bool false) (.slice none 0 0) := by rw [hV0]; exact ((Bk4.newAt _ _ (by first | omega | (simp; done) | (simp; omega)) _ _ _ _ _).alloc _)
  have PF : Bk2 V0 (w.heap.size + 3) (.int .i64 0) (.int .i64 0) := by rw [hV0]; exact (Bk2.newAt _ _ (by first | omega | (simp; done) | (simp; omega)) _ _ _)
  rw [← hV0]
  clear hV0
  replace E := E.trans (bV0.mono E.size)
  replace HA := HA.below bV0 (by omega)
  replace HB := HB.below bV0 (by omega)
  clear bV0
  refine (gcd_ok _ B A D n k c d xs ys HA HB (by omega) va vb').mono ?_
  rw [HX.out.val, HY.out.val]
  rintro e w1 ⟨A1, k1, c1, x1, rfl, hl1, hr1, hb1⟩
  have R1 := Lib.hid hr1
  have hg0 : 0 < Nat.gcd p q := Nat.gcd_pos_of_pos_right _ HQ.out
  have L1 := Lib.hid (rlen hr1 HY.out (Nat.gcd_le_right _ HQ.out) vb')
  have V1g := Lib.hid (rep_vld hr1.top L1.out)
  have N1 := Lib.hid (show x1.length ≠ 0 from fun e => by
    have h1 := hr1.val
    rw [List.eq_nil_of_length_eq_zero e, vb_nil] at h1
    omega)
  have sw1 := hb1.size
  clear hr1
  replace E := E.trans (hb1.mono E.size)
  replace HA := HA.below hb1 (by omega)
  replace HB := HB.below hb1 (by omega)
  replace PA := PA.below hb1 PA.lt
  replace PB := PB.below hb1 PB.lt
  replace PR := PR.below hb1 PR.lt
  replace PF := PF.below hb1 PF.lt
  clear hb1
  have t_PA0 : (w1.alloc (.cells #[.int .i64 0, .int .i64 0] 28)).cell? ⟨w.heap.size, 0, none⟩ = some ((.bool true)) := (PA.alloc _).c0
  have t_PA1 : (w1.alloc (.cells #[.int .i64 0, .int .i64 0] 28)).cell? ⟨w.heap.size, 1, none⟩ = some ((.slice A n c)) := (PA.alloc _).c1
  go_wp2_with fail
  clear t_PA0 t_PA1
  obtain ⟨V1, hV1⟩ : ∃ V1 : World, V1 = (w1.alloc (.cells #[.int .i64 0, .int .i64 0] 28)) := ⟨_, rfl⟩
  have bV1 : Below w1.heap.size w1 V1 := by rw [hV1]; (repeat (first | with_reducible exact Below.refl _ _ | with_reducible refine Below.alloc ?_ (by first | (simp <;> omega) | omega) _))
  have zV1 : w1.heap.size + 1 ≤ V1.heap.size := by rw [hV1]; simp
  have F7 : Bk2 V1 (w1.heap.size) (.int .i64 0) (.int .i64 0) := by rw [hV1]; exact (Bk2.newAt _ _ (by first | omega | (simp; done) | (simp; omega)) _ _ _)
  rw [← hV1]
  clear hV1
  replace E := E.trans (bV1.mono E.size)
  replace HA := HA.below bV1 (by omega)
  replace HB := HB.below bV1 (by omega)
  replace PA := PA.below bV1 PA.lt
  replace PB := PB.below bV1 PB.lt
  replace PR := PR.below bV1 PR.lt
  replace PF := PF.below bV1 PF.lt
  replace hl1 := hl1.below bV1 (by omega)
  clear bV1
  clear F7
  refine (divmod_ok _ w1.heap.size A A1 n k1 c c1 xs x1 (HA.more (by omega)) hl1 (by omega) va V1g.out).mono ?_
  unfold DmPost
  rw [HX.out.val, R1.out.val]
  rintro e w2 (⟨h0, _⟩ | ⟨_, A2, k2, c2, x2, B2, l2, d2, y2, rfl, hl2, hr2, hm2, hs2, hb2⟩)
  · exact absurd h0 N1.out
  have R2 := Lib.hid hr2
  have K2 := hl2.cap
  have T2 := Lib.hid (len_top hr2 hl2.len.out)
  have sw2 := hb2.size
  clear hr2 hm2 hs2
  replace E := E.trans (hb2.mono E.size)
  replace HA := HA.below hb2 (by omega)
  replace HB := HB.below hb2 (by omega)
  replace PA := PA.below hb2 PA.lt
  replace PB := PB.below hb2 PB.lt
  replace PR := PR.below hb2 PR.lt
  replace PF := PF.below hb2 PF.lt
  replace hl1 := hl1.below hb2 (by omega)
  clear hb2
  have t_PB0 : (w2.alloc (.cells #[.int .i64 0, .int .i64 0] 28)).cell? ⟨w.heap.size + 1, 0, none⟩ = some ((.bool false)) := (PB.alloc _).c0
  have t_PB1 : (w2.alloc (.cells #[.int .i64 0, .int .i64 0] 28)).cell? ⟨w.heap.size + 1, 1, none⟩ = some ((.slice D k d)) := (PB.alloc _).c1
  go_wp2_with fail
  clear t_PB0 t_PB1
  obtain ⟨V2, hV2⟩ : ∃ V2 : World, V2 = (w2.alloc (.cells #[.int .i64 0, .int .i64 0] 28)) := ⟨_, rfl⟩
  have bV2 : Below w2.heap.size w2 V2 := by rw [hV2]; (repeat (first | with_reducible exact Below.refl _ _ | with_reducible refine Below.alloc ?_ (by first | (simp <;> omega) | omega) _))
  have zV2 : w2.heap.size + 1 ≤ V2.heap.size := by rw [hV2]; simp
  have G2 : Bk2 V2 (w2.heap.size) (.int .i64 0) (.int .i64 0) := by rw [hV2]; exact (Bk2.newAt _ _ (by first | omega | (simp; done) | (simp; omega)) _ _ _)
  rw [← hV2]
  clear hV2
  replace E := E.trans (bV2.mono E.size)
  replace HA := HA.below bV2 (by omega)
  replace HB := HB.below bV2 (by omega)
  replace PA := PA.below bV2 PA.lt
  replace PB := PB.below bV2 PB.lt
  replace PR := PR.below bV2 PR.lt
  replace PF := PF.below bV2 PF.lt
  replace hl1 := hl1.below bV2 (by omega)
  replace hl2 := hl2.below bV2 (by omega)
  clear bV2
  clear G2
  refine (divmod_ok _ w1.heap.size D A1 k k1 d c1 ys x1 (HB.more (by omega)) hl1 (by omega) vb' V1g.out).mono ?_
  unfold DmPost
  rw [HY.out.val, R1.out.val]
  rintro e w3 (⟨h0, _⟩ | ⟨_, A3, k3, c3, x3, B3, l3, d3, y3, rfl, hl3, hr3, hm3, hs3, hb3⟩)
  · exact absurd h0 N1.out
  have R3 := Lib.hid hr3
  have K3 := hl3.cap
  have T3 := Lib.hid (len_top hr3 hl3.len.out)
  have sw3 := hb3.size
  clear hr3 hm3 hs3
  replace E := E.trans (hb3.mono E.size)
  replace HA := HA.below hb3 (by omega)
  replace HB := HB.below hb3 (by omega)
  replace PA := PA.below hb3 PA.lt
  replace PB := PB.below hb3 PB.lt
  replace PR := PR.below hb3 PR.lt
  replace PF := PF.below hb3 PF.lt
  replace hl1 := hl1.below hb3 (by omega)
  replace hl2 := hl2.below hb3 (by omega)
  clear hb3
  clear HA HB hl1
  by_cases hf : k2 ≤ 128 ∧ k3 ≤ 128
  · have hmx : max (k2 : Int) (k3 : Int) ≤ 128 := by omega
    obtain ⟨h21, h31⟩ := hf
    have t_PA0 : (w3.alloc (.cells #[.int .i64 0, .int .i64 0] 28)).cell? ⟨w.heap.size, 0, none⟩ = some ((.bool true)) := (PA.alloc _).c0
    have t_PA1 : (w3.alloc (.cells #[.int .i64 0, .int .i64 0] 28)).cell? ⟨w.heap.size, 1, none⟩ = some ((.slice A n c)) := (PA.alloc _).c1
    have t_PB0 : (w3.alloc (.cells #[.int .i64 0, .int .i64 0] 28)).cell? ⟨w.heap.size + 1, 0, none⟩ = some ((.bool false)) := (PB.alloc _).c0
    have t_PB1 : (w3.alloc (.cells #[.int .i64 0, .int .i64 0] 28)).cell? ⟨w.heap.size + 1, 1, none⟩ = some ((.slice D k d)) := (PB.alloc _).c1
    go_wp2_with fail
    clear t_PA0 t_PA1 t_PB0 t_PB1
    obtain ⟨V3, hV3⟩ : ∃ V3 : World, V3 = (w3.alloc (.cells #[.int .i64 0, .int .i64 0] 28)) := ⟨_, rfl⟩
    have bV3 : Below w3.heap.size w3 V3 := by rw [hV3]; (repeat (first | with_reducible exact Below.refl _ _ | with_reducible refine Below.alloc ?_ (by first | (simp <;> omega) | omega) _))
    have zV3 : w3.heap.size + 1 ≤ V3.heap.size := by rw [hV3]; simp
    have G3 : Bk2 V3 (w3.heap.size) (.int .i64 0) (.int .i64 0) := by rw [hV3]; exact (Bk2.newAt _ _ (by first | omega | (simp; done) | (simp; omega)) _ _ _)
    rw [← hV3]
    clear hV3
    replace E := E.trans (bV3.mono E.size)
    replace PA := PA.below bV3 PA.lt
    replace PB := PB.below bV3 PB.lt
    replace PR := PR.below bV3 PR.lt
    replace PF := PF.below bV3 PF.lt
    replace hl2 := hl2.below bV3 (by omega)
    replace hl3 := hl3.below bV3 (by omega)
    clear bV3
    clear G3
    clear hmx
    (with_reducible refine (rsigned_any _ true A2 k2 c2 (by omega)).mono ?_)
    rintro e w4 ⟨rfl, hb4⟩
    have sw4 := hb4.size
    replace E := E.trans (hb4.mono E.size)
    replace PA := PA.below hb4 PA.lt
    replace PB := PB.below hb4 PB.lt
    replace PR := PR.below hb4 PR.lt
    replace PF := PF.below hb4 PF.lt
    replace hl2 := hl2.below hb4 (by omega)
    replace hl3 := hl3.below hb4 (by omega)
    clear hb4
    obtain ⟨sg, hsg⟩ : ∃ sg, sg = (true && decide (0 < k2)) := ⟨_, rfl⟩
    have HSG := Lib.hid hsg
    rw [← hsg]
    clear hsg
    go_wp2_with fail
    (with_reducible refine (rsigned_any _ false A3 k3 c3 (by omega)).mono ?_)
    rintro e w5 ⟨rfl, hb5⟩
    have sw5 := hb5.size
    replace E := E.trans (hb5.mono E.size)
    replace PA := PA.below hb5 PA.lt
    replace PB := PB.below hb5 PB.lt
    replace PR := PR.below hb5 PR.lt
    replace PF := PF.below hb5 PF.lt
    replace hl2 := hl2.below hb5 (by omega)
    replace hl3 := hl3.below hb5 (by omega)
    clear hb5
    rw [Bool.false_and]
    have y_PR0 := PR.c0
    have z_PR0 := PR.z0
    have y_PR1 := PR.c1
    have z_PR1 := PR.z1
    have y_PR2 := PR.c2
    have z_PR2 := PR.z2
    have y_PR3 := PR.c3
    have z_PR3 := PR.z3
    have lt_PR := PR.lt
    have y_PF0 := PF.c0
    have z_PF0 := PF.z0
    have y_PF1 := PF.c1
    have z_PF1 := PF.z1
    have lt_PF := PF.lt
    go_wp2_with fail
    clear y_PR0 z_PR0 y_PR1 z_PR1 y_PR2 z_PR2 y_PR3 z_PR3 lt_PR y_PF0 z_PF0 y_PF1 z_PF1 lt_PF
    obtain ⟨U5PR, hU5PR⟩ : ∃ U5PR : World, U5PR = ((((w5.setCell ⟨w.heap.size + 2, 0, none⟩ (.bool sg)).setCell ⟨w.heap.size + 2, 1, none⟩ (.slice A2 k2 c2)).setCell ⟨w.heap.size + 2, 2, none⟩ (.bool false)).setCell ⟨w.heap.size + 2, 3, none⟩ (.slice A3 k3 c3)) := ⟨_, rfl⟩
    have zU5PR : U5PR.heap.size = w5.heap.size := by rw [hU5PR]; simp [World.setCell]
    replace E : Below w.heap.size w U5PR := by rw [hU5PR]; exact ((((E.setCell (by first | (simp; done) | (simp; omega)) _).setCell (by first | (simp; done) | (simp; omega)) _).setCell (by first | (simp; done) | (simp; omega)) _).setCell (by first | (simp; done) | (simp; omega)) _)
    replace PA : Bk2 U5PR (w.heap.size) (.bool true) (.slice A n c) := by rw [hU5PR]; exact PA.far4 (by omega) _ _ _ _
    replace PB : Bk2 U5PR (w.heap.size + 1) (.bool false) (.slice D k d) := by rw [hU5PR]; exact PB.far4 (by omega) _ _ _ _
    replace PF : Bk2 U5PR (w.heap.size + 3) (.int .i64 0) (.int .i64 0) := by rw [hU5PR]; exact PF.far4 (by omega) _ _ _ _
    replace hl2 : LRd U5PR (w2.heap.size) A2 k2 c2 x2 := by rw [hU5PR]; first | exact hl2.set4 PR (by simp) (by simp) (by simp) (by simp) _ _ _ _ | exact hl2.set4O (by omega) _ _ _ _
    replace hl3 : LRd U5PR (w3.heap.size) A3 k3 c3 x3 := by rw [hU5PR]; first | exact hl3.set4 PR (by simp) (by simp) (by simp) (by simp) _ _ _ _ | exact hl3.set4O (by omega) _ _ _ _
    replace PR : Bk4 U5PR (w.heap.size + 2) (.bool sg) (.slice A2 k2 c2) (.bool false) (.slice A3 k3 c3) := by rw [hU5PR]; exact PR.set _ _ _ _
    rw [← hU5PR]
    clear hU5PR
    have zU5PR' := Nat.le_of_eq zU5PR
    replace zU5PR := Nat.le_of_eq zU5PR.symm
    obtain ⟨U5PF, hU5PF⟩ : ∃ U5PF : World, U5PF = ((U5PR.setCell ⟨w.heap.size + 3, 0, none⟩ (.int .i64 0)).setCell ⟨w.heap.size + 3, 1, none⟩ (.int .i64 0)) := ⟨_, rfl⟩
    have zU5PF : U5PF.heap.size = U5PR.heap.size := by rw [hU5PF]; simp [World.setCell]
    replace E : Below w.heap.size w U5PF := by rw [hU5PF]; exact ((E.setCell (by first | (simp; done) | (simp; omega)) _).setCell (by first | (simp; done) | (simp; omega)) _)
    replace PA : Bk2 U5PF (w.heap.size) (.bool true) (.slice A n c) := by rw [hU5PF]; exact PA.far2 (by omega) _ _
    replace PB : Bk2 U5PF (w.heap.size + 1) (.bool false) (.slice D k d) := by rw [hU5PF]; exact PB.far2 (by omega) _ _
    replace PR : Bk4 U5PF (w.heap.size + 2) (.bool sg) (.slice A2 k2 c2) (.bool false) (.slice A3 k3 c3) := by rw [hU5PF]; exact PR.far2 (by omega) _ _
    replace hl2 : LRd U5PF (w2.heap.size) A2 k2 c2 x2 := by rw [hU5PF]; first | exact hl2.setB PF (by simp) (by simp) _ _ | exact hl2.setFarL (by omega) _ _
    replace hl3 : LRd U5PF (w3.heap.size) A3 k3 c3 x3 := by rw [hU5PF]; first | exact hl3.setB PF (by simp) (by simp) _ _ | exact hl3.setFarL (by omega) _ _
    replace PF : Bk2 U5PF (w.heap.size + 3) (.int .i64 0) (.int .i64 0) := by rw [hU5PF]; exact PF.set _ _
    rw [← hU5PF]
    clear hU5PF
    have zU5PF' := Nat.le_of_eq zU5PF
    replace zU5PF := Nat.le_of_eq zU5PF.symm
    obtain ⟨f0, f1, _, _, _⟩ := PF
    obtain ⟨r0, r1, r2, r3, _, _, _, _, _⟩ := PR
    have h9 := irep_sg (m := true) R2.out hl2.len.out
    rw [← HSG.out] at h9
    refine bodyPost_ret (v := .tuple #[ratv sg A2 k2 c2 false A3 k3 c3, flt 0 0]) (by simp [results, Tryz.results59, go_sem, r0, r1, r2, r3, f0, f1]) rfl (.inl ⟨T2.out.1 h21, T3.out.1 h31, sg, A2, k2, c2, x2, false, A3, k3, c3, x3, rfl, hl2.more (by omega), hl3.more (by omega), h9, irep_pos R3.out, E⟩)
  · have hmx : 128 < max (k2 : Int) (k3 : Int) := by omega
    have HF := Lib.hid hf
    clear hf
    clear PA PB hl2 hl3
    have y_PR0 := PR.c0
    have z_PR0 := PR.z0
    have y_PR1 := PR.c1
    have z_PR1 := PR.z1
    have y_PR2 := PR.c2
    have z_PR2 := PR.z2
    have y_PR3 := PR.c3
    have z_PR3 := PR.z3
    have lt_PR := PR.lt
    have y_PF0 := PF.c0
    have z_PF0 := PF.z0
    have y_PF1 := PF.c1
    have z_PF1 := PF.z1
    have lt_PF := PF.lt
    go_wp2_with fail
    clear y_PR0 z_PR0 y_PR1 z_PR1 y_PR2 z_PR2 y_PR3 z_PR3 lt_PR y_PF0 z_PF0 y_PF1 z_PF1 lt_PF
    obtain ⟨U3PR, hU3PR⟩ : ∃ U3PR : World, U3PR = ((((w3.setCell ⟨w.heap.size + 2, 0, none⟩ (.bool false)).setCell ⟨w.heap.size + 2, 1, none⟩ (.slice none 0 0)).setCell ⟨w.heap.size + 2, 2, none⟩ (.bool false)).setCell ⟨w.heap.size + 2, 3, none⟩ (.slice none 0 0)) := ⟨_, rfl⟩
    have zU3PR : U3PR.heap.size = w3.heap.size := by rw [hU3PR]; simp [World.setCell]
    replace E : Below w.heap.size w U3PR := by rw [hU3PR]; exact ((((E.setCell (by first | (simp; done) | (simp; omega)) _).setCell (by first | (simp; done) | (simp; omega)) _).setCell (by first | (simp; done) | (simp; omega)) _).setCell (by first | (simp; done) | (simp; omega)) _)
    replace PF : Bk2 U3PR (w.heap.size + 3) (.int .i64 0) (.int .i64 0) := by rw [hU3PR]; exact PF.far4 (by omega) _ _ _ _
    replace PR : Bk4 U3PR (w.heap.size + 2) (.bool false) (.slice none 0 0) (.bool false) (.slice none 0 0) := by rw [hU3PR]; exact PR.set _ _ _ _
    rw [← hU3PR]
    clear hU3PR
    have zU3PR' := Nat.le_of_eq zU3PR
    replace zU3PR := Nat.le_of_eq zU3PR.symm
    obtain ⟨U3PF, hU3PF⟩ : ∃ U3PF : World, U3PF = ((U3PR.setCell ⟨w.heap.size + 3, 0, none⟩ (.int .i64 14)).setCell ⟨w.heap.size + 3, 1, none⟩ (.int .i64 (-1))) := ⟨_, rfl⟩
    have zU3PF : U3PF.heap.size = U3PR.heap.size := by rw [hU3PF]; simp [World.setCell]
    replace E : Below w.heap.size w U3PF := by rw [hU3PF]; exact ((E.setCell (by first | (simp; done) | (simp; omega)) _).setCell (by first | (simp; done) | (simp; omega)) _)
    replace PR : Bk4 U3PF (w.heap.size + 2) (.bool false) (.slice none 0 0) (.bool false) (.slice none 0 0) := by rw [hU3PF]; exact PR.far2 (by omega) _ _
    replace PF : Bk2 U3PF (w.heap.size + 3) (.int .i64 14) (.int .i64 (-1)) := by rw [hU3PF]; exact PF.set _ _
    rw [← hU3PF]
    clear hU3PF
    have zU3PF' := Nat.le_of_eq zU3PF
    replace zU3PF := Nat.le_of_eq zU3PF.symm
    obtain ⟨V3, hV3⟩ : ∃ V3 : World, V3 = (U3PF.alloc (.cells #[.int .i64 0, .int .i64 0] 28)) := ⟨_, rfl⟩
    have bV3 : Below U3PF.heap.size U3PF V3 := by rw [hV3]; (repeat (first | with_reducible exact Below.refl _ _ | with_reducible refine Below.alloc ?_ (by first | (simp <;> omega) | omega) _))
    have zV3 : U3PF.heap.size + 1 ≤ V3.heap.size := by rw [hV3]; simp
    have G3 : Bk2 V3 (w3.heap.size) (.int .i64 0) (.int .i64 0) := by rw [hV3]; exact (Bk2.newAt _ _ (by first | omega | (simp; done) | (simp; omega)) _ _ _)
    rw [← hV3]
    clear hV3
    replace E := E.trans (bV3.mono E.size)
    replace PR := PR.below bV3 PR.lt
    replace PF := PF.below bV3 PF.lt
    clear bV3
    obtain ⟨f0, f1, _, _, _⟩ := PF
    obtain ⟨r0, r1, r2, r3, _, _, _, _, _⟩ := PR
    refine bodyPost_ret (v := .tuple #[ratv false none 0 0 false none 0 0, flt 14 (-1)]) (by simp [results, Tryz.results59, go_sem, r0, r1, r2, r3, f0, f1]) rfl (.inr ⟨?_, false, none, 0, 0, [], false, none, 0, 0, [], rfl, nil_lrd _, nil_lrd _, IRep.zero, IRep.zero, E⟩)
    rcases Nat.lt_or_ge 128 k2 with h | h
    · exact .inl (Nat.le_of_not_lt fun h2 => by have := T2.out.2 h2; omega)
    · exact .inr (Nat.le_of_not_lt fun h2 => by have := T3.out.2 h2; exact HF.out ⟨h, this⟩)
set_option maxHeartbeats 4000000 in
theorem quotient_tt (w : World) (B : Nat) (A D : Option Addr) (n k c d p q : Nat) (xs ys : List Nat) (HA : LRd w B A n c xs) (HB : LRd w B D k d ys) (hB : B ≤ w.heap.size) (hx : Rep 4294967296 xs p) (hy : Rep 4294967296 ys q) (va : vld xs = true) (vb' : vld ys = true) (hq : 0 < q) :
    Calls Tryz.prog 59 #[intv true A n c, intv true D k d] w (GivesQuo w false p q) := by
  have HX := Lib.hid hx
  have HY := Lib.hid hy
  have HQ := Lib.hid hq
  clear hx hy hq
  have E : Below w.heap.size w w := Below.refl _ _
  go_enter Tryz.func59, Tryz.ntmps59
  go_wp2_with fail
  obtain ⟨V0, hV0⟩ : ∃ V0 : World, V0 = ((((w.alloc (.cells #[.bool true, .slice A n c] 24)).alloc (.cells #[.bool true, .slice D k d] 24)).alloc (.cells #[.bool false, .slice none 0 0, .bool false, .slice none 0 0] 26)).alloc (.cells #[.int .i64 0, .int .i64 0] 28)) := ⟨_, rfl⟩
  have bV0 : Below w.heap.size w V0 := by rw [hV0]; (repeat (first | with_reducible exact Below.refl _ _ | with_reducible refine Below.alloc ?_ (by first | (simp <;> omega) | omega) _))
  have zV0 : w.heap.size + 4 ≤ V0.heap.size := by rw [hV0]; simp
  have PA : Bk2 V0 (w.heap.size) (.bool true) (.slice A n c) := by rw [hV0]; exact ((((Bk2.newAt _ _ (by first | omega | (simp; done) | (simp; omega)) _ _ _).alloc _).alloc _).alloc _)
  have PB : Bk2 V0 (w.heap.size + 1) (.bool true) (.slice D k d) := by rw [hV0]; exact (((Bk2.newAt _ _ (by first | omega | (simp; done) | (simp; omega)) _ _ _).alloc _).alloc _)
  have PR : Bk4 V0 (w.heap.size + 2) (.bool false) (.slice none 0 0) (.bool false) (.slice none 0 0) := by rw [hV0]; exact ((Bk4.newAt _ _ (by first | omega | (simp; done) | (simp; omega)) _ _ _ _ _).alloc _)
  have PF : Bk2 V0 (w.heap.size + 3) (.int .i64 0) (.int .i64 0) := by rw [hV0]; exact (Bk2.newAt _ _ (by first | omega | (simp; done) | (simp; omega)) _ _ _)
  rw [← hV0]
  clear hV0
  replace E := E.trans (bV0.mono E.size)
  replace HA := HA.below bV0 (by omega)
  replace HB := HB.below bV0 (by omega)
  clear bV0
  refine (gcd_ok _ B A D n k c d xs ys HA HB (by omega) va vb').mono ?_
  rw [HX.out.val, HY.out.val]
  rintro e w1 ⟨A1, k1, c1, x1, rfl, hl1, hr1, hb1⟩
  have R1 := Lib.hid hr1
  have hg0 : 0 < Nat.gcd p q := Nat.gcd_pos_of_pos_right _ HQ.out
  have L1 := Lib.hid (rlen hr1 HY.out (Nat.gcd_le_right _ HQ.out) vb')
  have V1g := Lib.hid (rep_vld hr1.top L1.out)
  have N1 := Lib.hid (show x1.length ≠ 0 from fun e => by
    have h1 := hr1.val
    rw [List.eq_nil_of_length_eq_zero e, vb_nil] at h1
    omega)
  have sw1 := hb1.size
  clear hr1
  replace E := E.trans (hb1.mono E.size)
  replace HA := HA.below hb1 (by omega)
  replace HB := HB.below hb1 (by omega)
  replace PA := PA.below hb1 PA.lt
  replace PB := PB.below hb1 PB.lt
  replace PR := PR.below hb1 PR.lt
  replace PF := PF.below hb1 PF.lt
  clear hb1
  have t_PA0 : (w1.alloc (.cells #[.int .i64 0, .int .i64 0] 28)).cell? ⟨w.heap.size, 0, none⟩ = some ((.bool true)) := (PA.alloc _).c0
  have t_PA1 : (w1.alloc (.cells #[.int .i64 0, .int .i64 0] 28)).cell? ⟨w.heap.size, 1, none⟩ = some ((.slice A n c)) := (PA.alloc _).c1
  go_wp2_with fail
  clear t_PA0 t_PA1
  obtain ⟨V1, hV1⟩ : ∃ V1 : World, V1 = (w1.alloc (.cells #[.int .i64 0, .int .i64 0] 28)) := ⟨_, rfl⟩
  have bV1 : Below w1.heap.size w1 V1 := by rw [hV1]; (repeat (first | with_reducible exact Below.refl _ _ | with_reducible refine Below.alloc ?_ (by first | (simp <;> omega) | omega) _))
  have zV1 : w1.heap.size + 1 ≤ V1.heap.size := by rw [hV1]; simp
  have F7 : Bk2 V1 (w1.heap.size) (.int .i64 0) (.int .i64 0) := by rw [hV1]; exact (Bk2.newAt _ _ (by first | omega | (simp; done) | (simp; omega)) _ _ _)
  rw [← hV1]
  clear hV1
  replace E := E.trans (bV1.mono E.size)
  replace HA := HA.below bV1 (by omega)
  replace HB := HB.below bV1 (by omega)
  replace PA := PA.below bV1 PA.lt
  replace PB := PB.below bV1 PB.lt
  replace PR := PR.below bV1 PR.lt
  replace PF := PF.below bV1 PF.lt
  replace hl1 := hl1.below bV1 (by omega)
  clear bV1
  clear F7
  refine (divmod_ok _ w1.heap.size A A1 n k1 c c1 xs x1 (HA.more (by omega)) hl1 (by omega) va V1g.out).mono ?_
  unfold DmPost
  rw [HX.out.val, R1.out.val]
  rintro e w2 (⟨h0, _⟩ | ⟨_, A2, k2, c2, x2, B2, l2, d2, y2, rfl, hl2, hr2, hm2, hs2, hb2⟩)
  · exact absurd h0 N1.out
  have R2 := Lib.hid hr2
  have K2 := hl2.cap
  have T2 := Lib.hid (len_top hr2 hl2.len.out)
  have sw2 := hb2.size
  clear hr2 hm2 hs2
  replace E := E.trans (hb2.mono E.size)
  replace HA := HA.below hb2 (by omega)
  replace HB := HB.below hb2 (by omega)
  replace PA := PA.below hb2 PA.lt
  replace PB := PB.below hb2 PB.lt
  replace PR := PR.below hb2 PR.lt
  replace PF := PF.below hb2 PF.lt
  replace hl1 := hl1.below hb2 (by omega)
  clear hb2
  have t_PB0 : (w2.alloc (.cells #[.int .i64 0, .int .i64 0] 28)).cell? ⟨w.heap.size + 1, 0, none⟩ = some ((.bool true)) := (PB.alloc _).c0
  have t_PB1 : (w2.alloc (.cells #[.int .i64 0, .int .i64 0] 28)).cell? ⟨w.heap.size + 1, 1, none⟩ = some ((.slice D k d)) := (PB.alloc _).c1
  go_wp2_with fail
  clear t_PB0 t_PB1
  obtain ⟨V2, hV2⟩ : ∃ V2 : World, V2 = (w2.alloc (.cells #[.int .i64 0, .int .i64 0] 28)) := ⟨_, rfl⟩
  have bV2 : Below w2.heap.size w2 V2 := by rw [hV2]; (repeat (first | with_reducible exact Below.refl _ _ | with_reducible refine Below.alloc ?_ (by first | (simp <;> omega) | omega) _))
  have zV2 : w2.heap.size + 1 ≤ V2.heap.size := by rw [hV2]; simp
  have G2 : Bk2 V2 (w2.heap.size) (.int .i64 0) (.int .i64 0) := by rw [hV2]; exact (Bk2.newAt _ _ (by first | omega | (simp; done) | (simp; omega)) _ _ _)
  rw [← hV2]
  clear hV2
  replace E := E.trans (bV2.mono E.size)
  replace HA := HA.below bV2 (by omega)
  replace HB := HB.below bV2 (by omega)
  replace PA := PA.below bV2 PA.lt
  replace PB := PB.below bV2 PB.lt
  replace PR := PR.below bV2 PR.lt
  replace PF := PF.below bV2 PF.lt
  replace hl1 := hl1.below bV2 (by omega)
  replace hl2 := hl2.below bV2 (by omega)
  clear bV2
  clear G2
  refine (divmod_ok _ w1.heap.size D A1 k k1 d c1 ys x1 (HB.more (by omega)) hl1 (by omega) vb' V1g.out).mono ?_
  unfold DmPost
  rw [HY.out.val, R1.out.val]
  rintro e w3 (⟨h0, _⟩ | ⟨_, A3, k3, c3, x3, B3, l3, d3, y3, rfl, hl3, hr3, hm3, hs3, hb3⟩)
  · exact absurd h0 N1.out
  have R3 := Lib.hid hr3
  have K3 := hl3.cap
  have T3 := Lib.hid (len_top hr3 hl3.len.out)
  have sw3 := hb3.size
  clear hr3 hm3 hs3
  replace E := E.trans (hb3.mono E.size)
  replace HA := HA.below hb3 (by omega)
  replace HB := HB.below hb3 (by omega)
  replace PA := PA.below hb3 PA.lt
  replace PB := PB.below hb3 PB.lt
  replace PR := PR.below hb3 PR.lt
  replace PF := PF.below hb3 PF.lt
  replace hl1 := hl1.below hb3 (by omega)
  replace hl2 := hl2.below hb3 (by omega)
  clear hb3
  clear HA HB hl1
  by_cases hf : k2 ≤ 128 ∧ k3 ≤ 128
  · have hmx : max (k2 : Int) (k3 : Int) ≤ 128 := by omega
    obtain ⟨h21, h31⟩ := hf
    have t_PA0 : (w3.alloc (.cells #[.int .i64 0, .int .i64 0] 28)).cell? ⟨w.heap.size, 0, none⟩ = some ((.bool true)) := (PA.alloc _).c0
    have t_PA1 : (w3.alloc (.cells #[.int .i64 0, .int .i64 0] 28)).cell? ⟨w.heap.size, 1, none⟩ = some ((.slice A n c)) := (PA.alloc _).c1
    have t_PB0 : (w3.alloc (.cells #[.int .i64 0, .int .i64 0] 28)).cell? ⟨w.heap.size + 1, 0, none⟩ = some ((.bool true)) := (PB.alloc _).c0
    have t_PB1 : (w3.alloc (.cells #[.int .i64 0, .int .i64 0] 28)).cell? ⟨w.heap.size + 1, 1, none⟩ = some ((.slice D k d)) := (PB.alloc _).c1
    go_wp2_with fail
    clear t_PA0 t_PA1 t_PB0 t_PB1
    obtain ⟨V3, hV3⟩ : ∃ V3 : World, V3 = (w3.alloc (.cells #[.int .i64 0, .int .i64 0] 28)) := ⟨_, rfl⟩
    have bV3 : Below w3.heap.size w3 V3 := by rw [hV3]; (repeat (first | with_reducible exact Below.refl _ _ | with_reducible refine Below.alloc ?_ (by first | (simp <;> omega) | omega) _))
    have zV3 : w3.heap.size + 1 ≤ V3.heap.size := by rw [hV3]; simp
    have G3 : Bk2 V3 (w3.heap.size) (.int .i64 0) (.int .i64 0) := by rw [hV3]; exact (Bk2.newAt _ _ (by first | omega | (simp; done) | (simp; omega)) _ _ _)
    rw [← hV3]
    clear hV3
    replace E := E.trans (bV3.mono E.size)
    replace PA := PA.below bV3 PA.lt
    replace PB := PB.below bV3 PB.lt
    replace PR := PR.below bV3 PR.lt
    replace PF := PF.below bV3 PF.lt
    replace hl2 := hl2.below bV3 (by omega)
    replace hl3 := hl3.below bV3 (by omega)
    clear bV3
    clear G3
    clear hmx
    (with_reducible refine (rsigned_any _ false A2 k2 c2 (by omega)).mono ?_)
    rintro e w4 ⟨rfl, hb4⟩
    have sw4 := hb4.size
    replace E := E.trans (hb4.mono E.size)
    replace PA := PA.below hb4 PA.lt
    replace PB := PB.below hb4 PB.lt
    replace PR := PR.below hb4 PR.lt
    replace PF := PF.below hb4 PF.lt
    replace hl2 := hl2.below hb4 (by omega)
    replace hl3 := hl3.below hb4 (by omega)
    clear hb4
    obtain ⟨sg, hsg⟩ : ∃ sg, sg = (false && decide (0 < k2)) := ⟨_, rfl⟩
    have HSG := Lib.hid hsg
    rw [← hsg]
    clear hsg
    go_wp2_with fail
    (with_reducible refine (rsigned_any _ false A3 k3 c3 (by omega)).mono ?_)
    rintro e w5 ⟨rfl, hb5⟩
    have sw5 := hb5.size
    replace E := E.trans (hb5.mono E.size)
    replace PA := PA.below hb5 PA.lt
    replace PB := PB.below hb5 PB.lt
    replace PR := PR.below hb5 PR.lt
    replace PF := PF.below hb5 PF.lt
    replace hl2 := hl2.below hb5 (by omega)
    replace hl3 := hl3.below hb5 (by omega)
    clear hb5
    rw [Bool.false_and]
    have y_PR0 := PR.c0
    have z_PR0 := PR.z0
    have y_PR1 := PR.c1
    have z_PR1 := PR.z1
    have y_PR2 := PR.c2
    have z_PR2 := PR.z2
    have y_PR3 := PR.c3
    have z_PR3 := PR.z3
    have lt_PR := PR.lt
    have y_PF0 := PF.c0
    have z_PF0 := PF.z0
    have y_PF1 := PF.c1
    have z_PF1 := PF.z1
    have lt_PF := PF.lt
    go_wp2_with fail
    clear y_PR0 z_PR0 y_PR1 z_PR1 y_PR2 z_PR2 y_PR3 z_PR3 lt_PR y_PF0 z_PF0 y_PF1 z_PF1 lt_PF
    obtain ⟨U5PR, hU5PR⟩ : ∃ U5PR : World, U5PR = ((((w5.setCell ⟨w.heap.size + 2, 0, none⟩ (.bool sg)).setCell ⟨w.heap.size + 2, 1, none⟩ (.slice A2 k2 c2)).setCell ⟨w.heap.size + 2, 2, none⟩ (.bool false)).setCell ⟨w.heap.size + 2, 3, none⟩ (.slice A3 k3 c3)) := ⟨_, rfl⟩
    have zU5PR : U5PR.heap.size = w5.heap.size := by rw [hU5PR]; simp [World.setCell]
    replace E : Below w.heap.size w U5PR := by rw [hU5PR]; exact ((((E.setCell (by first | (simp; done) | (simp; omega)) _).setCell (by first | (simp; done) | (simp; omega)) _).setCell (by first | (simp; done) | (simp; omega)) _).setCell (by first | (simp; done) | (simp; omega)) _)
    replace PA : Bk2 U5PR (w.heap.size) (.bool true) (.slice A n c) := by rw [hU5PR]; exact PA.far4 (by omega) _ _ _ _
    replace PB : Bk2 U5PR (w.heap.size + 1) (.bool true) (.slice D k d) := by rw [hU5PR]; exact PB.far4 (by omega) _ _ _ _
    replace PF : Bk2 U5PR (w.heap.size + 3) (.int .i64 0) (.int .i64 0) := by rw [hU5PR]; exact PF.far4 (by omega) _ _ _ _
    replace hl2 : LRd U5PR (w2.heap.size) A2 k2 c2 x2 := by rw [hU5PR]; first | exact hl2.set4 PR (by simp) (by simp) (by simp) (by simp) _ _ _ _ | exact hl2.set4O (by omega) _ _ _ _
    replace hl3 : LRd U5PR (w3.heap.size) A3 k3 c3 x3 := by rw [hU5PR]; first | exact hl3.set4 PR (by simp) (by simp) (by simp) (by simp) _ _ _ _ | exact hl3.set4O (by omega) _ _ _ _
    replace PR : Bk4 U5PR (w.heap.size + 2) (.bool sg) (.slice A2 k2 c2) (.bool false) (.slice A3 k3 c3) := by rw [hU5PR]; exact PR.set _ _ _ _
    rw [← hU5PR]
    clear hU5PR
    have zU5PR' := Nat.le_of_eq zU5PR
    replace zU5PR := Nat.le_of_eq zU5PR.symm
    obtain ⟨U5PF, hU5PF⟩ : ∃ U5PF : World, U5PF = ((U5PR.setCell ⟨w.heap.size + 3, 0, none⟩ (.int .i64 0)).setCell ⟨w.heap.size + 3, 1, none⟩ (.int .i64 0)) := ⟨_, rfl⟩
    have zU5PF : U5PF.heap.size = U5PR.heap.size := by rw [hU5PF]; simp [World.setCell]
    replace E : Below w.heap.size w U5PF := by rw [hU5PF]; exact ((E.setCell (by first | (simp; done) | (simp; omega)) _).setCell (by first | (simp; done) | (simp; omega)) _)
    replace PA : Bk2 U5PF (w.heap.size) (.bool true) (.slice A n c) := by rw [hU5PF]; exact PA.far2 (by omega) _ _
    replace PB : Bk2 U5PF (w.heap.size + 1) (.bool true) (.slice D k d) := by rw [hU5PF]; exact PB.far2 (by omega) _ _
    replace PR : Bk4 U5PF (w.heap.size + 2) (.bool sg) (.slice A2 k2 c2) (.bool false) (.slice A3 k3 c3) := by rw [hU5PF]; exact PR.far2 (by omega) _ _
    replace hl2 : LRd U5PF (w2.heap.size) A2 k2 c2 x2 := by rw [hU5PF]; first | exact hl2.setB PF (by simp) (by simp) _ _ | exact hl2.setFarL (by omega) _ _
    replace hl3 : LRd U5PF (w3.heap.size) A3 k3 c3 x3 := by rw [hU5PF]; first | exact hl3.setB PF (by simp) (by simp) _ _ | exact hl3.setFarL (by omega) _ _
    replace PF : Bk2 U5PF (w.heap.size + 3) (.int .i64 0) (.int .i64 0) := by rw [hU5PF]; exact PF.set _ _
    rw [← hU5PF]
    clear hU5PF
    have zU5PF' := Nat.le_of_eq zU5PF
    replace zU5PF := Nat.le_of_eq zU5PF.symm
    obtain ⟨f0, f1, _, _, _⟩ := PF
    obtain ⟨r0, r1, r2, r3, _, _, _, _, _⟩ := PR
    have h9 := irep_sg (m := false) R2.out hl2.len.out
    rw [← HSG.out] at h9
    refine bodyPost_ret (v := .tuple #[ratv sg A2 k2 c2 false A3 k3 c3, flt 0 0]) (by simp [results, Tryz.results59, go_sem, r0, r1, r2, r3, f0, f1]) rfl (.inl ⟨T2.out.1 h21, T3.out.1 h31, sg, A2, k2, c2, x2, false, A3, k3, c3, x3, rfl, hl2.more (by omega), hl3.more (by omega), h9, irep_pos R3.out, E⟩)
  · have hmx : 128 < max (k2 : Int) (k3 : Int) := by omega
    have HF := Lib.hid hf
    clear hf
    clear PA PB hl2 hl3
    have y_PR0 := PR.c0
    have z_PR0 := PR.z0
    have y_PR1 := PR.c1
    have z_PR1 := PR.z1
    have y_PR2 := PR.c2
    have z_PR2 := PR.z2
    have y_PR3 := PR.c3
    have z_PR3 := PR.z3
    have lt_PR := PR.lt
    have y_PF0 := PF.c0
    have z_PF0 := PF.z0
    have y_PF1 := PF.c1
    have z_PF1 := PF.z1
    have lt_PF := PF.lt
    go_wp2_with fail
    clear y_PR0 z_PR0 y_PR1 z_PR1 y_PR2 z_PR2 y_PR3 z_PR3 lt_PR y_PF0 z_PF0 y_PF1 z_PF1 lt_PF
    obtain ⟨U3PR, hU3PR⟩ : ∃ U3PR : World, U3PR = ((((w3.setCell ⟨w.heap.size + 2, 0, none⟩ (.bool false)).setCell ⟨w.heap.size + 2, 1, none⟩ (.slice none 0 0)).setCell ⟨w.heap.size + 2, 2, none⟩ (.bool false)).setCell ⟨w.heap.size + 2, 3, none⟩ (.slice none 0 0)) := ⟨_, rfl⟩
    have zU3PR : U3PR.heap.size = w3.heap.size := by rw [hU3PR]; simp [World.setCell]
    replace E : Below w.heap.size w U3PR := by rw [hU3PR]; exact ((((E.setCell (by first | (simp; done) | (simp; omega)) _).setCell (by first | (simp; done) | (simp; omega)) _).setCell (by first | (simp; done) | (simp; omega)) _).setCell (by first | (simp; done) | (simp; omega)) _)
    replace PF : Bk2 U3PR (w.heap.size + 3) (.int .i64 0) (.int .i64 0) := by rw [hU3PR]; exact PF.far4 (by omega) _ _ _ _
    replace PR : Bk4 U3PR (w.heap.size + 2) (.bool false) (.slice none 0 0) (.bool false) (.slice none 0 0) := by rw [hU3PR]; exact PR.set _ _ _ _
    rw [← hU3PR]
    clear hU3PR
    have zU3PR' := Nat.le_of_eq zU3PR
    replace zU3PR := Nat.le_of_eq zU3PR.symm
    obtain ⟨U3PF, hU3PF⟩ : ∃ U3PF : World, U3PF = ((U3PR.setCell ⟨w.heap.size + 3, 0, none⟩ (.int .i64 14)).setCell ⟨w.heap.size + 3, 1, none⟩ (.int .i64 (-1))) := ⟨_, rfl⟩
    have zU3PF : U3PF.heap.size = U3PR.heap.size := by rw [hU3PF]; simp [World.setCell]
    replace E : Below w.heap.size w U3PF := by rw [hU3PF]; exact ((E.setCell (by first | (simp; done) | (simp; omega)) _).setCell (by first | (simp; done) | (simp; omega)) _)
    replace PR : Bk4 U3PF (w.heap.size + 2) (.bool false) (.slice none 0 0) (.bool false) (.slice none 0 0) := by rw [hU3PF]; exact PR.far2 (by omega) _ _
    replace PF : Bk2 U3PF (w.heap.size + 3) (.int .i64 14) (.int .i64 (-1)) := by rw [hU3PF]; exact PF.set _ _
    rw [← hU3PF]
    clear hU3PF
    have zU3PF' := Nat.le_of_eq zU3PF
    replace zU3PF := Nat.le_of_eq zU3PF.symm
    obtain ⟨V3, hV3⟩ : ∃ V3 : World, V3 = (U3PF.alloc (.cells #[.int .i64 0, .int .i64 0] 28)) := ⟨_, rfl⟩
    have bV3 : Below U3PF.heap.size U3PF V3 := by rw [hV3]; (repeat (first | with_reducible exact Below.refl _ _ | with_reducible refine Below.alloc ?_ (by first | (simp <;> omega) | omega) _))
    have zV3 : U3PF.heap.size + 1 ≤ V3.heap.size := by rw [hV3]; simp
    have G3 : Bk2 V3 (w3.heap.size) (.int .i64 0) (.int .i64 0) := by rw [hV3]; exact (Bk2.newAt _ _ (by first | omega | (simp; done) | (simp; omega)) _ _ _)
    rw [← hV3]
    clear hV3
    replace E := E.trans (bV3.mono E.size)
    replace PR := PR.below bV3 PR.lt
    replace PF := PF.below bV3 PF.lt
    clear bV3
    obtain ⟨f0, f1, _, _, _⟩ := PF
    obtain ⟨r0, r1, r2, r3, _, _, _, _, _⟩ := PR
    refine bodyPost_ret (v := .tuple #[ratv false none 0 0 false none 0 0, flt 14 (-1)]) (by simp [results, Tryz.results59, go_sem, r0, r1, r2, r3, f0, f1]) rfl (.inr ⟨?_, false, none, 0, 0, [], false, none, 0, 0, [], rfl, nil_lrd _, nil_lrd _, IRep.zero, IRep.zero, E⟩)
    rcases Nat.lt_or_ge 128 k2 with h | h
    · exact .inl (Nat.le_of_not_lt fun h2 => by have := T2.out.2 h2; omega)
    · exact .inr (Nat.le_of_not_lt fun h2 => by have := T3.out.2 h2; exact HF.out ⟨h, this⟩)
theorem quotient_any (w : World) (B : Nat) (m m2 : Bool) (A D : Option Addr) (n k c d p q : Nat) (xs ys : List Nat) (HA : LRd w B A n c xs) (HB : LRd w B D k d ys) (hB : B ≤ w.heap.size) (hx : Rep 4294967296 xs p) (hy : Rep 4294967296 ys q) (va : vld xs = true) (vb' : vld ys = true) (hq : 0 < q) :
    Calls Tryz.prog 59 #[intv m A n c, intv m2 D k d] w (GivesQuo w (m != m2) p q) := by
  cases m <;> cases m2
  · exact quotient_ff w B A D n k c d p q xs ys HA HB hB hx hy va vb' hq
  · exact quotient_ft w B A D n k c d p q xs ys HA HB hB hx hy va vb' hq
  · exact quotient_tf w B A D n k c d p q xs ys HA HB hB hx hy va vb' hq
  · exact quotient_tt w B A D n k c d p q xs ys HA HB hB hx hy va vb' hq
/-- A ratio among the arguments. -/
structure RV where
  num : IV
  den : IV
abbrev RV.v (r : RV) : Value := ratv r.num.neg r.num.A r.num.n r.num.c r.den.neg r.den.A r.den.n r.den.c
def RV.ok (r : RV) : Bool := !r.den.neg && decide (r.den.n ≠ 0) && r.num.ok && r.den.ok && decide (Nat.gcd (vb 4294967296 r.num.xs) (vb 4294967296 r.den.xs) = 1)
def RV.at (w : World) (B : Nat) (r : RV) : Prop := r.num.at w B ∧ r.den.at w B
/-- The fault of the first ratio from i on that is not valid. -/
def rfault : List RV → Nat → Int × Int
  | [], _ => (0, 0)
  | v :: vs, i => if v.ok then rfault vs (i + 1) else (6, -1 - (i : Int))
theorem rf_at {vs : List RV} {i k : Nat} (h : i < vs.length) : rfault (vs.drop i) k = if (vs[i]).ok then rfault (vs.drop (i + 1)) (k + 1) else (6, -1 - (k : Int)) := by
  rw [List.drop_eq_getElem_cons h]; rfl
theorem gcd_one {zs : List Nat} {g k : Nat} (h : IRep false zs ((g : Nat) : Int)) (hl : zs.length = k) : isone zs k = decide (g = 1) := by
  have hr : Rep 4294967296 zs g := by have := h.rep; simpa using this
  unfold isone
  refine decide_eq_decide.2 ⟨fun ⟨h1, h2⟩ => ?_, fun h1 => ?_⟩
  · subst h1
    obtain ⟨x, rfl⟩ := List.length_eq_one_iff.1 hl
    rw [← hr.val, vb_one]
    simpa using h2
  · subst h1
    have h2 := hr.length_le (m := 1) (by decide) (by decide)
    have h3 : zs.length ≠ 0 := fun e => by
      have := hr.val
      rw [List.eq_nil_of_length_eq_zero e, vb_nil] at this
      omega
    have h4 : zs.length = 1 := by omega
    obtain ⟨x, rfl⟩ := List.length_eq_one_iff.1 h4
    have := hr.val
    rw [vb_one] at this
    exact ⟨by omega, by simpa using this⟩
theorem rvalid_neg (w : World) (m : Bool) (A D : Option Addr) (n c k d : Nat) :
    Calls Tryz.prog 15 #[ratv m A n c true D k d] w (fun e w' => e = .returned (.bool false) ∧ Below w.heap.size w w') := by
  go_enter Tryz.func15, Tryz.ntmps15
  go_wp2_with fail
  go_ret
  exact ⟨rfl, bl1 _ _⟩
theorem rvalid_zero (w : World) (m : Bool) (A D : Option Addr) (n c d : Nat) :
    Calls Tryz.prog 15 #[ratv m A n c false D 0 d] w (fun e w' => e = .returned (.bool false) ∧ Below w.heap.size w w') := by
  have E : Below w.heap.size w w := Below.refl _ _
  go_enter Tryz.func15, Tryz.ntmps15
  go_wp2_with fail
  obtain ⟨V0, hV0⟩ : ∃ V0 : World, V0 = (w.alloc (.cells #[.bool m, .slice A n c, .bool false, .slice D 0 d] 26)) := ⟨_, rfl⟩
  have bV0 : Below w.heap.size w V0 := by rw [hV0]; (repeat (first | with_reducible exact Below.refl _ _ | with_reducible refine Below.alloc ?_ (by first | (simp <;> omega) | omega) _))
  have zV0 : w.heap.size + 1 ≤ V0.heap.size := by rw [hV0]; simp
  have PA : Bk4 V0 (w.heap.size) (.bool m) (.slice A n c) (.bool false) (.slice D 0 d) := by rw [hV0]; exact (Bk4.newAt _ _ (by first | omega | (simp; done) | (simp; omega)) _ _ _ _ _)
  rw [← hV0]
  clear hV0
  replace E := E.trans (bV0.mono E.size)
  clear bV0
  (with_reducible refine (isZero_any _ false D 0 d (by omega)).mono ?_)
  rintro e w1 ⟨rfl, hb1⟩
  have sw1 := hb1.size
  replace E := E.trans (hb1.mono E.size)
  replace PA := PA.below hb1 PA.lt
  clear hb1
  go_wp2_with fail
  go_ret
  exact ⟨rfl, E⟩
set_option maxHeartbeats 2000000 in
theorem rvalid_bad (w : World) (B : Nat) (m : Bool) (A D : Option Addr) (n c k d : Nat) (xs ys : List Nat) (HA : LRd w B A n c xs) (HB : LRd w B D k d ys) (hB : B ≤ w.heap.size) (hkd : k ≤ 9223372036854775807) (hk0 : decide (k = 0) = false) (f2 : Int) (hf : ffault [IV.mk m A n c xs, IV.mk false D k d ys] 0 = (6, f2)) :
    Calls Tryz.prog 15 #[ratv m A n c false D k d] w (fun e w' => e = .returned (.bool (false)) ∧ Below w.heap.size w w') := by
  have E : Below w.heap.size w w := Below.refl _ _
  go_enter Tryz.func15, Tryz.ntmps15
  go_wp2_with fail
  obtain ⟨V0, hV0⟩ : ∃ V0 : World, V0 = (w.alloc (.cells #[.bool m, .slice A n c, .bool false, .slice D k d] 26)) := ⟨_, rfl⟩
  have bV0 : Below w.heap.size w V0 := by rw [hV0]; (repeat (first | with_reducible exact Below.refl _ _ | with_reducible refine Below.alloc ?_ (by first | (simp <;> omega) | omega) _))
  have zV0 : w.heap.size + 1 ≤ V0.heap.size := by rw [hV0]; simp
  have PA : Bk4 V0 (w.heap.size) (.bool m) (.slice A n c) (.bool false) (.slice D k d) := by rw [hV0]; exact (Bk4.newAt _ _ (by first | omega | (simp; done) | (simp; omega)) _ _ _ _ _)
  rw [← hV0]
  clear hV0
  replace E := E.trans (bV0.mono E.size)
  replace HA := HA.below bV0 (by omega)
  replace HB := HB.below bV0 (by omega)
  clear bV0
  (with_reducible refine (isZero_any _ false D k d hkd).mono ?_)
  rintro e w1 ⟨rfl, hb1⟩
  have sw1 := hb1.size
  replace E := E.trans (hb1.mono E.size)
  replace HA := HA.below hb1 (by omega)
  replace HB := HB.below hb1 (by omega)
  replace PA := PA.below hb1 PA.lt
  clear hb1
  rw [hk0]
  have t_PA0 := PA.c0
  have t_PA1 := PA.c1
  have t_PA2 := PA.c2
  have t_PA3 := PA.c3
  go_wp2_with fail
  clear t_PA0 t_PA1 t_PA2 t_PA3
  refine (igcd_bad _ B (IV.mk m A n c xs) (IV.mk false D k d ys) HA HB (by omega) f2 hf).mono ?_
  rintro e w2 ⟨m2, A2, k2, c2, x2, rfl, hl2, hr2, hb2⟩
  have sw2 := hb2.size
  clear hr2
  clear HA HB
  replace E := E.trans (hb2.mono E.size)
  replace PA := PA.below hb2 PA.lt
  clear hb2
  go_wp2_with fail
  obtain ⟨V2, hV2⟩ : ∃ V2 : World, V2 = ((w2.alloc (.cells #[.bool m2, .slice A2 k2 c2] 24)).alloc (.cells #[.int .i64 6, .int .i64 f2] 28)) := ⟨_, rfl⟩
  have bV2 : Below w2.heap.size w2 V2 := by rw [hV2]; (repeat (first | with_reducible exact Below.refl _ _ | with_reducible refine Below.alloc ?_ (by first | (simp <;> omega) | omega) _))
  have zV2 : w2.heap.size + 2 ≤ V2.heap.size := by rw [hV2]; simp
  have P3 : Bk2 V2 (w2.heap.size) (.bool m2) (.slice A2 k2 c2) := by rw [hV2]; exact ((Bk2.newAt _ _ (by first | omega | (simp; done) | (simp; omega)) _ _ _).alloc _)
  have F4 : Bk2 V2 (w2.heap.size + 1) (.int .i64 6) (.int .i64 f2) := by rw [hV2]; exact (Bk2.newAt _ _ (by first | omega | (simp; done) | (simp; omega)) _ _ _)
  rw [← hV2]
  clear hV2
  replace E := E.trans (bV2.mono E.size)
  replace PA := PA.below bV2 PA.lt
  replace hl2 := hl2.below bV2 (by omega)
  clear bV2
  go_wp2_with fail
  go_ret
  exact ⟨by first | rfl | (simp; done), E⟩
set_option maxHeartbeats 2000000 in
theorem rvalid_ok (w : World) (B : Nat) (m : Bool) (A D : Option Addr) (n c k d : Nat) (xs ys : List Nat) (HA : LRd w B A n c xs) (HB : LRd w B D k d ys) (hB : B ≤ w.heap.size) (hkd : k ≤ 9223372036854775807) (hk0 : decide (k = 0) = false) (oa : (IV.mk m A n c xs).ok = true) (ob : (IV.mk false D k d ys).ok = true) :
    Calls Tryz.prog 15 #[ratv m A n c false D k d] w (fun e w' => e = .returned (.bool (decide (Nat.gcd (vb 4294967296 xs) (vb 4294967296 ys) = 1))) ∧ Below w.heap.size w w') := by
  have E : Below w.heap.size w w := Below.refl _ _
  go_enter Tryz.func15, Tryz.ntmps15
  go_wp2_with fail
  obtain ⟨V0, hV0⟩ : ∃ V0 : World, V0 = (w.alloc (.cells #[.bool m, .slice A n c, .bool false, .slice D k d] 26)) := ⟨_, rfl⟩
  have bV0 : Below w.heap.size w V0 := by rw [hV0]; (repeat (first | with_reducible exact Below.refl _ _ | with_reducible refine Below.alloc ?_ (by first | (simp <;> omega) | omega) _))
  have zV0 : w.heap.size + 1 ≤ V0.heap.size := by rw [hV0]; simp
  have PA : Bk4 V0 (w.heap.size) (.bool m) (.slice A n c) (.bool false) (.slice D k d) := by rw [hV0]; exact (Bk4.newAt _ _ (by first | omega | (simp; done) | (simp; omega)) _ _ _ _ _)
  rw [← hV0]
  clear hV0
  replace E := E.trans (bV0.mono E.size)
  replace HA := HA.below bV0 (by omega)
  replace HB := HB.below bV0 (by omega)
  clear bV0
  (with_reducible refine (isZero_any _ false D k d hkd).mono ?_)
  rintro e w1 ⟨rfl, hb1⟩
  have sw1 := hb1.size
  replace E := E.trans (hb1.mono E.size)
  replace HA := HA.below hb1 (by omega)
  replace HB := HB.below hb1 (by omega)
  replace PA := PA.below hb1 PA.lt
  clear hb1
  rw [hk0]
  have t_PA0 := PA.c0
  have t_PA1 := PA.c1
  have t_PA2 := PA.c2
  have t_PA3 := PA.c3
  go_wp2_with fail
  clear t_PA0 t_PA1 t_PA2 t_PA3
  refine (igcd_ok _ B (IV.mk m A n c xs) (IV.mk false D k d ys) HA HB (by omega) oa ob).mono ?_
  rintro e w2 ⟨m2, A2, k2, c2, x2, rfl, hl2, hr2, hb2⟩
  obtain rfl : m2 = false := by rw [hr2.sgn]; exact decide_eq_false (by omega)
  have R2 := Lib.hid (gcd_one hr2 hl2.len.out)
  have sw2 := hb2.size
  clear hr2
  clear HA HB
  replace E := E.trans (hb2.mono E.size)
  replace PA := PA.below hb2 PA.lt
  clear hb2
  go_wp2_with fail
  obtain ⟨V2, hV2⟩ : ∃ V2 : World, V2 = ((w2.alloc (.cells #[.bool false, .slice A2 k2 c2] 24)).alloc (.cells #[.int .i64 0, .int .i64 0] 28)) := ⟨_, rfl⟩
  have bV2 : Below w2.heap.size w2 V2 := by rw [hV2]; (repeat (first | with_reducible exact Below.refl _ _ | with_reducible refine Below.alloc ?_ (by first | (simp <;> omega) | omega) _))
  have zV2 : w2.heap.size + 2 ≤ V2.heap.size := by rw [hV2]; simp
  have P3 : Bk2 V2 (w2.heap.size) (.bool false) (.slice A2 k2 c2) := by rw [hV2]; exact ((Bk2.newAt _ _ (by first | omega | (simp; done) | (simp; omega)) _ _ _).alloc _)
  have F4 : Bk2 V2 (w2.heap.size + 1) (.int .i64 0) (.int .i64 0) := by rw [hV2]; exact (Bk2.newAt _ _ (by first | omega | (simp; done) | (simp; omega)) _ _ _)
  rw [← hV2]
  clear hV2
  replace E := E.trans (bV2.mono E.size)
  replace PA := PA.below bV2 PA.lt
  replace hl2 := hl2.below bV2 (by omega)
  clear bV2
  (with_reducible refine (isOne_any _ V2.heap.size false A2 k2 c2 x2 (hl2.more (by omega)) (Nat.le_refl _)).mono ?_)
  rintro e w3 ⟨rfl, hb3⟩
  have sw3 := hb3.size
  replace E := E.trans (hb3.mono E.size)
  replace PA := PA.below hb3 PA.lt
  replace hl2 := hl2.below hb3 (by omega)
  replace P3 := P3.below hb3 P3.lt
  replace F4 := F4.below hb3 F4.lt
  clear hb3
  rw [R2.out]
  go_wp2_with fail
  go_ret
  exact ⟨by first | rfl | (simp; done), E⟩
theorem rvalid_any (w : World) (B : Nat) (r : RV) (H : r.at w B) (hB : B ≤ w.heap.size) :
    Calls Tryz.prog 15 #[r.v] w (fun e w' => e = .returned (.bool r.ok) ∧ Below w.heap.size w w') := by
  obtain ⟨HA, HB⟩ := H
  obtain ⟨⟨m, A, n, c, xs⟩, ⟨m2, D, k, d, ys⟩⟩ := r
  replace HA : LRd w B A n c xs := HA
  replace HB : LRd w B D k d ys := HB
  have hkd := HB.cap
  cases m2
  · rcases Nat.eq_zero_or_pos k with e | e
    · subst e
      have h : (RV.mk ⟨m, A, n, c, xs⟩ ⟨false, D, 0, d, ys⟩).ok = false := by simp [RV.ok]
      rw [h]
      exact rvalid_zero w m A D n c d
    · have hk0 : decide (k = 0) = false := decide_eq_false (by omega)
      by_cases h2 : (IV.mk m A n c xs).ok = true ∧ (IV.mk false D k d ys).ok = true
      · have h : (RV.mk ⟨m, A, n, c, xs⟩ ⟨false, D, k, d, ys⟩).ok = decide (Nat.gcd (vb 4294967296 xs) (vb 4294967296 ys) = 1) := by
          unfold RV.ok
          rw [h2.1, h2.2, decide_eq_true (show k ≠ 0 by omega)]
          simp
        rw [h]
        exact rvalid_ok w B m A D n c k d xs ys HA HB hB (by omega) hk0 h2.1 h2.2
      · have h : (RV.mk ⟨m, A, n, c, xs⟩ ⟨false, D, k, d, ys⟩).ok = false := by
          unfold RV.ok
          cases h3 : (IV.mk m A n c xs).ok <;> cases h4 : (IV.mk false D k d ys).ok <;> simp_all
        rw [h]
        obtain ⟨f2, hf⟩ := two_bad h2
        exact rvalid_bad w B m A D n c k d xs ys HA HB hB (by omega) hk0 f2 hf
  · have h : (RV.mk ⟨m, A, n, c, xs⟩ ⟨true, D, k, d, ys⟩).ok = false := by simp [RV.ok]
    rw [h]
    exact rvalid_neg w m A D n c k d
/-- k ratios in block g. -/
structure RRow (w : World) (B g : Nat) (vs : List RV) : Prop where
  c0 : ∀ i (h : i < vs.length), w.cell? ⟨g, i * 4, none⟩ = some (.bool (vs[i]).num.neg)
  c1 : ∀ i (h : i < vs.length), w.cell? ⟨g, i * 4 + 1, none⟩ = some (.slice (vs[i]).num.A (vs[i]).num.n (vs[i]).num.c)
  c2 : ∀ i (h : i < vs.length), w.cell? ⟨g, i * 4 + 2, none⟩ = some (.bool (vs[i]).den.neg)
  c3 : ∀ i (h : i < vs.length), w.cell? ⟨g, i * 4 + 3, none⟩ = some (.slice (vs[i]).den.A (vs[i]).den.n (vs[i]).den.c)
  rd : ∀ i (h : i < vs.length), (vs[i]).at w B
  lt : g < w.heap.size
theorem RV.at.below {w w' : World} {B B' : Nat} {r : RV} (h : r.at w B) (hb : Below B' w w') (hB : B ≤ B') : r.at w' B := ⟨LRd.below h.1 hb hB, LRd.below h.2 hb hB⟩
theorem RRow.below {w w' : World} {B g : Nat} {vs : List RV} (h : RRow w B g vs) (hb : Below w.heap.size w w') (hB : B ≤ w.heap.size) : RRow w' B g vs :=
  ⟨fun i hi => (hb.cell (p := ⟨g, i * 4, none⟩) h.lt).trans (h.c0 i hi), fun i hi => (hb.cell (p := ⟨g, i * 4 + 1, none⟩) h.lt).trans (h.c1 i hi), fun i hi => (hb.cell (p := ⟨g, i * 4 + 2, none⟩) h.lt).trans (h.c2 i hi), fun i hi => (hb.cell (p := ⟨g, i * 4 + 3, none⟩) h.lt).trans (h.c3 i hi),
   fun i hi => (h.rd i hi).below hb hB, by have := h.lt; have := hb.size; omega⟩
def RkRel (k : Nat) (vs : List RV) (w : World) (i : Value) (wr : World) : Prop :=
  ∃ j : Nat, j ≤ k ∧ i = .int .i64 (j : Int) ∧ Hid (rfault vs 0 = rfault (vs.drop j) j) ∧ Below w.heap.size w wr
set_option maxHeartbeats 2000000 in
theorem rcheck_any (w : World) (B g k : Nat) (vs : List RV) (h : RRow w B g vs) (hk : vs.length = k) (hB : B ≤ w.heap.size) (hM : k ≤ 1000) :
    Calls Tryz.prog 57 #[.slice (some ⟨g, 0, none⟩) k k] w (fun e w' => e = .returned (flt (rfault vs 0).1 (rfault vs 0).2) ∧ Below w.heap.size w w') := by
  have HK := Lib.hid hk
  clear hk
  go_enter Tryz.func57, Tryz.ntmps57
  go_wp2_with fail
  obtain ⟨V, hV⟩ : ∃ V : World, V = w.alloc (.cells #[.int .i64 0, .int .i64 0] 28) := ⟨_, rfl⟩
  have bV : Below w.heap.size w V := by rw [hV]; exact bl1 _ _
  have PF : Bk2 V w.heap.size (.int .i64 0) (.int .i64 0) := by rw [hV]; exact Bk2.new _ _ _ _
  have zV : w.heap.size + 1 ≤ V.heap.size := by rw [hV]; simp
  rw [← hV]
  clear hV
  replace h := h.below bV hB
  go_loopw [7] (RkRel k vs V) (fun i _ => k - (intOf i).toNat)
  case atStart => exact ⟨0, by omega, rfl, rfl, Below.refl _ _⟩
  case round =>
    obtain ⟨j, hj, rfl, hff, hbw⟩ := hrel
    have hz := hbw.size
    have PW := PF.below hbw PF.lt
    have E := bV.trans (hbw.mono bV.size)
    by_cases h1 : j < k
    · have hjv : j < vs.length := by rw [HK.out]; exact h1
      have hr := h.below hbw (by omega)
      obtain ⟨v, hv⟩ : ∃ v, v = vs[j] := ⟨_, rfl⟩
      have e0 := hr.c0 j hjv
      have e1 := hr.c1 j hjv
      have e2 := hr.c2 j hjv
      have e3 := hr.c3 j hjv
      have ed := hr.rd j hjv
      have hst := Lib.hid (rf_at (k := j) hjv)
      rw [← hv] at e0 e1 e2 e3 ed hst
      clear hv hr
      go_wp2_with fail
      clear e0 e1 e2 e3
      obtain ⟨U, hU⟩ : ∃ U : World, U = wr.alloc (.cells #[.bool v.num.neg, .slice v.num.A v.num.n v.num.c, .bool v.den.neg, .slice v.den.A v.den.n v.den.c] 26) := ⟨_, rfl⟩
      have bU : Below wr.heap.size wr U := by rw [hU]; exact bl1 _ _
      have PU := PW.below bU PW.lt
      have ed2 := ed.below bU (by omega)
      have zU := bU.size
      rw [← hU]
      clear hU
      refine (rvalid_any _ B v ed2 (by omega)).mono ?_
      rintro e w5 ⟨rfl, hb5⟩
      have PV := PU.below hb5 PU.lt
      have z5 := hb5.size
      have E5 := (E.trans (bU.mono E.size)).trans (hb5.mono (by omega))
      cases hok : v.ok
      · have HN := Lib.hid (show rfault vs 0 = (6, -1 - (j : Int)) by rw [hff.out, hst.out, hok]; rfl)
        obtain ⟨x0, x1, y0, y1, _⟩ := PV
        clear hok
        go_wp2_with fail
        refine bodyPost_ret (v := flt 6 (-1 - (j : Int))) (by simp [results, Tryz.results57, go_sem, x0, x1]) rfl ⟨by rw [HN.out], ?_⟩
        (repeat (first | with_reducible exact Below.refl _ _ | with_reducible exact E5 | with_reducible refine Below.drew ?_ | with_reducible refine below_drewN ?_ _ | with_reducible refine Below.setCell ?_ (by first | (simp <;> omega) | omega) _ | with_reducible refine Below.alloc ?_ (by first | (simp <;> omega) | omega) _))
      · have HN := Lib.hid (show rfault vs 0 = rfault (vs.drop (j + 1)) (j + 1) by rw [hff.out, hst.out, hok]; rfl)
        clear hok
        go_wp2_with fail
        go_roundw
        case rel => exact ⟨j + 1, by omega, by go_num, HN, (hbw.trans (bU.mono hbw.size)).trans (hb5.mono (by omega))⟩
        case measure => first | (simp [intOf]; done) | (simp [intOf]; omega)
    · obtain rfl : j = k := by omega
      have HN := Lib.hid (show rfault vs 0 = (0, 0) by rw [hff.out, List.drop_of_length_le (by rw [HK.out]; exact Nat.le_refl _)]; rfl)
      obtain ⟨x0, x1, y0, y1, _⟩ := PW
      go_wp2_with fail
      refine bodyPost_ret (v := flt 0 0) (by simp [results, Tryz.results57, go_sem, x0, x1]) rfl ⟨by rw [HN.out], ?_⟩
      (repeat (first | with_reducible exact Below.refl _ _ | with_reducible exact E | with_reducible refine Below.drew ?_ | with_reducible refine below_drewN ?_ _ | with_reducible refine Below.setCell ?_ (by first | (simp <;> omega) | omega) _ | with_reducible refine Below.alloc ?_ (by first | (simp <;> omega) | omega) _))
theorem ir_sv {m : Bool} {xs : List Nat} {z : Int} (h : IRep m xs z) : sval m z.natAbs = z := by
  rw [h.sgn]
  unfold sval
  by_cases hz : z < 0
  · rw [decide_eq_true hz]; simp; omega
  · rw [decide_eq_false hz]; simp; omega
theorem big_vld {zs : List Nat} {v : Nat} (h : Rep 4294967296 zs v) (hv : v < Big) : vld zs = true := by
  obtain ⟨m, hm⟩ : ∃ m, m = 600 := ⟨_, rfl⟩
  rw [big_pow (m := m) hm] at hv
  exact rep_vld h.top (by have := h.length_le (by decide) hv; omega)
theorem rprod_i (w : World) (B : Nat) (m m2 : Bool) (A D : Option Addr) (n k c d : Nat) (xs ys : List Nat) (z1 z2 : Int) (HA : LRd w B A n c xs) (HB : LRd w B D k d ys) (hB : B ≤ w.heap.size) (hx : IRep m xs z1) (hy : IRep m2 ys z2) (b1 : z1.natAbs < Big) (b2 : z2.natAbs < Big) (hg : (z1 * z2).natAbs < Big) :
    Calls Tryz.prog 61 #[intv m A n c, intv m2 D k d] w (GivesV w (z1 * z2)) := by
  have h := rprod_any w B m m2 A D n k c d z1.natAbs z2.natAbs xs ys HA HB hB hx.rep hy.rep (big_vld hx.rep b1) (big_vld hy.rep b2) (by rw [← Int.natAbs_mul]; exact hg)
  rw [ir_sv hx, ir_sv hy] at h
  exact h
theorem rsum_i (w : World) (B : Nat) (m m2 : Bool) (A D : Option Addr) (n k c d : Nat) (xs ys : List Nat) (z1 z2 : Int) (HA : LRd w B A n c xs) (HB : LRd w B D k d ys) (hB : B ≤ w.heap.size) (hx : IRep m xs z1) (hy : IRep m2 ys z2) (hg : z1.natAbs + z2.natAbs < Big) :
    Calls Tryz.prog 91 #[intv m A n c, intv m2 D k d] w (GivesV w (z1 + z2)) := by
  have h := rsum_any w B m m2 A D n k c d z1.natAbs z2.natAbs xs ys HA HB hB hx.rep hy.rep (big_vld hx.rep (by omega)) (big_vld hy.rep (by omega)) hg
  rw [ir_sv hx, ir_sv hy] at h
  exact h
theorem opp_irep {m : Bool} {xs : List Nat} {z : Int} {k : Nat} (h : IRep m xs z) (hl : xs.length = k) : IRep (!m && decide (0 < k)) xs (-z) := by
  have h1 := irep_sg (m := !m) h.rep hl
  have h2 := ir_sv h
  have h3 : sval (!m) z.natAbs = -z := by rw [← h2]; cases m <;> simp [sval]
  rw [h3] at h1
  exact h1
set_option maxHeartbeats 4000000 in
theorem gap_any (w : World) (B : Nat) (a b : RV) (na da nb db : Int) (H1 : a.at w B) (H2 : b.at w B) (hB : B ≤ w.heap.size) (IA : Hid (IRep a.num.neg a.num.xs na)) (IC : Hid (IRep a.den.neg a.den.xs da)) (IB : Hid (IRep b.num.neg b.num.xs nb)) (ID : Hid (IRep b.den.neg b.den.xs db))
    (b1 : Hid (na.natAbs < Big)) (b2 : Hid (da.natAbs < Big)) (b3 : Hid (nb.natAbs < Big)) (b4 : Hid (db.natAbs < Big)) (c1 : Hid ((na * db).natAbs < Big)) (c2 : Hid ((nb * da).natAbs < Big)) (c3 : Hid ((na * db).natAbs + (nb * da).natAbs < Big)) :
    Calls Tryz.prog 60 #[a.v, b.v] w (GivesV w (na * db - nb * da)) := by
  obtain ⟨HA, HC⟩ := H1
  obtain ⟨HB, HD⟩ := H2
  replace HA : LRd w B a.num.A a.num.n a.num.c a.num.xs := HA
  replace HC : LRd w B a.den.A a.den.n a.den.c a.den.xs := HC
  replace HB : LRd w B b.num.A b.num.n b.num.c b.num.xs := HB
  replace HD : LRd w B b.den.A b.den.n b.den.c b.den.xs := HD
  have E : Below w.heap.size w w := Below.refl _ _
  go_enter Tryz.func60, Tryz.ntmps60
  go_upto_region 1 with fail
  obtain ⟨V0, hV0⟩ : ∃ V0 : World, V0 = (((w.alloc (.cells #[.bool a.num.neg, .slice a.num.A a.num.n a.num.c, .bool a.den.neg, .slice a.den.A a.den.n a.den.c] 26)).alloc (.cells #[.bool b.num.neg, .slice b.num.A b.num.n b.num.c, .bool b.den.neg, .slice b.den.A b.den.n b.den.c] 26)).alloc (.cells #[.bool false, .slice none 0 0] 24)) := ⟨_, rfl⟩
  have bV0 : Below w.heap.size w V0 := by rw [hV0]; (repeat (first | with_reducible exact Below.refl _ _ | with_reducible refine Below.alloc ?_ (by first | (simp <;> omega) | omega) _))
  have zV0 : w.heap.size + 3 ≤ V0.heap.size := by rw [hV0]; simp
  have PA : Bk4 V0 (w.heap.size) (.bool a.num.neg) (.slice a.num.A a.num.n a.num.c) (.bool a.den.neg) (.slice a.den.A a.den.n a.den.c) := by rw [hV0]; exact (((Bk4.newAt _ _ (by first | omega | (simp; done) | (simp; omega)) _ _ _ _ _).alloc _).alloc _)
  have PB : Bk4 V0 (w.heap.size + 1) (.bool b.num.neg) (.slice b.num.A b.num.n b.num.c) (.bool b.den.neg) (.slice b.den.A b.den.n b.den.c) := by rw [hV0]; exact ((Bk4.newAt _ _ (by first | omega | (simp; done) | (simp; omega)) _ _ _ _ _).alloc _)
  have PR : Bk2 V0 (w.heap.size + 2) (.bool false) (.slice none 0 0) := by rw [hV0]; exact (Bk2.newAt _ _ (by first | omega | (simp; done) | (simp; omega)) _ _ _)
  rw [← hV0]
  clear hV0
  replace E := E.trans (bV0.mono E.size)
  replace HA := HA.below bV0 (by omega)
  replace HC := HC.below bV0 (by omega)
  replace HB := HB.below bV0 (by omega)
  replace HD := HD.below bV0 (by omega)
  clear bV0
  have lt_PA := PA.lt
  have lt_PB := PB.lt
  have HS := Lib.hid (fun (u : World) (hu : Below (w.heap.size + 2) V0 u) => (⟨(hu.cell (p := ⟨w.heap.size, 0, none⟩) (by show w.heap.size < _; omega)).trans PA.c0, (hu.cell (p := ⟨w.heap.size, 1, none⟩) (by show w.heap.size < _; omega)).trans PA.c1, (hu.cell (p := ⟨w.heap.size, 2, none⟩) (by show w.heap.size < _; omega)).trans PA.c2, (hu.cell (p := ⟨w.heap.size, 3, none⟩) (by show w.heap.size < _; omega)).trans PA.c3, (hu.cell (p := ⟨w.heap.size + 1, 0, none⟩) (by show w.heap.size + 1 < _; omega)).trans PB.c0, (hu.cell (p := ⟨w.heap.size + 1, 1, none⟩) (by show w.heap.size + 1 < _; omega)).trans PB.c1, (hu.cell (p := ⟨w.heap.size + 1, 2, none⟩) (by show w.heap.size + 1 < _; omega)).trans PB.c2, (hu.cell (p := ⟨w.heap.size + 1, 3, none⟩) (by show w.heap.size + 1 < _; omega)).trans PB.c3⟩ : u.cell? ⟨w.heap.size, 0, none⟩ = some (.bool a.num.neg) ∧ u.cell? ⟨w.heap.size, 1, none⟩ = some (.slice a.num.A a.num.n a.num.c) ∧ u.cell? ⟨w.heap.size, 2, none⟩ = some (.bool a.den.neg) ∧ u.cell? ⟨w.heap.size, 3, none⟩ = some (.slice a.den.A a.den.n a.den.c) ∧ u.cell? ⟨w.heap.size + 1, 0, none⟩ = some (.bool b.num.neg) ∧ u.cell? ⟨w.heap.size + 1, 1, none⟩ = some (.slice b.num.A b.num.n b.num.c) ∧ u.cell? ⟨w.heap.size + 1, 2, none⟩ = some (.bool b.den.neg) ∧ u.cell? ⟨w.heap.size + 1, 3, none⟩ = some (.slice b.den.A b.den.n b.den.c)))
  have G0 : Below V0.heap.size V0 V0.drew := Below.drew (Below.refl _ _)
  have g0s := G0.size
  have G0m : Below (w.heap.size + 2) V0 V0.drew := G0.mono (by omega)
  go_region_held3 (fun u => u.cell? ⟨w.heap.size, 0, none⟩ = some (.bool a.num.neg) ∧ u.cell? ⟨w.heap.size, 1, none⟩ = some (.slice a.num.A a.num.n a.num.c) ∧ u.cell? ⟨w.heap.size, 2, none⟩ = some (.bool a.den.neg) ∧ u.cell? ⟨w.heap.size, 3, none⟩ = some (.slice a.den.A a.den.n a.den.c) ∧ u.cell? ⟨w.heap.size + 1, 0, none⟩ = some (.bool b.num.neg) ∧ u.cell? ⟨w.heap.size + 1, 1, none⟩ = some (.slice b.num.A b.num.n b.num.c) ∧ u.cell? ⟨w.heap.size + 1, 2, none⟩ = some (.bool b.den.neg) ∧ u.cell? ⟨w.heap.size + 1, 3, none⟩ = some (.slice b.den.A b.den.n b.den.c)) (first | (refine HS.out _ ?_; (repeat (first | with_reducible exact G0m | with_reducible exact BN.mono (by omega) | with_reducible exact B3.mono (by omega) | with_reducible exact B2.mono (by omega) | with_reducible exact B1.mono (by omega) | with_reducible exact Below.refl _ _ | with_reducible refine Below.drew ?_ | with_reducible refine below_drewN ?_ _ | with_reducible refine Below.setCell ?_ (by first | (simp <;> omega) | omega) _)); done) | fail)
    (first
      | (go_at_call 61; (with_reducible refine (rprod_i _ V0.heap.size a.num.neg b.den.neg a.num.A b.den.A a.num.n b.den.n a.num.c b.den.c a.num.xs b.den.xs na db ((HA.below G0 (by omega)).more (by omega)) ((HD.below G0 (by omega)).more (by omega)) (by omega) IA.out ID.out b1.out b4.out c1.out).mono ?_); rintro e u1 ⟨m1, A1, k1, e1, x1, rfl, hl1, hr1, hb1⟩; have B1 : Below V0.heap.size V0 u1 := bnext G0 hb1; have R1 := Lib.hid hr1; clear hr1; have b1s := B1.size)
      | (go_at_call 61; (with_reducible refine (rprod_i _ u1.heap.size b.num.neg a.den.neg b.num.A a.den.A b.num.n a.den.n b.num.c a.den.c b.num.xs a.den.xs nb da ((HB.below B1 (by omega)).more (by omega)) ((HC.below B1 (by omega)).more (by omega)) (Nat.le_refl _) IB.out IC.out b3.out b2.out c2.out).mono ?_); rintro e u2 ⟨m2, A2, k2, e2, x2, rfl, hl2, hr2, hb2⟩; have B2 : Below V0.heap.size V0 u2 := bnext B1 hb2; have R2 := Lib.hid hr2; clear hr2; have K2 := hl2.cap; have L2 := Lib.hid hl2.len.out; have hl1q := hl1.below hb2 (Nat.le_refl _); have b2s := hb2.size)
      | (go_at_call 58; (with_reducible refine (opposite_any _ m2 A2 k2 e2 (by omega)).mono ?_); rintro e u3 ⟨rfl, hb3⟩; have B3 : Below V0.heap.size V0 u3 := bnext B2 hb3; have hl1r := hl1q.below hb3 (by omega); have hl2r := hl2.below hb3 (Nat.le_refl _); have b3s := hb3.size)
      | (go_at_call 91; (with_reducible refine (rsum_i _ u3.heap.size m1 (!m2 && decide (0 < k2)) A1 A2 k1 k2 e1 e2 x1 x2 (na * db) (-(nb * da)) (hl1r.more (by omega)) (hl2r.more (by omega)) (Nat.le_refl _) R1.out (opp_irep R2.out L2.out) (by rw [Int.natAbs_neg]; exact c3.out)).mono ?_); rintro e u4 ⟨m4, A4, k4, e4, x4, rfl, hl4, hr4, hb4⟩; have BN : Below V0.heap.size V0 u4 := bnext B3 hb4; have R4 := Lib.hid hr4; clear hr4; have PRq := PR.below BN PR.lt; obtain ⟨r0, r1, y0, y1, _⟩ := PRq)
      | fail)
  all_goals (go_wp2_with fail)
  all_goals
    have pr2 : Bk2 u4 (w.heap.size + 2) (.bool false) (.slice none 0 0) := ⟨r0, r1, y0, y1, by have := BN.size; have := PR.lt; omega⟩
    refine bodyPost_ret (v := intv m4 A4 k4 e4) (by simp [results, Tryz.results60, go_sem, r0, r1]) rfl ⟨m4, A4, k4, e4, x4, rfl, ?_, by have h9 := R4.out; rw [← Int.sub_eq_add_neg] at h9; exact h9, ?_⟩
    · first | with_reducible exact (hl4.setB pr2 (by simp) (by simp) _ _).more (by simp [World.setCell]) | with_reducible exact LRd.more (LRd.drew (hl4.setB pr2 (by simp) (by simp) _ _)) (by simp [World.setCell])
    · (repeat (first | with_reducible exact E.trans (BN.mono E.size) | with_reducible refine Below.drew ?_ | with_reducible refine below_drewN ?_ _ | with_reducible refine Below.setCell ?_ (by first | (simp <;> omega) | omega) _))
end Go.Proofs.YtfgkhdpdjclmkaaGreat
