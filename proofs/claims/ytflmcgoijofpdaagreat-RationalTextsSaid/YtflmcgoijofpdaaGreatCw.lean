/- The reference's Lowest. The reference's Plus, Less, Abs and Order of ratios. The reference's Times, Turned and Fits of ratios. -/
import Derived.Test.YtflmcgoijofpdaaGreatCs
import Derived.Test.YtflmcgoijofpdaaGreatCDivD
import Derived.Test.YtflmcgoijofpdaaGreatCInt20
import Derived.Test.YtflmcgoijofpdaaGreatCInt22
import Derived.Test.YtflmcgoijofpdaaGreatCInt21
import Derived.Deep.DeepCutAuto
import Derived.Test.YtflmcgoijofpdaaGreatCp
namespace Go.Proofs.YtflmcgoijofpdaaGreat
open Go.RowKit
set_option maxHeartbeats 400000
set_option maxRecDepth 100000
set_option linter.unusedSimpArgs false
set_option linter.unusedVariables false

/-- A ratio of the reference. -/
structure QV where
  m : Bool
  A : Option Addr
  n : Nat
  c : Nat
  xs : List Nat
  D : Option Addr
  k : Nat
  d : Nat
  ys : List Nat
abbrev QV.v (q : QV) : Value := refv q.m q.A q.n q.c q.D q.k q.d
def QV.at (w : World) (B : Nat) (q : QV) : Prop := DRd w B q.A q.n q.c q.xs ∧ DRd w B q.D q.k q.d q.ys
/-- Its numbers. -/
def QV.is (q : QV) (z1 : Int) (z2 : Nat) : Prop := ∃ v1, Rep 65536 q.xs v1 ∧ sval q.m v1 = z1 ∧ Rep 65536 q.ys z2
def GivesQ (w : World) (z1 : Int) (z2 : Nat) (e : Ending) (w' : World) : Prop := ∃ q : QV, e = .returned q.v ∧ q.at w' w'.heap.size ∧ q.is z1 z2 ∧ Below w.heap.size w w'
theorem GivesRR.q {w w' : World} {z1 : Int} {z2 : Int} {e : Ending} (h : GivesRR w z1 z2 e w') : GivesQ w z1 z2.natAbs e w' := by
  obtain ⟨m, A, n, c, xs, v1, D, k, d, ys, v2, rfl, h1, h2, h3, h4, h5, h6, h7⟩ := h
  exact ⟨⟨m, A, n, c, xs, D, k, d, ys⟩, rfl, ⟨h1, h2⟩, ⟨v1, h3, h5, by rw [← h6]; exact h4⟩, h7⟩
end Go.Proofs.YtflmcgoijofpdaaGreat

namespace Go.Proofs.YtflmcgoijofpdaaGreat
open Go.RowKit
set_option maxHeartbeats 400000
set_option maxRecDepth 100000
set_option linter.unusedSimpArgs false
set_option linter.unusedVariables false

@[irreducible] def TT : Nat := 65536 ^ 40000
theorem tt_eq {m : Nat} (h : m = 40000) : TT = 65536 ^ m := by subst h; unfold TT; rfl
section
variable {V u : World} {x y : Int} {B g h : Nat} {A1 A2 : Option Addr} {k1 c1 k2 c2 v1 v2 : Nat} {m1 m2 : Bool} {z1 z2 : List Nat} (h1 : DRd u u.heap.size A1 k1 c1 z1) (h2 : DRd u u.heap.size A2 k2 c2 z2) (R1 : Hid (Rep 65536 z1 v1)) (S1 : Hid (sval m1 v1 = x)) (R2 : Hid (Rep 65536 z2 v2)) (S2 : Hid (sval m2 v2 = y)) (b : Below V.heap.size V u)
include h1 h2 R1 S1 R2 S2 b
end
theorem qv_at {w : World} {B : Nat} {q : QV} (h : DRd w B q.A q.n q.c q.xs) (k : DRd w B q.D q.k q.d q.ys) : q.at w B := ⟨h, k⟩
end Go.Proofs.YtflmcgoijofpdaaGreat

namespace Go.Proofs.YtflmcgoijofpdaaGreat
open Go.RowKit
set_option maxHeartbeats 400000
set_option maxRecDepth 100000
set_option linter.unusedSimpArgs false
set_option linter.unusedVariables false

set_option maxHeartbeats 4000000 in
theorem qfits_v (w : World) (q : QV) (hn : q.n ≤ 9223372036854775807) (hk : q.k ≤ 9223372036854775807) :
    Calls Tryz.prog 66 #[q.v] w (fun e w' => e = .returned (.bool (decide (q.n ≤ 256) && decide (q.k ≤ 256))) ∧ Below w.heap.size w w') := by
  by_cases h1 : q.n ≤ 256
  · by_cases h2 : q.k ≤ 256
    · have hk2 : decide ((q.k : Int) ≤ 256) = true := decide_eq_true (by omega)
      have E : Below w.heap.size w w := Below.refl _ _
      go_enter Tryz.func66, Tryz.ntmps66
      go_upto_region 1 with fail
      obtain ⟨V0, hV0⟩ : ∃ V0 : World, V0 = (w.alloc (.cells #[.bool q.m, .slice q.A q.n q.c, .slice q.D q.k q.d] 42)) := ⟨_, rfl⟩
      have bV0 : Below w.heap.size w V0 := by rw [hV0]; (repeat (first | with_reducible exact Below.refl _ _ | with_reducible refine Below.drew ?_ | with_reducible refine below_drewN ?_ _ | with_reducible refine Below.setCell ?_ (by first | (simp; done) | (simp; omega) | omega) _ | with_reducible refine Below.alloc ?_ (by first | (simp; done) | (simp; omega) | omega) _))
      have zV0 : w.heap.size + 1 ≤ V0.heap.size := by rw [hV0]; simp
      have PA : Bk3 V0 (w.heap.size) (.bool q.m) (.slice q.A q.n q.c) (.slice q.D q.k q.d) := by rw [hV0]; exact (Bk3.newAt _ _ (by first | omega | (simp; done) | (simp; omega)) _ _ _ _)
      rw [← hV0]
      clear hV0
      replace E := E.trans (bV0.mono E.size)
      clear bV0
      have t_PA0 := PA.c0
      have t_PA1 := PA.c1
      have t_PA2 := PA.c2
      go_wp2_with fail
      clear t_PA0 t_PA1 t_PA2
      (with_reducible refine (fits_any _ q.m q.A q.n q.c hn).mono ?_)
      rintro e w1 ⟨rfl, hb1⟩
      have sw1 := hb1.size
      replace PA := PA.below hb1 PA.lt
      replace E := E.trans (hb1.mono E.size)
      clear hb1
      rw [show decide (q.n ≤ 256) = true from decide_eq_true h1]
      have t_PA0 := PA.c0
      have t_PA1 := PA.c1
      have t_PA2 := PA.c2
      go_wp2_with fail
      clear t_PA0 t_PA1 t_PA2
      go_ret
      exact ⟨by first | rfl | (simp [h1, h2]; done) | (simp; omega), E⟩
    · have hk2 : decide ((q.k : Int) ≤ 256) = false := decide_eq_false (by omega)
      have E : Below w.heap.size w w := Below.refl _ _
      go_enter Tryz.func66, Tryz.ntmps66
      go_upto_region 1 with fail
      obtain ⟨V0, hV0⟩ : ∃ V0 : World, V0 = (w.alloc (.cells #[.bool q.m, .slice q.A q.n q.c, .slice q.D q.k q.d] 42)) := ⟨_, rfl⟩
      have bV0 : Below w.heap.size w V0 := by rw [hV0]; (repeat (first | with_reducible exact Below.refl _ _ | with_reducible refine Below.drew ?_ | with_reducible refine below_drewN ?_ _ | with_reducible refine Below.setCell ?_ (by first | (simp; done) | (simp; omega) | omega) _ | with_reducible refine Below.alloc ?_ (by first | (simp; done) | (simp; omega) | omega) _))
      have zV0 : w.heap.size + 1 ≤ V0.heap.size := by rw [hV0]; simp
      have PA : Bk3 V0 (w.heap.size) (.bool q.m) (.slice q.A q.n q.c) (.slice q.D q.k q.d) := by rw [hV0]; exact (Bk3.newAt _ _ (by first | omega | (simp; done) | (simp; omega)) _ _ _ _)
      rw [← hV0]
      clear hV0
      replace E := E.trans (bV0.mono E.size)
      clear bV0
      have t_PA0 := PA.c0
      have t_PA1 := PA.c1
      have t_PA2 := PA.c2
      go_wp2_with fail
      clear t_PA0 t_PA1 t_PA2
      (with_reducible refine (fits_any _ q.m q.A q.n q.c hn).mono ?_)
      rintro e w1 ⟨rfl, hb1⟩
      have sw1 := hb1.size
      replace PA := PA.below hb1 PA.lt
      replace E := E.trans (hb1.mono E.size)
      clear hb1
      rw [show decide (q.n ≤ 256) = true from decide_eq_true h1]
      have t_PA0 := PA.c0
      have t_PA1 := PA.c1
      have t_PA2 := PA.c2
      go_wp2_with fail
      clear t_PA0 t_PA1 t_PA2
      go_ret
      exact ⟨by first | rfl | (simp [h1, h2]; done) | (simp; omega), E⟩
  · have h2 : True := trivial
    have E : Below w.heap.size w w := Below.refl _ _
    go_enter Tryz.func66, Tryz.ntmps66
    go_upto_region 1 with fail
    obtain ⟨V0, hV0⟩ : ∃ V0 : World, V0 = (w.alloc (.cells #[.bool q.m, .slice q.A q.n q.c, .slice q.D q.k q.d] 42)) := ⟨_, rfl⟩
    have bV0 : Below w.heap.size w V0 := by rw [hV0]; (repeat (first | with_reducible exact Below.refl _ _ | with_reducible refine Below.drew ?_ | with_reducible refine below_drewN ?_ _ | with_reducible refine Below.setCell ?_ (by first | (simp; done) | (simp; omega) | omega) _ | with_reducible refine Below.alloc ?_ (by first | (simp; done) | (simp; omega) | omega) _))
    have zV0 : w.heap.size + 1 ≤ V0.heap.size := by rw [hV0]; simp
    have PA : Bk3 V0 (w.heap.size) (.bool q.m) (.slice q.A q.n q.c) (.slice q.D q.k q.d) := by rw [hV0]; exact (Bk3.newAt _ _ (by first | omega | (simp; done) | (simp; omega)) _ _ _ _)
    rw [← hV0]
    clear hV0
    replace E := E.trans (bV0.mono E.size)
    clear bV0
    have t_PA0 := PA.c0
    have t_PA1 := PA.c1
    have t_PA2 := PA.c2
    go_wp2_with fail
    clear t_PA0 t_PA1 t_PA2
    (with_reducible refine (fits_any _ q.m q.A q.n q.c hn).mono ?_)
    rintro e w1 ⟨rfl, hb1⟩
    have sw1 := hb1.size
    replace PA := PA.below hb1 PA.lt
    replace E := E.trans (hb1.mono E.size)
    clear hb1
    rw [show decide (q.n ≤ 256) = false from decide_eq_false h1]
    have t_PA0 := PA.c0
    have t_PA1 := PA.c1
    have t_PA2 := PA.c2
    go_wp2_with fail
    clear t_PA0 t_PA1 t_PA2
    go_ret
    exact ⟨by first | rfl | (simp [h1, h2]; done) | (simp; omega), E⟩
end Go.Proofs.YtflmcgoijofpdaaGreat
