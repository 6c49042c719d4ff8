/- For every slice of uint32, every int and every slice of ints (nil ones too), at every start: NaturalDigits returns true, and its arguments read afterwards as before. Condition: the arguments are together of bulk at most 1048576 (the statement's own). -/
import Derived.Test.YtjkogajdpkbjeaaDivA
import Derived.Test.YtjkogajdpkbjeaaMovA
import Derived.Test.YtjkogajdpkbjeaaDig4
import Derived.Test.YtjkogajdpkbjeaaDig56
import Derived.Deep.RegionWith
import Derived.Deep.RegionHeld3
import Derived.Deep.DeepCutAuto
import Derived.Test.YtjkogajdpkbjeaaOpen
import Derived.ShutString
import Derived.ChangeOld
import Derived.Below
import Derived.JoinedCond
namespace Go.Proofs.Ytjkogajdpkbjeaa
open Go.RowKit
set_option maxHeartbeats 400000
set_option maxRecDepth 100000
set_option linter.unusedSimpArgs false
set_option linter.unusedVariables false

theorem st_keep {w : World} {g B : Nat} {x y : Value} (hB : B ≤ g) : ∀ p : Addr, p.block < B → ((w.setCell ⟨g, 0, none⟩ x).setCell ⟨g, 1, none⟩ y).cell? p = w.cell? p := fun p hp => by
  rw [World.cell?_setCell_other _ ⟨g, 1, none⟩ p y (fun e => by rw [← e] at hp; simp at hp; omega), World.cell?_setCell_other _ ⟨g, 0, none⟩ p x (fun e => by rw [← e] at hp; simp at hp; omega)]
theorem Rd.allocK {w : World} {B n : Nat} {A : Option Addr} {f : Nat → Value} (h : Rd w B A n f) (hB : B ≤ w.heap.size) (o : Obj) : Rd (w.alloc o) B A n f := h.keep fun p hp => World.cell?_alloc_lt w o p (by omega)
theorem zrd_drd {w : World} {B m d y : Nat} {D : Option Addr} {z : Nat → Int} (k : Rd w B D m (fun j => .int .i64 (z j))) (hmd : m ≤ d ∧ d ≤ 9223372036854775807) (hok : ∀ j, j < m → 0 ≤ z j ∧ z j < (y : Int)) (hy : y ≤ 36) : ∃ ds, Dig y ds ∧ ∀ w', Rd w' B D m (fun j => .int .i64 (z j)) → DRd w' B D m d ds := by
  have hdig : Dig y ((List.range m).map fun j => (z j).toNat) := by
    intro x hx
    rw [List.mem_map] at hx
    obtain ⟨j, hj, rfl⟩ := hx
    have := hok j (List.mem_range.1 hj)
    omega
  refine ⟨_, hdig, fun w' k' => ⟨(by simp : _ = _), hmd, fun x hx => by have := hdig x hx; omega, k'.congr fun j hj => ?_⟩⟩
  have := hok j hj
  unfold nth
  simp [hj]
  omega
theorem m2_at {W v : World} {g1 g2 : Nat} {a b c d : Int} (P1 : FC W g1 a b) (P2 : FC W g2 c d) (h : Below W.heap.size W v) :
    Below W.heap.size W v ∧ v.cell? ⟨g1, 0, none⟩ = some (.int .i64 a) ∧ v.cell? ⟨g1, 1, none⟩ = some (.int .i64 b) ∧ v.cell? ⟨g2, 0, none⟩ = some (.int .i64 c) ∧ v.cell? ⟨g2, 1, none⟩ = some (.int .i64 d) :=
  ⟨h, (P1.below h P1.lt).c0, (P1.below h P1.lt).c1, (P2.below h P2.lt).c0, (P2.below h P2.lt).c1⟩
theorem m2_next {W v v' : World} {g1 g2 : Nat} {a b c d : Int} (P1 : FC W g1 a b) (P2 : FC W g2 c d) (h : Below W.heap.size W v) (hb : Below v.heap.size v v') :
    Below W.heap.size W v' ∧ v'.cell? ⟨g1, 0, none⟩ = some (.int .i64 a) ∧ v'.cell? ⟨g1, 1, none⟩ = some (.int .i64 b) ∧ v'.cell? ⟨g2, 0, none⟩ = some (.int .i64 c) ∧ v'.cell? ⟨g2, 1, none⟩ = some (.int .i64 d) :=
  m2_at P1 P2 (s_next h hb (Nat.le_refl _))
theorem from_u {w : World} {p : Nat} {e : Ending} {w' : World} (h : GivesB w p e w') : GivesU w p e w' := h.u
/-- The law's own look at the digits: one of them, at m, is no digit. -/
def LwRel (W : World) (mb g : Nat) (i : Value) (wr : World) : Prop :=
  (∃ j : Nat, j ≤ mb ∧ i = .int .i64 (j : Int) ∧ wr = W) ∨
  (i = .int .i64 ((mb : Int) + 1) ∧ ∃ w5, Below W.heap.size W w5 ∧ wr = (w5.setCell ⟨g, 0, none⟩ (.int .i64 4)).setCell ⟨g, 1, none⟩ (.int .i64 (mb : Int)))
theorem nrev {y p : Nat} {l fs : List Nat} (hy : 1 < y) (h : Rep y l.reverse p) (k : Rep y fs.reverse p) : l = fs := by
  have := h.unique (by omega) k
  exact List.reverse_inj.1 this
end Go.Proofs.Ytjkogajdpkbjeaa

namespace Go.Proofs.Ytjkogajdpkbjeaa
open Go.RowKit
set_option maxHeartbeats 400000
set_option maxRecDepth 100000
set_option linter.unusedSimpArgs false
set_option linter.unusedVariables false

set_option maxHeartbeats 8000000 in
theorem dg_i_base (w : World) (A D : Option Addr) (n c m d : Nat) (y : Int) (z : Nat → Int) (xs : List Nat) (h : LRd w w.heap.size A n c xs) (k : Rd w w.heap.size D m (fun j => .int .i64 (z j))) (hmd : m ≤ d ∧ d ≤ 9223372036854775807) (hmB : m ≤ 10000000) (hx : vld xs = false) (hy : y < 2 ∨ 36 < y) :
    Calls Try.prog 6 #[.slice A n c, .int .i64 y, .slice D m d] w fun e w' => e = .returned (.bool true) ∧ Below w.heap.size w w' := by
  have hcap := h.cap
  have H0 := h
  have K0 := k
  have E0 : Below w.heap.size w w := Below.refl _ _
  clear h k
  go_enter Try.func6, Try.ntmps6
  go_wp2_with fail
  refine (digits_bad1 w _ A n c y xs H0 (Nat.le_refl _) hx).mono ?_
  rintro e w1 ⟨rfl, hb1⟩
  have hz1 : w.heap.size ≤ w1.heap.size := hb1.size
  have H1 := H0.below hb1 E0.size
  have K1 := K0.below hb1 E0.size
  have E1 := E0.trans (hb1.mono E0.size)
  clear H0 K0 E0
  have H2 := H1.alloc E1.size (.cells #[.int .i64 (6), .int .i64 (-1)] 24)
  have K2 := K1.allocK E1.size (.cells #[.int .i64 (6), .int .i64 (-1)] 24)
  have E2 := E1.alloc E1.size (.cells #[.int .i64 (6), .int .i64 (-1)] 24)
  have P1_2 := FC.new (w1) (6) (-1)
  clear H1 K1 E1
  go_wp2_with fail
  refine (from_badbase _ D m d y hy).mono ?_
  rintro e w2 ⟨rfl, hb2⟩
  have hz2 : w1.heap.size < w2.heap.size := next_lt hb2
  have H3 := H2.below hb2 E2.size
  have K3 := K2.below hb2 E2.size
  have E3 := E2.trans (hb2.mono E2.size)
  have P1_3 := P1_2.below hb2 P1_2.lt
  clear H2 K2 E2 P1_2
  have H4 := H3.alloc E3.size (.cells #[.int .i64 (4), .int .i64 (-2)] 24)
  have K4 := K3.allocK E3.size (.cells #[.int .i64 (4), .int .i64 (-2)] 24)
  have E4 := E3.alloc E3.size (.cells #[.int .i64 (4), .int .i64 (-2)] 24)
  have P1_4 := P1_3.alloc (.cells #[.int .i64 (4), .int .i64 (-2)] 24)
  have P2_4 := FC.new (w2) (4) (-2)
  clear H3 K3 E3 P1_3
  go_wp2_with fail
  refine (sums_any _).mono ?_
  rintro e w3 ⟨rfl, hb3⟩
  have hz3 : w2.heap.size < w3.heap.size := next_lt hb3
  have H5 := H4.below hb3 E4.size
  have K5 := K4.below hb3 E4.size
  have E5 := E4.trans (hb3.mono E4.size)
  have P1_5 := P1_4.below hb3 P1_4.lt
  have P2_5 := P2_4.below hb3 P2_4.lt
  clear H4 K4 E4 P1_4 P2_4
  have H6 := H5.alloc E5.size (.cells #[.int .i64 (0), .int .i64 (0)] 24)
  have K6 := K5.allocK E5.size (.cells #[.int .i64 (0), .int .i64 (0)] 24)
  have E6 := E5.alloc E5.size (.cells #[.int .i64 (0), .int .i64 (0)] 24)
  have P1_6 := P1_5.alloc (.cells #[.int .i64 (0), .int .i64 (0)] 24)
  have P2_6 := P2_5.alloc (.cells #[.int .i64 (0), .int .i64 (0)] 24)
  have P3_6 := FC.new (w3) (0) (0)
  clear H5 K5 E5 P1_5 P2_5
  rcases (show y < 2 ∨ (2 ≤ y ∧ 36 < y) by omega) with hyy | hyy
  all_goals
    go_wp2_with fail
    refine (at_any _ _ _).mono ?_
    rintro e w4 ⟨rfl, hb4⟩
    have hz4 : w3.heap.size < w4.heap.size := next_lt hb4
    have H7 := H6.below hb4 E6.size
    have K7 := K6.below hb4 E6.size
    have E7 := E6.trans (hb4.mono E6.size)
    have P1_7 := P1_6.below hb4 P1_6.lt
    have P2_7 := P2_6.below hb4 P2_6.lt
    have P3_7 := P3_6.below hb4 P3_6.lt
    clear H6 K6 E6 P1_6 P2_6 P3_6
    have x0 := P3_7.fz 0
    have x1 := P3_7.fz 1
    have x2 := P3_7.c0
    have x3 := P3_7.c1
    have H8 : LRd (((w4).setCell ⟨w3.heap.size, 0, none⟩ (.int .i64 4)).setCell ⟨w3.heap.size, 1, none⟩ (.int .i64 (-2))) w.heap.size A n c xs := H7.keep (st_keep (by omega))
    have K8 : Rd (((w4).setCell ⟨w3.heap.size, 0, none⟩ (.int .i64 4)).setCell ⟨w3.heap.size, 1, none⟩ (.int .i64 (-2))) w.heap.size D m (fun j => .int .i64 (z j)) := K7.keep (st_keep (by omega))
    have E8 : Below w.heap.size w (((w4).setCell ⟨w3.heap.size, 0, none⟩ (.int .i64 4)).setCell ⟨w3.heap.size, 1, none⟩ (.int .i64 (-2))) := (E7.setCell (by show _ ≤ w3.heap.size; omega) _).setCell (by show _ ≤ w3.heap.size; omega) _
    have P1_8 := (P1_7.set (g' := w3.heap.size) (by omega) 0 (.int .i64 4)).set (g' := w3.heap.size) (by omega) 1 (.int .i64 (-2))
    have P2_8 := (P2_7.set (g' := w3.heap.size) (by omega) 0 (.int .i64 4)).set (g' := w3.heap.size) (by omega) 1 (.int .i64 (-2))
    have P3_8 := P3_7.store 4 (-2)
    have sz4 : (((w4).setCell ⟨w3.heap.size, 0, none⟩ (.int .i64 4)).setCell ⟨w3.heap.size, 1, none⟩ (.int .i64 (-2))).heap.size = w4.heap.size := by simp
    obtain ⟨y0, y1, _⟩ := id P3_8
    clear H7 K7 E7 P1_7 P2_7 P3_7
    have H9 := H8.alloc E8.size (.cells #[.int .i64 (4), .int .i64 (-2)] 24)
    have K9 := K8.allocK E8.size (.cells #[.int .i64 (4), .int .i64 (-2)] 24)
    have E9 := E8.alloc E8.size (.cells #[.int .i64 (4), .int .i64 (-2)] 24)
    have P1_9 := P1_8.alloc (.cells #[.int .i64 (4), .int .i64 (-2)] 24)
    have P2_9 := P2_8.alloc (.cells #[.int .i64 (4), .int .i64 (-2)] 24)
    have P3_9 := P3_8.alloc (.cells #[.int .i64 (4), .int .i64 (-2)] 24)
    have P4_9 := FC.new (((w4).setCell ⟨w3.heap.size, 0, none⟩ (.int .i64 4)).setCell ⟨w3.heap.size, 1, none⟩ (.int .i64 (-2))) (4) (-2)
    clear H8 K8 E8 P1_8 P2_8 P3_8
    rw [sz4] at P4_9
    go_wp2_with fail
    refine (nok_f _ _ A n c xs H9 hx).mono ?_
    rintro e w' ⟨rfl, rfl⟩
    go_wp2_with fail
    refine (at_any _ _ _).mono ?_
    rintro e w6 ⟨rfl, hb6⟩
    have hz6 : w4.heap.size < w6.heap.size := by have := hb6.size; simp at this; omega
    have H10 := H9.below hb6 E9.size
    have K10 := K9.below hb6 E9.size
    have E10 := E9.trans (hb6.mono E9.size)
    have P1_10 := P1_9.below hb6 P1_9.lt
    have P2_10 := P2_9.below hb6 P2_9.lt
    have P3_10 := P3_9.below hb6 P3_9.lt
    have P4_10 := P4_9.below hb6 P4_9.lt
    clear H9 K9 E9 P1_9 P2_9 P3_9 P4_9
    have t0 := P4_10.fz 0
    have t1 := P4_10.fz 1
    have t2 := P4_10.c0
    have t3 := P4_10.c1
    have H11 : LRd (((w6).setCell ⟨w4.heap.size, 0, none⟩ (.int .i64 6)).setCell ⟨w4.heap.size, 1, none⟩ (.int .i64 (-1))) w.heap.size A n c xs := H10.keep (st_keep (by omega))
    have K11 : Rd (((w6).setCell ⟨w4.heap.size, 0, none⟩ (.int .i64 6)).setCell ⟨w4.heap.size, 1, none⟩ (.int .i64 (-1))) w.heap.size D m (fun j => .int .i64 (z j)) := K10.keep (st_keep (by omega))
    have E11 : Below w.heap.size w (((w6).setCell ⟨w4.heap.size, 0, none⟩ (.int .i64 6)).setCell ⟨w4.heap.size, 1, none⟩ (.int .i64 (-1))) := (E10.setCell (by show _ ≤ w4.heap.size; omega) _).setCell (by show _ ≤ w4.heap.size; omega) _
    have P1_11 := (P1_10.set (g' := w4.heap.size) (by omega) 0 (.int .i64 6)).set (g' := w4.heap.size) (by omega) 1 (.int .i64 (-1))
    have P2_11 := (P2_10.set (g' := w4.heap.size) (by omega) 0 (.int .i64 6)).set (g' := w4.heap.size) (by omega) 1 (.int .i64 (-1))
    have P3_11 := (P3_10.set (g' := w4.heap.size) (by omega) 0 (.int .i64 6)).set (g' := w4.heap.size) (by omega) 1 (.int .i64 (-1))
    have P4_11 := P4_10.store 6 (-1)
    clear H10 K10 E10 P1_10 P2_10 P3_10 P4_10
    obtain ⟨q10, q11, q12⟩ := id P1_11
    obtain ⟨q20, q21, q22⟩ := id P2_11
    obtain ⟨q30, q31, q32⟩ := id P3_11
    obtain ⟨q40, q41, q42⟩ := id P4_11
    go_wp2_with fail
    refine wp_loop_rounds 1 ?_
    rw [rounds_succ]
    rcases (show 0 < m ∨ ¬ (0 < m) from by omega) with hmm | hmm
    all_goals
      go_wp2_with fail
      refine (is_err _ none none 0 0 0 (4) (-2) (by decide)).mono ?_
      rintro e wz ⟨rfl, hbz⟩
      go_wp2_with fail
      go_ret
      exact ⟨by first | rfl | (simp; done), E11.trans (hbz.mono E11.size)⟩
end Go.Proofs.Ytjkogajdpkbjeaa

namespace Go.Proofs.Ytjkogajdpkbjeaa
open Go.RowKit
set_option maxHeartbeats 400000
set_option maxRecDepth 100000
set_option linter.unusedSimpArgs false
set_option linter.unusedVariables false

set_option maxHeartbeats 8000000 in
theorem dg_i_digit (w : World) (A D : Option Addr) (n c m d : Nat) (y : Nat) (z : Nat → Int) (xs : List Nat) (h : LRd w w.heap.size A n c xs) (k : Rd w w.heap.size D m (fun j => .int .i64 (z j))) (hmd : m ≤ d ∧ d ≤ 9223372036854775807) (hmB : m ≤ 10000000) (hx : vld xs = false) (hy : 2 ≤ y ∧ y ≤ 36) (mb : Nat) (hm : mb < m) (hbad : z mb < 0 ∨ (y : Int) ≤ z mb) (hok : ∀ j, j < mb → 0 ≤ z j ∧ z j < (y : Int)) :
    Calls Try.prog 6 #[.slice A n c, .int .i64 (y : Int), .slice D m d] w fun e w' => e = .returned (.bool true) ∧ Below w.heap.size w w' := by
  have hcap := h.cap
  have hyI : 2 ≤ (y : Int) ∧ (y : Int) ≤ 36 := by omega
  have H0 := h
  have K0 := k
  have E0 : Below w.heap.size w w := Below.refl _ _
  clear h k
  go_enter Try.func6, Try.ntmps6
  go_wp2_with fail
  refine (digits_bad1 w _ A n c (y : Int) xs H0 (Nat.le_refl _) hx).mono ?_
  rintro e w1 ⟨rfl, hb1⟩
  have hz1 : w.heap.size ≤ w1.heap.size := hb1.size
  have H1 := H0.below hb1 E0.size
  have K1 := K0.below hb1 E0.size
  have E1 := E0.trans (hb1.mono E0.size)
  clear H0 K0 E0
  have H2 := H1.alloc E1.size (.cells #[.int .i64 (6), .int .i64 (-1)] 24)
  have K2 := K1.allocK E1.size (.cells #[.int .i64 (6), .int .i64 (-1)] 24)
  have E2 := E1.alloc E1.size (.cells #[.int .i64 (6), .int .i64 (-1)] 24)
  have P1_2 := FC.new (w1) (6) (-1)
  clear H1 K1 E1
  go_wp2_with fail
  refine (from_baddigit _ w.heap.size D m d mb (y : Int) z K2 hmd E2.size hyI hm hbad hok).mono ?_
  rintro e w2 ⟨rfl, hb2⟩
  have hz2 : w1.heap.size < w2.heap.size := next_lt hb2
  have H3 := H2.below hb2 E2.size
  have K3 := K2.below hb2 E2.size
  have E3 := E2.trans (hb2.mono E2.size)
  have P1_3 := P1_2.below hb2 P1_2.lt
  clear H2 K2 E2 P1_2
  have H4 := H3.alloc E3.size (.cells #[.int .i64 (4), .int .i64 ((mb : Int))] 24)
  have K4 := K3.allocK E3.size (.cells #[.int .i64 (4), .int .i64 ((mb : Int))] 24)
  have E4 := E3.alloc E3.size (.cells #[.int .i64 (4), .int .i64 ((mb : Int))] 24)
  have P1_4 := P1_3.alloc (.cells #[.int .i64 (4), .int .i64 ((mb : Int))] 24)
  have P2_4 := FC.new (w2) (4) ((mb : Int))
  clear H3 K3 E3 P1_3
  go_wp2_with fail
  refine (sums_any _).mono ?_
  rintro e w3 ⟨rfl, hb3⟩
  have hz3 : w2.heap.size < w3.heap.size := next_lt hb3
  have H5 := H4.below hb3 E4.size
  have K5 := K4.below hb3 E4.size
  have E5 := E4.trans (hb3.mono E4.size)
  have P1_5 := P1_4.below hb3 P1_4.lt
  have P2_5 := P2_4.below hb3 P2_4.lt
  clear H4 K4 E4 P1_4 P2_4
  have H6 := H5.alloc E5.size (.cells #[.int .i64 (0), .int .i64 (0)] 24)
  have K6 := K5.allocK E5.size (.cells #[.int .i64 (0), .int .i64 (0)] 24)
  have E6 := E5.alloc E5.size (.cells #[.int .i64 (0), .int .i64 (0)] 24)
  have P1_6 := P1_5.alloc (.cells #[.int .i64 (0), .int .i64 (0)] 24)
  have P2_6 := P2_5.alloc (.cells #[.int .i64 (0), .int .i64 (0)] 24)
  have P3_6 := FC.new (w3) (0) (0)
  clear H5 K5 E5 P1_5 P2_5
  have H7 := H6.alloc E6.size (.cells #[.int .i64 (0), .int .i64 (0)] 24)
  have K7 := K6.allocK E6.size (.cells #[.int .i64 (0), .int .i64 (0)] 24)
  have E7 := E6.alloc E6.size (.cells #[.int .i64 (0), .int .i64 (0)] 24)
  have P1_7 := P1_6.alloc (.cells #[.int .i64 (0), .int .i64 (0)] 24)
  have P2_7 := P2_6.alloc (.cells #[.int .i64 (0), .int .i64 (0)] 24)
  have P3_7 := P3_6.alloc (.cells #[.int .i64 (0), .int .i64 (0)] 24)
  have P4_7 := FC.new ((w3).alloc (.cells #[.int .i64 (0), .int .i64 (0)] 24)) (0) (0)
  clear H6 K6 E6 P1_6 P2_6 P3_6
  have sz4 : ((w3).alloc (.cells #[.int .i64 (0), .int .i64 (0)] 24)).heap.size = w3.heap.size + 1 := by simp
  rw [sz4] at P4_7
  go_wp2_with fail
  refine (nok_f _ _ A n c xs H7 hx).mono ?_
  rintro e w' ⟨rfl, rfl⟩
  go_wp2_with fail
  refine (at_any _ _ _).mono ?_
  rintro e w6 ⟨rfl, hb6⟩
  have hz6 : w3.heap.size + 1 < w6.heap.size := by have := hb6.size; simp at this; omega
  have H8 := H7.below hb6 E7.size
  have K8 := K7.below hb6 E7.size
  have E8 := E7.trans (hb6.mono E7.size)
  have P1_8 := P1_7.below hb6 P1_7.lt
  have P2_8 := P2_7.below hb6 P2_7.lt
  have P3_8 := P3_7.below hb6 P3_7.lt
  have P4_8 := P4_7.below hb6 P4_7.lt
  clear H7 K7 E7 P1_7 P2_7 P3_7 P4_7
  have t0 := P4_8.fz 0
  have t1 := P4_8.fz 1
  have t2 := P4_8.c0
  have t3 := P4_8.c1
  have H9 : LRd (((w6).setCell ⟨w3.heap.size + 1, 0, none⟩ (.int .i64 6)).setCell ⟨w3.heap.size + 1, 1, none⟩ (.int .i64 (-1))) w.heap.size A n c xs := H8.keep (st_keep (by omega))
  have K9 : Rd (((w6).setCell ⟨w3.heap.size + 1, 0, none⟩ (.int .i64 6)).setCell ⟨w3.heap.size + 1, 1, none⟩ (.int .i64 (-1))) w.heap.size D m (fun j => .int .i64 (z j)) := K8.keep (st_keep (by omega))
  have E9 : Below w.heap.size w (((w6).setCell ⟨w3.heap.size + 1, 0, none⟩ (.int .i64 6)).setCell ⟨w3.heap.size + 1, 1, none⟩ (.int .i64 (-1))) := (E8.setCell (by show _ ≤ w3.heap.size + 1; omega) _).setCell (by show _ ≤ w3.heap.size + 1; omega) _
  have P1_9 := (P1_8.set (g' := w3.heap.size + 1) (by omega) 0 (.int .i64 6)).set (g' := w3.heap.size + 1) (by omega) 1 (.int .i64 (-1))
  have P2_9 := (P2_8.set (g' := w3.heap.size + 1) (by omega) 0 (.int .i64 6)).set (g' := w3.heap.size + 1) (by omega) 1 (.int .i64 (-1))
  have P3_9 := (P3_8.set (g' := w3.heap.size + 1) (by omega) 0 (.int .i64 6)).set (g' := w3.heap.size + 1) (by omega) 1 (.int .i64 (-1))
  have P4_9 := P4_8.store 6 (-1)
  clear H8 K8 E8 P1_8 P2_8 P3_8 P4_8
  obtain ⟨q10, q11, q12⟩ := id P1_9
  obtain ⟨q20, q21, q22⟩ := id P2_9
  obtain ⟨q30, q31, q32⟩ := id P3_9
  obtain ⟨q40, q41, q42⟩ := id P4_9
  go_wp2_with fail
  obtain ⟨Wv, hWv⟩ : ∃ Wv : World, Wv = ((w6).setCell ⟨w3.heap.size + 1, 0, none⟩ (.int .i64 6)).setCell ⟨w3.heap.size + 1, 1, none⟩ (.int .i64 (-1)) := ⟨_, rfl⟩
  rw [← hWv]
  rw [← hWv] at H9
  rw [← hWv] at K9
  rw [← hWv] at E9
  rw [← hWv] at P1_9
  rw [← hWv] at P2_9
  rw [← hWv] at P3_9
  rw [← hWv] at P4_9
  rw [← hWv] at q10 q11 q12
  rw [← hWv] at q20 q21 q22
  rw [← hWv] at q30 q31 q32
  rw [← hWv] at q40 q41 q42
  have hWz : w3.heap.size < Wv.heap.size := P3_9.lt
  clear hWv
  go_loopw [13] (LwRel Wv mb w3.heap.size) (fun i _ => m + 1 - (intOf i).toNat)
  case atStart => exact .inl ⟨0, by omega, rfl, rfl⟩
  case round =>
    rcases hrel with ⟨j, hj, rfl, rfl⟩ | ⟨rfl, w5, hb5, rfl⟩
    · obtain ⟨b, off, rfl, hbb, hcell⟩ := K9 (by omega)
      have r1 := hcell j (by omega)
      clear hcell
      by_cases h1 : j < mb
      · obtain ⟨r2, r3⟩ := hok j h1
        go_wp2_with fail
        go_roundw
        case rel => exact .inl ⟨j + 1, by omega, by go_num, rfl⟩
        case measure => first | (simp [intOf]; done) | (simp [intOf]; omega)
      · obtain rfl : j = mb := by omega
        rcases (show z j < 0 ∨ (0 ≤ z j ∧ (y : Int) ≤ z j) by omega) with z0 | z0
        all_goals
          go_wp2_with fail
          refine (at_any _ _ _).mono ?_
          rintro e w5 ⟨rfl, hb5⟩
          obtain ⟨v0, v1, _, v2⟩ := P3_9.below hb5 P3_9.lt
          have v3 := v2 0
          have v4 := v2 1
          go_wp2_with fail
          go_roundw
          case rel => exact .inr ⟨by go_num, w5, hb5, rfl⟩
          case measure => first | (simp [intOf]; done) | (simp [intOf]; omega)
    · have hz5 := hb5.size
      clear q10 q11 q12
      clear q20 q21 q22
      clear q30 q31 q32
      clear q40 q41 q42
      have H10 := H9.below hb5 E9.size
      have K10 := K9.below hb5 E9.size
      have E10 := E9.trans (hb5.mono E9.size)
      have P1_10 := P1_9.below hb5 P1_9.lt
      have P2_10 := P2_9.below hb5 P2_9.lt
      have P3_10 := P3_9.below hb5 P3_9.lt
      have P4_10 := P4_9.below hb5 P4_9.lt
      clear H9 K9 E9 P1_9 P2_9 P3_9 P4_9
      have H11 : LRd (((w5).setCell ⟨w3.heap.size, 0, none⟩ (.int .i64 4)).setCell ⟨w3.heap.size, 1, none⟩ (.int .i64 (mb : Int))) w.heap.size A n c xs := H10.keep (st_keep (by omega))
      have K11 : Rd (((w5).setCell ⟨w3.heap.size, 0, none⟩ (.int .i64 4)).setCell ⟨w3.heap.size, 1, none⟩ (.int .i64 (mb : Int))) w.heap.size D m (fun j => .int .i64 (z j)) := K10.keep (st_keep (by omega))
      have E11 : Below w.heap.size w (((w5).setCell ⟨w3.heap.size, 0, none⟩ (.int .i64 4)).setCell ⟨w3.heap.size, 1, none⟩ (.int .i64 (mb : Int))) := (E10.setCell (by show _ ≤ w3.heap.size; omega) _).setCell (by show _ ≤ w3.heap.size; omega) _
      have P1_11 := (P1_10.set (g' := w3.heap.size) (by omega) 0 (.int .i64 4)).set (g' := w3.heap.size) (by omega) 1 (.int .i64 (mb : Int))
      have P2_11 := (P2_10.set (g' := w3.heap.size) (by omega) 0 (.int .i64 4)).set (g' := w3.heap.size) (by omega) 1 (.int .i64 (mb : Int))
      have P3_11 := P3_10.store 4 (mb : Int)
      have P4_11 := (P4_10.set (g' := w3.heap.size) (by omega) 0 (.int .i64 4)).set (g' := w3.heap.size) (by omega) 1 (.int .i64 (mb : Int))
      clear H10 K10 E10 P1_10 P2_10 P3_10 P4_10
      obtain ⟨q10, q11, q12⟩ := id P1_11
      obtain ⟨q20, q21, q22⟩ := id P2_11
      obtain ⟨q30, q31, q32⟩ := id P3_11
      obtain ⟨q40, q41, q42⟩ := id P4_11
      rcases (show mb + 1 < m ∨ ¬ (mb + 1 < m) from by omega) with hmm | hmm
      all_goals
        go_wp2_with fail
        refine (is_err _ none none 0 0 0 (4) ((mb : Int)) (by decide)).mono ?_
        rintro e wz ⟨rfl, hbz⟩
        go_wp2_with fail
        go_ret
        exact ⟨by first | rfl | (simp; done), E11.trans (hbz.mono E11.size)⟩
end Go.Proofs.Ytjkogajdpkbjeaa

namespace Go.Proofs.Ytjkogajdpkbjeaa
open Go.RowKit
set_option maxHeartbeats 400000
set_option maxRecDepth 100000
set_option linter.unusedSimpArgs false
set_option linter.unusedVariables false

set_option maxHeartbeats 8000000 in
theorem dg_i_ok (w : World) (A D : Option Addr) (n c m d : Nat) (y : Nat) (z : Nat → Int) (xs : List Nat) (h : LRd w w.heap.size A n c xs) (k : Rd w w.heap.size D m (fun j => .int .i64 (z j))) (hmd : m ≤ d ∧ d ≤ 9223372036854775807) (hmB : m ≤ 10000000) (hx : vld xs = false) (hy : 2 ≤ y ∧ y ≤ 36) (hok : ∀ j, j < m → 0 ≤ z j ∧ z j < (y : Int)) :
    Calls Try.prog 6 #[.slice A n c, .int .i64 (y : Int), .slice D m d] w fun e w' => e = .returned (.bool true) ∧ Below w.heap.size w w' := by
  have hcap := h.cap
  have hyI : 2 ≤ (y : Int) ∧ (y : Int) ≤ 36 := by omega
  obtain ⟨ds, hdd, hDof⟩ := zrd_drd k hmd hok hy.2
  have HDof := Lib.hid hDof
  clear hDof
  have H0 := h
  have K0 := k
  have E0 : Below w.heap.size w w := Below.refl _ _
  clear h k
  go_enter Try.func6, Try.ntmps6
  go_wp2_with fail
  refine (digits_bad1 w _ A n c (y : Int) xs H0 (Nat.le_refl _) hx).mono ?_
  rintro e w1 ⟨rfl, hb1⟩
  have hz1 : w.heap.size ≤ w1.heap.size := hb1.size
  have H1 := H0.below hb1 E0.size
  have K1 := K0.below hb1 E0.size
  have E1 := E0.trans (hb1.mono E0.size)
  clear H0 K0 E0
  have H2 := H1.alloc E1.size (.cells #[.int .i64 (6), .int .i64 (-1)] 24)
  have K2 := K1.allocK E1.size (.cells #[.int .i64 (6), .int .i64 (-1)] 24)
  have E2 := E1.alloc E1.size (.cells #[.int .i64 (6), .int .i64 (-1)] 24)
  have P1_2 := FC.new (w1) (6) (-1)
  clear H1 K1 E1
  go_wp2_with fail
  refine (from_ok _ _ D m d y ds (HDof.out _ K2) E2.size hdd hy).mono ?_
  intro e w2 hgb
  obtain ⟨v0, u1, u2, hu, A2, j2, c2, z2, rfl, hX, hXr, hb2⟩ := from_u hgb
  have HXr := Lib.hid hXr
  have HU := Lib.hid hu
  clear hgb hXr hu
  have hz2 : w1.heap.size < w2.heap.size := next_lt hb2
  have H3 := H2.below hb2 E2.size
  have K3 := K2.below hb2 E2.size
  have E3 := E2.trans (hb2.mono E2.size)
  have P1_3 := P1_2.below hb2 P1_2.lt
  clear H2 K2 E2 P1_2
  have X3 := hX
  have SX3 : w2.heap.size ≤ w2.heap.size := Nat.le_refl _
  have hcx := hX.cap
  clear hX
  have H4 := H3.alloc E3.size (.cells #[.int .i64 (u1), .int .i64 (u2)] 24)
  have K4 := K3.allocK E3.size (.cells #[.int .i64 (u1), .int .i64 (u2)] 24)
  have E4 := E3.alloc E3.size (.cells #[.int .i64 (u1), .int .i64 (u2)] 24)
  have P1_4 := P1_3.alloc (.cells #[.int .i64 (u1), .int .i64 (u2)] 24)
  have P2_4 := FC.new (w2) (u1) (u2)
  have X4 := X3.alloc SX3 (.cells #[.int .i64 (u1), .int .i64 (u2)] 24)
  have SX4 : w2.heap.size ≤ ((w2).alloc (.cells #[.int .i64 (u1), .int .i64 (u2)] 24)).heap.size := Nat.le_trans SX3 (by simp)
  clear H3 K3 E3 P1_3 X3 SX3
  go_wp2_with fail
  refine (sums_any _).mono ?_
  rintro e w3 ⟨rfl, hb3⟩
  have hz3 : w2.heap.size < w3.heap.size := next_lt hb3
  have H5 := H4.below hb3 E4.size
  have K5 := K4.below hb3 E4.size
  have E5 := E4.trans (hb3.mono E4.size)
  have P1_5 := P1_4.below hb3 P1_4.lt
  have P2_5 := P2_4.below hb3 P2_4.lt
  have X5 := X4.below hb3 SX4
  have SX5 := Nat.le_trans SX4 hb3.size
  clear H4 K4 E4 P1_4 P2_4 X4 SX4
  have H6 := H5.alloc E5.size (.cells #[.int .i64 (0), .int .i64 (0)] 24)
  have K6 := K5.allocK E5.size (.cells #[.int .i64 (0), .int .i64 (0)] 24)
  have E6 := E5.alloc E5.size (.cells #[.int .i64 (0), .int .i64 (0)] 24)
  have P1_6 := P1_5.alloc (.cells #[.int .i64 (0), .int .i64 (0)] 24)
  have P2_6 := P2_5.alloc (.cells #[.int .i64 (0), .int .i64 (0)] 24)
  have P3_6 := FC.new (w3) (0) (0)
  have X6 := X5.alloc SX5 (.cells #[.int .i64 (0), .int .i64 (0)] 24)
  have SX6 : w2.heap.size ≤ ((w3).alloc (.cells #[.int .i64 (0), .int .i64 (0)] 24)).heap.size := Nat.le_trans SX5 (by simp)
  clear H5 K5 E5 P1_5 P2_5 X5 SX5
  have H7 := H6.alloc E6.size (.cells #[.int .i64 (0), .int .i64 (0)] 24)
  have K7 := K6.allocK E6.size (.cells #[.int .i64 (0), .int .i64 (0)] 24)
  have E7 := E6.alloc E6.size (.cells #[.int .i64 (0), .int .i64 (0)] 24)
  have P1_7 := P1_6.alloc (.cells #[.int .i64 (0), .int .i64 (0)] 24)
  have P2_7 := P2_6.alloc (.cells #[.int .i64 (0), .int .i64 (0)] 24)
  have P3_7 := P3_6.alloc (.cells #[.int .i64 (0), .int .i64 (0)] 24)
  have P4_7 := FC.new ((w3).alloc (.cells #[.int .i64 (0), .int .i64 (0)] 24)) (0) (0)
  have X7 := X6.alloc SX6 (.cells #[.int .i64 (0), .int .i64 (0)] 24)
  have SX7 : w2.heap.size ≤ (((w3).alloc (.cells #[.int .i64 (0), .int .i64 (0)] 24)).alloc (.cells #[.int .i64 (0), .int .i64 (0)] 24)).heap.size := Nat.le_trans SX6 (by simp)
  clear H6 K6 E6 P1_6 P2_6 P3_6 X6 SX6
  have sz4 : ((w3).alloc (.cells #[.int .i64 (0), .int .i64 (0)] 24)).heap.size = w3.heap.size + 1 := by simp
  rw [sz4] at P4_7
  go_wp2_with fail
  refine (nok_f _ _ A n c xs H7 hx).mono ?_
  rintro e w' ⟨rfl, rfl⟩
  go_wp2_with fail
  refine (at_any _ _ _).mono ?_
  rintro e w6 ⟨rfl, hb6⟩
  have hz6 : w3.heap.size + 1 < w6.heap.size := by have := hb6.size; simp at this; omega
  have H8 := H7.below hb6 E7.size
  have K8 := K7.below hb6 E7.size
  have E8 := E7.trans (hb6.mono E7.size)
  have P1_8 := P1_7.below hb6 P1_7.lt
  have P2_8 := P2_7.below hb6 P2_7.lt
  have P3_8 := P3_7.below hb6 P3_7.lt
  have P4_8 := P4_7.below hb6 P4_7.lt
  have X8 := X7.below hb6 SX7
  have SX8 := Nat.le_trans SX7 hb6.size
  clear H7 K7 E7 P1_7 P2_7 P3_7 P4_7 X7 SX7
  have t0 := P4_8.fz 0
  have t1 := P4_8.fz 1
  have t2 := P4_8.c0
  have t3 := P4_8.c1
  have H9 : LRd (((w6).setCell ⟨w3.heap.size + 1, 0, none⟩ (.int .i64 6)).setCell ⟨w3.heap.size + 1, 1, none⟩ (.int .i64 (-1))) w.heap.size A n c xs := H8.keep (st_keep (by omega))
  have K9 : Rd (((w6).setCell ⟨w3.heap.size + 1, 0, none⟩ (.int .i64 6)).setCell ⟨w3.heap.size + 1, 1, none⟩ (.int .i64 (-1))) w.heap.size D m (fun j => .int .i64 (z j)) := K8.keep (st_keep (by omega))
  have E9 : Below w.heap.size w (((w6).setCell ⟨w3.heap.size + 1, 0, none⟩ (.int .i64 6)).setCell ⟨w3.heap.size + 1, 1, none⟩ (.int .i64 (-1))) := (E8.setCell (by show _ ≤ w3.heap.size + 1; omega) _).setCell (by show _ ≤ w3.heap.size + 1; omega) _
  have P1_9 := (P1_8.set (g' := w3.heap.size + 1) (by omega) 0 (.int .i64 6)).set (g' := w3.heap.size + 1) (by omega) 1 (.int .i64 (-1))
  have P2_9 := (P2_8.set (g' := w3.heap.size + 1) (by omega) 0 (.int .i64 6)).set (g' := w3.heap.size + 1) (by omega) 1 (.int .i64 (-1))
  have P3_9 := (P3_8.set (g' := w3.heap.size + 1) (by omega) 0 (.int .i64 6)).set (g' := w3.heap.size + 1) (by omega) 1 (.int .i64 (-1))
  have P4_9 := P4_8.store 6 (-1)
  have X9 : LRd (((w6).setCell ⟨w3.heap.size + 1, 0, none⟩ (.int .i64 6)).setCell ⟨w3.heap.size + 1, 1, none⟩ (.int .i64 (-1))) w2.heap.size A2 j2 c2 z2 := X8.keep (st_keep (by omega))
  have SX9 : w2.heap.size ≤ (((w6).setCell ⟨w3.heap.size + 1, 0, none⟩ (.int .i64 6)).setCell ⟨w3.heap.size + 1, 1, none⟩ (.int .i64 (-1))).heap.size := by simpa using SX8
  clear H8 K8 E8 P1_8 P2_8 P3_8 P4_8 X8 SX8
  obtain ⟨q10, q11, q12⟩ := id P1_9
  obtain ⟨q20, q21, q22⟩ := id P2_9
  obtain ⟨q30, q31, q32⟩ := id P3_9
  obtain ⟨q40, q41, q42⟩ := id P4_9
  go_wp2_with fail
  go_loop [13] (FvRel m) (fun i => m - (intOf i).toNat)
  case atStart => exact ⟨0, by omega, rfl⟩
  case round =>
    obtain ⟨j, hj, rfl⟩ := hrel
    by_cases h1 : j < m
    · obtain ⟨b, off, rfl, hbb, hcell⟩ := K9 (by omega)
      have r1 := hcell j h1
      obtain ⟨r2, r3⟩ := hok j h1
      clear hcell
      go_wp2_with fail
      go_round
      case rel => exact ⟨j + 1, by omega, by go_num⟩
      case measure => first | (simp [intOf]; done) | (simp [intOf]; omega)
    · obtain rfl : j = m := by omega
      go_wp2_with fail
      obtain ⟨Wq, hWq⟩ : ∃ Wq : World, Wq = ((w6).setCell ⟨w3.heap.size + 1, 0, none⟩ (.int .i64 6)).setCell ⟨w3.heap.size + 1, 1, none⟩ (.int .i64 (-1)) := ⟨_, rfl⟩
      have G0 : Below Wq.heap.size Wq Wq.drew := Below.drew (Below.refl _ _)
      rw [← hWq] at K9
      rw [← hWq] at E9
      rw [← hWq] at P2_9
      rw [← hWq] at P3_9
      rw [← hWq] at X9
      rw [← hWq] at SX9
      rw [← hWq] at q10 q11 q12
      rw [← hWq] at q20 q21 q22
      rw [← hWq] at q30 q31 q32
      rw [← hWq] at q40 q41 q42
      have HR := Lib.hid (HDof.out _ K9)
      go_upto_region 22 with fail
      rw [← hWq]
      clear hWq
      have TT := fun (v : World) (hv : Below Wq.heap.size Wq v) => read_any v w.heap.size _ _ d y ds (HR.out.below hv E9.size) (le_at2 E9.size hv) (by omega) hdd hy
      have UU := fun (v v2 : World) (hv : Below Wq.heap.size Wq v) (Ar : Option Addr) (kr cr pr : Nat) (rs : List Nat) (hR : DRd v v.heap.size Ar kr cr rs) (hRr : Rep 65536 rs (vb y ds.reverse)) => is_u v _ A2 Ar j2 kr c2 cr _ v0 u1 u2 z2 rs (l_at X9 hv SX9) hR (Nat.le_refl _) HXr.out hRr HU.out
      go_region_held3 (fun v => Below Wq.heap.size Wq v ∧ v.cell? ⟨w2.heap.size, 0, none⟩ = some (.int .i64 u1) ∧ v.cell? ⟨w2.heap.size, 1, none⟩ = some (.int .i64 u2) ∧ v.cell? ⟨w3.heap.size, 0, none⟩ = some (.int .i64 0) ∧ v.cell? ⟨w3.heap.size, 1, none⟩ = some (.int .i64 0))
        (first | exact m2_at P2_9 P3_9 G0 | (go_split_ands; exact m2_next P2_9 P3_9 (by assumption) hb22) | (refine m2_next P2_9 P3_9 (by assumption) hb22))
        (first
          | (go_at_call 38; try go_split_ands; refine (TT _ (by assumption)).mono ?_; rintro e wr ⟨Ar, kr, cr, rs, rfl, hR, hRr, hb22⟩)
          | (go_at_call 19; try go_split_ands; refine (UU _ wr (by assumption) Ar kr cr 0 rs hR hRr).mono ?_; rintro e wi ⟨rfl, hb22⟩))
      all_goals (go_wp2_with fail)
      all_goals (try go_split_ands)
      all_goals go_ret
      all_goals (exact ⟨by first | rfl | (simp; done), E9.trans (Below.mono (by assumption) E9.size)⟩)
end Go.Proofs.Ytjkogajdpkbjeaa

namespace Go.Proofs.Ytjkogajdpkbjeaa
open Go.RowKit
set_option maxHeartbeats 400000
set_option maxRecDepth 100000
set_option linter.unusedSimpArgs false
set_option linter.unusedVariables false

set_option maxHeartbeats 8000000 in
theorem dg_v_base (w : World) (A D : Option Addr) (n c m d : Nat) (y : Int) (z : Nat → Int) (xs : List Nat) (h : LRd w w.heap.size A n c xs) (k : Rd w w.heap.size D m (fun j => .int .i64 (z j))) (hmd : m ≤ d ∧ d ≤ 9223372036854775807) (hmB : m ≤ 10000000) (hx : vld xs = true) (hy : y < 2 ∨ 36 < y) :
    Calls Try.prog 6 #[.slice A n c, .int .i64 y, .slice D m d] w fun e w' => e = .returned (.bool true) ∧ Below w.heap.size w w' := by
  have hcap := h.cap
  have hn : n ≤ 600 := by have := (vld_top hx).2; have := h.len.out; omega
  have H0 := h
  have K0 := k
  have E0 : Below w.heap.size w w := Below.refl _ _
  clear h k
  go_enter Try.func6, Try.ntmps6
  go_wp2_with fail
  refine (digits_bad2 w _ A n c y xs H0 (Nat.le_refl _) hx hy).mono ?_
  rintro e w1 ⟨rfl, hb1⟩
  have hz1 : w.heap.size ≤ w1.heap.size := hb1.size
  have H1 := H0.below hb1 E0.size
  have K1 := K0.below hb1 E0.size
  have E1 := E0.trans (hb1.mono E0.size)
  clear H0 K0 E0
  have H2 := H1.alloc E1.size (.cells #[.int .i64 (4), .int .i64 (-2)] 24)
  have K2 := K1.allocK E1.size (.cells #[.int .i64 (4), .int .i64 (-2)] 24)
  have E2 := E1.alloc E1.size (.cells #[.int .i64 (4), .int .i64 (-2)] 24)
  have P1_2 := FC.new (w1) (4) (-2)
  clear H1 K1 E1
  go_wp2_with fail
  refine (from_badbase _ D m d y hy).mono ?_
  rintro e w2 ⟨rfl, hb2⟩
  have hz2 : w1.heap.size < w2.heap.size := next_lt hb2
  have H3 := H2.below hb2 E2.size
  have K3 := K2.below hb2 E2.size
  have E3 := E2.trans (hb2.mono E2.size)
  have P1_3 := P1_2.below hb2 P1_2.lt
  clear H2 K2 E2 P1_2
  have H4 := H3.alloc E3.size (.cells #[.int .i64 (4), .int .i64 (-2)] 24)
  have K4 := K3.allocK E3.size (.cells #[.int .i64 (4), .int .i64 (-2)] 24)
  have E4 := E3.alloc E3.size (.cells #[.int .i64 (4), .int .i64 (-2)] 24)
  have P1_4 := P1_3.alloc (.cells #[.int .i64 (4), .int .i64 (-2)] 24)
  have P2_4 := FC.new (w2) (4) (-2)
  clear H3 K3 E3 P1_3
  go_wp2_with fail
  refine (sums_any _).mono ?_
  rintro e w3 ⟨rfl, hb3⟩
  have hz3 : w2.heap.size < w3.heap.size := next_lt hb3
  have H5 := H4.below hb3 E4.size
  have K5 := K4.below hb3 E4.size
  have E5 := E4.trans (hb3.mono E4.size)
  have P1_5 := P1_4.below hb3 P1_4.lt
  have P2_5 := P2_4.below hb3 P2_4.lt
  clear H4 K4 E4 P1_4 P2_4
  have H6 := H5.alloc E5.size (.cells #[.int .i64 (0), .int .i64 (0)] 24)
  have K6 := K5.allocK E5.size (.cells #[.int .i64 (0), .int .i64 (0)] 24)
  have E6 := E5.alloc E5.size (.cells #[.int .i64 (0), .int .i64 (0)] 24)
  have P1_6 := P1_5.alloc (.cells #[.int .i64 (0), .int .i64 (0)] 24)
  have P2_6 := P2_5.alloc (.cells #[.int .i64 (0), .int .i64 (0)] 24)
  have P3_6 := FC.new (w3) (0) (0)
  clear H5 K5 E5 P1_5 P2_5
  rcases (show y < 2 ∨ (2 ≤ y ∧ 36 < y) by omega) with hyy | hyy
  all_goals
    go_wp2_with fail
    refine (at_any _ _ _).mono ?_
    rintro e w4 ⟨rfl, hb4⟩
    have hz4 : w3.heap.size < w4.heap.size := next_lt hb4
    have H7 := H6.below hb4 E6.size
    have K7 := K6.below hb4 E6.size
    have E7 := E6.trans (hb4.mono E6.size)
    have P1_7 := P1_6.below hb4 P1_6.lt
    have P2_7 := P2_6.below hb4 P2_6.lt
    have P3_7 := P3_6.below hb4 P3_6.lt
    clear H6 K6 E6 P1_6 P2_6 P3_6
    have x0 := P3_7.fz 0
    have x1 := P3_7.fz 1
    have x2 := P3_7.c0
    have x3 := P3_7.c1
    have H8 : LRd (((w4).setCell ⟨w3.heap.size, 0, none⟩ (.int .i64 4)).setCell ⟨w3.heap.size, 1, none⟩ (.int .i64 (-2))) w.heap.size A n c xs := H7.keep (st_keep (by omega))
    have K8 : Rd (((w4).setCell ⟨w3.heap.size, 0, none⟩ (.int .i64 4)).setCell ⟨w3.heap.size, 1, none⟩ (.int .i64 (-2))) w.heap.size D m (fun j => .int .i64 (z j)) := K7.keep (st_keep (by omega))
    have E8 : Below w.heap.size w (((w4).setCell ⟨w3.heap.size, 0, none⟩ (.int .i64 4)).setCell ⟨w3.heap.size, 1, none⟩ (.int .i64 (-2))) := (E7.setCell (by show _ ≤ w3.heap.size; omega) _).setCell (by show _ ≤ w3.heap.size; omega) _
    have P1_8 := (P1_7.set (g' := w3.heap.size) (by omega) 0 (.int .i64 4)).set (g' := w3.heap.size) (by omega) 1 (.int .i64 (-2))
    have P2_8 := (P2_7.set (g' := w3.heap.size) (by omega) 0 (.int .i64 4)).set (g' := w3.heap.size) (by omega) 1 (.int .i64 (-2))
    have P3_8 := P3_7.store 4 (-2)
    have sz4 : (((w4).setCell ⟨w3.heap.size, 0, none⟩ (.int .i64 4)).setCell ⟨w3.heap.size, 1, none⟩ (.int .i64 (-2))).heap.size = w4.heap.size := by simp
    obtain ⟨y0, y1, _⟩ := id P3_8
    clear H7 K7 E7 P1_7 P2_7 P3_7
    have H9 := H8.alloc E8.size (.cells #[.int .i64 (4), .int .i64 (-2)] 24)
    have K9 := K8.allocK E8.size (.cells #[.int .i64 (4), .int .i64 (-2)] 24)
    have E9 := E8.alloc E8.size (.cells #[.int .i64 (4), .int .i64 (-2)] 24)
    have P1_9 := P1_8.alloc (.cells #[.int .i64 (4), .int .i64 (-2)] 24)
    have P2_9 := P2_8.alloc (.cells #[.int .i64 (4), .int .i64 (-2)] 24)
    have P3_9 := P3_8.alloc (.cells #[.int .i64 (4), .int .i64 (-2)] 24)
    have P4_9 := FC.new (((w4).setCell ⟨w3.heap.size, 0, none⟩ (.int .i64 4)).setCell ⟨w3.heap.size, 1, none⟩ (.int .i64 (-2))) (4) (-2)
    clear H8 K8 E8 P1_8 P2_8 P3_8
    rw [sz4] at P4_9
    go_wp2_with fail
    refine (nok_t _ _ A n c xs H9 hx).mono ?_
    rintro e w' ⟨rfl, rfl⟩
    obtain ⟨q10, q11, q12⟩ := id P1_9
    obtain ⟨q20, q21, q22⟩ := id P2_9
    obtain ⟨q30, q31, q32⟩ := id P3_9
    obtain ⟨q40, q41, q42⟩ := id P4_9
    go_wp2_with fail
    refine wp_loop_rounds 1 ?_
    rw [rounds_succ]
    rcases (show 0 < m ∨ ¬ (0 < m) from by omega) with hmm | hmm
    all_goals
      go_wp2_with fail
      refine (is_err _ none none 0 0 0 (4) (-2) (by decide)).mono ?_
      rintro e wz ⟨rfl, hbz⟩
      go_wp2_with fail
      go_ret
      exact ⟨by first | rfl | (simp; done), E9.trans (hbz.mono E9.size)⟩
end Go.Proofs.Ytjkogajdpkbjeaa

namespace Go.Proofs.Ytjkogajdpkbjeaa
open Go.RowKit
set_option maxHeartbeats 400000
set_option maxRecDepth 100000
set_option linter.unusedSimpArgs false
set_option linter.unusedVariables false

set_option maxHeartbeats 8000000 in
theorem dg_v_digit (w : World) (A D : Option Addr) (n c m d : Nat) (y : Nat) (z : Nat → Int) (xs : List Nat) (h : LRd w w.heap.size A n c xs) (k : Rd w w.heap.size D m (fun j => .int .i64 (z j))) (hmd : m ≤ d ∧ d ≤ 9223372036854775807) (hmB : m ≤ 10000000) (hx : vld xs = true) (hy : 2 ≤ y ∧ y ≤ 36) (mb : Nat) (hm : mb < m) (hbad : z mb < 0 ∨ (y : Int) ≤ z mb) (hok : ∀ j, j < mb → 0 ≤ z j ∧ z j < (y : Int)) :
    Calls Try.prog 6 #[.slice A n c, .int .i64 (y : Int), .slice D m d] w fun e w' => e = .returned (.bool true) ∧ Below w.heap.size w w' := by
  have hcap := h.cap
  have hn : n ≤ 600 := by have := (vld_top hx).2; have := h.len.out; omega
  have hyI : 2 ≤ (y : Int) ∧ (y : Int) ≤ 36 := by omega
  obtain ⟨p, hp⟩ : ∃ p, p = vb 4294967296 xs := ⟨_, rfl⟩
  have HP := Lib.hid hp
  obtain ⟨M, hMM⟩ : ∃ M, M = 1200 := ⟨_, rfl⟩
  have hpM : p < 65536 ^ M := by rw [hp, ← big65 hMM]; exact vld_lt h.lim hx
  have hM0 : M ≤ 1200 := by omega
  clear hMM hp
  have H0 := h
  have K0 := k
  have E0 : Below w.heap.size w w := Below.refl _ _
  clear h k
  go_enter Try.func6, Try.ntmps6
  go_wp2_with fail
  refine (digits_ok w _ A n c y xs H0 (Nat.le_refl _) hx hy).mono ?_
  rintro e w1 ⟨A1, j1, c1, l1, rfl, hL, hLr, hb1⟩
  rw [← HP.out] at hLr
  have HLr := Lib.hid hLr
  clear hLr
  have hz1 : w.heap.size ≤ w1.heap.size := hb1.size
  have H1 := H0.below hb1 E0.size
  have K1 := K0.below hb1 E0.size
  have E1 := E0.trans (hb1.mono E0.size)
  clear H0 K0 E0
  have L1 := hL
  have SL1 : w1.heap.size ≤ w1.heap.size := Nat.le_refl _
  have hcl := hL.cap
  clear hL
  have H2 := H1.alloc E1.size (.cells #[.int .i64 (0), .int .i64 (0)] 24)
  have K2 := K1.allocK E1.size (.cells #[.int .i64 (0), .int .i64 (0)] 24)
  have E2 := E1.alloc E1.size (.cells #[.int .i64 (0), .int .i64 (0)] 24)
  have P1_2 := FC.new (w1) (0) (0)
  have L2 := L1.alloc SL1 (.cells #[.int .i64 (0), .int .i64 (0)] 24)
  have SL2 : w1.heap.size ≤ ((w1).alloc (.cells #[.int .i64 (0), .int .i64 (0)] 24)).heap.size := Nat.le_trans SL1 (by simp)
  clear H1 K1 E1 L1 SL1
  go_wp2_with fail
  refine (from_baddigit _ w.heap.size D m d mb (y : Int) z K2 hmd E2.size hyI hm hbad hok).mono ?_
  rintro e w2 ⟨rfl, hb2⟩
  have hz2 : w1.heap.size < w2.heap.size := next_lt hb2
  have H3 := H2.below hb2 E2.size
  have K3 := K2.below hb2 E2.size
  have E3 := E2.trans (hb2.mono E2.size)
  have P1_3 := P1_2.below hb2 P1_2.lt
  have L3 := L2.below hb2 SL2
  have SL3 := Nat.le_trans SL2 hb2.size
  clear H2 K2 E2 P1_2 L2 SL2
  have H4 := H3.alloc E3.size (.cells #[.int .i64 (4), .int .i64 ((mb : Int))] 24)
  have K4 := K3.allocK E3.size (.cells #[.int .i64 (4), .int .i64 ((mb : Int))] 24)
  have E4 := E3.alloc E3.size (.cells #[.int .i64 (4), .int .i64 ((mb : Int))] 24)
  have P1_4 := P1_3.alloc (.cells #[.int .i64 (4), .int .i64 ((mb : Int))] 24)
  have P2_4 := FC.new (w2) (4) ((mb : Int))
  have L4 := L3.alloc SL3 (.cells #[.int .i64 (4), .int .i64 ((mb : Int))] 24)
  have SL4 : w1.heap.size ≤ ((w2).alloc (.cells #[.int .i64 (4), .int .i64 ((mb : Int))] 24)).heap.size := Nat.le_trans SL3 (by simp)
  clear H3 K3 E3 P1_3 L3 SL3
  go_wp2_with fail
  refine (sums_any _).mono ?_
  rintro e w3 ⟨rfl, hb3⟩
  have hz3 : w2.heap.size < w3.heap.size := next_lt hb3
  have H5 := H4.below hb3 E4.size
  have K5 := K4.below hb3 E4.size
  have E5 := E4.trans (hb3.mono E4.size)
  have P1_5 := P1_4.below hb3 P1_4.lt
  have P2_5 := P2_4.below hb3 P2_4.lt
  have L5 := L4.below hb3 SL4
  have SL5 := Nat.le_trans SL4 hb3.size
  clear H4 K4 E4 P1_4 P2_4 L4 SL4
  have H6 := H5.alloc E5.size (.cells #[.int .i64 (0), .int .i64 (0)] 24)
  have K6 := K5.allocK E5.size (.cells #[.int .i64 (0), .int .i64 (0)] 24)
  have E6 := E5.alloc E5.size (.cells #[.int .i64 (0), .int .i64 (0)] 24)
  have P1_6 := P1_5.alloc (.cells #[.int .i64 (0), .int .i64 (0)] 24)
  have P2_6 := P2_5.alloc (.cells #[.int .i64 (0), .int .i64 (0)] 24)
  have P3_6 := FC.new (w3) (0) (0)
  have L6 := L5.alloc SL5 (.cells #[.int .i64 (0), .int .i64 (0)] 24)
  have SL6 : w1.heap.size ≤ ((w3).alloc (.cells #[.int .i64 (0), .int .i64 (0)] 24)).heap.size := Nat.le_trans SL5 (by simp)
  clear H5 K5 E5 P1_5 P2_5 L5 SL5
  have H7 := H6.alloc E6.size (.cells #[.int .i64 (0), .int .i64 (0)] 24)
  have K7 := K6.allocK E6.size (.cells #[.int .i64 (0), .int .i64 (0)] 24)
  have E7 := E6.alloc E6.size (.cells #[.int .i64 (0), .int .i64 (0)] 24)
  have P1_7 := P1_6.alloc (.cells #[.int .i64 (0), .int .i64 (0)] 24)
  have P2_7 := P2_6.alloc (.cells #[.int .i64 (0), .int .i64 (0)] 24)
  have P3_7 := P3_6.alloc (.cells #[.int .i64 (0), .int .i64 (0)] 24)
  have P4_7 := FC.new ((w3).alloc (.cells #[.int .i64 (0), .int .i64 (0)] 24)) (0) (0)
  have L7 := L6.alloc SL6 (.cells #[.int .i64 (0), .int .i64 (0)] 24)
  have SL7 : w1.heap.size ≤ (((w3).alloc (.cells #[.int .i64 (0), .int .i64 (0)] 24)).alloc (.cells #[.int .i64 (0), .int .i64 (0)] 24)).heap.size := Nat.le_trans SL6 (by simp)
  clear H6 K6 E6 P1_6 P2_6 P3_6 L6 SL6
  have sz4 : ((w3).alloc (.cells #[.int .i64 (0), .int .i64 (0)] 24)).heap.size = w3.heap.size + 1 := by simp
  rw [sz4] at P4_7
  go_wp2_with fail
  refine (nok_t _ _ A n c xs H7 hx).mono ?_
  rintro e w' ⟨rfl, rfl⟩
  obtain ⟨q10, q11, q12⟩ := id P1_7
  obtain ⟨q20, q21, q22⟩ := id P2_7
  obtain ⟨q30, q31, q32⟩ := id P3_7
  obtain ⟨q40, q41, q42⟩ := id P4_7
  go_wp2_with fail
  obtain ⟨Wv, hWv⟩ : ∃ Wv : World, Wv = ((w3).alloc (.cells #[.int .i64 (0), .int .i64 (0)] 24)).alloc (.cells #[.int .i64 (0), .int .i64 (0)] 24) := ⟨_, rfl⟩
  rw [← hWv]
  rw [← hWv] at H7
  rw [← hWv] at K7
  rw [← hWv] at E7
  rw [← hWv] at P1_7
  rw [← hWv] at P2_7
  rw [← hWv] at P3_7
  rw [← hWv] at P4_7
  rw [← hWv] at L7
  rw [← hWv] at SL7
  rw [← hWv] at q10 q11 q12
  rw [← hWv] at q20 q21 q22
  rw [← hWv] at q30 q31 q32
  rw [← hWv] at q40 q41 q42
  have hWz : w3.heap.size < Wv.heap.size := P3_7.lt
  clear hWv
  go_loopw [13] (LwRel Wv mb w3.heap.size) (fun i _ => m + 1 - (intOf i).toNat)
  case atStart => exact .inl ⟨0, by omega, rfl, rfl⟩
  case round =>
    rcases hrel with ⟨j, hj, rfl, rfl⟩ | ⟨rfl, w5, hb5, rfl⟩
    · obtain ⟨b, off, rfl, hbb, hcell⟩ := K7 (by omega)
      have r1 := hcell j (by omega)
      clear hcell
      by_cases h1 : j < mb
      · obtain ⟨r2, r3⟩ := hok j h1
        go_wp2_with fail
        go_roundw
        case rel => exact .inl ⟨j + 1, by omega, by go_num, rfl⟩
        case measure => first | (simp [intOf]; done) | (simp [intOf]; omega)
      · obtain rfl : j = mb := by omega
        rcases (show z j < 0 ∨ (0 ≤ z j ∧ (y : Int) ≤ z j) by omega) with z0 | z0
        all_goals
          go_wp2_with fail
          refine (at_any _ _ _).mono ?_
          rintro e w5 ⟨rfl, hb5⟩
          obtain ⟨v0, v1, _, v2⟩ := P3_7.below hb5 P3_7.lt
          have v3 := v2 0
          have v4 := v2 1
          go_wp2_with fail
          go_roundw
          case rel => exact .inr ⟨by go_num, w5, hb5, rfl⟩
          case measure => first | (simp [intOf]; done) | (simp [intOf]; omega)
    · have hz5 := hb5.size
      clear q10 q11 q12
      clear q20 q21 q22
      clear q30 q31 q32
      clear q40 q41 q42
      have H8 := H7.below hb5 E7.size
      have K8 := K7.below hb5 E7.size
      have E8 := E7.trans (hb5.mono E7.size)
      have P1_8 := P1_7.below hb5 P1_7.lt
      have P2_8 := P2_7.below hb5 P2_7.lt
      have P3_8 := P3_7.below hb5 P3_7.lt
      have P4_8 := P4_7.below hb5 P4_7.lt
      have L8 := L7.below hb5 SL7
      have SL8 := Nat.le_trans SL7 hb5.size
      clear H7 K7 E7 P1_7 P2_7 P3_7 P4_7 L7 SL7
      have H9 : LRd (((w5).setCell ⟨w3.heap.size, 0, none⟩ (.int .i64 4)).setCell ⟨w3.heap.size, 1, none⟩ (.int .i64 (mb : Int))) w.heap.size A n c xs := H8.keep (st_keep (by omega))
      have K9 : Rd (((w5).setCell ⟨w3.heap.size, 0, none⟩ (.int .i64 4)).setCell ⟨w3.heap.size, 1, none⟩ (.int .i64 (mb : Int))) w.heap.size D m (fun j => .int .i64 (z j)) := K8.keep (st_keep (by omega))
      have E9 : Below w.heap.size w (((w5).setCell ⟨w3.heap.size, 0, none⟩ (.int .i64 4)).setCell ⟨w3.heap.size, 1, none⟩ (.int .i64 (mb : Int))) := (E8.setCell (by show _ ≤ w3.heap.size; omega) _).setCell (by show _ ≤ w3.heap.size; omega) _
      have P1_9 := (P1_8.set (g' := w3.heap.size) (by omega) 0 (.int .i64 4)).set (g' := w3.heap.size) (by omega) 1 (.int .i64 (mb : Int))
      have P2_9 := (P2_8.set (g' := w3.heap.size) (by omega) 0 (.int .i64 4)).set (g' := w3.heap.size) (by omega) 1 (.int .i64 (mb : Int))
      have P3_9 := P3_8.store 4 (mb : Int)
      have P4_9 := (P4_8.set (g' := w3.heap.size) (by omega) 0 (.int .i64 4)).set (g' := w3.heap.size) (by omega) 1 (.int .i64 (mb : Int))
      have L9 : DRd (((w5).setCell ⟨w3.heap.size, 0, none⟩ (.int .i64 4)).setCell ⟨w3.heap.size, 1, none⟩ (.int .i64 (mb : Int))) w1.heap.size A1 j1 c1 l1 := L8.keep (st_keep (by omega))
      have SL9 : w1.heap.size ≤ (((w5).setCell ⟨w3.heap.size, 0, none⟩ (.int .i64 4)).setCell ⟨w3.heap.size, 1, none⟩ (.int .i64 (mb : Int))).heap.size := by simpa using SL8
      clear H8 K8 E8 P1_8 P2_8 P3_8 P4_8 L8 SL8
      obtain ⟨q10, q11, q12⟩ := id P1_9
      obtain ⟨q20, q21, q22⟩ := id P2_9
      obtain ⟨q30, q31, q32⟩ := id P3_9
      obtain ⟨q40, q41, q42⟩ := id P4_9
      rcases (show mb + 1 < m ∨ ¬ (mb + 1 < m) from by omega) with hmm | hmm
      all_goals
        go_wp2_with fail
        refine (of_any _ _ A n c xs H9 E9.size (by omega)).mono ?_
        rintro e wa ⟨B1, b1, o1, ns, rfl, hN1, hNr1, hba⟩
        rw [← HP.out] at hNr1
        have H10 := H9.below hba E9.size
        have K10 := K9.below hba E9.size
        have E10 := E9.trans (hba.mono E9.size)
        have P1_10 := P1_9.below hba P1_9.lt
        have P2_10 := P2_9.below hba P2_9.lt
        have P3_10 := P3_9.below hba P3_9.lt
        have P4_10 := P4_9.below hba P4_9.lt
        have L10 := L9.below hba SL9
        have SL10 := Nat.le_trans SL9 hba.size
        clear H9 K9 E9 P1_9 P2_9 P3_9 P4_9 L9 SL9
        have hb1M := rep_lenD (M := M) hNr1 hN1.len.out hpM
        go_wp2_with fail
        refine (figures_any _ _ B1 b1 o1 y p M ns hN1 (Nat.le_refl _) hb1M (by omega) hNr1 hy).mono ?_
        rintro e wb ⟨B2, b2, o2, fs, rfl, hF, hFr, hbb⟩
        have H11 := H10.below hbb E10.size
        have K11 := K10.below hbb E10.size
        have E11 := E10.trans (hbb.mono E10.size)
        have P1_11 := P1_10.below hbb P1_10.lt
        have P2_11 := P2_10.below hbb P2_10.lt
        have P3_11 := P3_10.below hbb P3_10.lt
        have P4_11 := P4_10.below hbb P4_10.lt
        have L11 := L10.below hbb SL10
        have SL11 := Nat.le_trans SL10 hbb.size
        clear H10 K10 E10 P1_10 P2_10 P3_10 P4_10 L10 SL10
        obtain rfl := nrev (by omega) HLr.out hFr
        go_wp2_with fail
        refine (numbers_any _ _ A1 B2 j1 b2 c1 o2 l1 l1 (L11.more SL11) hF).mono ?_
        rintro e wc ⟨rfl, kk, hkk⟩
        have hbc : Below wb.heap.size wb wc := by rw [hkk]; exact below_drewN (Below.refl _ _) kk
        have hsb := sameB_refl l1
        have H12 := H11.below hbc E11.size
        have K12 := K11.below hbc E11.size
        have E12 := E11.trans (hbc.mono E11.size)
        have P1_12 := P1_11.below hbc P1_11.lt
        have P2_12 := P2_11.below hbc P2_11.lt
        have P3_12 := P3_11.below hbc P3_11.lt
        have P4_12 := P4_11.below hbc P4_11.lt
        have L12 := L11.below hbc SL11
        have SL12 := Nat.le_trans SL11 hbc.size
        clear H11 K11 E11 P1_11 P2_11 P3_11 P4_11 L11 SL11
        clear hkk
        clear q10 q11 q12
        clear q20 q21 q22
        clear q30 q31 q32
        clear q40 q41 q42
        obtain ⟨q10, q11, q12⟩ := id P1_12
        obtain ⟨q20, q21, q22⟩ := id P2_12
        obtain ⟨q30, q31, q32⟩ := id P3_12
        obtain ⟨q40, q41, q42⟩ := id P4_12
        go_wp2_with fail
        refine (is_err _ none none 0 0 0 (4) ((mb : Int)) (by decide)).mono ?_
        rintro e wz ⟨rfl, hbz⟩
        go_wp2_with fail
        go_ret
        exact ⟨by first | rfl | (simp; done), E12.trans (hbz.mono E12.size)⟩
end Go.Proofs.Ytjkogajdpkbjeaa

namespace Go.Proofs.Ytjkogajdpkbjeaa
open Go.RowKit
set_option maxHeartbeats 400000
set_option maxRecDepth 100000
set_option linter.unusedSimpArgs false
set_option linter.unusedVariables false

set_option maxHeartbeats 8000000 in
theorem dg_v_ok (w : World) (A D : Option Addr) (n c m d : Nat) (y : Nat) (z : Nat → Int) (xs : List Nat) (h : LRd w w.heap.size A n c xs) (k : Rd w w.heap.size D m (fun j => .int .i64 (z j))) (hmd : m ≤ d ∧ d ≤ 9223372036854775807) (hmB : m ≤ 10000000) (hx : vld xs = true) (hy : 2 ≤ y ∧ y ≤ 36) (hok : ∀ j, j < m → 0 ≤ z j ∧ z j < (y : Int)) :
    Calls Try.prog 6 #[.slice A n c, .int .i64 (y : Int), .slice D m d] w fun e w' => e = .returned (.bool true) ∧ Below w.heap.size w w' := by
  have hcap := h.cap
  have hn : n ≤ 600 := by have := (vld_top hx).2; have := h.len.out; omega
  have hyI : 2 ≤ (y : Int) ∧ (y : Int) ≤ 36 := by omega
  obtain ⟨ds, hdd, hDof⟩ := zrd_drd k hmd hok hy.2
  have HDof := Lib.hid hDof
  clear hDof
  obtain ⟨p, hp⟩ : ∃ p, p = vb 4294967296 xs := ⟨_, rfl⟩
  have HP := Lib.hid hp
  obtain ⟨M, hMM⟩ : ∃ M, M = 1200 := ⟨_, rfl⟩
  have hpM : p < 65536 ^ M := by rw [hp, ← big65 hMM]; exact vld_lt h.lim hx
  have hM0 : M ≤ 1200 := by omega
  clear hMM hp
  have H0 := h
  have K0 := k
  have E0 : Below w.heap.size w w := Below.refl _ _
  clear h k
  go_enter Try.func6, Try.ntmps6
  go_wp2_with fail
  refine (digits_ok w _ A n c y xs H0 (Nat.le_refl _) hx hy).mono ?_
  rintro e w1 ⟨A1, j1, c1, l1, rfl, hL, hLr, hb1⟩
  rw [← HP.out] at hLr
  have HLr := Lib.hid hLr
  clear hLr
  have hz1 : w.heap.size ≤ w1.heap.size := hb1.size
  have H1 := H0.below hb1 E0.size
  have K1 := K0.below hb1 E0.size
  have E1 := E0.trans (hb1.mono E0.size)
  clear H0 K0 E0
  have L1 := hL
  have SL1 : w1.heap.size ≤ w1.heap.size := Nat.le_refl _
  have hcl := hL.cap
  clear hL
  have H2 := H1.alloc E1.size (.cells #[.int .i64 (0), .int .i64 (0)] 24)
  have K2 := K1.allocK E1.size (.cells #[.int .i64 (0), .int .i64 (0)] 24)
  have E2 := E1.alloc E1.size (.cells #[.int .i64 (0), .int .i64 (0)] 24)
  have P1_2 := FC.new (w1) (0) (0)
  have L2 := L1.alloc SL1 (.cells #[.int .i64 (0), .int .i64 (0)] 24)
  have SL2 : w1.heap.size ≤ ((w1).alloc (.cells #[.int .i64 (0), .int .i64 (0)] 24)).heap.size := Nat.le_trans SL1 (by simp)
  clear H1 K1 E1 L1 SL1
  go_wp2_with fail
  refine (from_ok _ _ D m d y ds (HDof.out _ K2) E2.size hdd hy).mono ?_
  intro e w2 hgb
  obtain ⟨v0, u1, u2, hu, A2, j2, c2, z2, rfl, hX, hXr, hb2⟩ := from_u hgb
  have HXr := Lib.hid hXr
  have HU := Lib.hid hu
  clear hgb hXr hu
  have hz2 : w1.heap.size < w2.heap.size := next_lt hb2
  have H3 := H2.below hb2 E2.size
  have K3 := K2.below hb2 E2.size
  have E3 := E2.trans (hb2.mono E2.size)
  have P1_3 := P1_2.below hb2 P1_2.lt
  have L3 := L2.below hb2 SL2
  have SL3 := Nat.le_trans SL2 hb2.size
  clear H2 K2 E2 P1_2 L2 SL2
  have X3 := hX
  have SX3 : w2.heap.size ≤ w2.heap.size := Nat.le_refl _
  have hcx := hX.cap
  clear hX
  have H4 := H3.alloc E3.size (.cells #[.int .i64 (u1), .int .i64 (u2)] 24)
  have K4 := K3.allocK E3.size (.cells #[.int .i64 (u1), .int .i64 (u2)] 24)
  have E4 := E3.alloc E3.size (.cells #[.int .i64 (u1), .int .i64 (u2)] 24)
  have P1_4 := P1_3.alloc (.cells #[.int .i64 (u1), .int .i64 (u2)] 24)
  have P2_4 := FC.new (w2) (u1) (u2)
  have L4 := L3.alloc SL3 (.cells #[.int .i64 (u1), .int .i64 (u2)] 24)
  have SL4 : w1.heap.size ≤ ((w2).alloc (.cells #[.int .i64 (u1), .int .i64 (u2)] 24)).heap.size := Nat.le_trans SL3 (by simp)
  have X4 := X3.alloc SX3 (.cells #[.int .i64 (u1), .int .i64 (u2)] 24)
  have SX4 : w2.heap.size ≤ ((w2).alloc (.cells #[.int .i64 (u1), .int .i64 (u2)] 24)).heap.size := Nat.le_trans SX3 (by simp)
  clear H3 K3 E3 P1_3 L3 SL3 X3 SX3
  go_wp2_with fail
  refine (sums_any _).mono ?_
  rintro e w3 ⟨rfl, hb3⟩
  have hz3 : w2.heap.size < w3.heap.size := next_lt hb3
  have H5 := H4.below hb3 E4.size
  have K5 := K4.below hb3 E4.size
  have E5 := E4.trans (hb3.mono E4.size)
  have P1_5 := P1_4.below hb3 P1_4.lt
  have P2_5 := P2_4.below hb3 P2_4.lt
  have L5 := L4.below hb3 SL4
  have SL5 := Nat.le_trans SL4 hb3.size
  have X5 := X4.below hb3 SX4
  have SX5 := Nat.le_trans SX4 hb3.size
  clear H4 K4 E4 P1_4 P2_4 L4 SL4 X4 SX4
  have H6 := H5.alloc E5.size (.cells #[.int .i64 (0), .int .i64 (0)] 24)
  have K6 := K5.allocK E5.size (.cells #[.int .i64 (0), .int .i64 (0)] 24)
  have E6 := E5.alloc E5.size (.cells #[.int .i64 (0), .int .i64 (0)] 24)
  have P1_6 := P1_5.alloc (.cells #[.int .i64 (0), .int .i64 (0)] 24)
  have P2_6 := P2_5.alloc (.cells #[.int .i64 (0), .int .i64 (0)] 24)
  have P3_6 := FC.new (w3) (0) (0)
  have L6 := L5.alloc SL5 (.cells #[.int .i64 (0), .int .i64 (0)] 24)
  have SL6 : w1.heap.size ≤ ((w3).alloc (.cells #[.int .i64 (0), .int .i64 (0)] 24)).heap.size := Nat.le_trans SL5 (by simp)
  have X6 := X5.alloc SX5 (.cells #[.int .i64 (0), .int .i64 (0)] 24)
  have SX6 : w2.heap.size ≤ ((w3).alloc (.cells #[.int .i64 (0), .int .i64 (0)] 24)).heap.size := Nat.le_trans SX5 (by simp)
  clear H5 K5 E5 P1_5 P2_5 L5 SL5 X5 SX5
  have H7 := H6.alloc E6.size (.cells #[.int .i64 (0), .int .i64 (0)] 24)
  have K7 := K6.allocK E6.size (.cells #[.int .i64 (0), .int .i64 (0)] 24)
  have E7 := E6.alloc E6.size (.cells #[.int .i64 (0), .int .i64 (0)] 24)
  have P1_7 := P1_6.alloc (.cells #[.int .i64 (0), .int .i64 (0)] 24)
  have P2_7 := P2_6.alloc (.cells #[.int .i64 (0), .int .i64 (0)] 24)
  have P3_7 := P3_6.alloc (.cells #[.int .i64 (0), .int .i64 (0)] 24)
  have P4_7 := FC.new ((w3).alloc (.cells #[.int .i64 (0), .int .i64 (0)] 24)) (0) (0)
  have L7 := L6.alloc SL6 (.cells #[.int .i64 (0), .int .i64 (0)] 24)
  have SL7 : w1.heap.size ≤ (((w3).alloc (.cells #[.int .i64 (0), .int .i64 (0)] 24)).alloc (.cells #[.int .i64 (0), .int .i64 (0)] 24)).heap.size := Nat.le_trans SL6 (by simp)
  have X7 := X6.alloc SX6 (.cells #[.int .i64 (0), .int .i64 (0)] 24)
  have SX7 : w2.heap.size ≤ (((w3).alloc (.cells #[.int .i64 (0), .int .i64 (0)] 24)).alloc (.cells #[.int .i64 (0), .int .i64 (0)] 24)).heap.size := Nat.le_trans SX6 (by simp)
  clear H6 K6 E6 P1_6 P2_6 P3_6 L6 SL6 X6 SX6
  have sz4 : ((w3).alloc (.cells #[.int .i64 (0), .int .i64 (0)] 24)).heap.size = w3.heap.size + 1 := by simp
  rw [sz4] at P4_7
  go_wp2_with fail
  refine (nok_t _ _ A n c xs H7 hx).mono ?_
  rintro e w' ⟨rfl, rfl⟩
  obtain ⟨q10, q11, q12⟩ := id P1_7
  obtain ⟨q20, q21, q22⟩ := id P2_7
  obtain ⟨q30, q31, q32⟩ := id P3_7
  obtain ⟨q40, q41, q42⟩ := id P4_7
  go_wp2_with fail
  go_loop [13] (FvRel m) (fun i => m - (intOf i).toNat)
  case atStart => exact ⟨0, by omega, rfl⟩
  case round =>
    obtain ⟨j, hj, rfl⟩ := hrel
    by_cases h1 : j < m
    · obtain ⟨b, off, rfl, hbb, hcell⟩ := K7 (by omega)
      have r1 := hcell j h1
      obtain ⟨r2, r3⟩ := hok j h1
      clear hcell
      go_wp2_with fail
      go_round
      case rel => exact ⟨j + 1, by omega, by go_num⟩
      case measure => first | (simp [intOf]; done) | (simp [intOf]; omega)
    · obtain rfl : j = m := by omega
      go_wp2_with fail
      refine (of_any _ _ A n c xs H7 E7.size (by omega)).mono ?_
      rintro e wa ⟨B1, b1, o1, ns, rfl, hN1, hNr1, hba⟩
      rw [← HP.out] at hNr1
      have H8 := H7.below hba E7.size
      have K8 := K7.below hba E7.size
      have E8 := E7.trans (hba.mono E7.size)
      have P1_8 := P1_7.below hba P1_7.lt
      have P2_8 := P2_7.below hba P2_7.lt
      have P3_8 := P3_7.below hba P3_7.lt
      have P4_8 := P4_7.below hba P4_7.lt
      have L8 := L7.below hba SL7
      have SL8 := Nat.le_trans SL7 hba.size
      have X8 := X7.below hba SX7
      have SX8 := Nat.le_trans SX7 hba.size
      clear H7 K7 E7 P1_7 P2_7 P3_7 P4_7 L7 SL7 X7 SX7
      have hb1M := rep_lenD (M := M) hNr1 hN1.len.out hpM
      go_wp2_with fail
      refine (figures_any _ _ B1 b1 o1 y p M ns hN1 (Nat.le_refl _) hb1M (by omega) hNr1 hy).mono ?_
      rintro e wb ⟨B2, b2, o2, fs, rfl, hF, hFr, hbb⟩
      have H9 := H8.below hbb E8.size
      have K9 := K8.below hbb E8.size
      have E9 := E8.trans (hbb.mono E8.size)
      have P1_9 := P1_8.below hbb P1_8.lt
      have P2_9 := P2_8.below hbb P2_8.lt
      have P3_9 := P3_8.below hbb P3_8.lt
      have P4_9 := P4_8.below hbb P4_8.lt
      have L9 := L8.below hbb SL8
      have SL9 := Nat.le_trans SL8 hbb.size
      have X9 := X8.below hbb SX8
      have SX9 := Nat.le_trans SX8 hbb.size
      clear H8 K8 E8 P1_8 P2_8 P3_8 P4_8 L8 SL8 X8 SX8
      obtain rfl := nrev (by omega) HLr.out hFr
      go_wp2_with fail
      refine (numbers_any _ _ A1 B2 j1 b2 c1 o2 l1 l1 (L9.more SL9) hF).mono ?_
      rintro e wc ⟨rfl, kk, hkk⟩
      have hbc : Below wb.heap.size wb wc := by rw [hkk]; exact below_drewN (Below.refl _ _) kk
      have hsb := sameB_refl l1
      have H10 := H9.below hbc E9.size
      have K10 := K9.below hbc E9.size
      have E10 := E9.trans (hbc.mono E9.size)
      have P1_10 := P1_9.below hbc P1_9.lt
      have P2_10 := P2_9.below hbc P2_9.lt
      have P3_10 := P3_9.below hbc P3_9.lt
      have P4_10 := P4_9.below hbc P4_9.lt
      have L10 := L9.below hbc SL9
      have SL10 := Nat.le_trans SL9 hbc.size
      have X10 := X9.below hbc SX9
      have SX10 := Nat.le_trans SX9 hbc.size
      clear H9 K9 E9 P1_9 P2_9 P3_9 P4_9 L9 SL9 X9 SX9
      clear hkk
      clear q10 q11 q12
      clear q20 q21 q22
      clear q30 q31 q32
      clear q40 q41 q42
      obtain ⟨q10, q11, q12⟩ := id P1_10
      obtain ⟨q20, q21, q22⟩ := id P2_10
      obtain ⟨q30, q31, q32⟩ := id P3_10
      obtain ⟨q40, q41, q42⟩ := id P4_10
      go_wp2_with fail
      obtain ⟨Wq, hWq⟩ : ∃ Wq : World, Wq = wc := ⟨_, rfl⟩
      have G0 : Below Wq.heap.size Wq Wq.drew := Below.drew (Below.refl _ _)
      rw [← hWq] at K10
      rw [← hWq] at E10
      rw [← hWq] at P2_10
      rw [← hWq] at P3_10
      rw [← hWq] at X10
      rw [← hWq] at SX10
      rw [← hWq] at q10 q11 q12
      rw [← hWq] at q20 q21 q22
      rw [← hWq] at q30 q31 q32
      rw [← hWq] at q40 q41 q42
      have HR := Lib.hid (HDof.out _ K10)
      go_upto_region 22 with fail
      rw [← hWq]
      clear hWq
      have TT := fun (v : World) (hv : Below Wq.heap.size Wq v) => read_any v w.heap.size _ _ d y ds (HR.out.below hv E10.size) (le_at2 E10.size hv) (by omega) hdd hy
      have UU := fun (v v2 : World) (hv : Below Wq.heap.size Wq v) (Ar : Option Addr) (kr cr pr : Nat) (rs : List Nat) (hR : DRd v v.heap.size Ar kr cr rs) (hRr : Rep 65536 rs (vb y ds.reverse)) => is_u v _ A2 Ar j2 kr c2 cr _ v0 u1 u2 z2 rs (l_at X10 hv SX10) hR (Nat.le_refl _) HXr.out hRr HU.out
      go_region_held3 (fun v => Below Wq.heap.size Wq v ∧ v.cell? ⟨w2.heap.size, 0, none⟩ = some (.int .i64 u1) ∧ v.cell? ⟨w2.heap.size, 1, none⟩ = some (.int .i64 u2) ∧ v.cell? ⟨w3.heap.size, 0, none⟩ = some (.int .i64 0) ∧ v.cell? ⟨w3.heap.size, 1, none⟩ = some (.int .i64 0))
        (first | exact m2_at P2_10 P3_10 G0 | (go_split_ands; exact m2_next P2_10 P3_10 (by assumption) hb22) | (refine m2_next P2_10 P3_10 (by assumption) hb22))
        (first
          | (go_at_call 38; try go_split_ands; refine (TT _ (by assumption)).mono ?_; rintro e wr ⟨Ar, kr, cr, rs, rfl, hR, hRr, hb22⟩)
          | (go_at_call 19; try go_split_ands; refine (UU _ wr (by assumption) Ar kr cr 0 rs hR hRr).mono ?_; rintro e wi ⟨rfl, hb22⟩))
      all_goals (go_wp2_with fail)
      all_goals (try go_split_ands)
      all_goals go_ret
      all_goals (exact ⟨by first | rfl | (simp; done), E10.trans (Below.mono (by assumption) E10.size)⟩)
end Go.Proofs.Ytjkogajdpkbjeaa

namespace Go.Proofs.Ytjkogajdpkbjeaa
open Go.RowKit
set_option maxHeartbeats 400000
set_option maxRecDepth 100000
set_option linter.unusedSimpArgs false
set_option linter.unusedVariables false

theorem first_bad (z : Nat → Int) (y : Int) : ∀ m : Nat, (∀ j, j < m → 0 ≤ z j ∧ z j < y) ∨ ∃ mb, mb < m ∧ (z mb < 0 ∨ y ≤ z mb) ∧ ∀ j, j < mb → 0 ≤ z j ∧ z j < y
  | 0 => .inl fun j hj => absurd hj (by omega)
  | m + 1 => by
    rcases first_bad z y m with h | ⟨mb, h1, h2, h3⟩
    · by_cases hz : 0 ≤ z m ∧ z m < y
      · left
        intro j hj
        rcases Nat.lt_or_ge j m with e | e
        · exact h j e
        · rw [show j = m by omega]; exact hz
      · exact .inr ⟨m, by omega, by omega, h⟩
    · exact .inr ⟨mb, by omega, h2, h3⟩
theorem ndigits_any (w : World) (A D : Option Addr) (n c m d : Nat) (y : Int) (z : Nat → Int) (xs : List Nat) (h : LRd w w.heap.size A n c xs) (k : Rd w w.heap.size D m (fun j => .int .i64 (z j))) (hmd : m ≤ d ∧ d ≤ 9223372036854775807) (hmB : m ≤ 10000000) :
    Calls Try.prog 6 #[.slice A n c, .int .i64 y, .slice D m d] w fun e w' => e = .returned (.bool true) ∧ Below w.heap.size w w' := by
  by_cases hy : 2 ≤ y ∧ y ≤ 36
  · obtain ⟨y, rfl⟩ := Int.eq_ofNat_of_zero_le (show 0 ≤ y by omega)
    have hy' : 2 ≤ y ∧ y ≤ 36 := by omega
    by_cases hx : vld xs = true
    · rcases first_bad z (y : Int) m with hok | ⟨mb, h1, h2, h3⟩
      · exact dg_v_ok w A D n c m d y z xs h k hmd hmB hx hy' hok
      · exact dg_v_digit w A D n c m d y z xs h k hmd hmB hx hy' mb h1 h2 h3
    · have hx : vld xs = false := by simpa using hx
      rcases first_bad z (y : Int) m with hok | ⟨mb, h1, h2, h3⟩
      · exact dg_i_ok w A D n c m d y z xs h k hmd hmB hx hy' hok
      · exact dg_i_digit w A D n c m d y z xs h k hmd hmB hx hy' mb h1 h2 h3
  · by_cases hx : vld xs = true
    · exact dg_v_base w A D n c m d y z xs h k hmd hmB hx (by omega)
    · exact dg_i_base w A D n c m d y z xs h k hmd hmB (by simpa using hx) (by omega)
end Go.Proofs.Ytjkogajdpkbjeaa

namespace Go.Proofs.Ytjkogajdpkbjeaa.natDig
open Go.ChangeShapes Go.WideShapes Go.ChangeAt Go.RowKit
set_option linter.unusedVariables false

theorem own : ownKnob Try.prog.godebug = none := by kernel_rfl
theorem laidOut : laidOutB Try.prog = true := by kernel_rfl
theorem bulk_one {H : Type} (d : DataW H) : 1 ≤ Rows.uptoBulk d := by
  cases d with
  | lit l => cases l <;> simp [Rows.uptoBulk]
  | nil => simp [Rows.uptoBulk]
  | ptr d => simp [Rows.uptoBulk]
  | slice elems spare => simp [Rows.uptoBulk]
  | agg parts => simp [Rows.uptoBulk]
  | iface t d => simp [Rows.uptoBulk]
  | map entries => simp [Rows.uptoBulk]
  | held h => simp [Rows.uptoBulk]
theorem bulk_len {H : Type} (l : List (DataW H)) : l.length ≤ Rows.uptoBulkAll l := by
  induction l with
  | nil => simp [Rows.uptoBulkAll]
  | cons x r ih => have := bulk_one x; simp only [Rows.uptoBulkAll, List.length_cons]; omega
theorem zrd_open {H : Type} {enc : TypeId × Value → H} {W : World} {A : Option Addr} {len cap : Nat} {fuel : Nat} {x : DataW H × List MemPlace}
    (h : DataW.trod enc Try.prog W 0 (fun _ => true) true fuel 33 (Value.cells (.slice A len cap)).toList = some x) :
    (∃ z : Nat → Int, Rd W W.heap.size A len (fun j => .int .i64 (z j))) ∧ (len ≤ cap ∧ cap ≤ 9223372036854775807) ∧ len ≤ Rows.uptoBulk x.1 := by
  rcases open_ints Try.underlying33 Try.underlying3 (by kernel_rfl) h with ⟨hcs, _⟩ | ⟨a, l, c, zs, hcs, _, hl, hm, hz, hx, hcell, hwz⟩
  · simp [Value.cells] at hcs
    obtain ⟨rfl, rfl, rfl⟩ := hcs
    exact ⟨⟨fun _ => 0, fun hn => absurd hn (by omega)⟩, ⟨Nat.le_refl _, by omega⟩, Nat.zero_le _⟩
  · simp [Value.cells] at hcs
    obtain ⟨rfl, rfl, rfl⟩ := hcs
    rw [if_pos rfl] at hz
    unfold maxLen at hm
    refine ⟨⟨fun j => zs.getD j 0, ?_⟩, ⟨hl, by omega⟩, ?_⟩
    · intro hn
      have h0 := hcell 0 (by omega)
      obtain ⟨b, off, spot⟩ := a
      have hspot : spot = none := by simpa [Addr.add] using World.cell?_spot h0
      subst hspot
      refine ⟨b, off, rfl, ?_, ?_⟩
      · have := cell_block_lt h0
        simpa [Addr.add] using this
      · intro j hj
        have hc := hcell j (by omega)
        have ea : (⟨b, off, none⟩ : Addr).add j = ⟨b, off + j, none⟩ := by
          unfold Addr.add; split <;> simp_all
        rw [ea] at hc
        exact hc
    · rw [hx]
      simp only [Rows.uptoBulk]
      have h1 := bulk_len (lits (H := H) .i64 (zs.take len))
      have h2 : (lits (H := H) .i64 (zs.take len)).length = len := by simp [lits]; omega
      omega

theorem contract (H : Type) (enc : TypeId × Value → H) (W : World) (base : Nat) (args : Array Value) (ds gs : List (DataW H)) (before : List MemPlace)
    (hval : ∀ (j : Nat) t v, Try.f6.params[j]? = some t → args[j]? = some v → Value.okWide Try.prog W .any base t v)
    (hW : DataW.Whole enc Try.prog Try.f6.params.toList Rows.naturalDigitsSpec.vars false W args.toList ds gs before) (hk : Rows.uptoSmall H (ds ++ gs) = true) :
    Calls Try.prog 6 args W fun e W' => ∃ v, e = .returned v ∧ Rows.naturalDigitsSpec.post enc Try.prog Try.f6 false true false false W args v W' := by
  have hW' := hW
  obtain ⟨p, q, hA0, hV, rfl, hfz, hnd⟩ := hW
  have hA : DataW.TrodAll enc Try.prog W 0 (fun _ => true) true Try.f6.params.toList args.toList ds p := hA0
  rw [Try.params6] at hA hval
  obtain ⟨v0, vs0, d0, ds0, p0, q0, hargs, rfl, rfl, h0, r0⟩ := trodAll_cons hA
  obtain ⟨v1, vs1, d1, ds1, p1, q1, rfl, rfl, rfl, h1, r1⟩ := trodAll_cons r0
  obtain ⟨v2, vs2, d2, ds2, p2, q2, rfl, rfl, rfl, h2, r2⟩ := trodAll_cons r1
  obtain ⟨rfl, rfl, rfl⟩ := trodAll_nil r2
  obtain rfl : args = #[v0, v1, v2] := by cases args; simp_all
  obtain ⟨rfl, rfl⟩ := trodVars_none hV
  obtain ⟨a0, len0, cap0, rfl⟩ := okWide_slice Try.underlying22 (hval 0 22 v0 rfl rfl)
  obtain ⟨a2, len2, cap2, rfl⟩ := okWide_slice Try.underlying33 (hval 2 33 v2 rfl rfl)
  obtain ⟨a1, rfl, rfl, rfl, wx1⟩ := open_int Try.underlying3 (hval 1 3 v1 rfl rfl) h1
  have k0 := h0
  have k2 := h2
  have lt0 : ∀ x ∈ p0, x.block < W.heap.size := by obtain ⟨m, hm⟩ := k0; exact DataW.trod_lt m _ _ _ hm
  have lt2 : ∀ x ∈ p2, x.block < W.heap.size := by obtain ⟨m, hm⟩ := k2; exact DataW.trod_lt m _ _ _ hm
  obtain ⟨xs, w0⟩ : ∃ xs, LRd W W.heap.size a0 len0 cap0 xs := by
    obtain ⟨fuel, hf⟩ := h0
    exact lrd_open (fun _ => rfl) hf
  obtain ⟨⟨z, w2⟩, hcap2, hbulk⟩ : (∃ z : Nat → Int, Rd W W.heap.size a2 len2 (fun j => .int .i64 (z j))) ∧ (len2 ≤ cap2 ∧ cap2 ≤ 9223372036854775807) ∧ len2 ≤ Rows.uptoBulk d2 := by
    obtain ⟨fuel, hf⟩ := h2
    exact zrd_open hf
  have hlen : len2 ≤ 10000000 := by
    have hb : Rows.uptoBulkAll ([d0, DataW.lit (.int .i64 a1), d2] ++ []) ≤ 1048576 := of_decide_eq_true hk
    simp only [List.append_nil, Rows.uptoBulkAll] at hb
    omega
  clear hA0 hval
  refine (ndigits_any W a0 a2 len0 cap0 len2 cap2 a1 z xs w0 w2 hcap2 hlen).mono fun e W' ⟨he, bel⟩ => ?_
  subst he
  exact ⟨_, rfl, _, _, _, [], _, [], hW', trodAll_mk1 (shut_bool Try.underlying4 _),
    (trodAll_cons_mk (Below.trod laidOut (by kernel_rfl) (of_decide_eq_true (by kernel_rfl)) k0 bel lt0) (trodAll_cons_mk (shut_int Try.underlying3 wx1) (trodAll_cons_mk (Below.trod laidOut (by kernel_rfl) (of_decide_eq_true (by kernel_rfl)) k2 bel lt2) trodAll_mk0))), rfl, bel.frame _, fun h => by cases h⟩

set_option maxRecDepth 100000 in
theorem lifted (os : Os) (started : os.Started) (H : Type) (enc : TypeId × Value → H) (F : Stop.Interp) :
    ReturnsInHanded {} Try.checked os 6 .any ((Rows.OpenSpec.upto Rows.naturalDigitsSpec).pre6 enc Try.prog Try.f6 Rows.naturalDigitsUptoRow.domain false) (((Rows.OpenSpec.upto Rows.naturalDigitsSpec).at F).post enc Try.prog Try.f6 false true false false) := by
  refine returnsInHanded_of_cond (C := Try.checked) (s := Rows.OpenSpec.upto Rows.naturalDigitsSpec) (k := Rows.uptoSmall) rfl own started (by kernel_rfl) Try.func6
    (OpenSpec.witness (enc := enc) (C := Try.checked) (s := Rows.OpenSpec.upto Rows.naturalDigitsSpec) (k := Rows.uptoSmall) rfl false ⟨#[], #[.slice none 0 0, .int .i64 0, .slice none 0 0], []⟩ 8 (by kernel_rfl) (by kernel_rfl) (by kernel_rfl)
      (x := ([.nil, .lit (.int .i64 0), .nil], [], [])) (by kernel_rfl) rfl (by kernel_rfl)) ?_
  intro W base args ds gs before hval hW _ hk _
  exact contract H enc W base args ds gs before hval hW hk

theorem naturalDigits_upto : Rows.NaturalDigitsUptoSaid :=
  OpenClaim.holds_of_cond 6 Try.f6 rfl rfl rfl rfl rfl rfl rfl ⟨rfl, rfl, rfl, rfl, rfl⟩ rfl rfl rfl rfl rfl (by kernel_rfl) Try.func6 (by kernel_rfl)
    (of_decide_eq_true (by kernel_rfl)) (by unfold Func.isWrapper; first | (rw [if_pos (by decide +kernel)]; kernel_rfl) | (rw [if_neg (by decide +kernel)]; exact ⟨rfl, rfl⟩))
    (fun os started H enc _ F => lifted os started H enc F)
#print axioms naturalDigits_upto
end Go.Proofs.Ytjkogajdpkbjeaa.natDig
