/- Package integer: Cmp. -/
import Derived.Test.YtdhdkknaagadaaaGl
import Derived.Deep.QuietTactic
namespace Go.Proofs.Ytdhdkknaagadaaa
open Go.RowKit
set_option maxHeartbeats 400000
set_option maxRecDepth 100000
set_option linter.unusedSimpArgs false
set_option linter.unusedVariables false

def ICmp (x y r : Int) : Prop := (r = -1 ∧ x < y) ∨ (r = 0 ∧ x = y) ∨ (r = 1 ∧ y < x)
theorem IV.neg_lt {a : IV} (h : a.ok = true) (hl : Lim a.xs) (hn : a.neg = true) : a.val < 0 := by
  have := (IV.irep h hl).sgn
  rw [hn] at this
  exact of_decide_eq_true this.symm
theorem IV.pos_ge {a : IV} (hn : a.neg = false) : 0 ≤ a.val := by
  unfold IV.val sval; rw [hn]; simp
def CmpPostV (x y : Int) (w : World) (e : Ending) (w' : World) : Prop := ∃ r, ICmp x y r ∧ GivesI w r 0 0 e w'
theorem icmp_pp {x y : Int} {p q : Nat} {r : Int} (h : CmpV p q r) (hx : x = (p : Int)) (hy : y = (q : Int)) : ICmp x y r := by unfold CmpV at h; unfold ICmp; omega
theorem icmp_nn {x y : Int} {p q : Nat} {r : Int} (h : CmpV q p r) (hx : x = -(p : Int)) (hy : y = -(q : Int)) : ICmp x y r := by unfold CmpV at h; unfold ICmp; omega
theorem IV.vpos {a : IV} (hn : a.neg = false) : a.val = ((vb 4294967296 a.xs : Nat) : Int) := by unfold IV.val sval; rw [hn]; rfl
theorem IV.vneg {a : IV} (hn : a.neg = true) : a.val = -((vb 4294967296 a.xs : Nat) : Int) := by unfold IV.val sval; rw [hn]; rfl
set_option maxHeartbeats 2000000 in
theorem icmp_np (w : World) (B : Nat) (a b : IV) (HA : a.at w B) (HB : b.at w B) (hB : B ≤ w.heap.size) (oa : a.ok = true) (ob : b.ok = true) (ha : Hid (a.neg = true)) (hb : Hid (b.neg = false)) :
    Calls Try.prog 19 #[a.v, b.v] w (CmpPostV a.val b.val w) := by
  have HA : LRd w B a.A a.n a.c a.xs := HA
  have HB : LRd w B b.A b.n b.c b.xs := HB
  have E : Below w.heap.size w w := Below.refl _ _
  have IR := Lib.hid (irow2 (((w.alloc a.cells).alloc b.cells).alloc (.cells #[.int .i64 0, .int .i64 0] 29)) B a b (((HA.alloc (by omega) _).alloc (by simp; omega) _).alloc (by simp; omega) _) (((HB.alloc (by omega) _).alloc (by simp; omega) _).alloc (by simp; omega) _) (by simp; omega))
  go_enter Try.func19, Try.ntmps19
  go_wp2_with fail
  obtain ⟨V0, hV0⟩ : ∃ V0 : World, V0 = ((((w.alloc (.cells #[.bool a.neg, .slice a.A a.n a.c] 24)).alloc (.cells #[.bool b.neg, .slice b.A b.n b.c] 24)).alloc (.cells #[.int .i64 0, .int .i64 0] 29)).alloc (.cells #[.bool a.neg, .slice a.A a.n a.c, .bool b.neg, .slice b.A b.n b.c] 24)) := ⟨_, rfl⟩
  have bV0 : Below w.heap.size w V0 := by rw [hV0]; (repeat (first | with_reducible exact Below.refl _ _ | with_reducible refine Below.drew ?_ | with_reducible refine below_drewN ?_ _ | with_reducible refine Below.setCell ?_ (by first | (simp; done) | (simp; omega) | omega) _ | with_reducible refine Below.alloc ?_ (by first | (simp; done) | (simp; omega) | omega) _))
  have zV0 : w.heap.size + 4 ≤ V0.heap.size := by rw [hV0]; simp
  have PA : Bk2 V0 (w.heap.size) (.bool a.neg) (.slice a.A a.n a.c) := by rw [hV0]; exact ((((Bk2.newAt _ _ (by simp) _ _ _).alloc _).alloc _).alloc _)
  have PB : Bk2 V0 (w.heap.size + 1) (.bool b.neg) (.slice b.A b.n b.c) := by rw [hV0]; exact (((Bk2.newAt _ _ (by simp) _ _ _).alloc _).alloc _)
  have PR : Bk2 V0 (w.heap.size + 2) (.int .i64 0) (.int .i64 0) := by rw [hV0]; exact ((Bk2.newAt _ _ (by simp) _ _ _).alloc _)
  have IR : Hid (IRow V0 B (w.heap.size + 3) [a, b]) := by have h9 := IR.out; rw [hV0]; rw [show (((w.alloc a.cells).alloc b.cells).alloc (.cells #[.int .i64 0, .int .i64 0] 29)).heap.size = w.heap.size + 3 by simp] at h9; exact h9
  rw [← hV0]
  clear hV0
  have E : Below w.heap.size w V0 := E.trans (bV0.mono E.size)
  have HA : LRd V0 (B) a.A a.n a.c a.xs := HA.below bV0 (by omega)
  have HB : LRd V0 (B) b.A b.n b.c b.xs := HB.below bV0 (by omega)
  clear bV0
  (with_reducible refine (check_any _ B (w.heap.size + 3) 2 [a, b] IR.out rfl (by omega) (by omega)).mono ?_)
  rintro e w1 ⟨rfl, hb1⟩
  have sw1 := hb1.size
  have E : Below w.heap.size w w1 := E.trans (hb1.mono E.size)
  have HA : LRd w1 (B) a.A a.n a.c a.xs := HA.below hb1 (by omega)
  have HB : LRd w1 (B) b.A b.n b.c b.xs := HB.below hb1 (by omega)
  have PA : Bk2 w1 (w.heap.size) (.bool a.neg) (.slice a.A a.n a.c) := PA.below hb1 PA.lt
  have PB : Bk2 w1 (w.heap.size + 1) (.bool b.neg) (.slice b.A b.n b.c) := PB.below hb1 PB.lt
  have PR : Bk2 w1 (w.heap.size + 2) (.int .i64 0) (.int .i64 0) := PR.below hb1 PR.lt
  clear hb1
  rw [two_ok oa ob]
  clear IR
  have EB : Below w.heap.size w (w1.alloc (.cells #[.int .i64 0, .int .i64 0] 29)) := E.alloc (by have := E.size; omega) _
  have PR := PR.alloc (.cells #[.int .i64 0, .int .i64 0] 29)
  have a0 := (PA.alloc (.cells #[.int .i64 0, .int .i64 0] 29)).c0
  have b0 := (PB.alloc (.cells #[.int .i64 0, .int .i64 0] 29)).c0
  rw [ha.out] at a0
  rw [hb.out] at b0
  have f0 := PR.c0
  have f1 := PR.c1
  have z0 := PR.z0
  have z1 := PR.z1
  have zz := PR.lt
  go_wp2_with fail
  refine bodyPost_ret (v := .tuple #[.int .i64 (-1), flt 0 0]) (by simp [results, Try.results19, go_sem, PR.c0, PR.c1]) rfl ⟨_, (.inl ⟨rfl, Int.lt_of_lt_of_le (IV.neg_lt oa HA.lim ha.out) (IV.pos_ge hb.out)⟩), rfl, ?_⟩
  (repeat (first | with_reducible exact Below.refl _ _ | with_reducible exact EB | with_reducible refine Below.drew ?_ | with_reducible refine below_drewN ?_ _ | with_reducible refine Below.setCell ?_ (by first | (simp; done) | (simp; omega) | omega) _ | with_reducible refine Below.alloc ?_ (by first | (simp; done) | (simp; omega) | omega) _))
set_option maxHeartbeats 2000000 in
theorem icmp_pn (w : World) (B : Nat) (a b : IV) (HA : a.at w B) (HB : b.at w B) (hB : B ≤ w.heap.size) (oa : a.ok = true) (ob : b.ok = true) (ha : Hid (a.neg = false)) (hb : Hid (b.neg = true)) :
    Calls Try.prog 19 #[a.v, b.v] w (CmpPostV a.val b.val w) := by
  have HA : LRd w B a.A a.n a.c a.xs := HA
  have HB : LRd w B b.A b.n b.c b.xs := HB
  have E : Below w.heap.size w w := Below.refl _ _
  have IR := Lib.hid (irow2 (((w.alloc a.cells).alloc b.cells).alloc (.cells #[.int .i64 0, .int .i64 0] 29)) B a b (((HA.alloc (by omega) _).alloc (by simp; omega) _).alloc (by simp; omega) _) (((HB.alloc (by omega) _).alloc (by simp; omega) _).alloc (by simp; omega) _) (by simp; omega))
  go_enter Try.func19, Try.ntmps19
  go_wp2_with fail
  obtain ⟨V0, hV0⟩ : ∃ V0 : World, V0 = ((((w.alloc (.cells #[.bool a.neg, .slice a.A a.n a.c] 24)).alloc (.cells #[.bool b.neg, .slice b.A b.n b.c] 24)).alloc (.cells #[.int .i64 0, .int .i64 0] 29)).alloc (.cells #[.bool a.neg, .slice a.A a.n a.c, .bool b.neg, .slice b.A b.n b.c] 24)) := ⟨_, rfl⟩
  have bV0 : Below w.heap.size w V0 := by rw [hV0]; (repeat (first | with_reducible exact Below.refl _ _ | with_reducible refine Below.drew ?_ | with_reducible refine below_drewN ?_ _ | with_reducible refine Below.setCell ?_ (by first | (simp; done) | (simp; omega) | omega) _ | with_reducible refine Below.alloc ?_ (by first | (simp; done) | (simp; omega) | omega) _))
  have zV0 : w.heap.size + 4 ≤ V0.heap.size := by rw [hV0]; simp
  have PA : Bk2 V0 (w.heap.size) (.bool a.neg) (.slice a.A a.n a.c) := by rw [hV0]; exact ((((Bk2.newAt _ _ (by simp) _ _ _).alloc _).alloc _).alloc _)
  have PB : Bk2 V0 (w.heap.size + 1) (.bool b.neg) (.slice b.A b.n b.c) := by rw [hV0]; exact (((Bk2.newAt _ _ (by simp) _ _ _).alloc _).alloc _)
  have PR : Bk2 V0 (w.heap.size + 2) (.int .i64 0) (.int .i64 0) := by rw [hV0]; exact ((Bk2.newAt _ _ (by simp) _ _ _).alloc _)
  have IR : Hid (IRow V0 B (w.heap.size + 3) [a, b]) := by have h9 := IR.out; rw [hV0]; rw [show (((w.alloc a.cells).alloc b.cells).alloc (.cells #[.int .i64 0, .int .i64 0] 29)).heap.size = w.heap.size + 3 by simp] at h9; exact h9
  rw [← hV0]
  clear hV0
  have E : Below w.heap.size w V0 := E.trans (bV0.mono E.size)
  have HA : LRd V0 (B) a.A a.n a.c a.xs := HA.below bV0 (by omega)
  have HB : LRd V0 (B) b.A b.n b.c b.xs := HB.below bV0 (by omega)
  clear bV0
  (with_reducible refine (check_any _ B (w.heap.size + 3) 2 [a, b] IR.out rfl (by omega) (by omega)).mono ?_)
  rintro e w1 ⟨rfl, hb1⟩
  have sw1 := hb1.size
  have E : Below w.heap.size w w1 := E.trans (hb1.mono E.size)
  have HA : LRd w1 (B) a.A a.n a.c a.xs := HA.below hb1 (by omega)
  have HB : LRd w1 (B) b.A b.n b.c b.xs := HB.below hb1 (by omega)
  have PA : Bk2 w1 (w.heap.size) (.bool a.neg) (.slice a.A a.n a.c) := PA.below hb1 PA.lt
  have PB : Bk2 w1 (w.heap.size + 1) (.bool b.neg) (.slice b.A b.n b.c) := PB.below hb1 PB.lt
  have PR : Bk2 w1 (w.heap.size + 2) (.int .i64 0) (.int .i64 0) := PR.below hb1 PR.lt
  clear hb1
  rw [two_ok oa ob]
  clear IR
  have EB : Below w.heap.size w (w1.alloc (.cells #[.int .i64 0, .int .i64 0] 29)) := E.alloc (by have := E.size; omega) _
  have PR := PR.alloc (.cells #[.int .i64 0, .int .i64 0] 29)
  have a0 := (PA.alloc (.cells #[.int .i64 0, .int .i64 0] 29)).c0
  have b0 := (PB.alloc (.cells #[.int .i64 0, .int .i64 0] 29)).c0
  rw [ha.out] at a0
  rw [hb.out] at b0
  have f0 := PR.c0
  have f1 := PR.c1
  have z0 := PR.z0
  have z1 := PR.z1
  have zz := PR.lt
  go_wp2_with fail
  refine bodyPost_ret (v := .tuple #[.int .i64 1, flt 0 0]) (by simp [results, Try.results19, go_sem, PR.c0, PR.c1]) rfl ⟨_, (.inr (.inr ⟨rfl, Int.lt_of_lt_of_le (IV.neg_lt ob HB.lim hb.out) (IV.pos_ge ha.out)⟩)), rfl, ?_⟩
  (repeat (first | with_reducible exact Below.refl _ _ | with_reducible exact EB | with_reducible refine Below.drew ?_ | with_reducible refine below_drewN ?_ _ | with_reducible refine Below.setCell ?_ (by first | (simp; done) | (simp; omega) | omega) _ | with_reducible refine Below.alloc ?_ (by first | (simp; done) | (simp; omega) | omega) _))
set_option maxHeartbeats 2000000 in
theorem icmp_pp' (w : World) (B : Nat) (a b : IV) (HA : a.at w B) (HB : b.at w B) (hB : B ≤ w.heap.size) (oa : a.ok = true) (ob : b.ok = true) (ha : Hid (a.neg = false)) (hb : Hid (b.neg = false)) :
    Calls Try.prog 19 #[a.v, b.v] w (CmpPostV a.val b.val w) := by
  have HA : LRd w B a.A a.n a.c a.xs := HA
  have HB : LRd w B b.A b.n b.c b.xs := HB
  have E : Below w.heap.size w w := Below.refl _ _
  have IR := Lib.hid (irow2 (((w.alloc a.cells).alloc b.cells).alloc (.cells #[.int .i64 0, .int .i64 0] 29)) B a b (((HA.alloc (by omega) _).alloc (by simp; omega) _).alloc (by simp; omega) _) (((HB.alloc (by omega) _).alloc (by simp; omega) _).alloc (by simp; omega) _) (by simp; omega))
  go_enter Try.func19, Try.ntmps19
  go_wp2_with fail
  obtain ⟨V0, hV0⟩ : ∃ V0 : World, V0 = ((((w.alloc (.cells #[.bool a.neg, .slice a.A a.n a.c] 24)).alloc (.cells #[.bool b.neg, .slice b.A b.n b.c] 24)).alloc (.cells #[.int .i64 0, .int .i64 0] 29)).alloc (.cells #[.bool a.neg, .slice a.A a.n a.c, .bool b.neg, .slice b.A b.n b.c] 24)) := ⟨_, rfl⟩
  have bV0 : Below w.heap.size w V0 := by rw [hV0]; (repeat (first | with_reducible exact Below.refl _ _ | with_reducible refine Below.drew ?_ | with_reducible refine below_drewN ?_ _ | with_reducible refine Below.setCell ?_ (by first | (simp; done) | (simp; omega) | omega) _ | with_reducible refine Below.alloc ?_ (by first | (simp; done) | (simp; omega) | omega) _))
  have zV0 : w.heap.size + 4 ≤ V0.heap.size := by rw [hV0]; simp
  have PA : Bk2 V0 (w.heap.size) (.bool a.neg) (.slice a.A a.n a.c) := by rw [hV0]; exact ((((Bk2.newAt _ _ (by simp) _ _ _).alloc _).alloc _).alloc _)
  have PB : Bk2 V0 (w.heap.size + 1) (.bool b.neg) (.slice b.A b.n b.c) := by rw [hV0]; exact (((Bk2.newAt _ _ (by simp) _ _ _).alloc _).alloc _)
  have PR : Bk2 V0 (w.heap.size + 2) (.int .i64 0) (.int .i64 0) := by rw [hV0]; exact ((Bk2.newAt _ _ (by simp) _ _ _).alloc _)
  have IR : Hid (IRow V0 B (w.heap.size + 3) [a, b]) := by have h9 := IR.out; rw [hV0]; rw [show (((w.alloc a.cells).alloc b.cells).alloc (.cells #[.int .i64 0, .int .i64 0] 29)).heap.size = w.heap.size + 3 by simp] at h9; exact h9
  rw [← hV0]
  clear hV0
  have E : Below w.heap.size w V0 := E.trans (bV0.mono E.size)
  have HA : LRd V0 (B) a.A a.n a.c a.xs := HA.below bV0 (by omega)
  have HB : LRd V0 (B) b.A b.n b.c b.xs := HB.below bV0 (by omega)
  clear bV0
  (with_reducible refine (check_any _ B (w.heap.size + 3) 2 [a, b] IR.out rfl (by omega) (by omega)).mono ?_)
  rintro e w1 ⟨rfl, hb1⟩
  have sw1 := hb1.size
  have E : Below w.heap.size w w1 := E.trans (hb1.mono E.size)
  have HA : LRd w1 (B) a.A a.n a.c a.xs := HA.below hb1 (by omega)
  have HB : LRd w1 (B) b.A b.n b.c b.xs := HB.below hb1 (by omega)
  have PA : Bk2 w1 (w.heap.size) (.bool a.neg) (.slice a.A a.n a.c) := PA.below hb1 PA.lt
  have PB : Bk2 w1 (w.heap.size + 1) (.bool b.neg) (.slice b.A b.n b.c) := PB.below hb1 PB.lt
  have PR : Bk2 w1 (w.heap.size + 2) (.int .i64 0) (.int .i64 0) := PR.below hb1 PR.lt
  clear hb1
  rw [two_ok oa ob]
  clear IR
  have EB : Below w.heap.size w (w1.alloc (.cells #[.int .i64 0, .int .i64 0] 29)) := E.alloc (by have := E.size; omega) _
  have PR := PR.alloc (.cells #[.int .i64 0, .int .i64 0] 29)
  have PA := PA.alloc (.cells #[.int .i64 0, .int .i64 0] 29)
  have PB := PB.alloc (.cells #[.int .i64 0, .int .i64 0] 29)
  have HA := HA.alloc (by have := E.size; omega) (.cells #[.int .i64 0, .int .i64 0] 29)
  have HB := HB.alloc (by have := E.size; omega) (.cells #[.int .i64 0, .int .i64 0] 29)
  have a0 := PA.c0
  have b0 := PB.c0
  have a1 := PA.c1
  have b1 := PB.c1
  rw [ha.out] at a0
  rw [hb.out] at b0
  go_wp2_with fail
  clear a0 b0 a1 b1
  refine (cmp_ok _ B a.A b.A a.n b.n a.c b.c a.xs b.xs HA HB (by have := E.size; simp; omega) (IV.vld oa).1 (IV.vld ob).1).mono ?_
  rintro e w2 ⟨r, hcv, rfl, hb2⟩
  have HC := Lib.hid hcv
  clear hcv
  have z2 : w1.heap.size < w2.heap.size := next_lt hb2
  have PR := PR.below hb2 (by have := PR.lt; simpa using this)
  have EC : Below w.heap.size w w2 := EB.trans (hb2.mono EB.size)
  have f0 := PR.c0
  have f1 := PR.c1
  have z0 := PR.z0
  have z1 := PR.z1
  go_wp2_with fail
  refine bodyPost_ret (v := .tuple #[.int .i64 r, flt 0 0]) (by simp [results, Try.results19, go_sem, PR.c0, PR.c1]) rfl ⟨_, icmp_pp HC.out (IV.vpos ha.out) (IV.vpos hb.out), rfl, ?_⟩
  (repeat (first | with_reducible exact Below.refl _ _ | with_reducible exact EC | with_reducible refine Below.drew ?_ | with_reducible refine below_drewN ?_ _ | with_reducible refine Below.setCell ?_ (by first | (simp; done) | (simp; omega) | omega) _ | with_reducible refine Below.alloc ?_ (by first | (simp; done) | (simp; omega) | omega) _))
set_option maxHeartbeats 2000000 in
theorem icmp_nn' (w : World) (B : Nat) (a b : IV) (HA : a.at w B) (HB : b.at w B) (hB : B ≤ w.heap.size) (oa : a.ok = true) (ob : b.ok = true) (ha : Hid (a.neg = true)) (hb : Hid (b.neg = true)) :
    Calls Try.prog 19 #[a.v, b.v] w (CmpPostV a.val b.val w) := by
  have HA : LRd w B a.A a.n a.c a.xs := HA
  have HB : LRd w B b.A b.n b.c b.xs := HB
  have E : Below w.heap.size w w := Below.refl _ _
  have IR := Lib.hid (irow2 (((w.alloc a.cells).alloc b.cells).alloc (.cells #[.int .i64 0, .int .i64 0] 29)) B a b (((HA.alloc (by omega) _).alloc (by simp; omega) _).alloc (by simp; omega) _) (((HB.alloc (by omega) _).alloc (by simp; omega) _).alloc (by simp; omega) _) (by simp; omega))
  go_enter Try.func19, Try.ntmps19
  go_wp2_with fail
  obtain ⟨V0, hV0⟩ : ∃ V0 : World, V0 = ((((w.alloc (.cells #[.bool a.neg, .slice a.A a.n a.c] 24)).alloc (.cells #[.bool b.neg, .slice b.A b.n b.c] 24)).alloc (.cells #[.int .i64 0, .int .i64 0] 29)).alloc (.cells #[.bool a.neg, .slice a.A a.n a.c, .bool b.neg, .slice b.A b.n b.c] 24)) := ⟨_, rfl⟩
  have bV0 : Below w.heap.size w V0 := by rw [hV0]; (repeat (first | with_reducible exact Below.refl _ _ | with_reducible refine Below.drew ?_ | with_reducible refine below_drewN ?_ _ | with_reducible refine Below.setCell ?_ (by first | (simp; done) | (simp; omega) | omega) _ | with_reducible refine Below.alloc ?_ (by first | (simp; done) | (simp; omega) | omega) _))
  have zV0 : w.heap.size + 4 ≤ V0.heap.size := by rw [hV0]; simp
  have PA : Bk2 V0 (w.heap.size) (.bool a.neg) (.slice a.A a.n a.c) := by rw [hV0]; exact ((((Bk2.newAt _ _ (by simp) _ _ _).alloc _).alloc _).alloc _)
  have PB : Bk2 V0 (w.heap.size + 1) (.bool b.neg) (.slice b.A b.n b.c) := by rw [hV0]; exact (((Bk2.newAt _ _ (by simp) _ _ _).alloc _).alloc _)
  have PR : Bk2 V0 (w.heap.size + 2) (.int .i64 0) (.int .i64 0) := by rw [hV0]; exact ((Bk2.newAt _ _ (by simp) _ _ _).alloc _)
  have IR : Hid (IRow V0 B (w.heap.size + 3) [a, b]) := by have h9 := IR.out; rw [hV0]; rw [show (((w.alloc a.cells).alloc b.cells).alloc (.cells #[.int .i64 0, .int .i64 0] 29)).heap.size = w.heap.size + 3 by simp] at h9; exact h9
  rw [← hV0]
  clear hV0
  have E : Below w.heap.size w V0 := E.trans (bV0.mono E.size)
  have HA : LRd V0 (B) a.A a.n a.c a.xs := HA.below bV0 (by omega)
  have HB : LRd V0 (B) b.A b.n b.c b.xs := HB.below bV0 (by omega)
  clear bV0
  (with_reducible refine (check_any _ B (w.heap.size + 3) 2 [a, b] IR.out rfl (by omega) (by omega)).mono ?_)
  rintro e w1 ⟨rfl, hb1⟩
  have sw1 := hb1.size
  have E : Below w.heap.size w w1 := E.trans (hb1.mono E.size)
  have HA : LRd w1 (B) a.A a.n a.c a.xs := HA.below hb1 (by omega)
  have HB : LRd w1 (B) b.A b.n b.c b.xs := HB.below hb1 (by omega)
  have PA : Bk2 w1 (w.heap.size) (.bool a.neg) (.slice a.A a.n a.c) := PA.below hb1 PA.lt
  have PB : Bk2 w1 (w.heap.size + 1) (.bool b.neg) (.slice b.A b.n b.c) := PB.below hb1 PB.lt
  have PR : Bk2 w1 (w.heap.size + 2) (.int .i64 0) (.int .i64 0) := PR.below hb1 PR.lt
  clear hb1
  rw [two_ok oa ob]
  clear IR
  have EB : Below w.heap.size w (w1.alloc (.cells #[.int .i64 0, .int .i64 0] 29)) := E.alloc (by have := E.size; omega) _
  have PR := PR.alloc (.cells #[.int .i64 0, .int .i64 0] 29)
  have PA := PA.alloc (.cells #[.int .i64 0, .int .i64 0] 29)
  have PB := PB.alloc (.cells #[.int .i64 0, .int .i64 0] 29)
  have HA := HA.alloc (by have := E.size; omega) (.cells #[.int .i64 0, .int .i64 0] 29)
  have HB := HB.alloc (by have := E.size; omega) (.cells #[.int .i64 0, .int .i64 0] 29)
  have a0 := PA.c0
  have b0 := PB.c0
  have a1 := PA.c1
  have b1 := PB.c1
  rw [ha.out] at a0
  rw [hb.out] at b0
  go_wp2_with fail
  clear a0 b0 a1 b1
  refine (cmp_ok _ B b.A a.A b.n a.n b.c a.c b.xs a.xs HB HA (by have := E.size; simp; omega) (IV.vld ob).1 (IV.vld oa).1).mono ?_
  rintro e w2 ⟨r, hcv, rfl, hb2⟩
  have HC := Lib.hid hcv
  clear hcv
  have z2 : w1.heap.size < w2.heap.size := next_lt hb2
  have PR := PR.below hb2 (by have := PR.lt; simpa using this)
  have EC : Below w.heap.size w w2 := EB.trans (hb2.mono EB.size)
  have f0 := PR.c0
  have f1 := PR.c1
  have z0 := PR.z0
  have z1 := PR.z1
  go_wp2_with fail
  refine bodyPost_ret (v := .tuple #[.int .i64 r, flt 0 0]) (by simp [results, Try.results19, go_sem, PR.c0, PR.c1]) rfl ⟨_, icmp_nn HC.out (IV.vneg ha.out) (IV.vneg hb.out), rfl, ?_⟩
  (repeat (first | with_reducible exact Below.refl _ _ | with_reducible exact EC | with_reducible refine Below.drew ?_ | with_reducible refine below_drewN ?_ _ | with_reducible refine Below.setCell ?_ (by first | (simp; done) | (simp; omega) | omega) _ | with_reducible refine Below.alloc ?_ (by first | (simp; done) | (simp; omega) | omega) _))
theorem icmp_ok (w : World) (B : Nat) (a b : IV) (HA : a.at w B) (HB : b.at w B) (hB : B ≤ w.heap.size) (oa : a.ok = true) (ob : b.ok = true) :
    Calls Try.prog 19 #[a.v, b.v] w (CmpPostV a.val b.val w) := by
  cases ha : a.neg <;> cases hb : b.neg
  · exact icmp_pp' w B a b HA HB hB oa ob ha hb
  · exact icmp_pn w B a b HA HB hB oa ob ha hb
  · exact icmp_np w B a b HA HB hB oa ob ha hb
  · exact icmp_nn' w B a b HA HB hB oa ob ha hb
end Go.Proofs.Ytdhdkknaagadaaa
