/- NaturalArithmetic: the law, where an argument is not valid. -/
import Derived.Test.YtjkogajdpkbjeaaSums
import Derived.Test.YtjkogajdpkbjeaaPlus
import Derived.Test.YtjkogajdpkbjeaaMinus
import Derived.Test.YtjkogajdpkbjeaaTimes
import Derived.Deep.RegionWith
import Derived.Deep.RegionHeld3
import Derived.Deep.DeepCutAuto
namespace Go.Proofs.Ytjkogajdpkbjeaa
open Go.RowKit
set_option maxHeartbeats 400000
set_option maxRecDepth 100000
set_option linter.unusedSimpArgs false
set_option linter.unusedVariables false

theorem nil_len {zs : List Nat} {k : Nat} (h : Rep 4294967296 zs 0) (hl : zs.length = k) : k = 0 := by
  obtain rfl := h.zero_nil (by decide)
  simpa using hl.symm
/-- Block g holds a fault. -/
structure FC (w : World) (g : Nat) (a b : Int) : Prop where
  c0 : w.cell? ⟨g, 0, none⟩ = some (.int .i64 a)
  c1 : w.cell? ⟨g, 1, none⟩ = some (.int .i64 b)
  lt : g < w.heap.size
  fz : ∀ o, w.frozen? ⟨g, o, none⟩ = false
theorem FC.new (w : World) (a b : Int) : FC (w.alloc (.cells #[.int .i64 a, .int .i64 b] 24)) w.heap.size a b :=
  ⟨by simp [go_sem], by simp [go_sem], by simp, fun o => by simp [go_sem]⟩
theorem FC.alloc {w : World} {g : Nat} {a b : Int} (h : FC w g a b) (o : Obj) : FC (w.alloc o) g a b :=
  ⟨(World.cell?_alloc_lt w o _ h.lt).trans h.c0, (World.cell?_alloc_lt w o _ h.lt).trans h.c1, by have := h.lt; simp; omega, fun t => by rw [World.frozen?_alloc_past _ _ _ h.lt]; exact h.fz t⟩
theorem FC.below {w w' : World} {B g : Nat} {a b : Int} (h : FC w g a b) (hb : Below B w w') (hB : g < B) : FC w' g a b :=
  ⟨(hb.cell (p := ⟨g, 0, none⟩) hB).trans h.c0, (hb.cell (p := ⟨g, 1, none⟩) hB).trans h.c1, by have := hb.size; have := h.lt; omega, fun t => ((bcell hb).2 g t hB).trans (h.fz t)⟩
theorem FC.drew {w : World} {g : Nat} {a b : Int} (h : FC w g a b) : FC w.drew g a b := ⟨h.c0, h.c1, h.lt, h.fz⟩
theorem FC.drewN {w : World} {g : Nat} {a b : Int} (h : FC w g a b) (n : Nat) : FC (w.drewN n) g a b := ⟨h.c0, h.c1, h.lt, h.fz⟩
theorem next_lt {w w' : World} {o : Obj} (hb : Below (w.alloc o).heap.size (w.alloc o) w') : w.heap.size < w'.heap.size := by have := hb.size; simp at this; omega
set_option maxHeartbeats 4000000 in
theorem arith_bad1 (w : World) (A D : Option Addr) (n m c d : Nat) (xs ys : List Nat) (h : LRd w w.heap.size A n c xs) (k : LRd w w.heap.size D m d ys) (hx : vld xs = false) :
    Calls Try.prog 3 #[.slice A n c, .slice D m d] w fun e w' => e = .returned (.bool true) ∧ Below w.heap.size w w' := by
  have hcap := h.cap
  have hcap2 := k.cap
  go_enter Try.func3, Try.ntmps3
  go_wp2_with fail
  refine (pairFault_bad1 w _ A D n m c d xs h (Nat.le_refl _) hx).mono ?_
  rintro e w1 ⟨rfl, hb1⟩
  have hs1 := hb1.size
  have H1 := (h.below hb1 (Nat.le_refl _)).alloc hs1 (.cells #[.int .i64 6, .int .i64 (-1)] 24)
  have K1 := (k.below hb1 (Nat.le_refl _)).alloc hs1 (.cells #[.int .i64 6, .int .i64 (-1)] 24)
  have P1 := FC.new w1 6 (-1)
  have E1 : Below w.heap.size w (w1.alloc (.cells #[.int .i64 6, .int .i64 (-1)] 24)) := hb1.alloc hs1 _
  go_wp2_with fail
  refine (add_bad1 _ _ A D n m c d xs ys H1 K1 (by have := E1.size; omega) hx).mono ?_
  rintro e w2 ⟨A1, j1, c1, z1, rfl, hl1, hr1, hb2⟩
  obtain rfl := nil_len hr1 hl1.len.out
  have hs2 := next_lt hb2
  have H2 := (H1.below hb2 (by have := E1.size; omega)).alloc (by have := E1.size; have := hb2.size; omega) (.cells #[.int .i64 6, .int .i64 (-1)] 24)
  have K2 := (K1.below hb2 (by have := E1.size; omega)).alloc (by have := E1.size; have := hb2.size; omega) (.cells #[.int .i64 6, .int .i64 (-1)] 24)
  have E2 : Below w.heap.size w (w2.alloc (.cells #[.int .i64 6, .int .i64 (-1)] 24)) := (E1.trans (hb2.mono (by have := E1.size; omega))).alloc (by have := E1.size; have := hb2.size; omega) _
  have P1 := (P1.below hb2 P1.lt).alloc (.cells #[.int .i64 6, .int .i64 (-1)] 24)
  have P2 := FC.new w2 6 (-1)
  clear H1 K1 E1 hb2 hl1 hr1
  go_wp2_with fail
  refine (sub_bad1 _ _ A D n m c d xs ys H2 K2 (by have := E2.size; omega) hx).mono ?_
  rintro e w3 ⟨A2, j2, c2, z2, rfl, hl2, hr2, hb3⟩
  obtain rfl := nil_len hr2 hl2.len.out
  have hs3 := next_lt hb3
  have H3 := (H2.below hb3 (by have := E2.size; omega)).alloc (by have := E2.size; have := hb3.size; omega) (.cells #[.int .i64 6, .int .i64 (-1)] 24)
  have K3 := (K2.below hb3 (by have := E2.size; omega)).alloc (by have := E2.size; have := hb3.size; omega) (.cells #[.int .i64 6, .int .i64 (-1)] 24)
  have E3 : Below w.heap.size w (w3.alloc (.cells #[.int .i64 6, .int .i64 (-1)] 24)) := (E2.trans (hb3.mono (by have := E2.size; omega))).alloc (by have := E2.size; have := hb3.size; omega) _
  have P1 := (P1.below hb3 P1.lt).alloc (.cells #[.int .i64 6, .int .i64 (-1)] 24)
  have P2 := (P2.below hb3 P2.lt).alloc (.cells #[.int .i64 6, .int .i64 (-1)] 24)
  have P3 := FC.new w3 6 (-1)
  clear H2 K2 E2 hb3 hl2 hr2
  go_wp2_with fail
  refine (mul_bad1 _ _ A D n m c d xs ys H3 K3 (by have := E3.size; omega) hx).mono ?_
  rintro e w4 ⟨A3, j3, c3, z3, rfl, hl3, hr3, hb4⟩
  obtain rfl := nil_len hr3 hl3.len.out
  have hs4 := next_lt hb4
  have H4 := (H3.below hb4 (by have := E3.size; omega)).alloc (by have := E3.size; have := hb4.size; omega) (.cells #[.int .i64 6, .int .i64 (-1)] 24)
  have K4 := (K3.below hb4 (by have := E3.size; omega)).alloc (by have := E3.size; have := hb4.size; omega) (.cells #[.int .i64 6, .int .i64 (-1)] 24)
  have E4 : Below w.heap.size w (w4.alloc (.cells #[.int .i64 6, .int .i64 (-1)] 24)) := (E3.trans (hb4.mono (by have := E3.size; omega))).alloc (by have := E3.size; have := hb4.size; omega) _
  have P1 := (P1.below hb4 P1.lt).alloc (.cells #[.int .i64 6, .int .i64 (-1)] 24)
  have P2 := (P2.below hb4 P2.lt).alloc (.cells #[.int .i64 6, .int .i64 (-1)] 24)
  have P3 := (P3.below hb4 P3.lt).alloc (.cells #[.int .i64 6, .int .i64 (-1)] 24)
  have P4 := FC.new w4 6 (-1)
  clear H3 K3 E3 hb4 hl3 hr3
  go_wp2_with fail
  refine (cmp_bad1 _ _ A D n m c d xs ys H4 K4 (by have := E4.size; omega) hx).mono ?_
  rintro e w5 ⟨rfl, hb5⟩
  have hs5 := next_lt hb5
  have H5 := (H4.below hb5 (by have := E4.size; omega)).alloc (by have := E4.size; have := hb5.size; omega) (.cells #[.int .i64 6, .int .i64 (-1)] 24)
  have K5 := (K4.below hb5 (by have := E4.size; omega)).alloc (by have := E4.size; have := hb5.size; omega) (.cells #[.int .i64 6, .int .i64 (-1)] 24)
  have E5 : Below w.heap.size w (w5.alloc (.cells #[.int .i64 6, .int .i64 (-1)] 24)) := (E4.trans (hb5.mono (by have := E4.size; omega))).alloc (by have := E4.size; have := hb5.size; omega) _
  have P1 := (P1.below hb5 P1.lt).alloc (.cells #[.int .i64 6, .int .i64 (-1)] 24)
  have P2 := (P2.below hb5 P2.lt).alloc (.cells #[.int .i64 6, .int .i64 (-1)] 24)
  have P3 := (P3.below hb5 P3.lt).alloc (.cells #[.int .i64 6, .int .i64 (-1)] 24)
  have P4 := (P4.below hb5 P4.lt).alloc (.cells #[.int .i64 6, .int .i64 (-1)] 24)
  have P5 := FC.new w5 6 (-1)
  clear H4 K4 E4 hb5
  go_wp2_with fail
  go_region_with (first
    | (go_at_call 13; (refine (sums_any _).mono ?_; rintro e w6 ⟨rfl, hb6⟩; have H6 := H5.drew.below hb6 E5.size; have Q1 := P1.drew.below hb6 P1.lt; have Q2 := P2.drew.below hb6 P2.lt; have Q3 := P3.drew.below hb6 P3.lt; have Q4 := P4.drew.below hb6 P4.lt; have Q5 := P5.drew.below hb6 P5.lt; have s60 := hb6.size; have s61 := E5.size; simp only [World.size_drew] at s60; have G := E5.trans ((Below.trans (Below.drew (Below.refl _ _)) hb6).mono s61); obtain ⟨q10, q11, q12⟩ := Q1; obtain ⟨q20, q21, q22⟩ := Q2; obtain ⟨q30, q31, q32⟩ := Q3; obtain ⟨q40, q41, q42⟩ := Q4; obtain ⟨q50, q51, q52⟩ := Q5))
    | (go_at_call 14; refine (valid_any _ _ A n c xs H6).mono ?_; rintro e w' ⟨rfl, rfl⟩)
    | (go_at_call 15; refine (naturalOk_any _ _ A n c xs H6).mono ?_; rintro e w' ⟨rfl, rfl⟩))

  all_goals (go_wp2_with fail)
  all_goals (try (go_quiet (fail)))
  all_goals go_ret
  all_goals (refine ⟨by first | rfl | (simp; done), ?_⟩)
  all_goals (repeat (first | exact G | refine Below.drew ?_ | refine below_drewN ?_ _))
end Go.Proofs.Ytjkogajdpkbjeaa
