/- NaturalDivides: the law, where an argument is not valid. -/
import Derived.Test.YtjkogajdpkbjeaaLawA1
import Derived.Test.YtjkogajdpkbjeaaLawL
import Derived.Test.YtjkogajdpkbjeaaGcd
import Derived.Test.YtjkogajdpkbjeaaCommon
import Derived.Deep.RegionWith
import Derived.Deep.RegionHeld3
import Derived.Deep.DeepCutAuto
namespace Go.Proofs.Ytjkogajdpkbjeaa
open Go.RowKit
set_option maxHeartbeats 400000
set_option maxRecDepth 100000
set_option linter.unusedSimpArgs false
set_option linter.unusedVariables false

theorem LRd.allocM {w : World} {n c : Nat} {A : Option Addr} {xs : List Nat} (h : LRd w w.heap.size A n c xs) (o : Obj) : LRd (w.alloc o) (w.alloc o).heap.size A n c xs := (h.alloc (Nat.le_refl _) o).more (by simp)
theorem DRd.allocM {w : World} {n c : Nat} {A : Option Addr} {xs : List Nat} (h : DRd w w.heap.size A n c xs) (o : Obj) : DRd (w.alloc o) (w.alloc o).heap.size A n c xs := (h.alloc (Nat.le_refl _) o).more (by simp)
theorem LRd.store {w : World} {B n c g : Nat} {A : Option Addr} {xs : List Nat} {a b : Int} (h : LRd w B A n c xs) (P : FC w g a b) (x y : Int) : LRd ((w.setCell ⟨g, 0, none⟩ (.int .i64 x)).setCell ⟨g, 1, none⟩ (.int .i64 y)) B A n c xs :=
  (h.setI P.c0 _).setI (by rw [World.cell?_setCell_other _ _ _ _ (by simp)]; exact P.c1) _
theorem len65 {ds xs : List Nat} {p k n : Nat} (h : Rep 65536 ds p) (hl : ds.length = k) (hp : vb 4294967296 xs = p) (hx : Lim xs) (hn : xs.length = n) : k ≤ 2 * n := by
  rw [← hl]
  refine h.length_le (by decide) ?_
  rw [← hp]
  have h1 := vb_lt (b := 4294967296) (by decide) hx
  rw [show (65536 : Nat) ^ (2 * n) = 4294967296 ^ n by rw [Nat.pow_mul]]
  rw [← hn]; exact h1
theorem gcd_len65 {fs ds es : List Nat} {p q k k4 k5 M : Nat} (h : Rep 65536 fs (Nat.gcd p q)) (hl : fs.length = k) (h4 : Rep 65536 ds p) (hl4 : ds.length = k4) (hk4 : k4 ≤ M) (h5 : Rep 65536 es q) (hl5 : es.length = k5) (hk5 : k5 ≤ M) : k ≤ M :=
  rep_lenD h hl (gcd_lt (rep_lt h4 hl4 hk4) (rep_lt h5 hl5 hk5))
theorem low_pos {ys : List Nat} {m : Nat} (ht : Top ys) (hl : ys.length = m) (hm : 0 < m) : 0 < vb 4294967296 ys := by
  obtain ⟨t, rfl⟩ : ∃ t, m = t + 1 := ⟨m - 1, by omega⟩
  have h1 := ht.low (b := 4294967296) hl
  have h2 : 0 < 4294967296 ^ t := Nat.pow_pos (by decide)
  omega
theorem fit_small {zs : List Nat} {v k : Nat} (h : Rep 4294967296 zs v) (hl : zs.length = k) (hv : v < Big) : k ≤ 600 := by
  rcases Nat.lt_or_ge 600 k with e | e
  · exact absurd (big_len h hl e) (by omega)
  · exact e
set_option maxHeartbeats 4000000 in
theorem div_bad1 (w : World) (A D : Option Addr) (n m c d : Nat) (xs ys : List Nat) (h : LRd w w.heap.size A n c xs) (k : LRd w w.heap.size D m d ys) (hx : vld xs = false) :
    Calls Try.prog 4 #[.slice A n c, .slice D m d] w fun e w' => e = .returned (.bool true) ∧ Below w.heap.size w w' := by
  have hcap := h.cap
  have hcap2 := k.cap
  go_enter Try.func4, Try.ntmps4
  go_wp2_with fail
  refine (pairFault_bad1 w _ A D n m c d xs h (Nat.le_refl _) hx).mono ?_
  rintro e w1 ⟨rfl, hb1⟩
  have hs1 := hb1.size
  have H1 := (h.below hb1 (Nat.le_refl _)).alloc hs1 (.cells #[.int .i64 (6), .int .i64 (-1)] 24)
  have K1 := (k.below hb1 (Nat.le_refl _)).alloc hs1 (.cells #[.int .i64 (6), .int .i64 (-1)] 24)
  have P1 := FC.new w1 (6) (-1)
  have E1 : Below w.heap.size w (w1.alloc (.cells #[.int .i64 (6), .int .i64 (-1)] 24)) := hb1.alloc hs1 _
  go_wp2_with fail
  refine (divmod_bad1 _ _ A D n m c d xs ys H1 K1 (by have := E1.size; omega) hx).mono ?_
  rintro e w2 ⟨A1, j1, c1, z1, A2, j2, c2, z2, rfl, hl1, hr1, hl2, hr2, hb2⟩
  obtain rfl := nil_len hr1 hl1.len.out
  obtain rfl := nil_len hr2 hl2.len.out
  have hs2 := next_lt hb2
  have H2 := (H1.below hb2 (by have := E1.size; omega)).alloc (by have := E1.size; have := hb2.size; omega) (.cells #[.int .i64 (6), .int .i64 (-1)] 24)
  have K2 := (K1.below hb2 (by have := E1.size; omega)).alloc (by have := E1.size; have := hb2.size; omega) (.cells #[.int .i64 (6), .int .i64 (-1)] 24)
  have E2 : Below w.heap.size w (w2.alloc (.cells #[.int .i64 (6), .int .i64 (-1)] 24)) := (E1.trans (hb2.mono (by have := E1.size; omega))).alloc (by have := E1.size; have := hb2.size; omega) _
  have P1 := (P1.below hb2 P1.lt).alloc (.cells #[.int .i64 (6), .int .i64 (-1)] 24)
  have P2 := FC.new w2 (6) (-1)
  clear H1 K1 E1 hb2
  go_wp2_with fail
  refine (gcd_bad1 _ _ A D n m c d xs ys H2 K2 (by have := E2.size; omega) hx).mono ?_
  rintro e w3 ⟨A3, j3, c3, z3, rfl, hl3, hr3, hb3⟩
  obtain rfl := nil_len hr3 hl3.len.out
  have hs3 := next_lt hb3
  have H3 := (H2.below hb3 (by have := E2.size; omega)).alloc (by have := E2.size; have := hb3.size; omega) (.cells #[.int .i64 (6), .int .i64 (-1)] 24)
  have K3 := (K2.below hb3 (by have := E2.size; omega)).alloc (by have := E2.size; have := hb3.size; omega) (.cells #[.int .i64 (6), .int .i64 (-1)] 24)
  have E3 : Below w.heap.size w (w3.alloc (.cells #[.int .i64 (6), .int .i64 (-1)] 24)) := (E2.trans (hb3.mono (by have := E2.size; omega))).alloc (by have := E2.size; have := hb3.size; omega) _
  have P1 := (P1.below hb3 P1.lt).alloc (.cells #[.int .i64 (6), .int .i64 (-1)] 24)
  have P2 := (P2.below hb3 P2.lt).alloc (.cells #[.int .i64 (6), .int .i64 (-1)] 24)
  have P3 := FC.new w3 (6) (-1)
  clear H2 K2 E2 hb3
  go_wp2_with fail
  refine (sums_any _).mono ?_
  rintro e w4 ⟨rfl, hb4⟩
  have H4 := H3.below hb4 E3.size
  have K4 := K3.below hb4 E3.size
  have E4 := E3.trans (hb4.mono E3.size)
  have P1 := P1.below hb4 P1.lt
  have P2 := P2.below hb4 P2.lt
  have P3 := P3.below hb4 P3.lt
  clear H3 K3 E3 hb4
  obtain ⟨q10, q11, q12⟩ := id P1
  obtain ⟨q20, q21, q22⟩ := id P2
  obtain ⟨q30, q31, q32⟩ := id P3
  go_wp2_with fail
  go_ret
  exact ⟨by first | rfl | (simp; done), E4⟩

set_option maxHeartbeats 4000000 in
theorem div_bad2 (w : World) (A D : Option Addr) (n m c d : Nat) (xs ys : List Nat) (h : LRd w w.heap.size A n c xs) (k : LRd w w.heap.size D m d ys) (hx : vld xs = true) (hy : vld ys = false) :
    Calls Try.prog 4 #[.slice A n c, .slice D m d] w fun e w' => e = .returned (.bool true) ∧ Below w.heap.size w w' := by
  have hcap := h.cap
  have hcap2 := k.cap
  go_enter Try.func4, Try.ntmps4
  go_wp2_with fail
  refine (pairFault_bad2 w _ A D n m c d xs ys h k (Nat.le_refl _) hx hy).mono ?_
  rintro e w1 ⟨rfl, hb1⟩
  have hs1 := hb1.size
  have H1 := (h.below hb1 (Nat.le_refl _)).alloc hs1 (.cells #[.int .i64 (6), .int .i64 (-2)] 24)
  have K1 := (k.below hb1 (Nat.le_refl _)).alloc hs1 (.cells #[.int .i64 (6), .int .i64 (-2)] 24)
  have P1 := FC.new w1 (6) (-2)
  have E1 : Below w.heap.size w (w1.alloc (.cells #[.int .i64 (6), .int .i64 (-2)] 24)) := hb1.alloc hs1 _
  go_wp2_with fail
  refine (divmod_bad2 _ _ A D n m c d xs ys H1 K1 (by have := E1.size; omega) hx hy).mono ?_
  rintro e w2 ⟨A1, j1, c1, z1, A2, j2, c2, z2, rfl, hl1, hr1, hl2, hr2, hb2⟩
  obtain rfl := nil_len hr1 hl1.len.out
  obtain rfl := nil_len hr2 hl2.len.out
  have hs2 := next_lt hb2
  have H2 := (H1.below hb2 (by have := E1.size; omega)).alloc (by have := E1.size; have := hb2.size; omega) (.cells #[.int .i64 (6), .int .i64 (-2)] 24)
  have K2 := (K1.below hb2 (by have := E1.size; omega)).alloc (by have := E1.size; have := hb2.size; omega) (.cells #[.int .i64 (6), .int .i64 (-2)] 24)
  have E2 : Below w.heap.size w (w2.alloc (.cells #[.int .i64 (6), .int .i64 (-2)] 24)) := (E1.trans (hb2.mono (by have := E1.size; omega))).alloc (by have := E1.size; have := hb2.size; omega) _
  have P1 := (P1.below hb2 P1.lt).alloc (.cells #[.int .i64 (6), .int .i64 (-2)] 24)
  have P2 := FC.new w2 (6) (-2)
  clear H1 K1 E1 hb2
  go_wp2_with fail
  refine (gcd_bad2 _ _ A D n m c d xs ys H2 K2 (by have := E2.size; omega) hx hy).mono ?_
  rintro e w3 ⟨A3, j3, c3, z3, rfl, hl3, hr3, hb3⟩
  obtain rfl := nil_len hr3 hl3.len.out
  have hs3 := next_lt hb3
  have H3 := (H2.below hb3 (by have := E2.size; omega)).alloc (by have := E2.size; have := hb3.size; omega) (.cells #[.int .i64 (6), .int .i64 (-2)] 24)
  have K3 := (K2.below hb3 (by have := E2.size; omega)).alloc (by have := E2.size; have := hb3.size; omega) (.cells #[.int .i64 (6), .int .i64 (-2)] 24)
  have E3 : Below w.heap.size w (w3.alloc (.cells #[.int .i64 (6), .int .i64 (-2)] 24)) := (E2.trans (hb3.mono (by have := E2.size; omega))).alloc (by have := E2.size; have := hb3.size; omega) _
  have P1 := (P1.below hb3 P1.lt).alloc (.cells #[.int .i64 (6), .int .i64 (-2)] 24)
  have P2 := (P2.below hb3 P2.lt).alloc (.cells #[.int .i64 (6), .int .i64 (-2)] 24)
  have P3 := FC.new w3 (6) (-2)
  clear H2 K2 E2 hb3
  go_wp2_with fail
  refine (sums_any _).mono ?_
  rintro e w4 ⟨rfl, hb4⟩
  have H4 := H3.below hb4 E3.size
  have K4 := K3.below hb4 E3.size
  have E4 := E3.trans (hb4.mono E3.size)
  have P1 := P1.below hb4 P1.lt
  have P2 := P2.below hb4 P2.lt
  have P3 := P3.below hb4 P3.lt
  clear H3 K3 E3 hb4
  obtain ⟨q10, q11, q12⟩ := id P1
  obtain ⟨q20, q21, q22⟩ := id P2
  obtain ⟨q30, q31, q32⟩ := id P3
  go_wp2_with fail
  go_ret
  exact ⟨by first | rfl | (simp; done), E4⟩

end Go.Proofs.Ytjkogajdpkbjeaa
