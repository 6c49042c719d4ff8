/- NaturalMoves: the law, where the argument is not valid. -/
import Derived.Test.YtjkogajdpkbjeaaDivA
import Derived.Test.YtjkogajdpkbjeaaShift
import Derived.Test.YtjkogajdpkbjeaaMoved
import Derived.Deep.RegionWith
import Derived.Deep.RegionHeld3
import Derived.Deep.DeepCutAuto
namespace Go.Proofs.Ytjkogajdpkbjeaa
open Go.RowKit
set_option maxHeartbeats 400000
set_option maxRecDepth 100000
set_option linter.unusedSimpArgs false
set_option linter.unusedVariables false

theorem nok_f (w : World) (B : Nat) (A : Option Addr) (n c : Nat) (xs : List Nat) (h : LRd w B A n c xs) (hx : vld xs = false) : Calls Try.prog 15 #[.slice A n c] w fun e w' => e = .returned (.bool false) ∧ w = w' :=
  (naturalOk_any w B A n c xs h).mono fun e w' hg => by rw [hx] at hg; exact hg
theorem bits_eq {xs zs : List Nat} {k : Nat} (hx : Lim xs) (ht : Top xs) (h : Rep 2 zs (vb 4294967296 xs)) (hl : zs.length = k) : k = nbits xs := by
  have h1 := nbits_hi hx
  have h2 := h.length_le (by decide) h1
  rcases Nat.eq_zero_or_pos (nbits xs) with e | e
  · omega
  · have h0 : xs.length ≠ 0 := fun e0 => by rw [nbits_nil e0] at e; omega
    have h3 := nbits_lo hx ht h0
    have h4 := h.lt_pow (by decide)
    have h5 : 2 ^ (nbits xs - 1) < 2 ^ zs.length := Nat.lt_of_le_of_lt h3 h4
    have := (Nat.pow_lt_pow_iff_right (by decide : 1 < 2)).1 h5
    omega
theorem shift_big {p l v : Nat} {s u1 u2 : Int} (h : ShiftV p l s v u1 u2) (h0 : 0 < l) (h1 : l ≤ 19200) (h2 : 19200 - (l : Int) < s) : v = 0 ∧ u1 = 14 ∧ u2 = -1 := by
  rcases h with ⟨a, _⟩ | ⟨_, _, b⟩ | ⟨_, a, _⟩ | ⟨_, a, _⟩
  · omega
  · exact b
  · omega
  · omega
theorem shift_fit {p l v : Nat} {s u1 u2 : Int} (h : ShiftV p l s v u1 u2) (hp : p < 2 ^ l) (h2 : ¬ (0 < l ∧ 19200 - (l : Int) < s)) : v = movedV p s ∧ u1 = 0 ∧ u2 = 0 := by
  rcases h with ⟨a, b, c⟩ | ⟨a, b, _⟩ | ⟨_, _, a, b, c⟩ | ⟨_, _, a, b, c⟩
  · refine ⟨?_, c⟩
    rcases Nat.eq_zero_or_pos l with e | e
    · subst e
      have : p = 0 := by simp at hp; exact hp
      subst this
      rw [b, moved_zero]
    · rw [b, moved_low hp (by omega) e]
  · omega
  · exact ⟨by rw [b]; unfold movedV; rw [if_pos a], c⟩
  · exact ⟨by rw [b]; unfold movedV; rw [if_neg (by omega)], c⟩
theorem big_two {m : Nat} (h : m = 600) : Big = 2 ^ (32 * m) := by rw [big_pow h, Nat.pow_mul]
theorem moved_fit {p l : Nat} {s : Int} (hp : p < 2 ^ l) (h1 : l ≤ 19200) (h2 : ¬ (0 < l ∧ 19200 - (l : Int) < s)) : movedV p s < Big := by
  obtain ⟨m, hm⟩ : ∃ m, m = 600 := ⟨_, rfl⟩
  rw [big_two hm]
  rcases Nat.eq_zero_or_pos l with e | e
  · subst e
    have : p = 0 := by simp at hp; exact hp
    subst this
    rw [moved_zero]
    exact Nat.two_pow_pos _
  · unfold movedV
    split
    · exact Nat.lt_of_le_of_lt (Nat.div_le_self _ _) (Nat.lt_of_lt_of_le hp (Nat.pow_le_pow_right (by decide) (by omega)))
    · have h3 : p * 2 ^ s.toNat < 2 ^ l * 2 ^ s.toNat := Nat.mul_lt_mul_of_pos_right hp (Nat.two_pow_pos _)
      rw [← Nat.pow_add] at h3
      exact Nat.lt_of_lt_of_le h3 (Nat.pow_le_pow_right (by decide) (by omega))
theorem m_at {W v : World} {g : Nat} {a b : Int} (P : FC W g a b) (h : Below W.heap.size W v) : Below W.heap.size W v ∧ v.cell? ⟨g, 0, none⟩ = some (.int .i64 a) ∧ v.cell? ⟨g, 1, none⟩ = some (.int .i64 b) := by
  have := P.below h P.lt
  exact ⟨h, this.c0, this.c1⟩
theorem m_next {W v v' : World} {g : Nat} {a b : Int} (P : FC W g a b) (h : Below W.heap.size W v) (hb : Below v.heap.size v v') : Below W.heap.size W v' ∧ v'.cell? ⟨g, 0, none⟩ = some (.int .i64 a) ∧ v'.cell? ⟨g, 1, none⟩ = some (.int .i64 b) :=
  m_at P (s_next h hb (Nat.le_refl _))
theorem succ_lt {r M : Nat} (h : r < 65536 ^ M) : r + 1 < 65536 ^ (M + 1) := by
  rw [Nat.pow_succ]
  have := Nat.pow_pos (n := M) (show 0 < 65536 by decide)
  omega
theorem small1_any (w : World) : Calls Try.prog 32 #[.int .i64 1] w (GivesN w 1) := small_any w 1 (by decide)
set_option maxHeartbeats 4000000 in
theorem mov_bad (w : World) (A : Option Addr) (n c : Nat) (s : Int) (xs : List Nat) (h : LRd w w.heap.size A n c xs) (hi : -9223372036854775808 ≤ s ∧ s ≤ 9223372036854775807) (hx : vld xs = false) :
    Calls Try.prog 5 #[.slice A n c, .int .i64 s] w fun e w' => e = .returned (.bool true) ∧ Below w.heap.size w w' := by
  have hcap := h.cap
  go_enter Try.func5, Try.ntmps5
  go_wp2_with fail
  refine (bits_bad w _ A n c xs h (Nat.le_refl _) hx).mono ?_
  rintro e w1 ⟨rfl, hb1⟩
  have hs1 := hb1.size
  have H1 := (h.below hb1 (Nat.le_refl _)).alloc hs1 (.cells #[.int .i64 (6), .int .i64 (-1)] 24)
  have P1 := FC.new w1 (6) (-1)
  have E1 : Below w.heap.size w (w1.alloc (.cells #[.int .i64 (6), .int .i64 (-1)] 24)) := hb1.alloc hs1 _
  go_wp2_with fail
  refine (shift_bad _ _ A n c s xs H1 (by have := E1.size; omega) hx).mono ?_
  rintro e w2 ⟨A1, j1, c1, z1, rfl, hl1, hr1, hb2⟩
  obtain rfl := nil_len hr1 hl1.len.out
  have hs2 := next_lt hb2
  have H2 := (H1.below hb2 (by have := E1.size; omega)).alloc (by have := E1.size; have := hb2.size; omega) (.cells #[.int .i64 (6), .int .i64 (-1)] 24)
  have E2 : Below w.heap.size w (w2.alloc (.cells #[.int .i64 (6), .int .i64 (-1)] 24)) := (E1.trans (hb2.mono (by have := E1.size; omega))).alloc (by have := E1.size; have := hb2.size; omega) _
  have P1 := (P1.below hb2 P1.lt).alloc (.cells #[.int .i64 (6), .int .i64 (-1)] 24)
  have P2 := FC.new w2 (6) (-1)
  clear H1 E1 hb2
  go_wp2_with fail
  refine (sqrt_bad _ _ A n c xs H2 (by have := E2.size; omega) hx).mono ?_
  rintro e w3 ⟨A3, j3, c3, z3, rfl, hl3, hr3, hb3⟩
  obtain rfl := nil_len hr3 hl3.len.out
  have hs3 := next_lt hb3
  have H3 := (H2.below hb3 (by have := E2.size; omega)).alloc (by have := E2.size; have := hb3.size; omega) (.cells #[.int .i64 (6), .int .i64 (-1)] 24)
  have E3 : Below w.heap.size w (w3.alloc (.cells #[.int .i64 (6), .int .i64 (-1)] 24)) := (E2.trans (hb3.mono (by have := E2.size; omega))).alloc (by have := E2.size; have := hb3.size; omega) _
  have P1 := (P1.below hb3 P1.lt).alloc (.cells #[.int .i64 (6), .int .i64 (-1)] 24)
  have P2 := (P2.below hb3 P2.lt).alloc (.cells #[.int .i64 (6), .int .i64 (-1)] 24)
  have P3 := FC.new w3 (6) (-1)
  clear H2 E2 hb3
  go_wp2_with fail
  refine (sums_any _).mono ?_
  rintro e w4 ⟨rfl, hb4⟩
  have H4 := H3.below hb4 E3.size
  have E4 := E3.trans (hb4.mono E3.size)
  have P1 := P1.below hb4 P1.lt
  have P2 := P2.below hb4 P2.lt
  have P3 := P3.below hb4 P3.lt
  clear H3 E3 hb4
  go_wp2_with fail
  refine (nok_f _ _ A n c xs H4 hx).mono ?_
  rintro e w' ⟨rfl, rfl⟩
  go_wp2_with fail
  refine (at_any _ _ _).mono ?_
  rintro e w5 ⟨rfl, hb5⟩
  have H5 := H4.below hb5 E4.size
  have E5 := E4.trans (hb5.mono E4.size)
  have P1 := P1.below hb5 P1.lt
  have P2 := P2.below hb5 P2.lt
  have P3 := P3.below hb5 P3.lt
  clear H4 E4 hb5
  have P1 := P1.alloc (.cells #[.int .i64 (6), .int .i64 (-1)] 24)
  have P2 := P2.alloc (.cells #[.int .i64 (6), .int .i64 (-1)] 24)
  have P3 := P3.alloc (.cells #[.int .i64 (6), .int .i64 (-1)] 24)
  have P4 := FC.new w5 6 (-1)
  have E6 := E5.alloc E5.size (.cells #[.int .i64 (6), .int .i64 (-1)] 24)
  obtain ⟨q10, q11, q12⟩ := id P1
  obtain ⟨q20, q21, q22⟩ := id P2
  obtain ⟨q30, q31, q32⟩ := id P3
  obtain ⟨q40, q41, q42⟩ := id P4
  clear P1 P2 P3 P4 H5
  go_wp2_with fail
  go_ret
  exact ⟨by first | rfl | (simp; done), E6⟩

end Go.Proofs.Ytjkogajdpkbjeaa
