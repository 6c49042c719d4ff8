/- The law's examples. -/
import Derived.Test.YtjkogajdpkbjeaaIs
namespace Go.Proofs.Ytjkogajdpkbjeaa
open Go.RowKit
set_option maxHeartbeats 400000
set_option maxRecDepth 100000
set_option linter.unusedSimpArgs false
set_option linter.unusedVariables false

theorem big_gt {x : Nat} (h : x < 4294967296 * 4294967296) : x < Big := by
  obtain ⟨t, ht⟩ : ∃ t, t = 600 := ⟨_, rfl⟩
  have h2 : 4294967296 ^ 2 ≤ 4294967296 ^ t := Nat.pow_le_pow_right (by decide) (by omega)
  rw [big_pow ht]
  rw [Nat.pow_succ, Nat.pow_one] at h2
  omega
theorem rep1 (a : Nat) (ha : a < 4294967296) (h0 : a ≠ 0) : Rep 4294967296 [a] a := by
  refine ⟨fun x hx => by rw [List.mem_singleton] at hx; omega, vb_one _ _, fun m hm => ?_⟩
  obtain rfl : m = 0 := by simpa using hm.symm
  exact h0
theorem rep2 (a b : Nat) (ha : a < 4294967296) (hb : b < 4294967296) (h0 : b ≠ 0) : Rep 4294967296 [a, b] (a + 4294967296 * b) := by
  refine ⟨fun x hx => by simp at hx; omega, by rw [vb_cons, vb_one], fun m hm => ?_⟩
  obtain rfl : m = 1 := by simpa using hm.symm
  exact h0
theorem rep_vld {xs : List Nat} (ht : Top xs) (hl : xs.length ≤ 600) : vld xs = true := by
  unfold vld
  simp only [Bool.and_eq_true, decide_eq_true_eq, Bool.or_eq_true, beq_iff_eq, bne_iff_ne]
  refine ⟨hl, ?_⟩
  rcases Nat.eq_zero_or_pos xs.length with e | e
  · exact .inl e
  · exact .inr (ht (xs.length - 1) (by omega))
theorem lrd1 (w : World) (g : Nat) (hg : w.heap.size = g) (v : Int) (x : Nat) (hv : v = x) (hx : x < 4294967296) : LRd (w.alloc (.cells #[.int .u32 v] 58)) (g + 1) (some ⟨g, 0, none⟩) 1 1 [x] := by
  subst hg
  have o1 := one_row w v (by omega)
  have e : v.toNat = x := by omega
  rw [e] at o1
  exact o1.lrdAll (by intro y hy; rw [List.mem_singleton] at hy; omega) (by omega) (by show _ = _; rfl) (by omega)
theorem lrd2 (w : World) (g : Nat) (hg : w.heap.size = g) (v u : Int) (x y : Nat) (hv : v = x) (hu : u = y) (hx : x < 4294967296) (hy : y < 4294967296) : LRd (w.alloc (.cells #[.int .u32 v, .int .u32 u] 58)) (g + 1) (some ⟨g, 0, none⟩) 2 2 [x, y] := by
  subst hg; subst hv; subst hu
  have o1 : R32 (w.alloc (.cells #[.int .u32 (x : Int), .int .u32 (y : Int)] 58)) w.heap.size [x, y] := ⟨[], Row.new w 58 [.int .u32 (x : Int), .int .u32 (y : Int)]⟩
  exact o1.lrdAll (by intro z hz; simp at hz; omega) (by omega) (by show _ = _; rfl) (by omega)
theorem sqrt_of (s : Nat) (h1 : s * s ≤ 4294967296) (h2 : 4294967296 < (s + 1) * (s + 1)) : s = 65536 := by
  rcases Nat.lt_trichotomy s 65536 with e | e | e
  · have : (s + 1) * (s + 1) ≤ 65536 * 65536 := Nat.mul_le_mul e e
    omega
  · exact e
  · have : 65537 * 65537 ≤ s * s := Nat.mul_le_mul e e
    omega

set_option maxHeartbeats 4000000 in
theorem sums_any (w : World) : Calls Try.prog 13 #[] w fun e w' => e = .returned (.bool true) ∧ Below w.heap.size w w' := by
  have l1 := ((lrd1 w w.heap.size rfl 4294967295 4294967295 rfl (by omega)).alloc (by simp) (.cells #[.int .u32 1] 58)).more (B' := w.heap.size + 2) (by omega)
  have l2 := (lrd1 (w.alloc (.cells #[.int .u32 4294967295] 58)) (w.heap.size + 1) (by simp) 1 1 rfl (by omega)).more (B' := w.heap.size + 2) (by omega)
  have HA := Lib.hid (add_ok _ _ _ _ _ _ _ _ _ _ l1 l2 (by simp) (rep_vld (rep1 4294967295 (by omega) (by omega)).top (by simp)) (rep_vld (rep1 1 (by omega) (by omega)).top (by simp)))
  go_enter Try.func13, Try.ntmps13
  go_wp2_with fail
  refine HA.out.mono ?_
  rintro e w1 hg
  rcases hg with ⟨_, A1, k1, c1, z1, rfl, hl1, hr1, hb1⟩ | ⟨hbig, _⟩
  · rw [vb_one, vb_one] at hr1
    obtain rfl : z1 = [0, 1] := hr1.unique (by decide) (rep2 0 1 (by omega) (by omega) (by omega))
    obtain ⟨hc1, hf1⟩ := bcell hb1
    have hz1 : w.heap.size + 1 < w1.heap.size := by have := hb1.size; simp at this; omega
    have hbb1 : Below w.heap.size w w1 := ((bl1 w _).alloc (by simp) _).trans (hb1.mono (by simp; omega))
    have m1 := ((lrd2 (w1.alloc (.cells #[.int .i64 0, .int .i64 0] 24)) (w1.heap.size + 1) (by simp) 7 1 7 1 rfl rfl (by omega) (by omega)).alloc (by simp) (.cells #[.int .u32 8] 58)).more (B' := w1.heap.size + 3) (by omega)
    have m2 := (lrd1 ((w1.alloc (.cells #[.int .i64 0, .int .i64 0] 24)).alloc (.cells #[.int .u32 7, .int .u32 1] 58)) (w1.heap.size + 1 + 1) (by simp) 8 8 rfl (by omega)).more (B' := w1.heap.size + 3) (by omega)
    have HB := Lib.hid (divmod_ok _ _ _ _ _ _ _ _ _ _ m1 m2 (by simp) (rep_vld (rep2 7 1 (by omega) (by omega) (by omega)).top (by simp)) (rep_vld (rep1 8 (by omega) (by omega)).top (by simp)))
    clear HA l1 l2 hr1 hc1 hf1 hb1 m1 m2
    go_wp2_with fail
    refine HB.out.mono ?_
    rintro e w2 hg
    rcases hg with ⟨h0, _⟩ | ⟨_, A2, k2, c2, z2, A3, k3, c3, z3, rfl, hl2, hr2, hl3, hr3, hb2⟩
    · simp at h0
    · rw [vb_cons, vb_one, vb_one] at hr2 hr3
      obtain rfl : z2 = [536870912] := hr2.unique (by decide) (rep1 536870912 (by omega) (by omega))
      obtain rfl : z3 = [7] := hr3.unique (by decide) (rep1 7 (by omega) (by omega))
      obtain ⟨hc2, hf2⟩ := bcell hb2
      have hz2 : w1.heap.size + 2 < w2.heap.size := by have := hb2.size; simp at this; omega
      have hz2' : w1.heap.size < w2.heap.size := by omega
      have hbb2 : Below w.heap.size w w2 := (((hbb1.alloc (by omega) _).alloc (by simp; omega) _).alloc (by simp; omega) _).trans (hb2.mono (by simp; omega))
      have hl1b := (((hl1.alloc (Nat.le_refl _) (.cells #[.int .i64 0, .int .i64 0] 24)).alloc (by simp) (.cells #[.int .u32 7, .int .u32 1] 58)).alloc (by simp; omega) (.cells #[.int .u32 8] 58)).below hb2 (by simp; omega)
      have c20 : w2.cell? ⟨w1.heap.size, 0, none⟩ = some (.int .i64 0) := by rw [hc2 w1.heap.size 0 (by simp; omega)]; simp [go_sem]
      have m3 := (lrd2 (w2.alloc (.cells #[.int .i64 0, .int .i64 0] 24)) (w2.heap.size + 1) (by simp) 0 1 0 1 rfl rfl (by omega) (by omega)).more (B' := w2.heap.size + 2) (by omega)
      have HC := Lib.hid (sqrt_ok _ _ _ _ _ _ m3 (by simp) (rep_vld (rep2 0 1 (by omega) (by omega) (by omega)).top (by simp)))
      clear HB hr2 hr3 hc2 hf2 hb2 m3
      go_wp2_with fail
      refine HC.out.mono ?_
      rintro e w3 ⟨r, hr1, hr2, A4, k4, c4, z4, rfl, hl4, hr4, hb3⟩
      rw [vb_cons, vb_one] at hr1 hr2
      obtain rfl : r = 65536 := sqrt_of r (by omega) (by omega)
      obtain rfl : z4 = [65536] := hr4.unique (by decide) (rep1 65536 (by omega) (by omega))
      obtain ⟨hc3, hf3⟩ := bcell hb3
      have hz3 : w2.heap.size + 1 < w3.heap.size := by have := hb3.size; simp at this; omega
      have hz3' : w2.heap.size < w3.heap.size := by omega
      have hz3'' : w1.heap.size < w3.heap.size := by omega
      have c30 : w3.cell? ⟨w2.heap.size, 0, none⟩ = some (.int .i64 0) := by rw [hc3 w2.heap.size 0 (by simp; omega)]; simp [go_sem]
      have c31 : w3.cell? ⟨w1.heap.size, 0, none⟩ = some (.int .i64 0) := by rw [hc3 w1.heap.size 0 (by simp; omega)]; simp [go_sem, c20, hz2']
      have hbb3 : Below w.heap.size w w3 := ((hbb2.alloc (by omega) _).alloc (by simp; omega) _).trans (hb3.mono (by simp; omega))
      have q1 := ((hl1b.alloc (by omega) (.cells #[.int .i64 0, .int .i64 0] 24)).alloc (by simp; omega) (.cells #[.int .u32 0, .int .u32 1] 58)).below hb3 (by simp; omega)
      have q2 := ((hl2.alloc (by omega) (.cells #[.int .i64 0, .int .i64 0] 24)).alloc (by simp) (.cells #[.int .u32 0, .int .u32 1] 58)).below hb3 (by simp; omega)
      have q3 := ((hl3.alloc (by omega) (.cells #[.int .i64 0, .int .i64 0] 24)).alloc (by simp) (.cells #[.int .u32 0, .int .u32 1] 58)).below hb3 (by simp; omega)
      clear HC hr1 hr2 hr4 hc3 hf3 hb3 hl1 hl1b hl2 hl3 c20
      go_wp2_with fail
      refine (sameLimbs_any _ (w3.heap.size + 6) _ _ _ _ _ _ [0, 1] [0, 1] (by refine LRd.more (B := w1.heap.size) ?_ (by omega); repeat (first | exact q1 | refine LRd.drewN ?_ _ | refine LRd.alloc ?_ (by first | omega | (simp; done) | (simp; omega)) _)) (by exact (lrd2 _ _ (by simp) 0 1 0 1 rfl rfl (by omega) (by omega)).more (by omega))).mono ?_
      rintro e w4 ⟨rfl, a, rfl⟩
      have hs := sameB_refl [0, 1]
      go_wp2_with fail
      refine (sameLimbs_any _ (w3.heap.size + 6) _ _ _ _ _ _ [536870912] [536870912] (by refine LRd.more (B := w2.heap.size) ?_ (by omega); repeat (first | exact q2 | refine LRd.drewN ?_ _ | refine LRd.alloc ?_ (by first | omega | (simp; done) | (simp; omega)) _)) (by first | exact (lrd1 _ _ (by simp) 536870912 536870912 rfl (by omega)).more (by omega) | (refine LRd.drewN ?_ _; exact (lrd1 _ _ (by simp) 536870912 536870912 rfl (by omega)).more (by omega)))).mono ?_
      rintro e w4 ⟨rfl, a, rfl⟩
      have hs := sameB_refl [536870912]
      go_wp2_with fail
      refine (sameLimbs_any _ (w3.heap.size + 6) _ _ _ _ _ _ [7] [7] (by refine LRd.more (B := w2.heap.size) ?_ (by omega); repeat (first | exact q3 | refine LRd.drewN ?_ _ | refine LRd.alloc ?_ (by first | omega | (simp; done) | (simp; omega)) _)) (by first | exact (lrd1 _ _ (by simp) 7 7 rfl (by omega)).more (by omega) | (refine LRd.drewN ?_ _; exact (lrd1 _ _ (by simp) 7 7 rfl (by omega)).more (by omega)))).mono ?_
      rintro e w4 ⟨rfl, a, rfl⟩
      have hs := sameB_refl [7]
      go_wp2_with fail
      refine (sameLimbs_any _ (w3.heap.size + 6) _ _ _ _ _ _ [65536] [65536] (by refine LRd.more (B := w3.heap.size) ?_ (by omega); repeat (first | exact hl4 | refine LRd.drewN ?_ _ | refine LRd.alloc ?_ (by first | omega | (simp; done) | (simp; omega)) _)) (by first | exact (lrd1 _ _ (by simp) 65536 65536 rfl (by omega)).more (by omega) | (refine LRd.drewN ?_ _; exact (lrd1 _ _ (by simp) 65536 65536 rfl (by omega)).more (by omega)))).mono ?_
      rintro e w4 ⟨rfl, a, rfl⟩
      have hs := sameB_refl [65536]
      go_wp2_with fail
      go_ret
      refine ⟨retb_of rfl, ?_⟩
      (repeat (first | exact Below.refl _ _ | exact hbb3 | refine Below.setCell ?_ (by simp; done) _ | refine Below.alloc ?_ (by first | omega | (simp; done) | (simp; omega)) _ | refine Below.drew ?_ | refine below_drewN ?_ _ | refine Below.trans ?_ (Below.mono hbb3 (by first | omega | (simp; done) | (simp; omega)))))
  · exfalso
    rw [vb_one, vb_one] at hbig
    have := big_gt (x := 4294967295 + 1) (by omega)
    omega
end Go.Proofs.Ytjkogajdpkbjeaa
