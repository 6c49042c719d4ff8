/- IntegerBits: contracts for the law. -/
import Derived.Test.YtpjfoggohhlbdaaVBit10
import Derived.Test.YtpjfoggohhlbdaaVBit12
import Derived.Test.YtpjfoggohhlbdaaVBit13
import Derived.Test.YtpjfoggohhlbdaaVBit14
import Derived.Test.YtpjfoggohhlbdaaVBit15
import Derived.Test.YtpjfoggohhlbdaaVAri1
import Derived.Test.YtpjfoggohhlbdaaVDvs1
import Derived.Test.YtpjfoggohhlbdaaVInt22
namespace Go.Proofs.Ytpjfoggohhlbdaa
open Go.RowKit
set_option maxHeartbeats 400000
set_option maxRecDepth 100000
set_option linter.unusedSimpArgs false
set_option linter.unusedVariables false

def GivesRS (w : World) (m : Bool) (v : Nat) (e : Ending) (w' : World) : Prop :=
  ∃ A k c zs, e = .returned (intv m A k c) ∧ DRd w' w'.heap.size A k c zs ∧ Rep 65536 zs v ∧ Below w.heap.size w w'
set_option maxHeartbeats 2000000 in
theorem intOf_sgn (w : World) (B : Nat) (m : Bool) (A : Option Addr) (n c : Nat) (xs : List Nat) (h : LRd w B A n c xs) (hB : B ≤ w.heap.size) (hn : n ≤ 100000) :
    Calls Try.prog 27 #[intv m A n c] w (GivesRS w m (vb 4294967296 xs)) := by
  have R2 := RB.new w m false A none n c 0 0 24 37
  obtain ⟨W, hW⟩ : ∃ W : World, W = (w.alloc (.cells #[.bool m, .slice A n c] 24)).alloc (.cells #[.bool false, .slice none 0 0] 37) := ⟨_, rfl⟩
  have H2 : LRd W B A n c xs := by rw [hW]; exact (h.alloc hB _).alloc (by simp; omega) _
  have B2 : Below w.heap.size w W := by rw [hW]; exact (bl1 w _).alloc (by simp) _
  have sW : W.heap.size = w.heap.size + 2 := by rw [hW]; simp
  rw [← hW] at R2
  have G0 : Below W.heap.size W W.drew := Below.drew (Below.refl _ _)
  have TT := fun (v : World) (hv : Below W.heap.size W v) => of_any v B A n c xs (H2.below hv (by omega)) (le_at2' (by omega : B ≤ W.heap.size) hv) (by omega)
  obtain ⟨a0, a1, r0, r1, f0, f1, _⟩ := id (R2.below G0 R2.lt)
  go_enter Try.func27, Try.ntmps27
  go_wp2_with fail
  rw [← hW]
  clear hW
  go_region_with (go_at_call 41; go_loud (refine (TT _ (by first | exact G0 | exact Below.drew G0 | exact Below.drew (Below.drew G0))).mono ?_; rintro e w5 ⟨A5, k5, c5, zs, rfl, hZ, hZr, hb5⟩; obtain ⟨p0, p1, p2, p3, p4, p5, _⟩ := id ((R2.below G0 R2.lt).below hb5 (by simp; omega))))
  all_goals (go_wp2_with fail)
  all_goals
    have R5 := (R2.below G0 R2.lt).below hb5 (by simp; omega)
    have hS := hZ.setRB R5 (.bool m) (.slice A5 k5 c5)
    have hz5 := hb5.size
    first
      | refine bodyPost_ret (v := intv m A5 k5 c5) (by simp [results, Try.results27, go_sem, p2, p3]) rfl ⟨A5, k5, c5, zs, rfl, DRd.more hS (by simp), hZr, ?_⟩
      | refine bodyPost_ret (v := intv m A5 k5 c5) (by simp [results, Try.results27, go_sem, p2, p3]) rfl ⟨A5, k5, c5, zs, rfl, DRd.keep (DRd.more hS (by simp)) (fun _ _ => rfl), hZr, ?_⟩
    (repeat (first | exact Below.refl _ _ | exact B2 | refine Below.drew ?_ | refine below_drewN ?_ _ | refine Below.setCell ?_ (by first | (simp; done) | (simp; omega)) _ | refine Below.trans ?_ (Below.mono hb5 (by first | omega | (simp; done) | (simp; omega)))))
theorem imv_any (w : World) (B : Nat) (m : Bool) (A : Option Addr) (k c p : Nat) (i : Int) (i1 : -9223372036854775808 ≤ i) (i2 : i ≤ 9223372036854775807) (xs : List Nat) (H : DRd w B A k c xs) (hB : B ≤ w.heap.size) (hk : k ≤ 100000) (hx : Rep 65536 xs p) (hi9 : i ≤ 1000000 ∨ p = 0) (hm : m = true → 0 < p) :
    Calls Try.prog 54 #[intv m A k c, .int .i64 i] w (GivesR w (zshift (sval m p) i)) := by
  cases m
  · exact imv_f w B A k c p i i1 i2 xs H hB hk hx hi9
  · rcases Int.lt_or_le i 0 with h | h
    · have hp := hm rfl
      have h0 : 0 < k := by
        rcases Nat.eq_zero_or_pos k with e | e
        · exfalso
          have h1 := hx.val
          rw [List.eq_nil_of_length_eq_zero (H.len.out.trans e), vb_nil] at h1
          omega
        · exact e
      exact imv_n w B A k c p i i1 i2 xs H hB hk h0 hx hp h
    · exact imv_t w B A k c p i i1 i2 xs H hB hk hx hi9 h
theorem yieldsv (w : World) (B : Nat) (n : Bool) (A : Option Addr) (l c : Nat) (xs : List Nat) (m : Bool) (D : Option Addr) (k d v : Nat) (zs : List Nat) (z z' f1 f2 : Int) (HA : LRd w B A l c xs) (HD : DRd w B D k d zs) (hB : B ≤ w.heap.size) (hy : YR z z' f1 f2) (hI : IRep n xs z') (hz : Rep 65536 zs v) (hv : sval m v = z) (hk : k ≤ 100000) :
    Calls Try.prog 30 #[intv n A l c, flt f1 f2, intv m D k d, flt 0 0] w (fun e w' => e = .returned (.bool true) ∧ Below w.heap.size w w') := yields_any w B (IV.mk n A l c xs) m D k d v zs z z' f1 f2 HA HD hB hy hI hz hv hk
theorem irep_nilB {n : Bool} {zs : List Nat} {k : Nat} (h : IRep n zs 0) (hl : zs.length = k) : k = 0 ∧ n = false := by
  refine ⟨?_, by rw [h.sgn]; rfl⟩
  have := h.rep
  exact nil_len (by simpa using this) hl
theorem ok_neg {a : IV} (h : a.ok = true) (hl : Lim a.xs) (hn : a.neg = true) : 0 < vb 4294967296 a.xs := by
  have h1 := IV.neg_lt h hl hn
  rw [IV.vneg hn] at h1
  omega
theorem ok_lt {a : IV} (h : a.ok = true) (hl : Lim a.xs) : vb 4294967296 a.xs < Top128 := lt128 (⟨hl, rfl, (vld_top (IV.vld h).1).1⟩ : Rep 4294967296 a.xs _) rfl (IV.vld h).2
theorem k_small {zs : List Nat} {v k : Nat} {m : Bool} {z : Int} (h : Rep 65536 zs v) (hl : zs.length = k) (hv : sval m v = z) (hz : z.natAbs < Top128 * Top128) : k ≤ 100000 := by
  rw [← hv, sval_abs] at hz
  exact len512 h hl hz
theorem zr_abs {N : Nat} {z : Int} (h : ∃ s, ∀ j, N ≤ j → zbit z j = s) : z.natAbs ≤ 2 ^ N := by
  obtain ⟨s, hs⟩ := h
  have key : ∀ m : Nat, (∀ j, N ≤ j → m.testBit j = false) → m < 2 ^ N := fun m hm => Nat.lt_pow_two_of_testBit m hm
  have far : ∀ m : Nat, m.testBit (N + m) = false := fun m => testBit_high (Nat.lt_of_lt_of_le Nat.lt_two_pow_self (Nat.pow_le_pow_right (by decide) (by omega)))
  cases z with
  | ofNat m =>
    have h0 : s = false := by rw [← hs (N + m) (by omega)]; exact far m
    subst h0
    exact Nat.le_of_lt (key m hs)
  | negSucc m =>
    have h0 : s = true := by rw [← hs (N + m) (by omega)]; show (!(m.testBit (N + m))) = true; rw [far m]; rfl
    subst h0
    have := key m (fun j hj => by have h1 := hs j hj; change (!(m.testBit j)) = true at h1; simpa using h1)
    show m + 1 ≤ 2 ^ N
    omega
theorem ediv_abs_le {d : Int} (hd : 0 < d) (z : Int) : (z / d).natAbs ≤ z.natAbs + 1 := by
  rcases Int.lt_or_le z 0 with h | h
  · obtain ⟨p, hp, rfl⟩ : ∃ p : Nat, 0 < p ∧ z = -(p : Int) := ⟨z.natAbs, by omega, by omega⟩
    obtain ⟨k, rfl⟩ := Int.eq_ofNat_of_zero_le (show 0 ≤ d by omega)
    rw [floor_neg hp (by omega), Int.natAbs_neg, Int.natAbs_natCast]
    have := Nat.div_le_self (p - 1) k
    omega
  · obtain ⟨p, rfl⟩ := Int.eq_ofNat_of_zero_le h
    obtain ⟨k, rfl⟩ := Int.eq_ofNat_of_zero_le (show 0 ≤ d by omega)
    rw [← Int.natCast_ediv, Int.natAbs_natCast, Int.natAbs_natCast]
    have := Nat.div_le_self p k
    omega
theorem top_4 : 4 < Top128 := by
  obtain ⟨m, hm⟩ : ∃ m, m = 127 := ⟨_, rfl⟩
  rw [top128 (m := m + 1) (by omega), Nat.pow_succ]
  have := Nat.pow_pos (n := m) (show 0 < 4294967296 by decide)
  omega
theorem sq_of {n : Nat} (h : n ≤ 2 * Top128) : n < Top128 * Top128 := by
  have h2 := top_4
  have := Nat.mul_le_mul_right Top128 (show 3 ≤ Top128 by omega)
  omega
theorem shift_sq {z i : Int} (h : z.natAbs < Top128) (hi : i ≤ 4096 ∨ z = 0) : (zshift z i).natAbs < Top128 * Top128 := by
  unfold zshift
  have h4 := top_4
  rcases hi with hi | rfl
  · split
    · rename_i h0
      have h1 : (z / ((2 ^ (-i).toNat : Nat) : Int)).natAbs ≤ z.natAbs + 1 := by
        have hp : (0 : Int) < ((2 ^ (-i).toNat : Nat) : Int) := by have := Nat.two_pow_pos (-i).toNat; omega
        have e1 := ediv_abs_le hp z
        exact e1
      exact sq_of (by omega)
    · rw [Int.natAbs_mul, Int.natAbs_natCast]
      have h1 : 2 ^ i.toNat ≤ Top128 := by
        obtain ⟨m, hm⟩ : ∃ m, m = 128 := ⟨_, rfl⟩
        rw [top128 hm]
        have e : 4294967296 ^ m = 2 ^ (32 * m) := by rw [Nat.pow_mul]
        rw [e]
        exact Nat.pow_le_pow_right (by decide) (by omega)
      exact Nat.lt_of_lt_of_le (Nat.mul_lt_mul_of_pos_right h (Nat.two_pow_pos _)) (Nat.mul_le_mul_left _ h1)
  · split
    · simp; exact Nat.mul_pos (by omega) (by omega)
    · simp; exact Nat.mul_pos (by omega) (by omega)
theorem zop_sq {f : Bool → Bool → Bool} {a b z : Int} (h : ZOp f a b z) (ha : ∃ s, ∀ j, 4096 ≤ j → zbit a j = s) (hb : ∃ s, ∀ j, 4096 ≤ j → zbit b j = s) : z.natAbs < Top128 * Top128 := by
  obtain ⟨s, hs⟩ := ha
  obtain ⟨t, ht⟩ := hb
  have e := zr_abs (N := 4096) (z := z) ⟨f s t, fun j hj => by rw [h j, hs j hj, ht j hj]⟩
  refine sq_of ?_
  obtain ⟨m, hm⟩ : ∃ m, m = 128 := ⟨_, rfl⟩
  obtain ⟨N, hN⟩ : ∃ N, N = 4096 := ⟨_, rfl⟩
  rw [← hN] at e
  rw [top128 hm]
  have e2 : 4294967296 ^ m = 2 ^ (32 * m) := by rw [Nat.pow_mul]
  rw [e2, show 32 * m = N by omega]
  omega
theorem shift_big {z i : Int} (hz : z ≠ 0) (hi : 4096 < i) : Top128 ≤ (zshift z i).natAbs := by
  unfold zshift
  rw [if_neg (by omega), Int.natAbs_mul, Int.natAbs_natCast]
  obtain ⟨m, hm⟩ : ∃ m, m = 128 := ⟨_, rfl⟩
  rw [top128 hm]
  have e : 4294967296 ^ m = 2 ^ (32 * m) := by rw [Nat.pow_mul]
  rw [e]
  have h1 : 2 ^ (32 * m) ≤ 2 ^ i.toNat := Nat.pow_le_pow_right (by decide) (by omega)
  have h2 : 1 * 2 ^ i.toNat ≤ z.natAbs * 2 ^ i.toNat := Nat.mul_le_mul_right _ (by omega)
  omega
end Go.Proofs.Ytpjfoggohhlbdaa
