/- The small readers of package natural and of the reference: Valid, NaturalOk, checkOne, checkBoth, pairFault, At. -/
import Derived.Test.YtjkogajdpkbjeaaWords
import Derived.Test.YtjkogajdpkbjeaaPure
namespace Go.Proofs.Ytjkogajdpkbjeaa
open Go.RowKit
set_option maxHeartbeats 400000
set_option maxRecDepth 100000
set_option linter.unusedSimpArgs false
set_option linter.unusedVariables false

def vld (xs : List Nat) : Bool := decide (xs.length ≤ 600) && (xs.length == 0 || xs.getD (xs.length - 1) 0 != 0)
theorem vld_nil {xs : List Nat} (h : xs.length = 0) : vld xs = true := by simp [vld, h]
theorem vld_big {xs : List Nat} (h : 600 < xs.length) : vld xs = false := by simp [vld]; omega
theorem vld_mid {xs : List Nat} {m : Nat} (h : xs.length = m + 1) (h0 : m + 1 ≤ 600) : vld xs = (nth xs m != 0) := by
  unfold vld nth
  have h1 : decide (xs.length ≤ 600) = true := by simp; omega
  have h2 : (xs.length == 0) = false := beq_eq_false_iff_ne.2 (by omega)
  rw [h1, h2, Bool.true_and, Bool.false_or, h, Bool.eq_iff_iff, bne_iff_ne, bne_iff_ne, Nat.add_sub_cancel]
  omega

theorem retb_of {a a' : Bool} (h : a = a') : Ending.returned (.bool a) = .returned (.bool a') := by rw [h]
abbrev flt (c i : Int) : Value := .agg #[.int .i64 c, .int .i64 i]

theorem valid_any (w : World) (B : Nat) (A : Option Addr) (n c : Nat) (xs : List Nat) (h : LRd w B A n c xs) :
    Calls Try.prog 14 #[.slice A n c] w fun e w' => e = .returned (.bool (vld xs)) ∧ w = w' := by
  have hl := h.len
  have hn := h.cap
  by_cases h0 : n = 0
  · subst h0
    go_enter Try.func14, Try.ntmps14
    go_wp2
    go_ret
    exact ⟨retb_of (vld_nil hl.out).symm, rfl⟩
  · by_cases h1 : n ≤ 600
    · obtain ⟨b, off, rfl, hb, hc⟩ := h.rd (by omega)
      obtain ⟨m, rfl⟩ : ∃ m, n = m + 1 := ⟨n - 1, by omega⟩
      have hcell := hc m (by omega)
      have l1 := nth_nn xs m
      have l2 := h.lim.nth m
      clear hc h0
      go_enter Try.func14, Try.ntmps14
      go_wp2
      go_ret
      exact ⟨retb_of (vld_mid hl.out h1).symm, rfl⟩
    · go_enter Try.func14, Try.ntmps14
      go_wp2
      go_ret
      exact ⟨retb_of (vld_big (by have := hl.out; omega)).symm, rfl⟩

theorem naturalOk_any (w : World) (B : Nat) (A : Option Addr) (n c : Nat) (xs : List Nat) (h : LRd w B A n c xs) :
    Calls Try.prog 15 #[.slice A n c] w fun e w' => e = .returned (.bool (vld xs)) ∧ w = w' := by
  have hl := h.len
  have hn := h.cap
  by_cases h0 : n = 0
  · subst h0
    go_enter Try.func15, Try.ntmps15
    go_wp2
    go_ret
    exact ⟨retb_of (vld_nil hl.out).symm, rfl⟩
  · by_cases h1 : n ≤ 600
    · obtain ⟨b, off, rfl, hb, hc⟩ := h.rd (by omega)
      obtain ⟨m, rfl⟩ : ∃ m, n = m + 1 := ⟨n - 1, by omega⟩
      have hcell := hc m (by omega)
      have l1 := nth_nn xs m
      have l2 := h.lim.nth m
      have l3 : (((m : Int) + 1) == 0) = false := beq_eq_false_iff_ne.2 (by omega)
      clear hc h0
      go_enter Try.func15, Try.ntmps15
      go_wp2
      go_ret
      exact ⟨retb_of (vld_mid hl.out h1).symm, rfl⟩
    · go_enter Try.func15, Try.ntmps15
      go_wp2
      go_ret
      exact ⟨retb_of (vld_big (by have := hl.out; omega)).symm, rfl⟩

theorem checkOne_ok (w : World) (B : Nat) (A : Option Addr) (n c : Nat) (xs : List Nat) (h : LRd w B A n c xs) (hB : B ≤ w.heap.size) (hv : vld xs = true) :
    Calls Try.prog 50 #[.slice A n c] w fun e w' => e = .returned (flt 0 0) ∧ Below w.heap.size w w' := by
  have h1 := fun o => h.below ((Below.refl w.heap.size w).alloc (Nat.le_refl _) o) hB
  go_enter Try.func50, Try.ntmps50
  go_wp2_with (go_at_call 14; refine (valid_any _ B A n c xs (h1 _)).mono ?_; rintro e w' ⟨rfl, rfl⟩)
  exact bodyPost_ret (v := flt 0 0) (by simp [results, Try.results50, go_sem]) rfl ⟨rfl, (Below.refl _ _).alloc (Nat.le_refl _) _⟩

theorem checkOne_bad (w : World) (B : Nat) (A : Option Addr) (n c : Nat) (xs : List Nat) (h : LRd w B A n c xs) (hB : B ≤ w.heap.size) (hv : vld xs = false) :
    Calls Try.prog 50 #[.slice A n c] w fun e w' => e = .returned (flt 6 (-1)) ∧ Below w.heap.size w w' := by
  have h1 := fun o => h.below ((Below.refl w.heap.size w).alloc (Nat.le_refl _) o) hB
  go_enter Try.func50, Try.ntmps50
  go_wp2_with (go_at_call 14; refine (valid_any _ B A n c xs (h1 _)).mono ?_; rintro e w' ⟨rfl, rfl⟩)
  exact bodyPost_ret (v := flt 6 (-1)) (by simp [results, Try.results50, go_sem]) rfl ⟨rfl, (Below.refl _ _).alloc (Nat.le_refl _) _⟩

theorem checkBoth_ok (w : World) (B : Nat) (A D : Option Addr) (n m c d : Nat) (xs ys : List Nat) (h : LRd w B A n c xs) (k : LRd w B D m d ys) (hB : B ≤ w.heap.size) (hx : vld xs = true) (hy : vld ys = true) :
    Calls Try.prog 39 #[.slice A n c, .slice D m d] w fun e w' => e = .returned (flt 0 0) ∧ Below w.heap.size w w' := by
  go_enter Try.func39, Try.ntmps39
  go_wp2_with fail
  refine (checkOne_ok _ B A n c xs (h.below (bl1 _ _) hB) (by simp; omega) hx).mono ?_
  rintro e w1 ⟨rfl, hb⟩
  obtain ⟨hc, hf⟩ := bcell hb
  have hz : w.heap.size < w1.heap.size := by have := hb.size; simp at this; omega
  have k1 := k.below ((bl1 w _).trans (hb.mono (by simp))) hB
  go_wp2_with (go_at_call 14; refine (valid_any _ B D m d ys (k1.below (bl1 _ _) (by omega))).mono ?_; rintro e w' ⟨rfl, rfl⟩)
  refine bodyPost_ret (v := flt 0 0) (by simp [results, Try.results39, go_sem, hc, hf, hz]) rfl ⟨rfl, ?_⟩
  (repeat (first | exact Below.refl _ _ | exact hb | refine Below.setCell ?_ (by simp; done) _ | refine Below.alloc ?_ (by first | omega | (simp; done) | (simp; omega)) _ | refine Below.drew ?_ | refine below_drewN ?_ _ | refine Below.trans ?_ (Below.mono hb (by first | omega | (simp; done) | (simp; omega)))))

theorem checkBoth_bad2 (w : World) (B : Nat) (A D : Option Addr) (n m c d : Nat) (xs ys : List Nat) (h : LRd w B A n c xs) (k : LRd w B D m d ys) (hB : B ≤ w.heap.size) (hx : vld xs = true) (hy : vld ys = false) :
    Calls Try.prog 39 #[.slice A n c, .slice D m d] w fun e w' => e = .returned (flt 6 (-2)) ∧ Below w.heap.size w w' := by
  go_enter Try.func39, Try.ntmps39
  go_wp2_with fail
  refine (checkOne_ok _ B A n c xs (h.below (bl1 _ _) hB) (by simp; omega) hx).mono ?_
  rintro e w1 ⟨rfl, hb⟩
  obtain ⟨hc, hf⟩ := bcell hb
  have hz : w.heap.size < w1.heap.size := by have := hb.size; simp at this; omega
  have k1 := k.below ((bl1 w _).trans (hb.mono (by simp))) hB
  go_wp2_with (go_at_call 14; refine (valid_any _ B D m d ys (k1.below (bl1 _ _) (by omega))).mono ?_; rintro e w' ⟨rfl, rfl⟩)
  refine bodyPost_ret (v := flt 6 (-2)) (by simp [results, Try.results39, go_sem, hc, hf, hz]) rfl ⟨rfl, ?_⟩
  (repeat (first | exact Below.refl _ _ | exact hb | refine Below.setCell ?_ (by simp; done) _ | refine Below.alloc ?_ (by first | omega | (simp; done) | (simp; omega)) _ | refine Below.drew ?_ | refine below_drewN ?_ _ | refine Below.trans ?_ (Below.mono hb (by first | omega | (simp; done) | (simp; omega)))))

theorem checkBoth_bad1 (w : World) (B : Nat) (A D : Option Addr) (n m c d : Nat) (xs : List Nat) (h : LRd w B A n c xs) (hB : B ≤ w.heap.size) (hx : vld xs = false) :
    Calls Try.prog 39 #[.slice A n c, .slice D m d] w fun e w' => e = .returned (flt 6 (-1)) ∧ Below w.heap.size w w' := by
  go_enter Try.func39, Try.ntmps39
  go_wp2_with fail
  refine (checkOne_bad _ B A n c xs (h.below (bl1 _ _) hB) (by simp; omega) hx).mono ?_
  rintro e w1 ⟨rfl, hb⟩
  obtain ⟨hc, hf⟩ := bcell hb
  have hz : w.heap.size < w1.heap.size := by have := hb.size; simp at this; omega
  go_wp2
  refine bodyPost_ret (v := flt 6 (-1)) (by simp [results, Try.results39, go_sem, hc, hf, hz]) rfl ⟨rfl, ?_⟩
  (repeat (first | exact Below.refl _ _ | exact hb | refine Below.setCell ?_ (by simp; done) _ | refine Below.alloc ?_ (by first | omega | (simp; done) | (simp; omega)) _ | refine Below.drew ?_ | refine below_drewN ?_ _ | refine Below.trans ?_ (Below.mono hb (by first | omega | (simp; done) | (simp; omega)))))

theorem at_any (a b : Int) (w : World) :
    Calls Try.prog 16 #[.int .i64 a, .int .i64 b] w fun e w' => e = .returned (flt a b) ∧ Below w.heap.size w w' := by
  go_enter Try.func16, Try.ntmps16
  go_wp2
  refine bodyPost_ret (v := flt a b) (by simp [results, Try.results16, go_sem]) rfl ⟨rfl, ?_⟩
  (repeat (first | exact Below.refl _ _ | refine Below.setCell ?_ (by simp; done) _ | refine Below.alloc ?_ (by first | omega | (simp; done) | (simp; omega)) _ | refine Below.drew ?_ | refine below_drewN ?_ _))

theorem pairFault_ok (w : World) (B : Nat) (A D : Option Addr) (n m c d : Nat) (xs ys : List Nat) (h : LRd w B A n c xs) (k : LRd w B D m d ys) (hB : B ≤ w.heap.size) (hx : vld xs = true) (hy : vld ys = true) :
    Calls Try.prog 8 #[.slice A n c, .slice D m d] w fun e w' => e = .returned (flt 0 0) ∧ Below w.heap.size w w' := by
  go_enter Try.func8, Try.ntmps8
  go_wp2_with fail
  refine (naturalOk_any _ B A n c xs (h.below (bl1 _ _) hB)).mono ?_
  rintro e w' ⟨rfl, rfl⟩
  go_wp2_with fail
  refine (naturalOk_any _ B D m d ys (k.below (bl1 _ _) hB)).mono ?_
  rintro e w' ⟨rfl, rfl⟩
  go_wp2
  refine bodyPost_ret (v := flt 0 0) (by simp [results, Try.results8, go_sem]) rfl ⟨rfl, ?_⟩
  (repeat (first | exact Below.refl _ _ | refine Below.setCell ?_ (by simp; done) _ | refine Below.alloc ?_ (by first | omega | (simp; done) | (simp; omega)) _ | refine Below.drew ?_ | refine below_drewN ?_ _))

theorem pairFault_bad2 (w : World) (B : Nat) (A D : Option Addr) (n m c d : Nat) (xs ys : List Nat) (h : LRd w B A n c xs) (k : LRd w B D m d ys) (hB : B ≤ w.heap.size) (hx : vld xs = true) (hy : vld ys = false) :
    Calls Try.prog 8 #[.slice A n c, .slice D m d] w fun e w' => e = .returned (flt 6 (-2)) ∧ Below w.heap.size w w' := by
  go_enter Try.func8, Try.ntmps8
  go_wp2_with fail
  refine (naturalOk_any _ B A n c xs (h.below (bl1 _ _) hB)).mono ?_
  rintro e w' ⟨rfl, rfl⟩
  go_wp2_with fail
  refine (naturalOk_any _ B D m d ys (k.below (bl1 _ _) hB)).mono ?_
  rintro e w' ⟨rfl, rfl⟩
  go_wp2_with fail
  refine (at_any _ _ _).mono ?_
  rintro e w1 ⟨rfl, hb⟩
  obtain ⟨hc, hf⟩ := bcell hb
  have hz : w.heap.size < w1.heap.size := by have := hb.size; simp at this; omega
  go_wp2
  refine bodyPost_ret (v := flt 6 (-2)) (by simp [results, Try.results8, go_sem, hc, hf, hz]) rfl ⟨rfl, ?_⟩
  (repeat (first | exact Below.refl _ _ | exact hb | refine Below.setCell ?_ (by simp; done) _ | refine Below.alloc ?_ (by first | omega | (simp; done) | (simp; omega)) _ | refine Below.drew ?_ | refine below_drewN ?_ _ | refine Below.trans ?_ (Below.mono hb (by first | omega | (simp; done) | (simp; omega)))))

theorem pairFault_bad1 (w : World) (B : Nat) (A D : Option Addr) (n m c d : Nat) (xs : List Nat) (h : LRd w B A n c xs) (hB : B ≤ w.heap.size) (hx : vld xs = false) :
    Calls Try.prog 8 #[.slice A n c, .slice D m d] w fun e w' => e = .returned (flt 6 (-1)) ∧ Below w.heap.size w w' := by
  go_enter Try.func8, Try.ntmps8
  go_wp2_with fail
  refine (naturalOk_any _ B A n c xs (h.below (bl1 _ _) hB)).mono ?_
  rintro e w' ⟨rfl, rfl⟩
  go_wp2_with fail
  refine (at_any _ _ _).mono ?_
  rintro e w1 ⟨rfl, hb⟩
  obtain ⟨hc, hf⟩ := bcell hb
  have hz : w.heap.size < w1.heap.size := by have := hb.size; simp at this; omega
  go_wp2
  refine bodyPost_ret (v := flt 6 (-1)) (by simp [results, Try.results8, go_sem, hc, hf, hz]) rfl ⟨rfl, ?_⟩
  (repeat (first | exact Below.refl _ _ | exact hb | refine Below.setCell ?_ (by simp; done) _ | refine Below.alloc ?_ (by first | omega | (simp; done) | (simp; omega)) _ | refine Below.drew ?_ | refine below_drewN ?_ _ | refine Below.trans ?_ (Below.mono hb (by first | omega | (simp; done) | (simp; omega)))))

end Go.Proofs.Ytjkogajdpkbjeaa
