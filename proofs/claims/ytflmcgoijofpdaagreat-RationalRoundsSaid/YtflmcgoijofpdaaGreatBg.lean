/- Package integer: sum. Package integer: Add, Sub. Package integer: Gcd. -/
import Derived.Test.YtflmcgoijofpdaaGreatBf
import Derived.Deep.RegionWith
import Derived.Test.YtflmcgoijofpdaaGreatBc
namespace Go.Proofs.YtflmcgoijofpdaaGreat
open Go.RowKit
set_option maxHeartbeats 400000
set_option maxRecDepth 100000
set_option linter.unusedSimpArgs false
set_option linter.unusedVariables false

/-- The boxes exchanged. -/
theorem Fr2.swap {w : World} {s : Nat} {a b : IV} (h : Fr2 w s a b) :
    Fr2 ((((w.setCell ⟨s, 0, none⟩ (.bool b.neg)).setCell ⟨s, 1, none⟩ (.slice b.A b.n b.c)).setCell ⟨s + 1, 0, none⟩ (.bool a.neg)).setCell ⟨s + 1, 1, none⟩ (.slice a.A a.n a.c)) s b a := by
  have n1 : ∀ {w : World} {p q : Addr} {u : Value}, p ≠ q → (w.setCell p u).cell? q = w.cell? q := fun hpq => World.cell?_setCell_other _ _ _ _ hpq
  have sm : ∀ {w : World} {p : Addr} {u x : Value}, w.cell? p = some x → (w.setCell p u).cell? p = some u := fun hx => World.cell?_setCell_same _ _ _ hx
  refine ⟨?_, ?_, ?_, ?_, ?_, ?_, ?_, ?_, fun t o ht => ?_, by simpa using h.lt⟩
  · rw [n1 (by simp), n1 (by simp), n1 (by simp)]; exact sm h.a0
  · rw [n1 (by simp), n1 (by simp)]; exact sm ((n1 (by simp)).trans h.a1)
  · rw [n1 (by simp)]; exact sm ((n1 (by simp)).trans ((n1 (by simp)).trans h.b0))
  · exact sm ((n1 (by simp)).trans ((n1 (by simp)).trans ((n1 (by simp)).trans h.b1)))
  · rw [n1 (by simp), n1 (by simp), n1 (by simp), n1 (by simp)]; exact h.r0
  · rw [n1 (by simp), n1 (by simp), n1 (by simp), n1 (by simp)]; exact h.r1
  · rw [n1 (by simp), n1 (by simp), n1 (by simp), n1 (by simp)]; exact h.f0
  · rw [n1 (by simp), n1 (by simp), n1 (by simp), n1 (by simp)]; exact h.f1
  · rw [World.frozen?_setCell, World.frozen?_setCell, World.frozen?_setCell, World.frozen?_setCell]; exact h.fz t o ht
theorem sval_same (m : Bool) (p q : Nat) : sval m (p + q) = sval m p + sval m q := by unfold sval; cases m <;> simp <;> omega
theorem sval_diff {m n : Bool} {p q : Nat} (h : m ≠ n) (hq : q ≤ p) : sval m (p - q) = sval m p + sval n q := by
  unfold sval; cases m <;> cases n <;> simp at h ⊢ <;> omega
theorem sval_diff2 {m n : Bool} {p q : Nat} (h : m ≠ n) (hq : p ≤ q) : sval n (q - p) = sval m p + sval n q := by
  unfold sval; cases m <;> cases n <;> simp at h ⊢ <;> omega
theorem big_sum {p q : Nat} (hp : p < Top128) (hq : q < Top128) : p + q < Big := by
  obtain ⟨m, hm⟩ : ∃ m, m = 128 := ⟨_, rfl⟩
  obtain ⟨k, hk⟩ : ∃ k, k = 600 := ⟨_, rfl⟩
  rw [top128 hm] at hp hq
  rw [big_pow hk]
  have h1 : 4294967296 ^ m * 2 ≤ 4294967296 ^ m * 4294967296 := Nat.mul_le_mul_left _ (by decide)
  rw [← Nat.pow_succ] at h1
  exact Nat.lt_of_lt_of_le (by omega) (Nat.le_trans h1 (Nat.pow_le_pow_right (by decide) (by omega)))
set_option maxHeartbeats 8000000 in
theorem isum_any (w : World) (B : Nat) (a b : IV) (ha : a.at w B) (hb : b.at w B) (hB : B ≤ w.heap.size) (va : vld a.xs = true) (vb' : vld b.xs = true) (pa : vb 4294967296 a.xs < Top128) (pb : vb 4294967296 b.xs < Top128) :
    Calls Tryz.prog 121 #[a.v, b.v] w (GivesVL w (a.val + b.val)) := by
  have F4 := Fr2.new w a b
  have H4 := LRd.below ha (fr2_below w a b) hB
  have K4 := LRd.below hb (fr2_below w a b) hB
  have s4 : (fr2w w a b).heap.size = w.heap.size + 4 := by simp
  have B4 := fr2_below w a b
  have HBig := Lib.hid (big_sum pa pb)
  by_cases hne : a.neg = b.neg
  · have HVal := Lib.hid (show sval a.neg (vb 4294967296 a.xs + vb 4294967296 b.xs) = a.val + b.val by rw [sval_same]; unfold IV.val; rw [hne])
    have hnn : (a.neg == b.neg) = true := by simp [hne]
    clear hne
    obtain ⟨a0, a1, b0, b1, r0, r1, f0, f1, fz, flt'⟩ := id F4
    go_enter Tryz.func121, Tryz.ntmps121
    go_wp2_with fail
    refine (add_ok _ B a.A b.A a.n b.n a.c b.c a.xs b.xs H4 K4 (by simp; omega) va vb').mono ?_
    intro e w6 hgb
    obtain ⟨A6, k6, c6, z6, rfl, hl6, hr6, hb6⟩ := (hgb.resolve_right (fun hh => absurd hh.1 (by have := HBig.out; omega))).2
    have F6 := (F4.below hb6 (by simp)).alloc (.cells #[.int .i64 0, .int .i64 0] 28)
    have hz6 : w.heap.size + 4 ≤ w6.heap.size := by have := hb6.size; simp at this; omega
    have HR6 := Lib.hid hr6
    have hl7 := LRd.more (hl6.alloc (Nat.le_refl _) (.cells #[.int .i64 0, .int .i64 0] 28)) (B' := w6.heap.size + 1) (by omega)
    clear hgb hr6 a0 a1 b0 b1 r0 r1 f0 f1 fz flt'
    obtain ⟨a0, a1, b0, b1, r0, r1, f0, f1, fz, flt'⟩ := id F6
    go_wp2_with fail
    refine (ilimited_any _ a.neg A6 k6 c6 _ z6 (by simpa using hl7) HR6.out).mono ?_
    intro e w8 hgv
    rw [HVal.out] at hgv
    clear a0 a1 b0 b1 r0 r1 f0 f1 fz flt'
    rcases hgv with ⟨hz, neg', A', k', c', zs', rfl, hl8, hr8, hb8⟩ | ⟨hz, neg', A', k', c', zs', rfl, hl8, hr8, hb8⟩
    all_goals
      have F8 := F6.below hb8 (by simp; omega)
      obtain ⟨a0, a1, b0, b1, r0, r1, f0, f1, fz, flt'⟩ := id F8
      have z0 := fz 2 0 (by omega)
      have z1 := fz 2 1 (by omega)
      have z2 := fz 3 0 (by omega)
      have z3 := fz 3 1 (by omega)
      have HZ := Lib.hid hz
      have HR8 := Lib.hid hr8
      have hz8 := hb8.size
      clear hz hr8
      go_wp2_with fail
    · have hR := LRd.setR hl8 (⟨r0, r1, f0, f1⟩ : RC w8 (w.heap.size + 2) false none 0 0 0 0) (.bool neg') (.slice A' k' c') (.int .i64 0) (.int .i64 0)
      refine bodyPost_ret (v := .tuple #[intv neg' A' k' c', flt 0 0]) (by simp [results, Tryz.results121, go_sem, r0, r1, f0, f1]) rfl (.inl ⟨HZ.out, neg', A', k', c', zs', rfl, LRd.more hR (by simp), HR8.out, ?_⟩)
      (repeat (first | exact Below.refl _ _ | exact B4 | refine Below.drew ?_ | refine below_drewN ?_ _ | refine Below.setCell ?_ (by first | (simp; done) | (simp; omega) | omega) _ | refine Below.trans ?_ (Below.mono hb8 (by first | omega | (simp; done) | (simp; omega))) | refine Below.trans ?_ (Below.mono hb6 (by first | omega | (simp; done) | (simp; omega))) | refine Below.alloc ?_ (by first | omega | (simp; done) | (simp; omega)) _))
    · have hR := LRd.setR hl8 (⟨r0, r1, f0, f1⟩ : RC w8 (w.heap.size + 2) false none 0 0 0 0) (.bool neg') (.slice A' k' c') (.int .i64 14) (.int .i64 (-1))
      refine bodyPost_ret (v := .tuple #[intv neg' A' k' c', flt 14 (-1)]) (by simp [results, Tryz.results121, go_sem, r0, r1, f0, f1]) rfl (.inr ⟨HZ.out, neg', A', k', c', zs', rfl, LRd.more hR (by simp), HR8.out, ?_⟩)
      (repeat (first | exact Below.refl _ _ | exact B4 | refine Below.drew ?_ | refine below_drewN ?_ _ | refine Below.setCell ?_ (by first | (simp; done) | (simp; omega) | omega) _ | refine Below.trans ?_ (Below.mono hb8 (by first | omega | (simp; done) | (simp; omega))) | refine Below.trans ?_ (Below.mono hb6 (by first | omega | (simp; done) | (simp; omega))) | refine Below.alloc ?_ (by first | omega | (simp; done) | (simp; omega)) _))
  · have hnn : (a.neg == b.neg) = false := by simp [hne]
    obtain ⟨a0, a1, b0, b1, r0, r1, f0, f1, fz, flt'⟩ := id F4
    go_enter Tryz.func121, Tryz.ntmps121
    go_wp2_with fail
    refine (cmp_ok _ B a.A b.A a.n b.n a.c b.c a.xs b.xs H4 K4 (by simp; omega) va vb').mono ?_
    rintro e w6 ⟨r, hcv, rfl, hb6⟩
    have F6 := (F4.below hb6 (by simp)).alloc (.cells #[.int .i64 0, .int .i64 0] 28)
    have hz6 : w.heap.size + 4 ≤ w6.heap.size := by have := hb6.size; simp at this; omega
    have H6 := LRd.alloc (LRd.below H4 hb6 (by simp; omega)) (by omega) (.cells #[.int .i64 0, .int .i64 0] 28)
    have K6 := LRd.alloc (LRd.below K4 hb6 (by simp; omega)) (by omega) (.cells #[.int .i64 0, .int .i64 0] 28)
    clear a0 a1 b0 b1 r0 r1 f0 f1 fz flt'
    by_cases hr : r < 0
    · have hlt : vb 4294967296 a.xs < vb 4294967296 b.xs := by unfold CmpV at hcv; omega
      have HVal := Lib.hid (show sval b.neg (vb 4294967296 b.xs - vb 4294967296 a.xs) = a.val + b.val from sval_diff2 hne (Nat.le_of_lt hlt))
      have HAbs := Lib.hid (show (a.val + b.val).natAbs < Top128 by rw [← HVal.out, sval_abs]; omega)
      have F7 := F6.swap
      have H7 := Lib.hid <| (((H6.setN (p := ⟨w.heap.size, 0, none⟩) (fun x => by rw [F6.a0]; simp) (.bool b.neg)).setN (p := ⟨w.heap.size, 1, none⟩) (fun x => by rw [World.cell?_setCell_other _ _ _ _ (by simp), F6.a1]; simp) (.slice b.A b.n b.c)).setN (p := ⟨w.heap.size + 1, 0, none⟩) (fun x => by rw [World.cell?_setCell_other _ _ _ _ (by simp), World.cell?_setCell_other _ _ _ _ (by simp), F6.b0]; simp) (.bool a.neg)).setN (p := ⟨w.heap.size + 1, 1, none⟩) (fun x => by rw [World.cell?_setCell_other _ _ _ _ (by simp), World.cell?_setCell_other _ _ _ _ (by simp), World.cell?_setCell_other _ _ _ _ (by simp), F6.b1]; simp) (.slice a.A a.n a.c)
      have K7 := Lib.hid <| (((K6.setN (p := ⟨w.heap.size, 0, none⟩) (fun x => by rw [F6.a0]; simp) (.bool b.neg)).setN (p := ⟨w.heap.size, 1, none⟩) (fun x => by rw [World.cell?_setCell_other _ _ _ _ (by simp), F6.a1]; simp) (.slice b.A b.n b.c)).setN (p := ⟨w.heap.size + 1, 0, none⟩) (fun x => by rw [World.cell?_setCell_other _ _ _ _ (by simp), World.cell?_setCell_other _ _ _ _ (by simp), F6.b0]; simp) (.bool a.neg)).setN (p := ⟨w.heap.size + 1, 1, none⟩) (fun x => by rw [World.cell?_setCell_other _ _ _ _ (by simp), World.cell?_setCell_other _ _ _ _ (by simp), World.cell?_setCell_other _ _ _ _ (by simp), F6.b1]; simp) (.slice a.A a.n a.c)
      obtain ⟨a0', a1', b0', b1', _, _, _, _, fz', _⟩ := id F6
      have y0 : (w6.alloc (.cells #[.int .i64 0, .int .i64 0] 28)).frozen? ⟨w.heap.size, 0, none⟩ = false := fz' 0 0 (by omega)
      have y1 : (w6.alloc (.cells #[.int .i64 0, .int .i64 0] 28)).frozen? ⟨w.heap.size, 1, none⟩ = false := fz' 0 1 (by omega)
      have y2 := fz' 1 0 (by omega)
      have y3 := fz' 1 1 (by omega)
      go_upto_region 7 with fail
      clear a0' a1' b0' b1' fz' y0 y1 y2 y3
      obtain ⟨Wv, hWv⟩ : ∃ Wv : World, Wv = ((((w6.alloc (.cells #[.int .i64 0, .int .i64 0] 28)).setCell ⟨w.heap.size, 0, none⟩ (.bool b.neg)).setCell ⟨w.heap.size, 1, none⟩ (.slice b.A b.n b.c)).setCell ⟨w.heap.size + 1, 0, none⟩ (.bool a.neg)).setCell ⟨w.heap.size + 1, 1, none⟩ (.slice a.A a.n a.c) := ⟨_, rfl⟩
      rw [← hWv]
      rw [← hWv] at F7 H7 K7
      have sWv : Wv.heap.size = w6.heap.size + 1 := by rw [hWv]; simp
      have BWv : Below w.heap.size w Wv := by
        rw [hWv]
        (repeat (first | exact B4 | refine Below.setCell ?_ (by first | (simp; done) | (simp; omega) | omega) _ | refine Below.trans ?_ (Below.mono hb6 (by first | omega | (simp; done) | (simp; omega))) | refine Below.alloc ?_ (by first | omega | (simp; done) | (simp; omega)) _))
      clear hWv
      obtain ⟨a0, a1, b0, b1, r0, r1, f0, f1, fz, flt'⟩ := id F7
      go_wp2_with fail
      refine (sub_ok _ B b.A a.A b.n a.n b.c a.c b.xs a.xs K7.out H7.out (by omega) vb' va).mono ?_
      intro e w7 hgs
      obtain ⟨A6, k6, c6, z6, rfl, hl6, hr6, hb7⟩ := (hgs.resolve_right (fun hh => absurd hh.1 (by omega))).2
      have F9 := (F7.below hb7 (by omega)).alloc (.cells #[.int .i64 0, .int .i64 0] 28)
      have hz7 : w6.heap.size < w7.heap.size := by have := hb7.size; omega
      have HR6 := Lib.hid hr6
      have hl7 := LRd.more (hl6.alloc (Nat.le_refl _) (.cells #[.int .i64 0, .int .i64 0] 28)) (B' := w7.heap.size + 1) (by omega)
      clear hgs hr6 a0 a1 b0 b1 r0 r1 f0 f1 fz flt'
      obtain ⟨a0, a1, b0, b1, r0, r1, f0, f1, fz, flt'⟩ := id F9
      go_wp2_with fail
      refine (signed_any _ b.neg A6 k6 c6 _ z6 (by simpa using hl7) HR6.out).mono ?_
      rintro e w8 ⟨neg', A', k', c', zs', rfl, hl8, hr8, hb8⟩
      rw [HVal.out] at hr8
      have F8 := F9.below hb8 (by simp; omega)
      clear a0 a1 b0 b1 r0 r1 f0 f1 fz flt'
      obtain ⟨a0, a1, b0, b1, r0, r1, f0, f1, fz, flt'⟩ := id F8
      have z0 := fz 2 0 (by omega)
      have z1 := fz 2 1 (by omega)
      have z2 := fz 3 0 (by omega)
      have z3 := fz 3 1 (by omega)
      have HR8 := Lib.hid hr8
      have hz8 := hb8.size
      clear hr8
      go_wp2_with fail
      have hR := LRd.setR hl8 (⟨r0, r1, f0, f1⟩ : RC w8 (w.heap.size + 2) false none 0 0 0 0) (.bool neg') (.slice A' k' c') (.int .i64 0) (.int .i64 0)
      refine bodyPost_ret (v := .tuple #[intv neg' A' k' c', flt 0 0]) (by simp [results, Tryz.results121, go_sem, r0, r1, f0, f1]) rfl (.inl ⟨HAbs.out, neg', A', k', c', zs', rfl, LRd.more hR (by simp), HR8.out, ?_⟩)
      (repeat (first | exact Below.refl _ _ | exact BWv | exact B4 | refine Below.drew ?_ | refine below_drewN ?_ _ | refine Below.setCell ?_ (by first | (simp; done) | (simp; omega) | omega) _ | refine Below.trans ?_ (Below.mono hb8 (by first | omega | (simp; done) | (simp; omega))) | refine Below.trans ?_ (Below.mono hb7 (by first | omega | (simp; done) | (simp; omega))) | refine Below.alloc ?_ (by first | omega | (simp; done) | (simp; omega)) _))
    · have hle : vb 4294967296 b.xs ≤ vb 4294967296 a.xs := by unfold CmpV at hcv; omega
      have HVal := Lib.hid (show sval a.neg (vb 4294967296 a.xs - vb 4294967296 b.xs) = a.val + b.val from sval_diff hne hle)
      have HAbs := Lib.hid (show (a.val + b.val).natAbs < Top128 by rw [← HVal.out, sval_abs]; omega)
      obtain ⟨a0, a1, b0, b1, r0, r1, f0, f1, fz, flt'⟩ := id F6
      go_wp2_with fail
      refine (sub_ok _ B a.A b.A a.n b.n a.c b.c a.xs b.xs H6 K6 (by simp; omega) va vb').mono ?_
      intro e w7 hgs
      obtain ⟨A6, k6, c6, z6, rfl, hl6, hr6, hb7⟩ := (hgs.resolve_right (fun hh => absurd hh.1 (by omega))).2
      have F9 := (F6.below hb7 (by simp; omega)).alloc (.cells #[.int .i64 0, .int .i64 0] 28)
      have hz7 : w6.heap.size < w7.heap.size := by have := hb7.size; simp at this; omega
      have HR6 := Lib.hid hr6
      have hl7 := LRd.more (hl6.alloc (Nat.le_refl _) (.cells #[.int .i64 0, .int .i64 0] 28)) (B' := w7.heap.size + 1) (by omega)
      clear hgs hr6 a0 a1 b0 b1 r0 r1 f0 f1 fz flt'
      obtain ⟨a0, a1, b0, b1, r0, r1, f0, f1, fz, flt'⟩ := id F9
      go_wp2_with fail
      refine (signed_any _ a.neg A6 k6 c6 _ z6 (by simpa using hl7) HR6.out).mono ?_
      rintro e w8 ⟨neg', A', k', c', zs', rfl, hl8, hr8, hb8⟩
      rw [HVal.out] at hr8
      have F8 := F9.below hb8 (by simp; omega)
      clear a0 a1 b0 b1 r0 r1 f0 f1 fz flt'
      obtain ⟨a0, a1, b0, b1, r0, r1, f0, f1, fz, flt'⟩ := id F8
      have z0 := fz 2 0 (by omega)
      have z1 := fz 2 1 (by omega)
      have z2 := fz 3 0 (by omega)
      have z3 := fz 3 1 (by omega)
      have HR8 := Lib.hid hr8
      have hz8 := hb8.size
      clear hr8
      go_wp2_with fail
      have hR := LRd.setR hl8 (⟨r0, r1, f0, f1⟩ : RC w8 (w.heap.size + 2) false none 0 0 0 0) (.bool neg') (.slice A' k' c') (.int .i64 0) (.int .i64 0)
      refine bodyPost_ret (v := .tuple #[intv neg' A' k' c', flt 0 0]) (by simp [results, Tryz.results121, go_sem, r0, r1, f0, f1]) rfl (.inl ⟨HAbs.out, neg', A', k', c', zs', rfl, LRd.more hR (by simp), HR8.out, ?_⟩)
      (repeat (first | exact Below.refl _ _ | exact B4 | refine Below.drew ?_ | refine below_drewN ?_ _ | refine Below.setCell ?_ (by first | (simp; done) | (simp; omega) | omega) _ | refine Below.trans ?_ (Below.mono hb8 (by first | omega | (simp; done) | (simp; omega))) | refine Below.trans ?_ (Below.mono hb7 (by first | omega | (simp; done) | (simp; omega))) | refine Below.trans ?_ (Below.mono hb6 (by first | omega | (simp; done) | (simp; omega))) | refine Below.alloc ?_ (by first | omega | (simp; done) | (simp; omega)) _))
end Go.Proofs.YtflmcgoijofpdaaGreat

namespace Go.Proofs.YtflmcgoijofpdaaGreat
open Go.RowKit
set_option maxHeartbeats 400000
set_option maxRecDepth 100000
set_option linter.unusedSimpArgs false
set_option linter.unusedVariables false

set_option maxHeartbeats 4000000 in
theorem iadd_ok (w : World) (B : Nat) (a b : IV) (ha : a.at w B) (hb : b.at w B) (hB : B ≤ w.heap.size) (oa : a.ok = true) (ob : b.ok = true) :
    Calls Tryz.prog 80 #[a.v, b.v] w (GivesVL w (a.val + b.val)) := by
  have F4 := Fr2.new w a b
  have H4 := LRd.below ha (fr2_below w a b) hB
  have K4 := LRd.below hb (fr2_below w a b) hB
  have s4 : (fr2w w a b).heap.size = w.heap.size + 4 := by simp
  have HI := Lib.hid (irow2 (fr2w w a b) B a b H4 K4 (by omega))
  have B4 := fr2_below w a b
  obtain ⟨va, la⟩ := IV.vld oa
  obtain ⟨vb', lb⟩ := IV.vld ob
  have pa := lt128 (⟨ha.lim, rfl, (vld_top va).1⟩ : Rep 4294967296 a.xs (vb 4294967296 a.xs)) rfl la
  have pb := lt128 (⟨hb.lim, rfl, (vld_top vb').1⟩ : Rep 4294967296 b.xs (vb 4294967296 b.xs)) rfl lb
  go_enter Tryz.func80, Tryz.ntmps80
  go_wp2_with fail
  refine (check_any _ B (w.heap.size + 4) 2 [a, b] (by have := HI.out; rw [s4] at this; exact this) rfl (by simp; omega) (by omega)).mono ?_
  rintro e w5 ⟨rfl, hb5⟩
  rw [two_ok oa ob]
  have F5 := (F4.alloc (two a b)).below hb5 (by simp)
  have hz5 : w.heap.size + 4 < w5.heap.size := by have := hb5.size; simp at this; omega
  have H5 := LRd.alloc (LRd.below (LRd.alloc H4 (by omega) (two a b)) hb5 (by simp; omega)) (by omega) (.cells #[.int .i64 0, .int .i64 0] 28)
  have K5 := LRd.alloc (LRd.below (LRd.alloc K4 (by omega) (two a b)) hb5 (by simp; omega)) (by omega) (.cells #[.int .i64 0, .int .i64 0] 28)
  obtain ⟨a0, a1, b0, b1, r0, r1, f0, f1, fz, flt'⟩ := F5.alloc (.cells #[.int .i64 0, .int .i64 0] 28)
  clear H4 K4 F4
  go_wp2_with fail
  have HS := Lib.hid (isum_any (w5.alloc (.cells #[.int .i64 0, .int .i64 0] 28)) B a (b) H5 K5 (by simp; omega) va vb' pa pb)
  refine HS.out.mono ?_
  intro e w8 hgv
  clear a0 a1 b0 b1 r0 r1 f0 f1 fz flt' HS
  rcases hgv with ⟨hz, neg', A', k', c', zs', rfl, hl8, hr8, hb8⟩ | ⟨hz, neg', A', k', c', zs', rfl, hl8, hr8, hb8⟩
  all_goals
    have F8 := (F5.alloc (.cells #[.int .i64 0, .int .i64 0] 28)).below hb8 (by simp; omega)
    obtain ⟨a0, a1, b0, b1, r0, r1, f0, f1, fz, flt'⟩ := id F8
    have z0 := fz 2 0 (by omega)
    have z1 := fz 2 1 (by omega)
    have z2 := fz 3 0 (by omega)
    have z3 := fz 3 1 (by omega)
    have HZ := Lib.hid hz
    have HR8 := Lib.hid hr8
    have hz8 := hb8.size
    clear hz hr8
    go_wp2_with fail
  · have hR := LRd.setR hl8 (⟨r0, r1, f0, f1⟩ : RC w8 (w.heap.size + 2) false none 0 0 0 0) (.bool neg') (.slice A' k' c') (.int .i64 0) (.int .i64 0)
    refine bodyPost_ret (v := .tuple #[intv neg' A' k' c', flt 0 0]) (by simp [results, Tryz.results80, go_sem, r0, r1, f0, f1]) rfl (.inl ⟨HZ.out, neg', A', k', c', zs', rfl, LRd.more hR (by simp), HR8.out, ?_⟩)
    (repeat (first | exact Below.refl _ _ | exact B4 | refine Below.drew ?_ | refine below_drewN ?_ _ | refine Below.setCell ?_ (by first | (simp; done) | (simp; omega) | omega) _ | refine Below.trans ?_ (Below.mono hb8 (by first | omega | (simp; done) | (simp; omega))) | refine Below.trans ?_ (Below.mono hb5 (by first | omega | (simp; done) | (simp; omega))) | refine Below.alloc ?_ (by first | omega | (simp; done) | (simp; omega)) _))
  · have hR := LRd.setR hl8 (⟨r0, r1, f0, f1⟩ : RC w8 (w.heap.size + 2) false none 0 0 0 0) (.bool neg') (.slice A' k' c') (.int .i64 14) (.int .i64 (-1))
    refine bodyPost_ret (v := .tuple #[intv neg' A' k' c', flt 14 (-1)]) (by simp [results, Tryz.results80, go_sem, r0, r1, f0, f1]) rfl (.inr ⟨HZ.out, neg', A', k', c', zs', rfl, LRd.more hR (by simp), HR8.out, ?_⟩)
    (repeat (first | exact Below.refl _ _ | exact B4 | refine Below.drew ?_ | refine below_drewN ?_ _ | refine Below.setCell ?_ (by first | (simp; done) | (simp; omega) | omega) _ | refine Below.trans ?_ (Below.mono hb8 (by first | omega | (simp; done) | (simp; omega))) | refine Below.trans ?_ (Below.mono hb5 (by first | omega | (simp; done) | (simp; omega))) | refine Below.alloc ?_ (by first | omega | (simp; done) | (simp; omega)) _))
end Go.Proofs.YtflmcgoijofpdaaGreat

namespace Go.Proofs.YtflmcgoijofpdaaGreat
open Go.RowKit
set_option maxHeartbeats 400000
set_option maxRecDepth 100000
set_option linter.unusedSimpArgs false
set_option linter.unusedVariables false

set_option maxHeartbeats 2000000 in
theorem igcd_bad (w : World) (B : Nat) (a b : IV) (ha : a.at w B) (hb : b.at w B) (hB : B ≤ w.heap.size) (f2 : Int) (hf : ffault [a, b] 0 = (6, f2)) :
    Calls Tryz.prog 64 #[a.v, b.v] w (GivesVF w 0 6 f2) := by
  have F4 := Fr2.new w a b
  have H4 := LRd.below ha (fr2_below w a b) hB
  have K4 := LRd.below hb (fr2_below w a b) hB
  have s4 : (fr2w w a b).heap.size = w.heap.size + 4 := by simp
  have HI := Lib.hid (irow2 (fr2w w a b) B a b H4 K4 (by omega))
  have B4 := fr2_below w a b
  go_enter Tryz.func64, Tryz.ntmps64
  go_wp2_with fail
  refine (check_any _ B (w.heap.size + 4) 2 [a, b] (by have := HI.out; rw [s4] at this; exact this) rfl (by simp; omega) (by omega)).mono ?_
  rintro e w5 ⟨rfl, hb5⟩
  rw [hf]
  have F5 := (F4.alloc (two a b)).below hb5 (by simp)
  have hz5 : w.heap.size + 4 < w5.heap.size := by have := hb5.size; simp at this; omega
  obtain ⟨a0, a1, b0, b1, r0, r1, f0, f1, fz, flt'⟩ := F5.alloc (.cells #[.int .i64 6, .int .i64 f2] 28)
  have z0 := fz 2 0 (by omega)
  have z1 := fz 2 1 (by omega)
  have z2 := fz 3 0 (by omega)
  have z3 := fz 3 1 (by omega)
  go_wp2_with fail
  go_region
  go_wp2_with fail
  refine bodyPost_ret (v := .tuple #[intv false none 0 0, flt 6 f2]) (by simp [results, Tryz.results64, go_sem, r0, r1, f0, f1]) rfl ⟨false, none, 0, 0, [], rfl, nil_lrd _, IRep.zero, ?_⟩
  (repeat (first | exact Below.refl _ _ | exact B4 | refine Below.drew ?_ | refine below_drewN ?_ _ | refine Below.setCell ?_ (by first | (simp; done) | (simp; omega) | omega) _ | refine Below.trans ?_ (Below.mono hb5 (by first | omega | (simp; done) | (simp; omega))) | refine Below.alloc ?_ (by first | omega | (simp; done) | (simp; omega)) _))
set_option maxHeartbeats 4000000 in
theorem igcd_ok (w : World) (B : Nat) (a b : IV) (ha : a.at w B) (hb : b.at w B) (hB : B ≤ w.heap.size) (oa : a.ok = true) (ob : b.ok = true) :
    Calls Tryz.prog 64 #[a.v, b.v] w (GivesVF w (Nat.gcd (vb 4294967296 a.xs) (vb 4294967296 b.xs) : Nat) 0 0) := by
  have F4 := Fr2.new w a b
  have H4 := LRd.below ha (fr2_below w a b) hB
  have K4 := LRd.below hb (fr2_below w a b) hB
  have s4 : (fr2w w a b).heap.size = w.heap.size + 4 := by simp
  have HI := Lib.hid (irow2 (fr2w w a b) B a b H4 K4 (by omega))
  have B4 := fr2_below w a b
  obtain ⟨va, la⟩ := IV.vld oa
  obtain ⟨vb', lb⟩ := IV.vld ob
  have pa := lt128 (⟨ha.lim, rfl, (vld_top va).1⟩ : Rep 4294967296 a.xs (vb 4294967296 a.xs)) rfl la
  have pb := lt128 (⟨hb.lim, rfl, (vld_top vb').1⟩ : Rep 4294967296 b.xs (vb 4294967296 b.xs)) rfl lb
  go_enter Tryz.func64, Tryz.ntmps64
  go_wp2_with fail
  refine (check_any _ B (w.heap.size + 4) 2 [a, b] (by have := HI.out; rw [s4] at this; exact this) rfl (by simp; omega) (by omega)).mono ?_
  rintro e w5 ⟨rfl, hb5⟩
  rw [two_ok oa ob]
  have F5 := (F4.alloc (two a b)).below hb5 (by simp)
  have hz5 : w.heap.size + 4 < w5.heap.size := by have := hb5.size; simp at this; omega
  have H5 := LRd.alloc (LRd.below (LRd.alloc H4 (by omega) (two a b)) hb5 (by simp; omega)) (by omega) (.cells #[.int .i64 0, .int .i64 0] 28)
  have K5 := LRd.alloc (LRd.below (LRd.alloc K4 (by omega) (two a b)) hb5 (by simp; omega)) (by omega) (.cells #[.int .i64 0, .int .i64 0] 28)
  obtain ⟨a0, a1, b0, b1, r0, r1, f0, f1, fz, flt'⟩ := F5.alloc (.cells #[.int .i64 0, .int .i64 0] 28)
  clear H4 K4 F4
  go_wp2_with fail
  refine (gcd_ok _ B a.A b.A a.n b.n a.c b.c a.xs b.xs H5 K5 (by simp; omega) va vb').mono ?_
  rintro e w6 ⟨A6, k6, c6, z6, rfl, hl6, hr6, hb6⟩
  have F6 := ((F5.alloc (.cells #[.int .i64 0, .int .i64 0] 28)).below hb6 (by simp; omega)).alloc (.cells #[.int .i64 0, .int .i64 0] 28)
  have hz6 : w5.heap.size < w6.heap.size := next_lt hb6
  have HR6 := Lib.hid hr6
  have hl7 := LRd.more (hl6.alloc (Nat.le_refl _) (.cells #[.int .i64 0, .int .i64 0] 28)) (B' := w6.heap.size + 1) (by omega)
  clear hr6 a0 a1 b0 b1 r0 r1 f0 f1 fz flt' H5 K5
  obtain ⟨a0, a1, b0, b1, r0, r1, f0, f1, fz, flt'⟩ := id F6
  go_wp2_with fail
  refine (signed_any _ false A6 k6 c6 _ z6 (by simpa using hl7) HR6.out).mono ?_
  rintro e w8 ⟨neg', A', k', c', zs', rfl, hl8, hr8, hb8⟩
  clear a0 a1 b0 b1 r0 r1 f0 f1 fz flt'
  have F8 := F6.below hb8 (by simp; omega)
  obtain ⟨a0, a1, b0, b1, r0, r1, f0, f1, fz, flt'⟩ := id F8
  have z0 := fz 2 0 (by omega)
  have z1 := fz 2 1 (by omega)
  have z2 := fz 3 0 (by omega)
  have z3 := fz 3 1 (by omega)
  have HR8 := Lib.hid hr8
  have hz8 := hb8.size
  clear hr8
  go_wp2_with fail
  have hR := LRd.setR hl8 (⟨r0, r1, f0, f1⟩ : RC w8 (w.heap.size + 2) false none 0 0 0 0) (.bool neg') (.slice A' k' c') (.int .i64 0) (.int .i64 0)
  refine bodyPost_ret (v := .tuple #[intv neg' A' k' c', flt 0 0]) (by simp [results, Tryz.results64, go_sem, r0, r1, f0, f1]) rfl (⟨neg', A', k', c', zs', rfl, LRd.more hR (by simp), HR8.out, ?_⟩)
  (repeat (first | exact Below.refl _ _ | exact B4 | refine Below.drew ?_ | refine below_drewN ?_ _ | refine Below.setCell ?_ (by first | (simp; done) | (simp; omega) | omega) _ | refine Below.trans ?_ (Below.mono hb8 (by first | omega | (simp; done) | (simp; omega))) | refine Below.trans ?_ (Below.mono hb6 (by first | omega | (simp; done) | (simp; omega))) | refine Below.trans ?_ (Below.mono hb5 (by first | omega | (simp; done) | (simp; omega))) | refine Below.alloc ?_ (by first | omega | (simp; done) | (simp; omega)) _))
end Go.Proofs.YtflmcgoijofpdaaGreat
