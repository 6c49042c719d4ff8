/- Package integer: sum. Package integer: Add, Sub. Package integer: Gcd. -/
import Derived.Test.YtfgkhdpdjclmkaaGreatBf
import Derived.Deep.RegionWith
import Derived.Test.YtfgkhdpdjclmkaaGreatBc
namespace Go.Proofs.YtfgkhdpdjclmkaaGreat
open Go.RowKit
set_option maxHeartbeats 400000
set_option maxRecDepth 100000
set_option linter.unusedSimpArgs false
set_option linter.unusedVariables false
set_option maxHeartbeats 2000000 in
theorem igcd_bad (w : World) (B : Nat) (a b : IV) (ha : a.at w B) (hb : b.at w B) (hB : B ≤ w.heap.size) (f2 : Int) (hf : ffault [a, b] 0 = (6, f2)) :
    Calls Tryz.prog 64 #[a.v, b.v] w (GivesVF w 0 6 f2) := by
  have F4 := Fr2.new w a b
  have H4 := LRd.below ha (fr2_below w a b) hB
  have K4 := LRd.below hb (fr2_below w a b) hB
  have s4 : (fr2w w a b).heap.size = w.heap.size + 4 := by simp
  have HI := Lib.hid (irow2 (fr2w w a b) B a b H4 K4 (by omega))
  have B4 := fr2_below w a b
  go_enter Tryz.func64, Tryz.ntmps64
  go_wp2_with fail
  refine (check_any _ B (w.heap.size + 4) 2 [a, b] (by have := HI.out; rw [s4] at this; exact this) rfl (by simp; omega) (by omega)).mono ?_
  rintro e w5 ⟨rfl, hb5⟩
  rw [hf]
  have F5 := (F4.alloc (two a b)).below hb5 (by simp)
  have hz5 : w.heap.size + 4 < w5.heap.size := by have := hb5.size; simp at this; omega
  obtain ⟨a0, a1, b0, b1, r0, r1, f0, f1, fz, flt'⟩ := F5.alloc (.cells #[.int .i64 6, .int .i64 f2] 28)
  have z0 := fz 2 0 (by omega)
  have z1 := fz 2 1 (by omega)
  have z2 := fz 3 0 (by omega)
  have z3 := fz 3 1 (by omega)
  go_wp2_with fail
  go_region
  go_wp2_with fail
  refine bodyPost_ret (v := .tuple #[intv false none 0 0, flt 6 f2]) (by simp [results, Tryz.results64, go_sem, r0, r1, f0, f1]) rfl ⟨false, none, 0, 0, [], rfl, nil_lrd _, IRep.zero, ?_⟩
  (repeat (first | exact Below.refl _ _ | exact B4 | refine Below.drew ?_ | refine below_drewN ?_ _ | refine Below.setCell ?_ (by first | (simp <;> omega) | omega) _ | refine Below.trans ?_ (Below.mono hb5 (by first | omega | (simp; done) | (simp; omega))) | refine Below.alloc ?_ (by first | omega | (simp; done) | (simp; omega)) _))
set_option maxHeartbeats 4000000 in
theorem igcd_ok (w : World) (B : Nat) (a b : IV) (ha : a.at w B) (hb : b.at w B) (hB : B ≤ w.heap.size) (oa : a.ok = true) (ob : b.ok = true) :
    Calls Tryz.prog 64 #[a.v, b.v] w (GivesVF w (Nat.gcd (vb 4294967296 a.xs) (vb 4294967296 b.xs) : Nat) 0 0) := by
  have F4 := Fr2.new w a b
  have H4 := LRd.below ha (fr2_below w a b) hB
  have K4 := LRd.below hb (fr2_below w a b) hB
  have s4 : (fr2w w a b).heap.size = w.heap.size + 4 := by simp
  have HI := Lib.hid (irow2 (fr2w w a b) B a b H4 K4 (by omega))
  have B4 := fr2_below w a b
  obtain ⟨va, la⟩ := IV.vld oa
  obtain ⟨vb', lb⟩ := IV.vld ob
  have pa := lt128 (⟨ha.lim, rfl, (vld_top va).1⟩ : Rep 4294967296 a.xs (vb 4294967296 a.xs)) rfl la
  have pb := lt128 (⟨hb.lim, rfl, (vld_top vb').1⟩ : Rep 4294967296 b.xs (vb 4294967296 b.xs)) rfl lb
  go_enter Tryz.func64, Tryz.ntmps64
  go_wp2_with fail
  refine (check_any _ B (w.heap.size + 4) 2 [a, b] (by have := HI.out; rw [s4] at this; exact this) rfl (by simp; omega) (by omega)).mono ?_
  rintro e w5 ⟨rfl, hb5⟩
  rw [two_ok oa ob]
  have F5 := (F4.alloc (two a b)).below hb5 (by simp)
  have hz5 : w.heap.size + 4 < w5.heap.size := by have := hb5.size; simp at this; omega
  have H5 := LRd.alloc (LRd.below (LRd.alloc H4 (by omega) (two a b)) hb5 (by simp; omega)) (by omega) (.cells #[.int .i64 0, .int .i64 0] 28)
  have K5 := LRd.alloc (LRd.below (LRd.alloc K4 (by omega) (two a b)) hb5 (by simp; omega)) (by omega) (.cells #[.int .i64 0, .int .i64 0] 28)
  obtain ⟨a0, a1, b0, b1, r0, r1, f0, f1, fz, flt'⟩ := F5.alloc (.cells #[.int .i64 0, .int .i64 0] 28)
  clear H4 K4 F4
  go_wp2_with fail
  refine (gcd_ok _ B a.A b.A a.n b.n a.c b.c a.xs b.xs H5 K5 (by simp; omega) va vb').mono ?_
  rintro e w6 ⟨A6, k6, c6, z6, rfl, hl6, hr6, hb6⟩
  have F6 := ((F5.alloc (.cells #[.int .i64 0, .int .i64 0] 28)).below hb6 (by simp; omega)).alloc (.cells #[.int .i64 0, .int .i64 0] 28)
  have hz6 : w5.heap.size < w6.heap.size := next_lt hb6
  have HR6 := Lib.hid hr6
  have hl7 := LRd.more (hl6.alloc (Nat.le_refl _) (.cells #[.int .i64 0, .int .i64 0] 28)) (B' := w6.heap.size + 1) (by omega)
  clear hr6 a0 a1 b0 b1 r0 r1 f0 f1 fz flt' H5 K5
  obtain ⟨a0, a1, b0, b1, r0, r1, f0, f1, fz, flt'⟩ := id F6
  go_wp2_with fail
  refine (signed_any _ false A6 k6 c6 _ z6 (by simpa using hl7) HR6.out).mono ?_
  rintro e w8 ⟨neg', A', k', c', zs', rfl, hl8, hr8, hb8⟩
  clear a0 a1 b0 b1 r0 r1 f0 f1 fz flt'
  have F8 := F6.below hb8 (by simp; omega)
  obtain ⟨a0, a1, b0, b1, r0, r1, f0, f1, fz, flt'⟩ := id F8
  have z0 := fz 2 0 (by omega)
  have z1 := fz 2 1 (by omega)
  have z2 := fz 3 0 (by omega)
  have z3 := fz 3 1 (by omega)
  have HR8 := Lib.hid hr8
  have hz8 := hb8.size
  clear hr8
  go_wp2_with fail
  have hR := LRd.setR hl8 (⟨r0, r1, f0, f1⟩ : RC w8 (w.heap.size + 2) false none 0 0 0 0) (.bool neg') (.slice A' k' c') (.int .i64 0) (.int .i64 0)
  refine bodyPost_ret (v := .tuple #[intv neg' A' k' c', flt 0 0]) (by simp [results, Tryz.results64, go_sem, r0, r1, f0, f1]) rfl (⟨neg', A', k', c', zs', rfl, LRd.more hR (by simp), HR8.out, ?_⟩)
  (repeat (first | exact Below.refl _ _ | exact B4 | refine Below.drew ?_ | refine below_drewN ?_ _ | refine Below.setCell ?_ (by first | (simp <;> omega) | omega) _ | refine Below.trans ?_ (Below.mono hb8 (by first | omega | (simp; done) | (simp; omega))) | refine Below.trans ?_ (Below.mono hb6 (by first | omega | (simp; done) | (simp; omega))) | refine Below.trans ?_ (Below.mono hb5 (by first | omega | (simp; done) | (simp; omega))) | refine Below.alloc ?_ (by first | omega | (simp; done) | (simp; omega)) _))
end Go.Proofs.YtfgkhdpdjclmkaaGreat
