/- Package integer: Neg and Abs at an argument that is not valid. Package integer: Bits. Package integer: Abs at a valid argument. Package integer: Neg and Abs at a valid argument. -/
import Derived.Test.YtpidkionieaffaaKf
import Derived.Deep.RegionWith
import Derived.Test.YtpidkionieaffaaKc
namespace Go.Proofs.Ytpidkionieaffaa
open Go.RowKit
set_option maxHeartbeats 400000
set_option maxRecDepth 100000
set_option linter.unusedSimpArgs false
set_option linter.unusedVariables false

/-- The three blocks at the beginning of a call with one integer that returns one and a fault. -/
structure Fr1 (w : World) (s : Nat) (a : IV) : Prop where
  a0 : w.cell? ⟨s, 0, none⟩ = some (.bool a.neg)
  a1 : w.cell? ⟨s, 1, none⟩ = some (.slice a.A a.n a.c)
  r0 : w.cell? ⟨s + 1, 0, none⟩ = some (.bool false)
  r1 : w.cell? ⟨s + 1, 1, none⟩ = some (.slice none 0 0)
  f0 : w.cell? ⟨s + 2, 0, none⟩ = some (.int .i64 0)
  f1 : w.cell? ⟨s + 2, 1, none⟩ = some (.int .i64 0)
  fz : ∀ t o, t < 3 → w.frozen? ⟨s + t, o, none⟩ = false
  lt : s + 3 ≤ w.heap.size
theorem Fr1.below {w w' : World} {s B : Nat} {a : IV} (h : Fr1 w s a) (hb : Below B w w') (hB : s + 3 ≤ B) : Fr1 w' s a := by
  obtain ⟨hc, hf⟩ := bcell hb
  exact ⟨(hc _ _ (by omega)).trans h.a0, (hc _ _ (by omega)).trans h.a1, (hc _ _ (by omega)).trans h.r0, (hc _ _ (by omega)).trans h.r1, (hc _ _ (by omega)).trans h.f0, (hc _ _ (by omega)).trans h.f1,
    fun t o ht => (hf _ _ (by omega)).trans (h.fz t o ht), by have := hb.size; have := h.lt; omega⟩
theorem Fr1.alloc {w : World} {s : Nat} {a : IV} (h : Fr1 w s a) (o : Obj) : Fr1 (w.alloc o) s a := h.below (bl1 w o) h.lt
abbrev fr1w (w : World) (a : IV) : World := ((w.alloc a.cells).alloc (.cells #[.bool false, .slice none 0 0] 24)).alloc (.cells #[.int .i64 0, .int .i64 0] 26)
theorem Fr1.new (w : World) (a : IV) : Fr1 (fr1w w a) w.heap.size a := by
  refine ⟨by simp [go_sem], by simp [go_sem], by simp [go_sem], by simp [go_sem], by simp [go_sem], by simp [go_sem], fun t o ht => ?_, by simp⟩
  rcases (show t = 0 ∨ t = 1 ∨ t = 2 by omega) with rfl | rfl | rfl <;> simp [go_sem]
theorem fr1_below (w : World) (a : IV) : Below w.heap.size w (fr1w w a) := ((bl1 w _).alloc (by simp) _).alloc (by simp; omega) _
theorem irow1 (w : World) (B : Nat) (a : IV) (ha : a.at w B) (hB : B ≤ w.heap.size) : IRow (w.alloc a.cells) B w.heap.size [a] := by
  have ha' := LRd.alloc ha hB a.cells
  refine ⟨fun i hi => ?_, fun i hi => ?_, fun i hi => ?_, by simp⟩
  all_goals
    have hi' : i < 1 := hi
    obtain rfl : i = 0 := by omega
    first | exact ha' | simp [go_sem]
theorem one_ok {a : IV} (ha : a.ok = true) : ffault [a] 0 = (0, 0) := by
  show (if a.ok then (0, 0) else _) = _
  rw [if_pos ha]
theorem one_bad {a : IV} (h : ¬ a.ok = true) : ∃ f2, ffault [a] 0 = (6, f2) :=
  ⟨_, by show (if a.ok then _ else _) = _; rw [if_neg h]⟩

set_option maxHeartbeats 2000000 in
theorem ineg_bad (w : World) (B : Nat) (a : IV) (ha : a.at w B) (hB : B ≤ w.heap.size) (f2 : Int) (hf : ffault [a] 0 = (6, f2)) :
    Calls Try.prog 23 #[a.v] w (GivesVF w 0 6 f2) := by
  have F4 := Fr1.new w a
  have H4 := LRd.below ha (fr1_below w a) hB
  have s4 : (fr1w w a).heap.size = w.heap.size + 3 := by simp
  have HI := Lib.hid (irow1 (fr1w w a) B a H4 (by omega))
  have B4 := fr1_below w a
  go_enter Try.func23, Try.ntmps23
  go_wp2_with fail
  refine (check_any _ B (w.heap.size + 3) 1 [a] (by have := HI.out; rw [s4] at this; exact this) rfl (by simp; omega) (by omega)).mono ?_
  rintro e w5 ⟨rfl, hb5⟩
  rw [hf]
  have F5 := (F4.alloc a.cells).below hb5 (by simp)
  have hz5 : w.heap.size + 3 < w5.heap.size := by have := hb5.size; simp at this; omega
  obtain ⟨a0, a1, r0, r1, f0, f1, fz, flt'⟩ := F5.alloc (.cells #[.int .i64 6, .int .i64 f2] 26)
  have z0 := fz 1 0 (by omega)
  have z1 := fz 1 1 (by omega)
  have z2 := fz 2 0 (by omega)
  have z3 := fz 2 1 (by omega)
  go_wp2_with fail
  go_region
  go_wp2_with fail
  refine bodyPost_ret (v := .tuple #[intv false none 0 0, flt 6 f2]) (by simp [results, Try.results23, go_sem, r0, r1, f0, f1]) rfl ⟨false, none, 0, 0, [], rfl, nil_lrd _, IRep.zero, ?_⟩
  (repeat (first | exact Below.refl _ _ | exact B4 | refine Below.drew ?_ | refine below_drewN ?_ _ | refine Below.setCell ?_ (by first | (simp; done) | (simp; omega) | omega) _ | refine Below.trans ?_ (Below.mono hb5 (by first | omega | (simp; done) | (simp; omega))) | refine Below.alloc ?_ (by first | omega | (simp; done) | (simp; omega)) _))
set_option maxHeartbeats 2000000 in
theorem iabs_bad (w : World) (B : Nat) (a : IV) (ha : a.at w B) (hB : B ≤ w.heap.size) (f2 : Int) (hf : ffault [a] 0 = (6, f2)) :
    Calls Try.prog 24 #[a.v] w (GivesVF w 0 6 f2) := by
  have F4 := Fr1.new w a
  have H4 := LRd.below ha (fr1_below w a) hB
  have s4 : (fr1w w a).heap.size = w.heap.size + 3 := by simp
  have HI := Lib.hid (irow1 (fr1w w a) B a H4 (by omega))
  have B4 := fr1_below w a
  go_enter Try.func24, Try.ntmps24
  go_wp2_with fail
  refine (check_any _ B (w.heap.size + 3) 1 [a] (by have := HI.out; rw [s4] at this; exact this) rfl (by simp; omega) (by omega)).mono ?_
  rintro e w5 ⟨rfl, hb5⟩
  rw [hf]
  have F5 := (F4.alloc a.cells).below hb5 (by simp)
  have hz5 : w.heap.size + 3 < w5.heap.size := by have := hb5.size; simp at this; omega
  obtain ⟨a0, a1, r0, r1, f0, f1, fz, flt'⟩ := F5.alloc (.cells #[.int .i64 6, .int .i64 f2] 26)
  have z0 := fz 1 0 (by omega)
  have z1 := fz 1 1 (by omega)
  have z2 := fz 2 0 (by omega)
  have z3 := fz 2 1 (by omega)
  go_wp2_with fail
  go_region
  go_wp2_with fail
  refine bodyPost_ret (v := .tuple #[intv false none 0 0, flt 6 f2]) (by simp [results, Try.results24, go_sem, r0, r1, f0, f1]) rfl ⟨false, none, 0, 0, [], rfl, nil_lrd _, IRep.zero, ?_⟩
  (repeat (first | exact Below.refl _ _ | exact B4 | refine Below.drew ?_ | refine below_drewN ?_ _ | refine Below.setCell ?_ (by first | (simp; done) | (simp; omega) | omega) _ | refine Below.trans ?_ (Below.mono hb5 (by first | omega | (simp; done) | (simp; omega))) | refine Below.alloc ?_ (by first | omega | (simp; done) | (simp; omega)) _))
end Go.Proofs.Ytpidkionieaffaa

namespace Go.Proofs.Ytpidkionieaffaa
open Go.RowKit
set_option maxHeartbeats 400000
set_option maxRecDepth 100000
set_option linter.unusedSimpArgs false
set_option linter.unusedVariables false

/-- The two blocks at the beginning of a call with one integer that returns an int and a fault. -/
structure Fb1 (w : World) (s : Nat) (a : IV) : Prop where
  a0 : w.cell? ⟨s, 0, none⟩ = some (.bool a.neg)
  a1 : w.cell? ⟨s, 1, none⟩ = some (.slice a.A a.n a.c)
  f0 : w.cell? ⟨s + 1, 0, none⟩ = some (.int .i64 0)
  f1 : w.cell? ⟨s + 1, 1, none⟩ = some (.int .i64 0)
  z0 : w.frozen? ⟨s + 1, 0, none⟩ = false
  z1 : w.frozen? ⟨s + 1, 1, none⟩ = false
  lt : s + 2 ≤ w.heap.size
theorem Fb1.below {w w' : World} {s B : Nat} {a : IV} (h : Fb1 w s a) (hb : Below B w w') (hB : s + 2 ≤ B) : Fb1 w' s a := by
  obtain ⟨hc, hf⟩ := bcell hb
  exact ⟨(hc _ _ (by omega)).trans h.a0, (hc _ _ (by omega)).trans h.a1, (hc _ _ (by omega)).trans h.f0, (hc _ _ (by omega)).trans h.f1, (hf _ _ (by omega)).trans h.z0, (hf _ _ (by omega)).trans h.z1, by have := hb.size; have := h.lt; omega⟩
theorem Fb1.alloc {w : World} {s : Nat} {a : IV} (h : Fb1 w s a) (o : Obj) : Fb1 (w.alloc o) s a := h.below (bl1 w o) h.lt
abbrev fb1w (w : World) (a : IV) : World := (w.alloc a.cells).alloc (.cells #[.int .i64 0, .int .i64 0] 26)
theorem Fb1.new (w : World) (a : IV) : Fb1 (fb1w w a) w.heap.size a :=
  ⟨by simp [go_sem], by simp [go_sem], by simp [go_sem], by simp [go_sem], by simp [go_sem], by simp [go_sem], by simp⟩
theorem fb1_below (w : World) (a : IV) : Below w.heap.size w (fb1w w a) := (bl1 w _).alloc (by simp) _
set_option maxHeartbeats 2000000 in
theorem ibits_bad (w : World) (B : Nat) (a : IV) (ha : a.at w B) (hB : B ≤ w.heap.size) (f2 : Int) (hf : ffault [a] 0 = (6, f2)) :
    Calls Try.prog 22 #[a.v] w (GivesI w 0 6 f2) := by
  have F4 := Fb1.new w a
  have H4 := LRd.below ha (fb1_below w a) hB
  have s4 : (fb1w w a).heap.size = w.heap.size + 2 := by simp
  have HI := Lib.hid (irow1 (fb1w w a) B a H4 (by omega))
  have B4 := fb1_below w a
  go_enter Try.func22, Try.ntmps22
  go_wp2_with fail
  refine (check_any _ B (w.heap.size + 2) 1 [a] (by have := HI.out; rw [s4] at this; exact this) rfl (by simp; omega) (by omega)).mono ?_
  rintro e w5 ⟨rfl, hb5⟩
  rw [hf]
  have F5 := (F4.alloc a.cells).below hb5 (by simp)
  have hz5 : w.heap.size + 2 < w5.heap.size := by have := hb5.size; simp at this; omega
  obtain ⟨a0, a1, f0, f1, z0, z1, flt'⟩ := F5.alloc (.cells #[.int .i64 6, .int .i64 f2] 26)
  go_wp2_with fail
  go_region
  go_wp2_with fail
  refine bodyPost_ret (v := .tuple #[.int .i64 0, flt 6 f2]) (by simp [results, Try.results22, go_sem, f0, f1]) rfl ⟨rfl, ?_⟩
  (repeat (first | exact Below.refl _ _ | exact B4 | refine Below.drew ?_ | refine below_drewN ?_ _ | refine Below.setCell ?_ (by first | (simp; done) | (simp; omega) | omega) _ | refine Below.trans ?_ (Below.mono hb5 (by first | omega | (simp; done) | (simp; omega))) | refine Below.alloc ?_ (by first | omega | (simp; done) | (simp; omega)) _))
set_option maxHeartbeats 2000000 in
theorem ibits_ok (w : World) (B : Nat) (a : IV) (ha : a.at w B) (hB : B ≤ w.heap.size) (oa : a.ok = true) :
    Calls Try.prog 22 #[a.v] w (GivesI w (nbits a.xs) 0 0) := by
  have F4 := Fb1.new w a
  have H4 := LRd.below ha (fb1_below w a) hB
  have s4 : (fb1w w a).heap.size = w.heap.size + 2 := by simp
  have HI := Lib.hid (irow1 (fb1w w a) B a H4 (by omega))
  have B4 := fb1_below w a
  obtain ⟨va, la⟩ := IV.vld oa
  go_enter Try.func22, Try.ntmps22
  go_wp2_with fail
  refine (check_any _ B (w.heap.size + 2) 1 [a] (by have := HI.out; rw [s4] at this; exact this) rfl (by simp; omega) (by omega)).mono ?_
  rintro e w5 ⟨rfl, hb5⟩
  rw [one_ok oa]
  have F5 := ((F4.alloc a.cells).below hb5 (by simp)).alloc (.cells #[.int .i64 0, .int .i64 0] 26)
  have hz5 : w.heap.size + 2 < w5.heap.size := by have := hb5.size; simp at this; omega
  have H5 := LRd.alloc (LRd.below (LRd.alloc H4 (by omega) a.cells) hb5 (by simp; omega)) (by omega) (.cells #[.int .i64 0, .int .i64 0] 26)
  obtain ⟨a0, a1, f0, f1, z0, z1, flt'⟩ := id F5
  go_wp2_with fail
  refine (bits_ok _ B a.A a.n a.c a.xs H5 (by simp; omega) va).mono ?_
  rintro e w6 ⟨rfl, hb6⟩
  clear a0 a1 f0 f1 z0 z1 flt'
  have hz6 := hb6.size
  obtain ⟨a0, a1, f0, f1, z0, z1, flt'⟩ := F5.below hb6 (by simp; omega)
  go_wp2_with fail
  refine bodyPost_ret (v := .tuple #[.int .i64 (nbits a.xs), flt 0 0]) (by simp [results, Try.results22, go_sem, f0, f1]) rfl ⟨rfl, ?_⟩
  (repeat (first | exact Below.refl _ _ | exact B4 | refine Below.drew ?_ | refine below_drewN ?_ _ | refine Below.setCell ?_ (by first | (simp; done) | (simp; omega) | omega) _ | refine Below.trans ?_ (Below.mono hb6 (by first | omega | (simp; done) | (simp; omega))) | refine Below.trans ?_ (Below.mono hb5 (by first | omega | (simp; done) | (simp; omega))) | refine Below.alloc ?_ (by first | omega | (simp; done) | (simp; omega)) _))
end Go.Proofs.Ytpidkionieaffaa

namespace Go.Proofs.Ytpidkionieaffaa
open Go.RowKit
set_option maxHeartbeats 400000
set_option maxRecDepth 100000
set_option linter.unusedSimpArgs false
set_option linter.unusedVariables false

set_option maxHeartbeats 4000000 in
theorem iabs_ok (w : World) (B : Nat) (a : IV) (ha : a.at w B) (hB : B ≤ w.heap.size) (oa : a.ok = true) :
    Calls Try.prog 24 #[a.v] w (GivesVF w (sval false (vb 4294967296 a.xs)) 0 0) := by
  have F4 := Fr1.new w a
  have H4 := LRd.below ha (fr1_below w a) hB
  have s4 : (fr1w w a).heap.size = w.heap.size + 3 := by simp
  have HI := Lib.hid (irow1 (fr1w w a) B a H4 (by omega))
  have B4 := fr1_below w a
  obtain ⟨va, la⟩ := IV.vld oa
  have HRa := Lib.hid (⟨ha.lim, rfl, (vld_top va).1⟩ : Rep 4294967296 a.xs (vb 4294967296 a.xs))
  have HLl := Lib.hid ha.len.out
  have HLm := Lib.hid ha.lim
  have hn1 : a.n ≤ 1000000000 := by have := ha.len.out; omega
  go_enter Try.func24, Try.ntmps24
  go_wp2_with fail
  refine (check_any _ B (w.heap.size + 3) 1 [a] (by have := HI.out; rw [s4] at this; exact this) rfl (by simp; omega) (by omega)).mono ?_
  rintro e w5 ⟨rfl, hb5⟩
  rw [one_ok oa]
  have F5 := ((F4.alloc a.cells).below hb5 (by simp)).alloc (.cells #[.int .i64 0, .int .i64 0] 26)
  have hz5 : w.heap.size + 3 < w5.heap.size := by have := hb5.size; simp at this; omega
  have H5 := LRd.alloc (LRd.below (LRd.alloc H4 (by omega) a.cells) hb5 (by simp; omega)) (by omega) (.cells #[.int .i64 0, .int .i64 0] 26)
  obtain ⟨a0, a1, r0, r1, f0, f1, fz, flt'⟩ := id F5
  clear H4 F4
  go_wp2_with fail
  clear a0 a1 r0 r1 f0 f1 fz flt'
  have B5 : Below w.heap.size w (w5.alloc (.cells #[.int .i64 0, .int .i64 0] 26)) := by
    (repeat (first | exact Below.refl _ _ | exact B4 | refine Below.trans ?_ (Below.mono hb5 (by first | omega | (simp; done) | (simp; omega))) | refine Below.alloc ?_ (by first | omega | (simp; done) | (simp; omega)) _))
  obtain ⟨W, hW⟩ : ∃ W : World, W = w5.alloc (.cells #[.int .i64 0, .int .i64 0] 26) := ⟨_, rfl⟩
  have sW : W.heap.size = w5.heap.size + 1 := by rw [hW]; simp
  rw [← hW] at F5 H5 B5 ⊢
  clear hW
  have G0 : Below W.heap.size W W.drew := Below.drew (Below.refl _ _)
  have F5' := Lib.hid F5
  obtain ⟨a0, a1, r0, r1, f0, f1, _, _⟩ := F5.below (Below.refl W.heap.size W) F5.lt
  clear F5
  have TT := fun (u : World) (hu : Below W.heap.size W u) => clone_any u B a.A a.n a.c a.xs (LRd.below H5 hu (by omega)) (Nat.le_trans (by omega : B ≤ W.heap.size) hu.size) hn1
  refine (TT _ (Below.refl _ _)).mono ?_
  intro e w6 hcl
  obtain ⟨A1, c1, rfl, hL1, hb6⟩ := clone_l hcl HLl.out HLm.out
  clear hcl
  have G6 : Below W.heap.size W w6 := hb6
  obtain ⟨p0, p1, q0, q1, g0, g1, _, _⟩ := F5'.out.below G6 F5'.out.lt
  go_wp2_with fail
  refine (signed_any _ false A1 a.n c1 _ a.xs hL1 HRa.out).mono ?_
  rintro e w8 ⟨neg', A', k', c', zs', rfl, hl8, hr8, hb8⟩
  have G8 : Below W.heap.size W w8 := G6.trans (hb8.mono G6.size)
  have F8 := F5'.out.below G8 F5'.out.lt
  obtain ⟨i0, i1, j0, j1, e0, e1, fz, _⟩ := id F8
  have z0 := fz 1 0 (by omega)
  have z1 := fz 1 1 (by omega)
  have z2 := fz 2 0 (by omega)
  have z3 := fz 2 1 (by omega)
  have HR8 := Lib.hid hr8
  clear hr8 fz
  all_goals (go_wp2_with fail)
  all_goals
    have hR := LRd.setR hl8 (⟨j0, j1, e0, e1⟩ : RC w8 (w.heap.size + 1) false none 0 0 0 0) (.bool neg') (.slice A' k' c') (.int .i64 0) (.int .i64 0)
    have B8 : Below w.heap.size w w8 := B5.trans (G8.mono B5.size)
    refine bodyPost_ret (v := .tuple #[intv neg' A' k' c', flt 0 0]) (by simp [results, Try.results24, go_sem, j0, j1, e0, e1]) rfl ⟨neg', A', k', c', zs', rfl, LRd.more hR (by simp), HR8.out, ?_⟩
    (repeat (first | exact Below.refl _ _ | exact B8 | refine Below.drew ?_ | refine below_drewN ?_ _ | refine Below.setCell ?_ (by first | (simp; done) | (simp; omega) | omega) _))
end Go.Proofs.Ytpidkionieaffaa

namespace Go.Proofs.Ytpidkionieaffaa
open Go.RowKit
set_option maxHeartbeats 400000
set_option maxRecDepth 100000
set_option linter.unusedSimpArgs false
set_option linter.unusedVariables false

theorem neg_sval (m : Bool) (v : Nat) : sval (!m) v = -sval m v := by unfold sval; cases m <;> simp
set_option maxHeartbeats 4000000 in
theorem ineg_ok (w : World) (B : Nat) (a : IV) (ha : a.at w B) (hB : B ≤ w.heap.size) (oa : a.ok = true) :
    Calls Try.prog 23 #[a.v] w (GivesVF w (-a.val) 0 0) := by
  have F4 := Fr1.new w a
  have H4 := LRd.below ha (fr1_below w a) hB
  have s4 : (fr1w w a).heap.size = w.heap.size + 3 := by simp
  have HI := Lib.hid (irow1 (fr1w w a) B a H4 (by omega))
  have B4 := fr1_below w a
  obtain ⟨va, la⟩ := IV.vld oa
  have HRa := Lib.hid (⟨ha.lim, rfl, (vld_top va).1⟩ : Rep 4294967296 a.xs (vb 4294967296 a.xs))
  have HLl := Lib.hid ha.len.out
  have HLm := Lib.hid ha.lim
  have hn1 : a.n ≤ 1000000000 := by have := ha.len.out; omega
  go_enter Try.func23, Try.ntmps23
  go_wp2_with fail
  refine (check_any _ B (w.heap.size + 3) 1 [a] (by have := HI.out; rw [s4] at this; exact this) rfl (by simp; omega) (by omega)).mono ?_
  rintro e w5 ⟨rfl, hb5⟩
  rw [one_ok oa]
  have F5 := ((F4.alloc a.cells).below hb5 (by simp)).alloc (.cells #[.int .i64 0, .int .i64 0] 26)
  have hz5 : w.heap.size + 3 < w5.heap.size := by have := hb5.size; simp at this; omega
  have H5 := LRd.alloc (LRd.below (LRd.alloc H4 (by omega) a.cells) hb5 (by simp; omega)) (by omega) (.cells #[.int .i64 0, .int .i64 0] 26)
  obtain ⟨a0, a1, r0, r1, f0, f1, fz, flt'⟩ := id F5
  clear H4 F4
  go_wp2_with fail
  clear a0 a1 r0 r1 f0 f1 fz flt'
  have B5 : Below w.heap.size w (w5.alloc (.cells #[.int .i64 0, .int .i64 0] 26)) := by
    (repeat (first | exact Below.refl _ _ | exact B4 | refine Below.trans ?_ (Below.mono hb5 (by first | omega | (simp; done) | (simp; omega))) | refine Below.alloc ?_ (by first | omega | (simp; done) | (simp; omega)) _))
  obtain ⟨W, hW⟩ : ∃ W : World, W = w5.alloc (.cells #[.int .i64 0, .int .i64 0] 26) := ⟨_, rfl⟩
  have sW : W.heap.size = w5.heap.size + 1 := by rw [hW]; simp
  rw [← hW] at F5 H5 B5 ⊢
  clear hW
  have G0 : Below W.heap.size W W.drew := Below.drew (Below.refl _ _)
  have F5' := Lib.hid F5
  obtain ⟨a0, a1, r0, r1, f0, f1, _, _⟩ := F5.below G0 F5.lt
  clear F5
  have TT := fun (u : World) (hu : Below W.heap.size W u) => clone_any u B a.A a.n a.c a.xs (LRd.below H5 hu (by omega)) (Nat.le_trans (by omega : B ≤ W.heap.size) hu.size) hn1
  first | (go_region_with (first
    | (go_at_call 70; go_loud (refine (TT _ (by first | exact G0 | exact Below.drew G0)).mono ?_; intro e w6 hcl; obtain ⟨A1, c1, rfl, hL1, hb6⟩ := clone_l hcl HLl.out HLm.out; clear hcl; have G6 : Below W.heap.size W w6 := G0.trans (hb6.mono (by simp)); obtain ⟨p0, p1, q0, q1, g0, g1, _, _⟩ := F5'.out.below G6 F5'.out.lt))
    | (go_at_call 69; go_loud (refine (signed_any _ (!a.neg) A1 a.n c1 _ a.xs (by first | exact hL1 | exact hL1.keep (fun _ _ => rfl)) HRa.out).mono ?_; rintro e w8 ⟨neg', A', k', c', zs', rfl, hl8, hr8, hb8⟩; have G8 : Below W.heap.size W w8 := G6.trans (hb8.mono G6.size); have F8 := F5'.out.below G8 F5'.out.lt; obtain ⟨i0, i1, j0, j1, e0, e1, fz, _⟩ := id F8; have z0 := fz 1 0 (by omega); have z1 := fz 1 1 (by omega); have z2 := fz 2 0 (by omega); have z3 := fz 2 1 (by omega); have HR8 := Lib.hid hr8; clear hr8 fz)))) | fail "region"
  all_goals (go_wp2_with fail)
  all_goals
    have hR := LRd.setR hl8 (⟨j0, j1, e0, e1⟩ : RC w8 (w.heap.size + 1) false none 0 0 0 0) (.bool neg') (.slice A' k' c') (.int .i64 0) (.int .i64 0)
    have B8 : Below w.heap.size w w8 := B5.trans (G8.mono B5.size)
    refine bodyPost_ret (v := .tuple #[intv neg' A' k' c', flt 0 0]) (by simp [results, Try.results23, go_sem, j0, j1, e0, e1]) rfl ⟨neg', A', k', c', zs', rfl, LRd.more hR (by simp), (by have := HR8.out; rw [neg_sval] at this; exact this), ?_⟩
    (repeat (first | exact Below.refl _ _ | exact B8 | refine Below.drew ?_ | refine below_drewN ?_ _ | refine Below.setCell ?_ (by first | (simp; done) | (simp; omega) | omega) _))
end Go.Proofs.Ytpidkionieaffaa
