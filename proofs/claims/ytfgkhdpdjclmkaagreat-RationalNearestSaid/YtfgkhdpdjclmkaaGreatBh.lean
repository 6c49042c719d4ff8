/- Package integer: Neg and Abs at an argument that is not valid. Package integer: Bits. -/
import Derived.Test.YtfgkhdpdjclmkaaGreatBf
import Derived.Deep.RegionWith
import Derived.Test.YtfgkhdpdjclmkaaGreatBc
namespace Go.Proofs.YtfgkhdpdjclmkaaGreat
open Go.RowKit
set_option maxHeartbeats 400000
set_option maxRecDepth 100000
set_option linter.unusedSimpArgs false
set_option linter.unusedVariables false

/-- The three blocks at the beginning of a call with one integer that returns one and a fault. -/
structure Fr1 (w : World) (s : Nat) (a : IV) : Prop where
  a0 : w.cell? ⟨s, 0, none⟩ = some (.bool a.neg)
  a1 : w.cell? ⟨s, 1, none⟩ = some (.slice a.A a.n a.c)
  r0 : w.cell? ⟨s + 1, 0, none⟩ = some (.bool false)
  r1 : w.cell? ⟨s + 1, 1, none⟩ = some (.slice none 0 0)
  f0 : w.cell? ⟨s + 2, 0, none⟩ = some (.int .i64 0)
  f1 : w.cell? ⟨s + 2, 1, none⟩ = some (.int .i64 0)
  fz : ∀ t o, t < 3 → w.frozen? ⟨s + t, o, none⟩ = false
  lt : s + 3 ≤ w.heap.size
theorem Fr1.below {w w' : World} {s B : Nat} {a : IV} (h : Fr1 w s a) (hb : Below B w w') (hB : s + 3 ≤ B) : Fr1 w' s a := by
  obtain ⟨hc, hf⟩ := bcell hb
  exact ⟨(hc _ _ (by omega)).trans h.a0, (hc _ _ (by omega)).trans h.a1, (hc _ _ (by omega)).trans h.r0, (hc _ _ (by omega)).trans h.r1, (hc _ _ (by omega)).trans h.f0, (hc _ _ (by omega)).trans h.f1,
    fun t o ht => (hf _ _ (by omega)).trans (h.fz t o ht), by have := hb.size; have := h.lt; omega⟩
theorem Fr1.alloc {w : World} {s : Nat} {a : IV} (h : Fr1 w s a) (o : Obj) : Fr1 (w.alloc o) s a := h.below (bl1 w o) h.lt
abbrev fr1w (w : World) (a : IV) : World := ((w.alloc a.cells).alloc (.cells #[.bool false, .slice none 0 0] 24)).alloc (.cells #[.int .i64 0, .int .i64 0] 28)
theorem Fr1.new (w : World) (a : IV) : Fr1 (fr1w w a) w.heap.size a := by
  refine ⟨by simp [go_sem], by simp [go_sem], by simp [go_sem], by simp [go_sem], by simp [go_sem], by simp [go_sem], fun t o ht => ?_, by simp⟩
  rcases (show t = 0 ∨ t = 1 ∨ t = 2 by omega) with rfl | rfl | rfl <;> simp [go_sem]
theorem irow1 (w : World) (B : Nat) (a : IV) (ha : a.at w B) (hB : B ≤ w.heap.size) : IRow (w.alloc a.cells) B w.heap.size [a] := by
  have ha' := LRd.alloc ha hB a.cells
  refine ⟨fun i hi => ?_, fun i hi => ?_, fun i hi => ?_, by simp⟩
  all_goals
    have hi' : i < 1 := hi
    obtain rfl : i = 0 := by omega
    first | exact ha' | simp [go_sem]
theorem one_ok {a : IV} (ha : a.ok = true) : ffault [a] 0 = (0, 0) := by
  show (if a.ok then (0, 0) else _) = _
  rw [if_pos ha]
/-- The two blocks at the beginning of a call with one integer that returns an int and a fault. -/
structure Fb1 (w : World) (s : Nat) (a : IV) : Prop where
  a0 : w.cell? ⟨s, 0, none⟩ = some (.bool a.neg)
  a1 : w.cell? ⟨s, 1, none⟩ = some (.slice a.A a.n a.c)
  f0 : w.cell? ⟨s + 1, 0, none⟩ = some (.int .i64 0)
  f1 : w.cell? ⟨s + 1, 1, none⟩ = some (.int .i64 0)
  z0 : w.frozen? ⟨s + 1, 0, none⟩ = false
  z1 : w.frozen? ⟨s + 1, 1, none⟩ = false
  lt : s + 2 ≤ w.heap.size
theorem Fb1.below {w w' : World} {s B : Nat} {a : IV} (h : Fb1 w s a) (hb : Below B w w') (hB : s + 2 ≤ B) : Fb1 w' s a := by
  obtain ⟨hc, hf⟩ := bcell hb
  exact ⟨(hc _ _ (by omega)).trans h.a0, (hc _ _ (by omega)).trans h.a1, (hc _ _ (by omega)).trans h.f0, (hc _ _ (by omega)).trans h.f1, (hf _ _ (by omega)).trans h.z0, (hf _ _ (by omega)).trans h.z1, by have := hb.size; have := h.lt; omega⟩
theorem Fb1.alloc {w : World} {s : Nat} {a : IV} (h : Fb1 w s a) (o : Obj) : Fb1 (w.alloc o) s a := h.below (bl1 w o) h.lt
abbrev fb1w (w : World) (a : IV) : World := (w.alloc a.cells).alloc (.cells #[.int .i64 0, .int .i64 0] 28)
theorem Fb1.new (w : World) (a : IV) : Fb1 (fb1w w a) w.heap.size a :=
  ⟨by simp [go_sem], by simp [go_sem], by simp [go_sem], by simp [go_sem], by simp [go_sem], by simp [go_sem], by simp⟩
theorem fb1_below (w : World) (a : IV) : Below w.heap.size w (fb1w w a) := (bl1 w _).alloc (by simp) _
end Go.Proofs.YtfgkhdpdjclmkaaGreat
