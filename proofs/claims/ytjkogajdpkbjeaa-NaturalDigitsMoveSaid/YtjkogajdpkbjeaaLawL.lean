/- NaturalArithmetic: the law, where the difference is no number: helpers. -/
import Derived.Test.YtjkogajdpkbjeaaLawH
import Derived.Test.YtjkogajdpkbjeaaOfF
namespace Go.Proofs.Ytjkogajdpkbjeaa
open Go.RowKit
set_option maxHeartbeats 400000
set_option maxRecDepth 100000
set_option linter.unusedSimpArgs false
set_option linter.unusedVariables false

theorem FC.set {w : World} {g g' : Nat} {a b : Int} (h : FC w g a b) (hne : g' ≠ g) (o : Nat) (u : Value) : FC (w.setCell ⟨g', o, none⟩ u) g a b :=
  ⟨(World.cell?_setCell_other w ⟨g', o, none⟩ ⟨g, 0, none⟩ u (fun e => by injection e; omega)).trans h.c0, (World.cell?_setCell_other w ⟨g', o, none⟩ ⟨g, 1, none⟩ u (fun e => by injection e; omega)).trans h.c1, by have := h.lt; simpa using this, fun t => (World.frozen?_setCell _ _ _ _).trans (h.fz t)⟩
theorem FC.store {w : World} {g : Nat} {a b : Int} (h : FC w g a b) (x y : Int) : FC ((w.setCell ⟨g, 0, none⟩ (.int .i64 x)).setCell ⟨g, 1, none⟩ (.int .i64 y)) g x y := by
  have h0 := h.c0
  have h1 := h.c1
  have h2 := h.lt
  have e0 : (w.setCell ⟨g, 0, none⟩ (.int .i64 x)).cell? ⟨g, 0, none⟩ = some (.int .i64 x) := World.cell?_setCell_same w _ _ h0
  have e1 : (w.setCell ⟨g, 0, none⟩ (.int .i64 x)).cell? ⟨g, 1, none⟩ = some (.int .i64 b) := (World.cell?_setCell_other w ⟨g, 0, none⟩ ⟨g, 1, none⟩ _ (fun e => by injection e; omega)).trans h1
  exact ⟨(World.cell?_setCell_other _ ⟨g, 1, none⟩ ⟨g, 0, none⟩ _ (fun e => by injection e; omega)).trans e0, World.cell?_setCell_same _ _ _ e1, by simpa using h2, fun t => ((World.frozen?_setCell _ _ _ _).trans (World.frozen?_setCell _ _ _ _)).trans (h.fz t)⟩
theorem DRd.setF {w : World} {B B0 n c g : Nat} {A : Option Addr} {xs : List Nat} (h : DRd w B A n c xs) (hf : 0 < n → ∃ g, A = some ⟨g, 0, none⟩ ∧ B0 ≤ g) (hg : g < B0) (o : Nat) (u : Value) : DRd (w.setCell ⟨g, o, none⟩ u) B A n c xs :=
  ⟨h.len, h.cap, h.lim, fun hn => by
    obtain ⟨b, off, e, hb, hc⟩ := h.rd hn
    obtain ⟨g', e', hg'⟩ := hf hn
    rw [e] at e'
    injection e' with e'
    injection e' with e1 e2
    refine ⟨b, off, e, hb, fun j hj => ?_⟩
    rw [World.cell?_setCell_other w ⟨g, o, none⟩ ⟨b, off + j, none⟩ u (fun e => by injection e; omega)]
    exact hc j hj⟩
theorem le_at2 {W v : World} {B : Nat} (hz : B ≤ W.heap.size) (h : Below W.heap.size W v) : B ≤ v.heap.size := by have := h.size; omega
end Go.Proofs.Ytjkogajdpkbjeaa
