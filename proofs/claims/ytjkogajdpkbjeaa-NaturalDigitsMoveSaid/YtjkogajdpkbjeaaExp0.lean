/- Exported functions: words. -/
import Derived.Test.YtjkogajdpkbjeaaDivide
import Derived.Test.YtjkogajdpkbjeaaSum
import Derived.Test.YtjkogajdpkbjeaaProd
import Derived.Test.YtjkogajdpkbjeaaDiff
import Derived.Deep.QuietTactic
import Derived.BigQuiet
import Derived.BigRegion
namespace Go.Proofs.Ytjkogajdpkbjeaa
open Go.RowKit
set_option maxHeartbeats 400000
set_option maxRecDepth 100000
set_option linter.unusedSimpArgs false
set_option linter.unusedVariables false

/-- The first number that is too large. -/
@[irreducible] def Big : Nat := 4294967296 ^ 600
theorem big_pow {m : Nat} (h : m = 600) : Big = 4294967296 ^ m := by subst h; unfold Big; rfl
/-- What an exported function gives: a number and a fault. -/
def GivesF (w : World) (v : Nat) (f1 f2 : Int) (e : Ending) (w' : World) : Prop :=
  ∃ A k c zs, e = .returned (.tuple #[.slice A k c, flt f1 f2]) ∧ LRd w' w'.heap.size A k c zs ∧ Rep 4294967296 zs v ∧ Below w.heap.size w w'
/-- The same, where the number may be too large. -/
def GivesB (w : World) (p : Nat) (e : Ending) (w' : World) : Prop :=
  (p < Big ∧ GivesF w p 0 0 e w') ∨ (Big ≤ p ∧ GivesF w 0 14 (-1) e w')
def GivesI (w : World) (v f1 f2 : Int) (e : Ending) (w' : World) : Prop := e = .returned (.tuple #[.int .i64 v, flt f1 f2]) ∧ Below w.heap.size w w'
theorem vld_top {xs : List Nat} (h : vld xs = true) : Top xs ∧ xs.length ≤ 600 := by
  unfold vld at h
  simp only [Bool.and_eq_true, decide_eq_true_eq, Bool.or_eq_true, beq_iff_eq, bne_iff_ne] at h
  refine ⟨fun m hm => ?_, h.1⟩
  rcases h.2 with e | e
  · omega
  · rw [hm, Nat.add_sub_cancel] at e; exact e
theorem nil_lrd (w : World) : LRd w w.heap.size none 0 0 [] := ⟨rfl, by omega, (by intro x hx; cases hx), fun h0 => absurd h0 (by omega)⟩
theorem nil_rep : Rep 4294967296 [] 0 := ⟨(by intro x hx; cases hx), rfl, Top.nil⟩
section
variable {w w' : World} {B B' n c : Nat} {A : Option Addr} {xs : List Nat}
/-- A store over an int leaves limbs alone. -/
theorem LRd.setI (h : LRd w B A n c xs) {p : Addr} {z : Int} (hp : w.cell? p = some (.int .i64 z)) (u : Value) : LRd (w.setCell p u) B A n c xs :=
  ⟨h.len, h.cap, h.lim, fun hn => by
    obtain ⟨b, off, e, hb, hc⟩ := h.rd hn
    refine ⟨b, off, e, hb, fun j hj => ?_⟩
    rw [World.cell?_setCell_other w p ⟨b, off + j, none⟩ u (fun e => by
      have h1 := hc j hj
      rw [← e, hp] at h1
      simp at h1)]
    exact hc j hj⟩
theorem LRd.alloc (h : LRd w B A n c xs) (hB : B ≤ w.heap.size) (o : Obj) : LRd (w.alloc o) B A n c xs := h.keep fun p hp => World.cell?_alloc_lt w o p (by omega)
theorem LRd.drew (h : LRd w B A n c xs) : LRd w.drew B A n c xs := h.keep fun _ _ => rfl
end
theorem big_len {zs : List Nat} {v k : Nat} (h : Rep 4294967296 zs v) (hl : zs.length = k) (hk : 600 < k) : Big ≤ v := by
  obtain ⟨m, hm⟩ : ∃ m, zs.length = m + 1 := ⟨zs.length - 1, by omega⟩
  obtain ⟨t, ht⟩ : ∃ t, t = 600 := ⟨_, rfl⟩
  have h1 := h.top.low (b := 4294967296) hm
  have h2 : 4294967296 ^ t ≤ 4294967296 ^ m := Nat.pow_le_pow_right (by decide) (by omega)
  rw [h.val] at h1
  rw [big_pow ht]
  omega
theorem fit_len {zs : List Nat} {v k : Nat} (h : Rep 4294967296 zs v) (hl : zs.length = k) (hk : k ≤ 600) : v < Big := by
  obtain ⟨t, ht⟩ : ∃ t, t = 600 := ⟨_, rfl⟩
  have h1 := h.lt_pow (by decide)
  have h2 : 4294967296 ^ zs.length ≤ 4294967296 ^ t := Nat.pow_le_pow_right (by decide) (by omega)
  rw [big_pow ht]
  omega
end Go.Proofs.Ytjkogajdpkbjeaa
