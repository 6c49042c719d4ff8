/- The law's yields. -/
import Derived.Test.YtflmcgoijofpdaaGreatAInt20
import Derived.Test.YtflmcgoijofpdaaGreatAl
import Derived.Laws.StructEq
namespace Go.Proofs.YtflmcgoijofpdaaGreat
open Go.RowKit
set_option maxHeartbeats 400000
set_option maxRecDepth 100000
set_option linter.unusedSimpArgs false
set_option linter.unusedVariables false

theorem DRd.setFar2 {w : World} {B n c g : Nat} {A : Option Addr} {xs : List Nat} (h : DRd w B A n c xs) (hg : B ≤ g) (x y : Value) : DRd ((w.setCell ⟨g, 0, none⟩ x).setCell ⟨g, 1, none⟩ y) B A n c xs :=
  h.keep fun p hp => by
    rw [World.cell?_setCell_other _ _ _ _ (fun e => by rw [← e] at hp; simp at hp; omega), World.cell?_setCell_other _ _ _ _ (fun e => by rw [← e] at hp; simp at hp; omega)]
theorem LRd.setFar2 {w : World} {B n c g : Nat} {A : Option Addr} {xs : List Nat} (h : LRd w B A n c xs) (hg : B ≤ g) (x y : Value) : LRd ((w.setCell ⟨g, 0, none⟩ x).setCell ⟨g, 1, none⟩ y) B A n c xs :=
  h.keep fun p hp => by
    rw [World.cell?_setCell_other _ _ _ _ (fun e => by rw [← e] at hp; simp at hp; omega), World.cell?_setCell_other _ _ _ _ (fun e => by rw [← e] at hp; simp at hp; omega)]
theorem top_256 : ∀ {m k : Nat}, m = 128 → k = 256 → 4294967296 ^ m = 65536 ^ k := by
  intro m k hm hk
  have e : k = 2 * m := by omega
  rw [e, Nat.pow_mul]
theorem fits_len {zs : List Nat} {v k : Nat} (h : Rep 65536 zs v) (hl : zs.length = k) (hv : v < Top128) : k ≤ 256 := by
  obtain ⟨m, hm⟩ : ∃ m, m = 128 := ⟨_, rfl⟩
  obtain ⟨j, hj⟩ : ∃ j, j = 256 := ⟨_, rfl⟩
  rw [top128 hm, top_256 hm hj] at hv
  have := h.length_le (by decide) hv
  omega
theorem fits_len' {zs : List Nat} {v k : Nat} (h : Rep 65536 zs v) (hl : zs.length = k) (hv : Top128 ≤ v) : 256 < k := by
  obtain ⟨m, hm⟩ : ∃ m, m = 128 := ⟨_, rfl⟩
  obtain ⟨j, hj⟩ : ∃ j, j = 256 := ⟨_, rfl⟩
  rw [top128 hm, top_256 hm hj] at hv
  rcases Nat.lt_or_ge 256 k with e | e
  · exact e
  · exfalso
    have h1 := h.lt_pow (by decide)
    have h2 : 65536 ^ zs.length ≤ 65536 ^ j := Nat.pow_le_pow_right (by decide) (by omega)
    omega
end Go.Proofs.YtflmcgoijofpdaaGreat
