/- RationalTermsBack: what the law's regions give. -/
import Derived.Test.YtdhdkknaagadaaaHt
import Derived.Test.YtdhdkknaagadaaaHu
import Derived.Test.YtdhdkknaagadaaaHFld
import Derived.Test.YtdhdkknaagadaaaHInt21
import Derived.Deep.DeepCutAuto
namespace Go.Proofs.Ytdhdkknaagadaaa
open Go.RowKit
set_option maxHeartbeats 400000
set_option maxRecDepth 100000
set_option linter.unusedSimpArgs false
set_option linter.unusedVariables false

def PtG (V : World) (n d : Int) (s t : Value) (wx : World) : Prop :=
  ∃ (g h : Nat) (z : RV), s = .pointer (some ⟨g, 0, none⟩) ∧ t = .pointer (some ⟨h, 0, none⟩) ∧ Bk4 wx g (.bool z.num.neg) (.slice z.num.A z.num.n z.num.c) (.bool z.den.neg) (.slice z.den.A z.den.n z.den.c) ∧ Bk2 wx h (.int .i64 0) (.int .i64 0) ∧ z.at wx wx.heap.size ∧ Hid (IRep z.num.neg z.num.xs n) ∧ Hid (IRep z.den.neg z.den.xs d) ∧ V.heap.size ≤ g ∧ V.heap.size ≤ h ∧ g ≠ h ∧ Below V.heap.size V wx
section
variable {V u : World} {z : RV} {g h : Nat} {n d : Int} (H : z.at u u.heap.size) (I : Hid (IRep z.num.neg z.num.xs n)) (J : Hid (IRep z.den.neg z.den.xs d)) (b : Below V.heap.size V u)
include H I J b
theorem pg_aa : PtG V n d (.pointer (some ⟨u.heap.size, 0, none⟩)) (.pointer (some ⟨u.heap.size + 1, 0, none⟩)) ((u.alloc (.cells #[.bool z.num.neg, .slice z.num.A z.num.n z.num.c, .bool z.den.neg, .slice z.den.A z.den.n z.den.c] 26)).alloc (.cells #[.int .i64 0, .int .i64 0] 29)) :=
  ⟨_, _, z, rfl, rfl, (Bk4.newAt _ _ rfl _ _ _ _ _).alloc _, Bk2.newAt _ _ (by simp) _ _ _, rv_at (LRd.more ((LRd.alloc H.1 (Nat.le_refl _) _).alloc (by simp) _) (by simp; omega)) (LRd.more ((LRd.alloc H.2 (Nat.le_refl _) _).alloc (by simp) _) (by simp; omega)), I, J, b.size, by have := b.size; omega, by omega, (b.alloc b.size _).alloc (by have := b.size; simp; omega) _⟩
theorem pg_bb : PtG V n d (.pointer (some ⟨u.heap.size + 1, 0, none⟩)) (.pointer (some ⟨u.heap.size, 0, none⟩)) ((u.alloc (.cells #[.int .i64 0, .int .i64 0] 29)).alloc (.cells #[.bool z.num.neg, .slice z.num.A z.num.n z.num.c, .bool z.den.neg, .slice z.den.A z.den.n z.den.c] 26)) :=
  ⟨_, _, z, rfl, rfl, Bk4.newAt _ _ (by simp) _ _ _ _ _, (Bk2.newAt _ _ rfl _ _ _).alloc _, rv_at (LRd.more ((LRd.alloc H.1 (Nat.le_refl _) _).alloc (by simp) _) (by simp; omega)) (LRd.more ((LRd.alloc H.2 (Nat.le_refl _) _).alloc (by simp) _) (by simp; omega)), I, J, by have := b.size; omega, b.size, by omega, (b.alloc b.size _).alloc (by have := b.size; simp; omega) _⟩
theorem pg_oa (G : Bk4 u g (.bool false) (.slice none 0 0) (.bool false) (.slice none 0 0)) (hg : V.heap.size ≤ g) : PtG V n d (.pointer (some ⟨g, 0, none⟩)) (.pointer (some ⟨u.heap.size, 0, none⟩)) (((((u.setCell ⟨g, 0, none⟩ (.bool z.num.neg)).setCell ⟨g, 1, none⟩ (.slice z.num.A z.num.n z.num.c)).setCell ⟨g, 2, none⟩ (.bool z.den.neg)).setCell ⟨g, 3, none⟩ (.slice z.den.A z.den.n z.den.c)).alloc (.cells #[.int .i64 0, .int .i64 0] 29)) :=
  ⟨_, _, z, rfl, rfl, (G.set _ _ _ _).alloc _, Bk2.newAt _ _ (by simp [World.setCell]) _ _ _, rv_at (LRd.more ((LRd.set4 H.1 G (by simp) (by simp) (by simp) (by simp) _ _ _ _).alloc (by simp [World.setCell]) _) (by simp [World.setCell])) (LRd.more ((LRd.set4 H.2 G (by simp) (by simp) (by simp) (by simp) _ _ _ _).alloc (by simp [World.setCell]) _) (by simp [World.setCell])), I, J, hg, b.size, by have := G.lt; omega, ((((b.setCell (p := ⟨g, 0, none⟩) hg _).setCell (p := ⟨g, 1, none⟩) hg _).setCell (p := ⟨g, 2, none⟩) hg _).setCell (p := ⟨g, 3, none⟩) hg _).alloc (by have := b.size; simp [World.setCell]; omega) _⟩
theorem pg_ao (F : Bk2 u h (.int .i64 0) (.int .i64 0)) (hh : V.heap.size ≤ h) : PtG V n d (.pointer (some ⟨u.heap.size, 0, none⟩)) (.pointer (some ⟨h, 0, none⟩)) (((u.setCell ⟨h, 0, none⟩ (.int .i64 0)).setCell ⟨h, 1, none⟩ (.int .i64 0)).alloc (.cells #[.bool z.num.neg, .slice z.num.A z.num.n z.num.c, .bool z.den.neg, .slice z.den.A z.den.n z.den.c] 26)) :=
  ⟨_, _, z, rfl, rfl, Bk4.newAt _ _ (by simp [World.setCell]) _ _ _ _ _, (F.set _ _).alloc _, rv_at (LRd.more ((LRd.setB H.1 F (by simp) (by simp) _ _).alloc (by simp [World.setCell]) _) (by simp [World.setCell])) (LRd.more ((LRd.setB H.2 F (by simp) (by simp) _ _).alloc (by simp [World.setCell]) _) (by simp [World.setCell])), I, J, b.size, hh, by have := F.lt; omega, ((b.setCell (p := ⟨h, 0, none⟩) hh _).setCell (p := ⟨h, 1, none⟩) hh _).alloc (by have := b.size; simp [World.setCell]; omega) _⟩
theorem pg_oo (G : Bk4 u g (.bool false) (.slice none 0 0) (.bool false) (.slice none 0 0)) (F : Bk2 u h (.int .i64 0) (.int .i64 0)) (hg : V.heap.size ≤ g) (hh : V.heap.size ≤ h) (hne : g ≠ h) : PtG V n d (.pointer (some ⟨g, 0, none⟩)) (.pointer (some ⟨h, 0, none⟩)) ((((((u.setCell ⟨g, 0, none⟩ (.bool z.num.neg)).setCell ⟨g, 1, none⟩ (.slice z.num.A z.num.n z.num.c)).setCell ⟨g, 2, none⟩ (.bool z.den.neg)).setCell ⟨g, 3, none⟩ (.slice z.den.A z.den.n z.den.c)).setCell ⟨h, 0, none⟩ (.int .i64 0)).setCell ⟨h, 1, none⟩ (.int .i64 0)) := by
  have G' := G.set (.bool z.num.neg) (.slice z.num.A z.num.n z.num.c) (.bool z.den.neg) (.slice z.den.A z.den.n z.den.c)
  have F' := F.far4 hne (.bool z.num.neg) (.slice z.num.A z.num.n z.num.c) (.bool z.den.neg) (.slice z.den.A z.den.n z.den.c)
  exact ⟨_, _, z, rfl, rfl, G'.far2 (Ne.symm hne) _ _, F'.set _ _, rv_at (LRd.more (LRd.setB (LRd.set4 H.1 G (by simp) (by simp) (by simp) (by simp) _ _ _ _) F' (by simp) (by simp) _ _) (by simp [World.setCell])) (LRd.more (LRd.setB (LRd.set4 H.2 G (by simp) (by simp) (by simp) (by simp) _ _ _ _) F' (by simp) (by simp) _ _) (by simp [World.setCell])), I, J, hg, hh, hne, (((((b.setCell (p := ⟨g, 0, none⟩) hg _).setCell (p := ⟨g, 1, none⟩) hg _).setCell (p := ⟨g, 2, none⟩) hg _).setCell (p := ⟨g, 3, none⟩) hg _).setCell (p := ⟨h, 0, none⟩) hh _).setCell (p := ⟨h, 1, none⟩) hh _⟩
end
section
variable {V u : World} {h : Nat} {l r : Int} (I : Hid (ICmp l 1 r)) (b : Below V.heap.size V u)
include I b
end
/-! The numbers of a continued fraction. -/
theorem Chain.low : ∀ (zs : List Int) (n0 d0 n d : Int), Chain zs n0 d0 n d → Nat.gcd n.natAbs d.natAbs = Nat.gcd n0.natAbs d0.natAbs
  | [], n0, d0, n, d, ⟨h1, h2⟩ => by rw [h1, h2]
  | z :: zs, n0, d0, n, d, ⟨_, _, h3⟩ => by
    rw [Chain.low zs d0 (n0 % d0) n d h3]
    show Int.gcd d0 (n0 % d0) = Int.gcd n0 d0
    rw [Int.gcd_comm n0 d0, Int.emod_def]
    simp
theorem Chain.bd : ∀ (zs : List Int) (n0 d0 n d : Int), 0 ≤ d0 → Chain zs n0 d0 n d → 0 ≤ d ∧ d ≤ d0 ∧ n.natAbs ≤ max n0.natAbs d0.natAbs
  | [], n0, d0, n, d, h0, ⟨h1, h2⟩ => by subst h1 h2; omega
  | z :: zs, n0, d0, n, d, h0, ⟨h1, _, h3⟩ => by
    have e1 := Int.emod_nonneg n0 (show d0 ≠ 0 by omega)
    have e2 := Int.emod_lt_of_pos n0 h1
    have := Chain.bd zs d0 (n0 % d0) n d e1 h3
    omega
end Go.Proofs.Ytdhdkknaagadaaa
