/- RationalTermsBack: what the law's regions give. -/
import Derived.Test.YtdhdkknaagadaaaGt
import Derived.Test.YtdhdkknaagadaaaGu
import Derived.Test.YtdhdkknaagadaaaGFld
import Derived.Test.YtdhdkknaagadaaaGInt21
import Derived.Deep.DeepCutAuto
namespace Go.Proofs.Ytdhdkknaagadaaa
open Go.RowKit
set_option maxHeartbeats 400000
set_option maxRecDepth 100000
set_option linter.unusedSimpArgs false
set_option linter.unusedVariables false

def PtG (V : World) (n d : Int) (s t : Value) (wx : World) : Prop :=
  ∃ (g h : Nat) (z : RV), s = .pointer (some ⟨g, 0, none⟩) ∧ t = .pointer (some ⟨h, 0, none⟩) ∧ Bk4 wx g (.bool z.num.neg) (.slice z.num.A z.num.n z.num.c) (.bool z.den.neg) (.slice z.den.A z.den.n z.den.c) ∧ Bk2 wx h (.int .i64 0) (.int .i64 0) ∧ z.at wx wx.heap.size ∧ Hid (IRep z.num.neg z.num.xs n) ∧ Hid (IRep z.den.neg z.den.xs d) ∧ V.heap.size ≤ g ∧ V.heap.size ≤ h ∧ g ≠ h ∧ Below V.heap.size V wx
section
variable {V u : World} {z : RV} {g h : Nat} {n d : Int} (H : z.at u u.heap.size) (I : Hid (IRep z.num.neg z.num.xs n)) (J : Hid (IRep z.den.neg z.den.xs d)) (b : Below V.heap.size V u)
include H I J b
theorem pg_aa : PtG V n d (.pointer (some ⟨u.heap.size, 0, none⟩)) (.pointer (some ⟨u.heap.size + 1, 0, none⟩)) ((u.alloc (.cells #[.bool z.num.neg, .slice z.num.A z.num.n z.num.c, .bool z.den.neg, .slice z.den.A z.den.n z.den.c] 26)).alloc (.cells #[.int .i64 0, .int .i64 0] 29)) :=
  ⟨_, _, z, rfl, rfl, (Bk4.newAt _ _ rfl _ _ _ _ _).alloc _, Bk2.newAt _ _ (by simp) _ _ _, rv_at (LRd.more ((LRd.alloc H.1 (Nat.le_refl _) _).alloc (by simp) _) (by simp; omega)) (LRd.more ((LRd.alloc H.2 (Nat.le_refl _) _).alloc (by simp) _) (by simp; omega)), I, J, b.size, by have := b.size; omega, by omega, (b.alloc b.size _).alloc (by have := b.size; simp; omega) _⟩
theorem pg_bb : PtG V n d (.pointer (some ⟨u.heap.size + 1, 0, none⟩)) (.pointer (some ⟨u.heap.size, 0, none⟩)) ((u.alloc (.cells #[.int .i64 0, .int .i64 0] 29)).alloc (.cells #[.bool z.num.neg, .slice z.num.A z.num.n z.num.c, .bool z.den.neg, .slice z.den.A z.den.n z.den.c] 26)) :=
  ⟨_, _, z, rfl, rfl, Bk4.newAt _ _ (by simp) _ _ _ _ _, (Bk2.newAt _ _ rfl _ _ _).alloc _, rv_at (LRd.more ((LRd.alloc H.1 (Nat.le_refl _) _).alloc (by simp) _) (by simp; omega)) (LRd.more ((LRd.alloc H.2 (Nat.le_refl _) _).alloc (by simp) _) (by simp; omega)), I, J, by have := b.size; omega, b.size, by omega, (b.alloc b.size _).alloc (by have := b.size; simp; omega) _⟩
theorem pg_oa (G : Bk4 u g (.bool false) (.slice none 0 0) (.bool false) (.slice none 0 0)) (hg : V.heap.size ≤ g) : PtG V n d (.pointer (some ⟨g, 0, none⟩)) (.pointer (some ⟨u.heap.size, 0, none⟩)) (((((u.setCell ⟨g, 0, none⟩ (.bool z.num.neg)).setCell ⟨g, 1, none⟩ (.slice z.num.A z.num.n z.num.c)).setCell ⟨g, 2, none⟩ (.bool z.den.neg)).setCell ⟨g, 3, none⟩ (.slice z.den.A z.den.n z.den.c)).alloc (.cells #[.int .i64 0, .int .i64 0] 29)) :=
  ⟨_, _, z, rfl, rfl, (G.set _ _ _ _).alloc _, Bk2.newAt _ _ (by simp [World.setCell]) _ _ _, rv_at (LRd.more ((LRd.set4 H.1 G (by simp) (by simp) (by simp) (by simp) _ _ _ _).alloc (by simp [World.setCell]) _) (by simp [World.setCell])) (LRd.more ((LRd.set4 H.2 G (by simp) (by simp) (by simp) (by simp) _ _ _ _).alloc (by simp [World.setCell]) _) (by simp [World.setCell])), I, J, hg, b.size, by have := G.lt; omega, ((((b.setCell (p := ⟨g, 0, none⟩) hg _).setCell (p := ⟨g, 1, none⟩) hg _).setCell (p := ⟨g, 2, none⟩) hg _).setCell (p := ⟨g, 3, none⟩) hg _).alloc (by have := b.size; simp [World.setCell]; omega) _⟩
theorem pg_ao (F : Bk2 u h (.int .i64 0) (.int .i64 0)) (hh : V.heap.size ≤ h) : PtG V n d (.pointer (some ⟨u.heap.size, 0, none⟩)) (.pointer (some ⟨h, 0, none⟩)) (((u.setCell ⟨h, 0, none⟩ (.int .i64 0)).setCell ⟨h, 1, none⟩ (.int .i64 0)).alloc (.cells #[.bool z.num.neg, .slice z.num.A z.num.n z.num.c, .bool z.den.neg, .slice z.den.A z.den.n z.den.c] 26)) :=
  ⟨_, _, z, rfl, rfl, Bk4.newAt _ _ (by simp [World.setCell]) _ _ _ _ _, (F.set _ _).alloc _, rv_at (LRd.more ((LRd.setB H.1 F (by simp) (by simp) _ _).alloc (by simp [World.setCell]) _) (by simp [World.setCell])) (LRd.more ((LRd.setB H.2 F (by simp) (by simp) _ _).alloc (by simp [World.setCell]) _) (by simp [World.setCell])), I, J, b.size, hh, by have := F.lt; omega, ((b.setCell (p := ⟨h, 0, none⟩) hh _).setCell (p := ⟨h, 1, none⟩) hh _).alloc (by have := b.size; simp [World.setCell]; omega) _⟩
theorem pg_oo (G : Bk4 u g (.bool false) (.slice none 0 0) (.bool false) (.slice none 0 0)) (F : Bk2 u h (.int .i64 0) (.int .i64 0)) (hg : V.heap.size ≤ g) (hh : V.heap.size ≤ h) (hne : g ≠ h) : PtG V n d (.pointer (some ⟨g, 0, none⟩)) (.pointer (some ⟨h, 0, none⟩)) ((((((u.setCell ⟨g, 0, none⟩ (.bool z.num.neg)).setCell ⟨g, 1, none⟩ (.slice z.num.A z.num.n z.num.c)).setCell ⟨g, 2, none⟩ (.bool z.den.neg)).setCell ⟨g, 3, none⟩ (.slice z.den.A z.den.n z.den.c)).setCell ⟨h, 0, none⟩ (.int .i64 0)).setCell ⟨h, 1, none⟩ (.int .i64 0)) := by
  have G' := G.set (.bool z.num.neg) (.slice z.num.A z.num.n z.num.c) (.bool z.den.neg) (.slice z.den.A z.den.n z.den.c)
  have F' := F.far4 hne (.bool z.num.neg) (.slice z.num.A z.num.n z.num.c) (.bool z.den.neg) (.slice z.den.A z.den.n z.den.c)
  exact ⟨_, _, z, rfl, rfl, G'.far2 (Ne.symm hne) _ _, F'.set _ _, rv_at (LRd.more (LRd.setB (LRd.set4 H.1 G (by simp) (by simp) (by simp) (by simp) _ _ _ _) F' (by simp) (by simp) _ _) (by simp [World.setCell])) (LRd.more (LRd.setB (LRd.set4 H.2 G (by simp) (by simp) (by simp) (by simp) _ _ _ _) F' (by simp) (by simp) _ _) (by simp [World.setCell])), I, J, hg, hh, hne, (((((b.setCell (p := ⟨g, 0, none⟩) hg _).setCell (p := ⟨g, 1, none⟩) hg _).setCell (p := ⟨g, 2, none⟩) hg _).setCell (p := ⟨g, 3, none⟩) hg _).setCell (p := ⟨h, 0, none⟩) hh _).setCell (p := ⟨h, 1, none⟩) hh _⟩
end
/-- An integer as a ratio. -/
theorem make1 (w : World) (B : Nat) (a : IV) (la : Int) (n : Bool) (D : Option Addr) (l d : Nat) (ys : List Nat) (HA : LRd w B a.A a.n a.c a.xs) (HM : LRd w B D l d ys) (hB : B ≤ w.heap.size) (I : Hid (IRep a.neg a.xs la)) (J : Hid (IRep n ys 1)) (hb : Hid (la.natAbs < Top128)) :
    Calls Try.prog 17 #[a.v, intv n D l d] w (fun e w' => ∃ z : RV, e = .returned (.tuple #[z.v, flt 0 0]) ∧ z.at w' w'.heap.size ∧ IRep z.num.neg z.num.xs la ∧ IRep z.den.neg z.den.xs 1 ∧ Below w.heap.size w w') := by
  have h := rmake_x w B a (IV.mk n D l d ys) la 1 HA HM hB I.out J.out hb.out (lt_top (by decide)) (by decide)
  refine h.mono fun e w' ⟨x, he, hx, ox, cx, px, _, _, hb⟩ => ?_
  have U := low_uniq (n' := la) (d' := 1) cx px (by decide) (rv_low ox hx) (by simp)
  have V := RV.val ox hx
  exact ⟨x, he, hx, by rw [← U.1]; exact V.num, by rw [← U.2]; exact V.den, hb⟩
def CmG (V : World) (l : Int) (s t : Value) (wx : World) : Prop :=
  ∃ (r : Int) (h : Nat), s = .int .i64 r ∧ t = .pointer (some ⟨h, 0, none⟩) ∧ Hid (ICmp l 1 r) ∧ Bk2 wx h (.int .i64 0) (.int .i64 0) ∧ V.heap.size ≤ h ∧ Below V.heap.size V wx
section
variable {V u : World} {h : Nat} {l r : Int} (I : Hid (ICmp l 1 r)) (b : Below V.heap.size V u)
include I b
theorem cg_a : CmG V l (.int .i64 r) (.pointer (some ⟨u.heap.size, 0, none⟩)) (u.alloc (.cells #[.int .i64 0, .int .i64 0] 29)) := ⟨r, _, rfl, rfl, I, Bk2.newAt _ _ rfl _ _ _, b.size, b.alloc b.size _⟩
theorem cg_o (F : Bk2 u h (.int .i64 0) (.int .i64 0)) (hh : V.heap.size ≤ h) : CmG V l (.int .i64 r) (.pointer (some ⟨h, 0, none⟩)) ((u.setCell ⟨h, 0, none⟩ (.int .i64 0)).setCell ⟨h, 1, none⟩ (.int .i64 0)) := ⟨r, _, rfl, rfl, I, F.set _ _, hh, (b.setCell (p := ⟨h, 0, none⟩) hh _).setCell (p := ⟨h, 1, none⟩) hh _⟩
end
/-! The numbers of a continued fraction. -/
theorem Chain.low : ∀ (zs : List Int) (n0 d0 n d : Int), Chain zs n0 d0 n d → Nat.gcd n.natAbs d.natAbs = Nat.gcd n0.natAbs d0.natAbs
  | [], n0, d0, n, d, ⟨h1, h2⟩ => by rw [h1, h2]
  | z :: zs, n0, d0, n, d, ⟨_, _, h3⟩ => by
    rw [Chain.low zs d0 (n0 % d0) n d h3]
    show Int.gcd d0 (n0 % d0) = Int.gcd n0 d0
    rw [Int.gcd_comm n0 d0, Int.emod_def]
    simp
theorem Chain.bd : ∀ (zs : List Int) (n0 d0 n d : Int), 0 ≤ d0 → Chain zs n0 d0 n d → 0 ≤ d ∧ d ≤ d0 ∧ n.natAbs ≤ max n0.natAbs d0.natAbs
  | [], n0, d0, n, d, h0, ⟨h1, h2⟩ => by subst h1 h2; omega
  | z :: zs, n0, d0, n, d, h0, ⟨h1, _, h3⟩ => by
    have e1 := Int.emod_nonneg n0 (show d0 ≠ 0 by omega)
    have e2 := Int.emod_lt_of_pos n0 h1
    have := Chain.bd zs d0 (n0 % d0) n d e1 h3
    omega
theorem Chain.gt : ∀ (zs : List Int) (n0 d0 n d : Int), zs ≠ [] → Chain zs n0 d0 n d → d < n
  | [z], n0, d0, n, d, _, ⟨h1, _, h3, h4⟩ => by
    subst h3 h4
    exact Int.emod_lt_of_pos n0 h1
  | z :: y :: zs, n0, d0, n, d, _, ⟨_, _, h3⟩ => Chain.gt (y :: zs) d0 (n0 % d0) n d (by simp) h3
/-- The last term. -/
theorem Chain.last {zs : List Int} {n0 d0 n : Int} {m : Nat} (hc : Chain zs n0 d0 n 0) (hm : m < zs.length) (hl : zs.length = m + 1) (hg : Nat.gcd n0.natAbs d0.natAbs = 1) : Chain (zs.take m) n0 d0 zs[m] 1 ∧ (0 < m → 1 < zs[m]) := by
  have e : zs = zs.take m ++ [zs[m]] := by
    have := List.take_append_getElem (l := zs) (i := m) hm
    rw [this, ← hl, List.take_length]
  generalize hz : zs[m] = z at *
  rw [e] at hc
  obtain ⟨a, b, h1, h2, h3, h4, h5⟩ := (Chain.split _ _ _ _ _ _).1 hc
  have hlow := Chain.low _ _ _ _ _ h1
  rw [hg] at hlow
  have hd : b.natAbs ∣ a.natAbs := Int.natAbs_dvd_natAbs.2 (Int.dvd_of_emod_eq_zero h5)
  have hb1 : b.natAbs = 1 := by
    have := Nat.gcd_eq_right hd
    omega
  have hb : b = 1 := by omega
  subst hb
  have ha : z = a := by rw [h3]; omega
  refine ⟨by rw [ha]; exact h1, fun h0 => ?_⟩
  have hne : zs.take m ≠ [] := fun h => by
    have h9 : (zs.take m).length = 0 := by rw [h]; rfl
    rw [List.length_take] at h9
    omega
  have := Chain.gt (zs.take m) n0 d0 a 1 hne h1
  omega
theorem Chain.step {zs : List Int} {n0 d0 a b : Int} {k : Nat} (hk : k < zs.length) (hc : Chain (zs.take (k + 1)) n0 d0 a b) : ∃ a' b', Chain (zs.take k) n0 d0 a' b' ∧ 0 < b' ∧ zs[k] = a' / b' ∧ a = b' ∧ b = a' % b' := by
  rw [← List.take_append_getElem hk] at hc
  obtain ⟨a', b', h1, h2, h3, h4, h5⟩ := (Chain.split _ _ _ _ _ _).1 hc
  exact ⟨a', b', h1, h2, h3, h4.symm, h5.symm⟩
end Go.Proofs.Ytdhdkknaagadaaa
