/- Make and Pow of the program with every outcome in one statement; RationalMakes' words. -/
import Derived.Test.YtfgkhdpdjclmkaaGreatBz
import Derived.Test.YtfgkhdpdjclmkaaGreatBRpow
import Derived.Test.YtfgkhdpdjclmkaaGreatBy
namespace Go.Proofs.YtfgkhdpdjclmkaaGreat
open Go.RowKit
set_option maxHeartbeats 400000
set_option maxRecDepth 100000
set_option linter.unusedSimpArgs false
set_option linter.unusedVariables false

/-- The ratio of zeros. -/
def Zr (r : RV) : Prop := IRep r.num.neg r.num.xs 0 ∧ IRep r.den.neg r.den.xs 0
theorem Zr.form {r : RV} (h : Zr r) {w : World} {B : Nat} (H : r.at w B) : r.num.neg = false ∧ r.num.n = 0 ∧ r.den.neg = false ∧ r.den.n = 0 := by
  have h1 := (IRep.len0 h.1).2 rfl
  have h2 := (IRep.len0 h.2).2 rfl
  have h3 := H.1.len.out
  have h4 := H.2.len.out
  exact ⟨h.1.sgn, by omega, h.2.sgn, by omega⟩
def GivesFR (w : World) (P : RV → Int → Int → Prop) (e : Ending) (w' : World) : Prop :=
  ∃ (r : RV) (f1 f2 : Int), e = .returned (.tuple #[r.v, flt f1 f2]) ∧ r.at w' w'.heap.size ∧ P r f1 f2 ∧ Below w.heap.size w w'
theorem gfr_rat {w w' : World} {z1 z2 f1 f2 : Int} {e : Ending} {P : RV → Int → Int → Prop} (h : GivesRat w z1 z2 f1 f2 e w') (hp : ∀ r : RV, IRep r.num.neg r.num.xs z1 → IRep r.den.neg r.den.xs z2 → P r f1 f2) : GivesFR w P e w' := by
  obtain ⟨m, A, k, c, xs, m', D, l, d, ys, rfl, H1, H2, I, J, hb⟩ := h
  exact ⟨⟨⟨m, A, k, c, xs⟩, ⟨m', D, l, d, ys⟩⟩, f1, f2, rfl, ⟨H1, H2⟩, hp _ I J, hb⟩
theorem rf1 {x : RV} (h : x.ok = false) : rfault [x] 0 = (6, -1) := by
  show (if x.ok then _ else _) = _
  rw [if_neg (by rw [h]; decide)]; rfl
end Go.Proofs.YtfgkhdpdjclmkaaGreat
