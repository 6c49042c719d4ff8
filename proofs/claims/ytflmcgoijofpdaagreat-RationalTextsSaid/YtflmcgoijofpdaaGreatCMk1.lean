/- Make and Pow of the program with every outcome in one statement; RationalMakes' words. -/
import Derived.Test.YtflmcgoijofpdaaGreatCz
import Derived.Test.YtflmcgoijofpdaaGreatCRpow
import Derived.Test.YtflmcgoijofpdaaGreatCy
namespace Go.Proofs.YtflmcgoijofpdaaGreat
open Go.RowKit
set_option maxHeartbeats 400000
set_option maxRecDepth 100000
set_option linter.unusedSimpArgs false
set_option linter.unusedVariables false

/-- The ratio of zeros. -/
def Zr (r : RV) : Prop := IRep r.num.neg r.num.xs 0 ∧ IRep r.den.neg r.den.xs 0
theorem Zr.form {r : RV} (h : Zr r) {w : World} {B : Nat} (H : r.at w B) : r.num.neg = false ∧ r.num.n = 0 ∧ r.den.neg = false ∧ r.den.n = 0 := by
  have h1 := (IRep.len0 h.1).2 rfl
  have h2 := (IRep.len0 h.2).2 rfl
  have h3 := H.1.len.out
  have h4 := H.2.len.out
  exact ⟨h.1.sgn, by omega, h.2.sgn, by omega⟩
def GivesFR (w : World) (P : RV → Int → Int → Prop) (e : Ending) (w' : World) : Prop :=
  ∃ (r : RV) (f1 f2 : Int), e = .returned (.tuple #[r.v, flt f1 f2]) ∧ r.at w' w'.heap.size ∧ P r f1 f2 ∧ Below w.heap.size w w'
theorem rf1 {x : RV} (h : x.ok = false) : rfault [x] 0 = (6, -1) := by
  show (if x.ok then _ else _) = _
  rw [if_neg (by rw [h]; decide)]; rfl
end Go.Proofs.YtflmcgoijofpdaaGreat
