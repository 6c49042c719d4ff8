/- From an argument that came in to what the walks ask: an api.Ratio. -/
import Derived.Test.YtfgkhdpdjclmkaaGreatBl
import Derived.Test.YtfgkhdpdjclmkaaGreatBm
namespace Go.Proofs.YtfgkhdpdjclmkaaGreat
open Go.Joins Go.ChangeShapes Go.WideShapes Go.ChangeAt Go.RowKit

set_option maxRecDepth 100000
theorem cellsRatio : (Tryz.prog).cellsOf 26 = 4 := by kernel_rfl
theorem cellsBool : (Tryz.prog).cellsOf 4 = 1 := by kernel_rfl
theorem cellsLimbs : (Tryz.prog).cellsOf 22 = 1 := by kernel_rfl
section
variable {H : Type} {enc : TypeId × Value → H} {W : World} {spare : Nat → Bool} {held : Bool}
theorem int_cells {n : Nat} {c0 c1 : Value} {y : DataW H × List MemPlace} (hs : ∀ b, spare b = true) (h : DataW.trod enc Tryz.prog W 0 spare held n 24 [c0, c1] = some y) : ∃ a : IV, c0 = .bool a.neg ∧ c1 = .slice a.A a.n a.c ∧ a.at W W.heap.size := by
  obtain ⟨y0, y1, m, _, _, hy0, hy1⟩ := trod_struct2 Tryz.underlying24 h
  replace hy0 : DataW.trod enc Tryz.prog W 0 spare held m 4 [c0] = some y0 := by
    have e : (([c0, c1] : List Value).drop 0).take ((Tryz.prog).cellsOf 4) = [c0] := by rw [cellsBool]; rfl
    rw [← e]; exact hy0
  replace hy1 : DataW.trod enc Tryz.prog W 0 spare held m 22 [c1] = some y1 := by
    have e : (([c0, c1] : List Value).drop 1).take ((Tryz.prog).cellsOf 22) = [c1] := by rw [cellsLimbs]; rfl
    rw [← e]; exact hy1
  obtain ⟨b, e0, _⟩ := DataW.trod_bool Tryz.underlying4 hy0
  obtain ⟨A, n, c, e1⟩ : ∃ A n c, c1 = .slice A n c := by
    rcases open_ints Tryz.underlying22 Tryz.underlying95 (by kernel_rfl) hy1 with ⟨hcs, _⟩ | ⟨a, l, c, zs, hcs, _⟩
    · simp at hcs; exact ⟨_, _, _, hcs⟩
    · simp at hcs; exact ⟨_, _, _, hcs⟩
  simp at e0
  subst e0 e1
  obtain ⟨xs, hx⟩ := lrd_open (A := A) (len := n) (cap := c) hs (x := y1) (by simpa [Value.cells] using hy1)
  exact ⟨⟨b, A, n, c, xs⟩, rfl, rfl, hx⟩
theorem ratio_open {r : Reach} {b0 : Nat} {v : Value} {d : DataW H} {p : List MemPlace} (hs : ∀ b, spare b = true)
    (hv : Value.okWide Tryz.prog W r b0 26 v) (h : DataW.Trod enc Tryz.prog W 0 spare held 26 v d p) : ∃ a : RV, v = a.v ∧ a.at W W.heap.size := by
  obtain ⟨cs, rfl, hsz⟩ := okWide_struct Tryz.underlying26 hv
  obtain ⟨c0, c1, c2, c3, rfl⟩ := array4 (hsz.trans cellsRatio)
  obtain ⟨fuel, hf⟩ := h
  obtain ⟨y0, y1, m, _, _, hy0, hy1⟩ := trod_struct2 Tryz.underlying26 hf
  replace hy0 : DataW.trod enc Tryz.prog W 0 spare held m 24 [c0, c1] = some y0 := by
    have e : (([c0, c1, c2, c3] : List Value).drop 0).take ((Tryz.prog).cellsOf 24) = [c0, c1] := by rw [cellsInt]; rfl
    rw [← e]; exact hy0
  replace hy1 : DataW.trod enc Tryz.prog W 0 spare held m 24 [c2, c3] = some y1 := by
    have e : (([c0, c1, c2, c3] : List Value).drop 2).take ((Tryz.prog).cellsOf 24) = [c2, c3] := by rw [cellsInt]; rfl
    rw [← e]; exact hy1
  obtain ⟨a, rfl, rfl, ha⟩ := int_cells hs hy0
  obtain ⟨b, rfl, rfl, hb⟩ := int_cells hs hy1
  exact ⟨⟨a, b⟩, rfl, ha, hb⟩
end
end Go.Proofs.YtfgkhdpdjclmkaaGreat
