/- The law's yields. -/
import Derived.Test.YtpjfoggohhlbdaaUInt20
import Derived.Test.YtpjfoggohhlbdaaUl
import Derived.Laws.StructEq
namespace Go.Proofs.Ytpjfoggohhlbdaa
open Go.RowKit
set_option maxHeartbeats 400000
set_option maxRecDepth 100000
set_option linter.unusedSimpArgs false
set_option linter.unusedVariables false

theorem DRd.setFar2 {w : World} {B n c g : Nat} {A : Option Addr} {xs : List Nat} (h : DRd w B A n c xs) (hg : B ≤ g) (x y : Value) : DRd ((w.setCell ⟨g, 0, none⟩ x).setCell ⟨g, 1, none⟩ y) B A n c xs :=
  h.keep fun p hp => by
    rw [World.cell?_setCell_other _ _ _ _ (fun e => by rw [← e] at hp; simp at hp; omega), World.cell?_setCell_other _ _ _ _ (fun e => by rw [← e] at hp; simp at hp; omega)]
theorem LRd.setFar2 {w : World} {B n c g : Nat} {A : Option Addr} {xs : List Nat} (h : LRd w B A n c xs) (hg : B ≤ g) (x y : Value) : LRd ((w.setCell ⟨g, 0, none⟩ x).setCell ⟨g, 1, none⟩ y) B A n c xs :=
  h.keep fun p hp => by
    rw [World.cell?_setCell_other _ _ _ _ (fun e => by rw [← e] at hp; simp at hp; omega), World.cell?_setCell_other _ _ _ _ (fun e => by rw [← e] at hp; simp at hp; omega)]
end Go.Proofs.Ytpjfoggohhlbdaa
