/-
  DERIVED. GIVEN WITH THE SEED: THE CARDS: each row of YtlohapafpgihaaaDoorRows.lean that lists a variable, with what it lists TIED to the program's text (the seventh form; the later family's looks); each row that meets fmt, with fmt's text TOLD by the authors' own Lean function (tested against real Go, not proved from fmt's source: count such statements apart). THE CARD IS WHAT COUNTS. Prove the row's statement (the work); the ties are given (YtlohapafpgihaaaDoorTie.lean); close each card by the builder's one call (the guide's Derived/Test/ToyasCard.lean, 'card_holds'). Laid BY PROGRAM, IN A SANDBOX (cutbox-door.mjs). By AI agents, Wed Nov 11 2026. No macro, syntax, notation, axiom, sorry.
-/
import Derived.Test.YtlohapafpgihaaaDoorRows
import GoSem.ClaimSeven
namespace Go.Proofs.YtlohapafpgihaaaDoor
namespace Rows

/-- THE TIED CARD OF 'brindlewoodlaw1.SourceTellsPlaces'. -/
def sourceTellsPlacesCard : Claim7 := { stood := { row := sourceTellsPlacesRow, standIns := [], harness := (true, "3fefdc784fa42cd2a7f0cace0ad21177bf3a4c5597a0c3e54ae830ab2aa6d2ce"), looks := false }, kinds := [], alts := [], laidByText := true, laidKinds := [.data, .pinned], laidTests := true, laidLooks := .later }
def SourceTellsPlacesCardSaid : Prop := Claim7.holds Tryd.pinned (.plain (OpenSpec.ofChange sourceTellsPlacesSpec)) sourceTellsPlacesCard

/-- THE TIED CARD OF 'brindlewoodlaw1.SourceShowsExcerpts'. -/
def sourceShowsExcerptsCard : Claim7 := { stood := { row := sourceShowsExcerptsRow, standIns := [], harness := (true, "3fefdc784fa42cd2a7f0cace0ad21177bf3a4c5597a0c3e54ae830ab2aa6d2ce"), looks := false }, kinds := [], alts := [], laidByText := true, laidKinds := [.data, .pinned], laidTests := true, laidLooks := .later }
def SourceShowsExcerptsCardSaid : Prop := Claim7.holds Tryd.pinned (.plain (OpenSpec.ofChange sourceShowsExcerptsSpec)) sourceShowsExcerptsCard

/-- THE SECOND FORM's CARD OF 'brindlewoodlaw1.SourceTellsPlaces'. -/
def sourceTellsPlacesUptoCard : Claim7 := { stood := { row := sourceTellsPlacesUptoRow, standIns := [], harness := (true, "3fefdc784fa42cd2a7f0cace0ad21177bf3a4c5597a0c3e54ae830ab2aa6d2ce"), looks := false }, kinds := [], alts := [], laidByText := true, laidKinds := [.data, .pinned], laidTests := true, laidLooks := .later }
def SourceTellsPlacesUptoCardSaid : Prop := Claim7.holds Tryd.pinned (.plain (OpenSpec.upto sourceTellsPlacesSpec)) sourceTellsPlacesUptoCard

/-- THE SECOND FORM's CARD OF 'brindlewoodlaw1.SourceShowsExcerpts'. -/
def sourceShowsExcerptsUptoCard : Claim7 := { stood := { row := sourceShowsExcerptsUptoRow, standIns := [], harness := (true, "3fefdc784fa42cd2a7f0cace0ad21177bf3a4c5597a0c3e54ae830ab2aa6d2ce"), looks := false }, kinds := [], alts := [], laidByText := true, laidKinds := [.data, .pinned], laidTests := true, laidLooks := .later }
def SourceShowsExcerptsUptoCardSaid : Prop := Claim7.holds Tryd.pinned (.plain (OpenSpec.upto sourceShowsExcerptsSpec)) sourceShowsExcerptsUptoCard
end Rows
end Go.Proofs.YtlohapafpgihaaaDoor
