/-
  No cell of these rows narrows 'for every input' (looked for: loops, veiled, ifaces, maps, wideKeys, modest, calm, conditions, laid).
  DERIVED. THE GIVEN ROWS OF THIS SEAT. 3 by the template 'for every input the law returns true; each argument reads behind the call as it read before'; 0 by the template 'total and deterministic' (their statements: YtdhdkknaagadaaaTotals.lean).
  GIVEN WITH THE SEED: the statements are not yours to turn. If you find one false, say at which input.
  Laid BY PROGRAM, IN A SANDBOX (cutbox-rows.mjs): the forced cells as the released guide's own fill.sh prints them over the translation 702b7256859f333c… (all of the seat's roots in one cut). By AI agents, Wed Nov 11 2026. No macro, syntax, notation, axiom, sorry.
-/
import Derived.Test.YtdhdkknaagadaaaChecked
import GoSem.Claim
import GoSem.ClaimJoined
import GoSem.ClaimMapViews
import Derived.JoinedTies
import Derived.KernelRfl
namespace Go.Proofs.Ytdhdkknaagadaaa
/- THE CELL 'sum', in the pinned program and in every row, IS THE sha256 OF THE DUMP (.gsa) THAT YtdhdkknaagadaaaProg.lean LOADS. Nothing in Lean hashes anything: it is a label: what it is worth is what the hold of that sum in a sandbox is worth. -/
noncomputable def Try.pinned : Pinned := { name := "ytdhdkknaagadaaa", sum := "702b7256859f333c882bcd872df7337c34b8cb944b50e2781c0af566b2f87cb4", checked := Try.checked }
namespace Rows
def none {H : Type} : Left H := { results := [], args := [] }

/-- 'brindlewoodlaw3.RationalField': WHATEVER THE INPUT: true; the input reads as it did. -/
def rationalFieldSpec : ChangeSpec := { name := "rationalField", fn := fun _ => fun
  | [d1, d2, d3] => { results := [.lit (.bool true)], args := [d1, d2, d3] }
  | _ => none }
def rationalFieldRow : OpenClaim := { program := "ytdhdkknaagadaaa", sum := "702b7256859f333c882bcd872df7337c34b8cb944b50e2781c0af566b2f87cb4", func := "brindlewood/brindlewoodlaw3.RationalField", spec := "rationalField", unfollowed := true, recurses := true, named := ["math/bits.overflowError"], apart := false }
def RationalFieldSaid : Prop := rationalFieldRow.holds Try.pinned (OpenSpec.ofChange rationalFieldSpec)

/-- ITS FALSE NEIGHBOUR: 'it returns false'. Refute it at one input. -/
def rationalFieldWrong : ChangeSpec := { name := "rationalField", fn := fun _ => fun
  | [d1, d2, d3] => { results := [.lit (.bool false)], args := [d1, d2, d3] }
  | _ => none }
def RationalFieldWrongFalsely : Prop := rationalFieldRow.holds Try.pinned (OpenSpec.ofChange rationalFieldWrong)

/-- 'brindlewoodlaw3.RationalTermsBack': WHATEVER THE INPUT: true; the input reads as it did. -/
def rationalTermsBackSpec : ChangeSpec := { name := "rationalTermsBack", fn := fun _ => fun
  | [d] => { results := [.lit (.bool true)], args := [d] }
  | _ => none }
def rationalTermsBackRow : OpenClaim := { program := "ytdhdkknaagadaaa", sum := "702b7256859f333c882bcd872df7337c34b8cb944b50e2781c0af566b2f87cb4", func := "brindlewood/brindlewoodlaw3.RationalTermsBack", spec := "rationalTermsBack", unfollowed := true, recurses := true, named := ["math/bits.overflowError"], apart := false }
def RationalTermsBackSaid : Prop := rationalTermsBackRow.holds Try.pinned (OpenSpec.ofChange rationalTermsBackSpec)

/-- ITS FALSE NEIGHBOUR: 'it returns false'. Refute it at one input. -/
def rationalTermsBackWrong : ChangeSpec := { name := "rationalTermsBack", fn := fun _ => fun
  | [d] => { results := [.lit (.bool false)], args := [d] }
  | _ => none }
def RationalTermsBackWrongFalsely : Prop := rationalTermsBackRow.holds Try.pinned (OpenSpec.ofChange rationalTermsBackWrong)

/-- 'brindlewoodlaw3.RationalNearer': WHATEVER THE INPUT: true; the input reads as it did. -/
def rationalNearerSpec : ChangeSpec := { name := "rationalNearer", fn := fun _ => fun
  | [d1, d2, d3] => { results := [.lit (.bool true)], args := [d1, d2, d3] }
  | _ => none }
def rationalNearerRow : OpenClaim := { program := "ytdhdkknaagadaaa", sum := "702b7256859f333c882bcd872df7337c34b8cb944b50e2781c0af566b2f87cb4", func := "brindlewood/brindlewoodlaw3.RationalNearer", spec := "rationalNearer", unfollowed := true, recurses := true, named := ["math/bits.overflowError"], apart := false }
def RationalNearerSaid : Prop := rationalNearerRow.holds Try.pinned (OpenSpec.ofChange rationalNearerSpec)

/-- ITS FALSE NEIGHBOUR: 'it returns false'. Refute it at one input. -/
def rationalNearerWrong : ChangeSpec := { name := "rationalNearer", fn := fun _ => fun
  | [d1, d2, d3] => { results := [.lit (.bool false)], args := [d1, d2, d3] }
  | _ => none }
def RationalNearerWrongFalsely : Prop := rationalNearerRow.holds Try.pinned (OpenSpec.ofChange rationalNearerWrong)

/- THE SECOND FORM. 'bulk': how many values and letters a reading holds, each counted each time it is reached (what is shared counts as often as it is met; a slice's spare places count too). A statement '..UptoSaid' is the law's where the arguments, and the package variables that the reading takes, are together of bulk at most 1048576: NARROWER than '..Said'. Prove '..Said' where nothing that the law and all that it calls make is longer than what came in: it says more and counts as full. Else prove '..UptoSaid'. A law counts once. -/
mutual
def uptoBulk {H : Type} : DataW H → Nat
  | .lit (.string bytes) => bytes.length + 1
  | .lit _ => 1
  | .nil => 1
  | .ptr d => uptoBulk d + 1
  | .slice elems spare => uptoBulkAll elems + uptoBulkAll spare + 1
  | .agg parts => uptoBulkAll parts + 1
  | .iface _ d => uptoBulk d + 1
  | .map entries => uptoBulkEntries entries + 1
  | .held _ => 1
def uptoBulkAll {H : Type} : List (DataW H) → Nat
  | [] => 0
  | d :: r => uptoBulk d + uptoBulkAll r
def uptoBulkEntries {H : Type} : List (Lit × DataW H) → Nat
  | [] => 0
  | x :: r => uptoBulkEntry x + uptoBulkEntries r
def uptoBulkEntry {H : Type} : Lit × DataW H → Nat
  | (.string bytes, d) => bytes.length + uptoBulk d + 1
  | (_, d) => uptoBulk d + 1
 end
def uptoSmall : (H : Type) → List (DataW H) → Bool := fun _ ds => decide (uptoBulkAll ds ≤ 1048576)
def OpenSpec.upto (s : _root_.Go.ChangeSpec) : _root_.Go.OpenSpec := { _root_.Go.OpenSpec.ofChange s with cond := some uptoSmall }

/-- 'brindlewoodlaw3.RationalField', WHERE WHAT IT READS IS OF BULK AT MOST 1048576: true; the input reads as it did. -/
def rationalFieldUptoRow : OpenClaim := { program := "ytdhdkknaagadaaa", sum := "702b7256859f333c882bcd872df7337c34b8cb944b50e2781c0af566b2f87cb4", func := "brindlewood/brindlewoodlaw3.RationalField", spec := "rationalField", unfollowed := true, recurses := true, named := ["math/bits.overflowError"], apart := false, narrowed := true }
def RationalFieldUptoSaid : Prop := rationalFieldUptoRow.holds Try.pinned (OpenSpec.upto rationalFieldSpec)

/-- 'brindlewoodlaw3.RationalTermsBack', WHERE WHAT IT READS IS OF BULK AT MOST 1048576: true; the input reads as it did. -/
def rationalTermsBackUptoRow : OpenClaim := { program := "ytdhdkknaagadaaa", sum := "702b7256859f333c882bcd872df7337c34b8cb944b50e2781c0af566b2f87cb4", func := "brindlewood/brindlewoodlaw3.RationalTermsBack", spec := "rationalTermsBack", unfollowed := true, recurses := true, named := ["math/bits.overflowError"], apart := false, narrowed := true }
def RationalTermsBackUptoSaid : Prop := rationalTermsBackUptoRow.holds Try.pinned (OpenSpec.upto rationalTermsBackSpec)

/-- 'brindlewoodlaw3.RationalNearer', WHERE WHAT IT READS IS OF BULK AT MOST 1048576: true; the input reads as it did. -/
def rationalNearerUptoRow : OpenClaim := { program := "ytdhdkknaagadaaa", sum := "702b7256859f333c882bcd872df7337c34b8cb944b50e2781c0af566b2f87cb4", func := "brindlewood/brindlewoodlaw3.RationalNearer", spec := "rationalNearer", unfollowed := true, recurses := true, named := ["math/bits.overflowError"], apart := false, narrowed := true }
def RationalNearerUptoSaid : Prop := rationalNearerUptoRow.holds Try.pinned (OpenSpec.upto rationalNearerSpec)

end Rows
end Go.Proofs.Ytdhdkknaagadaaa
