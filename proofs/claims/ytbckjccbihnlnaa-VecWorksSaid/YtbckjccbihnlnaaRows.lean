/-
  No cell of these rows narrows 'for every input' (looked for: loops, veiled, ifaces, maps, wideKeys, modest, calm, conditions, laid).
  DERIVED. THE GIVEN ROWS OF THIS SEAT. 8 by the template 'for every input the law returns true; each argument reads behind the call as it read before'; 0 by the template 'total and deterministic' (their statements: YtbckjccbihnlnaaTotals.lean).
  GIVEN WITH THE SEED: the statements are not yours to turn. If you find one false, say at which input.
  Laid BY PROGRAM, IN A SANDBOX (cutbox-rows.mjs): the forced cells as the released guide's own fill.sh prints them over the translation 3cea13a4e9c293b9… (all of the seat's roots in one cut). By AI agents, Wed Nov 11 2026. No macro, syntax, notation, axiom, sorry.
-/
import Derived.Test.YtbckjccbihnlnaaChecked
import GoSem.Claim
import GoSem.ClaimJoined
import GoSem.ClaimMapViews
import Derived.JoinedTies
import Derived.KernelRfl
namespace Go.Proofs.Ytbckjccbihnlnaa
/- THE CELL 'sum', in the pinned program and in every row, IS THE sha256 OF THE DUMP (.gsa) THAT YtbckjccbihnlnaaProg.lean LOADS. Nothing in Lean hashes anything: it is a label: what it is worth is what the hold of that sum in a sandbox is worth. -/
noncomputable def Try.pinned : Pinned := { name := "ytbckjccbihnlnaa", sum := "3cea13a4e9c293b9487b6c84f0d330f38df012dc881d4fb8823a6bc136882107", checked := Try.checked }
namespace Rows
def none {H : Type} : Left H := { results := [], args := [] }

/-- 'fringelaw01.FracProducts': WHATEVER THE INPUT: true; the input reads as it did. -/
def fracProductsSpec : ChangeSpec := { name := "fracProducts", fn := fun _ => fun
  | [d1, d2, d3, d4] => { results := [.lit (.bool true)], args := [d1, d2, d3, d4] }
  | _ => none }
def fracProductsRow : OpenClaim := { program := "ytbckjccbihnlnaa", sum := "3cea13a4e9c293b9487b6c84f0d330f38df012dc881d4fb8823a6bc136882107", func := "fringe/fringelaw01.FracProducts", spec := "fracProducts", inPlace := ["math/bits.Add64", "math/bits.Sub64"], apart := false }
def FracProductsSaid : Prop := fracProductsRow.holds Try.pinned (OpenSpec.ofChange fracProductsSpec)

/-- ITS FALSE NEIGHBOUR: 'it returns false'. Refute it at one input. -/
def fracProductsWrong : ChangeSpec := { name := "fracProducts", fn := fun _ => fun
  | [d1, d2, d3, d4] => { results := [.lit (.bool false)], args := [d1, d2, d3, d4] }
  | _ => none }
def FracProductsWrongFalsely : Prop := fracProductsRow.holds Try.pinned (OpenSpec.ofChange fracProductsWrong)

/-- 'fringelaw01.FracField': WHATEVER THE INPUT: true; the input reads as it did. -/
def fracFieldSpec : ChangeSpec := { name := "fracField", fn := fun _ => fun
  | [d1, d2] => { results := [.lit (.bool true)], args := [d1, d2] }
  | _ => none }
def fracFieldRow : OpenClaim := { program := "ytbckjccbihnlnaa", sum := "3cea13a4e9c293b9487b6c84f0d330f38df012dc881d4fb8823a6bc136882107", func := "fringe/fringelaw01.FracField", spec := "fracField", inPlace := ["math/bits.Add64", "math/bits.Sub64"], named := ["math/bits.divideError", "math/bits.overflowError"], apart := false }
def FracFieldSaid : Prop := fracFieldRow.holds Try.pinned (OpenSpec.ofChange fracFieldSpec)

/-- ITS FALSE NEIGHBOUR: 'it returns false'. Refute it at one input. -/
def fracFieldWrong : ChangeSpec := { name := "fracField", fn := fun _ => fun
  | [d1, d2] => { results := [.lit (.bool false)], args := [d1, d2] }
  | _ => none }
def FracFieldWrongFalsely : Prop := fracFieldRow.holds Try.pinned (OpenSpec.ofChange fracFieldWrong)

/-- 'fringelaw01.FracBest': WHATEVER THE INPUT: true; the input reads as it did. -/
def fracBestSpec : ChangeSpec := { name := "fracBest", fn := fun _ => fun
  | [d1, d2, d3] => { results := [.lit (.bool true)], args := [d1, d2, d3] }
  | _ => none }
def fracBestRow : OpenClaim := { program := "ytbckjccbihnlnaa", sum := "3cea13a4e9c293b9487b6c84f0d330f38df012dc881d4fb8823a6bc136882107", func := "fringe/fringelaw01.FracBest", spec := "fracBest", inPlace := ["math/bits.Add64", "math/bits.Sub64"], apart := false }
def FracBestSaid : Prop := fracBestRow.holds Try.pinned (OpenSpec.ofChange fracBestSpec)

/-- ITS FALSE NEIGHBOUR: 'it returns false'. Refute it at one input. -/
def fracBestWrong : ChangeSpec := { name := "fracBest", fn := fun _ => fun
  | [d1, d2, d3] => { results := [.lit (.bool false)], args := [d1, d2, d3] }
  | _ => none }
def FracBestWrongFalsely : Prop := fracBestRow.holds Try.pinned (OpenSpec.ofChange fracBestWrong)

/-- 'fringelaw02.VecWorks': WHATEVER THE INPUT: true; the input reads as it did. -/
def vecWorksSpec : ChangeSpec := { name := "vecWorks", fn := fun _ => fun
  | [d1, d2, d3] => { results := [.lit (.bool true)], args := [d1, d2, d3] }
  | _ => none }
def vecWorksRow : OpenClaim := { program := "ytbckjccbihnlnaa", sum := "3cea13a4e9c293b9487b6c84f0d330f38df012dc881d4fb8823a6bc136882107", func := "fringe/fringelaw02.VecWorks", spec := "vecWorks", inPlace := ["math/bits.Add64", "math/bits.Sub64"], unfollowed := true, recurses := true, named := ["math/bits.divideError", "math/bits.overflowError"], apart := false }
def VecWorksSaid : Prop := vecWorksRow.holds Try.pinned (OpenSpec.ofChange vecWorksSpec)

/-- ITS FALSE NEIGHBOUR: 'it returns false'. Refute it at one input. -/
def vecWorksWrong : ChangeSpec := { name := "vecWorks", fn := fun _ => fun
  | [d1, d2, d3] => { results := [.lit (.bool false)], args := [d1, d2, d3] }
  | _ => none }
def VecWorksWrongFalsely : Prop := vecWorksRow.holds Try.pinned (OpenSpec.ofChange vecWorksWrong)

/-- 'fringelaw02.VecMatrices': WHATEVER THE INPUT: true; the input reads as it did. -/
def vecMatricesSpec : ChangeSpec := { name := "vecMatrices", fn := fun _ => fun
  | [d1, d2, d3, d4, d5] => { results := [.lit (.bool true)], args := [d1, d2, d3, d4, d5] }
  | _ => none }
def vecMatricesRow : OpenClaim := { program := "ytbckjccbihnlnaa", sum := "3cea13a4e9c293b9487b6c84f0d330f38df012dc881d4fb8823a6bc136882107", func := "fringe/fringelaw02.VecMatrices", spec := "vecMatrices", inPlace := ["math/bits.Add64", "math/bits.Sub64"], unfollowed := true, recurses := true, named := ["math/bits.divideError", "math/bits.overflowError"], apart := false }
def VecMatricesSaid : Prop := vecMatricesRow.holds Try.pinned (OpenSpec.ofChange vecMatricesSpec)

/-- ITS FALSE NEIGHBOUR: 'it returns false'. Refute it at one input. -/
def vecMatricesWrong : ChangeSpec := { name := "vecMatrices", fn := fun _ => fun
  | [d1, d2, d3, d4, d5] => { results := [.lit (.bool false)], args := [d1, d2, d3, d4, d5] }
  | _ => none }
def VecMatricesWrongFalsely : Prop := vecMatricesRow.holds Try.pinned (OpenSpec.ofChange vecMatricesWrong)

/-- 'fringelaw02.VecKept': WHATEVER THE INPUT: true; the input reads as it did. -/
def vecKeptSpec : ChangeSpec := { name := "vecKept", fn := fun _ => fun
  | [d1, d2, d3, d4] => { results := [.lit (.bool true)], args := [d1, d2, d3, d4] }
  | _ => none }
def vecKeptRow : OpenClaim := { program := "ytbckjccbihnlnaa", sum := "3cea13a4e9c293b9487b6c84f0d330f38df012dc881d4fb8823a6bc136882107", func := "fringe/fringelaw02.VecKept", spec := "vecKept", inPlace := ["math/bits.Add64", "math/bits.Sub64"], unfollowed := true, recurses := true, named := ["math/bits.divideError", "math/bits.overflowError"], apart := false }
def VecKeptSaid : Prop := vecKeptRow.holds Try.pinned (OpenSpec.ofChange vecKeptSpec)

/-- ITS FALSE NEIGHBOUR: 'it returns false'. Refute it at one input. -/
def vecKeptWrong : ChangeSpec := { name := "vecKept", fn := fun _ => fun
  | [d1, d2, d3, d4] => { results := [.lit (.bool false)], args := [d1, d2, d3, d4] }
  | _ => none }
def VecKeptWrongFalsely : Prop := vecKeptRow.holds Try.pinned (OpenSpec.ofChange vecKeptWrong)

/-- 'fringelaw02.VecCross': WHATEVER THE INPUT: true; the input reads as it did. -/
def vecCrossSpec : ChangeSpec := { name := "vecCross", fn := fun _ => fun
  | [d1, d2, d3] => { results := [.lit (.bool true)], args := [d1, d2, d3] }
  | _ => none }
def vecCrossRow : OpenClaim := { program := "ytbckjccbihnlnaa", sum := "3cea13a4e9c293b9487b6c84f0d330f38df012dc881d4fb8823a6bc136882107", func := "fringe/fringelaw02.VecCross", spec := "vecCross", inPlace := ["math/bits.Add64", "math/bits.Sub64"], unfollowed := true, recurses := true, named := ["math/bits.divideError", "math/bits.overflowError"], apart := false }
def VecCrossSaid : Prop := vecCrossRow.holds Try.pinned (OpenSpec.ofChange vecCrossSpec)

/-- ITS FALSE NEIGHBOUR: 'it returns false'. Refute it at one input. -/
def vecCrossWrong : ChangeSpec := { name := "vecCross", fn := fun _ => fun
  | [d1, d2, d3] => { results := [.lit (.bool false)], args := [d1, d2, d3] }
  | _ => none }
def VecCrossWrongFalsely : Prop := vecCrossRow.holds Try.pinned (OpenSpec.ofChange vecCrossWrong)

/-- 'fringelaw02.VecGroup': WHATEVER THE INPUT: true; the input reads as it did. -/
def vecGroupSpec : ChangeSpec := { name := "vecGroup", fn := fun _ => fun
  | [d1, d2, d3, d4, d5] => { results := [.lit (.bool true)], args := [d1, d2, d3, d4, d5] }
  | _ => none }
def vecGroupRow : OpenClaim := { program := "ytbckjccbihnlnaa", sum := "3cea13a4e9c293b9487b6c84f0d330f38df012dc881d4fb8823a6bc136882107", func := "fringe/fringelaw02.VecGroup", spec := "vecGroup", inPlace := ["math/bits.Add64", "math/bits.Sub64"], unfollowed := true, recurses := true, named := ["math/bits.divideError", "math/bits.overflowError"], apart := false }
def VecGroupSaid : Prop := vecGroupRow.holds Try.pinned (OpenSpec.ofChange vecGroupSpec)

/-- ITS FALSE NEIGHBOUR: 'it returns false'. Refute it at one input. -/
def vecGroupWrong : ChangeSpec := { name := "vecGroup", fn := fun _ => fun
  | [d1, d2, d3, d4, d5] => { results := [.lit (.bool false)], args := [d1, d2, d3, d4, d5] }
  | _ => none }
def VecGroupWrongFalsely : Prop := vecGroupRow.holds Try.pinned (OpenSpec.ofChange vecGroupWrong)

/- THE SECOND FORM. 'bulk': how many values and letters a reading holds, each counted each time it is reached (what is shared counts as often as it is met; a slice's spare places count too). A statement '..UptoSaid' is the law's where the arguments, and the package variables that the reading takes, are together of bulk at most 1048576: NARROWER than '..Said'. Prove '..Said' where nothing that the law and all that it calls make is longer than what came in: it says more and counts as full. Else prove '..UptoSaid'. A law counts once. -/
mutual
def uptoBulk {H : Type} : DataW H → Nat
  | .lit (.string bytes) => bytes.length + 1
  | .lit _ => 1
  | .nil => 1
  | .ptr d => uptoBulk d + 1
  | .slice elems spare => uptoBulkAll elems + uptoBulkAll spare + 1
  | .agg parts => uptoBulkAll parts + 1
  | .iface _ d => uptoBulk d + 1
  | .map entries => uptoBulkEntries entries + 1
  | .held _ => 1
def uptoBulkAll {H : Type} : List (DataW H) → Nat
  | [] => 0
  | d :: r => uptoBulk d + uptoBulkAll r
def uptoBulkEntries {H : Type} : List (Lit × DataW H) → Nat
  | [] => 0
  | x :: r => uptoBulkEntry x + uptoBulkEntries r
def uptoBulkEntry {H : Type} : Lit × DataW H → Nat
  | (.string bytes, d) => bytes.length + uptoBulk d + 1
  | (_, d) => uptoBulk d + 1
 end
def uptoSmall : (H : Type) → List (DataW H) → Bool := fun _ ds => decide (uptoBulkAll ds ≤ 1048576)
def OpenSpec.upto (s : _root_.Go.ChangeSpec) : _root_.Go.OpenSpec := { _root_.Go.OpenSpec.ofChange s with cond := some uptoSmall }

/-- 'fringelaw01.FracProducts', WHERE WHAT IT READS IS OF BULK AT MOST 1048576: true; the input reads as it did. -/
def fracProductsUptoRow : OpenClaim := { program := "ytbckjccbihnlnaa", sum := "3cea13a4e9c293b9487b6c84f0d330f38df012dc881d4fb8823a6bc136882107", func := "fringe/fringelaw01.FracProducts", spec := "fracProducts", inPlace := ["math/bits.Add64", "math/bits.Sub64"], apart := false, narrowed := true }
def FracProductsUptoSaid : Prop := fracProductsUptoRow.holds Try.pinned (OpenSpec.upto fracProductsSpec)

/-- 'fringelaw01.FracField', WHERE WHAT IT READS IS OF BULK AT MOST 1048576: true; the input reads as it did. -/
def fracFieldUptoRow : OpenClaim := { program := "ytbckjccbihnlnaa", sum := "3cea13a4e9c293b9487b6c84f0d330f38df012dc881d4fb8823a6bc136882107", func := "fringe/fringelaw01.FracField", spec := "fracField", inPlace := ["math/bits.Add64", "math/bits.Sub64"], named := ["math/bits.divideError", "math/bits.overflowError"], apart := false, narrowed := true }
def FracFieldUptoSaid : Prop := fracFieldUptoRow.holds Try.pinned (OpenSpec.upto fracFieldSpec)

/-- 'fringelaw01.FracBest', WHERE WHAT IT READS IS OF BULK AT MOST 1048576: true; the input reads as it did. -/
def fracBestUptoRow : OpenClaim := { program := "ytbckjccbihnlnaa", sum := "3cea13a4e9c293b9487b6c84f0d330f38df012dc881d4fb8823a6bc136882107", func := "fringe/fringelaw01.FracBest", spec := "fracBest", inPlace := ["math/bits.Add64", "math/bits.Sub64"], apart := false, narrowed := true }
def FracBestUptoSaid : Prop := fracBestUptoRow.holds Try.pinned (OpenSpec.upto fracBestSpec)

/-- 'fringelaw02.VecWorks', WHERE WHAT IT READS IS OF BULK AT MOST 1048576: true; the input reads as it did. -/
def vecWorksUptoRow : OpenClaim := { program := "ytbckjccbihnlnaa", sum := "3cea13a4e9c293b9487b6c84f0d330f38df012dc881d4fb8823a6bc136882107", func := "fringe/fringelaw02.VecWorks", spec := "vecWorks", inPlace := ["math/bits.Add64", "math/bits.Sub64"], unfollowed := true, recurses := true, named := ["math/bits.divideError", "math/bits.overflowError"], apart := false, narrowed := true }
def VecWorksUptoSaid : Prop := vecWorksUptoRow.holds Try.pinned (OpenSpec.upto vecWorksSpec)

/-- 'fringelaw02.VecMatrices', WHERE WHAT IT READS IS OF BULK AT MOST 1048576: true; the input reads as it did. -/
def vecMatricesUptoRow : OpenClaim := { program := "ytbckjccbihnlnaa", sum := "3cea13a4e9c293b9487b6c84f0d330f38df012dc881d4fb8823a6bc136882107", func := "fringe/fringelaw02.VecMatrices", spec := "vecMatrices", inPlace := ["math/bits.Add64", "math/bits.Sub64"], unfollowed := true, recurses := true, named := ["math/bits.divideError", "math/bits.overflowError"], apart := false, narrowed := true }
def VecMatricesUptoSaid : Prop := vecMatricesUptoRow.holds Try.pinned (OpenSpec.upto vecMatricesSpec)

/-- 'fringelaw02.VecKept', WHERE WHAT IT READS IS OF BULK AT MOST 1048576: true; the input reads as it did. -/
def vecKeptUptoRow : OpenClaim := { program := "ytbckjccbihnlnaa", sum := "3cea13a4e9c293b9487b6c84f0d330f38df012dc881d4fb8823a6bc136882107", func := "fringe/fringelaw02.VecKept", spec := "vecKept", inPlace := ["math/bits.Add64", "math/bits.Sub64"], unfollowed := true, recurses := true, named := ["math/bits.divideError", "math/bits.overflowError"], apart := false, narrowed := true }
def VecKeptUptoSaid : Prop := vecKeptUptoRow.holds Try.pinned (OpenSpec.upto vecKeptSpec)

/-- 'fringelaw02.VecCross', WHERE WHAT IT READS IS OF BULK AT MOST 1048576: true; the input reads as it did. -/
def vecCrossUptoRow : OpenClaim := { program := "ytbckjccbihnlnaa", sum := "3cea13a4e9c293b9487b6c84f0d330f38df012dc881d4fb8823a6bc136882107", func := "fringe/fringelaw02.VecCross", spec := "vecCross", inPlace := ["math/bits.Add64", "math/bits.Sub64"], unfollowed := true, recurses := true, named := ["math/bits.divideError", "math/bits.overflowError"], apart := false, narrowed := true }
def VecCrossUptoSaid : Prop := vecCrossUptoRow.holds Try.pinned (OpenSpec.upto vecCrossSpec)

/-- 'fringelaw02.VecGroup', WHERE WHAT IT READS IS OF BULK AT MOST 1048576: true; the input reads as it did. -/
def vecGroupUptoRow : OpenClaim := { program := "ytbckjccbihnlnaa", sum := "3cea13a4e9c293b9487b6c84f0d330f38df012dc881d4fb8823a6bc136882107", func := "fringe/fringelaw02.VecGroup", spec := "vecGroup", inPlace := ["math/bits.Add64", "math/bits.Sub64"], unfollowed := true, recurses := true, named := ["math/bits.divideError", "math/bits.overflowError"], apart := false, narrowed := true }
def VecGroupUptoSaid : Prop := vecGroupUptoRow.holds Try.pinned (OpenSpec.upto vecGroupSpec)

end Rows
end Go.Proofs.Ytbckjccbihnlnaa
