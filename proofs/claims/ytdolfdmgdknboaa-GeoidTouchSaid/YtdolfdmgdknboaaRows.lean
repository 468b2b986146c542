/-
  No cell of these rows narrows 'for every input' (looked for: loops, veiled, ifaces, maps, wideKeys, modest, calm, conditions, laid).
  DERIVED. THE GIVEN ROWS OF THIS SEAT. 7 by the template 'for every input the law returns true; each argument reads behind the call as it read before'; 0 by the template 'total and deterministic' (their statements: YtdolfdmgdknboaaTotals.lean).
  GIVEN WITH THE SEED: the statements are not yours to turn. If you find one false, say at which input.
  Laid BY PROGRAM, IN A SANDBOX (cutbox-rows.mjs): the forced cells as the released guide's own fill.sh prints them over the translation 16a48ef47dd1c98a… (all of the seat's roots in one cut). By AI agents, Wed Nov 11 2026. No macro, syntax, notation, axiom, sorry.
-/
import Derived.Test.YtdolfdmgdknboaaChecked
import GoSem.Claim
import GoSem.ClaimJoined
import GoSem.ClaimMapViews
import Derived.JoinedTies
import Derived.KernelRfl
namespace Go.Proofs.Ytdolfdmgdknboaa
/- THE CELL 'sum', in the pinned program and in every row, IS THE sha256 OF THE DUMP (.gsa) THAT YtdolfdmgdknboaaProg.lean LOADS. Nothing in Lean hashes anything: it is a label: what it is worth is what the hold of that sum in a sandbox is worth. -/
noncomputable def Try.pinned : Pinned := { name := "ytdolfdmgdknboaa", sum := "16a48ef47dd1c98adf6954f0abc83c49c6b9e44bd0a6147d51c0843c8fd13e95", checked := Try.checked }
namespace Rows
def none {H : Type} : Left H := { results := [], args := [] }

/-- 'fringelaw02.VecMatrices': WHATEVER THE INPUT: true; the input reads as it did. -/
def vecMatricesSpec : ChangeSpec := { name := "vecMatrices", fn := fun _ => fun
  | [d1, d2, d3, d4, d5] => { results := [.lit (.bool true)], args := [d1, d2, d3, d4, d5] }
  | _ => none }
def vecMatricesRow : OpenClaim := { program := "ytdolfdmgdknboaa", sum := "16a48ef47dd1c98adf6954f0abc83c49c6b9e44bd0a6147d51c0843c8fd13e95", func := "fringe/fringelaw02.VecMatrices", spec := "vecMatrices", inPlace := ["math/bits.Add64", "math/bits.Sub64"], unfollowed := true, recurses := true, named := ["math/bits.divideError", "math/bits.overflowError"], apart := false }
def VecMatricesSaid : Prop := vecMatricesRow.holds Try.pinned (OpenSpec.ofChange vecMatricesSpec)

/-- ITS FALSE NEIGHBOUR: 'it returns false'. Refute it at one input. -/
def vecMatricesWrong : ChangeSpec := { name := "vecMatrices", fn := fun _ => fun
  | [d1, d2, d3, d4, d5] => { results := [.lit (.bool false)], args := [d1, d2, d3, d4, d5] }
  | _ => none }
def VecMatricesWrongFalsely : Prop := vecMatricesRow.holds Try.pinned (OpenSpec.ofChange vecMatricesWrong)

/-- 'fringelaw03.GeoidPlaces': WHATEVER THE INPUT: true; the input reads as it did. -/
def geoidPlacesSpec : ChangeSpec := { name := "geoidPlaces", fn := fun _ => fun
  | [d1, d2, d3, d4] => { results := [.lit (.bool true)], args := [d1, d2, d3, d4] }
  | _ => none }
def geoidPlacesRow : OpenClaim := { program := "ytdolfdmgdknboaa", sum := "16a48ef47dd1c98adf6954f0abc83c49c6b9e44bd0a6147d51c0843c8fd13e95", func := "fringe/fringelaw03.GeoidPlaces", spec := "geoidPlaces", inPlace := ["math/bits.Add64", "math/bits.Sub64"], unfollowed := true, recurses := true, named := ["math/bits.divideError", "math/bits.overflowError"], apart := false }
def GeoidPlacesSaid : Prop := geoidPlacesRow.holds Try.pinned (OpenSpec.ofChange geoidPlacesSpec)

/-- ITS FALSE NEIGHBOUR: 'it returns false'. Refute it at one input. -/
def geoidPlacesWrong : ChangeSpec := { name := "geoidPlaces", fn := fun _ => fun
  | [d1, d2, d3, d4] => { results := [.lit (.bool false)], args := [d1, d2, d3, d4] }
  | _ => none }
def GeoidPlacesWrongFalsely : Prop := geoidPlacesRow.holds Try.pinned (OpenSpec.ofChange geoidPlacesWrong)

/-- 'fringelaw03.GeoidSides': WHATEVER THE INPUT: true; the input reads as it did. -/
def geoidSidesSpec : ChangeSpec := { name := "geoidSides", fn := fun _ => fun
  | [d1, d2, d3] => { results := [.lit (.bool true)], args := [d1, d2, d3] }
  | _ => none }
def geoidSidesRow : OpenClaim := { program := "ytdolfdmgdknboaa", sum := "16a48ef47dd1c98adf6954f0abc83c49c6b9e44bd0a6147d51c0843c8fd13e95", func := "fringe/fringelaw03.GeoidSides", spec := "geoidSides", inPlace := ["math/bits.Add64", "math/bits.Sub64"], unfollowed := true, recurses := true, named := ["math/bits.divideError", "math/bits.overflowError"], apart := false }
def GeoidSidesSaid : Prop := geoidSidesRow.holds Try.pinned (OpenSpec.ofChange geoidSidesSpec)

/-- ITS FALSE NEIGHBOUR: 'it returns false'. Refute it at one input. -/
def geoidSidesWrong : ChangeSpec := { name := "geoidSides", fn := fun _ => fun
  | [d1, d2, d3] => { results := [.lit (.bool false)], args := [d1, d2, d3] }
  | _ => none }
def GeoidSidesWrongFalsely : Prop := geoidSidesRow.holds Try.pinned (OpenSpec.ofChange geoidSidesWrong)

/-- 'fringelaw03.GeoidOn': WHATEVER THE INPUT: true; the input reads as it did. -/
def geoidOnSpec : ChangeSpec := { name := "geoidOn", fn := fun _ => fun
  | [d1, d2, d3] => { results := [.lit (.bool true)], args := [d1, d2, d3] }
  | _ => none }
def geoidOnRow : OpenClaim := { program := "ytdolfdmgdknboaa", sum := "16a48ef47dd1c98adf6954f0abc83c49c6b9e44bd0a6147d51c0843c8fd13e95", func := "fringe/fringelaw03.GeoidOn", spec := "geoidOn", inPlace := ["math/bits.Add64", "math/bits.Sub64"], unfollowed := true, recurses := true, named := ["math/bits.divideError", "math/bits.overflowError"], apart := false }
def GeoidOnSaid : Prop := geoidOnRow.holds Try.pinned (OpenSpec.ofChange geoidOnSpec)

/-- ITS FALSE NEIGHBOUR: 'it returns false'. Refute it at one input. -/
def geoidOnWrong : ChangeSpec := { name := "geoidOn", fn := fun _ => fun
  | [d1, d2, d3] => { results := [.lit (.bool false)], args := [d1, d2, d3] }
  | _ => none }
def GeoidOnWrongFalsely : Prop := geoidOnRow.holds Try.pinned (OpenSpec.ofChange geoidOnWrong)

/-- 'fringelaw03.GeoidTouch': WHATEVER THE INPUT: true; the input reads as it did. -/
def geoidTouchSpec : ChangeSpec := { name := "geoidTouch", fn := fun _ => fun
  | [d1, d2, d3, d4, d5, d6] => { results := [.lit (.bool true)], args := [d1, d2, d3, d4, d5, d6] }
  | _ => none }
def geoidTouchRow : OpenClaim := { program := "ytdolfdmgdknboaa", sum := "16a48ef47dd1c98adf6954f0abc83c49c6b9e44bd0a6147d51c0843c8fd13e95", func := "fringe/fringelaw03.GeoidTouch", spec := "geoidTouch", inPlace := ["math/bits.Add64", "math/bits.Sub64"], unfollowed := true, recurses := true, named := ["math/bits.divideError", "math/bits.overflowError"], apart := false }
def GeoidTouchSaid : Prop := geoidTouchRow.holds Try.pinned (OpenSpec.ofChange geoidTouchSpec)

/-- ITS FALSE NEIGHBOUR: 'it returns false'. Refute it at one input. -/
def geoidTouchWrong : ChangeSpec := { name := "geoidTouch", fn := fun _ => fun
  | [d1, d2, d3, d4, d5, d6] => { results := [.lit (.bool false)], args := [d1, d2, d3, d4, d5, d6] }
  | _ => none }
def GeoidTouchWrongFalsely : Prop := geoidTouchRow.holds Try.pinned (OpenSpec.ofChange geoidTouchWrong)

/-- 'fringelaw03.GeoidTurned': WHATEVER THE INPUT: true; the input reads as it did. -/
def geoidTurnedSpec : ChangeSpec := { name := "geoidTurned", fn := fun _ => fun
  | [d1, d2, d3, d4, d5] => { results := [.lit (.bool true)], args := [d1, d2, d3, d4, d5] }
  | _ => none }
def geoidTurnedRow : OpenClaim := { program := "ytdolfdmgdknboaa", sum := "16a48ef47dd1c98adf6954f0abc83c49c6b9e44bd0a6147d51c0843c8fd13e95", func := "fringe/fringelaw03.GeoidTurned", spec := "geoidTurned", inPlace := ["math/bits.Add64", "math/bits.Sub64"], unfollowed := true, recurses := true, named := ["math/bits.divideError", "math/bits.overflowError"], apart := false }
def GeoidTurnedSaid : Prop := geoidTurnedRow.holds Try.pinned (OpenSpec.ofChange geoidTurnedSpec)

/-- ITS FALSE NEIGHBOUR: 'it returns false'. Refute it at one input. -/
def geoidTurnedWrong : ChangeSpec := { name := "geoidTurned", fn := fun _ => fun
  | [d1, d2, d3, d4, d5] => { results := [.lit (.bool false)], args := [d1, d2, d3, d4, d5] }
  | _ => none }
def GeoidTurnedWrongFalsely : Prop := geoidTurnedRow.holds Try.pinned (OpenSpec.ofChange geoidTurnedWrong)

/-- 'fringelaw03.GeoidNormal': WHATEVER THE INPUT: true; the input reads as it did. -/
def geoidNormalSpec : ChangeSpec := { name := "geoidNormal", fn := fun _ => fun
  | [d1, d2, d3] => { results := [.lit (.bool true)], args := [d1, d2, d3] }
  | _ => none }
def geoidNormalRow : OpenClaim := { program := "ytdolfdmgdknboaa", sum := "16a48ef47dd1c98adf6954f0abc83c49c6b9e44bd0a6147d51c0843c8fd13e95", func := "fringe/fringelaw03.GeoidNormal", spec := "geoidNormal", inPlace := ["math/bits.Add64", "math/bits.Sub64"], unfollowed := true, recurses := true, named := ["math/bits.divideError", "math/bits.overflowError"], apart := false }
def GeoidNormalSaid : Prop := geoidNormalRow.holds Try.pinned (OpenSpec.ofChange geoidNormalSpec)

/-- ITS FALSE NEIGHBOUR: 'it returns false'. Refute it at one input. -/
def geoidNormalWrong : ChangeSpec := { name := "geoidNormal", fn := fun _ => fun
  | [d1, d2, d3] => { results := [.lit (.bool false)], args := [d1, d2, d3] }
  | _ => none }
def GeoidNormalWrongFalsely : Prop := geoidNormalRow.holds Try.pinned (OpenSpec.ofChange geoidNormalWrong)

/- THE SECOND FORM. 'bulk': how many values and letters a reading holds, each counted each time it is reached (what is shared counts as often as it is met; a slice's spare places count too). A statement '..UptoSaid' is the law's where the arguments, and the package variables that the reading takes, are together of bulk at most 1048576: NARROWER than '..Said'. Prove '..Said' where nothing that the law and all that it calls make is longer than what came in: it says more and counts as full. Else prove '..UptoSaid'. A law counts once. -/
mutual
def uptoBulk {H : Type} : DataW H → Nat
  | .lit (.string bytes) => bytes.length + 1
  | .lit _ => 1
  | .nil => 1
  | .ptr d => uptoBulk d + 1
  | .slice elems spare => uptoBulkAll elems + uptoBulkAll spare + 1
  | .agg parts => uptoBulkAll parts + 1
  | .iface _ d => uptoBulk d + 1
  | .map entries => uptoBulkEntries entries + 1
  | .held _ => 1
def uptoBulkAll {H : Type} : List (DataW H) → Nat
  | [] => 0
  | d :: r => uptoBulk d + uptoBulkAll r
def uptoBulkEntries {H : Type} : List (Lit × DataW H) → Nat
  | [] => 0
  | x :: r => uptoBulkEntry x + uptoBulkEntries r
def uptoBulkEntry {H : Type} : Lit × DataW H → Nat
  | (.string bytes, d) => bytes.length + uptoBulk d + 1
  | (_, d) => uptoBulk d + 1
 end
def uptoSmall : (H : Type) → List (DataW H) → Bool := fun _ ds => decide (uptoBulkAll ds ≤ 1048576)
def OpenSpec.upto (s : _root_.Go.ChangeSpec) : _root_.Go.OpenSpec := { _root_.Go.OpenSpec.ofChange s with cond := some uptoSmall }

/-- 'fringelaw02.VecMatrices', WHERE WHAT IT READS IS OF BULK AT MOST 1048576: true; the input reads as it did. -/
def vecMatricesUptoRow : OpenClaim := { program := "ytdolfdmgdknboaa", sum := "16a48ef47dd1c98adf6954f0abc83c49c6b9e44bd0a6147d51c0843c8fd13e95", func := "fringe/fringelaw02.VecMatrices", spec := "vecMatrices", inPlace := ["math/bits.Add64", "math/bits.Sub64"], unfollowed := true, recurses := true, named := ["math/bits.divideError", "math/bits.overflowError"], apart := false, narrowed := true }
def VecMatricesUptoSaid : Prop := vecMatricesUptoRow.holds Try.pinned (OpenSpec.upto vecMatricesSpec)

/-- 'fringelaw03.GeoidPlaces', WHERE WHAT IT READS IS OF BULK AT MOST 1048576: true; the input reads as it did. -/
def geoidPlacesUptoRow : OpenClaim := { program := "ytdolfdmgdknboaa", sum := "16a48ef47dd1c98adf6954f0abc83c49c6b9e44bd0a6147d51c0843c8fd13e95", func := "fringe/fringelaw03.GeoidPlaces", spec := "geoidPlaces", inPlace := ["math/bits.Add64", "math/bits.Sub64"], unfollowed := true, recurses := true, named := ["math/bits.divideError", "math/bits.overflowError"], apart := false, narrowed := true }
def GeoidPlacesUptoSaid : Prop := geoidPlacesUptoRow.holds Try.pinned (OpenSpec.upto geoidPlacesSpec)

/-- 'fringelaw03.GeoidSides', WHERE WHAT IT READS IS OF BULK AT MOST 1048576: true; the input reads as it did. -/
def geoidSidesUptoRow : OpenClaim := { program := "ytdolfdmgdknboaa", sum := "16a48ef47dd1c98adf6954f0abc83c49c6b9e44bd0a6147d51c0843c8fd13e95", func := "fringe/fringelaw03.GeoidSides", spec := "geoidSides", inPlace := ["math/bits.Add64", "math/bits.Sub64"], unfollowed := true, recurses := true, named := ["math/bits.divideError", "math/bits.overflowError"], apart := false, narrowed := true }
def GeoidSidesUptoSaid : Prop := geoidSidesUptoRow.holds Try.pinned (OpenSpec.upto geoidSidesSpec)

/-- 'fringelaw03.GeoidOn', WHERE WHAT IT READS IS OF BULK AT MOST 1048576: true; the input reads as it did. -/
def geoidOnUptoRow : OpenClaim := { program := "ytdolfdmgdknboaa", sum := "16a48ef47dd1c98adf6954f0abc83c49c6b9e44bd0a6147d51c0843c8fd13e95", func := "fringe/fringelaw03.GeoidOn", spec := "geoidOn", inPlace := ["math/bits.Add64", "math/bits.Sub64"], unfollowed := true, recurses := true, named := ["math/bits.divideError", "math/bits.overflowError"], apart := false, narrowed := true }
def GeoidOnUptoSaid : Prop := geoidOnUptoRow.holds Try.pinned (OpenSpec.upto geoidOnSpec)

/-- 'fringelaw03.GeoidTouch', WHERE WHAT IT READS IS OF BULK AT MOST 1048576: true; the input reads as it did. -/
def geoidTouchUptoRow : OpenClaim := { program := "ytdolfdmgdknboaa", sum := "16a48ef47dd1c98adf6954f0abc83c49c6b9e44bd0a6147d51c0843c8fd13e95", func := "fringe/fringelaw03.GeoidTouch", spec := "geoidTouch", inPlace := ["math/bits.Add64", "math/bits.Sub64"], unfollowed := true, recurses := true, named := ["math/bits.divideError", "math/bits.overflowError"], apart := false, narrowed := true }
def GeoidTouchUptoSaid : Prop := geoidTouchUptoRow.holds Try.pinned (OpenSpec.upto geoidTouchSpec)

/-- 'fringelaw03.GeoidTurned', WHERE WHAT IT READS IS OF BULK AT MOST 1048576: true; the input reads as it did. -/
def geoidTurnedUptoRow : OpenClaim := { program := "ytdolfdmgdknboaa", sum := "16a48ef47dd1c98adf6954f0abc83c49c6b9e44bd0a6147d51c0843c8fd13e95", func := "fringe/fringelaw03.GeoidTurned", spec := "geoidTurned", inPlace := ["math/bits.Add64", "math/bits.Sub64"], unfollowed := true, recurses := true, named := ["math/bits.divideError", "math/bits.overflowError"], apart := false, narrowed := true }
def GeoidTurnedUptoSaid : Prop := geoidTurnedUptoRow.holds Try.pinned (OpenSpec.upto geoidTurnedSpec)

/-- 'fringelaw03.GeoidNormal', WHERE WHAT IT READS IS OF BULK AT MOST 1048576: true; the input reads as it did. -/
def geoidNormalUptoRow : OpenClaim := { program := "ytdolfdmgdknboaa", sum := "16a48ef47dd1c98adf6954f0abc83c49c6b9e44bd0a6147d51c0843c8fd13e95", func := "fringe/fringelaw03.GeoidNormal", spec := "geoidNormal", inPlace := ["math/bits.Add64", "math/bits.Sub64"], unfollowed := true, recurses := true, named := ["math/bits.divideError", "math/bits.overflowError"], apart := false, narrowed := true }
def GeoidNormalUptoSaid : Prop := geoidNormalUptoRow.holds Try.pinned (OpenSpec.upto geoidNormalSpec)

end Rows
end Go.Proofs.Ytdolfdmgdknboaa
