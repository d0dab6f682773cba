/-
  No cell of these rows narrows 'for every input' (looked for: loops, veiled, ifaces, maps, wideKeys, modest, calm, conditions, laid).
  DERIVED. THE GIVEN ROWS OF THIS SEAT. 6 by the template 'for every input the law returns true; each argument reads behind the call as it read before'; 0 by the template 'total and deterministic' (their statements: YtnomeldgbhooaaaTotals.lean).
  GIVEN WITH THE SEED: the statements are not yours to turn. If you find one false, say at which input.
  Laid BY PROGRAM, IN A SANDBOX (cutbox-rows.mjs): the forced cells as the released guide's own fill.sh prints them over the translation ca1939f972c20f8d… (all of the seat's roots in one cut). By AI agents, Wed Nov 11 2026. No macro, syntax, notation, axiom, sorry.
-/
import Derived.Test.YtnomeldgbhooaaaChecked
import GoSem.Claim
import GoSem.ClaimJoined
import GoSem.ClaimMapViews
import Derived.JoinedTies
import Derived.KernelRfl
namespace Go.Proofs.Ytnomeldgbhooaaa
/- THE CELL 'sum', in the pinned program and in every row, IS THE sha256 OF THE DUMP (.gsa) THAT YtnomeldgbhooaaaProg.lean LOADS. Nothing in Lean hashes anything: it is a label: what it is worth is what the hold of that sum in a sandbox is worth. -/
noncomputable def Try.pinned : Pinned := { name := "ytnomeldgbhooaaa", sum := "ca1939f972c20f8df0fc43c013eedf18ab7693dfee1aea0c26343028c7153553", checked := Try.checked }
namespace Rows
def none {H : Type} : Left H := { results := [], args := [] }

/-- 'laws.FnExactRenameOf': WHATEVER THE INPUT: true; the input reads as it did. -/
def fnExactRenameOfSpec : ChangeSpec := { name := "fnExactRenameOf", fn := fun _ => fun
  | [d1, d2] => { results := [.lit (.bool true)], args := [d1, d2] }
  | _ => none }
def fnExactRenameOfRow : OpenClaim := { program := "ytnomeldgbhooaaa", sum := "ca1939f972c20f8df0fc43c013eedf18ab7693dfee1aea0c26343028c7153553", func := "loop.example/g01106/laws.FnExactRenameOf", spec := "fnExactRenameOf", apart := false }
def FnExactRenameOfSaid : Prop := fnExactRenameOfRow.holds Try.pinned (OpenSpec.ofChange fnExactRenameOfSpec)

/-- ITS FALSE NEIGHBOUR: 'it returns false'. Refute it at one input. -/
def fnExactRenameOfWrong : ChangeSpec := { name := "fnExactRenameOf", fn := fun _ => fun
  | [d1, d2] => { results := [.lit (.bool false)], args := [d1, d2] }
  | _ => none }
def FnExactRenameOfWrongFalsely : Prop := fnExactRenameOfRow.holds Try.pinned (OpenSpec.ofChange fnExactRenameOfWrong)

/-- 'laws.FnExactIsExtension': WHATEVER THE INPUT: true; the input reads as it did. -/
def fnExactIsExtensionSpec : ChangeSpec := { name := "fnExactIsExtension", fn := fun _ => fun
  | [d1, d2] => { results := [.lit (.bool true)], args := [d1, d2] }
  | _ => none }
def fnExactIsExtensionRow : OpenClaim := { program := "ytnomeldgbhooaaa", sum := "ca1939f972c20f8df0fc43c013eedf18ab7693dfee1aea0c26343028c7153553", func := "loop.example/g01106/laws.FnExactIsExtension", spec := "fnExactIsExtension", apart := false }
def FnExactIsExtensionSaid : Prop := fnExactIsExtensionRow.holds Try.pinned (OpenSpec.ofChange fnExactIsExtensionSpec)

/-- ITS FALSE NEIGHBOUR: 'it returns false'. Refute it at one input. -/
def fnExactIsExtensionWrong : ChangeSpec := { name := "fnExactIsExtension", fn := fun _ => fun
  | [d1, d2] => { results := [.lit (.bool false)], args := [d1, d2] }
  | _ => none }
def FnExactIsExtensionWrongFalsely : Prop := fnExactIsExtensionRow.holds Try.pinned (OpenSpec.ofChange fnExactIsExtensionWrong)

/-- 'laws.FnExactInsertInterval': WHATEVER THE INPUT: true; the input reads as it did. -/
def fnExactInsertIntervalSpec : ChangeSpec := { name := "fnExactInsertInterval", fn := fun _ => fun
  | [d1, d2] => { results := [.lit (.bool true)], args := [d1, d2] }
  | _ => none }
def fnExactInsertIntervalRow : OpenClaim := { program := "ytnomeldgbhooaaa", sum := "ca1939f972c20f8df0fc43c013eedf18ab7693dfee1aea0c26343028c7153553", func := "loop.example/g01106/laws.FnExactInsertInterval", spec := "fnExactInsertInterval", unfollowed := true, recurses := true, apart := false }
def FnExactInsertIntervalSaid : Prop := fnExactInsertIntervalRow.holds Try.pinned (OpenSpec.ofChange fnExactInsertIntervalSpec)

/-- ITS FALSE NEIGHBOUR: 'it returns false'. Refute it at one input. -/
def fnExactInsertIntervalWrong : ChangeSpec := { name := "fnExactInsertInterval", fn := fun _ => fun
  | [d1, d2] => { results := [.lit (.bool false)], args := [d1, d2] }
  | _ => none }
def FnExactInsertIntervalWrongFalsely : Prop := fnExactInsertIntervalRow.holds Try.pinned (OpenSpec.ofChange fnExactInsertIntervalWrong)

/-- 'laws.FnExactOrderOfPlaces': WHATEVER THE INPUT: true; the input reads as it did. -/
def fnExactOrderOfPlacesSpec : ChangeSpec := { name := "fnExactOrderOfPlaces", fn := fun _ => fun
  | [d1, d2] => { results := [.lit (.bool true)], args := [d1, d2] }
  | _ => none }
def fnExactOrderOfPlacesRow : OpenClaim := { program := "ytnomeldgbhooaaa", sum := "ca1939f972c20f8df0fc43c013eedf18ab7693dfee1aea0c26343028c7153553", func := "loop.example/g01106/laws.FnExactOrderOfPlaces", spec := "fnExactOrderOfPlaces", unfollowed := true, recurses := true, apart := false }
def FnExactOrderOfPlacesSaid : Prop := fnExactOrderOfPlacesRow.holds Try.pinned (OpenSpec.ofChange fnExactOrderOfPlacesSpec)

/-- ITS FALSE NEIGHBOUR: 'it returns false'. Refute it at one input. -/
def fnExactOrderOfPlacesWrong : ChangeSpec := { name := "fnExactOrderOfPlaces", fn := fun _ => fun
  | [d1, d2] => { results := [.lit (.bool false)], args := [d1, d2] }
  | _ => none }
def FnExactOrderOfPlacesWrongFalsely : Prop := fnExactOrderOfPlacesRow.holds Try.pinned (OpenSpec.ofChange fnExactOrderOfPlacesWrong)

/-- 'laws.FnExactIsPlaces': WHATEVER THE INPUT: true; the input reads as it did. -/
def fnExactIsPlacesSpec : ChangeSpec := { name := "fnExactIsPlaces", fn := fun _ => fun
  | [d1, d2, d3] => { results := [.lit (.bool true)], args := [d1, d2, d3] }
  | _ => none }
def fnExactIsPlacesRow : OpenClaim := { program := "ytnomeldgbhooaaa", sum := "ca1939f972c20f8df0fc43c013eedf18ab7693dfee1aea0c26343028c7153553", func := "loop.example/g01106/laws.FnExactIsPlaces", spec := "fnExactIsPlaces", unfollowed := true, recurses := true, apart := false }
def FnExactIsPlacesSaid : Prop := fnExactIsPlacesRow.holds Try.pinned (OpenSpec.ofChange fnExactIsPlacesSpec)

/-- ITS FALSE NEIGHBOUR: 'it returns false'. Refute it at one input. -/
def fnExactIsPlacesWrong : ChangeSpec := { name := "fnExactIsPlaces", fn := fun _ => fun
  | [d1, d2, d3] => { results := [.lit (.bool false)], args := [d1, d2, d3] }
  | _ => none }
def FnExactIsPlacesWrongFalsely : Prop := fnExactIsPlacesRow.holds Try.pinned (OpenSpec.ofChange fnExactIsPlacesWrong)

/-- 'laws.FnExactIsStair': WHATEVER THE INPUT: true; the input reads as it did. -/
def fnExactIsStairSpec : ChangeSpec := { name := "fnExactIsStair", fn := fun _ => fun
  | [d] => { results := [.lit (.bool true)], args := [d] }
  | _ => none }
def fnExactIsStairRow : OpenClaim := { program := "ytnomeldgbhooaaa", sum := "ca1939f972c20f8df0fc43c013eedf18ab7693dfee1aea0c26343028c7153553", func := "loop.example/g01106/laws.FnExactIsStair", spec := "fnExactIsStair", apart := false }
def FnExactIsStairSaid : Prop := fnExactIsStairRow.holds Try.pinned (OpenSpec.ofChange fnExactIsStairSpec)

/-- ITS FALSE NEIGHBOUR: 'it returns false'. Refute it at one input. -/
def fnExactIsStairWrong : ChangeSpec := { name := "fnExactIsStair", fn := fun _ => fun
  | [d] => { results := [.lit (.bool false)], args := [d] }
  | _ => none }
def FnExactIsStairWrongFalsely : Prop := fnExactIsStairRow.holds Try.pinned (OpenSpec.ofChange fnExactIsStairWrong)

/- THE SECOND FORM. 'bulk': how many values and letters a reading holds, each counted each time it is reached (what is shared counts as often as it is met; a slice's spare places count too). A statement '..UptoSaid' is the law's where the arguments, and the package variables that the reading takes, are together of bulk at most 1048576: NARROWER than '..Said'. Prove '..Said' where nothing that the law and all that it calls make is longer than what came in: it says more and counts as full. Else prove '..UptoSaid'. A law counts once. -/
mutual
def uptoBulk {H : Type} : DataW H → Nat
  | .lit (.string bytes) => bytes.length + 1
  | .lit _ => 1
  | .nil => 1
  | .ptr d => uptoBulk d + 1
  | .slice elems spare => uptoBulkAll elems + uptoBulkAll spare + 1
  | .agg parts => uptoBulkAll parts + 1
  | .iface _ d => uptoBulk d + 1
  | .map entries => uptoBulkEntries entries + 1
  | .held _ => 1
def uptoBulkAll {H : Type} : List (DataW H) → Nat
  | [] => 0
  | d :: r => uptoBulk d + uptoBulkAll r
def uptoBulkEntries {H : Type} : List (Lit × DataW H) → Nat
  | [] => 0
  | x :: r => uptoBulkEntry x + uptoBulkEntries r
def uptoBulkEntry {H : Type} : Lit × DataW H → Nat
  | (.string bytes, d) => bytes.length + uptoBulk d + 1
  | (_, d) => uptoBulk d + 1
 end
def uptoSmall : (H : Type) → List (DataW H) → Bool := fun _ ds => decide (uptoBulkAll ds ≤ 1048576)
def OpenSpec.upto (s : _root_.Go.ChangeSpec) : _root_.Go.OpenSpec := { _root_.Go.OpenSpec.ofChange s with cond := some uptoSmall }

/-- 'laws.FnExactRenameOf', WHERE WHAT IT READS IS OF BULK AT MOST 1048576: true; the input reads as it did. -/
def fnExactRenameOfUptoRow : OpenClaim := { program := "ytnomeldgbhooaaa", sum := "ca1939f972c20f8df0fc43c013eedf18ab7693dfee1aea0c26343028c7153553", func := "loop.example/g01106/laws.FnExactRenameOf", spec := "fnExactRenameOf", apart := false, narrowed := true }
def FnExactRenameOfUptoSaid : Prop := fnExactRenameOfUptoRow.holds Try.pinned (OpenSpec.upto fnExactRenameOfSpec)

/-- 'laws.FnExactIsExtension', WHERE WHAT IT READS IS OF BULK AT MOST 1048576: true; the input reads as it did. -/
def fnExactIsExtensionUptoRow : OpenClaim := { program := "ytnomeldgbhooaaa", sum := "ca1939f972c20f8df0fc43c013eedf18ab7693dfee1aea0c26343028c7153553", func := "loop.example/g01106/laws.FnExactIsExtension", spec := "fnExactIsExtension", apart := false, narrowed := true }
def FnExactIsExtensionUptoSaid : Prop := fnExactIsExtensionUptoRow.holds Try.pinned (OpenSpec.upto fnExactIsExtensionSpec)

/-- 'laws.FnExactInsertInterval', WHERE WHAT IT READS IS OF BULK AT MOST 1048576: true; the input reads as it did. -/
def fnExactInsertIntervalUptoRow : OpenClaim := { program := "ytnomeldgbhooaaa", sum := "ca1939f972c20f8df0fc43c013eedf18ab7693dfee1aea0c26343028c7153553", func := "loop.example/g01106/laws.FnExactInsertInterval", spec := "fnExactInsertInterval", unfollowed := true, recurses := true, apart := false, narrowed := true }
def FnExactInsertIntervalUptoSaid : Prop := fnExactInsertIntervalUptoRow.holds Try.pinned (OpenSpec.upto fnExactInsertIntervalSpec)

/-- 'laws.FnExactOrderOfPlaces', WHERE WHAT IT READS IS OF BULK AT MOST 1048576: true; the input reads as it did. -/
def fnExactOrderOfPlacesUptoRow : OpenClaim := { program := "ytnomeldgbhooaaa", sum := "ca1939f972c20f8df0fc43c013eedf18ab7693dfee1aea0c26343028c7153553", func := "loop.example/g01106/laws.FnExactOrderOfPlaces", spec := "fnExactOrderOfPlaces", unfollowed := true, recurses := true, apart := false, narrowed := true }
def FnExactOrderOfPlacesUptoSaid : Prop := fnExactOrderOfPlacesUptoRow.holds Try.pinned (OpenSpec.upto fnExactOrderOfPlacesSpec)

/-- 'laws.FnExactIsPlaces', WHERE WHAT IT READS IS OF BULK AT MOST 1048576: true; the input reads as it did. -/
def fnExactIsPlacesUptoRow : OpenClaim := { program := "ytnomeldgbhooaaa", sum := "ca1939f972c20f8df0fc43c013eedf18ab7693dfee1aea0c26343028c7153553", func := "loop.example/g01106/laws.FnExactIsPlaces", spec := "fnExactIsPlaces", unfollowed := true, recurses := true, apart := false, narrowed := true }
def FnExactIsPlacesUptoSaid : Prop := fnExactIsPlacesUptoRow.holds Try.pinned (OpenSpec.upto fnExactIsPlacesSpec)

/-- 'laws.FnExactIsStair', WHERE WHAT IT READS IS OF BULK AT MOST 1048576: true; the input reads as it did. -/
def fnExactIsStairUptoRow : OpenClaim := { program := "ytnomeldgbhooaaa", sum := "ca1939f972c20f8df0fc43c013eedf18ab7693dfee1aea0c26343028c7153553", func := "loop.example/g01106/laws.FnExactIsStair", spec := "fnExactIsStair", apart := false, narrowed := true }
def FnExactIsStairUptoSaid : Prop := fnExactIsStairUptoRow.holds Try.pinned (OpenSpec.upto fnExactIsStairSpec)

end Rows
end Go.Proofs.Ytnomeldgbhooaaa
