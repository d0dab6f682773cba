/-
  No cell of these rows narrows 'for every input' (looked for: loops, veiled, ifaces, maps, wideKeys, modest, calm, conditions, laid).
  DERIVED. THE GIVEN ROWS OF THIS SEAT. 6 by the template 'for every input the law returns true; each argument reads behind the call as it read before'; 0 by the template 'total and deterministic' (their statements: YtdmhjmcljpladaaTotals.lean).
  GIVEN WITH THE SEED: the statements are not yours to turn. If you find one false, say at which input.
  Laid BY PROGRAM, IN A SANDBOX (cutbox-rows.mjs): the forced cells as the released guide's own fill.sh prints them over the translation 3949ca3916fb68d2… (all of the seat's roots in one cut). By AI agents, Wed Nov 11 2026. No macro, syntax, notation, axiom, sorry.
-/
import Derived.Test.YtdmhjmcljpladaaChecked
import GoSem.Claim
import GoSem.ClaimJoined
import GoSem.ClaimMapViews
import Derived.JoinedTies
import Derived.KernelRfl
namespace Go.Proofs.Ytdmhjmcljpladaa
/- THE CELL 'sum', in the pinned program and in every row, IS THE sha256 OF THE DUMP (.gsa) THAT YtdmhjmcljpladaaProg.lean LOADS. Nothing in Lean hashes anything: it is a label: what it is worth is what the hold of that sum in a sandbox is worth. -/
noncomputable def Try.pinned : Pinned := { name := "ytdmhjmcljpladaa", sum := "3949ca3916fb68d228ce2b2f66aa6373291b0a8d8dd0db5dababf1576ceabffd", checked := Try.checked }
namespace Rows
def none {H : Type} : Left H := { results := [], args := [] }

/-- 'laws.FnEndsAreLeast': WHATEVER THE INPUT: true; the input reads as it did. -/
def fnEndsAreLeastSpec : ChangeSpec := { name := "fnEndsAreLeast", fn := fun _ => fun
  | [d1, d2] => { results := [.lit (.bool true)], args := [d1, d2] }
  | _ => none }
def fnEndsAreLeastRow : OpenClaim := { program := "ytdmhjmcljpladaa", sum := "3949ca3916fb68d228ce2b2f66aa6373291b0a8d8dd0db5dababf1576ceabffd", func := "loop.example/g01106/laws.FnEndsAreLeast", spec := "fnEndsAreLeast", unfollowed := true, recurses := true, apart := false }
def FnEndsAreLeastSaid : Prop := fnEndsAreLeastRow.holds Try.pinned (OpenSpec.ofChange fnEndsAreLeastSpec)

/-- ITS FALSE NEIGHBOUR: 'it returns false'. Refute it at one input. -/
def fnEndsAreLeastWrong : ChangeSpec := { name := "fnEndsAreLeast", fn := fun _ => fun
  | [d1, d2] => { results := [.lit (.bool false)], args := [d1, d2] }
  | _ => none }
def FnEndsAreLeastWrongFalsely : Prop := fnEndsAreLeastRow.holds Try.pinned (OpenSpec.ofChange fnEndsAreLeastWrong)

/-- 'laws.FnStretchedIntervals': WHATEVER THE INPUT: true; the input reads as it did. -/
def fnStretchedIntervalsSpec : ChangeSpec := { name := "fnStretchedIntervals", fn := fun _ => fun
  | [d1, d2] => { results := [.lit (.bool true)], args := [d1, d2] }
  | _ => none }
def fnStretchedIntervalsRow : OpenClaim := { program := "ytdmhjmcljpladaa", sum := "3949ca3916fb68d228ce2b2f66aa6373291b0a8d8dd0db5dababf1576ceabffd", func := "loop.example/g01106/laws.FnStretchedIntervals", spec := "fnStretchedIntervals", unfollowed := true, recurses := true, apart := false }
def FnStretchedIntervalsSaid : Prop := fnStretchedIntervalsRow.holds Try.pinned (OpenSpec.ofChange fnStretchedIntervalsSpec)

/-- ITS FALSE NEIGHBOUR: 'it returns false'. Refute it at one input. -/
def fnStretchedIntervalsWrong : ChangeSpec := { name := "fnStretchedIntervals", fn := fun _ => fun
  | [d1, d2] => { results := [.lit (.bool false)], args := [d1, d2] }
  | _ => none }
def FnStretchedIntervalsWrongFalsely : Prop := fnStretchedIntervalsRow.holds Try.pinned (OpenSpec.ofChange fnStretchedIntervalsWrong)

/-- 'laws.FnModifiedAscents': WHATEVER THE INPUT: true; the input reads as it did. -/
def fnModifiedAscentsSpec : ChangeSpec := { name := "fnModifiedAscents", fn := fun _ => fun
  | [d1, d2] => { results := [.lit (.bool true)], args := [d1, d2] }
  | _ => none }
def fnModifiedAscentsRow : OpenClaim := { program := "ytdmhjmcljpladaa", sum := "3949ca3916fb68d228ce2b2f66aa6373291b0a8d8dd0db5dababf1576ceabffd", func := "loop.example/g01106/laws.FnModifiedAscents", spec := "fnModifiedAscents", apart := false }
def FnModifiedAscentsSaid : Prop := fnModifiedAscentsRow.holds Try.pinned (OpenSpec.ofChange fnModifiedAscentsSpec)

/-- ITS FALSE NEIGHBOUR: 'it returns false'. Refute it at one input. -/
def fnModifiedAscentsWrong : ChangeSpec := { name := "fnModifiedAscents", fn := fun _ => fun
  | [d1, d2] => { results := [.lit (.bool false)], args := [d1, d2] }
  | _ => none }
def FnModifiedAscentsWrongFalsely : Prop := fnModifiedAscentsRow.holds Try.pinned (OpenSpec.ofChange fnModifiedAscentsWrong)

/-- 'laws.FnGrowingIsUndone': WHATEVER THE INPUT: true; the input reads as it did. -/
def fnGrowingIsUndoneSpec : ChangeSpec := { name := "fnGrowingIsUndone", fn := fun _ => fun
  | [d1, d2] => { results := [.lit (.bool true)], args := [d1, d2] }
  | _ => none }
def fnGrowingIsUndoneRow : OpenClaim := { program := "ytdmhjmcljpladaa", sum := "3949ca3916fb68d228ce2b2f66aa6373291b0a8d8dd0db5dababf1576ceabffd", func := "loop.example/g01106/laws.FnGrowingIsUndone", spec := "fnGrowingIsUndone", inPlace := ["slices.overlaps[[]int]", "slices.overlaps[int]"], apart := false }
def FnGrowingIsUndoneSaid : Prop := fnGrowingIsUndoneRow.holds Try.pinned (OpenSpec.ofChange fnGrowingIsUndoneSpec)

/-- ITS FALSE NEIGHBOUR: 'it returns false'. Refute it at one input. -/
def fnGrowingIsUndoneWrong : ChangeSpec := { name := "fnGrowingIsUndone", fn := fun _ => fun
  | [d1, d2] => { results := [.lit (.bool false)], args := [d1, d2] }
  | _ => none }
def FnGrowingIsUndoneWrongFalsely : Prop := fnGrowingIsUndoneRow.holds Try.pinned (OpenSpec.ofChange fnGrowingIsUndoneWrong)

/-- 'laws.FnRunsOfEqualNumbers': WHATEVER THE INPUT: true; the input reads as it did. -/
def fnRunsOfEqualNumbersSpec : ChangeSpec := { name := "fnRunsOfEqualNumbers", fn := fun _ => fun
  | [d1, d2] => { results := [.lit (.bool true)], args := [d1, d2] }
  | _ => none }
def fnRunsOfEqualNumbersRow : OpenClaim := { program := "ytdmhjmcljpladaa", sum := "3949ca3916fb68d228ce2b2f66aa6373291b0a8d8dd0db5dababf1576ceabffd", func := "loop.example/g01106/laws.FnRunsOfEqualNumbers", spec := "fnRunsOfEqualNumbers", inPlace := ["slices.overlaps[[]int]", "slices.overlaps[int]"], apart := false }
def FnRunsOfEqualNumbersSaid : Prop := fnRunsOfEqualNumbersRow.holds Try.pinned (OpenSpec.ofChange fnRunsOfEqualNumbersSpec)

/-- ITS FALSE NEIGHBOUR: 'it returns false'. Refute it at one input. -/
def fnRunsOfEqualNumbersWrong : ChangeSpec := { name := "fnRunsOfEqualNumbers", fn := fun _ => fun
  | [d1, d2] => { results := [.lit (.bool false)], args := [d1, d2] }
  | _ => none }
def FnRunsOfEqualNumbersWrongFalsely : Prop := fnRunsOfEqualNumbersRow.holds Try.pinned (OpenSpec.ofChange fnRunsOfEqualNumbersWrong)

/-- 'laws.FnTextsOfMatchings': WHATEVER THE INPUT: true; the input reads as it did. -/
def fnTextsOfMatchingsSpec : ChangeSpec := { name := "fnTextsOfMatchings", fn := fun _ => fun
  | [d1, d2] => { results := [.lit (.bool true)], args := [d1, d2] }
  | _ => none }
def fnTextsOfMatchingsRow : OpenClaim := { program := "ytdmhjmcljpladaa", sum := "3949ca3916fb68d228ce2b2f66aa6373291b0a8d8dd0db5dababf1576ceabffd", func := "loop.example/g01106/laws.FnTextsOfMatchings", spec := "fnTextsOfMatchings", apart := false }
def FnTextsOfMatchingsSaid : Prop := fnTextsOfMatchingsRow.holds Try.pinned (OpenSpec.ofChange fnTextsOfMatchingsSpec)

/-- ITS FALSE NEIGHBOUR: 'it returns false'. Refute it at one input. -/
def fnTextsOfMatchingsWrong : ChangeSpec := { name := "fnTextsOfMatchings", fn := fun _ => fun
  | [d1, d2] => { results := [.lit (.bool false)], args := [d1, d2] }
  | _ => none }
def FnTextsOfMatchingsWrongFalsely : Prop := fnTextsOfMatchingsRow.holds Try.pinned (OpenSpec.ofChange fnTextsOfMatchingsWrong)

/- THE SECOND FORM. 'bulk': how many values and letters a reading holds, each counted each time it is reached (what is shared counts as often as it is met; a slice's spare places count too). A statement '..UptoSaid' is the law's where the arguments, and the package variables that the reading takes, are together of bulk at most 1048576: NARROWER than '..Said'. Prove '..Said' where nothing that the law and all that it calls make is longer than what came in: it says more and counts as full. Else prove '..UptoSaid'. A law counts once. -/
mutual
def uptoBulk {H : Type} : DataW H → Nat
  | .lit (.string bytes) => bytes.length + 1
  | .lit _ => 1
  | .nil => 1
  | .ptr d => uptoBulk d + 1
  | .slice elems spare => uptoBulkAll elems + uptoBulkAll spare + 1
  | .agg parts => uptoBulkAll parts + 1
  | .iface _ d => uptoBulk d + 1
  | .map entries => uptoBulkEntries entries + 1
  | .held _ => 1
def uptoBulkAll {H : Type} : List (DataW H) → Nat
  | [] => 0
  | d :: r => uptoBulk d + uptoBulkAll r
def uptoBulkEntries {H : Type} : List (Lit × DataW H) → Nat
  | [] => 0
  | x :: r => uptoBulkEntry x + uptoBulkEntries r
def uptoBulkEntry {H : Type} : Lit × DataW H → Nat
  | (.string bytes, d) => bytes.length + uptoBulk d + 1
  | (_, d) => uptoBulk d + 1
 end
def uptoSmall : (H : Type) → List (DataW H) → Bool := fun _ ds => decide (uptoBulkAll ds ≤ 1048576)
def OpenSpec.upto (s : _root_.Go.ChangeSpec) : _root_.Go.OpenSpec := { _root_.Go.OpenSpec.ofChange s with cond := some uptoSmall }

/-- 'laws.FnEndsAreLeast', WHERE WHAT IT READS IS OF BULK AT MOST 1048576: true; the input reads as it did. -/
def fnEndsAreLeastUptoRow : OpenClaim := { program := "ytdmhjmcljpladaa", sum := "3949ca3916fb68d228ce2b2f66aa6373291b0a8d8dd0db5dababf1576ceabffd", func := "loop.example/g01106/laws.FnEndsAreLeast", spec := "fnEndsAreLeast", unfollowed := true, recurses := true, apart := false, narrowed := true }
def FnEndsAreLeastUptoSaid : Prop := fnEndsAreLeastUptoRow.holds Try.pinned (OpenSpec.upto fnEndsAreLeastSpec)

/-- 'laws.FnStretchedIntervals', WHERE WHAT IT READS IS OF BULK AT MOST 1048576: true; the input reads as it did. -/
def fnStretchedIntervalsUptoRow : OpenClaim := { program := "ytdmhjmcljpladaa", sum := "3949ca3916fb68d228ce2b2f66aa6373291b0a8d8dd0db5dababf1576ceabffd", func := "loop.example/g01106/laws.FnStretchedIntervals", spec := "fnStretchedIntervals", unfollowed := true, recurses := true, apart := false, narrowed := true }
def FnStretchedIntervalsUptoSaid : Prop := fnStretchedIntervalsUptoRow.holds Try.pinned (OpenSpec.upto fnStretchedIntervalsSpec)

/-- 'laws.FnModifiedAscents', WHERE WHAT IT READS IS OF BULK AT MOST 1048576: true; the input reads as it did. -/
def fnModifiedAscentsUptoRow : OpenClaim := { program := "ytdmhjmcljpladaa", sum := "3949ca3916fb68d228ce2b2f66aa6373291b0a8d8dd0db5dababf1576ceabffd", func := "loop.example/g01106/laws.FnModifiedAscents", spec := "fnModifiedAscents", apart := false, narrowed := true }
def FnModifiedAscentsUptoSaid : Prop := fnModifiedAscentsUptoRow.holds Try.pinned (OpenSpec.upto fnModifiedAscentsSpec)

/-- 'laws.FnGrowingIsUndone', WHERE WHAT IT READS IS OF BULK AT MOST 1048576: true; the input reads as it did. -/
def fnGrowingIsUndoneUptoRow : OpenClaim := { program := "ytdmhjmcljpladaa", sum := "3949ca3916fb68d228ce2b2f66aa6373291b0a8d8dd0db5dababf1576ceabffd", func := "loop.example/g01106/laws.FnGrowingIsUndone", spec := "fnGrowingIsUndone", inPlace := ["slices.overlaps[[]int]", "slices.overlaps[int]"], apart := false, narrowed := true }
def FnGrowingIsUndoneUptoSaid : Prop := fnGrowingIsUndoneUptoRow.holds Try.pinned (OpenSpec.upto fnGrowingIsUndoneSpec)

/-- 'laws.FnRunsOfEqualNumbers', WHERE WHAT IT READS IS OF BULK AT MOST 1048576: true; the input reads as it did. -/
def fnRunsOfEqualNumbersUptoRow : OpenClaim := { program := "ytdmhjmcljpladaa", sum := "3949ca3916fb68d228ce2b2f66aa6373291b0a8d8dd0db5dababf1576ceabffd", func := "loop.example/g01106/laws.FnRunsOfEqualNumbers", spec := "fnRunsOfEqualNumbers", inPlace := ["slices.overlaps[[]int]", "slices.overlaps[int]"], apart := false, narrowed := true }
def FnRunsOfEqualNumbersUptoSaid : Prop := fnRunsOfEqualNumbersUptoRow.holds Try.pinned (OpenSpec.upto fnRunsOfEqualNumbersSpec)

/-- 'laws.FnTextsOfMatchings', WHERE WHAT IT READS IS OF BULK AT MOST 1048576: true; the input reads as it did. -/
def fnTextsOfMatchingsUptoRow : OpenClaim := { program := "ytdmhjmcljpladaa", sum := "3949ca3916fb68d228ce2b2f66aa6373291b0a8d8dd0db5dababf1576ceabffd", func := "loop.example/g01106/laws.FnTextsOfMatchings", spec := "fnTextsOfMatchings", apart := false, narrowed := true }
def FnTextsOfMatchingsUptoSaid : Prop := fnTextsOfMatchingsUptoRow.holds Try.pinned (OpenSpec.upto fnTextsOfMatchingsSpec)

end Rows
end Go.Proofs.Ytdmhjmcljpladaa
