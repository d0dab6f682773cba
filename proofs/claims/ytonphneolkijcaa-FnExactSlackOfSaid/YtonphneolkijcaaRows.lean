/-
  No cell of these rows narrows 'for every input' (looked for: loops, veiled, ifaces, maps, wideKeys, modest, calm, conditions, laid).
  DERIVED. THE GIVEN ROWS OF THIS SEAT. 11 by the template 'for every input the law returns true; each argument reads behind the call as it read before'; 0 by the template 'total and deterministic' (their statements: YtonphneolkijcaaTotals.lean).
  GIVEN WITH THE SEED: the statements are not yours to turn. If you find one false, say at which input.
  Laid BY PROGRAM, IN A SANDBOX (cutbox-rows.mjs): the forced cells as the released guide's own fill.sh prints them over the translation 2c5f5a9aa1a77919… (all of the seat's roots in one cut). By AI agents, Wed Nov 11 2026. No macro, syntax, notation, axiom, sorry.
-/
import Derived.Test.YtonphneolkijcaaChecked
import GoSem.Claim
import GoSem.ClaimJoined
import GoSem.ClaimMapViews
import Derived.JoinedTies
import Derived.KernelRfl
namespace Go.Proofs.Ytonphneolkijcaa
/- THE CELL 'sum', in the pinned program and in every row, IS THE sha256 OF THE DUMP (.gsa) THAT YtonphneolkijcaaProg.lean LOADS. Nothing in Lean hashes anything: it is a label: what it is worth is what the hold of that sum in a sandbox is worth. -/
noncomputable def Try.pinned : Pinned := { name := "ytonphneolkijcaa", sum := "2c5f5a9aa1a77919397ab2fa545145b5b4b9f68edcf535b696523462af17f5cc", checked := Try.checked }
namespace Rows
def none {H : Type} : Left H := { results := [], args := [] }

/-- 'laws.FnExactDoRepresent': WHATEVER THE INPUT: true; the input reads as it did. -/
def fnExactDoRepresentSpec : ChangeSpec := { name := "fnExactDoRepresent", fn := fun _ => fun
  | [d1, d2] => { results := [.lit (.bool true)], args := [d1, d2] }
  | _ => none }
def fnExactDoRepresentRow : OpenClaim := { program := "ytonphneolkijcaa", sum := "2c5f5a9aa1a77919397ab2fa545145b5b4b9f68edcf535b696523462af17f5cc", func := "loop.example/g01106/laws.FnExactDoRepresent", spec := "fnExactDoRepresent", unfollowed := true, recurses := true, apart := false }
def FnExactDoRepresentSaid : Prop := fnExactDoRepresentRow.holds Try.pinned (OpenSpec.ofChange fnExactDoRepresentSpec)

/-- ITS FALSE NEIGHBOUR: 'it returns false'. Refute it at one input. -/
def fnExactDoRepresentWrong : ChangeSpec := { name := "fnExactDoRepresent", fn := fun _ => fun
  | [d1, d2] => { results := [.lit (.bool false)], args := [d1, d2] }
  | _ => none }
def FnExactDoRepresentWrongFalsely : Prop := fnExactDoRepresentRow.holds Try.pinned (OpenSpec.ofChange fnExactDoRepresentWrong)

/-- 'laws.FnExactAreLeastEnds': WHATEVER THE INPUT: true; the input reads as it did. -/
def fnExactAreLeastEndsSpec : ChangeSpec := { name := "fnExactAreLeastEnds", fn := fun _ => fun
  | [d] => { results := [.lit (.bool true)], args := [d] }
  | _ => none }
def fnExactAreLeastEndsRow : OpenClaim := { program := "ytonphneolkijcaa", sum := "2c5f5a9aa1a77919397ab2fa545145b5b4b9f68edcf535b696523462af17f5cc", func := "loop.example/g01106/laws.FnExactAreLeastEnds", spec := "fnExactAreLeastEnds", unfollowed := true, recurses := true, apart := false }
def FnExactAreLeastEndsSaid : Prop := fnExactAreLeastEndsRow.holds Try.pinned (OpenSpec.ofChange fnExactAreLeastEndsSpec)

/-- ITS FALSE NEIGHBOUR: 'it returns false'. Refute it at one input. -/
def fnExactAreLeastEndsWrong : ChangeSpec := { name := "fnExactAreLeastEnds", fn := fun _ => fun
  | [d] => { results := [.lit (.bool false)], args := [d] }
  | _ => none }
def FnExactAreLeastEndsWrongFalsely : Prop := fnExactAreLeastEndsRow.holds Try.pinned (OpenSpec.ofChange fnExactAreLeastEndsWrong)

/-- 'laws.FnExactSetsAlong': WHATEVER THE INPUT: true; the input reads as it did. -/
def fnExactSetsAlongSpec : ChangeSpec := { name := "fnExactSetsAlong", fn := fun _ => fun
  | [d] => { results := [.lit (.bool true)], args := [d] }
  | _ => none }
def fnExactSetsAlongRow : OpenClaim := { program := "ytonphneolkijcaa", sum := "2c5f5a9aa1a77919397ab2fa545145b5b4b9f68edcf535b696523462af17f5cc", func := "loop.example/g01106/laws.FnExactSetsAlong", spec := "fnExactSetsAlong", unfollowed := true, recurses := true, apart := false }
def FnExactSetsAlongSaid : Prop := fnExactSetsAlongRow.holds Try.pinned (OpenSpec.ofChange fnExactSetsAlongSpec)

/-- ITS FALSE NEIGHBOUR: 'it returns false'. Refute it at one input. -/
def fnExactSetsAlongWrong : ChangeSpec := { name := "fnExactSetsAlong", fn := fun _ => fun
  | [d] => { results := [.lit (.bool false)], args := [d] }
  | _ => none }
def FnExactSetsAlongWrongFalsely : Prop := fnExactSetsAlongRow.holds Try.pinned (OpenSpec.ofChange fnExactSetsAlongWrong)

/-- 'laws.FnExactInsertInterval': WHATEVER THE INPUT: true; the input reads as it did. -/
def fnExactInsertIntervalSpec : ChangeSpec := { name := "fnExactInsertInterval", fn := fun _ => fun
  | [d1, d2] => { results := [.lit (.bool true)], args := [d1, d2] }
  | _ => none }
def fnExactInsertIntervalRow : OpenClaim := { program := "ytonphneolkijcaa", sum := "2c5f5a9aa1a77919397ab2fa545145b5b4b9f68edcf535b696523462af17f5cc", func := "loop.example/g01106/laws.FnExactInsertInterval", spec := "fnExactInsertInterval", unfollowed := true, recurses := true, apart := false }
def FnExactInsertIntervalSaid : Prop := fnExactInsertIntervalRow.holds Try.pinned (OpenSpec.ofChange fnExactInsertIntervalSpec)

/-- ITS FALSE NEIGHBOUR: 'it returns false'. Refute it at one input. -/
def fnExactInsertIntervalWrong : ChangeSpec := { name := "fnExactInsertInterval", fn := fun _ => fun
  | [d1, d2] => { results := [.lit (.bool false)], args := [d1, d2] }
  | _ => none }
def FnExactInsertIntervalWrongFalsely : Prop := fnExactInsertIntervalRow.holds Try.pinned (OpenSpec.ofChange fnExactInsertIntervalWrong)

/-- 'laws.FnExactStretchIntervals': WHATEVER THE INPUT: true; the input reads as it did. -/
def fnExactStretchIntervalsSpec : ChangeSpec := { name := "fnExactStretchIntervals", fn := fun _ => fun
  | [d1, d2, d3] => { results := [.lit (.bool true)], args := [d1, d2, d3] }
  | _ => none }
def fnExactStretchIntervalsRow : OpenClaim := { program := "ytonphneolkijcaa", sum := "2c5f5a9aa1a77919397ab2fa545145b5b4b9f68edcf535b696523462af17f5cc", func := "loop.example/g01106/laws.FnExactStretchIntervals", spec := "fnExactStretchIntervals", unfollowed := true, recurses := true, apart := false }
def FnExactStretchIntervalsSaid : Prop := fnExactStretchIntervalsRow.holds Try.pinned (OpenSpec.ofChange fnExactStretchIntervalsSpec)

/-- ITS FALSE NEIGHBOUR: 'it returns false'. Refute it at one input. -/
def fnExactStretchIntervalsWrong : ChangeSpec := { name := "fnExactStretchIntervals", fn := fun _ => fun
  | [d1, d2, d3] => { results := [.lit (.bool false)], args := [d1, d2, d3] }
  | _ => none }
def FnExactStretchIntervalsWrongFalsely : Prop := fnExactStretchIntervalsRow.holds Try.pinned (OpenSpec.ofChange fnExactStretchIntervalsWrong)

/-- 'laws.FnExactIsPlaces': WHATEVER THE INPUT: true; the input reads as it did. -/
def fnExactIsPlacesSpec : ChangeSpec := { name := "fnExactIsPlaces", fn := fun _ => fun
  | [d1, d2, d3] => { results := [.lit (.bool true)], args := [d1, d2, d3] }
  | _ => none }
def fnExactIsPlacesRow : OpenClaim := { program := "ytonphneolkijcaa", sum := "2c5f5a9aa1a77919397ab2fa545145b5b4b9f68edcf535b696523462af17f5cc", func := "loop.example/g01106/laws.FnExactIsPlaces", spec := "fnExactIsPlaces", unfollowed := true, recurses := true, apart := false }
def FnExactIsPlacesSaid : Prop := fnExactIsPlacesRow.holds Try.pinned (OpenSpec.ofChange fnExactIsPlacesSpec)

/-- ITS FALSE NEIGHBOUR: 'it returns false'. Refute it at one input. -/
def fnExactIsPlacesWrong : ChangeSpec := { name := "fnExactIsPlaces", fn := fun _ => fun
  | [d1, d2, d3] => { results := [.lit (.bool false)], args := [d1, d2, d3] }
  | _ => none }
def FnExactIsPlacesWrongFalsely : Prop := fnExactIsPlacesRow.holds Try.pinned (OpenSpec.ofChange fnExactIsPlacesWrong)

/-- 'laws.FnExactLeastPlaces': WHATEVER THE INPUT: true; the input reads as it did. -/
def fnExactLeastPlacesSpec : ChangeSpec := { name := "fnExactLeastPlaces", fn := fun _ => fun
  | [d1, d2] => { results := [.lit (.bool true)], args := [d1, d2] }
  | _ => none }
def fnExactLeastPlacesRow : OpenClaim := { program := "ytonphneolkijcaa", sum := "2c5f5a9aa1a77919397ab2fa545145b5b4b9f68edcf535b696523462af17f5cc", func := "loop.example/g01106/laws.FnExactLeastPlaces", spec := "fnExactLeastPlaces", unfollowed := true, recurses := true, apart := false }
def FnExactLeastPlacesSaid : Prop := fnExactLeastPlacesRow.holds Try.pinned (OpenSpec.ofChange fnExactLeastPlacesSpec)

/-- ITS FALSE NEIGHBOUR: 'it returns false'. Refute it at one input. -/
def fnExactLeastPlacesWrong : ChangeSpec := { name := "fnExactLeastPlaces", fn := fun _ => fun
  | [d1, d2] => { results := [.lit (.bool false)], args := [d1, d2] }
  | _ => none }
def FnExactLeastPlacesWrongFalsely : Prop := fnExactLeastPlacesRow.holds Try.pinned (OpenSpec.ofChange fnExactLeastPlacesWrong)

/-- 'laws.FnExactIsDemandCycle': WHATEVER THE INPUT: true; the input reads as it did. -/
def fnExactIsDemandCycleSpec : ChangeSpec := { name := "fnExactIsDemandCycle", fn := fun _ => fun
  | [d1, d2, d3] => { results := [.lit (.bool true)], args := [d1, d2, d3] }
  | _ => none }
def fnExactIsDemandCycleRow : OpenClaim := { program := "ytonphneolkijcaa", sum := "2c5f5a9aa1a77919397ab2fa545145b5b4b9f68edcf535b696523462af17f5cc", func := "loop.example/g01106/laws.FnExactIsDemandCycle", spec := "fnExactIsDemandCycle", unfollowed := true, recurses := true, apart := false }
def FnExactIsDemandCycleSaid : Prop := fnExactIsDemandCycleRow.holds Try.pinned (OpenSpec.ofChange fnExactIsDemandCycleSpec)

/-- ITS FALSE NEIGHBOUR: 'it returns false'. Refute it at one input. -/
def fnExactIsDemandCycleWrong : ChangeSpec := { name := "fnExactIsDemandCycle", fn := fun _ => fun
  | [d1, d2, d3] => { results := [.lit (.bool false)], args := [d1, d2, d3] }
  | _ => none }
def FnExactIsDemandCycleWrongFalsely : Prop := fnExactIsDemandCycleRow.holds Try.pinned (OpenSpec.ofChange fnExactIsDemandCycleWrong)

/-- 'laws.FnExactLeastThreshold': WHATEVER THE INPUT: true; the input reads as it did. -/
def fnExactLeastThresholdSpec : ChangeSpec := { name := "fnExactLeastThreshold", fn := fun _ => fun
  | [d] => { results := [.lit (.bool true)], args := [d] }
  | _ => none }
def fnExactLeastThresholdRow : OpenClaim := { program := "ytonphneolkijcaa", sum := "2c5f5a9aa1a77919397ab2fa545145b5b4b9f68edcf535b696523462af17f5cc", func := "loop.example/g01106/laws.FnExactLeastThreshold", spec := "fnExactLeastThreshold", unfollowed := true, recurses := true, apart := false }
def FnExactLeastThresholdSaid : Prop := fnExactLeastThresholdRow.holds Try.pinned (OpenSpec.ofChange fnExactLeastThresholdSpec)

/-- ITS FALSE NEIGHBOUR: 'it returns false'. Refute it at one input. -/
def fnExactLeastThresholdWrong : ChangeSpec := { name := "fnExactLeastThreshold", fn := fun _ => fun
  | [d] => { results := [.lit (.bool false)], args := [d] }
  | _ => none }
def FnExactLeastThresholdWrongFalsely : Prop := fnExactLeastThresholdRow.holds Try.pinned (OpenSpec.ofChange fnExactLeastThresholdWrong)

/-- 'laws.FnExactSlackOf': WHATEVER THE INPUT: true; the input reads as it did. -/
def fnExactSlackOfSpec : ChangeSpec := { name := "fnExactSlackOf", fn := fun _ => fun
  | [d1, d2, d3] => { results := [.lit (.bool true)], args := [d1, d2, d3] }
  | _ => none }
def fnExactSlackOfRow : OpenClaim := { program := "ytonphneolkijcaa", sum := "2c5f5a9aa1a77919397ab2fa545145b5b4b9f68edcf535b696523462af17f5cc", func := "loop.example/g01106/laws.FnExactSlackOf", spec := "fnExactSlackOf", unfollowed := true, recurses := true, apart := false }
def FnExactSlackOfSaid : Prop := fnExactSlackOfRow.holds Try.pinned (OpenSpec.ofChange fnExactSlackOfSpec)

/-- ITS FALSE NEIGHBOUR: 'it returns false'. Refute it at one input. -/
def fnExactSlackOfWrong : ChangeSpec := { name := "fnExactSlackOf", fn := fun _ => fun
  | [d1, d2, d3] => { results := [.lit (.bool false)], args := [d1, d2, d3] }
  | _ => none }
def FnExactSlackOfWrongFalsely : Prop := fnExactSlackOfRow.holds Try.pinned (OpenSpec.ofChange fnExactSlackOfWrong)

/-- 'laws.FnExactDemandCycle': WHATEVER THE INPUT: true; the input reads as it did. -/
def fnExactDemandCycleSpec : ChangeSpec := { name := "fnExactDemandCycle", fn := fun _ => fun
  | [d1, d2] => { results := [.lit (.bool true)], args := [d1, d2] }
  | _ => none }
def fnExactDemandCycleRow : OpenClaim := { program := "ytonphneolkijcaa", sum := "2c5f5a9aa1a77919397ab2fa545145b5b4b9f68edcf535b696523462af17f5cc", func := "loop.example/g01106/laws.FnExactDemandCycle", spec := "fnExactDemandCycle", unfollowed := true, recurses := true, apart := false }
def FnExactDemandCycleSaid : Prop := fnExactDemandCycleRow.holds Try.pinned (OpenSpec.ofChange fnExactDemandCycleSpec)

/-- ITS FALSE NEIGHBOUR: 'it returns false'. Refute it at one input. -/
def fnExactDemandCycleWrong : ChangeSpec := { name := "fnExactDemandCycle", fn := fun _ => fun
  | [d1, d2] => { results := [.lit (.bool false)], args := [d1, d2] }
  | _ => none }
def FnExactDemandCycleWrongFalsely : Prop := fnExactDemandCycleRow.holds Try.pinned (OpenSpec.ofChange fnExactDemandCycleWrong)

/- THE SECOND FORM. 'bulk': how many values and letters a reading holds, each counted each time it is reached (what is shared counts as often as it is met; a slice's spare places count too). A statement '..UptoSaid' is the law's where the arguments, and the package variables that the reading takes, are together of bulk at most 1048576: NARROWER than '..Said'. Prove '..Said' where nothing that the law and all that it calls make is longer than what came in: it says more and counts as full. Else prove '..UptoSaid'. A law counts once. -/
mutual
def uptoBulk {H : Type} : DataW H → Nat
  | .lit (.string bytes) => bytes.length + 1
  | .lit _ => 1
  | .nil => 1
  | .ptr d => uptoBulk d + 1
  | .slice elems spare => uptoBulkAll elems + uptoBulkAll spare + 1
  | .agg parts => uptoBulkAll parts + 1
  | .iface _ d => uptoBulk d + 1
  | .map entries => uptoBulkEntries entries + 1
  | .held _ => 1
def uptoBulkAll {H : Type} : List (DataW H) → Nat
  | [] => 0
  | d :: r => uptoBulk d + uptoBulkAll r
def uptoBulkEntries {H : Type} : List (Lit × DataW H) → Nat
  | [] => 0
  | x :: r => uptoBulkEntry x + uptoBulkEntries r
def uptoBulkEntry {H : Type} : Lit × DataW H → Nat
  | (.string bytes, d) => bytes.length + uptoBulk d + 1
  | (_, d) => uptoBulk d + 1
 end
def uptoSmall : (H : Type) → List (DataW H) → Bool := fun _ ds => decide (uptoBulkAll ds ≤ 1048576)
def OpenSpec.upto (s : _root_.Go.ChangeSpec) : _root_.Go.OpenSpec := { _root_.Go.OpenSpec.ofChange s with cond := some uptoSmall }

/-- 'laws.FnExactDoRepresent', WHERE WHAT IT READS IS OF BULK AT MOST 1048576: true; the input reads as it did. -/
def fnExactDoRepresentUptoRow : OpenClaim := { program := "ytonphneolkijcaa", sum := "2c5f5a9aa1a77919397ab2fa545145b5b4b9f68edcf535b696523462af17f5cc", func := "loop.example/g01106/laws.FnExactDoRepresent", spec := "fnExactDoRepresent", unfollowed := true, recurses := true, apart := false, narrowed := true }
def FnExactDoRepresentUptoSaid : Prop := fnExactDoRepresentUptoRow.holds Try.pinned (OpenSpec.upto fnExactDoRepresentSpec)

/-- 'laws.FnExactAreLeastEnds', WHERE WHAT IT READS IS OF BULK AT MOST 1048576: true; the input reads as it did. -/
def fnExactAreLeastEndsUptoRow : OpenClaim := { program := "ytonphneolkijcaa", sum := "2c5f5a9aa1a77919397ab2fa545145b5b4b9f68edcf535b696523462af17f5cc", func := "loop.example/g01106/laws.FnExactAreLeastEnds", spec := "fnExactAreLeastEnds", unfollowed := true, recurses := true, apart := false, narrowed := true }
def FnExactAreLeastEndsUptoSaid : Prop := fnExactAreLeastEndsUptoRow.holds Try.pinned (OpenSpec.upto fnExactAreLeastEndsSpec)

/-- 'laws.FnExactSetsAlong', WHERE WHAT IT READS IS OF BULK AT MOST 1048576: true; the input reads as it did. -/
def fnExactSetsAlongUptoRow : OpenClaim := { program := "ytonphneolkijcaa", sum := "2c5f5a9aa1a77919397ab2fa545145b5b4b9f68edcf535b696523462af17f5cc", func := "loop.example/g01106/laws.FnExactSetsAlong", spec := "fnExactSetsAlong", unfollowed := true, recurses := true, apart := false, narrowed := true }
def FnExactSetsAlongUptoSaid : Prop := fnExactSetsAlongUptoRow.holds Try.pinned (OpenSpec.upto fnExactSetsAlongSpec)

/-- 'laws.FnExactInsertInterval', WHERE WHAT IT READS IS OF BULK AT MOST 1048576: true; the input reads as it did. -/
def fnExactInsertIntervalUptoRow : OpenClaim := { program := "ytonphneolkijcaa", sum := "2c5f5a9aa1a77919397ab2fa545145b5b4b9f68edcf535b696523462af17f5cc", func := "loop.example/g01106/laws.FnExactInsertInterval", spec := "fnExactInsertInterval", unfollowed := true, recurses := true, apart := false, narrowed := true }
def FnExactInsertIntervalUptoSaid : Prop := fnExactInsertIntervalUptoRow.holds Try.pinned (OpenSpec.upto fnExactInsertIntervalSpec)

/-- 'laws.FnExactStretchIntervals', WHERE WHAT IT READS IS OF BULK AT MOST 1048576: true; the input reads as it did. -/
def fnExactStretchIntervalsUptoRow : OpenClaim := { program := "ytonphneolkijcaa", sum := "2c5f5a9aa1a77919397ab2fa545145b5b4b9f68edcf535b696523462af17f5cc", func := "loop.example/g01106/laws.FnExactStretchIntervals", spec := "fnExactStretchIntervals", unfollowed := true, recurses := true, apart := false, narrowed := true }
def FnExactStretchIntervalsUptoSaid : Prop := fnExactStretchIntervalsUptoRow.holds Try.pinned (OpenSpec.upto fnExactStretchIntervalsSpec)

/-- 'laws.FnExactIsPlaces', WHERE WHAT IT READS IS OF BULK AT MOST 1048576: true; the input reads as it did. -/
def fnExactIsPlacesUptoRow : OpenClaim := { program := "ytonphneolkijcaa", sum := "2c5f5a9aa1a77919397ab2fa545145b5b4b9f68edcf535b696523462af17f5cc", func := "loop.example/g01106/laws.FnExactIsPlaces", spec := "fnExactIsPlaces", unfollowed := true, recurses := true, apart := false, narrowed := true }
def FnExactIsPlacesUptoSaid : Prop := fnExactIsPlacesUptoRow.holds Try.pinned (OpenSpec.upto fnExactIsPlacesSpec)

/-- 'laws.FnExactLeastPlaces', WHERE WHAT IT READS IS OF BULK AT MOST 1048576: true; the input reads as it did. -/
def fnExactLeastPlacesUptoRow : OpenClaim := { program := "ytonphneolkijcaa", sum := "2c5f5a9aa1a77919397ab2fa545145b5b4b9f68edcf535b696523462af17f5cc", func := "loop.example/g01106/laws.FnExactLeastPlaces", spec := "fnExactLeastPlaces", unfollowed := true, recurses := true, apart := false, narrowed := true }
def FnExactLeastPlacesUptoSaid : Prop := fnExactLeastPlacesUptoRow.holds Try.pinned (OpenSpec.upto fnExactLeastPlacesSpec)

/-- 'laws.FnExactIsDemandCycle', WHERE WHAT IT READS IS OF BULK AT MOST 1048576: true; the input reads as it did. -/
def fnExactIsDemandCycleUptoRow : OpenClaim := { program := "ytonphneolkijcaa", sum := "2c5f5a9aa1a77919397ab2fa545145b5b4b9f68edcf535b696523462af17f5cc", func := "loop.example/g01106/laws.FnExactIsDemandCycle", spec := "fnExactIsDemandCycle", unfollowed := true, recurses := true, apart := false, narrowed := true }
def FnExactIsDemandCycleUptoSaid : Prop := fnExactIsDemandCycleUptoRow.holds Try.pinned (OpenSpec.upto fnExactIsDemandCycleSpec)

/-- 'laws.FnExactLeastThreshold', WHERE WHAT IT READS IS OF BULK AT MOST 1048576: true; the input reads as it did. -/
def fnExactLeastThresholdUptoRow : OpenClaim := { program := "ytonphneolkijcaa", sum := "2c5f5a9aa1a77919397ab2fa545145b5b4b9f68edcf535b696523462af17f5cc", func := "loop.example/g01106/laws.FnExactLeastThreshold", spec := "fnExactLeastThreshold", unfollowed := true, recurses := true, apart := false, narrowed := true }
def FnExactLeastThresholdUptoSaid : Prop := fnExactLeastThresholdUptoRow.holds Try.pinned (OpenSpec.upto fnExactLeastThresholdSpec)

/-- 'laws.FnExactSlackOf', WHERE WHAT IT READS IS OF BULK AT MOST 1048576: true; the input reads as it did. -/
def fnExactSlackOfUptoRow : OpenClaim := { program := "ytonphneolkijcaa", sum := "2c5f5a9aa1a77919397ab2fa545145b5b4b9f68edcf535b696523462af17f5cc", func := "loop.example/g01106/laws.FnExactSlackOf", spec := "fnExactSlackOf", unfollowed := true, recurses := true, apart := false, narrowed := true }
def FnExactSlackOfUptoSaid : Prop := fnExactSlackOfUptoRow.holds Try.pinned (OpenSpec.upto fnExactSlackOfSpec)

/-- 'laws.FnExactDemandCycle', WHERE WHAT IT READS IS OF BULK AT MOST 1048576: true; the input reads as it did. -/
def fnExactDemandCycleUptoRow : OpenClaim := { program := "ytonphneolkijcaa", sum := "2c5f5a9aa1a77919397ab2fa545145b5b4b9f68edcf535b696523462af17f5cc", func := "loop.example/g01106/laws.FnExactDemandCycle", spec := "fnExactDemandCycle", unfollowed := true, recurses := true, apart := false, narrowed := true }
def FnExactDemandCycleUptoSaid : Prop := fnExactDemandCycleUptoRow.holds Try.pinned (OpenSpec.upto fnExactDemandCycleSpec)

end Rows
end Go.Proofs.Ytonphneolkijcaa
