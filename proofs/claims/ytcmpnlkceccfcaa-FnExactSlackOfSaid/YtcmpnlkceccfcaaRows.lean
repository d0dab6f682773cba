/-
  No cell of these rows narrows 'for every input' (looked for: loops, veiled, ifaces, maps, wideKeys, modest, calm, conditions, laid).
  DERIVED. THE GIVEN ROWS OF THIS SEAT. 9 by the template 'for every input the law returns true; each argument reads behind the call as it read before'; 0 by the template 'total and deterministic' (their statements: YtcmpnlkceccfcaaTotals.lean).
  GIVEN WITH THE SEED: the statements are not yours to turn. If you find one false, say at which input.
  Laid BY PROGRAM, IN A SANDBOX (cutbox-rows.mjs): the forced cells as the released guide's own fill.sh prints them over the translation cfa2bfe26e0d2843… (all of the seat's roots in one cut). By AI agents, Wed Nov 11 2026. No macro, syntax, notation, axiom, sorry.
-/
import Derived.Test.YtcmpnlkceccfcaaChecked
import GoSem.Claim
import GoSem.ClaimJoined
import GoSem.ClaimMapViews
import Derived.JoinedTies
import Derived.KernelRfl
namespace Go.Proofs.Ytcmpnlkceccfcaa
/- THE CELL 'sum', in the pinned program and in every row, IS THE sha256 OF THE DUMP (.gsa) THAT YtcmpnlkceccfcaaProg.lean LOADS. Nothing in Lean hashes anything: it is a label: what it is worth is what the hold of that sum in a sandbox is worth. -/
noncomputable def Try.pinned : Pinned := { name := "ytcmpnlkceccfcaa", sum := "cfa2bfe26e0d284355e2ce8a15bd8458848b33daad43764bc52d2fbecb06b5f9", checked := Try.checked }
namespace Rows
def none {H : Type} : Left H := { results := [], args := [] }

/-- 'laws.FnExactLeastPlaces': WHATEVER THE INPUT: true; the input reads as it did. -/
def fnExactLeastPlacesSpec : ChangeSpec := { name := "fnExactLeastPlaces", fn := fun _ => fun
  | [d1, d2] => { results := [.lit (.bool true)], args := [d1, d2] }
  | _ => none }
def fnExactLeastPlacesRow : OpenClaim := { program := "ytcmpnlkceccfcaa", sum := "cfa2bfe26e0d284355e2ce8a15bd8458848b33daad43764bc52d2fbecb06b5f9", func := "loop.example/g01106/laws.FnExactLeastPlaces", spec := "fnExactLeastPlaces", unfollowed := true, recurses := true, apart := false }
def FnExactLeastPlacesSaid : Prop := fnExactLeastPlacesRow.holds Try.pinned (OpenSpec.ofChange fnExactLeastPlacesSpec)

/-- ITS FALSE NEIGHBOUR: 'it returns false'. Refute it at one input. -/
def fnExactLeastPlacesWrong : ChangeSpec := { name := "fnExactLeastPlaces", fn := fun _ => fun
  | [d1, d2] => { results := [.lit (.bool false)], args := [d1, d2] }
  | _ => none }
def FnExactLeastPlacesWrongFalsely : Prop := fnExactLeastPlacesRow.holds Try.pinned (OpenSpec.ofChange fnExactLeastPlacesWrong)

/-- 'laws.FnExactDemandCycle': WHATEVER THE INPUT: true; the input reads as it did. -/
def fnExactDemandCycleSpec : ChangeSpec := { name := "fnExactDemandCycle", fn := fun _ => fun
  | [d1, d2] => { results := [.lit (.bool true)], args := [d1, d2] }
  | _ => none }
def fnExactDemandCycleRow : OpenClaim := { program := "ytcmpnlkceccfcaa", sum := "cfa2bfe26e0d284355e2ce8a15bd8458848b33daad43764bc52d2fbecb06b5f9", func := "loop.example/g01106/laws.FnExactDemandCycle", spec := "fnExactDemandCycle", unfollowed := true, recurses := true, apart := false }
def FnExactDemandCycleSaid : Prop := fnExactDemandCycleRow.holds Try.pinned (OpenSpec.ofChange fnExactDemandCycleSpec)

/-- ITS FALSE NEIGHBOUR: 'it returns false'. Refute it at one input. -/
def fnExactDemandCycleWrong : ChangeSpec := { name := "fnExactDemandCycle", fn := fun _ => fun
  | [d1, d2] => { results := [.lit (.bool false)], args := [d1, d2] }
  | _ => none }
def FnExactDemandCycleWrongFalsely : Prop := fnExactDemandCycleRow.holds Try.pinned (OpenSpec.ofChange fnExactDemandCycleWrong)

/-- 'laws.FnExactIsDemandCycle': WHATEVER THE INPUT: true; the input reads as it did. -/
def fnExactIsDemandCycleSpec : ChangeSpec := { name := "fnExactIsDemandCycle", fn := fun _ => fun
  | [d1, d2, d3] => { results := [.lit (.bool true)], args := [d1, d2, d3] }
  | _ => none }
def fnExactIsDemandCycleRow : OpenClaim := { program := "ytcmpnlkceccfcaa", sum := "cfa2bfe26e0d284355e2ce8a15bd8458848b33daad43764bc52d2fbecb06b5f9", func := "loop.example/g01106/laws.FnExactIsDemandCycle", spec := "fnExactIsDemandCycle", unfollowed := true, recurses := true, apart := false }
def FnExactIsDemandCycleSaid : Prop := fnExactIsDemandCycleRow.holds Try.pinned (OpenSpec.ofChange fnExactIsDemandCycleSpec)

/-- ITS FALSE NEIGHBOUR: 'it returns false'. Refute it at one input. -/
def fnExactIsDemandCycleWrong : ChangeSpec := { name := "fnExactIsDemandCycle", fn := fun _ => fun
  | [d1, d2, d3] => { results := [.lit (.bool false)], args := [d1, d2, d3] }
  | _ => none }
def FnExactIsDemandCycleWrongFalsely : Prop := fnExactIsDemandCycleRow.holds Try.pinned (OpenSpec.ofChange fnExactIsDemandCycleWrong)

/-- 'laws.FnExactLeastThreshold': WHATEVER THE INPUT: true; the input reads as it did. -/
def fnExactLeastThresholdSpec : ChangeSpec := { name := "fnExactLeastThreshold", fn := fun _ => fun
  | [d] => { results := [.lit (.bool true)], args := [d] }
  | _ => none }
def fnExactLeastThresholdRow : OpenClaim := { program := "ytcmpnlkceccfcaa", sum := "cfa2bfe26e0d284355e2ce8a15bd8458848b33daad43764bc52d2fbecb06b5f9", func := "loop.example/g01106/laws.FnExactLeastThreshold", spec := "fnExactLeastThreshold", unfollowed := true, recurses := true, apart := false }
def FnExactLeastThresholdSaid : Prop := fnExactLeastThresholdRow.holds Try.pinned (OpenSpec.ofChange fnExactLeastThresholdSpec)

/-- ITS FALSE NEIGHBOUR: 'it returns false'. Refute it at one input. -/
def fnExactLeastThresholdWrong : ChangeSpec := { name := "fnExactLeastThreshold", fn := fun _ => fun
  | [d] => { results := [.lit (.bool false)], args := [d] }
  | _ => none }
def FnExactLeastThresholdWrongFalsely : Prop := fnExactLeastThresholdRow.holds Try.pinned (OpenSpec.ofChange fnExactLeastThresholdWrong)

/-- 'laws.FnExactSlackOf': WHATEVER THE INPUT: true; the input reads as it did. -/
def fnExactSlackOfSpec : ChangeSpec := { name := "fnExactSlackOf", fn := fun _ => fun
  | [d1, d2, d3] => { results := [.lit (.bool true)], args := [d1, d2, d3] }
  | _ => none }
def fnExactSlackOfRow : OpenClaim := { program := "ytcmpnlkceccfcaa", sum := "cfa2bfe26e0d284355e2ce8a15bd8458848b33daad43764bc52d2fbecb06b5f9", func := "loop.example/g01106/laws.FnExactSlackOf", spec := "fnExactSlackOf", unfollowed := true, recurses := true, apart := false }
def FnExactSlackOfSaid : Prop := fnExactSlackOfRow.holds Try.pinned (OpenSpec.ofChange fnExactSlackOfSpec)

/-- ITS FALSE NEIGHBOUR: 'it returns false'. Refute it at one input. -/
def fnExactSlackOfWrong : ChangeSpec := { name := "fnExactSlackOf", fn := fun _ => fun
  | [d1, d2, d3] => { results := [.lit (.bool false)], args := [d1, d2, d3] }
  | _ => none }
def FnExactSlackOfWrongFalsely : Prop := fnExactSlackOfRow.holds Try.pinned (OpenSpec.ofChange fnExactSlackOfWrong)

/-- 'laws.FnExactStairsOf': WHATEVER THE INPUT: true; the input reads as it did. -/
def fnExactStairsOfSpec : ChangeSpec := { name := "fnExactStairsOf", fn := fun _ => fun
  | [d] => { results := [.lit (.bool true)], args := [d] }
  | _ => none }
def fnExactStairsOfRow : OpenClaim := { program := "ytcmpnlkceccfcaa", sum := "cfa2bfe26e0d284355e2ce8a15bd8458848b33daad43764bc52d2fbecb06b5f9", func := "loop.example/g01106/laws.FnExactStairsOf", spec := "fnExactStairsOf", recurses := true, apart := false }
def FnExactStairsOfSaid : Prop := fnExactStairsOfRow.holds Try.pinned (OpenSpec.ofChange fnExactStairsOfSpec)

/-- ITS FALSE NEIGHBOUR: 'it returns false'. Refute it at one input. -/
def fnExactStairsOfWrong : ChangeSpec := { name := "fnExactStairsOf", fn := fun _ => fun
  | [d] => { results := [.lit (.bool false)], args := [d] }
  | _ => none }
def FnExactStairsOfWrongFalsely : Prop := fnExactStairsOfRow.holds Try.pinned (OpenSpec.ofChange fnExactStairsOfWrong)

/-- 'laws.FnExactChainNumbers': WHATEVER THE INPUT: true; the input reads as it did. -/
def fnExactChainNumbersSpec : ChangeSpec := { name := "fnExactChainNumbers", fn := fun _ => fun
  | [d] => { results := [.lit (.bool true)], args := [d] }
  | _ => none }
def fnExactChainNumbersRow : OpenClaim := { program := "ytcmpnlkceccfcaa", sum := "cfa2bfe26e0d284355e2ce8a15bd8458848b33daad43764bc52d2fbecb06b5f9", func := "loop.example/g01106/laws.FnExactChainNumbers", spec := "fnExactChainNumbers", recurses := true, apart := false }
def FnExactChainNumbersSaid : Prop := fnExactChainNumbersRow.holds Try.pinned (OpenSpec.ofChange fnExactChainNumbersSpec)

/-- ITS FALSE NEIGHBOUR: 'it returns false'. Refute it at one input. -/
def fnExactChainNumbersWrong : ChangeSpec := { name := "fnExactChainNumbers", fn := fun _ => fun
  | [d] => { results := [.lit (.bool false)], args := [d] }
  | _ => none }
def FnExactChainNumbersWrongFalsely : Prop := fnExactChainNumbersRow.holds Try.pinned (OpenSpec.ofChange fnExactChainNumbersWrong)

/-- 'laws.FnExactFindPattern': WHATEVER THE INPUT: true; the input reads as it did. -/
def fnExactFindPatternSpec : ChangeSpec := { name := "fnExactFindPattern", fn := fun _ => fun
  | [d1, d2] => { results := [.lit (.bool true)], args := [d1, d2] }
  | _ => none }
def fnExactFindPatternRow : OpenClaim := { program := "ytcmpnlkceccfcaa", sum := "cfa2bfe26e0d284355e2ce8a15bd8458848b33daad43764bc52d2fbecb06b5f9", func := "loop.example/g01106/laws.FnExactFindPattern", spec := "fnExactFindPattern", recurses := true, apart := false }
def FnExactFindPatternSaid : Prop := fnExactFindPatternRow.holds Try.pinned (OpenSpec.ofChange fnExactFindPatternSpec)

/-- ITS FALSE NEIGHBOUR: 'it returns false'. Refute it at one input. -/
def fnExactFindPatternWrong : ChangeSpec := { name := "fnExactFindPattern", fn := fun _ => fun
  | [d1, d2] => { results := [.lit (.bool false)], args := [d1, d2] }
  | _ => none }
def FnExactFindPatternWrongFalsely : Prop := fnExactFindPatternRow.holds Try.pinned (OpenSpec.ofChange fnExactFindPatternWrong)

/-- 'laws.FnExactIsSameKind': WHATEVER THE INPUT: true; the input reads as it did. -/
def fnExactIsSameKindSpec : ChangeSpec := { name := "fnExactIsSameKind", fn := fun _ => fun
  | [d1, d2] => { results := [.lit (.bool true)], args := [d1, d2] }
  | _ => none }
def fnExactIsSameKindRow : OpenClaim := { program := "ytcmpnlkceccfcaa", sum := "cfa2bfe26e0d284355e2ce8a15bd8458848b33daad43764bc52d2fbecb06b5f9", func := "loop.example/g01106/laws.FnExactIsSameKind", spec := "fnExactIsSameKind", recurses := true, apart := false }
def FnExactIsSameKindSaid : Prop := fnExactIsSameKindRow.holds Try.pinned (OpenSpec.ofChange fnExactIsSameKindSpec)

/-- ITS FALSE NEIGHBOUR: 'it returns false'. Refute it at one input. -/
def fnExactIsSameKindWrong : ChangeSpec := { name := "fnExactIsSameKind", fn := fun _ => fun
  | [d1, d2] => { results := [.lit (.bool false)], args := [d1, d2] }
  | _ => none }
def FnExactIsSameKindWrongFalsely : Prop := fnExactIsSameKindRow.holds Try.pinned (OpenSpec.ofChange fnExactIsSameKindWrong)

/- THE SECOND FORM. 'bulk': how many values and letters a reading holds, each counted each time it is reached (what is shared counts as often as it is met; a slice's spare places count too). A statement '..UptoSaid' is the law's where the arguments, and the package variables that the reading takes, are together of bulk at most 1048576: NARROWER than '..Said'. Prove '..Said' where nothing that the law and all that it calls make is longer than what came in: it says more and counts as full. Else prove '..UptoSaid'. A law counts once. -/
mutual
def uptoBulk {H : Type} : DataW H → Nat
  | .lit (.string bytes) => bytes.length + 1
  | .lit _ => 1
  | .nil => 1
  | .ptr d => uptoBulk d + 1
  | .slice elems spare => uptoBulkAll elems + uptoBulkAll spare + 1
  | .agg parts => uptoBulkAll parts + 1
  | .iface _ d => uptoBulk d + 1
  | .map entries => uptoBulkEntries entries + 1
  | .held _ => 1
def uptoBulkAll {H : Type} : List (DataW H) → Nat
  | [] => 0
  | d :: r => uptoBulk d + uptoBulkAll r
def uptoBulkEntries {H : Type} : List (Lit × DataW H) → Nat
  | [] => 0
  | x :: r => uptoBulkEntry x + uptoBulkEntries r
def uptoBulkEntry {H : Type} : Lit × DataW H → Nat
  | (.string bytes, d) => bytes.length + uptoBulk d + 1
  | (_, d) => uptoBulk d + 1
 end
def uptoSmall : (H : Type) → List (DataW H) → Bool := fun _ ds => decide (uptoBulkAll ds ≤ 1048576)
def OpenSpec.upto (s : _root_.Go.ChangeSpec) : _root_.Go.OpenSpec := { _root_.Go.OpenSpec.ofChange s with cond := some uptoSmall }

/-- 'laws.FnExactLeastPlaces', WHERE WHAT IT READS IS OF BULK AT MOST 1048576: true; the input reads as it did. -/
def fnExactLeastPlacesUptoRow : OpenClaim := { program := "ytcmpnlkceccfcaa", sum := "cfa2bfe26e0d284355e2ce8a15bd8458848b33daad43764bc52d2fbecb06b5f9", func := "loop.example/g01106/laws.FnExactLeastPlaces", spec := "fnExactLeastPlaces", unfollowed := true, recurses := true, apart := false, narrowed := true }
def FnExactLeastPlacesUptoSaid : Prop := fnExactLeastPlacesUptoRow.holds Try.pinned (OpenSpec.upto fnExactLeastPlacesSpec)

/-- 'laws.FnExactDemandCycle', WHERE WHAT IT READS IS OF BULK AT MOST 1048576: true; the input reads as it did. -/
def fnExactDemandCycleUptoRow : OpenClaim := { program := "ytcmpnlkceccfcaa", sum := "cfa2bfe26e0d284355e2ce8a15bd8458848b33daad43764bc52d2fbecb06b5f9", func := "loop.example/g01106/laws.FnExactDemandCycle", spec := "fnExactDemandCycle", unfollowed := true, recurses := true, apart := false, narrowed := true }
def FnExactDemandCycleUptoSaid : Prop := fnExactDemandCycleUptoRow.holds Try.pinned (OpenSpec.upto fnExactDemandCycleSpec)

/-- 'laws.FnExactIsDemandCycle', WHERE WHAT IT READS IS OF BULK AT MOST 1048576: true; the input reads as it did. -/
def fnExactIsDemandCycleUptoRow : OpenClaim := { program := "ytcmpnlkceccfcaa", sum := "cfa2bfe26e0d284355e2ce8a15bd8458848b33daad43764bc52d2fbecb06b5f9", func := "loop.example/g01106/laws.FnExactIsDemandCycle", spec := "fnExactIsDemandCycle", unfollowed := true, recurses := true, apart := false, narrowed := true }
def FnExactIsDemandCycleUptoSaid : Prop := fnExactIsDemandCycleUptoRow.holds Try.pinned (OpenSpec.upto fnExactIsDemandCycleSpec)

/-- 'laws.FnExactLeastThreshold', WHERE WHAT IT READS IS OF BULK AT MOST 1048576: true; the input reads as it did. -/
def fnExactLeastThresholdUptoRow : OpenClaim := { program := "ytcmpnlkceccfcaa", sum := "cfa2bfe26e0d284355e2ce8a15bd8458848b33daad43764bc52d2fbecb06b5f9", func := "loop.example/g01106/laws.FnExactLeastThreshold", spec := "fnExactLeastThreshold", unfollowed := true, recurses := true, apart := false, narrowed := true }
def FnExactLeastThresholdUptoSaid : Prop := fnExactLeastThresholdUptoRow.holds Try.pinned (OpenSpec.upto fnExactLeastThresholdSpec)

/-- 'laws.FnExactSlackOf', WHERE WHAT IT READS IS OF BULK AT MOST 1048576: true; the input reads as it did. -/
def fnExactSlackOfUptoRow : OpenClaim := { program := "ytcmpnlkceccfcaa", sum := "cfa2bfe26e0d284355e2ce8a15bd8458848b33daad43764bc52d2fbecb06b5f9", func := "loop.example/g01106/laws.FnExactSlackOf", spec := "fnExactSlackOf", unfollowed := true, recurses := true, apart := false, narrowed := true }
def FnExactSlackOfUptoSaid : Prop := fnExactSlackOfUptoRow.holds Try.pinned (OpenSpec.upto fnExactSlackOfSpec)

/-- 'laws.FnExactStairsOf', WHERE WHAT IT READS IS OF BULK AT MOST 1048576: true; the input reads as it did. -/
def fnExactStairsOfUptoRow : OpenClaim := { program := "ytcmpnlkceccfcaa", sum := "cfa2bfe26e0d284355e2ce8a15bd8458848b33daad43764bc52d2fbecb06b5f9", func := "loop.example/g01106/laws.FnExactStairsOf", spec := "fnExactStairsOf", recurses := true, apart := false, narrowed := true }
def FnExactStairsOfUptoSaid : Prop := fnExactStairsOfUptoRow.holds Try.pinned (OpenSpec.upto fnExactStairsOfSpec)

/-- 'laws.FnExactChainNumbers', WHERE WHAT IT READS IS OF BULK AT MOST 1048576: true; the input reads as it did. -/
def fnExactChainNumbersUptoRow : OpenClaim := { program := "ytcmpnlkceccfcaa", sum := "cfa2bfe26e0d284355e2ce8a15bd8458848b33daad43764bc52d2fbecb06b5f9", func := "loop.example/g01106/laws.FnExactChainNumbers", spec := "fnExactChainNumbers", recurses := true, apart := false, narrowed := true }
def FnExactChainNumbersUptoSaid : Prop := fnExactChainNumbersUptoRow.holds Try.pinned (OpenSpec.upto fnExactChainNumbersSpec)

/-- 'laws.FnExactFindPattern', WHERE WHAT IT READS IS OF BULK AT MOST 1048576: true; the input reads as it did. -/
def fnExactFindPatternUptoRow : OpenClaim := { program := "ytcmpnlkceccfcaa", sum := "cfa2bfe26e0d284355e2ce8a15bd8458848b33daad43764bc52d2fbecb06b5f9", func := "loop.example/g01106/laws.FnExactFindPattern", spec := "fnExactFindPattern", recurses := true, apart := false, narrowed := true }
def FnExactFindPatternUptoSaid : Prop := fnExactFindPatternUptoRow.holds Try.pinned (OpenSpec.upto fnExactFindPatternSpec)

/-- 'laws.FnExactIsSameKind', WHERE WHAT IT READS IS OF BULK AT MOST 1048576: true; the input reads as it did. -/
def fnExactIsSameKindUptoRow : OpenClaim := { program := "ytcmpnlkceccfcaa", sum := "cfa2bfe26e0d284355e2ce8a15bd8458848b33daad43764bc52d2fbecb06b5f9", func := "loop.example/g01106/laws.FnExactIsSameKind", spec := "fnExactIsSameKind", recurses := true, apart := false, narrowed := true }
def FnExactIsSameKindUptoSaid : Prop := fnExactIsSameKindUptoRow.holds Try.pinned (OpenSpec.upto fnExactIsSameKindSpec)

end Rows
end Go.Proofs.Ytcmpnlkceccfcaa
