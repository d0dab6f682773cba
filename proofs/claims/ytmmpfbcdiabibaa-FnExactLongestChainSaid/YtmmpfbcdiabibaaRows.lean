/-
  No cell of these rows narrows 'for every input' (looked for: loops, veiled, ifaces, maps, wideKeys, modest, calm, conditions, laid).
  DERIVED. THE GIVEN ROWS OF THIS SEAT. 8 by the template 'for every input the law returns true; each argument reads behind the call as it read before'; 0 by the template 'total and deterministic' (their statements: YtmmpfbcdiabibaaTotals.lean).
  GIVEN WITH THE SEED: the statements are not yours to turn. If you find one false, say at which input.
  Laid BY PROGRAM, IN A SANDBOX (cutbox-rows.mjs): the forced cells as the released guide's own fill.sh prints them over the translation 115cef6fcadbffdd… (all of the seat's roots in one cut). By AI agents, Wed Nov 11 2026. No macro, syntax, notation, axiom, sorry.
-/
import Derived.Test.YtmmpfbcdiabibaaChecked
import GoSem.Claim
import GoSem.ClaimJoined
import GoSem.ClaimMapViews
import Derived.JoinedTies
import Derived.KernelRfl
namespace Go.Proofs.Ytmmpfbcdiabibaa
/- THE CELL 'sum', in the pinned program and in every row, IS THE sha256 OF THE DUMP (.gsa) THAT YtmmpfbcdiabibaaProg.lean LOADS. Nothing in Lean hashes anything: it is a label: what it is worth is what the hold of that sum in a sandbox is worth. -/
noncomputable def Try.pinned : Pinned := { name := "ytmmpfbcdiabibaa", sum := "115cef6fcadbffdd1422ad99d6c0ef88db8849493b5a730cdd25f7b87c5c983d", checked := Try.checked }
namespace Rows
def none {H : Type} : Left H := { results := [], args := [] }

/-- 'laws.FnExactAreLeastEnds': WHATEVER THE INPUT: true; the input reads as it did. -/
def fnExactAreLeastEndsSpec : ChangeSpec := { name := "fnExactAreLeastEnds", fn := fun _ => fun
  | [d] => { results := [.lit (.bool true)], args := [d] }
  | _ => none }
def fnExactAreLeastEndsRow : OpenClaim := { program := "ytmmpfbcdiabibaa", sum := "115cef6fcadbffdd1422ad99d6c0ef88db8849493b5a730cdd25f7b87c5c983d", func := "loop.example/g01106/laws.FnExactAreLeastEnds", spec := "fnExactAreLeastEnds", unfollowed := true, recurses := true, apart := false }
def FnExactAreLeastEndsSaid : Prop := fnExactAreLeastEndsRow.holds Try.pinned (OpenSpec.ofChange fnExactAreLeastEndsSpec)

/-- ITS FALSE NEIGHBOUR: 'it returns false'. Refute it at one input. -/
def fnExactAreLeastEndsWrong : ChangeSpec := { name := "fnExactAreLeastEnds", fn := fun _ => fun
  | [d] => { results := [.lit (.bool false)], args := [d] }
  | _ => none }
def FnExactAreLeastEndsWrongFalsely : Prop := fnExactAreLeastEndsRow.holds Try.pinned (OpenSpec.ofChange fnExactAreLeastEndsWrong)

/-- 'laws.FnExactSetsAlong': WHATEVER THE INPUT: true; the input reads as it did. -/
def fnExactSetsAlongSpec : ChangeSpec := { name := "fnExactSetsAlong", fn := fun _ => fun
  | [d] => { results := [.lit (.bool true)], args := [d] }
  | _ => none }
def fnExactSetsAlongRow : OpenClaim := { program := "ytmmpfbcdiabibaa", sum := "115cef6fcadbffdd1422ad99d6c0ef88db8849493b5a730cdd25f7b87c5c983d", func := "loop.example/g01106/laws.FnExactSetsAlong", spec := "fnExactSetsAlong", unfollowed := true, recurses := true, apart := false }
def FnExactSetsAlongSaid : Prop := fnExactSetsAlongRow.holds Try.pinned (OpenSpec.ofChange fnExactSetsAlongSpec)

/-- ITS FALSE NEIGHBOUR: 'it returns false'. Refute it at one input. -/
def fnExactSetsAlongWrong : ChangeSpec := { name := "fnExactSetsAlong", fn := fun _ => fun
  | [d] => { results := [.lit (.bool false)], args := [d] }
  | _ => none }
def FnExactSetsAlongWrongFalsely : Prop := fnExactSetsAlongRow.holds Try.pinned (OpenSpec.ofChange fnExactSetsAlongWrong)

/-- 'laws.FnExactInsertInterval': WHATEVER THE INPUT: true; the input reads as it did. -/
def fnExactInsertIntervalSpec : ChangeSpec := { name := "fnExactInsertInterval", fn := fun _ => fun
  | [d1, d2] => { results := [.lit (.bool true)], args := [d1, d2] }
  | _ => none }
def fnExactInsertIntervalRow : OpenClaim := { program := "ytmmpfbcdiabibaa", sum := "115cef6fcadbffdd1422ad99d6c0ef88db8849493b5a730cdd25f7b87c5c983d", func := "loop.example/g01106/laws.FnExactInsertInterval", spec := "fnExactInsertInterval", unfollowed := true, recurses := true, apart := false }
def FnExactInsertIntervalSaid : Prop := fnExactInsertIntervalRow.holds Try.pinned (OpenSpec.ofChange fnExactInsertIntervalSpec)

/-- ITS FALSE NEIGHBOUR: 'it returns false'. Refute it at one input. -/
def fnExactInsertIntervalWrong : ChangeSpec := { name := "fnExactInsertInterval", fn := fun _ => fun
  | [d1, d2] => { results := [.lit (.bool false)], args := [d1, d2] }
  | _ => none }
def FnExactInsertIntervalWrongFalsely : Prop := fnExactInsertIntervalRow.holds Try.pinned (OpenSpec.ofChange fnExactInsertIntervalWrong)

/-- 'laws.FnExactLongestChain': WHATEVER THE INPUT: true; the input reads as it did. -/
def fnExactLongestChainSpec : ChangeSpec := { name := "fnExactLongestChain", fn := fun _ => fun
  | [d] => { results := [.lit (.bool true)], args := [d] }
  | _ => none }
def fnExactLongestChainRow : OpenClaim := { program := "ytmmpfbcdiabibaa", sum := "115cef6fcadbffdd1422ad99d6c0ef88db8849493b5a730cdd25f7b87c5c983d", func := "loop.example/g01106/laws.FnExactLongestChain", spec := "fnExactLongestChain", recurses := true, apart := false }
def FnExactLongestChainSaid : Prop := fnExactLongestChainRow.holds Try.pinned (OpenSpec.ofChange fnExactLongestChainSpec)

/-- ITS FALSE NEIGHBOUR: 'it returns false'. Refute it at one input. -/
def fnExactLongestChainWrong : ChangeSpec := { name := "fnExactLongestChain", fn := fun _ => fun
  | [d] => { results := [.lit (.bool false)], args := [d] }
  | _ => none }
def FnExactLongestChainWrongFalsely : Prop := fnExactLongestChainRow.holds Try.pinned (OpenSpec.ofChange fnExactLongestChainWrong)

/-- 'laws.FnExactLargestAntichain': WHATEVER THE INPUT: true; the input reads as it did. -/
def fnExactLargestAntichainSpec : ChangeSpec := { name := "fnExactLargestAntichain", fn := fun _ => fun
  | [d] => { results := [.lit (.bool true)], args := [d] }
  | _ => none }
def fnExactLargestAntichainRow : OpenClaim := { program := "ytmmpfbcdiabibaa", sum := "115cef6fcadbffdd1422ad99d6c0ef88db8849493b5a730cdd25f7b87c5c983d", func := "loop.example/g01106/laws.FnExactLargestAntichain", spec := "fnExactLargestAntichain", recurses := true, apart := false }
def FnExactLargestAntichainSaid : Prop := fnExactLargestAntichainRow.holds Try.pinned (OpenSpec.ofChange fnExactLargestAntichainSpec)

/-- ITS FALSE NEIGHBOUR: 'it returns false'. Refute it at one input. -/
def fnExactLargestAntichainWrong : ChangeSpec := { name := "fnExactLargestAntichain", fn := fun _ => fun
  | [d] => { results := [.lit (.bool false)], args := [d] }
  | _ => none }
def FnExactLargestAntichainWrongFalsely : Prop := fnExactLargestAntichainRow.holds Try.pinned (OpenSpec.ofChange fnExactLargestAntichainWrong)

/-- 'laws.FnExactFindPattern': WHATEVER THE INPUT: true; the input reads as it did. -/
def fnExactFindPatternSpec : ChangeSpec := { name := "fnExactFindPattern", fn := fun _ => fun
  | [d1, d2] => { results := [.lit (.bool true)], args := [d1, d2] }
  | _ => none }
def fnExactFindPatternRow : OpenClaim := { program := "ytmmpfbcdiabibaa", sum := "115cef6fcadbffdd1422ad99d6c0ef88db8849493b5a730cdd25f7b87c5c983d", func := "loop.example/g01106/laws.FnExactFindPattern", spec := "fnExactFindPattern", recurses := true, apart := false }
def FnExactFindPatternSaid : Prop := fnExactFindPatternRow.holds Try.pinned (OpenSpec.ofChange fnExactFindPatternSpec)

/-- ITS FALSE NEIGHBOUR: 'it returns false'. Refute it at one input. -/
def fnExactFindPatternWrong : ChangeSpec := { name := "fnExactFindPattern", fn := fun _ => fun
  | [d1, d2] => { results := [.lit (.bool false)], args := [d1, d2] }
  | _ => none }
def FnExactFindPatternWrongFalsely : Prop := fnExactFindPatternRow.holds Try.pinned (OpenSpec.ofChange fnExactFindPatternWrong)

/-- 'laws.FnExactIsSameKind': WHATEVER THE INPUT: true; the input reads as it did. -/
def fnExactIsSameKindSpec : ChangeSpec := { name := "fnExactIsSameKind", fn := fun _ => fun
  | [d1, d2] => { results := [.lit (.bool true)], args := [d1, d2] }
  | _ => none }
def fnExactIsSameKindRow : OpenClaim := { program := "ytmmpfbcdiabibaa", sum := "115cef6fcadbffdd1422ad99d6c0ef88db8849493b5a730cdd25f7b87c5c983d", func := "loop.example/g01106/laws.FnExactIsSameKind", spec := "fnExactIsSameKind", recurses := true, apart := false }
def FnExactIsSameKindSaid : Prop := fnExactIsSameKindRow.holds Try.pinned (OpenSpec.ofChange fnExactIsSameKindSpec)

/-- ITS FALSE NEIGHBOUR: 'it returns false'. Refute it at one input. -/
def fnExactIsSameKindWrong : ChangeSpec := { name := "fnExactIsSameKind", fn := fun _ => fun
  | [d1, d2] => { results := [.lit (.bool false)], args := [d1, d2] }
  | _ => none }
def FnExactIsSameKindWrongFalsely : Prop := fnExactIsSameKindRow.holds Try.pinned (OpenSpec.ofChange fnExactIsSameKindWrong)

/-- 'laws.FnExactChainNumbers': WHATEVER THE INPUT: true; the input reads as it did. -/
def fnExactChainNumbersSpec : ChangeSpec := { name := "fnExactChainNumbers", fn := fun _ => fun
  | [d] => { results := [.lit (.bool true)], args := [d] }
  | _ => none }
def fnExactChainNumbersRow : OpenClaim := { program := "ytmmpfbcdiabibaa", sum := "115cef6fcadbffdd1422ad99d6c0ef88db8849493b5a730cdd25f7b87c5c983d", func := "loop.example/g01106/laws.FnExactChainNumbers", spec := "fnExactChainNumbers", recurses := true, apart := false }
def FnExactChainNumbersSaid : Prop := fnExactChainNumbersRow.holds Try.pinned (OpenSpec.ofChange fnExactChainNumbersSpec)

/-- ITS FALSE NEIGHBOUR: 'it returns false'. Refute it at one input. -/
def fnExactChainNumbersWrong : ChangeSpec := { name := "fnExactChainNumbers", fn := fun _ => fun
  | [d] => { results := [.lit (.bool false)], args := [d] }
  | _ => none }
def FnExactChainNumbersWrongFalsely : Prop := fnExactChainNumbersRow.holds Try.pinned (OpenSpec.ofChange fnExactChainNumbersWrong)

/- THE SECOND FORM. 'bulk': how many values and letters a reading holds, each counted each time it is reached (what is shared counts as often as it is met; a slice's spare places count too). A statement '..UptoSaid' is the law's where the arguments, and the package variables that the reading takes, are together of bulk at most 1048576: NARROWER than '..Said'. Prove '..Said' where nothing that the law and all that it calls make is longer than what came in: it says more and counts as full. Else prove '..UptoSaid'. A law counts once. -/
mutual
def uptoBulk {H : Type} : DataW H → Nat
  | .lit (.string bytes) => bytes.length + 1
  | .lit _ => 1
  | .nil => 1
  | .ptr d => uptoBulk d + 1
  | .slice elems spare => uptoBulkAll elems + uptoBulkAll spare + 1
  | .agg parts => uptoBulkAll parts + 1
  | .iface _ d => uptoBulk d + 1
  | .map entries => uptoBulkEntries entries + 1
  | .held _ => 1
def uptoBulkAll {H : Type} : List (DataW H) → Nat
  | [] => 0
  | d :: r => uptoBulk d + uptoBulkAll r
def uptoBulkEntries {H : Type} : List (Lit × DataW H) → Nat
  | [] => 0
  | x :: r => uptoBulkEntry x + uptoBulkEntries r
def uptoBulkEntry {H : Type} : Lit × DataW H → Nat
  | (.string bytes, d) => bytes.length + uptoBulk d + 1
  | (_, d) => uptoBulk d + 1
 end
def uptoSmall : (H : Type) → List (DataW H) → Bool := fun _ ds => decide (uptoBulkAll ds ≤ 1048576)
def OpenSpec.upto (s : _root_.Go.ChangeSpec) : _root_.Go.OpenSpec := { _root_.Go.OpenSpec.ofChange s with cond := some uptoSmall }

/-- 'laws.FnExactAreLeastEnds', WHERE WHAT IT READS IS OF BULK AT MOST 1048576: true; the input reads as it did. -/
def fnExactAreLeastEndsUptoRow : OpenClaim := { program := "ytmmpfbcdiabibaa", sum := "115cef6fcadbffdd1422ad99d6c0ef88db8849493b5a730cdd25f7b87c5c983d", func := "loop.example/g01106/laws.FnExactAreLeastEnds", spec := "fnExactAreLeastEnds", unfollowed := true, recurses := true, apart := false, narrowed := true }
def FnExactAreLeastEndsUptoSaid : Prop := fnExactAreLeastEndsUptoRow.holds Try.pinned (OpenSpec.upto fnExactAreLeastEndsSpec)

/-- 'laws.FnExactSetsAlong', WHERE WHAT IT READS IS OF BULK AT MOST 1048576: true; the input reads as it did. -/
def fnExactSetsAlongUptoRow : OpenClaim := { program := "ytmmpfbcdiabibaa", sum := "115cef6fcadbffdd1422ad99d6c0ef88db8849493b5a730cdd25f7b87c5c983d", func := "loop.example/g01106/laws.FnExactSetsAlong", spec := "fnExactSetsAlong", unfollowed := true, recurses := true, apart := false, narrowed := true }
def FnExactSetsAlongUptoSaid : Prop := fnExactSetsAlongUptoRow.holds Try.pinned (OpenSpec.upto fnExactSetsAlongSpec)

/-- 'laws.FnExactInsertInterval', WHERE WHAT IT READS IS OF BULK AT MOST 1048576: true; the input reads as it did. -/
def fnExactInsertIntervalUptoRow : OpenClaim := { program := "ytmmpfbcdiabibaa", sum := "115cef6fcadbffdd1422ad99d6c0ef88db8849493b5a730cdd25f7b87c5c983d", func := "loop.example/g01106/laws.FnExactInsertInterval", spec := "fnExactInsertInterval", unfollowed := true, recurses := true, apart := false, narrowed := true }
def FnExactInsertIntervalUptoSaid : Prop := fnExactInsertIntervalUptoRow.holds Try.pinned (OpenSpec.upto fnExactInsertIntervalSpec)

/-- 'laws.FnExactLongestChain', WHERE WHAT IT READS IS OF BULK AT MOST 1048576: true; the input reads as it did. -/
def fnExactLongestChainUptoRow : OpenClaim := { program := "ytmmpfbcdiabibaa", sum := "115cef6fcadbffdd1422ad99d6c0ef88db8849493b5a730cdd25f7b87c5c983d", func := "loop.example/g01106/laws.FnExactLongestChain", spec := "fnExactLongestChain", recurses := true, apart := false, narrowed := true }
def FnExactLongestChainUptoSaid : Prop := fnExactLongestChainUptoRow.holds Try.pinned (OpenSpec.upto fnExactLongestChainSpec)

/-- 'laws.FnExactLargestAntichain', WHERE WHAT IT READS IS OF BULK AT MOST 1048576: true; the input reads as it did. -/
def fnExactLargestAntichainUptoRow : OpenClaim := { program := "ytmmpfbcdiabibaa", sum := "115cef6fcadbffdd1422ad99d6c0ef88db8849493b5a730cdd25f7b87c5c983d", func := "loop.example/g01106/laws.FnExactLargestAntichain", spec := "fnExactLargestAntichain", recurses := true, apart := false, narrowed := true }
def FnExactLargestAntichainUptoSaid : Prop := fnExactLargestAntichainUptoRow.holds Try.pinned (OpenSpec.upto fnExactLargestAntichainSpec)

/-- 'laws.FnExactFindPattern', WHERE WHAT IT READS IS OF BULK AT MOST 1048576: true; the input reads as it did. -/
def fnExactFindPatternUptoRow : OpenClaim := { program := "ytmmpfbcdiabibaa", sum := "115cef6fcadbffdd1422ad99d6c0ef88db8849493b5a730cdd25f7b87c5c983d", func := "loop.example/g01106/laws.FnExactFindPattern", spec := "fnExactFindPattern", recurses := true, apart := false, narrowed := true }
def FnExactFindPatternUptoSaid : Prop := fnExactFindPatternUptoRow.holds Try.pinned (OpenSpec.upto fnExactFindPatternSpec)

/-- 'laws.FnExactIsSameKind', WHERE WHAT IT READS IS OF BULK AT MOST 1048576: true; the input reads as it did. -/
def fnExactIsSameKindUptoRow : OpenClaim := { program := "ytmmpfbcdiabibaa", sum := "115cef6fcadbffdd1422ad99d6c0ef88db8849493b5a730cdd25f7b87c5c983d", func := "loop.example/g01106/laws.FnExactIsSameKind", spec := "fnExactIsSameKind", recurses := true, apart := false, narrowed := true }
def FnExactIsSameKindUptoSaid : Prop := fnExactIsSameKindUptoRow.holds Try.pinned (OpenSpec.upto fnExactIsSameKindSpec)

/-- 'laws.FnExactChainNumbers', WHERE WHAT IT READS IS OF BULK AT MOST 1048576: true; the input reads as it did. -/
def fnExactChainNumbersUptoRow : OpenClaim := { program := "ytmmpfbcdiabibaa", sum := "115cef6fcadbffdd1422ad99d6c0ef88db8849493b5a730cdd25f7b87c5c983d", func := "loop.example/g01106/laws.FnExactChainNumbers", spec := "fnExactChainNumbers", recurses := true, apart := false, narrowed := true }
def FnExactChainNumbersUptoSaid : Prop := fnExactChainNumbersUptoRow.holds Try.pinned (OpenSpec.upto fnExactChainNumbersSpec)

end Rows
end Go.Proofs.Ytmmpfbcdiabibaa
