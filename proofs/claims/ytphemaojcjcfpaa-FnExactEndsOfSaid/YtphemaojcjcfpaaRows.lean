/-
  No cell of these rows narrows 'for every input' (looked for: loops, veiled, ifaces, maps, wideKeys, modest, calm, conditions, laid).
  DERIVED. THE GIVEN ROWS OF THIS SEAT. 10 by the template 'for every input the law returns true; each argument reads behind the call as it read before'; 0 by the template 'total and deterministic' (their statements: YtphemaojcjcfpaaTotals.lean).
  GIVEN WITH THE SEED: the statements are not yours to turn. If you find one false, say at which input.
  Laid BY PROGRAM, IN A SANDBOX (cutbox-rows.mjs): the forced cells as the released guide's own fill.sh prints them over the translation 456f04f75be8d762… (all of the seat's roots in one cut). By AI agents, Wed Nov 11 2026. No macro, syntax, notation, axiom, sorry.
-/
import Derived.Test.YtphemaojcjcfpaaChecked
import GoSem.Claim
import GoSem.ClaimJoined
import GoSem.ClaimMapViews
import Derived.JoinedTies
import Derived.KernelRfl
namespace Go.Proofs.Ytphemaojcjcfpaa
/- THE CELL 'sum', in the pinned program and in every row, IS THE sha256 OF THE DUMP (.gsa) THAT YtphemaojcjcfpaaProg.lean LOADS. Nothing in Lean hashes anything: it is a label: what it is worth is what the hold of that sum in a sandbox is worth. -/
noncomputable def Try.pinned : Pinned := { name := "ytphemaojcjcfpaa", sum := "456f04f75be8d7623d7b4323df1e040cebf61147f4c00361a577fbaa8ec5f755", checked := Try.checked }
namespace Rows
def none {H : Type} : Left H := { results := [], args := [] }

/-- 'laws.FnExactStackOrders': WHATEVER THE INPUT: true; the input reads as it did. -/
def fnExactStackOrdersSpec : ChangeSpec := { name := "fnExactStackOrders", fn := fun _ => fun
  | [d1, d2] => { results := [.lit (.bool true)], args := [d1, d2] }
  | _ => none }
def fnExactStackOrdersRow : OpenClaim := { program := "ytphemaojcjcfpaa", sum := "456f04f75be8d7623d7b4323df1e040cebf61147f4c00361a577fbaa8ec5f755", func := "loop.example/g01106/laws.FnExactStackOrders", spec := "fnExactStackOrders", apart := false }
def FnExactStackOrdersSaid : Prop := fnExactStackOrdersRow.holds Try.pinned (OpenSpec.ofChange fnExactStackOrdersSpec)

/-- ITS FALSE NEIGHBOUR: 'it returns false'. Refute it at one input. -/
def fnExactStackOrdersWrong : ChangeSpec := { name := "fnExactStackOrders", fn := fun _ => fun
  | [d1, d2] => { results := [.lit (.bool false)], args := [d1, d2] }
  | _ => none }
def FnExactStackOrdersWrongFalsely : Prop := fnExactStackOrdersRow.holds Try.pinned (OpenSpec.ofChange fnExactStackOrdersWrong)

/-- 'laws.FnExactBesideOrders': WHATEVER THE INPUT: true; the input reads as it did. -/
def fnExactBesideOrdersSpec : ChangeSpec := { name := "fnExactBesideOrders", fn := fun _ => fun
  | [d1, d2] => { results := [.lit (.bool true)], args := [d1, d2] }
  | _ => none }
def fnExactBesideOrdersRow : OpenClaim := { program := "ytphemaojcjcfpaa", sum := "456f04f75be8d7623d7b4323df1e040cebf61147f4c00361a577fbaa8ec5f755", func := "loop.example/g01106/laws.FnExactBesideOrders", spec := "fnExactBesideOrders", apart := false }
def FnExactBesideOrdersSaid : Prop := fnExactBesideOrdersRow.holds Try.pinned (OpenSpec.ofChange fnExactBesideOrdersSpec)

/-- ITS FALSE NEIGHBOUR: 'it returns false'. Refute it at one input. -/
def fnExactBesideOrdersWrong : ChangeSpec := { name := "fnExactBesideOrders", fn := fun _ => fun
  | [d1, d2] => { results := [.lit (.bool false)], args := [d1, d2] }
  | _ => none }
def FnExactBesideOrdersWrongFalsely : Prop := fnExactBesideOrdersRow.holds Try.pinned (OpenSpec.ofChange fnExactBesideOrdersWrong)

/-- 'laws.FnExactLongestChain': WHATEVER THE INPUT: true; the input reads as it did. -/
def fnExactLongestChainSpec : ChangeSpec := { name := "fnExactLongestChain", fn := fun _ => fun
  | [d] => { results := [.lit (.bool true)], args := [d] }
  | _ => none }
def fnExactLongestChainRow : OpenClaim := { program := "ytphemaojcjcfpaa", sum := "456f04f75be8d7623d7b4323df1e040cebf61147f4c00361a577fbaa8ec5f755", func := "loop.example/g01106/laws.FnExactLongestChain", spec := "fnExactLongestChain", recurses := true, apart := false }
def FnExactLongestChainSaid : Prop := fnExactLongestChainRow.holds Try.pinned (OpenSpec.ofChange fnExactLongestChainSpec)

/-- ITS FALSE NEIGHBOUR: 'it returns false'. Refute it at one input. -/
def fnExactLongestChainWrong : ChangeSpec := { name := "fnExactLongestChain", fn := fun _ => fun
  | [d] => { results := [.lit (.bool false)], args := [d] }
  | _ => none }
def FnExactLongestChainWrongFalsely : Prop := fnExactLongestChainRow.holds Try.pinned (OpenSpec.ofChange fnExactLongestChainWrong)

/-- 'laws.FnExactLargestAntichain': WHATEVER THE INPUT: true; the input reads as it did. -/
def fnExactLargestAntichainSpec : ChangeSpec := { name := "fnExactLargestAntichain", fn := fun _ => fun
  | [d] => { results := [.lit (.bool true)], args := [d] }
  | _ => none }
def fnExactLargestAntichainRow : OpenClaim := { program := "ytphemaojcjcfpaa", sum := "456f04f75be8d7623d7b4323df1e040cebf61147f4c00361a577fbaa8ec5f755", func := "loop.example/g01106/laws.FnExactLargestAntichain", spec := "fnExactLargestAntichain", recurses := true, apart := false }
def FnExactLargestAntichainSaid : Prop := fnExactLargestAntichainRow.holds Try.pinned (OpenSpec.ofChange fnExactLargestAntichainSpec)

/-- ITS FALSE NEIGHBOUR: 'it returns false'. Refute it at one input. -/
def fnExactLargestAntichainWrong : ChangeSpec := { name := "fnExactLargestAntichain", fn := fun _ => fun
  | [d] => { results := [.lit (.bool false)], args := [d] }
  | _ => none }
def FnExactLargestAntichainWrongFalsely : Prop := fnExactLargestAntichainRow.holds Try.pinned (OpenSpec.ofChange fnExactLargestAntichainWrong)

/-- 'laws.FnExactOrderOfIntervals': WHATEVER THE INPUT: true; the input reads as it did. -/
def fnExactOrderOfIntervalsSpec : ChangeSpec := { name := "fnExactOrderOfIntervals", fn := fun _ => fun
  | [d] => { results := [.lit (.bool true)], args := [d] }
  | _ => none }
def fnExactOrderOfIntervalsRow : OpenClaim := { program := "ytphemaojcjcfpaa", sum := "456f04f75be8d7623d7b4323df1e040cebf61147f4c00361a577fbaa8ec5f755", func := "loop.example/g01106/laws.FnExactOrderOfIntervals", spec := "fnExactOrderOfIntervals", unfollowed := true, recurses := true, apart := false }
def FnExactOrderOfIntervalsSaid : Prop := fnExactOrderOfIntervalsRow.holds Try.pinned (OpenSpec.ofChange fnExactOrderOfIntervalsSpec)

/-- ITS FALSE NEIGHBOUR: 'it returns false'. Refute it at one input. -/
def fnExactOrderOfIntervalsWrong : ChangeSpec := { name := "fnExactOrderOfIntervals", fn := fun _ => fun
  | [d] => { results := [.lit (.bool false)], args := [d] }
  | _ => none }
def FnExactOrderOfIntervalsWrongFalsely : Prop := fnExactOrderOfIntervalsRow.holds Try.pinned (OpenSpec.ofChange fnExactOrderOfIntervalsWrong)

/-- 'laws.FnExactIsIntervalOrder': WHATEVER THE INPUT: true; the input reads as it did. -/
def fnExactIsIntervalOrderSpec : ChangeSpec := { name := "fnExactIsIntervalOrder", fn := fun _ => fun
  | [d] => { results := [.lit (.bool true)], args := [d] }
  | _ => none }
def fnExactIsIntervalOrderRow : OpenClaim := { program := "ytphemaojcjcfpaa", sum := "456f04f75be8d7623d7b4323df1e040cebf61147f4c00361a577fbaa8ec5f755", func := "loop.example/g01106/laws.FnExactIsIntervalOrder", spec := "fnExactIsIntervalOrder", apart := false }
def FnExactIsIntervalOrderSaid : Prop := fnExactIsIntervalOrderRow.holds Try.pinned (OpenSpec.ofChange fnExactIsIntervalOrderSpec)

/-- ITS FALSE NEIGHBOUR: 'it returns false'. Refute it at one input. -/
def fnExactIsIntervalOrderWrong : ChangeSpec := { name := "fnExactIsIntervalOrder", fn := fun _ => fun
  | [d] => { results := [.lit (.bool false)], args := [d] }
  | _ => none }
def FnExactIsIntervalOrderWrongFalsely : Prop := fnExactIsIntervalOrderRow.holds Try.pinned (OpenSpec.ofChange fnExactIsIntervalOrderWrong)

/-- 'laws.FnExactTwoTwoOf': WHATEVER THE INPUT: true; the input reads as it did. -/
def fnExactTwoTwoOfSpec : ChangeSpec := { name := "fnExactTwoTwoOf", fn := fun _ => fun
  | [d] => { results := [.lit (.bool true)], args := [d] }
  | _ => none }
def fnExactTwoTwoOfRow : OpenClaim := { program := "ytphemaojcjcfpaa", sum := "456f04f75be8d7623d7b4323df1e040cebf61147f4c00361a577fbaa8ec5f755", func := "loop.example/g01106/laws.FnExactTwoTwoOf", spec := "fnExactTwoTwoOf", apart := false }
def FnExactTwoTwoOfSaid : Prop := fnExactTwoTwoOfRow.holds Try.pinned (OpenSpec.ofChange fnExactTwoTwoOfSpec)

/-- ITS FALSE NEIGHBOUR: 'it returns false'. Refute it at one input. -/
def fnExactTwoTwoOfWrong : ChangeSpec := { name := "fnExactTwoTwoOf", fn := fun _ => fun
  | [d] => { results := [.lit (.bool false)], args := [d] }
  | _ => none }
def FnExactTwoTwoOfWrongFalsely : Prop := fnExactTwoTwoOfRow.holds Try.pinned (OpenSpec.ofChange fnExactTwoTwoOfWrong)

/-- 'laws.FnExactLowerLevels': WHATEVER THE INPUT: true; the input reads as it did. -/
def fnExactLowerLevelsSpec : ChangeSpec := { name := "fnExactLowerLevels", fn := fun _ => fun
  | [d] => { results := [.lit (.bool true)], args := [d] }
  | _ => none }
def fnExactLowerLevelsRow : OpenClaim := { program := "ytphemaojcjcfpaa", sum := "456f04f75be8d7623d7b4323df1e040cebf61147f4c00361a577fbaa8ec5f755", func := "loop.example/g01106/laws.FnExactLowerLevels", spec := "fnExactLowerLevels", recurses := true, apart := false }
def FnExactLowerLevelsSaid : Prop := fnExactLowerLevelsRow.holds Try.pinned (OpenSpec.ofChange fnExactLowerLevelsSpec)

/-- ITS FALSE NEIGHBOUR: 'it returns false'. Refute it at one input. -/
def fnExactLowerLevelsWrong : ChangeSpec := { name := "fnExactLowerLevels", fn := fun _ => fun
  | [d] => { results := [.lit (.bool false)], args := [d] }
  | _ => none }
def FnExactLowerLevelsWrongFalsely : Prop := fnExactLowerLevelsRow.holds Try.pinned (OpenSpec.ofChange fnExactLowerLevelsWrong)

/-- 'laws.FnExactMagnitudeOf': WHATEVER THE INPUT: true; the input reads as it did. -/
def fnExactMagnitudeOfSpec : ChangeSpec := { name := "fnExactMagnitudeOf", fn := fun _ => fun
  | [d] => { results := [.lit (.bool true)], args := [d] }
  | _ => none }
def fnExactMagnitudeOfRow : OpenClaim := { program := "ytphemaojcjcfpaa", sum := "456f04f75be8d7623d7b4323df1e040cebf61147f4c00361a577fbaa8ec5f755", func := "loop.example/g01106/laws.FnExactMagnitudeOf", spec := "fnExactMagnitudeOf", recurses := true, apart := false }
def FnExactMagnitudeOfSaid : Prop := fnExactMagnitudeOfRow.holds Try.pinned (OpenSpec.ofChange fnExactMagnitudeOfSpec)

/-- ITS FALSE NEIGHBOUR: 'it returns false'. Refute it at one input. -/
def fnExactMagnitudeOfWrong : ChangeSpec := { name := "fnExactMagnitudeOf", fn := fun _ => fun
  | [d] => { results := [.lit (.bool false)], args := [d] }
  | _ => none }
def FnExactMagnitudeOfWrongFalsely : Prop := fnExactMagnitudeOfRow.holds Try.pinned (OpenSpec.ofChange fnExactMagnitudeOfWrong)

/-- 'laws.FnExactEndsOf': WHATEVER THE INPUT: true; the input reads as it did. -/
def fnExactEndsOfSpec : ChangeSpec := { name := "fnExactEndsOf", fn := fun _ => fun
  | [d] => { results := [.lit (.bool true)], args := [d] }
  | _ => none }
def fnExactEndsOfRow : OpenClaim := { program := "ytphemaojcjcfpaa", sum := "456f04f75be8d7623d7b4323df1e040cebf61147f4c00361a577fbaa8ec5f755", func := "loop.example/g01106/laws.FnExactEndsOf", spec := "fnExactEndsOf", recurses := true, apart := false }
def FnExactEndsOfSaid : Prop := fnExactEndsOfRow.holds Try.pinned (OpenSpec.ofChange fnExactEndsOfSpec)

/-- ITS FALSE NEIGHBOUR: 'it returns false'. Refute it at one input. -/
def fnExactEndsOfWrong : ChangeSpec := { name := "fnExactEndsOf", fn := fun _ => fun
  | [d] => { results := [.lit (.bool false)], args := [d] }
  | _ => none }
def FnExactEndsOfWrongFalsely : Prop := fnExactEndsOfRow.holds Try.pinned (OpenSpec.ofChange fnExactEndsOfWrong)

/- THE SECOND FORM. 'bulk': how many values and letters a reading holds, each counted each time it is reached (what is shared counts as often as it is met; a slice's spare places count too). A statement '..UptoSaid' is the law's where the arguments, and the package variables that the reading takes, are together of bulk at most 1048576: NARROWER than '..Said'. Prove '..Said' where nothing that the law and all that it calls make is longer than what came in: it says more and counts as full. Else prove '..UptoSaid'. A law counts once. -/
mutual
def uptoBulk {H : Type} : DataW H → Nat
  | .lit (.string bytes) => bytes.length + 1
  | .lit _ => 1
  | .nil => 1
  | .ptr d => uptoBulk d + 1
  | .slice elems spare => uptoBulkAll elems + uptoBulkAll spare + 1
  | .agg parts => uptoBulkAll parts + 1
  | .iface _ d => uptoBulk d + 1
  | .map entries => uptoBulkEntries entries + 1
  | .held _ => 1
def uptoBulkAll {H : Type} : List (DataW H) → Nat
  | [] => 0
  | d :: r => uptoBulk d + uptoBulkAll r
def uptoBulkEntries {H : Type} : List (Lit × DataW H) → Nat
  | [] => 0
  | x :: r => uptoBulkEntry x + uptoBulkEntries r
def uptoBulkEntry {H : Type} : Lit × DataW H → Nat
  | (.string bytes, d) => bytes.length + uptoBulk d + 1
  | (_, d) => uptoBulk d + 1
 end
def uptoSmall : (H : Type) → List (DataW H) → Bool := fun _ ds => decide (uptoBulkAll ds ≤ 1048576)
def OpenSpec.upto (s : _root_.Go.ChangeSpec) : _root_.Go.OpenSpec := { _root_.Go.OpenSpec.ofChange s with cond := some uptoSmall }

/-- 'laws.FnExactStackOrders', WHERE WHAT IT READS IS OF BULK AT MOST 1048576: true; the input reads as it did. -/
def fnExactStackOrdersUptoRow : OpenClaim := { program := "ytphemaojcjcfpaa", sum := "456f04f75be8d7623d7b4323df1e040cebf61147f4c00361a577fbaa8ec5f755", func := "loop.example/g01106/laws.FnExactStackOrders", spec := "fnExactStackOrders", apart := false, narrowed := true }
def FnExactStackOrdersUptoSaid : Prop := fnExactStackOrdersUptoRow.holds Try.pinned (OpenSpec.upto fnExactStackOrdersSpec)

/-- 'laws.FnExactBesideOrders', WHERE WHAT IT READS IS OF BULK AT MOST 1048576: true; the input reads as it did. -/
def fnExactBesideOrdersUptoRow : OpenClaim := { program := "ytphemaojcjcfpaa", sum := "456f04f75be8d7623d7b4323df1e040cebf61147f4c00361a577fbaa8ec5f755", func := "loop.example/g01106/laws.FnExactBesideOrders", spec := "fnExactBesideOrders", apart := false, narrowed := true }
def FnExactBesideOrdersUptoSaid : Prop := fnExactBesideOrdersUptoRow.holds Try.pinned (OpenSpec.upto fnExactBesideOrdersSpec)

/-- 'laws.FnExactLongestChain', WHERE WHAT IT READS IS OF BULK AT MOST 1048576: true; the input reads as it did. -/
def fnExactLongestChainUptoRow : OpenClaim := { program := "ytphemaojcjcfpaa", sum := "456f04f75be8d7623d7b4323df1e040cebf61147f4c00361a577fbaa8ec5f755", func := "loop.example/g01106/laws.FnExactLongestChain", spec := "fnExactLongestChain", recurses := true, apart := false, narrowed := true }
def FnExactLongestChainUptoSaid : Prop := fnExactLongestChainUptoRow.holds Try.pinned (OpenSpec.upto fnExactLongestChainSpec)

/-- 'laws.FnExactLargestAntichain', WHERE WHAT IT READS IS OF BULK AT MOST 1048576: true; the input reads as it did. -/
def fnExactLargestAntichainUptoRow : OpenClaim := { program := "ytphemaojcjcfpaa", sum := "456f04f75be8d7623d7b4323df1e040cebf61147f4c00361a577fbaa8ec5f755", func := "loop.example/g01106/laws.FnExactLargestAntichain", spec := "fnExactLargestAntichain", recurses := true, apart := false, narrowed := true }
def FnExactLargestAntichainUptoSaid : Prop := fnExactLargestAntichainUptoRow.holds Try.pinned (OpenSpec.upto fnExactLargestAntichainSpec)

/-- 'laws.FnExactOrderOfIntervals', WHERE WHAT IT READS IS OF BULK AT MOST 1048576: true; the input reads as it did. -/
def fnExactOrderOfIntervalsUptoRow : OpenClaim := { program := "ytphemaojcjcfpaa", sum := "456f04f75be8d7623d7b4323df1e040cebf61147f4c00361a577fbaa8ec5f755", func := "loop.example/g01106/laws.FnExactOrderOfIntervals", spec := "fnExactOrderOfIntervals", unfollowed := true, recurses := true, apart := false, narrowed := true }
def FnExactOrderOfIntervalsUptoSaid : Prop := fnExactOrderOfIntervalsUptoRow.holds Try.pinned (OpenSpec.upto fnExactOrderOfIntervalsSpec)

/-- 'laws.FnExactIsIntervalOrder', WHERE WHAT IT READS IS OF BULK AT MOST 1048576: true; the input reads as it did. -/
def fnExactIsIntervalOrderUptoRow : OpenClaim := { program := "ytphemaojcjcfpaa", sum := "456f04f75be8d7623d7b4323df1e040cebf61147f4c00361a577fbaa8ec5f755", func := "loop.example/g01106/laws.FnExactIsIntervalOrder", spec := "fnExactIsIntervalOrder", apart := false, narrowed := true }
def FnExactIsIntervalOrderUptoSaid : Prop := fnExactIsIntervalOrderUptoRow.holds Try.pinned (OpenSpec.upto fnExactIsIntervalOrderSpec)

/-- 'laws.FnExactTwoTwoOf', WHERE WHAT IT READS IS OF BULK AT MOST 1048576: true; the input reads as it did. -/
def fnExactTwoTwoOfUptoRow : OpenClaim := { program := "ytphemaojcjcfpaa", sum := "456f04f75be8d7623d7b4323df1e040cebf61147f4c00361a577fbaa8ec5f755", func := "loop.example/g01106/laws.FnExactTwoTwoOf", spec := "fnExactTwoTwoOf", apart := false, narrowed := true }
def FnExactTwoTwoOfUptoSaid : Prop := fnExactTwoTwoOfUptoRow.holds Try.pinned (OpenSpec.upto fnExactTwoTwoOfSpec)

/-- 'laws.FnExactLowerLevels', WHERE WHAT IT READS IS OF BULK AT MOST 1048576: true; the input reads as it did. -/
def fnExactLowerLevelsUptoRow : OpenClaim := { program := "ytphemaojcjcfpaa", sum := "456f04f75be8d7623d7b4323df1e040cebf61147f4c00361a577fbaa8ec5f755", func := "loop.example/g01106/laws.FnExactLowerLevels", spec := "fnExactLowerLevels", recurses := true, apart := false, narrowed := true }
def FnExactLowerLevelsUptoSaid : Prop := fnExactLowerLevelsUptoRow.holds Try.pinned (OpenSpec.upto fnExactLowerLevelsSpec)

/-- 'laws.FnExactMagnitudeOf', WHERE WHAT IT READS IS OF BULK AT MOST 1048576: true; the input reads as it did. -/
def fnExactMagnitudeOfUptoRow : OpenClaim := { program := "ytphemaojcjcfpaa", sum := "456f04f75be8d7623d7b4323df1e040cebf61147f4c00361a577fbaa8ec5f755", func := "loop.example/g01106/laws.FnExactMagnitudeOf", spec := "fnExactMagnitudeOf", recurses := true, apart := false, narrowed := true }
def FnExactMagnitudeOfUptoSaid : Prop := fnExactMagnitudeOfUptoRow.holds Try.pinned (OpenSpec.upto fnExactMagnitudeOfSpec)

/-- 'laws.FnExactEndsOf', WHERE WHAT IT READS IS OF BULK AT MOST 1048576: true; the input reads as it did. -/
def fnExactEndsOfUptoRow : OpenClaim := { program := "ytphemaojcjcfpaa", sum := "456f04f75be8d7623d7b4323df1e040cebf61147f4c00361a577fbaa8ec5f755", func := "loop.example/g01106/laws.FnExactEndsOf", spec := "fnExactEndsOf", recurses := true, apart := false, narrowed := true }
def FnExactEndsOfUptoSaid : Prop := fnExactEndsOfUptoRow.holds Try.pinned (OpenSpec.upto fnExactEndsOfSpec)

end Rows
end Go.Proofs.Ytphemaojcjcfpaa
