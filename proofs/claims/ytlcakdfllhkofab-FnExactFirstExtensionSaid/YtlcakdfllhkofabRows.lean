/-
  No cell of these rows narrows 'for every input' (looked for: loops, veiled, ifaces, maps, wideKeys, modest, calm, conditions, laid).
  DERIVED. THE GIVEN ROWS OF THIS SEAT. 10 by the template 'for every input the law returns true; each argument reads behind the call as it read before'; 0 by the template 'total and deterministic' (their statements: YtlcakdfllhkofabTotals.lean).
  GIVEN WITH THE SEED: the statements are not yours to turn. If you find one false, say at which input.
  Laid BY PROGRAM, IN A SANDBOX (cutbox-rows.mjs): the forced cells as the released guide's own fill.sh prints them over the translation 2153cbbded7aea85… (all of the seat's roots in one cut). By AI agents, Wed Nov 11 2026. No macro, syntax, notation, axiom, sorry.
-/
import Derived.Test.YtlcakdfllhkofabChecked
import GoSem.Claim
import GoSem.ClaimJoined
import GoSem.ClaimMapViews
import Derived.JoinedTies
import Derived.KernelRfl
namespace Go.Proofs.Ytlcakdfllhkofab
/- THE CELL 'sum', in the pinned program and in every row, IS THE sha256 OF THE DUMP (.gsa) THAT YtlcakdfllhkofabProg.lean LOADS. Nothing in Lean hashes anything: it is a label: what it is worth is what the hold of that sum in a sandbox is worth. -/
noncomputable def Try.pinned : Pinned := { name := "ytlcakdfllhkofab", sum := "2153cbbded7aea8504be7070bbe8c3f77ebb30486f7e722770c7be85ecaa45a2", checked := Try.checked }
namespace Rows
def none {H : Type} : Left H := { results := [], args := [] }

/-- 'laws.FnExactFindPattern': WHATEVER THE INPUT: true; the input reads as it did. -/
def fnExactFindPatternSpec : ChangeSpec := { name := "fnExactFindPattern", fn := fun _ => fun
  | [d1, d2] => { results := [.lit (.bool true)], args := [d1, d2] }
  | _ => none }
def fnExactFindPatternRow : OpenClaim := { program := "ytlcakdfllhkofab", sum := "2153cbbded7aea8504be7070bbe8c3f77ebb30486f7e722770c7be85ecaa45a2", func := "loop.example/g01106/laws.FnExactFindPattern", spec := "fnExactFindPattern", recurses := true, apart := false }
def FnExactFindPatternSaid : Prop := fnExactFindPatternRow.holds Try.pinned (OpenSpec.ofChange fnExactFindPatternSpec)

/-- ITS FALSE NEIGHBOUR: 'it returns false'. Refute it at one input. -/
def fnExactFindPatternWrong : ChangeSpec := { name := "fnExactFindPattern", fn := fun _ => fun
  | [d1, d2] => { results := [.lit (.bool false)], args := [d1, d2] }
  | _ => none }
def FnExactFindPatternWrongFalsely : Prop := fnExactFindPatternRow.holds Try.pinned (OpenSpec.ofChange fnExactFindPatternWrong)

/-- 'laws.FnExactIsSameKind': WHATEVER THE INPUT: true; the input reads as it did. -/
def fnExactIsSameKindSpec : ChangeSpec := { name := "fnExactIsSameKind", fn := fun _ => fun
  | [d1, d2] => { results := [.lit (.bool true)], args := [d1, d2] }
  | _ => none }
def fnExactIsSameKindRow : OpenClaim := { program := "ytlcakdfllhkofab", sum := "2153cbbded7aea8504be7070bbe8c3f77ebb30486f7e722770c7be85ecaa45a2", func := "loop.example/g01106/laws.FnExactIsSameKind", spec := "fnExactIsSameKind", recurses := true, apart := false }
def FnExactIsSameKindSaid : Prop := fnExactIsSameKindRow.holds Try.pinned (OpenSpec.ofChange fnExactIsSameKindSpec)

/-- ITS FALSE NEIGHBOUR: 'it returns false'. Refute it at one input. -/
def fnExactIsSameKindWrong : ChangeSpec := { name := "fnExactIsSameKind", fn := fun _ => fun
  | [d1, d2] => { results := [.lit (.bool false)], args := [d1, d2] }
  | _ => none }
def FnExactIsSameKindWrongFalsely : Prop := fnExactIsSameKindRow.holds Try.pinned (OpenSpec.ofChange fnExactIsSameKindWrong)

/-- 'laws.FnExactStackOrders': WHATEVER THE INPUT: true; the input reads as it did. -/
def fnExactStackOrdersSpec : ChangeSpec := { name := "fnExactStackOrders", fn := fun _ => fun
  | [d1, d2] => { results := [.lit (.bool true)], args := [d1, d2] }
  | _ => none }
def fnExactStackOrdersRow : OpenClaim := { program := "ytlcakdfllhkofab", sum := "2153cbbded7aea8504be7070bbe8c3f77ebb30486f7e722770c7be85ecaa45a2", func := "loop.example/g01106/laws.FnExactStackOrders", spec := "fnExactStackOrders", apart := false }
def FnExactStackOrdersSaid : Prop := fnExactStackOrdersRow.holds Try.pinned (OpenSpec.ofChange fnExactStackOrdersSpec)

/-- ITS FALSE NEIGHBOUR: 'it returns false'. Refute it at one input. -/
def fnExactStackOrdersWrong : ChangeSpec := { name := "fnExactStackOrders", fn := fun _ => fun
  | [d1, d2] => { results := [.lit (.bool false)], args := [d1, d2] }
  | _ => none }
def FnExactStackOrdersWrongFalsely : Prop := fnExactStackOrdersRow.holds Try.pinned (OpenSpec.ofChange fnExactStackOrdersWrong)

/-- 'laws.FnExactBesideOrders': WHATEVER THE INPUT: true; the input reads as it did. -/
def fnExactBesideOrdersSpec : ChangeSpec := { name := "fnExactBesideOrders", fn := fun _ => fun
  | [d1, d2] => { results := [.lit (.bool true)], args := [d1, d2] }
  | _ => none }
def fnExactBesideOrdersRow : OpenClaim := { program := "ytlcakdfllhkofab", sum := "2153cbbded7aea8504be7070bbe8c3f77ebb30486f7e722770c7be85ecaa45a2", func := "loop.example/g01106/laws.FnExactBesideOrders", spec := "fnExactBesideOrders", apart := false }
def FnExactBesideOrdersSaid : Prop := fnExactBesideOrdersRow.holds Try.pinned (OpenSpec.ofChange fnExactBesideOrdersSpec)

/-- ITS FALSE NEIGHBOUR: 'it returns false'. Refute it at one input. -/
def fnExactBesideOrdersWrong : ChangeSpec := { name := "fnExactBesideOrders", fn := fun _ => fun
  | [d1, d2] => { results := [.lit (.bool false)], args := [d1, d2] }
  | _ => none }
def FnExactBesideOrdersWrongFalsely : Prop := fnExactBesideOrdersRow.holds Try.pinned (OpenSpec.ofChange fnExactBesideOrdersWrong)

/-- 'laws.FnExactCountExtensions': WHATEVER THE INPUT: true; the input reads as it did. -/
def fnExactCountExtensionsSpec : ChangeSpec := { name := "fnExactCountExtensions", fn := fun _ => fun
  | [d] => { results := [.lit (.bool true)], args := [d] }
  | _ => none }
def fnExactCountExtensionsRow : OpenClaim := { program := "ytlcakdfllhkofab", sum := "2153cbbded7aea8504be7070bbe8c3f77ebb30486f7e722770c7be85ecaa45a2", func := "loop.example/g01106/laws.FnExactCountExtensions", spec := "fnExactCountExtensions", apart := false }
def FnExactCountExtensionsSaid : Prop := fnExactCountExtensionsRow.holds Try.pinned (OpenSpec.ofChange fnExactCountExtensionsSpec)

/-- ITS FALSE NEIGHBOUR: 'it returns false'. Refute it at one input. -/
def fnExactCountExtensionsWrong : ChangeSpec := { name := "fnExactCountExtensions", fn := fun _ => fun
  | [d] => { results := [.lit (.bool false)], args := [d] }
  | _ => none }
def FnExactCountExtensionsWrongFalsely : Prop := fnExactCountExtensionsRow.holds Try.pinned (OpenSpec.ofChange fnExactCountExtensionsWrong)

/-- 'laws.FnExactFirstExtension': WHATEVER THE INPUT: true; the input reads as it did. -/
def fnExactFirstExtensionSpec : ChangeSpec := { name := "fnExactFirstExtension", fn := fun _ => fun
  | [d] => { results := [.lit (.bool true)], args := [d] }
  | _ => none }
def fnExactFirstExtensionRow : OpenClaim := { program := "ytlcakdfllhkofab", sum := "2153cbbded7aea8504be7070bbe8c3f77ebb30486f7e722770c7be85ecaa45a2", func := "loop.example/g01106/laws.FnExactFirstExtension", spec := "fnExactFirstExtension", apart := false }
def FnExactFirstExtensionSaid : Prop := fnExactFirstExtensionRow.holds Try.pinned (OpenSpec.ofChange fnExactFirstExtensionSpec)

/-- ITS FALSE NEIGHBOUR: 'it returns false'. Refute it at one input. -/
def fnExactFirstExtensionWrong : ChangeSpec := { name := "fnExactFirstExtension", fn := fun _ => fun
  | [d] => { results := [.lit (.bool false)], args := [d] }
  | _ => none }
def FnExactFirstExtensionWrongFalsely : Prop := fnExactFirstExtensionRow.holds Try.pinned (OpenSpec.ofChange fnExactFirstExtensionWrong)

/-- 'laws.FnExactIsExtension': WHATEVER THE INPUT: true; the input reads as it did. -/
def fnExactIsExtensionSpec : ChangeSpec := { name := "fnExactIsExtension", fn := fun _ => fun
  | [d1, d2] => { results := [.lit (.bool true)], args := [d1, d2] }
  | _ => none }
def fnExactIsExtensionRow : OpenClaim := { program := "ytlcakdfllhkofab", sum := "2153cbbded7aea8504be7070bbe8c3f77ebb30486f7e722770c7be85ecaa45a2", func := "loop.example/g01106/laws.FnExactIsExtension", spec := "fnExactIsExtension", apart := false }
def FnExactIsExtensionSaid : Prop := fnExactIsExtensionRow.holds Try.pinned (OpenSpec.ofChange fnExactIsExtensionSpec)

/-- ITS FALSE NEIGHBOUR: 'it returns false'. Refute it at one input. -/
def fnExactIsExtensionWrong : ChangeSpec := { name := "fnExactIsExtension", fn := fun _ => fun
  | [d1, d2] => { results := [.lit (.bool false)], args := [d1, d2] }
  | _ => none }
def FnExactIsExtensionWrongFalsely : Prop := fnExactIsExtensionRow.holds Try.pinned (OpenSpec.ofChange fnExactIsExtensionWrong)

/-- 'laws.FnExactLongestChain': WHATEVER THE INPUT: true; the input reads as it did. -/
def fnExactLongestChainSpec : ChangeSpec := { name := "fnExactLongestChain", fn := fun _ => fun
  | [d] => { results := [.lit (.bool true)], args := [d] }
  | _ => none }
def fnExactLongestChainRow : OpenClaim := { program := "ytlcakdfllhkofab", sum := "2153cbbded7aea8504be7070bbe8c3f77ebb30486f7e722770c7be85ecaa45a2", func := "loop.example/g01106/laws.FnExactLongestChain", spec := "fnExactLongestChain", recurses := true, apart := false }
def FnExactLongestChainSaid : Prop := fnExactLongestChainRow.holds Try.pinned (OpenSpec.ofChange fnExactLongestChainSpec)

/-- ITS FALSE NEIGHBOUR: 'it returns false'. Refute it at one input. -/
def fnExactLongestChainWrong : ChangeSpec := { name := "fnExactLongestChain", fn := fun _ => fun
  | [d] => { results := [.lit (.bool false)], args := [d] }
  | _ => none }
def FnExactLongestChainWrongFalsely : Prop := fnExactLongestChainRow.holds Try.pinned (OpenSpec.ofChange fnExactLongestChainWrong)

/-- 'laws.FnExactLargestAntichain': WHATEVER THE INPUT: true; the input reads as it did. -/
def fnExactLargestAntichainSpec : ChangeSpec := { name := "fnExactLargestAntichain", fn := fun _ => fun
  | [d] => { results := [.lit (.bool true)], args := [d] }
  | _ => none }
def fnExactLargestAntichainRow : OpenClaim := { program := "ytlcakdfllhkofab", sum := "2153cbbded7aea8504be7070bbe8c3f77ebb30486f7e722770c7be85ecaa45a2", func := "loop.example/g01106/laws.FnExactLargestAntichain", spec := "fnExactLargestAntichain", recurses := true, apart := false }
def FnExactLargestAntichainSaid : Prop := fnExactLargestAntichainRow.holds Try.pinned (OpenSpec.ofChange fnExactLargestAntichainSpec)

/-- ITS FALSE NEIGHBOUR: 'it returns false'. Refute it at one input. -/
def fnExactLargestAntichainWrong : ChangeSpec := { name := "fnExactLargestAntichain", fn := fun _ => fun
  | [d] => { results := [.lit (.bool false)], args := [d] }
  | _ => none }
def FnExactLargestAntichainWrongFalsely : Prop := fnExactLargestAntichainRow.holds Try.pinned (OpenSpec.ofChange fnExactLargestAntichainWrong)

/-- 'laws.FnExactChainNumbers': WHATEVER THE INPUT: true; the input reads as it did. -/
def fnExactChainNumbersSpec : ChangeSpec := { name := "fnExactChainNumbers", fn := fun _ => fun
  | [d] => { results := [.lit (.bool true)], args := [d] }
  | _ => none }
def fnExactChainNumbersRow : OpenClaim := { program := "ytlcakdfllhkofab", sum := "2153cbbded7aea8504be7070bbe8c3f77ebb30486f7e722770c7be85ecaa45a2", func := "loop.example/g01106/laws.FnExactChainNumbers", spec := "fnExactChainNumbers", recurses := true, apart := false }
def FnExactChainNumbersSaid : Prop := fnExactChainNumbersRow.holds Try.pinned (OpenSpec.ofChange fnExactChainNumbersSpec)

/-- ITS FALSE NEIGHBOUR: 'it returns false'. Refute it at one input. -/
def fnExactChainNumbersWrong : ChangeSpec := { name := "fnExactChainNumbers", fn := fun _ => fun
  | [d] => { results := [.lit (.bool false)], args := [d] }
  | _ => none }
def FnExactChainNumbersWrongFalsely : Prop := fnExactChainNumbersRow.holds Try.pinned (OpenSpec.ofChange fnExactChainNumbersWrong)

/- THE SECOND FORM. 'bulk': how many values and letters a reading holds, each counted each time it is reached (what is shared counts as often as it is met; a slice's spare places count too). A statement '..UptoSaid' is the law's where the arguments, and the package variables that the reading takes, are together of bulk at most 1048576: NARROWER than '..Said'. Prove '..Said' where nothing that the law and all that it calls make is longer than what came in: it says more and counts as full. Else prove '..UptoSaid'. A law counts once. -/
mutual
def uptoBulk {H : Type} : DataW H → Nat
  | .lit (.string bytes) => bytes.length + 1
  | .lit _ => 1
  | .nil => 1
  | .ptr d => uptoBulk d + 1
  | .slice elems spare => uptoBulkAll elems + uptoBulkAll spare + 1
  | .agg parts => uptoBulkAll parts + 1
  | .iface _ d => uptoBulk d + 1
  | .map entries => uptoBulkEntries entries + 1
  | .held _ => 1
def uptoBulkAll {H : Type} : List (DataW H) → Nat
  | [] => 0
  | d :: r => uptoBulk d + uptoBulkAll r
def uptoBulkEntries {H : Type} : List (Lit × DataW H) → Nat
  | [] => 0
  | x :: r => uptoBulkEntry x + uptoBulkEntries r
def uptoBulkEntry {H : Type} : Lit × DataW H → Nat
  | (.string bytes, d) => bytes.length + uptoBulk d + 1
  | (_, d) => uptoBulk d + 1
 end
def uptoSmall : (H : Type) → List (DataW H) → Bool := fun _ ds => decide (uptoBulkAll ds ≤ 1048576)
def OpenSpec.upto (s : _root_.Go.ChangeSpec) : _root_.Go.OpenSpec := { _root_.Go.OpenSpec.ofChange s with cond := some uptoSmall }

/-- 'laws.FnExactFindPattern', WHERE WHAT IT READS IS OF BULK AT MOST 1048576: true; the input reads as it did. -/
def fnExactFindPatternUptoRow : OpenClaim := { program := "ytlcakdfllhkofab", sum := "2153cbbded7aea8504be7070bbe8c3f77ebb30486f7e722770c7be85ecaa45a2", func := "loop.example/g01106/laws.FnExactFindPattern", spec := "fnExactFindPattern", recurses := true, apart := false, narrowed := true }
def FnExactFindPatternUptoSaid : Prop := fnExactFindPatternUptoRow.holds Try.pinned (OpenSpec.upto fnExactFindPatternSpec)

/-- 'laws.FnExactIsSameKind', WHERE WHAT IT READS IS OF BULK AT MOST 1048576: true; the input reads as it did. -/
def fnExactIsSameKindUptoRow : OpenClaim := { program := "ytlcakdfllhkofab", sum := "2153cbbded7aea8504be7070bbe8c3f77ebb30486f7e722770c7be85ecaa45a2", func := "loop.example/g01106/laws.FnExactIsSameKind", spec := "fnExactIsSameKind", recurses := true, apart := false, narrowed := true }
def FnExactIsSameKindUptoSaid : Prop := fnExactIsSameKindUptoRow.holds Try.pinned (OpenSpec.upto fnExactIsSameKindSpec)

/-- 'laws.FnExactStackOrders', WHERE WHAT IT READS IS OF BULK AT MOST 1048576: true; the input reads as it did. -/
def fnExactStackOrdersUptoRow : OpenClaim := { program := "ytlcakdfllhkofab", sum := "2153cbbded7aea8504be7070bbe8c3f77ebb30486f7e722770c7be85ecaa45a2", func := "loop.example/g01106/laws.FnExactStackOrders", spec := "fnExactStackOrders", apart := false, narrowed := true }
def FnExactStackOrdersUptoSaid : Prop := fnExactStackOrdersUptoRow.holds Try.pinned (OpenSpec.upto fnExactStackOrdersSpec)

/-- 'laws.FnExactBesideOrders', WHERE WHAT IT READS IS OF BULK AT MOST 1048576: true; the input reads as it did. -/
def fnExactBesideOrdersUptoRow : OpenClaim := { program := "ytlcakdfllhkofab", sum := "2153cbbded7aea8504be7070bbe8c3f77ebb30486f7e722770c7be85ecaa45a2", func := "loop.example/g01106/laws.FnExactBesideOrders", spec := "fnExactBesideOrders", apart := false, narrowed := true }
def FnExactBesideOrdersUptoSaid : Prop := fnExactBesideOrdersUptoRow.holds Try.pinned (OpenSpec.upto fnExactBesideOrdersSpec)

/-- 'laws.FnExactCountExtensions', WHERE WHAT IT READS IS OF BULK AT MOST 1048576: true; the input reads as it did. -/
def fnExactCountExtensionsUptoRow : OpenClaim := { program := "ytlcakdfllhkofab", sum := "2153cbbded7aea8504be7070bbe8c3f77ebb30486f7e722770c7be85ecaa45a2", func := "loop.example/g01106/laws.FnExactCountExtensions", spec := "fnExactCountExtensions", apart := false, narrowed := true }
def FnExactCountExtensionsUptoSaid : Prop := fnExactCountExtensionsUptoRow.holds Try.pinned (OpenSpec.upto fnExactCountExtensionsSpec)

/-- 'laws.FnExactFirstExtension', WHERE WHAT IT READS IS OF BULK AT MOST 1048576: true; the input reads as it did. -/
def fnExactFirstExtensionUptoRow : OpenClaim := { program := "ytlcakdfllhkofab", sum := "2153cbbded7aea8504be7070bbe8c3f77ebb30486f7e722770c7be85ecaa45a2", func := "loop.example/g01106/laws.FnExactFirstExtension", spec := "fnExactFirstExtension", apart := false, narrowed := true }
def FnExactFirstExtensionUptoSaid : Prop := fnExactFirstExtensionUptoRow.holds Try.pinned (OpenSpec.upto fnExactFirstExtensionSpec)

/-- 'laws.FnExactIsExtension', WHERE WHAT IT READS IS OF BULK AT MOST 1048576: true; the input reads as it did. -/
def fnExactIsExtensionUptoRow : OpenClaim := { program := "ytlcakdfllhkofab", sum := "2153cbbded7aea8504be7070bbe8c3f77ebb30486f7e722770c7be85ecaa45a2", func := "loop.example/g01106/laws.FnExactIsExtension", spec := "fnExactIsExtension", apart := false, narrowed := true }
def FnExactIsExtensionUptoSaid : Prop := fnExactIsExtensionUptoRow.holds Try.pinned (OpenSpec.upto fnExactIsExtensionSpec)

/-- 'laws.FnExactLongestChain', WHERE WHAT IT READS IS OF BULK AT MOST 1048576: true; the input reads as it did. -/
def fnExactLongestChainUptoRow : OpenClaim := { program := "ytlcakdfllhkofab", sum := "2153cbbded7aea8504be7070bbe8c3f77ebb30486f7e722770c7be85ecaa45a2", func := "loop.example/g01106/laws.FnExactLongestChain", spec := "fnExactLongestChain", recurses := true, apart := false, narrowed := true }
def FnExactLongestChainUptoSaid : Prop := fnExactLongestChainUptoRow.holds Try.pinned (OpenSpec.upto fnExactLongestChainSpec)

/-- 'laws.FnExactLargestAntichain', WHERE WHAT IT READS IS OF BULK AT MOST 1048576: true; the input reads as it did. -/
def fnExactLargestAntichainUptoRow : OpenClaim := { program := "ytlcakdfllhkofab", sum := "2153cbbded7aea8504be7070bbe8c3f77ebb30486f7e722770c7be85ecaa45a2", func := "loop.example/g01106/laws.FnExactLargestAntichain", spec := "fnExactLargestAntichain", recurses := true, apart := false, narrowed := true }
def FnExactLargestAntichainUptoSaid : Prop := fnExactLargestAntichainUptoRow.holds Try.pinned (OpenSpec.upto fnExactLargestAntichainSpec)

/-- 'laws.FnExactChainNumbers', WHERE WHAT IT READS IS OF BULK AT MOST 1048576: true; the input reads as it did. -/
def fnExactChainNumbersUptoRow : OpenClaim := { program := "ytlcakdfllhkofab", sum := "2153cbbded7aea8504be7070bbe8c3f77ebb30486f7e722770c7be85ecaa45a2", func := "loop.example/g01106/laws.FnExactChainNumbers", spec := "fnExactChainNumbers", recurses := true, apart := false, narrowed := true }
def FnExactChainNumbersUptoSaid : Prop := fnExactChainNumbersUptoRow.holds Try.pinned (OpenSpec.upto fnExactChainNumbersSpec)

end Rows
end Go.Proofs.Ytlcakdfllhkofab
