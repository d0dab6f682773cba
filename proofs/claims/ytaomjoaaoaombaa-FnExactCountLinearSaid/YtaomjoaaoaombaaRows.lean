/-
  No cell of these rows narrows 'for every input' (looked for: loops, veiled, ifaces, maps, wideKeys, modest, calm, conditions, laid).
  DERIVED. THE GIVEN ROWS OF THIS SEAT. 9 by the template 'for every input the law returns true; each argument reads behind the call as it read before'; 0 by the template 'total and deterministic' (their statements: YtaomjoaaoaombaaTotals.lean).
  GIVEN WITH THE SEED: the statements are not yours to turn. If you find one false, say at which input.
  Laid BY PROGRAM, IN A SANDBOX (cutbox-rows.mjs): the forced cells as the released guide's own fill.sh prints them over the translation e73d366ea0040222… (all of the seat's roots in one cut). By AI agents, Wed Nov 11 2026. No macro, syntax, notation, axiom, sorry.
-/
import Derived.Test.YtaomjoaaoaombaaChecked
import GoSem.Claim
import GoSem.ClaimJoined
import GoSem.ClaimMapViews
import Derived.JoinedTies
import Derived.KernelRfl
namespace Go.Proofs.Ytaomjoaaoaombaa
/- THE CELL 'sum', in the pinned program and in every row, IS THE sha256 OF THE DUMP (.gsa) THAT YtaomjoaaoaombaaProg.lean LOADS. Nothing in Lean hashes anything: it is a label: what it is worth is what the hold of that sum in a sandbox is worth. -/
noncomputable def Try.pinned : Pinned := { name := "ytaomjoaaoaombaa", sum := "e73d366ea0040222f8dda93ff78a61b656dabfdf8d86eca8ca9f3b619083d036", checked := Try.checked }
namespace Rows
def none {H : Type} : Left H := { results := [], args := [] }

/-- 'laws.FnExactFindPattern': WHATEVER THE INPUT: true; the input reads as it did. -/
def fnExactFindPatternSpec : ChangeSpec := { name := "fnExactFindPattern", fn := fun _ => fun
  | [d1, d2] => { results := [.lit (.bool true)], args := [d1, d2] }
  | _ => none }
def fnExactFindPatternRow : OpenClaim := { program := "ytaomjoaaoaombaa", sum := "e73d366ea0040222f8dda93ff78a61b656dabfdf8d86eca8ca9f3b619083d036", func := "loop.example/g01106/laws.FnExactFindPattern", spec := "fnExactFindPattern", recurses := true, apart := false }
def FnExactFindPatternSaid : Prop := fnExactFindPatternRow.holds Try.pinned (OpenSpec.ofChange fnExactFindPatternSpec)

/-- ITS FALSE NEIGHBOUR: 'it returns false'. Refute it at one input. -/
def fnExactFindPatternWrong : ChangeSpec := { name := "fnExactFindPattern", fn := fun _ => fun
  | [d1, d2] => { results := [.lit (.bool false)], args := [d1, d2] }
  | _ => none }
def FnExactFindPatternWrongFalsely : Prop := fnExactFindPatternRow.holds Try.pinned (OpenSpec.ofChange fnExactFindPatternWrong)

/-- 'laws.FnExactIsSameKind': WHATEVER THE INPUT: true; the input reads as it did. -/
def fnExactIsSameKindSpec : ChangeSpec := { name := "fnExactIsSameKind", fn := fun _ => fun
  | [d1, d2] => { results := [.lit (.bool true)], args := [d1, d2] }
  | _ => none }
def fnExactIsSameKindRow : OpenClaim := { program := "ytaomjoaaoaombaa", sum := "e73d366ea0040222f8dda93ff78a61b656dabfdf8d86eca8ca9f3b619083d036", func := "loop.example/g01106/laws.FnExactIsSameKind", spec := "fnExactIsSameKind", recurses := true, apart := false }
def FnExactIsSameKindSaid : Prop := fnExactIsSameKindRow.holds Try.pinned (OpenSpec.ofChange fnExactIsSameKindSpec)

/-- ITS FALSE NEIGHBOUR: 'it returns false'. Refute it at one input. -/
def fnExactIsSameKindWrong : ChangeSpec := { name := "fnExactIsSameKind", fn := fun _ => fun
  | [d1, d2] => { results := [.lit (.bool false)], args := [d1, d2] }
  | _ => none }
def FnExactIsSameKindWrongFalsely : Prop := fnExactIsSameKindRow.holds Try.pinned (OpenSpec.ofChange fnExactIsSameKindWrong)

/-- 'laws.FnExactCountExtensions': WHATEVER THE INPUT: true; the input reads as it did. -/
def fnExactCountExtensionsSpec : ChangeSpec := { name := "fnExactCountExtensions", fn := fun _ => fun
  | [d] => { results := [.lit (.bool true)], args := [d] }
  | _ => none }
def fnExactCountExtensionsRow : OpenClaim := { program := "ytaomjoaaoaombaa", sum := "e73d366ea0040222f8dda93ff78a61b656dabfdf8d86eca8ca9f3b619083d036", func := "loop.example/g01106/laws.FnExactCountExtensions", spec := "fnExactCountExtensions", apart := false }
def FnExactCountExtensionsSaid : Prop := fnExactCountExtensionsRow.holds Try.pinned (OpenSpec.ofChange fnExactCountExtensionsSpec)

/-- ITS FALSE NEIGHBOUR: 'it returns false'. Refute it at one input. -/
def fnExactCountExtensionsWrong : ChangeSpec := { name := "fnExactCountExtensions", fn := fun _ => fun
  | [d] => { results := [.lit (.bool false)], args := [d] }
  | _ => none }
def FnExactCountExtensionsWrongFalsely : Prop := fnExactCountExtensionsRow.holds Try.pinned (OpenSpec.ofChange fnExactCountExtensionsWrong)

/-- 'laws.FnExactChainNumbers': WHATEVER THE INPUT: true; the input reads as it did. -/
def fnExactChainNumbersSpec : ChangeSpec := { name := "fnExactChainNumbers", fn := fun _ => fun
  | [d] => { results := [.lit (.bool true)], args := [d] }
  | _ => none }
def fnExactChainNumbersRow : OpenClaim := { program := "ytaomjoaaoaombaa", sum := "e73d366ea0040222f8dda93ff78a61b656dabfdf8d86eca8ca9f3b619083d036", func := "loop.example/g01106/laws.FnExactChainNumbers", spec := "fnExactChainNumbers", unfollowed := true, recurses := true, apart := false }
def FnExactChainNumbersSaid : Prop := fnExactChainNumbersRow.holds Try.pinned (OpenSpec.ofChange fnExactChainNumbersSpec)

/-- ITS FALSE NEIGHBOUR: 'it returns false'. Refute it at one input. -/
def fnExactChainNumbersWrong : ChangeSpec := { name := "fnExactChainNumbers", fn := fun _ => fun
  | [d] => { results := [.lit (.bool false)], args := [d] }
  | _ => none }
def FnExactChainNumbersWrongFalsely : Prop := fnExactChainNumbersRow.holds Try.pinned (OpenSpec.ofChange fnExactChainNumbersWrong)

/-- 'laws.FnExactLeastParts': WHATEVER THE INPUT: true; the input reads as it did. -/
def fnExactLeastPartsSpec : ChangeSpec := { name := "fnExactLeastParts", fn := fun _ => fun
  | [d] => { results := [.lit (.bool true)], args := [d] }
  | _ => none }
def fnExactLeastPartsRow : OpenClaim := { program := "ytaomjoaaoaombaa", sum := "e73d366ea0040222f8dda93ff78a61b656dabfdf8d86eca8ca9f3b619083d036", func := "loop.example/g01106/laws.FnExactLeastParts", spec := "fnExactLeastParts", unfollowed := true, recurses := true, apart := false }
def FnExactLeastPartsSaid : Prop := fnExactLeastPartsRow.holds Try.pinned (OpenSpec.ofChange fnExactLeastPartsSpec)

/-- ITS FALSE NEIGHBOUR: 'it returns false'. Refute it at one input. -/
def fnExactLeastPartsWrong : ChangeSpec := { name := "fnExactLeastParts", fn := fun _ => fun
  | [d] => { results := [.lit (.bool false)], args := [d] }
  | _ => none }
def FnExactLeastPartsWrongFalsely : Prop := fnExactLeastPartsRow.holds Try.pinned (OpenSpec.ofChange fnExactLeastPartsWrong)

/-- 'laws.FnExactMeetOfBiorders': WHATEVER THE INPUT: true; the input reads as it did. -/
def fnExactMeetOfBiordersSpec : ChangeSpec := { name := "fnExactMeetOfBiorders", fn := fun _ => fun
  | [d] => { results := [.lit (.bool true)], args := [d] }
  | _ => none }
def fnExactMeetOfBiordersRow : OpenClaim := { program := "ytaomjoaaoaombaa", sum := "e73d366ea0040222f8dda93ff78a61b656dabfdf8d86eca8ca9f3b619083d036", func := "loop.example/g01106/laws.FnExactMeetOfBiorders", spec := "fnExactMeetOfBiorders", unfollowed := true, recurses := true, apart := false }
def FnExactMeetOfBiordersSaid : Prop := fnExactMeetOfBiordersRow.holds Try.pinned (OpenSpec.ofChange fnExactMeetOfBiordersSpec)

/-- ITS FALSE NEIGHBOUR: 'it returns false'. Refute it at one input. -/
def fnExactMeetOfBiordersWrong : ChangeSpec := { name := "fnExactMeetOfBiorders", fn := fun _ => fun
  | [d] => { results := [.lit (.bool false)], args := [d] }
  | _ => none }
def FnExactMeetOfBiordersWrongFalsely : Prop := fnExactMeetOfBiordersRow.holds Try.pinned (OpenSpec.ofChange fnExactMeetOfBiordersWrong)

/-- 'laws.FnExactScalesOf': WHATEVER THE INPUT: true; the input reads as it did. -/
def fnExactScalesOfSpec : ChangeSpec := { name := "fnExactScalesOf", fn := fun _ => fun
  | [d] => { results := [.lit (.bool true)], args := [d] }
  | _ => none }
def fnExactScalesOfRow : OpenClaim := { program := "ytaomjoaaoaombaa", sum := "e73d366ea0040222f8dda93ff78a61b656dabfdf8d86eca8ca9f3b619083d036", func := "loop.example/g01106/laws.FnExactScalesOf", spec := "fnExactScalesOf", apart := false }
def FnExactScalesOfSaid : Prop := fnExactScalesOfRow.holds Try.pinned (OpenSpec.ofChange fnExactScalesOfSpec)

/-- ITS FALSE NEIGHBOUR: 'it returns false'. Refute it at one input. -/
def fnExactScalesOfWrong : ChangeSpec := { name := "fnExactScalesOf", fn := fun _ => fun
  | [d] => { results := [.lit (.bool false)], args := [d] }
  | _ => none }
def FnExactScalesOfWrongFalsely : Prop := fnExactScalesOfRow.holds Try.pinned (OpenSpec.ofChange fnExactScalesOfWrong)

/-- 'laws.FnExactParseTable': WHATEVER THE INPUT: true; the input reads as it did. -/
def fnExactParseTableSpec : ChangeSpec := { name := "fnExactParseTable", fn := fun _ => fun
  | [d] => { results := [.lit (.bool true)], args := [d] }
  | _ => none }
def fnExactParseTableRow : OpenClaim := { program := "ytaomjoaaoaombaa", sum := "e73d366ea0040222f8dda93ff78a61b656dabfdf8d86eca8ca9f3b619083d036", func := "loop.example/g01106/laws.FnExactParseTable", spec := "fnExactParseTable", inPlace := ["internal/bytealg.IndexByteString", "internal/bytealg.IndexString", "internal/bytealg.CountString"], named := ["internal/bytealg.MaxLen"], apart := false }
def FnExactParseTableSaid : Prop := fnExactParseTableRow.holds Try.pinned (OpenSpec.ofChange fnExactParseTableSpec)

/-- ITS FALSE NEIGHBOUR: 'it returns false'. Refute it at one input. -/
def fnExactParseTableWrong : ChangeSpec := { name := "fnExactParseTable", fn := fun _ => fun
  | [d] => { results := [.lit (.bool false)], args := [d] }
  | _ => none }
def FnExactParseTableWrongFalsely : Prop := fnExactParseTableRow.holds Try.pinned (OpenSpec.ofChange fnExactParseTableWrong)

/-- 'laws.FnExactCountLinear': WHATEVER THE INPUT: true; the input reads as it did. -/
def fnExactCountLinearSpec : ChangeSpec := { name := "fnExactCountLinear", fn := fun _ => fun
  | [d] => { results := [.lit (.bool true)], args := [d] }
  | _ => none }
def fnExactCountLinearRow : OpenClaim := { program := "ytaomjoaaoaombaa", sum := "e73d366ea0040222f8dda93ff78a61b656dabfdf8d86eca8ca9f3b619083d036", func := "loop.example/g01106/laws.FnExactCountLinear", spec := "fnExactCountLinear", unfollowed := true, recurses := true, apart := false }
def FnExactCountLinearSaid : Prop := fnExactCountLinearRow.holds Try.pinned (OpenSpec.ofChange fnExactCountLinearSpec)

/-- ITS FALSE NEIGHBOUR: 'it returns false'. Refute it at one input. -/
def fnExactCountLinearWrong : ChangeSpec := { name := "fnExactCountLinear", fn := fun _ => fun
  | [d] => { results := [.lit (.bool false)], args := [d] }
  | _ => none }
def FnExactCountLinearWrongFalsely : Prop := fnExactCountLinearRow.holds Try.pinned (OpenSpec.ofChange fnExactCountLinearWrong)

/- THE SECOND FORM. 'bulk': how many values and letters a reading holds, each counted each time it is reached (what is shared counts as often as it is met; a slice's spare places count too). A statement '..UptoSaid' is the law's where the arguments, and the package variables that the reading takes, are together of bulk at most 1048576: NARROWER than '..Said'. Prove '..Said' where nothing that the law and all that it calls make is longer than what came in: it says more and counts as full. Else prove '..UptoSaid'. A law counts once. -/
mutual
def uptoBulk {H : Type} : DataW H → Nat
  | .lit (.string bytes) => bytes.length + 1
  | .lit _ => 1
  | .nil => 1
  | .ptr d => uptoBulk d + 1
  | .slice elems spare => uptoBulkAll elems + uptoBulkAll spare + 1
  | .agg parts => uptoBulkAll parts + 1
  | .iface _ d => uptoBulk d + 1
  | .map entries => uptoBulkEntries entries + 1
  | .held _ => 1
def uptoBulkAll {H : Type} : List (DataW H) → Nat
  | [] => 0
  | d :: r => uptoBulk d + uptoBulkAll r
def uptoBulkEntries {H : Type} : List (Lit × DataW H) → Nat
  | [] => 0
  | x :: r => uptoBulkEntry x + uptoBulkEntries r
def uptoBulkEntry {H : Type} : Lit × DataW H → Nat
  | (.string bytes, d) => bytes.length + uptoBulk d + 1
  | (_, d) => uptoBulk d + 1
 end
def uptoSmall : (H : Type) → List (DataW H) → Bool := fun _ ds => decide (uptoBulkAll ds ≤ 1048576)
def OpenSpec.upto (s : _root_.Go.ChangeSpec) : _root_.Go.OpenSpec := { _root_.Go.OpenSpec.ofChange s with cond := some uptoSmall }

/-- 'laws.FnExactFindPattern', WHERE WHAT IT READS IS OF BULK AT MOST 1048576: true; the input reads as it did. -/
def fnExactFindPatternUptoRow : OpenClaim := { program := "ytaomjoaaoaombaa", sum := "e73d366ea0040222f8dda93ff78a61b656dabfdf8d86eca8ca9f3b619083d036", func := "loop.example/g01106/laws.FnExactFindPattern", spec := "fnExactFindPattern", recurses := true, apart := false, narrowed := true }
def FnExactFindPatternUptoSaid : Prop := fnExactFindPatternUptoRow.holds Try.pinned (OpenSpec.upto fnExactFindPatternSpec)

/-- 'laws.FnExactIsSameKind', WHERE WHAT IT READS IS OF BULK AT MOST 1048576: true; the input reads as it did. -/
def fnExactIsSameKindUptoRow : OpenClaim := { program := "ytaomjoaaoaombaa", sum := "e73d366ea0040222f8dda93ff78a61b656dabfdf8d86eca8ca9f3b619083d036", func := "loop.example/g01106/laws.FnExactIsSameKind", spec := "fnExactIsSameKind", recurses := true, apart := false, narrowed := true }
def FnExactIsSameKindUptoSaid : Prop := fnExactIsSameKindUptoRow.holds Try.pinned (OpenSpec.upto fnExactIsSameKindSpec)

/-- 'laws.FnExactCountExtensions', WHERE WHAT IT READS IS OF BULK AT MOST 1048576: true; the input reads as it did. -/
def fnExactCountExtensionsUptoRow : OpenClaim := { program := "ytaomjoaaoaombaa", sum := "e73d366ea0040222f8dda93ff78a61b656dabfdf8d86eca8ca9f3b619083d036", func := "loop.example/g01106/laws.FnExactCountExtensions", spec := "fnExactCountExtensions", apart := false, narrowed := true }
def FnExactCountExtensionsUptoSaid : Prop := fnExactCountExtensionsUptoRow.holds Try.pinned (OpenSpec.upto fnExactCountExtensionsSpec)

/-- 'laws.FnExactChainNumbers', WHERE WHAT IT READS IS OF BULK AT MOST 1048576: true; the input reads as it did. -/
def fnExactChainNumbersUptoRow : OpenClaim := { program := "ytaomjoaaoaombaa", sum := "e73d366ea0040222f8dda93ff78a61b656dabfdf8d86eca8ca9f3b619083d036", func := "loop.example/g01106/laws.FnExactChainNumbers", spec := "fnExactChainNumbers", unfollowed := true, recurses := true, apart := false, narrowed := true }
def FnExactChainNumbersUptoSaid : Prop := fnExactChainNumbersUptoRow.holds Try.pinned (OpenSpec.upto fnExactChainNumbersSpec)

/-- 'laws.FnExactLeastParts', WHERE WHAT IT READS IS OF BULK AT MOST 1048576: true; the input reads as it did. -/
def fnExactLeastPartsUptoRow : OpenClaim := { program := "ytaomjoaaoaombaa", sum := "e73d366ea0040222f8dda93ff78a61b656dabfdf8d86eca8ca9f3b619083d036", func := "loop.example/g01106/laws.FnExactLeastParts", spec := "fnExactLeastParts", unfollowed := true, recurses := true, apart := false, narrowed := true }
def FnExactLeastPartsUptoSaid : Prop := fnExactLeastPartsUptoRow.holds Try.pinned (OpenSpec.upto fnExactLeastPartsSpec)

/-- 'laws.FnExactMeetOfBiorders', WHERE WHAT IT READS IS OF BULK AT MOST 1048576: true; the input reads as it did. -/
def fnExactMeetOfBiordersUptoRow : OpenClaim := { program := "ytaomjoaaoaombaa", sum := "e73d366ea0040222f8dda93ff78a61b656dabfdf8d86eca8ca9f3b619083d036", func := "loop.example/g01106/laws.FnExactMeetOfBiorders", spec := "fnExactMeetOfBiorders", unfollowed := true, recurses := true, apart := false, narrowed := true }
def FnExactMeetOfBiordersUptoSaid : Prop := fnExactMeetOfBiordersUptoRow.holds Try.pinned (OpenSpec.upto fnExactMeetOfBiordersSpec)

/-- 'laws.FnExactScalesOf', WHERE WHAT IT READS IS OF BULK AT MOST 1048576: true; the input reads as it did. -/
def fnExactScalesOfUptoRow : OpenClaim := { program := "ytaomjoaaoaombaa", sum := "e73d366ea0040222f8dda93ff78a61b656dabfdf8d86eca8ca9f3b619083d036", func := "loop.example/g01106/laws.FnExactScalesOf", spec := "fnExactScalesOf", apart := false, narrowed := true }
def FnExactScalesOfUptoSaid : Prop := fnExactScalesOfUptoRow.holds Try.pinned (OpenSpec.upto fnExactScalesOfSpec)

/-- 'laws.FnExactParseTable', WHERE WHAT IT READS IS OF BULK AT MOST 1048576: true; the input reads as it did. -/
def fnExactParseTableUptoRow : OpenClaim := { program := "ytaomjoaaoaombaa", sum := "e73d366ea0040222f8dda93ff78a61b656dabfdf8d86eca8ca9f3b619083d036", func := "loop.example/g01106/laws.FnExactParseTable", spec := "fnExactParseTable", inPlace := ["internal/bytealg.IndexByteString", "internal/bytealg.IndexString", "internal/bytealg.CountString"], named := ["internal/bytealg.MaxLen"], apart := false, narrowed := true }
def FnExactParseTableUptoSaid : Prop := fnExactParseTableUptoRow.holds Try.pinned (OpenSpec.upto fnExactParseTableSpec)

/-- 'laws.FnExactCountLinear', WHERE WHAT IT READS IS OF BULK AT MOST 1048576: true; the input reads as it did. -/
def fnExactCountLinearUptoRow : OpenClaim := { program := "ytaomjoaaoaombaa", sum := "e73d366ea0040222f8dda93ff78a61b656dabfdf8d86eca8ca9f3b619083d036", func := "loop.example/g01106/laws.FnExactCountLinear", spec := "fnExactCountLinear", unfollowed := true, recurses := true, apart := false, narrowed := true }
def FnExactCountLinearUptoSaid : Prop := fnExactCountLinearUptoRow.holds Try.pinned (OpenSpec.upto fnExactCountLinearSpec)

end Rows
end Go.Proofs.Ytaomjoaaoaombaa
