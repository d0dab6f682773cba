/-
  No cell of these rows narrows 'for every input' (looked for: loops, veiled, ifaces, maps, wideKeys, modest, calm, conditions, laid).
  DERIVED. THE GIVEN ROWS OF THIS SEAT. 6 by the template 'for every input the law returns true; each argument reads behind the call as it read before'; 0 by the template 'total and deterministic' (their statements: YtkpfjemlldiogaaTotals.lean).
  GIVEN WITH THE SEED: the statements are not yours to turn. If you find one false, say at which input.
  Laid BY PROGRAM, IN A SANDBOX (cutbox-rows.mjs): the forced cells as the released guide's own fill.sh prints them over the translation 4e2dea36e52a6751… (all of the seat's roots in one cut). By AI agents, Wed Nov 11 2026. No macro, syntax, notation, axiom, sorry.
-/
import Derived.Test.YtkpfjemlldiogaaChecked
import GoSem.Claim
import GoSem.ClaimJoined
import GoSem.ClaimMapViews
import Derived.JoinedTies
import Derived.KernelRfl
namespace Go.Proofs.Ytkpfjemlldiogaa
/- THE CELL 'sum', in the pinned program and in every row, IS THE sha256 OF THE DUMP (.gsa) THAT YtkpfjemlldiogaaProg.lean LOADS. Nothing in Lean hashes anything: it is a label: what it is worth is what the hold of that sum in a sandbox is worth. -/
noncomputable def Try.pinned : Pinned := { name := "ytkpfjemlldiogaa", sum := "4e2dea36e52a67511760e36be31a6ffff88489b1ec2384b47e9a2c14ad9f86e2", checked := Try.checked }
namespace Rows
def none {H : Type} : Left H := { results := [], args := [] }

/-- 'laws.FnPatterns': WHATEVER THE INPUT: true; the input reads as it did. -/
def fnPatternsSpec : ChangeSpec := { name := "fnPatterns", fn := fun _ => fun
  | [d1, d2] => { results := [.lit (.bool true)], args := [d1, d2] }
  | _ => none }
def fnPatternsRow : OpenClaim := { program := "ytkpfjemlldiogaa", sum := "4e2dea36e52a67511760e36be31a6ffff88489b1ec2384b47e9a2c14ad9f86e2", func := "loop.example/g01106/laws.FnPatterns", spec := "fnPatterns", recurses := true, apart := false }
def FnPatternsSaid : Prop := fnPatternsRow.holds Try.pinned (OpenSpec.ofChange fnPatternsSpec)

/-- ITS FALSE NEIGHBOUR: 'it returns false'. Refute it at one input. -/
def fnPatternsWrong : ChangeSpec := { name := "fnPatterns", fn := fun _ => fun
  | [d1, d2] => { results := [.lit (.bool false)], args := [d1, d2] }
  | _ => none }
def FnPatternsWrongFalsely : Prop := fnPatternsRow.holds Try.pinned (OpenSpec.ofChange fnPatternsWrong)

/-- 'laws.FnRationalTables': WHATEVER THE INPUT: true; the input reads as it did. -/
def fnRationalTablesSpec : ChangeSpec := { name := "fnRationalTables", fn := fun _ => fun
  | [d1, d2] => { results := [.lit (.bool true)], args := [d1, d2] }
  | _ => none }
def fnRationalTablesRow : OpenClaim := { program := "ytkpfjemlldiogaa", sum := "4e2dea36e52a67511760e36be31a6ffff88489b1ec2384b47e9a2c14ad9f86e2", func := "loop.example/g01106/laws.FnRationalTables", spec := "fnRationalTables", unfollowed := true, recurses := true, apart := false }
def FnRationalTablesSaid : Prop := fnRationalTablesRow.holds Try.pinned (OpenSpec.ofChange fnRationalTablesSpec)

/-- ITS FALSE NEIGHBOUR: 'it returns false'. Refute it at one input. -/
def fnRationalTablesWrong : ChangeSpec := { name := "fnRationalTables", fn := fun _ => fun
  | [d1, d2] => { results := [.lit (.bool false)], args := [d1, d2] }
  | _ => none }
def FnRationalTablesWrongFalsely : Prop := fnRationalTablesRow.holds Try.pinned (OpenSpec.ofChange fnRationalTablesWrong)

/-- 'laws.FnCovers': WHATEVER THE INPUT: true; the input reads as it did. -/
def fnCoversSpec : ChangeSpec := { name := "fnCovers", fn := fun _ => fun
  | [d1, d2] => { results := [.lit (.bool true)], args := [d1, d2] }
  | _ => none }
def fnCoversRow : OpenClaim := { program := "ytkpfjemlldiogaa", sum := "4e2dea36e52a67511760e36be31a6ffff88489b1ec2384b47e9a2c14ad9f86e2", func := "loop.example/g01106/laws.FnCovers", spec := "fnCovers", unfollowed := true, recurses := true, apart := false }
def FnCoversSaid : Prop := fnCoversRow.holds Try.pinned (OpenSpec.ofChange fnCoversSpec)

/-- ITS FALSE NEIGHBOUR: 'it returns false'. Refute it at one input. -/
def fnCoversWrong : ChangeSpec := { name := "fnCovers", fn := fun _ => fun
  | [d1, d2] => { results := [.lit (.bool false)], args := [d1, d2] }
  | _ => none }
def FnCoversWrongFalsely : Prop := fnCoversRow.holds Try.pinned (OpenSpec.ofChange fnCoversWrong)

/-- 'laws.FnAscentsAreMatrices': WHATEVER THE INPUT: true; the input reads as it did. -/
def fnAscentsAreMatricesSpec : ChangeSpec := { name := "fnAscentsAreMatrices", fn := fun _ => fun
  | [d1, d2] => { results := [.lit (.bool true)], args := [d1, d2] }
  | _ => none }
def fnAscentsAreMatricesRow : OpenClaim := { program := "ytkpfjemlldiogaa", sum := "4e2dea36e52a67511760e36be31a6ffff88489b1ec2384b47e9a2c14ad9f86e2", func := "loop.example/g01106/laws.FnAscentsAreMatrices", spec := "fnAscentsAreMatrices", inPlace := ["slices.overlaps[[]int]", "slices.overlaps[int]"], apart := false }
def FnAscentsAreMatricesSaid : Prop := fnAscentsAreMatricesRow.holds Try.pinned (OpenSpec.ofChange fnAscentsAreMatricesSpec)

/-- ITS FALSE NEIGHBOUR: 'it returns false'. Refute it at one input. -/
def fnAscentsAreMatricesWrong : ChangeSpec := { name := "fnAscentsAreMatrices", fn := fun _ => fun
  | [d1, d2] => { results := [.lit (.bool false)], args := [d1, d2] }
  | _ => none }
def FnAscentsAreMatricesWrongFalsely : Prop := fnAscentsAreMatricesRow.holds Try.pinned (OpenSpec.ofChange fnAscentsAreMatricesWrong)

/-- 'laws.FnMatchingsAreMatrices': WHATEVER THE INPUT: true; the input reads as it did. -/
def fnMatchingsAreMatricesSpec : ChangeSpec := { name := "fnMatchingsAreMatrices", fn := fun _ => fun
  | [d1, d2] => { results := [.lit (.bool true)], args := [d1, d2] }
  | _ => none }
def fnMatchingsAreMatricesRow : OpenClaim := { program := "ytkpfjemlldiogaa", sum := "4e2dea36e52a67511760e36be31a6ffff88489b1ec2384b47e9a2c14ad9f86e2", func := "loop.example/g01106/laws.FnMatchingsAreMatrices", spec := "fnMatchingsAreMatrices", apart := false }
def FnMatchingsAreMatricesSaid : Prop := fnMatchingsAreMatricesRow.holds Try.pinned (OpenSpec.ofChange fnMatchingsAreMatricesSpec)

/-- ITS FALSE NEIGHBOUR: 'it returns false'. Refute it at one input. -/
def fnMatchingsAreMatricesWrong : ChangeSpec := { name := "fnMatchingsAreMatrices", fn := fun _ => fun
  | [d1, d2] => { results := [.lit (.bool false)], args := [d1, d2] }
  | _ => none }
def FnMatchingsAreMatricesWrongFalsely : Prop := fnMatchingsAreMatricesRow.holds Try.pinned (OpenSpec.ofChange fnMatchingsAreMatricesWrong)

/-- 'laws.FnTidyMatchings': WHATEVER THE INPUT: true; the input reads as it did. -/
def fnTidyMatchingsSpec : ChangeSpec := { name := "fnTidyMatchings", fn := fun _ => fun
  | [d1, d2] => { results := [.lit (.bool true)], args := [d1, d2] }
  | _ => none }
def fnTidyMatchingsRow : OpenClaim := { program := "ytkpfjemlldiogaa", sum := "4e2dea36e52a67511760e36be31a6ffff88489b1ec2384b47e9a2c14ad9f86e2", func := "loop.example/g01106/laws.FnTidyMatchings", spec := "fnTidyMatchings", apart := false }
def FnTidyMatchingsSaid : Prop := fnTidyMatchingsRow.holds Try.pinned (OpenSpec.ofChange fnTidyMatchingsSpec)

/-- ITS FALSE NEIGHBOUR: 'it returns false'. Refute it at one input. -/
def fnTidyMatchingsWrong : ChangeSpec := { name := "fnTidyMatchings", fn := fun _ => fun
  | [d1, d2] => { results := [.lit (.bool false)], args := [d1, d2] }
  | _ => none }
def FnTidyMatchingsWrongFalsely : Prop := fnTidyMatchingsRow.holds Try.pinned (OpenSpec.ofChange fnTidyMatchingsWrong)

/- THE SECOND FORM. 'bulk': how many values and letters a reading holds, each counted each time it is reached (what is shared counts as often as it is met; a slice's spare places count too). A statement '..UptoSaid' is the law's where the arguments, and the package variables that the reading takes, are together of bulk at most 1048576: NARROWER than '..Said'. Prove '..Said' where nothing that the law and all that it calls make is longer than what came in: it says more and counts as full. Else prove '..UptoSaid'. A law counts once. -/
mutual
def uptoBulk {H : Type} : DataW H → Nat
  | .lit (.string bytes) => bytes.length + 1
  | .lit _ => 1
  | .nil => 1
  | .ptr d => uptoBulk d + 1
  | .slice elems spare => uptoBulkAll elems + uptoBulkAll spare + 1
  | .agg parts => uptoBulkAll parts + 1
  | .iface _ d => uptoBulk d + 1
  | .map entries => uptoBulkEntries entries + 1
  | .held _ => 1
def uptoBulkAll {H : Type} : List (DataW H) → Nat
  | [] => 0
  | d :: r => uptoBulk d + uptoBulkAll r
def uptoBulkEntries {H : Type} : List (Lit × DataW H) → Nat
  | [] => 0
  | x :: r => uptoBulkEntry x + uptoBulkEntries r
def uptoBulkEntry {H : Type} : Lit × DataW H → Nat
  | (.string bytes, d) => bytes.length + uptoBulk d + 1
  | (_, d) => uptoBulk d + 1
 end
def uptoSmall : (H : Type) → List (DataW H) → Bool := fun _ ds => decide (uptoBulkAll ds ≤ 1048576)
def OpenSpec.upto (s : _root_.Go.ChangeSpec) : _root_.Go.OpenSpec := { _root_.Go.OpenSpec.ofChange s with cond := some uptoSmall }

/-- 'laws.FnPatterns', WHERE WHAT IT READS IS OF BULK AT MOST 1048576: true; the input reads as it did. -/
def fnPatternsUptoRow : OpenClaim := { program := "ytkpfjemlldiogaa", sum := "4e2dea36e52a67511760e36be31a6ffff88489b1ec2384b47e9a2c14ad9f86e2", func := "loop.example/g01106/laws.FnPatterns", spec := "fnPatterns", recurses := true, apart := false, narrowed := true }
def FnPatternsUptoSaid : Prop := fnPatternsUptoRow.holds Try.pinned (OpenSpec.upto fnPatternsSpec)

/-- 'laws.FnRationalTables', WHERE WHAT IT READS IS OF BULK AT MOST 1048576: true; the input reads as it did. -/
def fnRationalTablesUptoRow : OpenClaim := { program := "ytkpfjemlldiogaa", sum := "4e2dea36e52a67511760e36be31a6ffff88489b1ec2384b47e9a2c14ad9f86e2", func := "loop.example/g01106/laws.FnRationalTables", spec := "fnRationalTables", unfollowed := true, recurses := true, apart := false, narrowed := true }
def FnRationalTablesUptoSaid : Prop := fnRationalTablesUptoRow.holds Try.pinned (OpenSpec.upto fnRationalTablesSpec)

/-- 'laws.FnCovers', WHERE WHAT IT READS IS OF BULK AT MOST 1048576: true; the input reads as it did. -/
def fnCoversUptoRow : OpenClaim := { program := "ytkpfjemlldiogaa", sum := "4e2dea36e52a67511760e36be31a6ffff88489b1ec2384b47e9a2c14ad9f86e2", func := "loop.example/g01106/laws.FnCovers", spec := "fnCovers", unfollowed := true, recurses := true, apart := false, narrowed := true }
def FnCoversUptoSaid : Prop := fnCoversUptoRow.holds Try.pinned (OpenSpec.upto fnCoversSpec)

/-- 'laws.FnAscentsAreMatrices', WHERE WHAT IT READS IS OF BULK AT MOST 1048576: true; the input reads as it did. -/
def fnAscentsAreMatricesUptoRow : OpenClaim := { program := "ytkpfjemlldiogaa", sum := "4e2dea36e52a67511760e36be31a6ffff88489b1ec2384b47e9a2c14ad9f86e2", func := "loop.example/g01106/laws.FnAscentsAreMatrices", spec := "fnAscentsAreMatrices", inPlace := ["slices.overlaps[[]int]", "slices.overlaps[int]"], apart := false, narrowed := true }
def FnAscentsAreMatricesUptoSaid : Prop := fnAscentsAreMatricesUptoRow.holds Try.pinned (OpenSpec.upto fnAscentsAreMatricesSpec)

/-- 'laws.FnMatchingsAreMatrices', WHERE WHAT IT READS IS OF BULK AT MOST 1048576: true; the input reads as it did. -/
def fnMatchingsAreMatricesUptoRow : OpenClaim := { program := "ytkpfjemlldiogaa", sum := "4e2dea36e52a67511760e36be31a6ffff88489b1ec2384b47e9a2c14ad9f86e2", func := "loop.example/g01106/laws.FnMatchingsAreMatrices", spec := "fnMatchingsAreMatrices", apart := false, narrowed := true }
def FnMatchingsAreMatricesUptoSaid : Prop := fnMatchingsAreMatricesUptoRow.holds Try.pinned (OpenSpec.upto fnMatchingsAreMatricesSpec)

/-- 'laws.FnTidyMatchings', WHERE WHAT IT READS IS OF BULK AT MOST 1048576: true; the input reads as it did. -/
def fnTidyMatchingsUptoRow : OpenClaim := { program := "ytkpfjemlldiogaa", sum := "4e2dea36e52a67511760e36be31a6ffff88489b1ec2384b47e9a2c14ad9f86e2", func := "loop.example/g01106/laws.FnTidyMatchings", spec := "fnTidyMatchings", apart := false, narrowed := true }
def FnTidyMatchingsUptoSaid : Prop := fnTidyMatchingsUptoRow.holds Try.pinned (OpenSpec.upto fnTidyMatchingsSpec)

end Rows
end Go.Proofs.Ytkpfjemlldiogaa
