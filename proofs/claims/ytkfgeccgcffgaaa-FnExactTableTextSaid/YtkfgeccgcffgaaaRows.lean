/-
  No cell of these rows narrows 'for every input' (looked for: loops, veiled, ifaces, maps, wideKeys, modest, calm, conditions, laid).
  DERIVED. THE GIVEN ROWS OF THIS SEAT. 12 by the template 'for every input the law returns true; each argument reads behind the call as it read before'; 0 by the template 'total and deterministic' (their statements: YtkfgeccgcffgaaaTotals.lean).
  GIVEN WITH THE SEED: the statements are not yours to turn. If you find one false, say at which input.
  Laid BY PROGRAM, IN A SANDBOX (cutbox-rows.mjs): the forced cells as the released guide's own fill.sh prints them over the translation 85d26668d5737042… (all of the seat's roots in one cut). By AI agents, Wed Nov 11 2026. No macro, syntax, notation, axiom, sorry.
-/
import Derived.Test.YtkfgeccgcffgaaaChecked
import GoSem.Claim
import GoSem.ClaimJoined
import GoSem.ClaimMapViews
import Derived.JoinedTies
import Derived.KernelRfl
namespace Go.Proofs.Ytkfgeccgcffgaaa
/- THE CELL 'sum', in the pinned program and in every row, IS THE sha256 OF THE DUMP (.gsa) THAT YtkfgeccgcffgaaaProg.lean LOADS. Nothing in Lean hashes anything: it is a label: what it is worth is what the hold of that sum in a sandbox is worth. -/
noncomputable def Try.pinned : Pinned := { name := "ytkfgeccgcffgaaa", sum := "85d26668d573704279a7300fabd8eb2dad1968fdb36e1ddfe8f455a84212f8e8", checked := Try.checked }
namespace Rows
def none {H : Type} : Left H := { results := [], args := [] }

/-- 'laws.FnExactIsTable': WHATEVER THE INPUT: true; the input reads as it did. -/
def fnExactIsTableSpec : ChangeSpec := { name := "fnExactIsTable", fn := fun _ => fun
  | [d] => { results := [.lit (.bool true)], args := [d] }
  | _ => none }
def fnExactIsTableRow : OpenClaim := { program := "ytkfgeccgcffgaaa", sum := "85d26668d573704279a7300fabd8eb2dad1968fdb36e1ddfe8f455a84212f8e8", func := "loop.example/g01106/laws.FnExactIsTable", spec := "fnExactIsTable", apart := false }
def FnExactIsTableSaid : Prop := fnExactIsTableRow.holds Try.pinned (OpenSpec.ofChange fnExactIsTableSpec)

/-- ITS FALSE NEIGHBOUR: 'it returns false'. Refute it at one input. -/
def fnExactIsTableWrong : ChangeSpec := { name := "fnExactIsTable", fn := fun _ => fun
  | [d] => { results := [.lit (.bool false)], args := [d] }
  | _ => none }
def FnExactIsTableWrongFalsely : Prop := fnExactIsTableRow.holds Try.pinned (OpenSpec.ofChange fnExactIsTableWrong)

/-- 'laws.FnExactFourCells': WHATEVER THE INPUT: true; the input reads as it did. -/
def fnExactFourCellsSpec : ChangeSpec := { name := "fnExactFourCells", fn := fun _ => fun
  | [d] => { results := [.lit (.bool true)], args := [d] }
  | _ => none }
def fnExactFourCellsRow : OpenClaim := { program := "ytkfgeccgcffgaaa", sum := "85d26668d573704279a7300fabd8eb2dad1968fdb36e1ddfe8f455a84212f8e8", func := "loop.example/g01106/laws.FnExactFourCells", spec := "fnExactFourCells", apart := false }
def FnExactFourCellsSaid : Prop := fnExactFourCellsRow.holds Try.pinned (OpenSpec.ofChange fnExactFourCellsSpec)

/-- ITS FALSE NEIGHBOUR: 'it returns false'. Refute it at one input. -/
def fnExactFourCellsWrong : ChangeSpec := { name := "fnExactFourCells", fn := fun _ => fun
  | [d] => { results := [.lit (.bool false)], args := [d] }
  | _ => none }
def FnExactFourCellsWrongFalsely : Prop := fnExactFourCellsRow.holds Try.pinned (OpenSpec.ofChange fnExactFourCellsWrong)

/-- 'laws.FnExactIsBiorder': WHATEVER THE INPUT: true; the input reads as it did. -/
def fnExactIsBiorderSpec : ChangeSpec := { name := "fnExactIsBiorder", fn := fun _ => fun
  | [d] => { results := [.lit (.bool true)], args := [d] }
  | _ => none }
def fnExactIsBiorderRow : OpenClaim := { program := "ytkfgeccgcffgaaa", sum := "85d26668d573704279a7300fabd8eb2dad1968fdb36e1ddfe8f455a84212f8e8", func := "loop.example/g01106/laws.FnExactIsBiorder", spec := "fnExactIsBiorder", apart := false }
def FnExactIsBiorderSaid : Prop := fnExactIsBiorderRow.holds Try.pinned (OpenSpec.ofChange fnExactIsBiorderSpec)

/-- ITS FALSE NEIGHBOUR: 'it returns false'. Refute it at one input. -/
def fnExactIsBiorderWrong : ChangeSpec := { name := "fnExactIsBiorder", fn := fun _ => fun
  | [d] => { results := [.lit (.bool false)], args := [d] }
  | _ => none }
def FnExactIsBiorderWrongFalsely : Prop := fnExactIsBiorderRow.holds Try.pinned (OpenSpec.ofChange fnExactIsBiorderWrong)

/-- 'laws.FnExactMirrorTable': WHATEVER THE INPUT: true; the input reads as it did. -/
def fnExactMirrorTableSpec : ChangeSpec := { name := "fnExactMirrorTable", fn := fun _ => fun
  | [d] => { results := [.lit (.bool true)], args := [d] }
  | _ => none }
def fnExactMirrorTableRow : OpenClaim := { program := "ytkfgeccgcffgaaa", sum := "85d26668d573704279a7300fabd8eb2dad1968fdb36e1ddfe8f455a84212f8e8", func := "loop.example/g01106/laws.FnExactMirrorTable", spec := "fnExactMirrorTable", unfollowed := true, recurses := true, apart := false }
def FnExactMirrorTableSaid : Prop := fnExactMirrorTableRow.holds Try.pinned (OpenSpec.ofChange fnExactMirrorTableSpec)

/-- ITS FALSE NEIGHBOUR: 'it returns false'. Refute it at one input. -/
def fnExactMirrorTableWrong : ChangeSpec := { name := "fnExactMirrorTable", fn := fun _ => fun
  | [d] => { results := [.lit (.bool false)], args := [d] }
  | _ => none }
def FnExactMirrorTableWrongFalsely : Prop := fnExactMirrorTableRow.holds Try.pinned (OpenSpec.ofChange fnExactMirrorTableWrong)

/-- 'laws.FnExactOppositeTable': WHATEVER THE INPUT: true; the input reads as it did. -/
def fnExactOppositeTableSpec : ChangeSpec := { name := "fnExactOppositeTable", fn := fun _ => fun
  | [d] => { results := [.lit (.bool true)], args := [d] }
  | _ => none }
def fnExactOppositeTableRow : OpenClaim := { program := "ytkfgeccgcffgaaa", sum := "85d26668d573704279a7300fabd8eb2dad1968fdb36e1ddfe8f455a84212f8e8", func := "loop.example/g01106/laws.FnExactOppositeTable", spec := "fnExactOppositeTable", unfollowed := true, recurses := true, apart := false }
def FnExactOppositeTableSaid : Prop := fnExactOppositeTableRow.holds Try.pinned (OpenSpec.ofChange fnExactOppositeTableSpec)

/-- ITS FALSE NEIGHBOUR: 'it returns false'. Refute it at one input. -/
def fnExactOppositeTableWrong : ChangeSpec := { name := "fnExactOppositeTable", fn := fun _ => fun
  | [d] => { results := [.lit (.bool false)], args := [d] }
  | _ => none }
def FnExactOppositeTableWrongFalsely : Prop := fnExactOppositeTableRow.holds Try.pinned (OpenSpec.ofChange fnExactOppositeTableWrong)

/-- 'laws.FnExactMeetTables': WHATEVER THE INPUT: true; the input reads as it did. -/
def fnExactMeetTablesSpec : ChangeSpec := { name := "fnExactMeetTables", fn := fun _ => fun
  | [d1, d2] => { results := [.lit (.bool true)], args := [d1, d2] }
  | _ => none }
def fnExactMeetTablesRow : OpenClaim := { program := "ytkfgeccgcffgaaa", sum := "85d26668d573704279a7300fabd8eb2dad1968fdb36e1ddfe8f455a84212f8e8", func := "loop.example/g01106/laws.FnExactMeetTables", spec := "fnExactMeetTables", unfollowed := true, recurses := true, apart := false }
def FnExactMeetTablesSaid : Prop := fnExactMeetTablesRow.holds Try.pinned (OpenSpec.ofChange fnExactMeetTablesSpec)

/-- ITS FALSE NEIGHBOUR: 'it returns false'. Refute it at one input. -/
def fnExactMeetTablesWrong : ChangeSpec := { name := "fnExactMeetTables", fn := fun _ => fun
  | [d1, d2] => { results := [.lit (.bool false)], args := [d1, d2] }
  | _ => none }
def FnExactMeetTablesWrongFalsely : Prop := fnExactMeetTablesRow.holds Try.pinned (OpenSpec.ofChange fnExactMeetTablesWrong)

/-- 'laws.FnExactTableOfOrder': WHATEVER THE INPUT: true; the input reads as it did. -/
def fnExactTableOfOrderSpec : ChangeSpec := { name := "fnExactTableOfOrder", fn := fun _ => fun
  | [d1, d2, d3] => { results := [.lit (.bool true)], args := [d1, d2, d3] }
  | _ => none }
def fnExactTableOfOrderRow : OpenClaim := { program := "ytkfgeccgcffgaaa", sum := "85d26668d573704279a7300fabd8eb2dad1968fdb36e1ddfe8f455a84212f8e8", func := "loop.example/g01106/laws.FnExactTableOfOrder", spec := "fnExactTableOfOrder", unfollowed := true, recurses := true, apart := false }
def FnExactTableOfOrderSaid : Prop := fnExactTableOfOrderRow.holds Try.pinned (OpenSpec.ofChange fnExactTableOfOrderSpec)

/-- ITS FALSE NEIGHBOUR: 'it returns false'. Refute it at one input. -/
def fnExactTableOfOrderWrong : ChangeSpec := { name := "fnExactTableOfOrder", fn := fun _ => fun
  | [d1, d2, d3] => { results := [.lit (.bool false)], args := [d1, d2, d3] }
  | _ => none }
def FnExactTableOfOrderWrongFalsely : Prop := fnExactTableOfOrderRow.holds Try.pinned (OpenSpec.ofChange fnExactTableOfOrderWrong)

/-- 'laws.FnExactEmptyCells': WHATEVER THE INPUT: true; the input reads as it did. -/
def fnExactEmptyCellsSpec : ChangeSpec := { name := "fnExactEmptyCells", fn := fun _ => fun
  | [d] => { results := [.lit (.bool true)], args := [d] }
  | _ => none }
def fnExactEmptyCellsRow : OpenClaim := { program := "ytkfgeccgcffgaaa", sum := "85d26668d573704279a7300fabd8eb2dad1968fdb36e1ddfe8f455a84212f8e8", func := "loop.example/g01106/laws.FnExactEmptyCells", spec := "fnExactEmptyCells", apart := false }
def FnExactEmptyCellsSaid : Prop := fnExactEmptyCellsRow.holds Try.pinned (OpenSpec.ofChange fnExactEmptyCellsSpec)

/-- ITS FALSE NEIGHBOUR: 'it returns false'. Refute it at one input. -/
def fnExactEmptyCellsWrong : ChangeSpec := { name := "fnExactEmptyCells", fn := fun _ => fun
  | [d] => { results := [.lit (.bool false)], args := [d] }
  | _ => none }
def FnExactEmptyCellsWrongFalsely : Prop := fnExactEmptyCellsRow.holds Try.pinned (OpenSpec.ofChange fnExactEmptyCellsWrong)

/-- 'laws.FnExactFreeOrder': WHATEVER THE INPUT: true; the input reads as it did. -/
def fnExactFreeOrderSpec : ChangeSpec := { name := "fnExactFreeOrder", fn := fun _ => fun
  | [d1, d2] => { results := [.lit (.bool true)], args := [d1, d2] }
  | _ => none }
def fnExactFreeOrderRow : OpenClaim := { program := "ytkfgeccgcffgaaa", sum := "85d26668d573704279a7300fabd8eb2dad1968fdb36e1ddfe8f455a84212f8e8", func := "loop.example/g01106/laws.FnExactFreeOrder", spec := "fnExactFreeOrder", unfollowed := true, recurses := true, apart := false }
def FnExactFreeOrderSaid : Prop := fnExactFreeOrderRow.holds Try.pinned (OpenSpec.ofChange fnExactFreeOrderSpec)

/-- ITS FALSE NEIGHBOUR: 'it returns false'. Refute it at one input. -/
def fnExactFreeOrderWrong : ChangeSpec := { name := "fnExactFreeOrder", fn := fun _ => fun
  | [d1, d2] => { results := [.lit (.bool false)], args := [d1, d2] }
  | _ => none }
def FnExactFreeOrderWrongFalsely : Prop := fnExactFreeOrderRow.holds Try.pinned (OpenSpec.ofChange fnExactFreeOrderWrong)

/-- 'laws.FnExactCoverOf': WHATEVER THE INPUT: true; the input reads as it did. -/
def fnExactCoverOfSpec : ChangeSpec := { name := "fnExactCoverOf", fn := fun _ => fun
  | [d1, d2] => { results := [.lit (.bool true)], args := [d1, d2] }
  | _ => none }
def fnExactCoverOfRow : OpenClaim := { program := "ytkfgeccgcffgaaa", sum := "85d26668d573704279a7300fabd8eb2dad1968fdb36e1ddfe8f455a84212f8e8", func := "loop.example/g01106/laws.FnExactCoverOf", spec := "fnExactCoverOf", unfollowed := true, recurses := true, apart := false }
def FnExactCoverOfSaid : Prop := fnExactCoverOfRow.holds Try.pinned (OpenSpec.ofChange fnExactCoverOfSpec)

/-- ITS FALSE NEIGHBOUR: 'it returns false'. Refute it at one input. -/
def fnExactCoverOfWrong : ChangeSpec := { name := "fnExactCoverOf", fn := fun _ => fun
  | [d1, d2] => { results := [.lit (.bool false)], args := [d1, d2] }
  | _ => none }
def FnExactCoverOfWrongFalsely : Prop := fnExactCoverOfRow.holds Try.pinned (OpenSpec.ofChange fnExactCoverOfWrong)

/-- 'laws.FnExactSplitCells': WHATEVER THE INPUT: true; the input reads as it did. -/
def fnExactSplitCellsSpec : ChangeSpec := { name := "fnExactSplitCells", fn := fun _ => fun
  | [d1, d2] => { results := [.lit (.bool true)], args := [d1, d2] }
  | _ => none }
def fnExactSplitCellsRow : OpenClaim := { program := "ytkfgeccgcffgaaa", sum := "85d26668d573704279a7300fabd8eb2dad1968fdb36e1ddfe8f455a84212f8e8", func := "loop.example/g01106/laws.FnExactSplitCells", spec := "fnExactSplitCells", unfollowed := true, recurses := true, apart := false }
def FnExactSplitCellsSaid : Prop := fnExactSplitCellsRow.holds Try.pinned (OpenSpec.ofChange fnExactSplitCellsSpec)

/-- ITS FALSE NEIGHBOUR: 'it returns false'. Refute it at one input. -/
def fnExactSplitCellsWrong : ChangeSpec := { name := "fnExactSplitCells", fn := fun _ => fun
  | [d1, d2] => { results := [.lit (.bool false)], args := [d1, d2] }
  | _ => none }
def FnExactSplitCellsWrongFalsely : Prop := fnExactSplitCellsRow.holds Try.pinned (OpenSpec.ofChange fnExactSplitCellsWrong)

/-- 'laws.FnExactTableText': WHATEVER THE INPUT: true; the input reads as it did. -/
def fnExactTableTextSpec : ChangeSpec := { name := "fnExactTableText", fn := fun _ => fun
  | [d] => { results := [.lit (.bool true)], args := [d] }
  | _ => none }
def fnExactTableTextRow : OpenClaim := { program := "ytkfgeccgcffgaaa", sum := "85d26668d573704279a7300fabd8eb2dad1968fdb36e1ddfe8f455a84212f8e8", func := "loop.example/g01106/laws.FnExactTableText", spec := "fnExactTableText", inPlace := ["internal/abi.NoEscape"], apart := false }
def FnExactTableTextSaid : Prop := fnExactTableTextRow.holds Try.pinned (OpenSpec.ofChange fnExactTableTextSpec)

/-- ITS FALSE NEIGHBOUR: 'it returns false'. Refute it at one input. -/
def fnExactTableTextWrong : ChangeSpec := { name := "fnExactTableText", fn := fun _ => fun
  | [d] => { results := [.lit (.bool false)], args := [d] }
  | _ => none }
def FnExactTableTextWrongFalsely : Prop := fnExactTableTextRow.holds Try.pinned (OpenSpec.ofChange fnExactTableTextWrong)

/- THE SECOND FORM. 'bulk': how many values and letters a reading holds, each counted each time it is reached (what is shared counts as often as it is met; a slice's spare places count too). A statement '..UptoSaid' is the law's where the arguments, and the package variables that the reading takes, are together of bulk at most 1048576: NARROWER than '..Said'. Prove '..Said' where nothing that the law and all that it calls make is longer than what came in: it says more and counts as full. Else prove '..UptoSaid'. A law counts once. -/
mutual
def uptoBulk {H : Type} : DataW H → Nat
  | .lit (.string bytes) => bytes.length + 1
  | .lit _ => 1
  | .nil => 1
  | .ptr d => uptoBulk d + 1
  | .slice elems spare => uptoBulkAll elems + uptoBulkAll spare + 1
  | .agg parts => uptoBulkAll parts + 1
  | .iface _ d => uptoBulk d + 1
  | .map entries => uptoBulkEntries entries + 1
  | .held _ => 1
def uptoBulkAll {H : Type} : List (DataW H) → Nat
  | [] => 0
  | d :: r => uptoBulk d + uptoBulkAll r
def uptoBulkEntries {H : Type} : List (Lit × DataW H) → Nat
  | [] => 0
  | x :: r => uptoBulkEntry x + uptoBulkEntries r
def uptoBulkEntry {H : Type} : Lit × DataW H → Nat
  | (.string bytes, d) => bytes.length + uptoBulk d + 1
  | (_, d) => uptoBulk d + 1
 end
def uptoSmall : (H : Type) → List (DataW H) → Bool := fun _ ds => decide (uptoBulkAll ds ≤ 1048576)
def OpenSpec.upto (s : _root_.Go.ChangeSpec) : _root_.Go.OpenSpec := { _root_.Go.OpenSpec.ofChange s with cond := some uptoSmall }

/-- 'laws.FnExactIsTable', WHERE WHAT IT READS IS OF BULK AT MOST 1048576: true; the input reads as it did. -/
def fnExactIsTableUptoRow : OpenClaim := { program := "ytkfgeccgcffgaaa", sum := "85d26668d573704279a7300fabd8eb2dad1968fdb36e1ddfe8f455a84212f8e8", func := "loop.example/g01106/laws.FnExactIsTable", spec := "fnExactIsTable", apart := false, narrowed := true }
def FnExactIsTableUptoSaid : Prop := fnExactIsTableUptoRow.holds Try.pinned (OpenSpec.upto fnExactIsTableSpec)

/-- 'laws.FnExactFourCells', WHERE WHAT IT READS IS OF BULK AT MOST 1048576: true; the input reads as it did. -/
def fnExactFourCellsUptoRow : OpenClaim := { program := "ytkfgeccgcffgaaa", sum := "85d26668d573704279a7300fabd8eb2dad1968fdb36e1ddfe8f455a84212f8e8", func := "loop.example/g01106/laws.FnExactFourCells", spec := "fnExactFourCells", apart := false, narrowed := true }
def FnExactFourCellsUptoSaid : Prop := fnExactFourCellsUptoRow.holds Try.pinned (OpenSpec.upto fnExactFourCellsSpec)

/-- 'laws.FnExactIsBiorder', WHERE WHAT IT READS IS OF BULK AT MOST 1048576: true; the input reads as it did. -/
def fnExactIsBiorderUptoRow : OpenClaim := { program := "ytkfgeccgcffgaaa", sum := "85d26668d573704279a7300fabd8eb2dad1968fdb36e1ddfe8f455a84212f8e8", func := "loop.example/g01106/laws.FnExactIsBiorder", spec := "fnExactIsBiorder", apart := false, narrowed := true }
def FnExactIsBiorderUptoSaid : Prop := fnExactIsBiorderUptoRow.holds Try.pinned (OpenSpec.upto fnExactIsBiorderSpec)

/-- 'laws.FnExactMirrorTable', WHERE WHAT IT READS IS OF BULK AT MOST 1048576: true; the input reads as it did. -/
def fnExactMirrorTableUptoRow : OpenClaim := { program := "ytkfgeccgcffgaaa", sum := "85d26668d573704279a7300fabd8eb2dad1968fdb36e1ddfe8f455a84212f8e8", func := "loop.example/g01106/laws.FnExactMirrorTable", spec := "fnExactMirrorTable", unfollowed := true, recurses := true, apart := false, narrowed := true }
def FnExactMirrorTableUptoSaid : Prop := fnExactMirrorTableUptoRow.holds Try.pinned (OpenSpec.upto fnExactMirrorTableSpec)

/-- 'laws.FnExactOppositeTable', WHERE WHAT IT READS IS OF BULK AT MOST 1048576: true; the input reads as it did. -/
def fnExactOppositeTableUptoRow : OpenClaim := { program := "ytkfgeccgcffgaaa", sum := "85d26668d573704279a7300fabd8eb2dad1968fdb36e1ddfe8f455a84212f8e8", func := "loop.example/g01106/laws.FnExactOppositeTable", spec := "fnExactOppositeTable", unfollowed := true, recurses := true, apart := false, narrowed := true }
def FnExactOppositeTableUptoSaid : Prop := fnExactOppositeTableUptoRow.holds Try.pinned (OpenSpec.upto fnExactOppositeTableSpec)

/-- 'laws.FnExactMeetTables', WHERE WHAT IT READS IS OF BULK AT MOST 1048576: true; the input reads as it did. -/
def fnExactMeetTablesUptoRow : OpenClaim := { program := "ytkfgeccgcffgaaa", sum := "85d26668d573704279a7300fabd8eb2dad1968fdb36e1ddfe8f455a84212f8e8", func := "loop.example/g01106/laws.FnExactMeetTables", spec := "fnExactMeetTables", unfollowed := true, recurses := true, apart := false, narrowed := true }
def FnExactMeetTablesUptoSaid : Prop := fnExactMeetTablesUptoRow.holds Try.pinned (OpenSpec.upto fnExactMeetTablesSpec)

/-- 'laws.FnExactTableOfOrder', WHERE WHAT IT READS IS OF BULK AT MOST 1048576: true; the input reads as it did. -/
def fnExactTableOfOrderUptoRow : OpenClaim := { program := "ytkfgeccgcffgaaa", sum := "85d26668d573704279a7300fabd8eb2dad1968fdb36e1ddfe8f455a84212f8e8", func := "loop.example/g01106/laws.FnExactTableOfOrder", spec := "fnExactTableOfOrder", unfollowed := true, recurses := true, apart := false, narrowed := true }
def FnExactTableOfOrderUptoSaid : Prop := fnExactTableOfOrderUptoRow.holds Try.pinned (OpenSpec.upto fnExactTableOfOrderSpec)

/-- 'laws.FnExactEmptyCells', WHERE WHAT IT READS IS OF BULK AT MOST 1048576: true; the input reads as it did. -/
def fnExactEmptyCellsUptoRow : OpenClaim := { program := "ytkfgeccgcffgaaa", sum := "85d26668d573704279a7300fabd8eb2dad1968fdb36e1ddfe8f455a84212f8e8", func := "loop.example/g01106/laws.FnExactEmptyCells", spec := "fnExactEmptyCells", apart := false, narrowed := true }
def FnExactEmptyCellsUptoSaid : Prop := fnExactEmptyCellsUptoRow.holds Try.pinned (OpenSpec.upto fnExactEmptyCellsSpec)

/-- 'laws.FnExactFreeOrder', WHERE WHAT IT READS IS OF BULK AT MOST 1048576: true; the input reads as it did. -/
def fnExactFreeOrderUptoRow : OpenClaim := { program := "ytkfgeccgcffgaaa", sum := "85d26668d573704279a7300fabd8eb2dad1968fdb36e1ddfe8f455a84212f8e8", func := "loop.example/g01106/laws.FnExactFreeOrder", spec := "fnExactFreeOrder", unfollowed := true, recurses := true, apart := false, narrowed := true }
def FnExactFreeOrderUptoSaid : Prop := fnExactFreeOrderUptoRow.holds Try.pinned (OpenSpec.upto fnExactFreeOrderSpec)

/-- 'laws.FnExactCoverOf', WHERE WHAT IT READS IS OF BULK AT MOST 1048576: true; the input reads as it did. -/
def fnExactCoverOfUptoRow : OpenClaim := { program := "ytkfgeccgcffgaaa", sum := "85d26668d573704279a7300fabd8eb2dad1968fdb36e1ddfe8f455a84212f8e8", func := "loop.example/g01106/laws.FnExactCoverOf", spec := "fnExactCoverOf", unfollowed := true, recurses := true, apart := false, narrowed := true }
def FnExactCoverOfUptoSaid : Prop := fnExactCoverOfUptoRow.holds Try.pinned (OpenSpec.upto fnExactCoverOfSpec)

/-- 'laws.FnExactSplitCells', WHERE WHAT IT READS IS OF BULK AT MOST 1048576: true; the input reads as it did. -/
def fnExactSplitCellsUptoRow : OpenClaim := { program := "ytkfgeccgcffgaaa", sum := "85d26668d573704279a7300fabd8eb2dad1968fdb36e1ddfe8f455a84212f8e8", func := "loop.example/g01106/laws.FnExactSplitCells", spec := "fnExactSplitCells", unfollowed := true, recurses := true, apart := false, narrowed := true }
def FnExactSplitCellsUptoSaid : Prop := fnExactSplitCellsUptoRow.holds Try.pinned (OpenSpec.upto fnExactSplitCellsSpec)

/-- 'laws.FnExactTableText', WHERE WHAT IT READS IS OF BULK AT MOST 1048576: true; the input reads as it did. -/
def fnExactTableTextUptoRow : OpenClaim := { program := "ytkfgeccgcffgaaa", sum := "85d26668d573704279a7300fabd8eb2dad1968fdb36e1ddfe8f455a84212f8e8", func := "loop.example/g01106/laws.FnExactTableText", spec := "fnExactTableText", inPlace := ["internal/abi.NoEscape"], apart := false, narrowed := true }
def FnExactTableTextUptoSaid : Prop := fnExactTableTextUptoRow.holds Try.pinned (OpenSpec.upto fnExactTableTextSpec)

end Rows
end Go.Proofs.Ytkfgeccgcffgaaa
