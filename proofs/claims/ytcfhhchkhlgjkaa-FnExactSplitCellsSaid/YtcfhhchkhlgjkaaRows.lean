/-
  No cell of these rows narrows 'for every input' (looked for: loops, veiled, ifaces, maps, wideKeys, modest, calm, conditions, laid).
  DERIVED. THE GIVEN ROWS OF THIS SEAT. 8 by the template 'for every input the law returns true; each argument reads behind the call as it read before'; 0 by the template 'total and deterministic' (their statements: YtcfhhchkhlgjkaaTotals.lean).
  GIVEN WITH THE SEED: the statements are not yours to turn. If you find one false, say at which input.
  Laid BY PROGRAM, IN A SANDBOX (cutbox-rows.mjs): the forced cells as the released guide's own fill.sh prints them over the translation 211e34392a45872c… (all of the seat's roots in one cut). By AI agents, Wed Nov 11 2026. No macro, syntax, notation, axiom, sorry.
-/
import Derived.Test.YtcfhhchkhlgjkaaChecked
import GoSem.Claim
import GoSem.ClaimJoined
import GoSem.ClaimMapViews
import Derived.JoinedTies
import Derived.KernelRfl
namespace Go.Proofs.Ytcfhhchkhlgjkaa
/- THE CELL 'sum', in the pinned program and in every row, IS THE sha256 OF THE DUMP (.gsa) THAT YtcfhhchkhlgjkaaProg.lean LOADS. Nothing in Lean hashes anything: it is a label: what it is worth is what the hold of that sum in a sandbox is worth. -/
noncomputable def Try.pinned : Pinned := { name := "ytcfhhchkhlgjkaa", sum := "211e34392a45872c13ba39665c01584079cf6139a199bc05404f2c3457442a90", checked := Try.checked }
namespace Rows
def none {H : Type} : Left H := { results := [], args := [] }

/-- 'laws.FnExactTableOfOrder': WHATEVER THE INPUT: true; the input reads as it did. -/
def fnExactTableOfOrderSpec : ChangeSpec := { name := "fnExactTableOfOrder", fn := fun _ => fun
  | [d1, d2, d3] => { results := [.lit (.bool true)], args := [d1, d2, d3] }
  | _ => none }
def fnExactTableOfOrderRow : OpenClaim := { program := "ytcfhhchkhlgjkaa", sum := "211e34392a45872c13ba39665c01584079cf6139a199bc05404f2c3457442a90", func := "loop.example/g01106/laws.FnExactTableOfOrder", spec := "fnExactTableOfOrder", unfollowed := true, recurses := true, apart := false }
def FnExactTableOfOrderSaid : Prop := fnExactTableOfOrderRow.holds Try.pinned (OpenSpec.ofChange fnExactTableOfOrderSpec)

/-- ITS FALSE NEIGHBOUR: 'it returns false'. Refute it at one input. -/
def fnExactTableOfOrderWrong : ChangeSpec := { name := "fnExactTableOfOrder", fn := fun _ => fun
  | [d1, d2, d3] => { results := [.lit (.bool false)], args := [d1, d2, d3] }
  | _ => none }
def FnExactTableOfOrderWrongFalsely : Prop := fnExactTableOfOrderRow.holds Try.pinned (OpenSpec.ofChange fnExactTableOfOrderWrong)

/-- 'laws.FnExactCountBiorders': WHATEVER THE INPUT: true; the input reads as it did. -/
def fnExactCountBiordersSpec : ChangeSpec := { name := "fnExactCountBiorders", fn := fun _ => fun
  | [d1, d2] => { results := [.lit (.bool true)], args := [d1, d2] }
  | _ => none }
def fnExactCountBiordersRow : OpenClaim := { program := "ytcfhhchkhlgjkaa", sum := "211e34392a45872c13ba39665c01584079cf6139a199bc05404f2c3457442a90", func := "loop.example/g01106/laws.FnExactCountBiorders", spec := "fnExactCountBiorders", recurses := true, apart := false }
def FnExactCountBiordersSaid : Prop := fnExactCountBiordersRow.holds Try.pinned (OpenSpec.ofChange fnExactCountBiordersSpec)

/-- ITS FALSE NEIGHBOUR: 'it returns false'. Refute it at one input. -/
def fnExactCountBiordersWrong : ChangeSpec := { name := "fnExactCountBiorders", fn := fun _ => fun
  | [d1, d2] => { results := [.lit (.bool false)], args := [d1, d2] }
  | _ => none }
def FnExactCountBiordersWrongFalsely : Prop := fnExactCountBiordersRow.holds Try.pinned (OpenSpec.ofChange fnExactCountBiordersWrong)

/-- 'laws.FnExactEmptyCells': WHATEVER THE INPUT: true; the input reads as it did. -/
def fnExactEmptyCellsSpec : ChangeSpec := { name := "fnExactEmptyCells", fn := fun _ => fun
  | [d] => { results := [.lit (.bool true)], args := [d] }
  | _ => none }
def fnExactEmptyCellsRow : OpenClaim := { program := "ytcfhhchkhlgjkaa", sum := "211e34392a45872c13ba39665c01584079cf6139a199bc05404f2c3457442a90", func := "loop.example/g01106/laws.FnExactEmptyCells", spec := "fnExactEmptyCells", apart := false }
def FnExactEmptyCellsSaid : Prop := fnExactEmptyCellsRow.holds Try.pinned (OpenSpec.ofChange fnExactEmptyCellsSpec)

/-- ITS FALSE NEIGHBOUR: 'it returns false'. Refute it at one input. -/
def fnExactEmptyCellsWrong : ChangeSpec := { name := "fnExactEmptyCells", fn := fun _ => fun
  | [d] => { results := [.lit (.bool false)], args := [d] }
  | _ => none }
def FnExactEmptyCellsWrongFalsely : Prop := fnExactEmptyCellsRow.holds Try.pinned (OpenSpec.ofChange fnExactEmptyCellsWrong)

/-- 'laws.FnExactFreeOrder': WHATEVER THE INPUT: true; the input reads as it did. -/
def fnExactFreeOrderSpec : ChangeSpec := { name := "fnExactFreeOrder", fn := fun _ => fun
  | [d1, d2] => { results := [.lit (.bool true)], args := [d1, d2] }
  | _ => none }
def fnExactFreeOrderRow : OpenClaim := { program := "ytcfhhchkhlgjkaa", sum := "211e34392a45872c13ba39665c01584079cf6139a199bc05404f2c3457442a90", func := "loop.example/g01106/laws.FnExactFreeOrder", spec := "fnExactFreeOrder", unfollowed := true, recurses := true, apart := false }
def FnExactFreeOrderSaid : Prop := fnExactFreeOrderRow.holds Try.pinned (OpenSpec.ofChange fnExactFreeOrderSpec)

/-- ITS FALSE NEIGHBOUR: 'it returns false'. Refute it at one input. -/
def fnExactFreeOrderWrong : ChangeSpec := { name := "fnExactFreeOrder", fn := fun _ => fun
  | [d1, d2] => { results := [.lit (.bool false)], args := [d1, d2] }
  | _ => none }
def FnExactFreeOrderWrongFalsely : Prop := fnExactFreeOrderRow.holds Try.pinned (OpenSpec.ofChange fnExactFreeOrderWrong)

/-- 'laws.FnExactCoverOf': WHATEVER THE INPUT: true; the input reads as it did. -/
def fnExactCoverOfSpec : ChangeSpec := { name := "fnExactCoverOf", fn := fun _ => fun
  | [d1, d2] => { results := [.lit (.bool true)], args := [d1, d2] }
  | _ => none }
def fnExactCoverOfRow : OpenClaim := { program := "ytcfhhchkhlgjkaa", sum := "211e34392a45872c13ba39665c01584079cf6139a199bc05404f2c3457442a90", func := "loop.example/g01106/laws.FnExactCoverOf", spec := "fnExactCoverOf", unfollowed := true, recurses := true, apart := false }
def FnExactCoverOfSaid : Prop := fnExactCoverOfRow.holds Try.pinned (OpenSpec.ofChange fnExactCoverOfSpec)

/-- ITS FALSE NEIGHBOUR: 'it returns false'. Refute it at one input. -/
def fnExactCoverOfWrong : ChangeSpec := { name := "fnExactCoverOf", fn := fun _ => fun
  | [d1, d2] => { results := [.lit (.bool false)], args := [d1, d2] }
  | _ => none }
def FnExactCoverOfWrongFalsely : Prop := fnExactCoverOfRow.holds Try.pinned (OpenSpec.ofChange fnExactCoverOfWrong)

/-- 'laws.FnExactSplitCells': WHATEVER THE INPUT: true; the input reads as it did. -/
def fnExactSplitCellsSpec : ChangeSpec := { name := "fnExactSplitCells", fn := fun _ => fun
  | [d1, d2] => { results := [.lit (.bool true)], args := [d1, d2] }
  | _ => none }
def fnExactSplitCellsRow : OpenClaim := { program := "ytcfhhchkhlgjkaa", sum := "211e34392a45872c13ba39665c01584079cf6139a199bc05404f2c3457442a90", func := "loop.example/g01106/laws.FnExactSplitCells", spec := "fnExactSplitCells", unfollowed := true, recurses := true, apart := false }
def FnExactSplitCellsSaid : Prop := fnExactSplitCellsRow.holds Try.pinned (OpenSpec.ofChange fnExactSplitCellsSpec)

/-- ITS FALSE NEIGHBOUR: 'it returns false'. Refute it at one input. -/
def fnExactSplitCellsWrong : ChangeSpec := { name := "fnExactSplitCells", fn := fun _ => fun
  | [d1, d2] => { results := [.lit (.bool false)], args := [d1, d2] }
  | _ => none }
def FnExactSplitCellsWrongFalsely : Prop := fnExactSplitCellsRow.holds Try.pinned (OpenSpec.ofChange fnExactSplitCellsWrong)

/-- 'laws.FnExactLeastParts': WHATEVER THE INPUT: true; the input reads as it did. -/
def fnExactLeastPartsSpec : ChangeSpec := { name := "fnExactLeastParts", fn := fun _ => fun
  | [d] => { results := [.lit (.bool true)], args := [d] }
  | _ => none }
def fnExactLeastPartsRow : OpenClaim := { program := "ytcfhhchkhlgjkaa", sum := "211e34392a45872c13ba39665c01584079cf6139a199bc05404f2c3457442a90", func := "loop.example/g01106/laws.FnExactLeastParts", spec := "fnExactLeastParts", unfollowed := true, recurses := true, apart := false }
def FnExactLeastPartsSaid : Prop := fnExactLeastPartsRow.holds Try.pinned (OpenSpec.ofChange fnExactLeastPartsSpec)

/-- ITS FALSE NEIGHBOUR: 'it returns false'. Refute it at one input. -/
def fnExactLeastPartsWrong : ChangeSpec := { name := "fnExactLeastParts", fn := fun _ => fun
  | [d] => { results := [.lit (.bool false)], args := [d] }
  | _ => none }
def FnExactLeastPartsWrongFalsely : Prop := fnExactLeastPartsRow.holds Try.pinned (OpenSpec.ofChange fnExactLeastPartsWrong)

/-- 'laws.FnExactMeetOfBiorders': WHATEVER THE INPUT: true; the input reads as it did. -/
def fnExactMeetOfBiordersSpec : ChangeSpec := { name := "fnExactMeetOfBiorders", fn := fun _ => fun
  | [d] => { results := [.lit (.bool true)], args := [d] }
  | _ => none }
def fnExactMeetOfBiordersRow : OpenClaim := { program := "ytcfhhchkhlgjkaa", sum := "211e34392a45872c13ba39665c01584079cf6139a199bc05404f2c3457442a90", func := "loop.example/g01106/laws.FnExactMeetOfBiorders", spec := "fnExactMeetOfBiorders", unfollowed := true, recurses := true, apart := false }
def FnExactMeetOfBiordersSaid : Prop := fnExactMeetOfBiordersRow.holds Try.pinned (OpenSpec.ofChange fnExactMeetOfBiordersSpec)

/-- ITS FALSE NEIGHBOUR: 'it returns false'. Refute it at one input. -/
def fnExactMeetOfBiordersWrong : ChangeSpec := { name := "fnExactMeetOfBiorders", fn := fun _ => fun
  | [d] => { results := [.lit (.bool false)], args := [d] }
  | _ => none }
def FnExactMeetOfBiordersWrongFalsely : Prop := fnExactMeetOfBiordersRow.holds Try.pinned (OpenSpec.ofChange fnExactMeetOfBiordersWrong)

/- THE SECOND FORM. 'bulk': how many values and letters a reading holds, each counted each time it is reached (what is shared counts as often as it is met; a slice's spare places count too). A statement '..UptoSaid' is the law's where the arguments, and the package variables that the reading takes, are together of bulk at most 1048576: NARROWER than '..Said'. Prove '..Said' where nothing that the law and all that it calls make is longer than what came in: it says more and counts as full. Else prove '..UptoSaid'. A law counts once. -/
mutual
def uptoBulk {H : Type} : DataW H → Nat
  | .lit (.string bytes) => bytes.length + 1
  | .lit _ => 1
  | .nil => 1
  | .ptr d => uptoBulk d + 1
  | .slice elems spare => uptoBulkAll elems + uptoBulkAll spare + 1
  | .agg parts => uptoBulkAll parts + 1
  | .iface _ d => uptoBulk d + 1
  | .map entries => uptoBulkEntries entries + 1
  | .held _ => 1
def uptoBulkAll {H : Type} : List (DataW H) → Nat
  | [] => 0
  | d :: r => uptoBulk d + uptoBulkAll r
def uptoBulkEntries {H : Type} : List (Lit × DataW H) → Nat
  | [] => 0
  | x :: r => uptoBulkEntry x + uptoBulkEntries r
def uptoBulkEntry {H : Type} : Lit × DataW H → Nat
  | (.string bytes, d) => bytes.length + uptoBulk d + 1
  | (_, d) => uptoBulk d + 1
 end
def uptoSmall : (H : Type) → List (DataW H) → Bool := fun _ ds => decide (uptoBulkAll ds ≤ 1048576)
def OpenSpec.upto (s : _root_.Go.ChangeSpec) : _root_.Go.OpenSpec := { _root_.Go.OpenSpec.ofChange s with cond := some uptoSmall }

/-- 'laws.FnExactTableOfOrder', WHERE WHAT IT READS IS OF BULK AT MOST 1048576: true; the input reads as it did. -/
def fnExactTableOfOrderUptoRow : OpenClaim := { program := "ytcfhhchkhlgjkaa", sum := "211e34392a45872c13ba39665c01584079cf6139a199bc05404f2c3457442a90", func := "loop.example/g01106/laws.FnExactTableOfOrder", spec := "fnExactTableOfOrder", unfollowed := true, recurses := true, apart := false, narrowed := true }
def FnExactTableOfOrderUptoSaid : Prop := fnExactTableOfOrderUptoRow.holds Try.pinned (OpenSpec.upto fnExactTableOfOrderSpec)

/-- 'laws.FnExactCountBiorders', WHERE WHAT IT READS IS OF BULK AT MOST 1048576: true; the input reads as it did. -/
def fnExactCountBiordersUptoRow : OpenClaim := { program := "ytcfhhchkhlgjkaa", sum := "211e34392a45872c13ba39665c01584079cf6139a199bc05404f2c3457442a90", func := "loop.example/g01106/laws.FnExactCountBiorders", spec := "fnExactCountBiorders", recurses := true, apart := false, narrowed := true }
def FnExactCountBiordersUptoSaid : Prop := fnExactCountBiordersUptoRow.holds Try.pinned (OpenSpec.upto fnExactCountBiordersSpec)

/-- 'laws.FnExactEmptyCells', WHERE WHAT IT READS IS OF BULK AT MOST 1048576: true; the input reads as it did. -/
def fnExactEmptyCellsUptoRow : OpenClaim := { program := "ytcfhhchkhlgjkaa", sum := "211e34392a45872c13ba39665c01584079cf6139a199bc05404f2c3457442a90", func := "loop.example/g01106/laws.FnExactEmptyCells", spec := "fnExactEmptyCells", apart := false, narrowed := true }
def FnExactEmptyCellsUptoSaid : Prop := fnExactEmptyCellsUptoRow.holds Try.pinned (OpenSpec.upto fnExactEmptyCellsSpec)

/-- 'laws.FnExactFreeOrder', WHERE WHAT IT READS IS OF BULK AT MOST 1048576: true; the input reads as it did. -/
def fnExactFreeOrderUptoRow : OpenClaim := { program := "ytcfhhchkhlgjkaa", sum := "211e34392a45872c13ba39665c01584079cf6139a199bc05404f2c3457442a90", func := "loop.example/g01106/laws.FnExactFreeOrder", spec := "fnExactFreeOrder", unfollowed := true, recurses := true, apart := false, narrowed := true }
def FnExactFreeOrderUptoSaid : Prop := fnExactFreeOrderUptoRow.holds Try.pinned (OpenSpec.upto fnExactFreeOrderSpec)

/-- 'laws.FnExactCoverOf', WHERE WHAT IT READS IS OF BULK AT MOST 1048576: true; the input reads as it did. -/
def fnExactCoverOfUptoRow : OpenClaim := { program := "ytcfhhchkhlgjkaa", sum := "211e34392a45872c13ba39665c01584079cf6139a199bc05404f2c3457442a90", func := "loop.example/g01106/laws.FnExactCoverOf", spec := "fnExactCoverOf", unfollowed := true, recurses := true, apart := false, narrowed := true }
def FnExactCoverOfUptoSaid : Prop := fnExactCoverOfUptoRow.holds Try.pinned (OpenSpec.upto fnExactCoverOfSpec)

/-- 'laws.FnExactSplitCells', WHERE WHAT IT READS IS OF BULK AT MOST 1048576: true; the input reads as it did. -/
def fnExactSplitCellsUptoRow : OpenClaim := { program := "ytcfhhchkhlgjkaa", sum := "211e34392a45872c13ba39665c01584079cf6139a199bc05404f2c3457442a90", func := "loop.example/g01106/laws.FnExactSplitCells", spec := "fnExactSplitCells", unfollowed := true, recurses := true, apart := false, narrowed := true }
def FnExactSplitCellsUptoSaid : Prop := fnExactSplitCellsUptoRow.holds Try.pinned (OpenSpec.upto fnExactSplitCellsSpec)

/-- 'laws.FnExactLeastParts', WHERE WHAT IT READS IS OF BULK AT MOST 1048576: true; the input reads as it did. -/
def fnExactLeastPartsUptoRow : OpenClaim := { program := "ytcfhhchkhlgjkaa", sum := "211e34392a45872c13ba39665c01584079cf6139a199bc05404f2c3457442a90", func := "loop.example/g01106/laws.FnExactLeastParts", spec := "fnExactLeastParts", unfollowed := true, recurses := true, apart := false, narrowed := true }
def FnExactLeastPartsUptoSaid : Prop := fnExactLeastPartsUptoRow.holds Try.pinned (OpenSpec.upto fnExactLeastPartsSpec)

/-- 'laws.FnExactMeetOfBiorders', WHERE WHAT IT READS IS OF BULK AT MOST 1048576: true; the input reads as it did. -/
def fnExactMeetOfBiordersUptoRow : OpenClaim := { program := "ytcfhhchkhlgjkaa", sum := "211e34392a45872c13ba39665c01584079cf6139a199bc05404f2c3457442a90", func := "loop.example/g01106/laws.FnExactMeetOfBiorders", spec := "fnExactMeetOfBiorders", unfollowed := true, recurses := true, apart := false, narrowed := true }
def FnExactMeetOfBiordersUptoSaid : Prop := fnExactMeetOfBiordersUptoRow.holds Try.pinned (OpenSpec.upto fnExactMeetOfBiordersSpec)

end Rows
end Go.Proofs.Ytcfhhchkhlgjkaa
