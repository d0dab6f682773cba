/-
  No cell of these rows narrows 'for every input' (looked for: loops, veiled, ifaces, maps, wideKeys, modest, calm, conditions, laid).
  DERIVED. THE GIVEN ROWS OF THIS SEAT. 10 by the template 'for every input the law returns true; each argument reads behind the call as it read before'; 0 by the template 'total and deterministic' (their statements: YtpdnlcgclopjmaaTotals.lean).
  GIVEN WITH THE SEED: the statements are not yours to turn. If you find one false, say at which input.
  Laid BY PROGRAM, IN A SANDBOX (cutbox-rows.mjs): the forced cells as the released guide's own fill.sh prints them over the translation 73d2b10b81ae8e32… (all of the seat's roots in one cut). By AI agents, Wed Nov 11 2026. No macro, syntax, notation, axiom, sorry.
-/
import Derived.Test.YtpdnlcgclopjmaaChecked
import GoSem.Claim
import GoSem.ClaimJoined
import GoSem.ClaimMapViews
import Derived.JoinedTies
import Derived.KernelRfl
namespace Go.Proofs.Ytpdnlcgclopjmaa
/- THE CELL 'sum', in the pinned program and in every row, IS THE sha256 OF THE DUMP (.gsa) THAT YtpdnlcgclopjmaaProg.lean LOADS. Nothing in Lean hashes anything: it is a label: what it is worth is what the hold of that sum in a sandbox is worth. -/
noncomputable def Try.pinned : Pinned := { name := "ytpdnlcgclopjmaa", sum := "73d2b10b81ae8e326d9550a52f9b71e5d7e12d7d232be0398903d92d257d000b", checked := Try.checked }
namespace Rows
def none {H : Type} : Left H := { results := [], args := [] }

/-- 'laws.FnExactChoiceOf': WHATEVER THE INPUT: true; the input reads as it did. -/
def fnExactChoiceOfSpec : ChangeSpec := { name := "fnExactChoiceOf", fn := fun _ => fun
  | [d1, d2] => { results := [.lit (.bool true)], args := [d1, d2] }
  | _ => none }
def fnExactChoiceOfRow : OpenClaim := { program := "ytpdnlcgclopjmaa", sum := "73d2b10b81ae8e326d9550a52f9b71e5d7e12d7d232be0398903d92d257d000b", func := "loop.example/g01106/laws.FnExactChoiceOf", spec := "fnExactChoiceOf", apart := false }
def FnExactChoiceOfSaid : Prop := fnExactChoiceOfRow.holds Try.pinned (OpenSpec.ofChange fnExactChoiceOfSpec)

/-- ITS FALSE NEIGHBOUR: 'it returns false'. Refute it at one input. -/
def fnExactChoiceOfWrong : ChangeSpec := { name := "fnExactChoiceOf", fn := fun _ => fun
  | [d1, d2] => { results := [.lit (.bool false)], args := [d1, d2] }
  | _ => none }
def FnExactChoiceOfWrongFalsely : Prop := fnExactChoiceOfRow.holds Try.pinned (OpenSpec.ofChange fnExactChoiceOfWrong)

/-- 'laws.FnExactIsChoiceTable': WHATEVER THE INPUT: true; the input reads as it did. -/
def fnExactIsChoiceTableSpec : ChangeSpec := { name := "fnExactIsChoiceTable", fn := fun _ => fun
  | [d1, d2] => { results := [.lit (.bool true)], args := [d1, d2] }
  | _ => none }
def fnExactIsChoiceTableRow : OpenClaim := { program := "ytpdnlcgclopjmaa", sum := "73d2b10b81ae8e326d9550a52f9b71e5d7e12d7d232be0398903d92d257d000b", func := "loop.example/g01106/laws.FnExactIsChoiceTable", spec := "fnExactIsChoiceTable", apart := false }
def FnExactIsChoiceTableSaid : Prop := fnExactIsChoiceTableRow.holds Try.pinned (OpenSpec.ofChange fnExactIsChoiceTableSpec)

/-- ITS FALSE NEIGHBOUR: 'it returns false'. Refute it at one input. -/
def fnExactIsChoiceTableWrong : ChangeSpec := { name := "fnExactIsChoiceTable", fn := fun _ => fun
  | [d1, d2] => { results := [.lit (.bool false)], args := [d1, d2] }
  | _ => none }
def FnExactIsChoiceTableWrongFalsely : Prop := fnExactIsChoiceTableRow.holds Try.pinned (OpenSpec.ofChange fnExactIsChoiceTableWrong)

/-- 'laws.FnExactRevealedOf': WHATEVER THE INPUT: true; the input reads as it did. -/
def fnExactRevealedOfSpec : ChangeSpec := { name := "fnExactRevealedOf", fn := fun _ => fun
  | [d1, d2] => { results := [.lit (.bool true)], args := [d1, d2] }
  | _ => none }
def fnExactRevealedOfRow : OpenClaim := { program := "ytpdnlcgclopjmaa", sum := "73d2b10b81ae8e326d9550a52f9b71e5d7e12d7d232be0398903d92d257d000b", func := "loop.example/g01106/laws.FnExactRevealedOf", spec := "fnExactRevealedOf", apart := false }
def FnExactRevealedOfSaid : Prop := fnExactRevealedOfRow.holds Try.pinned (OpenSpec.ofChange fnExactRevealedOfSpec)

/-- ITS FALSE NEIGHBOUR: 'it returns false'. Refute it at one input. -/
def fnExactRevealedOfWrong : ChangeSpec := { name := "fnExactRevealedOf", fn := fun _ => fun
  | [d1, d2] => { results := [.lit (.bool false)], args := [d1, d2] }
  | _ => none }
def FnExactRevealedOfWrongFalsely : Prop := fnExactRevealedOfRow.holds Try.pinned (OpenSpec.ofChange fnExactRevealedOfWrong)

/-- 'laws.FnExactIsAcyclic': WHATEVER THE INPUT: true; the input reads as it did. -/
def fnExactIsAcyclicSpec : ChangeSpec := { name := "fnExactIsAcyclic", fn := fun _ => fun
  | [d] => { results := [.lit (.bool true)], args := [d] }
  | _ => none }
def fnExactIsAcyclicRow : OpenClaim := { program := "ytpdnlcgclopjmaa", sum := "73d2b10b81ae8e326d9550a52f9b71e5d7e12d7d232be0398903d92d257d000b", func := "loop.example/g01106/laws.FnExactIsAcyclic", spec := "fnExactIsAcyclic", apart := false }
def FnExactIsAcyclicSaid : Prop := fnExactIsAcyclicRow.holds Try.pinned (OpenSpec.ofChange fnExactIsAcyclicSpec)

/-- ITS FALSE NEIGHBOUR: 'it returns false'. Refute it at one input. -/
def fnExactIsAcyclicWrong : ChangeSpec := { name := "fnExactIsAcyclic", fn := fun _ => fun
  | [d] => { results := [.lit (.bool false)], args := [d] }
  | _ => none }
def FnExactIsAcyclicWrongFalsely : Prop := fnExactIsAcyclicRow.holds Try.pinned (OpenSpec.ofChange fnExactIsAcyclicWrong)

/-- 'laws.FnExactShrinkFails': WHATEVER THE INPUT: true; the input reads as it did. -/
def fnExactShrinkFailsSpec : ChangeSpec := { name := "fnExactShrinkFails", fn := fun _ => fun
  | [d1, d2] => { results := [.lit (.bool true)], args := [d1, d2] }
  | _ => none }
def fnExactShrinkFailsRow : OpenClaim := { program := "ytpdnlcgclopjmaa", sum := "73d2b10b81ae8e326d9550a52f9b71e5d7e12d7d232be0398903d92d257d000b", func := "loop.example/g01106/laws.FnExactShrinkFails", spec := "fnExactShrinkFails", unfollowed := true, recurses := true, apart := false }
def FnExactShrinkFailsSaid : Prop := fnExactShrinkFailsRow.holds Try.pinned (OpenSpec.ofChange fnExactShrinkFailsSpec)

/-- ITS FALSE NEIGHBOUR: 'it returns false'. Refute it at one input. -/
def fnExactShrinkFailsWrong : ChangeSpec := { name := "fnExactShrinkFails", fn := fun _ => fun
  | [d1, d2] => { results := [.lit (.bool false)], args := [d1, d2] }
  | _ => none }
def FnExactShrinkFailsWrongFalsely : Prop := fnExactShrinkFailsRow.holds Try.pinned (OpenSpec.ofChange fnExactShrinkFailsWrong)

/-- 'laws.FnExactGrowFails': WHATEVER THE INPUT: true; the input reads as it did. -/
def fnExactGrowFailsSpec : ChangeSpec := { name := "fnExactGrowFails", fn := fun _ => fun
  | [d1, d2] => { results := [.lit (.bool true)], args := [d1, d2] }
  | _ => none }
def fnExactGrowFailsRow : OpenClaim := { program := "ytpdnlcgclopjmaa", sum := "73d2b10b81ae8e326d9550a52f9b71e5d7e12d7d232be0398903d92d257d000b", func := "loop.example/g01106/laws.FnExactGrowFails", spec := "fnExactGrowFails", unfollowed := true, recurses := true, apart := false }
def FnExactGrowFailsSaid : Prop := fnExactGrowFailsRow.holds Try.pinned (OpenSpec.ofChange fnExactGrowFailsSpec)

/-- ITS FALSE NEIGHBOUR: 'it returns false'. Refute it at one input. -/
def fnExactGrowFailsWrong : ChangeSpec := { name := "fnExactGrowFails", fn := fun _ => fun
  | [d1, d2] => { results := [.lit (.bool false)], args := [d1, d2] }
  | _ => none }
def FnExactGrowFailsWrongFalsely : Prop := fnExactGrowFailsRow.holds Try.pinned (OpenSpec.ofChange fnExactGrowFailsWrong)

/-- 'laws.FnExactOutcastFails': WHATEVER THE INPUT: true; the input reads as it did. -/
def fnExactOutcastFailsSpec : ChangeSpec := { name := "fnExactOutcastFails", fn := fun _ => fun
  | [d1, d2] => { results := [.lit (.bool true)], args := [d1, d2] }
  | _ => none }
def fnExactOutcastFailsRow : OpenClaim := { program := "ytpdnlcgclopjmaa", sum := "73d2b10b81ae8e326d9550a52f9b71e5d7e12d7d232be0398903d92d257d000b", func := "loop.example/g01106/laws.FnExactOutcastFails", spec := "fnExactOutcastFails", unfollowed := true, recurses := true, apart := false }
def FnExactOutcastFailsSaid : Prop := fnExactOutcastFailsRow.holds Try.pinned (OpenSpec.ofChange fnExactOutcastFailsSpec)

/-- ITS FALSE NEIGHBOUR: 'it returns false'. Refute it at one input. -/
def fnExactOutcastFailsWrong : ChangeSpec := { name := "fnExactOutcastFails", fn := fun _ => fun
  | [d1, d2] => { results := [.lit (.bool false)], args := [d1, d2] }
  | _ => none }
def FnExactOutcastFailsWrongFalsely : Prop := fnExactOutcastFailsRow.holds Try.pinned (OpenSpec.ofChange fnExactOutcastFailsWrong)

/-- 'laws.FnExactPathFails': WHATEVER THE INPUT: true; the input reads as it did. -/
def fnExactPathFailsSpec : ChangeSpec := { name := "fnExactPathFails", fn := fun _ => fun
  | [d1, d2] => { results := [.lit (.bool true)], args := [d1, d2] }
  | _ => none }
def fnExactPathFailsRow : OpenClaim := { program := "ytpdnlcgclopjmaa", sum := "73d2b10b81ae8e326d9550a52f9b71e5d7e12d7d232be0398903d92d257d000b", func := "loop.example/g01106/laws.FnExactPathFails", spec := "fnExactPathFails", unfollowed := true, recurses := true, apart := false }
def FnExactPathFailsSaid : Prop := fnExactPathFailsRow.holds Try.pinned (OpenSpec.ofChange fnExactPathFailsSpec)

/-- ITS FALSE NEIGHBOUR: 'it returns false'. Refute it at one input. -/
def fnExactPathFailsWrong : ChangeSpec := { name := "fnExactPathFails", fn := fun _ => fun
  | [d1, d2] => { results := [.lit (.bool false)], args := [d1, d2] }
  | _ => none }
def FnExactPathFailsWrongFalsely : Prop := fnExactPathFailsRow.holds Try.pinned (OpenSpec.ofChange fnExactPathFailsWrong)

/-- 'laws.FnExactChoiceTable': WHATEVER THE INPUT: true; the input reads as it did. -/
def fnExactChoiceTableSpec : ChangeSpec := { name := "fnExactChoiceTable", fn := fun _ => fun
  | [d] => { results := [.lit (.bool true)], args := [d] }
  | _ => none }
def fnExactChoiceTableRow : OpenClaim := { program := "ytpdnlcgclopjmaa", sum := "73d2b10b81ae8e326d9550a52f9b71e5d7e12d7d232be0398903d92d257d000b", func := "loop.example/g01106/laws.FnExactChoiceTable", spec := "fnExactChoiceTable", apart := false }
def FnExactChoiceTableSaid : Prop := fnExactChoiceTableRow.holds Try.pinned (OpenSpec.ofChange fnExactChoiceTableSpec)

/-- ITS FALSE NEIGHBOUR: 'it returns false'. Refute it at one input. -/
def fnExactChoiceTableWrong : ChangeSpec := { name := "fnExactChoiceTable", fn := fun _ => fun
  | [d] => { results := [.lit (.bool false)], args := [d] }
  | _ => none }
def FnExactChoiceTableWrongFalsely : Prop := fnExactChoiceTableRow.holds Try.pinned (OpenSpec.ofChange fnExactChoiceTableWrong)

/-- 'laws.FnExactIsRational': WHATEVER THE INPUT: true; the input reads as it did. -/
def fnExactIsRationalSpec : ChangeSpec := { name := "fnExactIsRational", fn := fun _ => fun
  | [d1, d2] => { results := [.lit (.bool true)], args := [d1, d2] }
  | _ => none }
def fnExactIsRationalRow : OpenClaim := { program := "ytpdnlcgclopjmaa", sum := "73d2b10b81ae8e326d9550a52f9b71e5d7e12d7d232be0398903d92d257d000b", func := "loop.example/g01106/laws.FnExactIsRational", spec := "fnExactIsRational", apart := false }
def FnExactIsRationalSaid : Prop := fnExactIsRationalRow.holds Try.pinned (OpenSpec.ofChange fnExactIsRationalSpec)

/-- ITS FALSE NEIGHBOUR: 'it returns false'. Refute it at one input. -/
def fnExactIsRationalWrong : ChangeSpec := { name := "fnExactIsRational", fn := fun _ => fun
  | [d1, d2] => { results := [.lit (.bool false)], args := [d1, d2] }
  | _ => none }
def FnExactIsRationalWrongFalsely : Prop := fnExactIsRationalRow.holds Try.pinned (OpenSpec.ofChange fnExactIsRationalWrong)

/- THE SECOND FORM. 'bulk': how many values and letters a reading holds, each counted each time it is reached (what is shared counts as often as it is met; a slice's spare places count too). A statement '..UptoSaid' is the law's where the arguments, and the package variables that the reading takes, are together of bulk at most 1048576: NARROWER than '..Said'. Prove '..Said' where nothing that the law and all that it calls make is longer than what came in: it says more and counts as full. Else prove '..UptoSaid'. A law counts once. -/
mutual
def uptoBulk {H : Type} : DataW H → Nat
  | .lit (.string bytes) => bytes.length + 1
  | .lit _ => 1
  | .nil => 1
  | .ptr d => uptoBulk d + 1
  | .slice elems spare => uptoBulkAll elems + uptoBulkAll spare + 1
  | .agg parts => uptoBulkAll parts + 1
  | .iface _ d => uptoBulk d + 1
  | .map entries => uptoBulkEntries entries + 1
  | .held _ => 1
def uptoBulkAll {H : Type} : List (DataW H) → Nat
  | [] => 0
  | d :: r => uptoBulk d + uptoBulkAll r
def uptoBulkEntries {H : Type} : List (Lit × DataW H) → Nat
  | [] => 0
  | x :: r => uptoBulkEntry x + uptoBulkEntries r
def uptoBulkEntry {H : Type} : Lit × DataW H → Nat
  | (.string bytes, d) => bytes.length + uptoBulk d + 1
  | (_, d) => uptoBulk d + 1
 end
def uptoSmall : (H : Type) → List (DataW H) → Bool := fun _ ds => decide (uptoBulkAll ds ≤ 1048576)
def OpenSpec.upto (s : _root_.Go.ChangeSpec) : _root_.Go.OpenSpec := { _root_.Go.OpenSpec.ofChange s with cond := some uptoSmall }

/-- 'laws.FnExactChoiceOf', WHERE WHAT IT READS IS OF BULK AT MOST 1048576: true; the input reads as it did. -/
def fnExactChoiceOfUptoRow : OpenClaim := { program := "ytpdnlcgclopjmaa", sum := "73d2b10b81ae8e326d9550a52f9b71e5d7e12d7d232be0398903d92d257d000b", func := "loop.example/g01106/laws.FnExactChoiceOf", spec := "fnExactChoiceOf", apart := false, narrowed := true }
def FnExactChoiceOfUptoSaid : Prop := fnExactChoiceOfUptoRow.holds Try.pinned (OpenSpec.upto fnExactChoiceOfSpec)

/-- 'laws.FnExactIsChoiceTable', WHERE WHAT IT READS IS OF BULK AT MOST 1048576: true; the input reads as it did. -/
def fnExactIsChoiceTableUptoRow : OpenClaim := { program := "ytpdnlcgclopjmaa", sum := "73d2b10b81ae8e326d9550a52f9b71e5d7e12d7d232be0398903d92d257d000b", func := "loop.example/g01106/laws.FnExactIsChoiceTable", spec := "fnExactIsChoiceTable", apart := false, narrowed := true }
def FnExactIsChoiceTableUptoSaid : Prop := fnExactIsChoiceTableUptoRow.holds Try.pinned (OpenSpec.upto fnExactIsChoiceTableSpec)

/-- 'laws.FnExactRevealedOf', WHERE WHAT IT READS IS OF BULK AT MOST 1048576: true; the input reads as it did. -/
def fnExactRevealedOfUptoRow : OpenClaim := { program := "ytpdnlcgclopjmaa", sum := "73d2b10b81ae8e326d9550a52f9b71e5d7e12d7d232be0398903d92d257d000b", func := "loop.example/g01106/laws.FnExactRevealedOf", spec := "fnExactRevealedOf", apart := false, narrowed := true }
def FnExactRevealedOfUptoSaid : Prop := fnExactRevealedOfUptoRow.holds Try.pinned (OpenSpec.upto fnExactRevealedOfSpec)

/-- 'laws.FnExactIsAcyclic', WHERE WHAT IT READS IS OF BULK AT MOST 1048576: true; the input reads as it did. -/
def fnExactIsAcyclicUptoRow : OpenClaim := { program := "ytpdnlcgclopjmaa", sum := "73d2b10b81ae8e326d9550a52f9b71e5d7e12d7d232be0398903d92d257d000b", func := "loop.example/g01106/laws.FnExactIsAcyclic", spec := "fnExactIsAcyclic", apart := false, narrowed := true }
def FnExactIsAcyclicUptoSaid : Prop := fnExactIsAcyclicUptoRow.holds Try.pinned (OpenSpec.upto fnExactIsAcyclicSpec)

/-- 'laws.FnExactShrinkFails', WHERE WHAT IT READS IS OF BULK AT MOST 1048576: true; the input reads as it did. -/
def fnExactShrinkFailsUptoRow : OpenClaim := { program := "ytpdnlcgclopjmaa", sum := "73d2b10b81ae8e326d9550a52f9b71e5d7e12d7d232be0398903d92d257d000b", func := "loop.example/g01106/laws.FnExactShrinkFails", spec := "fnExactShrinkFails", unfollowed := true, recurses := true, apart := false, narrowed := true }
def FnExactShrinkFailsUptoSaid : Prop := fnExactShrinkFailsUptoRow.holds Try.pinned (OpenSpec.upto fnExactShrinkFailsSpec)

/-- 'laws.FnExactGrowFails', WHERE WHAT IT READS IS OF BULK AT MOST 1048576: true; the input reads as it did. -/
def fnExactGrowFailsUptoRow : OpenClaim := { program := "ytpdnlcgclopjmaa", sum := "73d2b10b81ae8e326d9550a52f9b71e5d7e12d7d232be0398903d92d257d000b", func := "loop.example/g01106/laws.FnExactGrowFails", spec := "fnExactGrowFails", unfollowed := true, recurses := true, apart := false, narrowed := true }
def FnExactGrowFailsUptoSaid : Prop := fnExactGrowFailsUptoRow.holds Try.pinned (OpenSpec.upto fnExactGrowFailsSpec)

/-- 'laws.FnExactOutcastFails', WHERE WHAT IT READS IS OF BULK AT MOST 1048576: true; the input reads as it did. -/
def fnExactOutcastFailsUptoRow : OpenClaim := { program := "ytpdnlcgclopjmaa", sum := "73d2b10b81ae8e326d9550a52f9b71e5d7e12d7d232be0398903d92d257d000b", func := "loop.example/g01106/laws.FnExactOutcastFails", spec := "fnExactOutcastFails", unfollowed := true, recurses := true, apart := false, narrowed := true }
def FnExactOutcastFailsUptoSaid : Prop := fnExactOutcastFailsUptoRow.holds Try.pinned (OpenSpec.upto fnExactOutcastFailsSpec)

/-- 'laws.FnExactPathFails', WHERE WHAT IT READS IS OF BULK AT MOST 1048576: true; the input reads as it did. -/
def fnExactPathFailsUptoRow : OpenClaim := { program := "ytpdnlcgclopjmaa", sum := "73d2b10b81ae8e326d9550a52f9b71e5d7e12d7d232be0398903d92d257d000b", func := "loop.example/g01106/laws.FnExactPathFails", spec := "fnExactPathFails", unfollowed := true, recurses := true, apart := false, narrowed := true }
def FnExactPathFailsUptoSaid : Prop := fnExactPathFailsUptoRow.holds Try.pinned (OpenSpec.upto fnExactPathFailsSpec)

/-- 'laws.FnExactChoiceTable', WHERE WHAT IT READS IS OF BULK AT MOST 1048576: true; the input reads as it did. -/
def fnExactChoiceTableUptoRow : OpenClaim := { program := "ytpdnlcgclopjmaa", sum := "73d2b10b81ae8e326d9550a52f9b71e5d7e12d7d232be0398903d92d257d000b", func := "loop.example/g01106/laws.FnExactChoiceTable", spec := "fnExactChoiceTable", apart := false, narrowed := true }
def FnExactChoiceTableUptoSaid : Prop := fnExactChoiceTableUptoRow.holds Try.pinned (OpenSpec.upto fnExactChoiceTableSpec)

/-- 'laws.FnExactIsRational', WHERE WHAT IT READS IS OF BULK AT MOST 1048576: true; the input reads as it did. -/
def fnExactIsRationalUptoRow : OpenClaim := { program := "ytpdnlcgclopjmaa", sum := "73d2b10b81ae8e326d9550a52f9b71e5d7e12d7d232be0398903d92d257d000b", func := "loop.example/g01106/laws.FnExactIsRational", spec := "fnExactIsRational", apart := false, narrowed := true }
def FnExactIsRationalUptoSaid : Prop := fnExactIsRationalUptoRow.holds Try.pinned (OpenSpec.upto fnExactIsRationalSpec)

end Rows
end Go.Proofs.Ytpdnlcgclopjmaa
