/-
  No cell of these rows narrows 'for every input' (looked for: loops, veiled, ifaces, maps, wideKeys, modest, calm, conditions, laid).
  DERIVED. THE GIVEN ROWS OF THIS SEAT. 6 by the template 'for every input the law returns true; each argument reads behind the call as it read before'; 0 by the template 'total and deterministic' (their statements: YtjolgaaggpnkhaaTotals.lean).
  GIVEN WITH THE SEED: the statements are not yours to turn. If you find one false, say at which input.
  Laid BY PROGRAM, IN A SANDBOX (cutbox-rows.mjs): the forced cells as the released guide's own fill.sh prints them over the translation 8d9e035e3f2f2425… (all of the seat's roots in one cut). By AI agents, Wed Nov 11 2026. No macro, syntax, notation, axiom, sorry.
-/
import Derived.Test.YtjolgaaggpnkhaaChecked
import GoSem.Claim
import GoSem.ClaimJoined
import GoSem.ClaimMapViews
import Derived.JoinedTies
import Derived.KernelRfl
namespace Go.Proofs.Ytjolgaaggpnkhaa
/- THE CELL 'sum', in the pinned program and in every row, IS THE sha256 OF THE DUMP (.gsa) THAT YtjolgaaggpnkhaaProg.lean LOADS. Nothing in Lean hashes anything: it is a label: what it is worth is what the hold of that sum in a sandbox is worth. -/
noncomputable def Try.pinned : Pinned := { name := "ytjolgaaggpnkhaa", sum := "8d9e035e3f2f24258fd8858750ec335c6c32c4c086ac0e05de3cd9d148337ea8", checked := Try.checked }
namespace Rows
def none {H : Type} : Left H := { results := [], args := [] }

/-- 'laws.FnExactMatchingOfMatrix': WHATEVER THE INPUT: true; the input reads as it did. -/
def fnExactMatchingOfMatrixSpec : ChangeSpec := { name := "fnExactMatchingOfMatrix", fn := fun _ => fun
  | [d] => { results := [.lit (.bool true)], args := [d] }
  | _ => none }
def fnExactMatchingOfMatrixRow : OpenClaim := { program := "ytjolgaaggpnkhaa", sum := "8d9e035e3f2f24258fd8858750ec335c6c32c4c086ac0e05de3cd9d148337ea8", func := "loop.example/g01106/laws.FnExactMatchingOfMatrix", spec := "fnExactMatchingOfMatrix", apart := false }
def FnExactMatchingOfMatrixSaid : Prop := fnExactMatchingOfMatrixRow.holds Try.pinned (OpenSpec.ofChange fnExactMatchingOfMatrixSpec)

/-- ITS FALSE NEIGHBOUR: 'it returns false'. Refute it at one input. -/
def fnExactMatchingOfMatrixWrong : ChangeSpec := { name := "fnExactMatchingOfMatrix", fn := fun _ => fun
  | [d] => { results := [.lit (.bool false)], args := [d] }
  | _ => none }
def FnExactMatchingOfMatrixWrongFalsely : Prop := fnExactMatchingOfMatrixRow.holds Try.pinned (OpenSpec.ofChange fnExactMatchingOfMatrixWrong)

/-- 'laws.FnExactMatrixOfMatching': WHATEVER THE INPUT: true; the input reads as it did. -/
def fnExactMatrixOfMatchingSpec : ChangeSpec := { name := "fnExactMatrixOfMatching", fn := fun _ => fun
  | [d] => { results := [.lit (.bool true)], args := [d] }
  | _ => none }
def fnExactMatrixOfMatchingRow : OpenClaim := { program := "ytjolgaaggpnkhaa", sum := "8d9e035e3f2f24258fd8858750ec335c6c32c4c086ac0e05de3cd9d148337ea8", func := "loop.example/g01106/laws.FnExactMatrixOfMatching", spec := "fnExactMatrixOfMatching", apart := false }
def FnExactMatrixOfMatchingSaid : Prop := fnExactMatrixOfMatchingRow.holds Try.pinned (OpenSpec.ofChange fnExactMatrixOfMatchingSpec)

/-- ITS FALSE NEIGHBOUR: 'it returns false'. Refute it at one input. -/
def fnExactMatrixOfMatchingWrong : ChangeSpec := { name := "fnExactMatrixOfMatching", fn := fun _ => fun
  | [d] => { results := [.lit (.bool false)], args := [d] }
  | _ => none }
def FnExactMatrixOfMatchingWrongFalsely : Prop := fnExactMatrixOfMatchingRow.holds Try.pinned (OpenSpec.ofChange fnExactMatrixOfMatchingWrong)

/-- 'laws.FnExactTidyMatching': WHATEVER THE INPUT: true; the input reads as it did. -/
def fnExactTidyMatchingSpec : ChangeSpec := { name := "fnExactTidyMatching", fn := fun _ => fun
  | [d] => { results := [.lit (.bool true)], args := [d] }
  | _ => none }
def fnExactTidyMatchingRow : OpenClaim := { program := "ytjolgaaggpnkhaa", sum := "8d9e035e3f2f24258fd8858750ec335c6c32c4c086ac0e05de3cd9d148337ea8", func := "loop.example/g01106/laws.FnExactTidyMatching", spec := "fnExactTidyMatching", apart := false }
def FnExactTidyMatchingSaid : Prop := fnExactTidyMatchingRow.holds Try.pinned (OpenSpec.ofChange fnExactTidyMatchingSpec)

/-- ITS FALSE NEIGHBOUR: 'it returns false'. Refute it at one input. -/
def fnExactTidyMatchingWrong : ChangeSpec := { name := "fnExactTidyMatching", fn := fun _ => fun
  | [d] => { results := [.lit (.bool false)], args := [d] }
  | _ => none }
def FnExactTidyMatchingWrongFalsely : Prop := fnExactTidyMatchingRow.holds Try.pinned (OpenSpec.ofChange fnExactTidyMatchingWrong)

/-- 'laws.FnExactNamedCount': WHATEVER THE INPUT: true; the input reads as it did. -/
def fnExactNamedCountSpec : ChangeSpec := { name := "fnExactNamedCount", fn := fun _ => fun
  | [d] => { results := [.lit (.bool true)], args := [d] }
  | _ => none }
def fnExactNamedCountRow : OpenClaim := { program := "ytjolgaaggpnkhaa", sum := "8d9e035e3f2f24258fd8858750ec335c6c32c4c086ac0e05de3cd9d148337ea8", func := "loop.example/g01106/laws.FnExactNamedCount", spec := "fnExactNamedCount", apart := false }
def FnExactNamedCountSaid : Prop := fnExactNamedCountRow.holds Try.pinned (OpenSpec.ofChange fnExactNamedCountSpec)

/-- ITS FALSE NEIGHBOUR: 'it returns false'. Refute it at one input. -/
def fnExactNamedCountWrong : ChangeSpec := { name := "fnExactNamedCount", fn := fun _ => fun
  | [d] => { results := [.lit (.bool false)], args := [d] }
  | _ => none }
def FnExactNamedCountWrongFalsely : Prop := fnExactNamedCountRow.holds Try.pinned (OpenSpec.ofChange fnExactNamedCountWrong)

/-- 'laws.FnExactGrowMatrix': WHATEVER THE INPUT: true; the input reads as it did. -/
def fnExactGrowMatrixSpec : ChangeSpec := { name := "fnExactGrowMatrix", fn := fun _ => fun
  | [d1, d2] => { results := [.lit (.bool true)], args := [d1, d2] }
  | _ => none }
def fnExactGrowMatrixRow : OpenClaim := { program := "ytjolgaaggpnkhaa", sum := "8d9e035e3f2f24258fd8858750ec335c6c32c4c086ac0e05de3cd9d148337ea8", func := "loop.example/g01106/laws.FnExactGrowMatrix", spec := "fnExactGrowMatrix", inPlace := ["slices.overlaps[[]int]", "slices.overlaps[int]"], apart := false }
def FnExactGrowMatrixSaid : Prop := fnExactGrowMatrixRow.holds Try.pinned (OpenSpec.ofChange fnExactGrowMatrixSpec)

/-- ITS FALSE NEIGHBOUR: 'it returns false'. Refute it at one input. -/
def fnExactGrowMatrixWrong : ChangeSpec := { name := "fnExactGrowMatrix", fn := fun _ => fun
  | [d1, d2] => { results := [.lit (.bool false)], args := [d1, d2] }
  | _ => none }
def FnExactGrowMatrixWrongFalsely : Prop := fnExactGrowMatrixRow.holds Try.pinned (OpenSpec.ofChange fnExactGrowMatrixWrong)

/-- 'laws.FnExactMatrixOfAscent': WHATEVER THE INPUT: true; the input reads as it did. -/
def fnExactMatrixOfAscentSpec : ChangeSpec := { name := "fnExactMatrixOfAscent", fn := fun _ => fun
  | [d] => { results := [.lit (.bool true)], args := [d] }
  | _ => none }
def fnExactMatrixOfAscentRow : OpenClaim := { program := "ytjolgaaggpnkhaa", sum := "8d9e035e3f2f24258fd8858750ec335c6c32c4c086ac0e05de3cd9d148337ea8", func := "loop.example/g01106/laws.FnExactMatrixOfAscent", spec := "fnExactMatrixOfAscent", inPlace := ["slices.overlaps[[]int]", "slices.overlaps[int]"], apart := false }
def FnExactMatrixOfAscentSaid : Prop := fnExactMatrixOfAscentRow.holds Try.pinned (OpenSpec.ofChange fnExactMatrixOfAscentSpec)

/-- ITS FALSE NEIGHBOUR: 'it returns false'. Refute it at one input. -/
def fnExactMatrixOfAscentWrong : ChangeSpec := { name := "fnExactMatrixOfAscent", fn := fun _ => fun
  | [d] => { results := [.lit (.bool false)], args := [d] }
  | _ => none }
def FnExactMatrixOfAscentWrongFalsely : Prop := fnExactMatrixOfAscentRow.holds Try.pinned (OpenSpec.ofChange fnExactMatrixOfAscentWrong)

/- THE SECOND FORM. 'bulk': how many values and letters a reading holds, each counted each time it is reached (what is shared counts as often as it is met; a slice's spare places count too). A statement '..UptoSaid' is the law's where the arguments, and the package variables that the reading takes, are together of bulk at most 1048576: NARROWER than '..Said'. Prove '..Said' where nothing that the law and all that it calls make is longer than what came in: it says more and counts as full. Else prove '..UptoSaid'. A law counts once. -/
mutual
def uptoBulk {H : Type} : DataW H → Nat
  | .lit (.string bytes) => bytes.length + 1
  | .lit _ => 1
  | .nil => 1
  | .ptr d => uptoBulk d + 1
  | .slice elems spare => uptoBulkAll elems + uptoBulkAll spare + 1
  | .agg parts => uptoBulkAll parts + 1
  | .iface _ d => uptoBulk d + 1
  | .map entries => uptoBulkEntries entries + 1
  | .held _ => 1
def uptoBulkAll {H : Type} : List (DataW H) → Nat
  | [] => 0
  | d :: r => uptoBulk d + uptoBulkAll r
def uptoBulkEntries {H : Type} : List (Lit × DataW H) → Nat
  | [] => 0
  | x :: r => uptoBulkEntry x + uptoBulkEntries r
def uptoBulkEntry {H : Type} : Lit × DataW H → Nat
  | (.string bytes, d) => bytes.length + uptoBulk d + 1
  | (_, d) => uptoBulk d + 1
 end
def uptoSmall : (H : Type) → List (DataW H) → Bool := fun _ ds => decide (uptoBulkAll ds ≤ 1048576)
def OpenSpec.upto (s : _root_.Go.ChangeSpec) : _root_.Go.OpenSpec := { _root_.Go.OpenSpec.ofChange s with cond := some uptoSmall }

/-- 'laws.FnExactMatchingOfMatrix', WHERE WHAT IT READS IS OF BULK AT MOST 1048576: true; the input reads as it did. -/
def fnExactMatchingOfMatrixUptoRow : OpenClaim := { program := "ytjolgaaggpnkhaa", sum := "8d9e035e3f2f24258fd8858750ec335c6c32c4c086ac0e05de3cd9d148337ea8", func := "loop.example/g01106/laws.FnExactMatchingOfMatrix", spec := "fnExactMatchingOfMatrix", apart := false, narrowed := true }
def FnExactMatchingOfMatrixUptoSaid : Prop := fnExactMatchingOfMatrixUptoRow.holds Try.pinned (OpenSpec.upto fnExactMatchingOfMatrixSpec)

/-- 'laws.FnExactMatrixOfMatching', WHERE WHAT IT READS IS OF BULK AT MOST 1048576: true; the input reads as it did. -/
def fnExactMatrixOfMatchingUptoRow : OpenClaim := { program := "ytjolgaaggpnkhaa", sum := "8d9e035e3f2f24258fd8858750ec335c6c32c4c086ac0e05de3cd9d148337ea8", func := "loop.example/g01106/laws.FnExactMatrixOfMatching", spec := "fnExactMatrixOfMatching", apart := false, narrowed := true }
def FnExactMatrixOfMatchingUptoSaid : Prop := fnExactMatrixOfMatchingUptoRow.holds Try.pinned (OpenSpec.upto fnExactMatrixOfMatchingSpec)

/-- 'laws.FnExactTidyMatching', WHERE WHAT IT READS IS OF BULK AT MOST 1048576: true; the input reads as it did. -/
def fnExactTidyMatchingUptoRow : OpenClaim := { program := "ytjolgaaggpnkhaa", sum := "8d9e035e3f2f24258fd8858750ec335c6c32c4c086ac0e05de3cd9d148337ea8", func := "loop.example/g01106/laws.FnExactTidyMatching", spec := "fnExactTidyMatching", apart := false, narrowed := true }
def FnExactTidyMatchingUptoSaid : Prop := fnExactTidyMatchingUptoRow.holds Try.pinned (OpenSpec.upto fnExactTidyMatchingSpec)

/-- 'laws.FnExactNamedCount', WHERE WHAT IT READS IS OF BULK AT MOST 1048576: true; the input reads as it did. -/
def fnExactNamedCountUptoRow : OpenClaim := { program := "ytjolgaaggpnkhaa", sum := "8d9e035e3f2f24258fd8858750ec335c6c32c4c086ac0e05de3cd9d148337ea8", func := "loop.example/g01106/laws.FnExactNamedCount", spec := "fnExactNamedCount", apart := false, narrowed := true }
def FnExactNamedCountUptoSaid : Prop := fnExactNamedCountUptoRow.holds Try.pinned (OpenSpec.upto fnExactNamedCountSpec)

/-- 'laws.FnExactGrowMatrix', WHERE WHAT IT READS IS OF BULK AT MOST 1048576: true; the input reads as it did. -/
def fnExactGrowMatrixUptoRow : OpenClaim := { program := "ytjolgaaggpnkhaa", sum := "8d9e035e3f2f24258fd8858750ec335c6c32c4c086ac0e05de3cd9d148337ea8", func := "loop.example/g01106/laws.FnExactGrowMatrix", spec := "fnExactGrowMatrix", inPlace := ["slices.overlaps[[]int]", "slices.overlaps[int]"], apart := false, narrowed := true }
def FnExactGrowMatrixUptoSaid : Prop := fnExactGrowMatrixUptoRow.holds Try.pinned (OpenSpec.upto fnExactGrowMatrixSpec)

/-- 'laws.FnExactMatrixOfAscent', WHERE WHAT IT READS IS OF BULK AT MOST 1048576: true; the input reads as it did. -/
def fnExactMatrixOfAscentUptoRow : OpenClaim := { program := "ytjolgaaggpnkhaa", sum := "8d9e035e3f2f24258fd8858750ec335c6c32c4c086ac0e05de3cd9d148337ea8", func := "loop.example/g01106/laws.FnExactMatrixOfAscent", spec := "fnExactMatrixOfAscent", inPlace := ["slices.overlaps[[]int]", "slices.overlaps[int]"], apart := false, narrowed := true }
def FnExactMatrixOfAscentUptoSaid : Prop := fnExactMatrixOfAscentUptoRow.holds Try.pinned (OpenSpec.upto fnExactMatrixOfAscentSpec)

end Rows
end Go.Proofs.Ytjolgaaggpnkhaa
