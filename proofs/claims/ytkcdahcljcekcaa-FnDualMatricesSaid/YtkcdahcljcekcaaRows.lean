/-
  No cell of these rows narrows 'for every input' (looked for: loops, veiled, ifaces, maps, wideKeys, modest, calm, conditions, laid).
  DERIVED. THE GIVEN ROWS OF THIS SEAT. 7 by the template 'for every input the law returns true; each argument reads behind the call as it read before'; 0 by the template 'total and deterministic' (their statements: YtkcdahcljcekcaaTotals.lean).
  GIVEN WITH THE SEED: the statements are not yours to turn. If you find one false, say at which input.
  Laid BY PROGRAM, IN A SANDBOX (cutbox-rows.mjs): the forced cells as the released guide's own fill.sh prints them over the translation c2673d8ce9ef212d… (all of the seat's roots in one cut). By AI agents, Wed Nov 11 2026. No macro, syntax, notation, axiom, sorry.
-/
import Derived.Test.YtkcdahcljcekcaaChecked
import GoSem.Claim
import GoSem.ClaimJoined
import GoSem.ClaimMapViews
import Derived.JoinedTies
import Derived.KernelRfl
namespace Go.Proofs.Ytkcdahcljcekcaa
/- THE CELL 'sum', in the pinned program and in every row, IS THE sha256 OF THE DUMP (.gsa) THAT YtkcdahcljcekcaaProg.lean LOADS. Nothing in Lean hashes anything: it is a label: what it is worth is what the hold of that sum in a sandbox is worth. -/
noncomputable def Try.pinned : Pinned := { name := "ytkcdahcljcekcaa", sum := "c2673d8ce9ef212d62ce7b46eb32eae75240f6895794e2379a01cc27b6fe3342", checked := Try.checked }
namespace Rows
def none {H : Type} : Left H := { results := [], args := [] }

/-- 'laws.FnTextsOfMatchings': WHATEVER THE INPUT: true; the input reads as it did. -/
def fnTextsOfMatchingsSpec : ChangeSpec := { name := "fnTextsOfMatchings", fn := fun _ => fun
  | [d1, d2] => { results := [.lit (.bool true)], args := [d1, d2] }
  | _ => none }
def fnTextsOfMatchingsRow : OpenClaim := { program := "ytkcdahcljcekcaa", sum := "c2673d8ce9ef212d62ce7b46eb32eae75240f6895794e2379a01cc27b6fe3342", func := "loop.example/g01106/laws.FnTextsOfMatchings", spec := "fnTextsOfMatchings", apart := false }
def FnTextsOfMatchingsSaid : Prop := fnTextsOfMatchingsRow.holds Try.pinned (OpenSpec.ofChange fnTextsOfMatchingsSpec)

/-- ITS FALSE NEIGHBOUR: 'it returns false'. Refute it at one input. -/
def fnTextsOfMatchingsWrong : ChangeSpec := { name := "fnTextsOfMatchings", fn := fun _ => fun
  | [d1, d2] => { results := [.lit (.bool false)], args := [d1, d2] }
  | _ => none }
def FnTextsOfMatchingsWrongFalsely : Prop := fnTextsOfMatchingsRow.holds Try.pinned (OpenSpec.ofChange fnTextsOfMatchingsWrong)

/-- 'laws.FnRunsOfEqualNumbers': WHATEVER THE INPUT: true; the input reads as it did. -/
def fnRunsOfEqualNumbersSpec : ChangeSpec := { name := "fnRunsOfEqualNumbers", fn := fun _ => fun
  | [d1, d2] => { results := [.lit (.bool true)], args := [d1, d2] }
  | _ => none }
def fnRunsOfEqualNumbersRow : OpenClaim := { program := "ytkcdahcljcekcaa", sum := "c2673d8ce9ef212d62ce7b46eb32eae75240f6895794e2379a01cc27b6fe3342", func := "loop.example/g01106/laws.FnRunsOfEqualNumbers", spec := "fnRunsOfEqualNumbers", inPlace := ["slices.overlaps[[]int]", "slices.overlaps[int]"], apart := false }
def FnRunsOfEqualNumbersSaid : Prop := fnRunsOfEqualNumbersRow.holds Try.pinned (OpenSpec.ofChange fnRunsOfEqualNumbersSpec)

/-- ITS FALSE NEIGHBOUR: 'it returns false'. Refute it at one input. -/
def fnRunsOfEqualNumbersWrong : ChangeSpec := { name := "fnRunsOfEqualNumbers", fn := fun _ => fun
  | [d1, d2] => { results := [.lit (.bool false)], args := [d1, d2] }
  | _ => none }
def FnRunsOfEqualNumbersWrongFalsely : Prop := fnRunsOfEqualNumbersRow.holds Try.pinned (OpenSpec.ofChange fnRunsOfEqualNumbersWrong)

/-- 'laws.FnPatterns': WHATEVER THE INPUT: true; the input reads as it did. -/
def fnPatternsSpec : ChangeSpec := { name := "fnPatterns", fn := fun _ => fun
  | [d1, d2] => { results := [.lit (.bool true)], args := [d1, d2] }
  | _ => none }
def fnPatternsRow : OpenClaim := { program := "ytkcdahcljcekcaa", sum := "c2673d8ce9ef212d62ce7b46eb32eae75240f6895794e2379a01cc27b6fe3342", func := "loop.example/g01106/laws.FnPatterns", spec := "fnPatterns", recurses := true, apart := false }
def FnPatternsSaid : Prop := fnPatternsRow.holds Try.pinned (OpenSpec.ofChange fnPatternsSpec)

/-- ITS FALSE NEIGHBOUR: 'it returns false'. Refute it at one input. -/
def fnPatternsWrong : ChangeSpec := { name := "fnPatterns", fn := fun _ => fun
  | [d1, d2] => { results := [.lit (.bool false)], args := [d1, d2] }
  | _ => none }
def FnPatternsWrongFalsely : Prop := fnPatternsRow.holds Try.pinned (OpenSpec.ofChange fnPatternsWrong)

/-- 'laws.FnRationalTables': WHATEVER THE INPUT: true; the input reads as it did. -/
def fnRationalTablesSpec : ChangeSpec := { name := "fnRationalTables", fn := fun _ => fun
  | [d1, d2] => { results := [.lit (.bool true)], args := [d1, d2] }
  | _ => none }
def fnRationalTablesRow : OpenClaim := { program := "ytkcdahcljcekcaa", sum := "c2673d8ce9ef212d62ce7b46eb32eae75240f6895794e2379a01cc27b6fe3342", func := "loop.example/g01106/laws.FnRationalTables", spec := "fnRationalTables", unfollowed := true, recurses := true, apart := false }
def FnRationalTablesSaid : Prop := fnRationalTablesRow.holds Try.pinned (OpenSpec.ofChange fnRationalTablesSpec)

/-- ITS FALSE NEIGHBOUR: 'it returns false'. Refute it at one input. -/
def fnRationalTablesWrong : ChangeSpec := { name := "fnRationalTables", fn := fun _ => fun
  | [d1, d2] => { results := [.lit (.bool false)], args := [d1, d2] }
  | _ => none }
def FnRationalTablesWrongFalsely : Prop := fnRationalTablesRow.holds Try.pinned (OpenSpec.ofChange fnRationalTablesWrong)

/-- 'laws.FnMajorities': WHATEVER THE INPUT: true; the input reads as it did. -/
def fnMajoritiesSpec : ChangeSpec := { name := "fnMajorities", fn := fun _ => fun
  | [d1, d2] => { results := [.lit (.bool true)], args := [d1, d2] }
  | _ => none }
def fnMajoritiesRow : OpenClaim := { program := "ytkcdahcljcekcaa", sum := "c2673d8ce9ef212d62ce7b46eb32eae75240f6895794e2379a01cc27b6fe3342", func := "loop.example/g01106/laws.FnMajorities", spec := "fnMajorities", unfollowed := true, recurses := true, apart := false }
def FnMajoritiesSaid : Prop := fnMajoritiesRow.holds Try.pinned (OpenSpec.ofChange fnMajoritiesSpec)

/-- ITS FALSE NEIGHBOUR: 'it returns false'. Refute it at one input. -/
def fnMajoritiesWrong : ChangeSpec := { name := "fnMajorities", fn := fun _ => fun
  | [d1, d2] => { results := [.lit (.bool false)], args := [d1, d2] }
  | _ => none }
def FnMajoritiesWrongFalsely : Prop := fnMajoritiesRow.holds Try.pinned (OpenSpec.ofChange fnMajoritiesWrong)

/-- 'laws.FnDualMatrices': WHATEVER THE INPUT: true; the input reads as it did. -/
def fnDualMatricesSpec : ChangeSpec := { name := "fnDualMatrices", fn := fun _ => fun
  | [d1, d2] => { results := [.lit (.bool true)], args := [d1, d2] }
  | _ => none }
def fnDualMatricesRow : OpenClaim := { program := "ytkcdahcljcekcaa", sum := "c2673d8ce9ef212d62ce7b46eb32eae75240f6895794e2379a01cc27b6fe3342", func := "loop.example/g01106/laws.FnDualMatrices", spec := "fnDualMatrices", recurses := true, apart := false }
def FnDualMatricesSaid : Prop := fnDualMatricesRow.holds Try.pinned (OpenSpec.ofChange fnDualMatricesSpec)

/-- ITS FALSE NEIGHBOUR: 'it returns false'. Refute it at one input. -/
def fnDualMatricesWrong : ChangeSpec := { name := "fnDualMatrices", fn := fun _ => fun
  | [d1, d2] => { results := [.lit (.bool false)], args := [d1, d2] }
  | _ => none }
def FnDualMatricesWrongFalsely : Prop := fnDualMatricesRow.holds Try.pinned (OpenSpec.ofChange fnDualMatricesWrong)

/-- 'laws.FnCovers': WHATEVER THE INPUT: true; the input reads as it did. -/
def fnCoversSpec : ChangeSpec := { name := "fnCovers", fn := fun _ => fun
  | [d1, d2] => { results := [.lit (.bool true)], args := [d1, d2] }
  | _ => none }
def fnCoversRow : OpenClaim := { program := "ytkcdahcljcekcaa", sum := "c2673d8ce9ef212d62ce7b46eb32eae75240f6895794e2379a01cc27b6fe3342", func := "loop.example/g01106/laws.FnCovers", spec := "fnCovers", unfollowed := true, recurses := true, apart := false }
def FnCoversSaid : Prop := fnCoversRow.holds Try.pinned (OpenSpec.ofChange fnCoversSpec)

/-- ITS FALSE NEIGHBOUR: 'it returns false'. Refute it at one input. -/
def fnCoversWrong : ChangeSpec := { name := "fnCovers", fn := fun _ => fun
  | [d1, d2] => { results := [.lit (.bool false)], args := [d1, d2] }
  | _ => none }
def FnCoversWrongFalsely : Prop := fnCoversRow.holds Try.pinned (OpenSpec.ofChange fnCoversWrong)

/- THE SECOND FORM. 'bulk': how many values and letters a reading holds, each counted each time it is reached (what is shared counts as often as it is met; a slice's spare places count too). A statement '..UptoSaid' is the law's where the arguments, and the package variables that the reading takes, are together of bulk at most 1048576: NARROWER than '..Said'. Prove '..Said' where nothing that the law and all that it calls make is longer than what came in: it says more and counts as full. Else prove '..UptoSaid'. A law counts once. -/
mutual
def uptoBulk {H : Type} : DataW H → Nat
  | .lit (.string bytes) => bytes.length + 1
  | .lit _ => 1
  | .nil => 1
  | .ptr d => uptoBulk d + 1
  | .slice elems spare => uptoBulkAll elems + uptoBulkAll spare + 1
  | .agg parts => uptoBulkAll parts + 1
  | .iface _ d => uptoBulk d + 1
  | .map entries => uptoBulkEntries entries + 1
  | .held _ => 1
def uptoBulkAll {H : Type} : List (DataW H) → Nat
  | [] => 0
  | d :: r => uptoBulk d + uptoBulkAll r
def uptoBulkEntries {H : Type} : List (Lit × DataW H) → Nat
  | [] => 0
  | x :: r => uptoBulkEntry x + uptoBulkEntries r
def uptoBulkEntry {H : Type} : Lit × DataW H → Nat
  | (.string bytes, d) => bytes.length + uptoBulk d + 1
  | (_, d) => uptoBulk d + 1
 end
def uptoSmall : (H : Type) → List (DataW H) → Bool := fun _ ds => decide (uptoBulkAll ds ≤ 1048576)
def OpenSpec.upto (s : _root_.Go.ChangeSpec) : _root_.Go.OpenSpec := { _root_.Go.OpenSpec.ofChange s with cond := some uptoSmall }

/-- 'laws.FnTextsOfMatchings', WHERE WHAT IT READS IS OF BULK AT MOST 1048576: true; the input reads as it did. -/
def fnTextsOfMatchingsUptoRow : OpenClaim := { program := "ytkcdahcljcekcaa", sum := "c2673d8ce9ef212d62ce7b46eb32eae75240f6895794e2379a01cc27b6fe3342", func := "loop.example/g01106/laws.FnTextsOfMatchings", spec := "fnTextsOfMatchings", apart := false, narrowed := true }
def FnTextsOfMatchingsUptoSaid : Prop := fnTextsOfMatchingsUptoRow.holds Try.pinned (OpenSpec.upto fnTextsOfMatchingsSpec)

/-- 'laws.FnRunsOfEqualNumbers', WHERE WHAT IT READS IS OF BULK AT MOST 1048576: true; the input reads as it did. -/
def fnRunsOfEqualNumbersUptoRow : OpenClaim := { program := "ytkcdahcljcekcaa", sum := "c2673d8ce9ef212d62ce7b46eb32eae75240f6895794e2379a01cc27b6fe3342", func := "loop.example/g01106/laws.FnRunsOfEqualNumbers", spec := "fnRunsOfEqualNumbers", inPlace := ["slices.overlaps[[]int]", "slices.overlaps[int]"], apart := false, narrowed := true }
def FnRunsOfEqualNumbersUptoSaid : Prop := fnRunsOfEqualNumbersUptoRow.holds Try.pinned (OpenSpec.upto fnRunsOfEqualNumbersSpec)

/-- 'laws.FnPatterns', WHERE WHAT IT READS IS OF BULK AT MOST 1048576: true; the input reads as it did. -/
def fnPatternsUptoRow : OpenClaim := { program := "ytkcdahcljcekcaa", sum := "c2673d8ce9ef212d62ce7b46eb32eae75240f6895794e2379a01cc27b6fe3342", func := "loop.example/g01106/laws.FnPatterns", spec := "fnPatterns", recurses := true, apart := false, narrowed := true }
def FnPatternsUptoSaid : Prop := fnPatternsUptoRow.holds Try.pinned (OpenSpec.upto fnPatternsSpec)

/-- 'laws.FnRationalTables', WHERE WHAT IT READS IS OF BULK AT MOST 1048576: true; the input reads as it did. -/
def fnRationalTablesUptoRow : OpenClaim := { program := "ytkcdahcljcekcaa", sum := "c2673d8ce9ef212d62ce7b46eb32eae75240f6895794e2379a01cc27b6fe3342", func := "loop.example/g01106/laws.FnRationalTables", spec := "fnRationalTables", unfollowed := true, recurses := true, apart := false, narrowed := true }
def FnRationalTablesUptoSaid : Prop := fnRationalTablesUptoRow.holds Try.pinned (OpenSpec.upto fnRationalTablesSpec)

/-- 'laws.FnMajorities', WHERE WHAT IT READS IS OF BULK AT MOST 1048576: true; the input reads as it did. -/
def fnMajoritiesUptoRow : OpenClaim := { program := "ytkcdahcljcekcaa", sum := "c2673d8ce9ef212d62ce7b46eb32eae75240f6895794e2379a01cc27b6fe3342", func := "loop.example/g01106/laws.FnMajorities", spec := "fnMajorities", unfollowed := true, recurses := true, apart := false, narrowed := true }
def FnMajoritiesUptoSaid : Prop := fnMajoritiesUptoRow.holds Try.pinned (OpenSpec.upto fnMajoritiesSpec)

/-- 'laws.FnDualMatrices', WHERE WHAT IT READS IS OF BULK AT MOST 1048576: true; the input reads as it did. -/
def fnDualMatricesUptoRow : OpenClaim := { program := "ytkcdahcljcekcaa", sum := "c2673d8ce9ef212d62ce7b46eb32eae75240f6895794e2379a01cc27b6fe3342", func := "loop.example/g01106/laws.FnDualMatrices", spec := "fnDualMatrices", recurses := true, apart := false, narrowed := true }
def FnDualMatricesUptoSaid : Prop := fnDualMatricesUptoRow.holds Try.pinned (OpenSpec.upto fnDualMatricesSpec)

/-- 'laws.FnCovers', WHERE WHAT IT READS IS OF BULK AT MOST 1048576: true; the input reads as it did. -/
def fnCoversUptoRow : OpenClaim := { program := "ytkcdahcljcekcaa", sum := "c2673d8ce9ef212d62ce7b46eb32eae75240f6895794e2379a01cc27b6fe3342", func := "loop.example/g01106/laws.FnCovers", spec := "fnCovers", unfollowed := true, recurses := true, apart := false, narrowed := true }
def FnCoversUptoSaid : Prop := fnCoversUptoRow.holds Try.pinned (OpenSpec.upto fnCoversSpec)

end Rows
end Go.Proofs.Ytkcdahcljcekcaa
