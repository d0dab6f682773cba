/-
  No cell of these rows narrows 'for every input' (looked for: loops, veiled, ifaces, maps, wideKeys, modest, calm, conditions, laid).
  DERIVED. THE GIVEN ROWS OF THIS SEAT. 7 by the template 'for every input the law returns true; each argument reads behind the call as it read before'; 0 by the template 'total and deterministic' (their statements: YtapgjgehpjppaaaTotals.lean).
  GIVEN WITH THE SEED: the statements are not yours to turn. If you find one false, say at which input.
  Laid BY PROGRAM, IN A SANDBOX (cutbox-rows.mjs): the forced cells as the released guide's own fill.sh prints them over the translation 21c15499a9cad5c8… (all of the seat's roots in one cut). By AI agents, Wed Nov 11 2026. No macro, syntax, notation, axiom, sorry.
-/
import Derived.Test.YtapgjgehpjppaaaChecked
import GoSem.Claim
import GoSem.ClaimJoined
import GoSem.ClaimMapViews
import Derived.JoinedTies
import Derived.KernelRfl
namespace Go.Proofs.Ytapgjgehpjppaaa
/- THE CELL 'sum', in the pinned program and in every row, IS THE sha256 OF THE DUMP (.gsa) THAT YtapgjgehpjppaaaProg.lean LOADS. Nothing in Lean hashes anything: it is a label: what it is worth is what the hold of that sum in a sandbox is worth. -/
noncomputable def Try.pinned : Pinned := { name := "ytapgjgehpjppaaa", sum := "21c15499a9cad5c8bbe619fb5ebf0ace0dab1a9b601d96ca8a2a9dc25651f94f", checked := Try.checked }
namespace Rows
def none {H : Type} : Left H := { results := [], args := [] }

/-- 'laws.FnExactAscentOfMatrix': WHATEVER THE INPUT: true; the input reads as it did. -/
def fnExactAscentOfMatrixSpec : ChangeSpec := { name := "fnExactAscentOfMatrix", fn := fun _ => fun
  | [d] => { results := [.lit (.bool true)], args := [d] }
  | _ => none }
def fnExactAscentOfMatrixRow : OpenClaim := { program := "ytapgjgehpjppaaa", sum := "21c15499a9cad5c8bbe619fb5ebf0ace0dab1a9b601d96ca8a2a9dc25651f94f", func := "loop.example/g01106/laws.FnExactAscentOfMatrix", spec := "fnExactAscentOfMatrix", plainKeys := false, apart := false }
def FnExactAscentOfMatrixSaid : Prop := fnExactAscentOfMatrixRow.holds Try.pinned (OpenSpec.ofChange fnExactAscentOfMatrixSpec)

/-- ITS FALSE NEIGHBOUR: 'it returns false'. Refute it at one input. -/
def fnExactAscentOfMatrixWrong : ChangeSpec := { name := "fnExactAscentOfMatrix", fn := fun _ => fun
  | [d] => { results := [.lit (.bool false)], args := [d] }
  | _ => none }
def FnExactAscentOfMatrixWrongFalsely : Prop := fnExactAscentOfMatrixRow.holds Try.pinned (OpenSpec.ofChange fnExactAscentOfMatrixWrong)

/-- 'laws.FnExactMatrixOfOrder': WHATEVER THE INPUT: true; the input reads as it did. -/
def fnExactMatrixOfOrderSpec : ChangeSpec := { name := "fnExactMatrixOfOrder", fn := fun _ => fun
  | [d] => { results := [.lit (.bool true)], args := [d] }
  | _ => none }
def fnExactMatrixOfOrderRow : OpenClaim := { program := "ytapgjgehpjppaaa", sum := "21c15499a9cad5c8bbe619fb5ebf0ace0dab1a9b601d96ca8a2a9dc25651f94f", func := "loop.example/g01106/laws.FnExactMatrixOfOrder", spec := "fnExactMatrixOfOrder", recurses := true, plainKeys := false, apart := false }
def FnExactMatrixOfOrderSaid : Prop := fnExactMatrixOfOrderRow.holds Try.pinned (OpenSpec.ofChange fnExactMatrixOfOrderSpec)

/-- ITS FALSE NEIGHBOUR: 'it returns false'. Refute it at one input. -/
def fnExactMatrixOfOrderWrong : ChangeSpec := { name := "fnExactMatrixOfOrder", fn := fun _ => fun
  | [d] => { results := [.lit (.bool false)], args := [d] }
  | _ => none }
def FnExactMatrixOfOrderWrongFalsely : Prop := fnExactMatrixOfOrderRow.holds Try.pinned (OpenSpec.ofChange fnExactMatrixOfOrderWrong)

/-- 'laws.FnExactOrderOfMatrix': WHATEVER THE INPUT: true; the input reads as it did. -/
def fnExactOrderOfMatrixSpec : ChangeSpec := { name := "fnExactOrderOfMatrix", fn := fun _ => fun
  | [d] => { results := [.lit (.bool true)], args := [d] }
  | _ => none }
def fnExactOrderOfMatrixRow : OpenClaim := { program := "ytapgjgehpjppaaa", sum := "21c15499a9cad5c8bbe619fb5ebf0ace0dab1a9b601d96ca8a2a9dc25651f94f", func := "loop.example/g01106/laws.FnExactOrderOfMatrix", spec := "fnExactOrderOfMatrix", unfollowed := true, recurses := true, plainKeys := false, apart := false }
def FnExactOrderOfMatrixSaid : Prop := fnExactOrderOfMatrixRow.holds Try.pinned (OpenSpec.ofChange fnExactOrderOfMatrixSpec)

/-- ITS FALSE NEIGHBOUR: 'it returns false'. Refute it at one input. -/
def fnExactOrderOfMatrixWrong : ChangeSpec := { name := "fnExactOrderOfMatrix", fn := fun _ => fun
  | [d] => { results := [.lit (.bool false)], args := [d] }
  | _ => none }
def FnExactOrderOfMatrixWrongFalsely : Prop := fnExactOrderOfMatrixRow.holds Try.pinned (OpenSpec.ofChange fnExactOrderOfMatrixWrong)

/-- 'laws.FnExactAscentOfOrder': WHATEVER THE INPUT: true; the input reads as it did. -/
def fnExactAscentOfOrderSpec : ChangeSpec := { name := "fnExactAscentOfOrder", fn := fun _ => fun
  | [d] => { results := [.lit (.bool true)], args := [d] }
  | _ => none }
def fnExactAscentOfOrderRow : OpenClaim := { program := "ytapgjgehpjppaaa", sum := "21c15499a9cad5c8bbe619fb5ebf0ace0dab1a9b601d96ca8a2a9dc25651f94f", func := "loop.example/g01106/laws.FnExactAscentOfOrder", spec := "fnExactAscentOfOrder", recurses := true, plainKeys := false, apart := false }
def FnExactAscentOfOrderSaid : Prop := fnExactAscentOfOrderRow.holds Try.pinned (OpenSpec.ofChange fnExactAscentOfOrderSpec)

/-- ITS FALSE NEIGHBOUR: 'it returns false'. Refute it at one input. -/
def fnExactAscentOfOrderWrong : ChangeSpec := { name := "fnExactAscentOfOrder", fn := fun _ => fun
  | [d] => { results := [.lit (.bool false)], args := [d] }
  | _ => none }
def FnExactAscentOfOrderWrongFalsely : Prop := fnExactAscentOfOrderRow.holds Try.pinned (OpenSpec.ofChange fnExactAscentOfOrderWrong)

/-- 'laws.FnExactAreAlike': WHATEVER THE INPUT: true; the input reads as it did. -/
def fnExactAreAlikeSpec : ChangeSpec := { name := "fnExactAreAlike", fn := fun _ => fun
  | [d1, d2] => { results := [.lit (.bool true)], args := [d1, d2] }
  | _ => none }
def fnExactAreAlikeRow : OpenClaim := { program := "ytapgjgehpjppaaa", sum := "21c15499a9cad5c8bbe619fb5ebf0ace0dab1a9b601d96ca8a2a9dc25651f94f", func := "loop.example/g01106/laws.FnExactAreAlike", spec := "fnExactAreAlike", unfollowed := true, recurses := true, plainKeys := false, apart := false }
def FnExactAreAlikeSaid : Prop := fnExactAreAlikeRow.holds Try.pinned (OpenSpec.ofChange fnExactAreAlikeSpec)

/-- ITS FALSE NEIGHBOUR: 'it returns false'. Refute it at one input. -/
def fnExactAreAlikeWrong : ChangeSpec := { name := "fnExactAreAlike", fn := fun _ => fun
  | [d1, d2] => { results := [.lit (.bool false)], args := [d1, d2] }
  | _ => none }
def FnExactAreAlikeWrongFalsely : Prop := fnExactAreAlikeRow.holds Try.pinned (OpenSpec.ofChange fnExactAreAlikeWrong)

/-- 'laws.FnExactListMatrices': WHATEVER THE INPUT: true; the input reads as it did. -/
def fnExactListMatricesSpec : ChangeSpec := { name := "fnExactListMatrices", fn := fun _ => fun
  | [d] => { results := [.lit (.bool true)], args := [d] }
  | _ => none }
def fnExactListMatricesRow : OpenClaim := { program := "ytapgjgehpjppaaa", sum := "21c15499a9cad5c8bbe619fb5ebf0ace0dab1a9b601d96ca8a2a9dc25651f94f", func := "loop.example/g01106/laws.FnExactListMatrices", spec := "fnExactListMatrices", inPlace := ["slices.overlaps[[]int]", "slices.overlaps[int]"], plainKeys := false, apart := false }
def FnExactListMatricesSaid : Prop := fnExactListMatricesRow.holds Try.pinned (OpenSpec.ofChange fnExactListMatricesSpec)

/-- ITS FALSE NEIGHBOUR: 'it returns false'. Refute it at one input. -/
def fnExactListMatricesWrong : ChangeSpec := { name := "fnExactListMatrices", fn := fun _ => fun
  | [d] => { results := [.lit (.bool false)], args := [d] }
  | _ => none }
def FnExactListMatricesWrongFalsely : Prop := fnExactListMatricesRow.holds Try.pinned (OpenSpec.ofChange fnExactListMatricesWrong)

/-- 'laws.FnExactCountFlat': WHATEVER THE INPUT: true; the input reads as it did. -/
def fnExactCountFlatSpec : ChangeSpec := { name := "fnExactCountFlat", fn := fun _ => fun
  | [d] => { results := [.lit (.bool true)], args := [d] }
  | _ => none }
def fnExactCountFlatRow : OpenClaim := { program := "ytapgjgehpjppaaa", sum := "21c15499a9cad5c8bbe619fb5ebf0ace0dab1a9b601d96ca8a2a9dc25651f94f", func := "loop.example/g01106/laws.FnExactCountFlat", spec := "fnExactCountFlat", plainKeys := false, apart := false }
def FnExactCountFlatSaid : Prop := fnExactCountFlatRow.holds Try.pinned (OpenSpec.ofChange fnExactCountFlatSpec)

/-- ITS FALSE NEIGHBOUR: 'it returns false'. Refute it at one input. -/
def fnExactCountFlatWrong : ChangeSpec := { name := "fnExactCountFlat", fn := fun _ => fun
  | [d] => { results := [.lit (.bool false)], args := [d] }
  | _ => none }
def FnExactCountFlatWrongFalsely : Prop := fnExactCountFlatRow.holds Try.pinned (OpenSpec.ofChange fnExactCountFlatWrong)

/- THE SECOND FORM. 'bulk': how many values and letters a reading holds, each counted each time it is reached (what is shared counts as often as it is met; a slice's spare places count too). A statement '..UptoSaid' is the law's where the arguments, and the package variables that the reading takes, are together of bulk at most 1048576: NARROWER than '..Said'. Prove '..Said' where nothing that the law and all that it calls make is longer than what came in: it says more and counts as full. Else prove '..UptoSaid'. A law counts once. -/
mutual
def uptoBulk {H : Type} : DataW H → Nat
  | .lit (.string bytes) => bytes.length + 1
  | .lit _ => 1
  | .nil => 1
  | .ptr d => uptoBulk d + 1
  | .slice elems spare => uptoBulkAll elems + uptoBulkAll spare + 1
  | .agg parts => uptoBulkAll parts + 1
  | .iface _ d => uptoBulk d + 1
  | .map entries => uptoBulkEntries entries + 1
  | .held _ => 1
def uptoBulkAll {H : Type} : List (DataW H) → Nat
  | [] => 0
  | d :: r => uptoBulk d + uptoBulkAll r
def uptoBulkEntries {H : Type} : List (Lit × DataW H) → Nat
  | [] => 0
  | x :: r => uptoBulkEntry x + uptoBulkEntries r
def uptoBulkEntry {H : Type} : Lit × DataW H → Nat
  | (.string bytes, d) => bytes.length + uptoBulk d + 1
  | (_, d) => uptoBulk d + 1
 end
def uptoSmall : (H : Type) → List (DataW H) → Bool := fun _ ds => decide (uptoBulkAll ds ≤ 1048576)
def OpenSpec.upto (s : _root_.Go.ChangeSpec) : _root_.Go.OpenSpec := { _root_.Go.OpenSpec.ofChange s with cond := some uptoSmall }

/-- 'laws.FnExactAscentOfMatrix', WHERE WHAT IT READS IS OF BULK AT MOST 1048576: true; the input reads as it did. -/
def fnExactAscentOfMatrixUptoRow : OpenClaim := { program := "ytapgjgehpjppaaa", sum := "21c15499a9cad5c8bbe619fb5ebf0ace0dab1a9b601d96ca8a2a9dc25651f94f", func := "loop.example/g01106/laws.FnExactAscentOfMatrix", spec := "fnExactAscentOfMatrix", plainKeys := false, apart := false, narrowed := true }
def FnExactAscentOfMatrixUptoSaid : Prop := fnExactAscentOfMatrixUptoRow.holds Try.pinned (OpenSpec.upto fnExactAscentOfMatrixSpec)

/-- 'laws.FnExactMatrixOfOrder', WHERE WHAT IT READS IS OF BULK AT MOST 1048576: true; the input reads as it did. -/
def fnExactMatrixOfOrderUptoRow : OpenClaim := { program := "ytapgjgehpjppaaa", sum := "21c15499a9cad5c8bbe619fb5ebf0ace0dab1a9b601d96ca8a2a9dc25651f94f", func := "loop.example/g01106/laws.FnExactMatrixOfOrder", spec := "fnExactMatrixOfOrder", recurses := true, plainKeys := false, apart := false, narrowed := true }
def FnExactMatrixOfOrderUptoSaid : Prop := fnExactMatrixOfOrderUptoRow.holds Try.pinned (OpenSpec.upto fnExactMatrixOfOrderSpec)

/-- 'laws.FnExactOrderOfMatrix', WHERE WHAT IT READS IS OF BULK AT MOST 1048576: true; the input reads as it did. -/
def fnExactOrderOfMatrixUptoRow : OpenClaim := { program := "ytapgjgehpjppaaa", sum := "21c15499a9cad5c8bbe619fb5ebf0ace0dab1a9b601d96ca8a2a9dc25651f94f", func := "loop.example/g01106/laws.FnExactOrderOfMatrix", spec := "fnExactOrderOfMatrix", unfollowed := true, recurses := true, plainKeys := false, apart := false, narrowed := true }
def FnExactOrderOfMatrixUptoSaid : Prop := fnExactOrderOfMatrixUptoRow.holds Try.pinned (OpenSpec.upto fnExactOrderOfMatrixSpec)

/-- 'laws.FnExactAscentOfOrder', WHERE WHAT IT READS IS OF BULK AT MOST 1048576: true; the input reads as it did. -/
def fnExactAscentOfOrderUptoRow : OpenClaim := { program := "ytapgjgehpjppaaa", sum := "21c15499a9cad5c8bbe619fb5ebf0ace0dab1a9b601d96ca8a2a9dc25651f94f", func := "loop.example/g01106/laws.FnExactAscentOfOrder", spec := "fnExactAscentOfOrder", recurses := true, plainKeys := false, apart := false, narrowed := true }
def FnExactAscentOfOrderUptoSaid : Prop := fnExactAscentOfOrderUptoRow.holds Try.pinned (OpenSpec.upto fnExactAscentOfOrderSpec)

/-- 'laws.FnExactAreAlike', WHERE WHAT IT READS IS OF BULK AT MOST 1048576: true; the input reads as it did. -/
def fnExactAreAlikeUptoRow : OpenClaim := { program := "ytapgjgehpjppaaa", sum := "21c15499a9cad5c8bbe619fb5ebf0ace0dab1a9b601d96ca8a2a9dc25651f94f", func := "loop.example/g01106/laws.FnExactAreAlike", spec := "fnExactAreAlike", unfollowed := true, recurses := true, plainKeys := false, apart := false, narrowed := true }
def FnExactAreAlikeUptoSaid : Prop := fnExactAreAlikeUptoRow.holds Try.pinned (OpenSpec.upto fnExactAreAlikeSpec)

/-- 'laws.FnExactListMatrices', WHERE WHAT IT READS IS OF BULK AT MOST 1048576: true; the input reads as it did. -/
def fnExactListMatricesUptoRow : OpenClaim := { program := "ytapgjgehpjppaaa", sum := "21c15499a9cad5c8bbe619fb5ebf0ace0dab1a9b601d96ca8a2a9dc25651f94f", func := "loop.example/g01106/laws.FnExactListMatrices", spec := "fnExactListMatrices", inPlace := ["slices.overlaps[[]int]", "slices.overlaps[int]"], plainKeys := false, apart := false, narrowed := true }
def FnExactListMatricesUptoSaid : Prop := fnExactListMatricesUptoRow.holds Try.pinned (OpenSpec.upto fnExactListMatricesSpec)

/-- 'laws.FnExactCountFlat', WHERE WHAT IT READS IS OF BULK AT MOST 1048576: true; the input reads as it did. -/
def fnExactCountFlatUptoRow : OpenClaim := { program := "ytapgjgehpjppaaa", sum := "21c15499a9cad5c8bbe619fb5ebf0ace0dab1a9b601d96ca8a2a9dc25651f94f", func := "loop.example/g01106/laws.FnExactCountFlat", spec := "fnExactCountFlat", plainKeys := false, apart := false, narrowed := true }
def FnExactCountFlatUptoSaid : Prop := fnExactCountFlatUptoRow.holds Try.pinned (OpenSpec.upto fnExactCountFlatSpec)

end Rows
end Go.Proofs.Ytapgjgehpjppaaa
