/-
  No cell of these rows narrows 'for every input' (looked for: loops, veiled, ifaces, maps, wideKeys, modest, calm, conditions, laid).
  DERIVED. THE GIVEN ROWS OF THIS SEAT. 8 by the template 'for every input the law returns true; each argument reads behind the call as it read before'; 0 by the template 'total and deterministic' (their statements: YtkhilginiahebaaTotals.lean).
  GIVEN WITH THE SEED: the statements are not yours to turn. If you find one false, say at which input.
  Laid BY PROGRAM, IN A SANDBOX (cutbox-rows.mjs): the forced cells as the released guide's own fill.sh prints them over the translation 4d37579298e9954e… (all of the seat's roots in one cut). By AI agents, Wed Nov 11 2026. No macro, syntax, notation, axiom, sorry.
-/
import Derived.Test.YtkhilginiahebaaChecked
import GoSem.Claim
import GoSem.ClaimJoined
import GoSem.ClaimMapViews
import Derived.JoinedTies
import Derived.KernelRfl
namespace Go.Proofs.Ytkhilginiahebaa
/- THE CELL 'sum', in the pinned program and in every row, IS THE sha256 OF THE DUMP (.gsa) THAT YtkhilginiahebaaProg.lean LOADS. Nothing in Lean hashes anything: it is a label: what it is worth is what the hold of that sum in a sandbox is worth. -/
noncomputable def Try.pinned : Pinned := { name := "ytkhilginiahebaa", sum := "4d37579298e9954e8c9c793f175c36d8bd9581fc5657f9a8569063e9f43915d0", checked := Try.checked }
namespace Rows
def none {H : Type} : Left H := { results := [], args := [] }

/-- 'laws.FnExactIsAscent': WHATEVER THE INPUT: true; the input reads as it did. -/
def fnExactIsAscentSpec : ChangeSpec := { name := "fnExactIsAscent", fn := fun _ => fun
  | [d] => { results := [.lit (.bool true)], args := [d] }
  | _ => none }
def fnExactIsAscentRow : OpenClaim := { program := "ytkhilginiahebaa", sum := "4d37579298e9954e8c9c793f175c36d8bd9581fc5657f9a8569063e9f43915d0", func := "loop.example/g01106/laws.FnExactIsAscent", spec := "fnExactIsAscent", apart := false }
def FnExactIsAscentSaid : Prop := fnExactIsAscentRow.holds Try.pinned (OpenSpec.ofChange fnExactIsAscentSpec)

/-- ITS FALSE NEIGHBOUR: 'it returns false'. Refute it at one input. -/
def fnExactIsAscentWrong : ChangeSpec := { name := "fnExactIsAscent", fn := fun _ => fun
  | [d] => { results := [.lit (.bool false)], args := [d] }
  | _ => none }
def FnExactIsAscentWrongFalsely : Prop := fnExactIsAscentRow.holds Try.pinned (OpenSpec.ofChange fnExactIsAscentWrong)

/-- 'laws.FnExactAscentsOf': WHATEVER THE INPUT: true; the input reads as it did. -/
def fnExactAscentsOfSpec : ChangeSpec := { name := "fnExactAscentsOf", fn := fun _ => fun
  | [d] => { results := [.lit (.bool true)], args := [d] }
  | _ => none }
def fnExactAscentsOfRow : OpenClaim := { program := "ytkhilginiahebaa", sum := "4d37579298e9954e8c9c793f175c36d8bd9581fc5657f9a8569063e9f43915d0", func := "loop.example/g01106/laws.FnExactAscentsOf", spec := "fnExactAscentsOf", apart := false }
def FnExactAscentsOfSaid : Prop := fnExactAscentsOfRow.holds Try.pinned (OpenSpec.ofChange fnExactAscentsOfSpec)

/-- ITS FALSE NEIGHBOUR: 'it returns false'. Refute it at one input. -/
def fnExactAscentsOfWrong : ChangeSpec := { name := "fnExactAscentsOf", fn := fun _ => fun
  | [d] => { results := [.lit (.bool false)], args := [d] }
  | _ => none }
def FnExactAscentsOfWrongFalsely : Prop := fnExactAscentsOfRow.holds Try.pinned (OpenSpec.ofChange fnExactAscentsOfWrong)

/-- 'laws.FnExactNextAscent': WHATEVER THE INPUT: true; the input reads as it did. -/
def fnExactNextAscentSpec : ChangeSpec := { name := "fnExactNextAscent", fn := fun _ => fun
  | [d] => { results := [.lit (.bool true)], args := [d] }
  | _ => none }
def fnExactNextAscentRow : OpenClaim := { program := "ytkhilginiahebaa", sum := "4d37579298e9954e8c9c793f175c36d8bd9581fc5657f9a8569063e9f43915d0", func := "loop.example/g01106/laws.FnExactNextAscent", spec := "fnExactNextAscent", apart := false }
def FnExactNextAscentSaid : Prop := fnExactNextAscentRow.holds Try.pinned (OpenSpec.ofChange fnExactNextAscentSpec)

/-- ITS FALSE NEIGHBOUR: 'it returns false'. Refute it at one input. -/
def fnExactNextAscentWrong : ChangeSpec := { name := "fnExactNextAscent", fn := fun _ => fun
  | [d] => { results := [.lit (.bool false)], args := [d] }
  | _ => none }
def FnExactNextAscentWrongFalsely : Prop := fnExactNextAscentRow.holds Try.pinned (OpenSpec.ofChange fnExactNextAscentWrong)

/-- 'laws.FnExactListAscents': WHATEVER THE INPUT: true; the input reads as it did. -/
def fnExactListAscentsSpec : ChangeSpec := { name := "fnExactListAscents", fn := fun _ => fun
  | [d] => { results := [.lit (.bool true)], args := [d] }
  | _ => none }
def fnExactListAscentsRow : OpenClaim := { program := "ytkhilginiahebaa", sum := "4d37579298e9954e8c9c793f175c36d8bd9581fc5657f9a8569063e9f43915d0", func := "loop.example/g01106/laws.FnExactListAscents", spec := "fnExactListAscents", apart := false }
def FnExactListAscentsSaid : Prop := fnExactListAscentsRow.holds Try.pinned (OpenSpec.ofChange fnExactListAscentsSpec)

/-- ITS FALSE NEIGHBOUR: 'it returns false'. Refute it at one input. -/
def fnExactListAscentsWrong : ChangeSpec := { name := "fnExactListAscents", fn := fun _ => fun
  | [d] => { results := [.lit (.bool false)], args := [d] }
  | _ => none }
def FnExactListAscentsWrongFalsely : Prop := fnExactListAscentsRow.holds Try.pinned (OpenSpec.ofChange fnExactListAscentsWrong)

/-- 'laws.FnExactModifyAscent': WHATEVER THE INPUT: true; the input reads as it did. -/
def fnExactModifyAscentSpec : ChangeSpec := { name := "fnExactModifyAscent", fn := fun _ => fun
  | [d] => { results := [.lit (.bool true)], args := [d] }
  | _ => none }
def fnExactModifyAscentRow : OpenClaim := { program := "ytkhilginiahebaa", sum := "4d37579298e9954e8c9c793f175c36d8bd9581fc5657f9a8569063e9f43915d0", func := "loop.example/g01106/laws.FnExactModifyAscent", spec := "fnExactModifyAscent", apart := false }
def FnExactModifyAscentSaid : Prop := fnExactModifyAscentRow.holds Try.pinned (OpenSpec.ofChange fnExactModifyAscentSpec)

/-- ITS FALSE NEIGHBOUR: 'it returns false'. Refute it at one input. -/
def fnExactModifyAscentWrong : ChangeSpec := { name := "fnExactModifyAscent", fn := fun _ => fun
  | [d] => { results := [.lit (.bool false)], args := [d] }
  | _ => none }
def FnExactModifyAscentWrongFalsely : Prop := fnExactModifyAscentRow.holds Try.pinned (OpenSpec.ofChange fnExactModifyAscentWrong)

/-- 'laws.FnExactUnmodifyAscent': WHATEVER THE INPUT: true; the input reads as it did. -/
def fnExactUnmodifyAscentSpec : ChangeSpec := { name := "fnExactUnmodifyAscent", fn := fun _ => fun
  | [d] => { results := [.lit (.bool true)], args := [d] }
  | _ => none }
def fnExactUnmodifyAscentRow : OpenClaim := { program := "ytkhilginiahebaa", sum := "4d37579298e9954e8c9c793f175c36d8bd9581fc5657f9a8569063e9f43915d0", func := "loop.example/g01106/laws.FnExactUnmodifyAscent", spec := "fnExactUnmodifyAscent", apart := false }
def FnExactUnmodifyAscentSaid : Prop := fnExactUnmodifyAscentRow.holds Try.pinned (OpenSpec.ofChange fnExactUnmodifyAscentSpec)

/-- ITS FALSE NEIGHBOUR: 'it returns false'. Refute it at one input. -/
def fnExactUnmodifyAscentWrong : ChangeSpec := { name := "fnExactUnmodifyAscent", fn := fun _ => fun
  | [d] => { results := [.lit (.bool false)], args := [d] }
  | _ => none }
def FnExactUnmodifyAscentWrongFalsely : Prop := fnExactUnmodifyAscentRow.holds Try.pinned (OpenSpec.ofChange fnExactUnmodifyAscentWrong)

/-- 'laws.FnExactIsSteady': WHATEVER THE INPUT: true; the input reads as it did. -/
def fnExactIsSteadySpec : ChangeSpec := { name := "fnExactIsSteady", fn := fun _ => fun
  | [d] => { results := [.lit (.bool true)], args := [d] }
  | _ => none }
def fnExactIsSteadyRow : OpenClaim := { program := "ytkhilginiahebaa", sum := "4d37579298e9954e8c9c793f175c36d8bd9581fc5657f9a8569063e9f43915d0", func := "loop.example/g01106/laws.FnExactIsSteady", spec := "fnExactIsSteady", apart := false }
def FnExactIsSteadySaid : Prop := fnExactIsSteadyRow.holds Try.pinned (OpenSpec.ofChange fnExactIsSteadySpec)

/-- ITS FALSE NEIGHBOUR: 'it returns false'. Refute it at one input. -/
def fnExactIsSteadyWrong : ChangeSpec := { name := "fnExactIsSteady", fn := fun _ => fun
  | [d] => { results := [.lit (.bool false)], args := [d] }
  | _ => none }
def FnExactIsSteadyWrongFalsely : Prop := fnExactIsSteadyRow.holds Try.pinned (OpenSpec.ofChange fnExactIsSteadyWrong)

/-- 'laws.FnExactMergeEqual': WHATEVER THE INPUT: true; the input reads as it did. -/
def fnExactMergeEqualSpec : ChangeSpec := { name := "fnExactMergeEqual", fn := fun _ => fun
  | [d] => { results := [.lit (.bool true)], args := [d] }
  | _ => none }
def fnExactMergeEqualRow : OpenClaim := { program := "ytkhilginiahebaa", sum := "4d37579298e9954e8c9c793f175c36d8bd9581fc5657f9a8569063e9f43915d0", func := "loop.example/g01106/laws.FnExactMergeEqual", spec := "fnExactMergeEqual", apart := false }
def FnExactMergeEqualSaid : Prop := fnExactMergeEqualRow.holds Try.pinned (OpenSpec.ofChange fnExactMergeEqualSpec)

/-- ITS FALSE NEIGHBOUR: 'it returns false'. Refute it at one input. -/
def fnExactMergeEqualWrong : ChangeSpec := { name := "fnExactMergeEqual", fn := fun _ => fun
  | [d] => { results := [.lit (.bool false)], args := [d] }
  | _ => none }
def FnExactMergeEqualWrongFalsely : Prop := fnExactMergeEqualRow.holds Try.pinned (OpenSpec.ofChange fnExactMergeEqualWrong)

/- THE SECOND FORM. 'bulk': how many values and letters a reading holds, each counted each time it is reached (what is shared counts as often as it is met; a slice's spare places count too). A statement '..UptoSaid' is the law's where the arguments, and the package variables that the reading takes, are together of bulk at most 1048576: NARROWER than '..Said'. Prove '..Said' where nothing that the law and all that it calls make is longer than what came in: it says more and counts as full. Else prove '..UptoSaid'. A law counts once. -/
mutual
def uptoBulk {H : Type} : DataW H → Nat
  | .lit (.string bytes) => bytes.length + 1
  | .lit _ => 1
  | .nil => 1
  | .ptr d => uptoBulk d + 1
  | .slice elems spare => uptoBulkAll elems + uptoBulkAll spare + 1
  | .agg parts => uptoBulkAll parts + 1
  | .iface _ d => uptoBulk d + 1
  | .map entries => uptoBulkEntries entries + 1
  | .held _ => 1
def uptoBulkAll {H : Type} : List (DataW H) → Nat
  | [] => 0
  | d :: r => uptoBulk d + uptoBulkAll r
def uptoBulkEntries {H : Type} : List (Lit × DataW H) → Nat
  | [] => 0
  | x :: r => uptoBulkEntry x + uptoBulkEntries r
def uptoBulkEntry {H : Type} : Lit × DataW H → Nat
  | (.string bytes, d) => bytes.length + uptoBulk d + 1
  | (_, d) => uptoBulk d + 1
 end
def uptoSmall : (H : Type) → List (DataW H) → Bool := fun _ ds => decide (uptoBulkAll ds ≤ 1048576)
def OpenSpec.upto (s : _root_.Go.ChangeSpec) : _root_.Go.OpenSpec := { _root_.Go.OpenSpec.ofChange s with cond := some uptoSmall }

/-- 'laws.FnExactIsAscent', WHERE WHAT IT READS IS OF BULK AT MOST 1048576: true; the input reads as it did. -/
def fnExactIsAscentUptoRow : OpenClaim := { program := "ytkhilginiahebaa", sum := "4d37579298e9954e8c9c793f175c36d8bd9581fc5657f9a8569063e9f43915d0", func := "loop.example/g01106/laws.FnExactIsAscent", spec := "fnExactIsAscent", apart := false, narrowed := true }
def FnExactIsAscentUptoSaid : Prop := fnExactIsAscentUptoRow.holds Try.pinned (OpenSpec.upto fnExactIsAscentSpec)

/-- 'laws.FnExactAscentsOf', WHERE WHAT IT READS IS OF BULK AT MOST 1048576: true; the input reads as it did. -/
def fnExactAscentsOfUptoRow : OpenClaim := { program := "ytkhilginiahebaa", sum := "4d37579298e9954e8c9c793f175c36d8bd9581fc5657f9a8569063e9f43915d0", func := "loop.example/g01106/laws.FnExactAscentsOf", spec := "fnExactAscentsOf", apart := false, narrowed := true }
def FnExactAscentsOfUptoSaid : Prop := fnExactAscentsOfUptoRow.holds Try.pinned (OpenSpec.upto fnExactAscentsOfSpec)

/-- 'laws.FnExactNextAscent', WHERE WHAT IT READS IS OF BULK AT MOST 1048576: true; the input reads as it did. -/
def fnExactNextAscentUptoRow : OpenClaim := { program := "ytkhilginiahebaa", sum := "4d37579298e9954e8c9c793f175c36d8bd9581fc5657f9a8569063e9f43915d0", func := "loop.example/g01106/laws.FnExactNextAscent", spec := "fnExactNextAscent", apart := false, narrowed := true }
def FnExactNextAscentUptoSaid : Prop := fnExactNextAscentUptoRow.holds Try.pinned (OpenSpec.upto fnExactNextAscentSpec)

/-- 'laws.FnExactListAscents', WHERE WHAT IT READS IS OF BULK AT MOST 1048576: true; the input reads as it did. -/
def fnExactListAscentsUptoRow : OpenClaim := { program := "ytkhilginiahebaa", sum := "4d37579298e9954e8c9c793f175c36d8bd9581fc5657f9a8569063e9f43915d0", func := "loop.example/g01106/laws.FnExactListAscents", spec := "fnExactListAscents", apart := false, narrowed := true }
def FnExactListAscentsUptoSaid : Prop := fnExactListAscentsUptoRow.holds Try.pinned (OpenSpec.upto fnExactListAscentsSpec)

/-- 'laws.FnExactModifyAscent', WHERE WHAT IT READS IS OF BULK AT MOST 1048576: true; the input reads as it did. -/
def fnExactModifyAscentUptoRow : OpenClaim := { program := "ytkhilginiahebaa", sum := "4d37579298e9954e8c9c793f175c36d8bd9581fc5657f9a8569063e9f43915d0", func := "loop.example/g01106/laws.FnExactModifyAscent", spec := "fnExactModifyAscent", apart := false, narrowed := true }
def FnExactModifyAscentUptoSaid : Prop := fnExactModifyAscentUptoRow.holds Try.pinned (OpenSpec.upto fnExactModifyAscentSpec)

/-- 'laws.FnExactUnmodifyAscent', WHERE WHAT IT READS IS OF BULK AT MOST 1048576: true; the input reads as it did. -/
def fnExactUnmodifyAscentUptoRow : OpenClaim := { program := "ytkhilginiahebaa", sum := "4d37579298e9954e8c9c793f175c36d8bd9581fc5657f9a8569063e9f43915d0", func := "loop.example/g01106/laws.FnExactUnmodifyAscent", spec := "fnExactUnmodifyAscent", apart := false, narrowed := true }
def FnExactUnmodifyAscentUptoSaid : Prop := fnExactUnmodifyAscentUptoRow.holds Try.pinned (OpenSpec.upto fnExactUnmodifyAscentSpec)

/-- 'laws.FnExactIsSteady', WHERE WHAT IT READS IS OF BULK AT MOST 1048576: true; the input reads as it did. -/
def fnExactIsSteadyUptoRow : OpenClaim := { program := "ytkhilginiahebaa", sum := "4d37579298e9954e8c9c793f175c36d8bd9581fc5657f9a8569063e9f43915d0", func := "loop.example/g01106/laws.FnExactIsSteady", spec := "fnExactIsSteady", apart := false, narrowed := true }
def FnExactIsSteadyUptoSaid : Prop := fnExactIsSteadyUptoRow.holds Try.pinned (OpenSpec.upto fnExactIsSteadySpec)

/-- 'laws.FnExactMergeEqual', WHERE WHAT IT READS IS OF BULK AT MOST 1048576: true; the input reads as it did. -/
def fnExactMergeEqualUptoRow : OpenClaim := { program := "ytkhilginiahebaa", sum := "4d37579298e9954e8c9c793f175c36d8bd9581fc5657f9a8569063e9f43915d0", func := "loop.example/g01106/laws.FnExactMergeEqual", spec := "fnExactMergeEqual", apart := false, narrowed := true }
def FnExactMergeEqualUptoSaid : Prop := fnExactMergeEqualUptoRow.holds Try.pinned (OpenSpec.upto fnExactMergeEqualSpec)

end Rows
end Go.Proofs.Ytkhilginiahebaa
