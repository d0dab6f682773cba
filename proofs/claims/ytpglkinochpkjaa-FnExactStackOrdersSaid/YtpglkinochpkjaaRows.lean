/-
  No cell of these rows narrows 'for every input' (looked for: loops, veiled, ifaces, maps, wideKeys, modest, calm, conditions, laid).
  DERIVED. THE GIVEN ROWS OF THIS SEAT. 6 by the template 'for every input the law returns true; each argument reads behind the call as it read before'; 0 by the template 'total and deterministic' (their statements: YtpglkinochpkjaaTotals.lean).
  GIVEN WITH THE SEED: the statements are not yours to turn. If you find one false, say at which input.
  Laid BY PROGRAM, IN A SANDBOX (cutbox-rows.mjs): the forced cells as the released guide's own fill.sh prints them over the translation 455dceabd36df499… (all of the seat's roots in one cut). By AI agents, Wed Nov 11 2026. No macro, syntax, notation, axiom, sorry.
-/
import Derived.Test.YtpglkinochpkjaaChecked
import GoSem.Claim
import GoSem.ClaimJoined
import GoSem.ClaimMapViews
import Derived.JoinedTies
import Derived.KernelRfl
namespace Go.Proofs.Ytpglkinochpkjaa
/- THE CELL 'sum', in the pinned program and in every row, IS THE sha256 OF THE DUMP (.gsa) THAT YtpglkinochpkjaaProg.lean LOADS. Nothing in Lean hashes anything: it is a label: what it is worth is what the hold of that sum in a sandbox is worth. -/
noncomputable def Try.pinned : Pinned := { name := "ytpglkinochpkjaa", sum := "455dceabd36df499f0a93e70c9365a536b02b4cd314359d0aaecfaa98c26b806", checked := Try.checked }
namespace Rows
def none {H : Type} : Left H := { results := [], args := [] }

/-- 'laws.FnExactStackOrders': WHATEVER THE INPUT: true; the input reads as it did. -/
def fnExactStackOrdersSpec : ChangeSpec := { name := "fnExactStackOrders", fn := fun _ => fun
  | [d1, d2] => { results := [.lit (.bool true)], args := [d1, d2] }
  | _ => none }
def fnExactStackOrdersRow : OpenClaim := { program := "ytpglkinochpkjaa", sum := "455dceabd36df499f0a93e70c9365a536b02b4cd314359d0aaecfaa98c26b806", func := "loop.example/g01106/laws.FnExactStackOrders", spec := "fnExactStackOrders", apart := false }
def FnExactStackOrdersSaid : Prop := fnExactStackOrdersRow.holds Try.pinned (OpenSpec.ofChange fnExactStackOrdersSpec)

/-- ITS FALSE NEIGHBOUR: 'it returns false'. Refute it at one input. -/
def fnExactStackOrdersWrong : ChangeSpec := { name := "fnExactStackOrders", fn := fun _ => fun
  | [d1, d2] => { results := [.lit (.bool false)], args := [d1, d2] }
  | _ => none }
def FnExactStackOrdersWrongFalsely : Prop := fnExactStackOrdersRow.holds Try.pinned (OpenSpec.ofChange fnExactStackOrdersWrong)

/-- 'laws.FnExactBesideOrders': WHATEVER THE INPUT: true; the input reads as it did. -/
def fnExactBesideOrdersSpec : ChangeSpec := { name := "fnExactBesideOrders", fn := fun _ => fun
  | [d1, d2] => { results := [.lit (.bool true)], args := [d1, d2] }
  | _ => none }
def fnExactBesideOrdersRow : OpenClaim := { program := "ytpglkinochpkjaa", sum := "455dceabd36df499f0a93e70c9365a536b02b4cd314359d0aaecfaa98c26b806", func := "loop.example/g01106/laws.FnExactBesideOrders", spec := "fnExactBesideOrders", apart := false }
def FnExactBesideOrdersSaid : Prop := fnExactBesideOrdersRow.holds Try.pinned (OpenSpec.ofChange fnExactBesideOrdersSpec)

/-- ITS FALSE NEIGHBOUR: 'it returns false'. Refute it at one input. -/
def fnExactBesideOrdersWrong : ChangeSpec := { name := "fnExactBesideOrders", fn := fun _ => fun
  | [d1, d2] => { results := [.lit (.bool false)], args := [d1, d2] }
  | _ => none }
def FnExactBesideOrdersWrongFalsely : Prop := fnExactBesideOrdersRow.holds Try.pinned (OpenSpec.ofChange fnExactBesideOrdersWrong)

/-- 'laws.FnExactAreIntervals': WHATEVER THE INPUT: true; the input reads as it did. -/
def fnExactAreIntervalsSpec : ChangeSpec := { name := "fnExactAreIntervals", fn := fun _ => fun
  | [d] => { results := [.lit (.bool true)], args := [d] }
  | _ => none }
def fnExactAreIntervalsRow : OpenClaim := { program := "ytpglkinochpkjaa", sum := "455dceabd36df499f0a93e70c9365a536b02b4cd314359d0aaecfaa98c26b806", func := "loop.example/g01106/laws.FnExactAreIntervals", spec := "fnExactAreIntervals", unfollowed := true, recurses := true, apart := false }
def FnExactAreIntervalsSaid : Prop := fnExactAreIntervalsRow.holds Try.pinned (OpenSpec.ofChange fnExactAreIntervalsSpec)

/-- ITS FALSE NEIGHBOUR: 'it returns false'. Refute it at one input. -/
def fnExactAreIntervalsWrong : ChangeSpec := { name := "fnExactAreIntervals", fn := fun _ => fun
  | [d] => { results := [.lit (.bool false)], args := [d] }
  | _ => none }
def FnExactAreIntervalsWrongFalsely : Prop := fnExactAreIntervalsRow.holds Try.pinned (OpenSpec.ofChange fnExactAreIntervalsWrong)

/-- 'laws.FnExactMirrorIntervals': WHATEVER THE INPUT: true; the input reads as it did. -/
def fnExactMirrorIntervalsSpec : ChangeSpec := { name := "fnExactMirrorIntervals", fn := fun _ => fun
  | [d] => { results := [.lit (.bool true)], args := [d] }
  | _ => none }
def fnExactMirrorIntervalsRow : OpenClaim := { program := "ytpglkinochpkjaa", sum := "455dceabd36df499f0a93e70c9365a536b02b4cd314359d0aaecfaa98c26b806", func := "loop.example/g01106/laws.FnExactMirrorIntervals", spec := "fnExactMirrorIntervals", unfollowed := true, recurses := true, apart := false }
def FnExactMirrorIntervalsSaid : Prop := fnExactMirrorIntervalsRow.holds Try.pinned (OpenSpec.ofChange fnExactMirrorIntervalsSpec)

/-- ITS FALSE NEIGHBOUR: 'it returns false'. Refute it at one input. -/
def fnExactMirrorIntervalsWrong : ChangeSpec := { name := "fnExactMirrorIntervals", fn := fun _ => fun
  | [d] => { results := [.lit (.bool false)], args := [d] }
  | _ => none }
def FnExactMirrorIntervalsWrongFalsely : Prop := fnExactMirrorIntervalsRow.holds Try.pinned (OpenSpec.ofChange fnExactMirrorIntervalsWrong)

/-- 'laws.FnExactStretchIntervals': WHATEVER THE INPUT: true; the input reads as it did. -/
def fnExactStretchIntervalsSpec : ChangeSpec := { name := "fnExactStretchIntervals", fn := fun _ => fun
  | [d1, d2, d3] => { results := [.lit (.bool true)], args := [d1, d2, d3] }
  | _ => none }
def fnExactStretchIntervalsRow : OpenClaim := { program := "ytpglkinochpkjaa", sum := "455dceabd36df499f0a93e70c9365a536b02b4cd314359d0aaecfaa98c26b806", func := "loop.example/g01106/laws.FnExactStretchIntervals", spec := "fnExactStretchIntervals", unfollowed := true, recurses := true, apart := false }
def FnExactStretchIntervalsSaid : Prop := fnExactStretchIntervalsRow.holds Try.pinned (OpenSpec.ofChange fnExactStretchIntervalsSpec)

/-- ITS FALSE NEIGHBOUR: 'it returns false'. Refute it at one input. -/
def fnExactStretchIntervalsWrong : ChangeSpec := { name := "fnExactStretchIntervals", fn := fun _ => fun
  | [d1, d2, d3] => { results := [.lit (.bool false)], args := [d1, d2, d3] }
  | _ => none }
def FnExactStretchIntervalsWrongFalsely : Prop := fnExactStretchIntervalsRow.holds Try.pinned (OpenSpec.ofChange fnExactStretchIntervalsWrong)

/-- 'laws.FnExactOrderOfIntervals': WHATEVER THE INPUT: true; the input reads as it did. -/
def fnExactOrderOfIntervalsSpec : ChangeSpec := { name := "fnExactOrderOfIntervals", fn := fun _ => fun
  | [d] => { results := [.lit (.bool true)], args := [d] }
  | _ => none }
def fnExactOrderOfIntervalsRow : OpenClaim := { program := "ytpglkinochpkjaa", sum := "455dceabd36df499f0a93e70c9365a536b02b4cd314359d0aaecfaa98c26b806", func := "loop.example/g01106/laws.FnExactOrderOfIntervals", spec := "fnExactOrderOfIntervals", unfollowed := true, recurses := true, apart := false }
def FnExactOrderOfIntervalsSaid : Prop := fnExactOrderOfIntervalsRow.holds Try.pinned (OpenSpec.ofChange fnExactOrderOfIntervalsSpec)

/-- ITS FALSE NEIGHBOUR: 'it returns false'. Refute it at one input. -/
def fnExactOrderOfIntervalsWrong : ChangeSpec := { name := "fnExactOrderOfIntervals", fn := fun _ => fun
  | [d] => { results := [.lit (.bool false)], args := [d] }
  | _ => none }
def FnExactOrderOfIntervalsWrongFalsely : Prop := fnExactOrderOfIntervalsRow.holds Try.pinned (OpenSpec.ofChange fnExactOrderOfIntervalsWrong)

/- THE SECOND FORM. 'bulk': how many values and letters a reading holds, each counted each time it is reached (what is shared counts as often as it is met; a slice's spare places count too). A statement '..UptoSaid' is the law's where the arguments, and the package variables that the reading takes, are together of bulk at most 1048576: NARROWER than '..Said'. Prove '..Said' where nothing that the law and all that it calls make is longer than what came in: it says more and counts as full. Else prove '..UptoSaid'. A law counts once. -/
mutual
def uptoBulk {H : Type} : DataW H → Nat
  | .lit (.string bytes) => bytes.length + 1
  | .lit _ => 1
  | .nil => 1
  | .ptr d => uptoBulk d + 1
  | .slice elems spare => uptoBulkAll elems + uptoBulkAll spare + 1
  | .agg parts => uptoBulkAll parts + 1
  | .iface _ d => uptoBulk d + 1
  | .map entries => uptoBulkEntries entries + 1
  | .held _ => 1
def uptoBulkAll {H : Type} : List (DataW H) → Nat
  | [] => 0
  | d :: r => uptoBulk d + uptoBulkAll r
def uptoBulkEntries {H : Type} : List (Lit × DataW H) → Nat
  | [] => 0
  | x :: r => uptoBulkEntry x + uptoBulkEntries r
def uptoBulkEntry {H : Type} : Lit × DataW H → Nat
  | (.string bytes, d) => bytes.length + uptoBulk d + 1
  | (_, d) => uptoBulk d + 1
 end
def uptoSmall : (H : Type) → List (DataW H) → Bool := fun _ ds => decide (uptoBulkAll ds ≤ 1048576)
def OpenSpec.upto (s : _root_.Go.ChangeSpec) : _root_.Go.OpenSpec := { _root_.Go.OpenSpec.ofChange s with cond := some uptoSmall }

/-- 'laws.FnExactStackOrders', WHERE WHAT IT READS IS OF BULK AT MOST 1048576: true; the input reads as it did. -/
def fnExactStackOrdersUptoRow : OpenClaim := { program := "ytpglkinochpkjaa", sum := "455dceabd36df499f0a93e70c9365a536b02b4cd314359d0aaecfaa98c26b806", func := "loop.example/g01106/laws.FnExactStackOrders", spec := "fnExactStackOrders", apart := false, narrowed := true }
def FnExactStackOrdersUptoSaid : Prop := fnExactStackOrdersUptoRow.holds Try.pinned (OpenSpec.upto fnExactStackOrdersSpec)

/-- 'laws.FnExactBesideOrders', WHERE WHAT IT READS IS OF BULK AT MOST 1048576: true; the input reads as it did. -/
def fnExactBesideOrdersUptoRow : OpenClaim := { program := "ytpglkinochpkjaa", sum := "455dceabd36df499f0a93e70c9365a536b02b4cd314359d0aaecfaa98c26b806", func := "loop.example/g01106/laws.FnExactBesideOrders", spec := "fnExactBesideOrders", apart := false, narrowed := true }
def FnExactBesideOrdersUptoSaid : Prop := fnExactBesideOrdersUptoRow.holds Try.pinned (OpenSpec.upto fnExactBesideOrdersSpec)

/-- 'laws.FnExactAreIntervals', WHERE WHAT IT READS IS OF BULK AT MOST 1048576: true; the input reads as it did. -/
def fnExactAreIntervalsUptoRow : OpenClaim := { program := "ytpglkinochpkjaa", sum := "455dceabd36df499f0a93e70c9365a536b02b4cd314359d0aaecfaa98c26b806", func := "loop.example/g01106/laws.FnExactAreIntervals", spec := "fnExactAreIntervals", unfollowed := true, recurses := true, apart := false, narrowed := true }
def FnExactAreIntervalsUptoSaid : Prop := fnExactAreIntervalsUptoRow.holds Try.pinned (OpenSpec.upto fnExactAreIntervalsSpec)

/-- 'laws.FnExactMirrorIntervals', WHERE WHAT IT READS IS OF BULK AT MOST 1048576: true; the input reads as it did. -/
def fnExactMirrorIntervalsUptoRow : OpenClaim := { program := "ytpglkinochpkjaa", sum := "455dceabd36df499f0a93e70c9365a536b02b4cd314359d0aaecfaa98c26b806", func := "loop.example/g01106/laws.FnExactMirrorIntervals", spec := "fnExactMirrorIntervals", unfollowed := true, recurses := true, apart := false, narrowed := true }
def FnExactMirrorIntervalsUptoSaid : Prop := fnExactMirrorIntervalsUptoRow.holds Try.pinned (OpenSpec.upto fnExactMirrorIntervalsSpec)

/-- 'laws.FnExactStretchIntervals', WHERE WHAT IT READS IS OF BULK AT MOST 1048576: true; the input reads as it did. -/
def fnExactStretchIntervalsUptoRow : OpenClaim := { program := "ytpglkinochpkjaa", sum := "455dceabd36df499f0a93e70c9365a536b02b4cd314359d0aaecfaa98c26b806", func := "loop.example/g01106/laws.FnExactStretchIntervals", spec := "fnExactStretchIntervals", unfollowed := true, recurses := true, apart := false, narrowed := true }
def FnExactStretchIntervalsUptoSaid : Prop := fnExactStretchIntervalsUptoRow.holds Try.pinned (OpenSpec.upto fnExactStretchIntervalsSpec)

/-- 'laws.FnExactOrderOfIntervals', WHERE WHAT IT READS IS OF BULK AT MOST 1048576: true; the input reads as it did. -/
def fnExactOrderOfIntervalsUptoRow : OpenClaim := { program := "ytpglkinochpkjaa", sum := "455dceabd36df499f0a93e70c9365a536b02b4cd314359d0aaecfaa98c26b806", func := "loop.example/g01106/laws.FnExactOrderOfIntervals", spec := "fnExactOrderOfIntervals", unfollowed := true, recurses := true, apart := false, narrowed := true }
def FnExactOrderOfIntervalsUptoSaid : Prop := fnExactOrderOfIntervalsUptoRow.holds Try.pinned (OpenSpec.upto fnExactOrderOfIntervalsSpec)

end Rows
end Go.Proofs.Ytpglkinochpkjaa
