/-
  No cell of these rows narrows 'for every input' (looked for: loops, veiled, ifaces, maps, wideKeys, modest, calm, conditions, laid).
  DERIVED. THE GIVEN ROWS OF THIS SEAT. 7 by the template 'for every input the law returns true; each argument reads behind the call as it read before'; 0 by the template 'total and deterministic' (their statements: YtjddjfckflgojaaTotals.lean).
  GIVEN WITH THE SEED: the statements are not yours to turn. If you find one false, say at which input.
  Laid BY PROGRAM, IN A SANDBOX (cutbox-rows.mjs): the forced cells as the released guide's own fill.sh prints them over the translation 8f5736500934a0b1… (all of the seat's roots in one cut). By AI agents, Wed Nov 11 2026. No macro, syntax, notation, axiom, sorry.
-/
import Derived.Test.YtjddjfckflgojaaChecked
import GoSem.Claim
import GoSem.ClaimJoined
import GoSem.ClaimMapViews
import Derived.JoinedTies
import Derived.KernelRfl
namespace Go.Proofs.Ytjddjfckflgojaa
/- THE CELL 'sum', in the pinned program and in every row, IS THE sha256 OF THE DUMP (.gsa) THAT YtjddjfckflgojaaProg.lean LOADS. Nothing in Lean hashes anything: it is a label: what it is worth is what the hold of that sum in a sandbox is worth. -/
noncomputable def Try.pinned : Pinned := { name := "ytjddjfckflgojaa", sum := "8f5736500934a0b1af56bf8e37c0aeae39339f602ad8abdc5a38ac703fe414b3", checked := Try.checked }
namespace Rows
def none {H : Type} : Left H := { results := [], args := [] }

/-- 'laws.FnMirrors': WHATEVER THE INPUT: true; the input reads as it did. -/
def fnMirrorsSpec : ChangeSpec := { name := "fnMirrors", fn := fun _ => fun
  | [d1, d2] => { results := [.lit (.bool true)], args := [d1, d2] }
  | _ => none }
def fnMirrorsRow : OpenClaim := { program := "ytjddjfckflgojaa", sum := "8f5736500934a0b1af56bf8e37c0aeae39339f602ad8abdc5a38ac703fe414b3", func := "loop.example/g01106/laws.FnMirrors", spec := "fnMirrors", apart := false }
def FnMirrorsSaid : Prop := fnMirrorsRow.holds Try.pinned (OpenSpec.ofChange fnMirrorsSpec)

/-- ITS FALSE NEIGHBOUR: 'it returns false'. Refute it at one input. -/
def fnMirrorsWrong : ChangeSpec := { name := "fnMirrors", fn := fun _ => fun
  | [d1, d2] => { results := [.lit (.bool false)], args := [d1, d2] }
  | _ => none }
def FnMirrorsWrongFalsely : Prop := fnMirrorsRow.holds Try.pinned (OpenSpec.ofChange fnMirrorsWrong)

/-- 'laws.FnClosures': WHATEVER THE INPUT: true; the input reads as it did. -/
def fnClosuresSpec : ChangeSpec := { name := "fnClosures", fn := fun _ => fun
  | [d1, d2] => { results := [.lit (.bool true)], args := [d1, d2] }
  | _ => none }
def fnClosuresRow : OpenClaim := { program := "ytjddjfckflgojaa", sum := "8f5736500934a0b1af56bf8e37c0aeae39339f602ad8abdc5a38ac703fe414b3", func := "loop.example/g01106/laws.FnClosures", spec := "fnClosures", apart := false }
def FnClosuresSaid : Prop := fnClosuresRow.holds Try.pinned (OpenSpec.ofChange fnClosuresSpec)

/-- ITS FALSE NEIGHBOUR: 'it returns false'. Refute it at one input. -/
def fnClosuresWrong : ChangeSpec := { name := "fnClosures", fn := fun _ => fun
  | [d1, d2] => { results := [.lit (.bool false)], args := [d1, d2] }
  | _ => none }
def FnClosuresWrongFalsely : Prop := fnClosuresRow.holds Try.pinned (OpenSpec.ofChange fnClosuresWrong)

/-- 'laws.FnExtensionsAccepted': WHATEVER THE INPUT: true; the input reads as it did. -/
def fnExtensionsAcceptedSpec : ChangeSpec := { name := "fnExtensionsAccepted", fn := fun _ => fun
  | [d1, d2] => { results := [.lit (.bool true)], args := [d1, d2] }
  | _ => none }
def fnExtensionsAcceptedRow : OpenClaim := { program := "ytjddjfckflgojaa", sum := "8f5736500934a0b1af56bf8e37c0aeae39339f602ad8abdc5a38ac703fe414b3", func := "loop.example/g01106/laws.FnExtensionsAccepted", spec := "fnExtensionsAccepted", apart := false }
def FnExtensionsAcceptedSaid : Prop := fnExtensionsAcceptedRow.holds Try.pinned (OpenSpec.ofChange fnExtensionsAcceptedSpec)

/-- ITS FALSE NEIGHBOUR: 'it returns false'. Refute it at one input. -/
def fnExtensionsAcceptedWrong : ChangeSpec := { name := "fnExtensionsAccepted", fn := fun _ => fun
  | [d1, d2] => { results := [.lit (.bool false)], args := [d1, d2] }
  | _ => none }
def FnExtensionsAcceptedWrongFalsely : Prop := fnExtensionsAcceptedRow.holds Try.pinned (OpenSpec.ofChange fnExtensionsAcceptedWrong)

/-- 'laws.FnChoicesOfOrders': WHATEVER THE INPUT: true; the input reads as it did. -/
def fnChoicesOfOrdersSpec : ChangeSpec := { name := "fnChoicesOfOrders", fn := fun _ => fun
  | [d1, d2] => { results := [.lit (.bool true)], args := [d1, d2] }
  | _ => none }
def fnChoicesOfOrdersRow : OpenClaim := { program := "ytjddjfckflgojaa", sum := "8f5736500934a0b1af56bf8e37c0aeae39339f602ad8abdc5a38ac703fe414b3", func := "loop.example/g01106/laws.FnChoicesOfOrders", spec := "fnChoicesOfOrders", apart := false }
def FnChoicesOfOrdersSaid : Prop := fnChoicesOfOrdersRow.holds Try.pinned (OpenSpec.ofChange fnChoicesOfOrdersSpec)

/-- ITS FALSE NEIGHBOUR: 'it returns false'. Refute it at one input. -/
def fnChoicesOfOrdersWrong : ChangeSpec := { name := "fnChoicesOfOrders", fn := fun _ => fun
  | [d1, d2] => { results := [.lit (.bool false)], args := [d1, d2] }
  | _ => none }
def FnChoicesOfOrdersWrongFalsely : Prop := fnChoicesOfOrdersRow.holds Try.pinned (OpenSpec.ofChange fnChoicesOfOrdersWrong)

/-- 'laws.FnFourRefuse': WHATEVER THE INPUT: true; the input reads as it did. -/
def fnFourRefuseSpec : ChangeSpec := { name := "fnFourRefuse", fn := fun _ => fun
  | [d1, d2] => { results := [.lit (.bool true)], args := [d1, d2] }
  | _ => none }
def fnFourRefuseRow : OpenClaim := { program := "ytjddjfckflgojaa", sum := "8f5736500934a0b1af56bf8e37c0aeae39339f602ad8abdc5a38ac703fe414b3", func := "loop.example/g01106/laws.FnFourRefuse", spec := "fnFourRefuse", unfollowed := true, recurses := true, apart := false }
def FnFourRefuseSaid : Prop := fnFourRefuseRow.holds Try.pinned (OpenSpec.ofChange fnFourRefuseSpec)

/-- ITS FALSE NEIGHBOUR: 'it returns false'. Refute it at one input. -/
def fnFourRefuseWrong : ChangeSpec := { name := "fnFourRefuse", fn := fun _ => fun
  | [d1, d2] => { results := [.lit (.bool false)], args := [d1, d2] }
  | _ => none }
def FnFourRefuseWrongFalsely : Prop := fnFourRefuseRow.holds Try.pinned (OpenSpec.ofChange fnFourRefuseWrong)

/-- 'laws.FnMirroredEnds': WHATEVER THE INPUT: true; the input reads as it did. -/
def fnMirroredEndsSpec : ChangeSpec := { name := "fnMirroredEnds", fn := fun _ => fun
  | [d1, d2] => { results := [.lit (.bool true)], args := [d1, d2] }
  | _ => none }
def fnMirroredEndsRow : OpenClaim := { program := "ytjddjfckflgojaa", sum := "8f5736500934a0b1af56bf8e37c0aeae39339f602ad8abdc5a38ac703fe414b3", func := "loop.example/g01106/laws.FnMirroredEnds", spec := "fnMirroredEnds", unfollowed := true, recurses := true, apart := false }
def FnMirroredEndsSaid : Prop := fnMirroredEndsRow.holds Try.pinned (OpenSpec.ofChange fnMirroredEndsSpec)

/-- ITS FALSE NEIGHBOUR: 'it returns false'. Refute it at one input. -/
def fnMirroredEndsWrong : ChangeSpec := { name := "fnMirroredEnds", fn := fun _ => fun
  | [d1, d2] => { results := [.lit (.bool false)], args := [d1, d2] }
  | _ => none }
def FnMirroredEndsWrongFalsely : Prop := fnMirroredEndsRow.holds Try.pinned (OpenSpec.ofChange fnMirroredEndsWrong)

/-- 'laws.FnSetsAlong': WHATEVER THE INPUT: true; the input reads as it did. -/
def fnSetsAlongSpec : ChangeSpec := { name := "fnSetsAlong", fn := fun _ => fun
  | [d1, d2] => { results := [.lit (.bool true)], args := [d1, d2] }
  | _ => none }
def fnSetsAlongRow : OpenClaim := { program := "ytjddjfckflgojaa", sum := "8f5736500934a0b1af56bf8e37c0aeae39339f602ad8abdc5a38ac703fe414b3", func := "loop.example/g01106/laws.FnSetsAlong", spec := "fnSetsAlong", unfollowed := true, recurses := true, apart := false }
def FnSetsAlongSaid : Prop := fnSetsAlongRow.holds Try.pinned (OpenSpec.ofChange fnSetsAlongSpec)

/-- ITS FALSE NEIGHBOUR: 'it returns false'. Refute it at one input. -/
def fnSetsAlongWrong : ChangeSpec := { name := "fnSetsAlong", fn := fun _ => fun
  | [d1, d2] => { results := [.lit (.bool false)], args := [d1, d2] }
  | _ => none }
def FnSetsAlongWrongFalsely : Prop := fnSetsAlongRow.holds Try.pinned (OpenSpec.ofChange fnSetsAlongWrong)

/- THE SECOND FORM. 'bulk': how many values and letters a reading holds, each counted each time it is reached (what is shared counts as often as it is met; a slice's spare places count too). A statement '..UptoSaid' is the law's where the arguments, and the package variables that the reading takes, are together of bulk at most 1048576: NARROWER than '..Said'. Prove '..Said' where nothing that the law and all that it calls make is longer than what came in: it says more and counts as full. Else prove '..UptoSaid'. A law counts once. -/
mutual
def uptoBulk {H : Type} : DataW H → Nat
  | .lit (.string bytes) => bytes.length + 1
  | .lit _ => 1
  | .nil => 1
  | .ptr d => uptoBulk d + 1
  | .slice elems spare => uptoBulkAll elems + uptoBulkAll spare + 1
  | .agg parts => uptoBulkAll parts + 1
  | .iface _ d => uptoBulk d + 1
  | .map entries => uptoBulkEntries entries + 1
  | .held _ => 1
def uptoBulkAll {H : Type} : List (DataW H) → Nat
  | [] => 0
  | d :: r => uptoBulk d + uptoBulkAll r
def uptoBulkEntries {H : Type} : List (Lit × DataW H) → Nat
  | [] => 0
  | x :: r => uptoBulkEntry x + uptoBulkEntries r
def uptoBulkEntry {H : Type} : Lit × DataW H → Nat
  | (.string bytes, d) => bytes.length + uptoBulk d + 1
  | (_, d) => uptoBulk d + 1
 end
def uptoSmall : (H : Type) → List (DataW H) → Bool := fun _ ds => decide (uptoBulkAll ds ≤ 1048576)
def OpenSpec.upto (s : _root_.Go.ChangeSpec) : _root_.Go.OpenSpec := { _root_.Go.OpenSpec.ofChange s with cond := some uptoSmall }

/-- 'laws.FnMirrors', WHERE WHAT IT READS IS OF BULK AT MOST 1048576: true; the input reads as it did. -/
def fnMirrorsUptoRow : OpenClaim := { program := "ytjddjfckflgojaa", sum := "8f5736500934a0b1af56bf8e37c0aeae39339f602ad8abdc5a38ac703fe414b3", func := "loop.example/g01106/laws.FnMirrors", spec := "fnMirrors", apart := false, narrowed := true }
def FnMirrorsUptoSaid : Prop := fnMirrorsUptoRow.holds Try.pinned (OpenSpec.upto fnMirrorsSpec)

/-- 'laws.FnClosures', WHERE WHAT IT READS IS OF BULK AT MOST 1048576: true; the input reads as it did. -/
def fnClosuresUptoRow : OpenClaim := { program := "ytjddjfckflgojaa", sum := "8f5736500934a0b1af56bf8e37c0aeae39339f602ad8abdc5a38ac703fe414b3", func := "loop.example/g01106/laws.FnClosures", spec := "fnClosures", apart := false, narrowed := true }
def FnClosuresUptoSaid : Prop := fnClosuresUptoRow.holds Try.pinned (OpenSpec.upto fnClosuresSpec)

/-- 'laws.FnExtensionsAccepted', WHERE WHAT IT READS IS OF BULK AT MOST 1048576: true; the input reads as it did. -/
def fnExtensionsAcceptedUptoRow : OpenClaim := { program := "ytjddjfckflgojaa", sum := "8f5736500934a0b1af56bf8e37c0aeae39339f602ad8abdc5a38ac703fe414b3", func := "loop.example/g01106/laws.FnExtensionsAccepted", spec := "fnExtensionsAccepted", apart := false, narrowed := true }
def FnExtensionsAcceptedUptoSaid : Prop := fnExtensionsAcceptedUptoRow.holds Try.pinned (OpenSpec.upto fnExtensionsAcceptedSpec)

/-- 'laws.FnChoicesOfOrders', WHERE WHAT IT READS IS OF BULK AT MOST 1048576: true; the input reads as it did. -/
def fnChoicesOfOrdersUptoRow : OpenClaim := { program := "ytjddjfckflgojaa", sum := "8f5736500934a0b1af56bf8e37c0aeae39339f602ad8abdc5a38ac703fe414b3", func := "loop.example/g01106/laws.FnChoicesOfOrders", spec := "fnChoicesOfOrders", apart := false, narrowed := true }
def FnChoicesOfOrdersUptoSaid : Prop := fnChoicesOfOrdersUptoRow.holds Try.pinned (OpenSpec.upto fnChoicesOfOrdersSpec)

/-- 'laws.FnFourRefuse', WHERE WHAT IT READS IS OF BULK AT MOST 1048576: true; the input reads as it did. -/
def fnFourRefuseUptoRow : OpenClaim := { program := "ytjddjfckflgojaa", sum := "8f5736500934a0b1af56bf8e37c0aeae39339f602ad8abdc5a38ac703fe414b3", func := "loop.example/g01106/laws.FnFourRefuse", spec := "fnFourRefuse", unfollowed := true, recurses := true, apart := false, narrowed := true }
def FnFourRefuseUptoSaid : Prop := fnFourRefuseUptoRow.holds Try.pinned (OpenSpec.upto fnFourRefuseSpec)

/-- 'laws.FnMirroredEnds', WHERE WHAT IT READS IS OF BULK AT MOST 1048576: true; the input reads as it did. -/
def fnMirroredEndsUptoRow : OpenClaim := { program := "ytjddjfckflgojaa", sum := "8f5736500934a0b1af56bf8e37c0aeae39339f602ad8abdc5a38ac703fe414b3", func := "loop.example/g01106/laws.FnMirroredEnds", spec := "fnMirroredEnds", unfollowed := true, recurses := true, apart := false, narrowed := true }
def FnMirroredEndsUptoSaid : Prop := fnMirroredEndsUptoRow.holds Try.pinned (OpenSpec.upto fnMirroredEndsSpec)

/-- 'laws.FnSetsAlong', WHERE WHAT IT READS IS OF BULK AT MOST 1048576: true; the input reads as it did. -/
def fnSetsAlongUptoRow : OpenClaim := { program := "ytjddjfckflgojaa", sum := "8f5736500934a0b1af56bf8e37c0aeae39339f602ad8abdc5a38ac703fe414b3", func := "loop.example/g01106/laws.FnSetsAlong", spec := "fnSetsAlong", unfollowed := true, recurses := true, apart := false, narrowed := true }
def FnSetsAlongUptoSaid : Prop := fnSetsAlongUptoRow.holds Try.pinned (OpenSpec.upto fnSetsAlongSpec)

end Rows
end Go.Proofs.Ytjddjfckflgojaa
