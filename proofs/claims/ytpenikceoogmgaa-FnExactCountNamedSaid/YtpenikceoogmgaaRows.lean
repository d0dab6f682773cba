/-
  No cell of these rows narrows 'for every input' (looked for: loops, veiled, ifaces, maps, wideKeys, modest, calm, conditions, laid).
  DERIVED. THE GIVEN ROWS OF THIS SEAT. 10 by the template 'for every input the law returns true; each argument reads behind the call as it read before'; 0 by the template 'total and deterministic' (their statements: YtpenikceoogmgaaTotals.lean).
  GIVEN WITH THE SEED: the statements are not yours to turn. If you find one false, say at which input.
  Laid BY PROGRAM, IN A SANDBOX (cutbox-rows.mjs): the forced cells as the released guide's own fill.sh prints them over the translation cf624501ee21a3f6… (all of the seat's roots in one cut). By AI agents, Wed Nov 11 2026. No macro, syntax, notation, axiom, sorry.
-/
import Derived.Test.YtpenikceoogmgaaChecked
import GoSem.Claim
import GoSem.ClaimJoined
import GoSem.ClaimMapViews
import Derived.JoinedTies
import Derived.KernelRfl
namespace Go.Proofs.Ytpenikceoogmgaa
/- THE CELL 'sum', in the pinned program and in every row, IS THE sha256 OF THE DUMP (.gsa) THAT YtpenikceoogmgaaProg.lean LOADS. Nothing in Lean hashes anything: it is a label: what it is worth is what the hold of that sum in a sandbox is worth. -/
noncomputable def Try.pinned : Pinned := { name := "ytpenikceoogmgaa", sum := "cf624501ee21a3f6b32c86cb2caa58839a4eaa74879cdd7c1caba81638061daf", checked := Try.checked }
namespace Rows
def none {H : Type} : Left H := { results := [], args := [] }

/-- 'laws.FnExactDoesRefine': WHATEVER THE INPUT: true; the input reads as it did. -/
def fnExactDoesRefineSpec : ChangeSpec := { name := "fnExactDoesRefine", fn := fun _ => fun
  | [d1, d2] => { results := [.lit (.bool true)], args := [d1, d2] }
  | _ => none }
def fnExactDoesRefineRow : OpenClaim := { program := "ytpenikceoogmgaa", sum := "cf624501ee21a3f6b32c86cb2caa58839a4eaa74879cdd7c1caba81638061daf", func := "loop.example/g01106/laws.FnExactDoesRefine", spec := "fnExactDoesRefine", plainKeys := false, apart := false }
def FnExactDoesRefineSaid : Prop := fnExactDoesRefineRow.holds Try.pinned (OpenSpec.ofChange fnExactDoesRefineSpec)

/-- ITS FALSE NEIGHBOUR: 'it returns false'. Refute it at one input. -/
def fnExactDoesRefineWrong : ChangeSpec := { name := "fnExactDoesRefine", fn := fun _ => fun
  | [d1, d2] => { results := [.lit (.bool false)], args := [d1, d2] }
  | _ => none }
def FnExactDoesRefineWrongFalsely : Prop := fnExactDoesRefineRow.holds Try.pinned (OpenSpec.ofChange fnExactDoesRefineWrong)

/-- 'laws.FnExactMeetOrders': WHATEVER THE INPUT: true; the input reads as it did. -/
def fnExactMeetOrdersSpec : ChangeSpec := { name := "fnExactMeetOrders", fn := fun _ => fun
  | [d1, d2] => { results := [.lit (.bool true)], args := [d1, d2] }
  | _ => none }
def fnExactMeetOrdersRow : OpenClaim := { program := "ytpenikceoogmgaa", sum := "cf624501ee21a3f6b32c86cb2caa58839a4eaa74879cdd7c1caba81638061daf", func := "loop.example/g01106/laws.FnExactMeetOrders", spec := "fnExactMeetOrders", plainKeys := false, apart := false }
def FnExactMeetOrdersSaid : Prop := fnExactMeetOrdersRow.holds Try.pinned (OpenSpec.ofChange fnExactMeetOrdersSpec)

/-- ITS FALSE NEIGHBOUR: 'it returns false'. Refute it at one input. -/
def fnExactMeetOrdersWrong : ChangeSpec := { name := "fnExactMeetOrders", fn := fun _ => fun
  | [d1, d2] => { results := [.lit (.bool false)], args := [d1, d2] }
  | _ => none }
def FnExactMeetOrdersWrongFalsely : Prop := fnExactMeetOrdersRow.holds Try.pinned (OpenSpec.ofChange fnExactMeetOrdersWrong)

/-- 'laws.FnExactPairDistance': WHATEVER THE INPUT: true; the input reads as it did. -/
def fnExactPairDistanceSpec : ChangeSpec := { name := "fnExactPairDistance", fn := fun _ => fun
  | [d1, d2] => { results := [.lit (.bool true)], args := [d1, d2] }
  | _ => none }
def fnExactPairDistanceRow : OpenClaim := { program := "ytpenikceoogmgaa", sum := "cf624501ee21a3f6b32c86cb2caa58839a4eaa74879cdd7c1caba81638061daf", func := "loop.example/g01106/laws.FnExactPairDistance", spec := "fnExactPairDistance", plainKeys := false, apart := false }
def FnExactPairDistanceSaid : Prop := fnExactPairDistanceRow.holds Try.pinned (OpenSpec.ofChange fnExactPairDistanceSpec)

/-- ITS FALSE NEIGHBOUR: 'it returns false'. Refute it at one input. -/
def fnExactPairDistanceWrong : ChangeSpec := { name := "fnExactPairDistance", fn := fun _ => fun
  | [d1, d2] => { results := [.lit (.bool false)], args := [d1, d2] }
  | _ => none }
def FnExactPairDistanceWrongFalsely : Prop := fnExactPairDistanceRow.holds Try.pinned (OpenSpec.ofChange fnExactPairDistanceWrong)

/-- 'laws.FnExactMatrixOfOrder': WHATEVER THE INPUT: true; the input reads as it did. -/
def fnExactMatrixOfOrderSpec : ChangeSpec := { name := "fnExactMatrixOfOrder", fn := fun _ => fun
  | [d] => { results := [.lit (.bool true)], args := [d] }
  | _ => none }
def fnExactMatrixOfOrderRow : OpenClaim := { program := "ytpenikceoogmgaa", sum := "cf624501ee21a3f6b32c86cb2caa58839a4eaa74879cdd7c1caba81638061daf", func := "loop.example/g01106/laws.FnExactMatrixOfOrder", spec := "fnExactMatrixOfOrder", recurses := true, plainKeys := false, apart := false }
def FnExactMatrixOfOrderSaid : Prop := fnExactMatrixOfOrderRow.holds Try.pinned (OpenSpec.ofChange fnExactMatrixOfOrderSpec)

/-- ITS FALSE NEIGHBOUR: 'it returns false'. Refute it at one input. -/
def fnExactMatrixOfOrderWrong : ChangeSpec := { name := "fnExactMatrixOfOrder", fn := fun _ => fun
  | [d] => { results := [.lit (.bool false)], args := [d] }
  | _ => none }
def FnExactMatrixOfOrderWrongFalsely : Prop := fnExactMatrixOfOrderRow.holds Try.pinned (OpenSpec.ofChange fnExactMatrixOfOrderWrong)

/-- 'laws.FnExactAscentOfOrder': WHATEVER THE INPUT: true; the input reads as it did. -/
def fnExactAscentOfOrderSpec : ChangeSpec := { name := "fnExactAscentOfOrder", fn := fun _ => fun
  | [d] => { results := [.lit (.bool true)], args := [d] }
  | _ => none }
def fnExactAscentOfOrderRow : OpenClaim := { program := "ytpenikceoogmgaa", sum := "cf624501ee21a3f6b32c86cb2caa58839a4eaa74879cdd7c1caba81638061daf", func := "loop.example/g01106/laws.FnExactAscentOfOrder", spec := "fnExactAscentOfOrder", recurses := true, plainKeys := false, apart := false }
def FnExactAscentOfOrderSaid : Prop := fnExactAscentOfOrderRow.holds Try.pinned (OpenSpec.ofChange fnExactAscentOfOrderSpec)

/-- ITS FALSE NEIGHBOUR: 'it returns false'. Refute it at one input. -/
def fnExactAscentOfOrderWrong : ChangeSpec := { name := "fnExactAscentOfOrder", fn := fun _ => fun
  | [d] => { results := [.lit (.bool false)], args := [d] }
  | _ => none }
def FnExactAscentOfOrderWrongFalsely : Prop := fnExactAscentOfOrderRow.holds Try.pinned (OpenSpec.ofChange fnExactAscentOfOrderWrong)

/-- 'laws.FnExactAreAlike': WHATEVER THE INPUT: true; the input reads as it did. -/
def fnExactAreAlikeSpec : ChangeSpec := { name := "fnExactAreAlike", fn := fun _ => fun
  | [d1, d2] => { results := [.lit (.bool true)], args := [d1, d2] }
  | _ => none }
def fnExactAreAlikeRow : OpenClaim := { program := "ytpenikceoogmgaa", sum := "cf624501ee21a3f6b32c86cb2caa58839a4eaa74879cdd7c1caba81638061daf", func := "loop.example/g01106/laws.FnExactAreAlike", spec := "fnExactAreAlike", unfollowed := true, recurses := true, plainKeys := false, apart := false }
def FnExactAreAlikeSaid : Prop := fnExactAreAlikeRow.holds Try.pinned (OpenSpec.ofChange fnExactAreAlikeSpec)

/-- ITS FALSE NEIGHBOUR: 'it returns false'. Refute it at one input. -/
def fnExactAreAlikeWrong : ChangeSpec := { name := "fnExactAreAlike", fn := fun _ => fun
  | [d1, d2] => { results := [.lit (.bool false)], args := [d1, d2] }
  | _ => none }
def FnExactAreAlikeWrongFalsely : Prop := fnExactAreAlikeRow.holds Try.pinned (OpenSpec.ofChange fnExactAreAlikeWrong)

/-- 'laws.FnExactListMatrices': WHATEVER THE INPUT: true; the input reads as it did. -/
def fnExactListMatricesSpec : ChangeSpec := { name := "fnExactListMatrices", fn := fun _ => fun
  | [d] => { results := [.lit (.bool true)], args := [d] }
  | _ => none }
def fnExactListMatricesRow : OpenClaim := { program := "ytpenikceoogmgaa", sum := "cf624501ee21a3f6b32c86cb2caa58839a4eaa74879cdd7c1caba81638061daf", func := "loop.example/g01106/laws.FnExactListMatrices", spec := "fnExactListMatrices", inPlace := ["slices.overlaps[[]int]", "slices.overlaps[int]"], plainKeys := false, apart := false }
def FnExactListMatricesSaid : Prop := fnExactListMatricesRow.holds Try.pinned (OpenSpec.ofChange fnExactListMatricesSpec)

/-- ITS FALSE NEIGHBOUR: 'it returns false'. Refute it at one input. -/
def fnExactListMatricesWrong : ChangeSpec := { name := "fnExactListMatrices", fn := fun _ => fun
  | [d] => { results := [.lit (.bool false)], args := [d] }
  | _ => none }
def FnExactListMatricesWrongFalsely : Prop := fnExactListMatricesRow.holds Try.pinned (OpenSpec.ofChange fnExactListMatricesWrong)

/-- 'laws.FnExactCountFlat': WHATEVER THE INPUT: true; the input reads as it did. -/
def fnExactCountFlatSpec : ChangeSpec := { name := "fnExactCountFlat", fn := fun _ => fun
  | [d] => { results := [.lit (.bool true)], args := [d] }
  | _ => none }
def fnExactCountFlatRow : OpenClaim := { program := "ytpenikceoogmgaa", sum := "cf624501ee21a3f6b32c86cb2caa58839a4eaa74879cdd7c1caba81638061daf", func := "loop.example/g01106/laws.FnExactCountFlat", spec := "fnExactCountFlat", plainKeys := false, apart := false }
def FnExactCountFlatSaid : Prop := fnExactCountFlatRow.holds Try.pinned (OpenSpec.ofChange fnExactCountFlatSpec)

/-- ITS FALSE NEIGHBOUR: 'it returns false'. Refute it at one input. -/
def fnExactCountFlatWrong : ChangeSpec := { name := "fnExactCountFlat", fn := fun _ => fun
  | [d] => { results := [.lit (.bool false)], args := [d] }
  | _ => none }
def FnExactCountFlatWrongFalsely : Prop := fnExactCountFlatRow.holds Try.pinned (OpenSpec.ofChange fnExactCountFlatWrong)

/-- 'laws.FnExactListTidy': WHATEVER THE INPUT: true; the input reads as it did. -/
def fnExactListTidySpec : ChangeSpec := { name := "fnExactListTidy", fn := fun _ => fun
  | [d] => { results := [.lit (.bool true)], args := [d] }
  | _ => none }
def fnExactListTidyRow : OpenClaim := { program := "ytpenikceoogmgaa", sum := "cf624501ee21a3f6b32c86cb2caa58839a4eaa74879cdd7c1caba81638061daf", func := "loop.example/g01106/laws.FnExactListTidy", spec := "fnExactListTidy", inPlace := ["slices.overlaps[[]int]", "slices.overlaps[int]"], plainKeys := false, apart := false }
def FnExactListTidySaid : Prop := fnExactListTidyRow.holds Try.pinned (OpenSpec.ofChange fnExactListTidySpec)

/-- ITS FALSE NEIGHBOUR: 'it returns false'. Refute it at one input. -/
def fnExactListTidyWrong : ChangeSpec := { name := "fnExactListTidy", fn := fun _ => fun
  | [d] => { results := [.lit (.bool false)], args := [d] }
  | _ => none }
def FnExactListTidyWrongFalsely : Prop := fnExactListTidyRow.holds Try.pinned (OpenSpec.ofChange fnExactListTidyWrong)

/-- 'laws.FnExactCountNamed': WHATEVER THE INPUT: true; the input reads as it did. -/
def fnExactCountNamedSpec : ChangeSpec := { name := "fnExactCountNamed", fn := fun _ => fun
  | [d] => { results := [.lit (.bool true)], args := [d] }
  | _ => none }
def fnExactCountNamedRow : OpenClaim := { program := "ytpenikceoogmgaa", sum := "cf624501ee21a3f6b32c86cb2caa58839a4eaa74879cdd7c1caba81638061daf", func := "loop.example/g01106/laws.FnExactCountNamed", spec := "fnExactCountNamed", inPlace := ["slices.overlaps[[]int]", "slices.overlaps[int]"], plainKeys := false, apart := false }
def FnExactCountNamedSaid : Prop := fnExactCountNamedRow.holds Try.pinned (OpenSpec.ofChange fnExactCountNamedSpec)

/-- ITS FALSE NEIGHBOUR: 'it returns false'. Refute it at one input. -/
def fnExactCountNamedWrong : ChangeSpec := { name := "fnExactCountNamed", fn := fun _ => fun
  | [d] => { results := [.lit (.bool false)], args := [d] }
  | _ => none }
def FnExactCountNamedWrongFalsely : Prop := fnExactCountNamedRow.holds Try.pinned (OpenSpec.ofChange fnExactCountNamedWrong)

/- THE SECOND FORM. 'bulk': how many values and letters a reading holds, each counted each time it is reached (what is shared counts as often as it is met; a slice's spare places count too). A statement '..UptoSaid' is the law's where the arguments, and the package variables that the reading takes, are together of bulk at most 1048576: NARROWER than '..Said'. Prove '..Said' where nothing that the law and all that it calls make is longer than what came in: it says more and counts as full. Else prove '..UptoSaid'. A law counts once. -/
mutual
def uptoBulk {H : Type} : DataW H → Nat
  | .lit (.string bytes) => bytes.length + 1
  | .lit _ => 1
  | .nil => 1
  | .ptr d => uptoBulk d + 1
  | .slice elems spare => uptoBulkAll elems + uptoBulkAll spare + 1
  | .agg parts => uptoBulkAll parts + 1
  | .iface _ d => uptoBulk d + 1
  | .map entries => uptoBulkEntries entries + 1
  | .held _ => 1
def uptoBulkAll {H : Type} : List (DataW H) → Nat
  | [] => 0
  | d :: r => uptoBulk d + uptoBulkAll r
def uptoBulkEntries {H : Type} : List (Lit × DataW H) → Nat
  | [] => 0
  | x :: r => uptoBulkEntry x + uptoBulkEntries r
def uptoBulkEntry {H : Type} : Lit × DataW H → Nat
  | (.string bytes, d) => bytes.length + uptoBulk d + 1
  | (_, d) => uptoBulk d + 1
 end
def uptoSmall : (H : Type) → List (DataW H) → Bool := fun _ ds => decide (uptoBulkAll ds ≤ 1048576)
def OpenSpec.upto (s : _root_.Go.ChangeSpec) : _root_.Go.OpenSpec := { _root_.Go.OpenSpec.ofChange s with cond := some uptoSmall }

/-- 'laws.FnExactDoesRefine', WHERE WHAT IT READS IS OF BULK AT MOST 1048576: true; the input reads as it did. -/
def fnExactDoesRefineUptoRow : OpenClaim := { program := "ytpenikceoogmgaa", sum := "cf624501ee21a3f6b32c86cb2caa58839a4eaa74879cdd7c1caba81638061daf", func := "loop.example/g01106/laws.FnExactDoesRefine", spec := "fnExactDoesRefine", plainKeys := false, apart := false, narrowed := true }
def FnExactDoesRefineUptoSaid : Prop := fnExactDoesRefineUptoRow.holds Try.pinned (OpenSpec.upto fnExactDoesRefineSpec)

/-- 'laws.FnExactMeetOrders', WHERE WHAT IT READS IS OF BULK AT MOST 1048576: true; the input reads as it did. -/
def fnExactMeetOrdersUptoRow : OpenClaim := { program := "ytpenikceoogmgaa", sum := "cf624501ee21a3f6b32c86cb2caa58839a4eaa74879cdd7c1caba81638061daf", func := "loop.example/g01106/laws.FnExactMeetOrders", spec := "fnExactMeetOrders", plainKeys := false, apart := false, narrowed := true }
def FnExactMeetOrdersUptoSaid : Prop := fnExactMeetOrdersUptoRow.holds Try.pinned (OpenSpec.upto fnExactMeetOrdersSpec)

/-- 'laws.FnExactPairDistance', WHERE WHAT IT READS IS OF BULK AT MOST 1048576: true; the input reads as it did. -/
def fnExactPairDistanceUptoRow : OpenClaim := { program := "ytpenikceoogmgaa", sum := "cf624501ee21a3f6b32c86cb2caa58839a4eaa74879cdd7c1caba81638061daf", func := "loop.example/g01106/laws.FnExactPairDistance", spec := "fnExactPairDistance", plainKeys := false, apart := false, narrowed := true }
def FnExactPairDistanceUptoSaid : Prop := fnExactPairDistanceUptoRow.holds Try.pinned (OpenSpec.upto fnExactPairDistanceSpec)

/-- 'laws.FnExactMatrixOfOrder', WHERE WHAT IT READS IS OF BULK AT MOST 1048576: true; the input reads as it did. -/
def fnExactMatrixOfOrderUptoRow : OpenClaim := { program := "ytpenikceoogmgaa", sum := "cf624501ee21a3f6b32c86cb2caa58839a4eaa74879cdd7c1caba81638061daf", func := "loop.example/g01106/laws.FnExactMatrixOfOrder", spec := "fnExactMatrixOfOrder", recurses := true, plainKeys := false, apart := false, narrowed := true }
def FnExactMatrixOfOrderUptoSaid : Prop := fnExactMatrixOfOrderUptoRow.holds Try.pinned (OpenSpec.upto fnExactMatrixOfOrderSpec)

/-- 'laws.FnExactAscentOfOrder', WHERE WHAT IT READS IS OF BULK AT MOST 1048576: true; the input reads as it did. -/
def fnExactAscentOfOrderUptoRow : OpenClaim := { program := "ytpenikceoogmgaa", sum := "cf624501ee21a3f6b32c86cb2caa58839a4eaa74879cdd7c1caba81638061daf", func := "loop.example/g01106/laws.FnExactAscentOfOrder", spec := "fnExactAscentOfOrder", recurses := true, plainKeys := false, apart := false, narrowed := true }
def FnExactAscentOfOrderUptoSaid : Prop := fnExactAscentOfOrderUptoRow.holds Try.pinned (OpenSpec.upto fnExactAscentOfOrderSpec)

/-- 'laws.FnExactAreAlike', WHERE WHAT IT READS IS OF BULK AT MOST 1048576: true; the input reads as it did. -/
def fnExactAreAlikeUptoRow : OpenClaim := { program := "ytpenikceoogmgaa", sum := "cf624501ee21a3f6b32c86cb2caa58839a4eaa74879cdd7c1caba81638061daf", func := "loop.example/g01106/laws.FnExactAreAlike", spec := "fnExactAreAlike", unfollowed := true, recurses := true, plainKeys := false, apart := false, narrowed := true }
def FnExactAreAlikeUptoSaid : Prop := fnExactAreAlikeUptoRow.holds Try.pinned (OpenSpec.upto fnExactAreAlikeSpec)

/-- 'laws.FnExactListMatrices', WHERE WHAT IT READS IS OF BULK AT MOST 1048576: true; the input reads as it did. -/
def fnExactListMatricesUptoRow : OpenClaim := { program := "ytpenikceoogmgaa", sum := "cf624501ee21a3f6b32c86cb2caa58839a4eaa74879cdd7c1caba81638061daf", func := "loop.example/g01106/laws.FnExactListMatrices", spec := "fnExactListMatrices", inPlace := ["slices.overlaps[[]int]", "slices.overlaps[int]"], plainKeys := false, apart := false, narrowed := true }
def FnExactListMatricesUptoSaid : Prop := fnExactListMatricesUptoRow.holds Try.pinned (OpenSpec.upto fnExactListMatricesSpec)

/-- 'laws.FnExactCountFlat', WHERE WHAT IT READS IS OF BULK AT MOST 1048576: true; the input reads as it did. -/
def fnExactCountFlatUptoRow : OpenClaim := { program := "ytpenikceoogmgaa", sum := "cf624501ee21a3f6b32c86cb2caa58839a4eaa74879cdd7c1caba81638061daf", func := "loop.example/g01106/laws.FnExactCountFlat", spec := "fnExactCountFlat", plainKeys := false, apart := false, narrowed := true }
def FnExactCountFlatUptoSaid : Prop := fnExactCountFlatUptoRow.holds Try.pinned (OpenSpec.upto fnExactCountFlatSpec)

/-- 'laws.FnExactListTidy', WHERE WHAT IT READS IS OF BULK AT MOST 1048576: true; the input reads as it did. -/
def fnExactListTidyUptoRow : OpenClaim := { program := "ytpenikceoogmgaa", sum := "cf624501ee21a3f6b32c86cb2caa58839a4eaa74879cdd7c1caba81638061daf", func := "loop.example/g01106/laws.FnExactListTidy", spec := "fnExactListTidy", inPlace := ["slices.overlaps[[]int]", "slices.overlaps[int]"], plainKeys := false, apart := false, narrowed := true }
def FnExactListTidyUptoSaid : Prop := fnExactListTidyUptoRow.holds Try.pinned (OpenSpec.upto fnExactListTidySpec)

/-- 'laws.FnExactCountNamed', WHERE WHAT IT READS IS OF BULK AT MOST 1048576: true; the input reads as it did. -/
def fnExactCountNamedUptoRow : OpenClaim := { program := "ytpenikceoogmgaa", sum := "cf624501ee21a3f6b32c86cb2caa58839a4eaa74879cdd7c1caba81638061daf", func := "loop.example/g01106/laws.FnExactCountNamed", spec := "fnExactCountNamed", inPlace := ["slices.overlaps[[]int]", "slices.overlaps[int]"], plainKeys := false, apart := false, narrowed := true }
def FnExactCountNamedUptoSaid : Prop := fnExactCountNamedUptoRow.holds Try.pinned (OpenSpec.upto fnExactCountNamedSpec)

end Rows
end Go.Proofs.Ytpenikceoogmgaa
