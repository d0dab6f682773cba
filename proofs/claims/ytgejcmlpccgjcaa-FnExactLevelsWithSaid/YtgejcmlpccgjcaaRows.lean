/-
  No cell of these rows narrows 'for every input' (looked for: loops, veiled, ifaces, maps, wideKeys, modest, calm, conditions, laid).
  DERIVED. THE GIVEN ROWS OF THIS SEAT. 10 by the template 'for every input the law returns true; each argument reads behind the call as it read before'; 0 by the template 'total and deterministic' (their statements: YtgejcmlpccgjcaaTotals.lean).
  GIVEN WITH THE SEED: the statements are not yours to turn. If you find one false, say at which input.
  Laid BY PROGRAM, IN A SANDBOX (cutbox-rows.mjs): the forced cells as the released guide's own fill.sh prints them over the translation e9b8e546415391de… (all of the seat's roots in one cut). By AI agents, Wed Nov 11 2026. No macro, syntax, notation, axiom, sorry.
-/
import Derived.Test.YtgejcmlpccgjcaaChecked
import GoSem.Claim
import GoSem.ClaimJoined
import GoSem.ClaimMapViews
import Derived.JoinedTies
import Derived.KernelRfl
namespace Go.Proofs.Ytgejcmlpccgjcaa
/- THE CELL 'sum', in the pinned program and in every row, IS THE sha256 OF THE DUMP (.gsa) THAT YtgejcmlpccgjcaaProg.lean LOADS. Nothing in Lean hashes anything: it is a label: what it is worth is what the hold of that sum in a sandbox is worth. -/
noncomputable def Try.pinned : Pinned := { name := "ytgejcmlpccgjcaa", sum := "e9b8e546415391de568e9d00af5093e7284d7edfc65029b9fb14fa2c3a3b0512", checked := Try.checked }
namespace Rows
def none {H : Type} : Left H := { results := [], args := [] }

/-- 'laws.FnExactMeetOrders': WHATEVER THE INPUT: true; the input reads as it did. -/
def fnExactMeetOrdersSpec : ChangeSpec := { name := "fnExactMeetOrders", fn := fun _ => fun
  | [d1, d2] => { results := [.lit (.bool true)], args := [d1, d2] }
  | _ => none }
def fnExactMeetOrdersRow : OpenClaim := { program := "ytgejcmlpccgjcaa", sum := "e9b8e546415391de568e9d00af5093e7284d7edfc65029b9fb14fa2c3a3b0512", func := "loop.example/g01106/laws.FnExactMeetOrders", spec := "fnExactMeetOrders", apart := false }
def FnExactMeetOrdersSaid : Prop := fnExactMeetOrdersRow.holds Try.pinned (OpenSpec.ofChange fnExactMeetOrdersSpec)

/-- ITS FALSE NEIGHBOUR: 'it returns false'. Refute it at one input. -/
def fnExactMeetOrdersWrong : ChangeSpec := { name := "fnExactMeetOrders", fn := fun _ => fun
  | [d1, d2] => { results := [.lit (.bool false)], args := [d1, d2] }
  | _ => none }
def FnExactMeetOrdersWrongFalsely : Prop := fnExactMeetOrdersRow.holds Try.pinned (OpenSpec.ofChange fnExactMeetOrdersWrong)

/-- 'laws.FnExactDoesRefine': WHATEVER THE INPUT: true; the input reads as it did. -/
def fnExactDoesRefineSpec : ChangeSpec := { name := "fnExactDoesRefine", fn := fun _ => fun
  | [d1, d2] => { results := [.lit (.bool true)], args := [d1, d2] }
  | _ => none }
def fnExactDoesRefineRow : OpenClaim := { program := "ytgejcmlpccgjcaa", sum := "e9b8e546415391de568e9d00af5093e7284d7edfc65029b9fb14fa2c3a3b0512", func := "loop.example/g01106/laws.FnExactDoesRefine", spec := "fnExactDoesRefine", apart := false }
def FnExactDoesRefineSaid : Prop := fnExactDoesRefineRow.holds Try.pinned (OpenSpec.ofChange fnExactDoesRefineSpec)

/-- ITS FALSE NEIGHBOUR: 'it returns false'. Refute it at one input. -/
def fnExactDoesRefineWrong : ChangeSpec := { name := "fnExactDoesRefine", fn := fun _ => fun
  | [d1, d2] => { results := [.lit (.bool false)], args := [d1, d2] }
  | _ => none }
def FnExactDoesRefineWrongFalsely : Prop := fnExactDoesRefineRow.holds Try.pinned (OpenSpec.ofChange fnExactDoesRefineWrong)

/-- 'laws.FnExactPairDistance': WHATEVER THE INPUT: true; the input reads as it did. -/
def fnExactPairDistanceSpec : ChangeSpec := { name := "fnExactPairDistance", fn := fun _ => fun
  | [d1, d2] => { results := [.lit (.bool true)], args := [d1, d2] }
  | _ => none }
def fnExactPairDistanceRow : OpenClaim := { program := "ytgejcmlpccgjcaa", sum := "e9b8e546415391de568e9d00af5093e7284d7edfc65029b9fb14fa2c3a3b0512", func := "loop.example/g01106/laws.FnExactPairDistance", spec := "fnExactPairDistance", apart := false }
def FnExactPairDistanceSaid : Prop := fnExactPairDistanceRow.holds Try.pinned (OpenSpec.ofChange fnExactPairDistanceSpec)

/-- ITS FALSE NEIGHBOUR: 'it returns false'. Refute it at one input. -/
def fnExactPairDistanceWrong : ChangeSpec := { name := "fnExactPairDistance", fn := fun _ => fun
  | [d1, d2] => { results := [.lit (.bool false)], args := [d1, d2] }
  | _ => none }
def FnExactPairDistanceWrongFalsely : Prop := fnExactPairDistanceRow.holds Try.pinned (OpenSpec.ofChange fnExactPairDistanceWrong)

/-- 'laws.FnExactAreLevels': WHATEVER THE INPUT: true; the input reads as it did. -/
def fnExactAreLevelsSpec : ChangeSpec := { name := "fnExactAreLevels", fn := fun _ => fun
  | [d] => { results := [.lit (.bool true)], args := [d] }
  | _ => none }
def fnExactAreLevelsRow : OpenClaim := { program := "ytgejcmlpccgjcaa", sum := "e9b8e546415391de568e9d00af5093e7284d7edfc65029b9fb14fa2c3a3b0512", func := "loop.example/g01106/laws.FnExactAreLevels", spec := "fnExactAreLevels", apart := false }
def FnExactAreLevelsSaid : Prop := fnExactAreLevelsRow.holds Try.pinned (OpenSpec.ofChange fnExactAreLevelsSpec)

/-- ITS FALSE NEIGHBOUR: 'it returns false'. Refute it at one input. -/
def fnExactAreLevelsWrong : ChangeSpec := { name := "fnExactAreLevels", fn := fun _ => fun
  | [d] => { results := [.lit (.bool false)], args := [d] }
  | _ => none }
def FnExactAreLevelsWrongFalsely : Prop := fnExactAreLevelsRow.holds Try.pinned (OpenSpec.ofChange fnExactAreLevelsWrong)

/-- 'laws.FnExactMirrorLevels': WHATEVER THE INPUT: true; the input reads as it did. -/
def fnExactMirrorLevelsSpec : ChangeSpec := { name := "fnExactMirrorLevels", fn := fun _ => fun
  | [d] => { results := [.lit (.bool true)], args := [d] }
  | _ => none }
def fnExactMirrorLevelsRow : OpenClaim := { program := "ytgejcmlpccgjcaa", sum := "e9b8e546415391de568e9d00af5093e7284d7edfc65029b9fb14fa2c3a3b0512", func := "loop.example/g01106/laws.FnExactMirrorLevels", spec := "fnExactMirrorLevels", apart := false }
def FnExactMirrorLevelsSaid : Prop := fnExactMirrorLevelsRow.holds Try.pinned (OpenSpec.ofChange fnExactMirrorLevelsSpec)

/-- ITS FALSE NEIGHBOUR: 'it returns false'. Refute it at one input. -/
def fnExactMirrorLevelsWrong : ChangeSpec := { name := "fnExactMirrorLevels", fn := fun _ => fun
  | [d] => { results := [.lit (.bool false)], args := [d] }
  | _ => none }
def FnExactMirrorLevelsWrongFalsely : Prop := fnExactMirrorLevelsRow.holds Try.pinned (OpenSpec.ofChange fnExactMirrorLevelsWrong)

/-- 'laws.FnExactOrderOfLevels': WHATEVER THE INPUT: true; the input reads as it did. -/
def fnExactOrderOfLevelsSpec : ChangeSpec := { name := "fnExactOrderOfLevels", fn := fun _ => fun
  | [d] => { results := [.lit (.bool true)], args := [d] }
  | _ => none }
def fnExactOrderOfLevelsRow : OpenClaim := { program := "ytgejcmlpccgjcaa", sum := "e9b8e546415391de568e9d00af5093e7284d7edfc65029b9fb14fa2c3a3b0512", func := "loop.example/g01106/laws.FnExactOrderOfLevels", spec := "fnExactOrderOfLevels", unfollowed := true, recurses := true, apart := false }
def FnExactOrderOfLevelsSaid : Prop := fnExactOrderOfLevelsRow.holds Try.pinned (OpenSpec.ofChange fnExactOrderOfLevelsSpec)

/-- ITS FALSE NEIGHBOUR: 'it returns false'. Refute it at one input. -/
def fnExactOrderOfLevelsWrong : ChangeSpec := { name := "fnExactOrderOfLevels", fn := fun _ => fun
  | [d] => { results := [.lit (.bool false)], args := [d] }
  | _ => none }
def FnExactOrderOfLevelsWrongFalsely : Prop := fnExactOrderOfLevelsRow.holds Try.pinned (OpenSpec.ofChange fnExactOrderOfLevelsWrong)

/-- 'laws.FnExactCountWeak': WHATEVER THE INPUT: true; the input reads as it did. -/
def fnExactCountWeakSpec : ChangeSpec := { name := "fnExactCountWeak", fn := fun _ => fun
  | [d] => { results := [.lit (.bool true)], args := [d] }
  | _ => none }
def fnExactCountWeakRow : OpenClaim := { program := "ytgejcmlpccgjcaa", sum := "e9b8e546415391de568e9d00af5093e7284d7edfc65029b9fb14fa2c3a3b0512", func := "loop.example/g01106/laws.FnExactCountWeak", spec := "fnExactCountWeak", recurses := true, apart := false }
def FnExactCountWeakSaid : Prop := fnExactCountWeakRow.holds Try.pinned (OpenSpec.ofChange fnExactCountWeakSpec)

/-- ITS FALSE NEIGHBOUR: 'it returns false'. Refute it at one input. -/
def fnExactCountWeakWrong : ChangeSpec := { name := "fnExactCountWeak", fn := fun _ => fun
  | [d] => { results := [.lit (.bool false)], args := [d] }
  | _ => none }
def FnExactCountWeakWrongFalsely : Prop := fnExactCountWeakRow.holds Try.pinned (OpenSpec.ofChange fnExactCountWeakWrong)

/-- 'laws.FnExactMajorityOf': WHATEVER THE INPUT: true; the input reads as it did. -/
def fnExactMajorityOfSpec : ChangeSpec := { name := "fnExactMajorityOf", fn := fun _ => fun
  | [d] => { results := [.lit (.bool true)], args := [d] }
  | _ => none }
def fnExactMajorityOfRow : OpenClaim := { program := "ytgejcmlpccgjcaa", sum := "e9b8e546415391de568e9d00af5093e7284d7edfc65029b9fb14fa2c3a3b0512", func := "loop.example/g01106/laws.FnExactMajorityOf", spec := "fnExactMajorityOf", apart := false }
def FnExactMajorityOfSaid : Prop := fnExactMajorityOfRow.holds Try.pinned (OpenSpec.ofChange fnExactMajorityOfSpec)

/-- ITS FALSE NEIGHBOUR: 'it returns false'. Refute it at one input. -/
def fnExactMajorityOfWrong : ChangeSpec := { name := "fnExactMajorityOf", fn := fun _ => fun
  | [d] => { results := [.lit (.bool false)], args := [d] }
  | _ => none }
def FnExactMajorityOfWrongFalsely : Prop := fnExactMajorityOfRow.holds Try.pinned (OpenSpec.ofChange fnExactMajorityOfWrong)

/-- 'laws.FnExactRankLevels': WHATEVER THE INPUT: true; the input reads as it did. -/
def fnExactRankLevelsSpec : ChangeSpec := { name := "fnExactRankLevels", fn := fun _ => fun
  | [d] => { results := [.lit (.bool true)], args := [d] }
  | _ => none }
def fnExactRankLevelsRow : OpenClaim := { program := "ytgejcmlpccgjcaa", sum := "e9b8e546415391de568e9d00af5093e7284d7edfc65029b9fb14fa2c3a3b0512", func := "loop.example/g01106/laws.FnExactRankLevels", spec := "fnExactRankLevels", recurses := true, apart := false }
def FnExactRankLevelsSaid : Prop := fnExactRankLevelsRow.holds Try.pinned (OpenSpec.ofChange fnExactRankLevelsSpec)

/-- ITS FALSE NEIGHBOUR: 'it returns false'. Refute it at one input. -/
def fnExactRankLevelsWrong : ChangeSpec := { name := "fnExactRankLevels", fn := fun _ => fun
  | [d] => { results := [.lit (.bool false)], args := [d] }
  | _ => none }
def FnExactRankLevelsWrongFalsely : Prop := fnExactRankLevelsRow.holds Try.pinned (OpenSpec.ofChange fnExactRankLevelsWrong)

/-- 'laws.FnExactLevelsWith': WHATEVER THE INPUT: true; the input reads as it did. -/
def fnExactLevelsWithSpec : ChangeSpec := { name := "fnExactLevelsWith", fn := fun _ => fun
  | [d1, d2] => { results := [.lit (.bool true)], args := [d1, d2] }
  | _ => none }
def fnExactLevelsWithRow : OpenClaim := { program := "ytgejcmlpccgjcaa", sum := "e9b8e546415391de568e9d00af5093e7284d7edfc65029b9fb14fa2c3a3b0512", func := "loop.example/g01106/laws.FnExactLevelsWith", spec := "fnExactLevelsWith", recurses := true, apart := false }
def FnExactLevelsWithSaid : Prop := fnExactLevelsWithRow.holds Try.pinned (OpenSpec.ofChange fnExactLevelsWithSpec)

/-- ITS FALSE NEIGHBOUR: 'it returns false'. Refute it at one input. -/
def fnExactLevelsWithWrong : ChangeSpec := { name := "fnExactLevelsWith", fn := fun _ => fun
  | [d1, d2] => { results := [.lit (.bool false)], args := [d1, d2] }
  | _ => none }
def FnExactLevelsWithWrongFalsely : Prop := fnExactLevelsWithRow.holds Try.pinned (OpenSpec.ofChange fnExactLevelsWithWrong)

/- THE SECOND FORM. 'bulk': how many values and letters a reading holds, each counted each time it is reached (what is shared counts as often as it is met; a slice's spare places count too). A statement '..UptoSaid' is the law's where the arguments, and the package variables that the reading takes, are together of bulk at most 1048576: NARROWER than '..Said'. Prove '..Said' where nothing that the law and all that it calls make is longer than what came in: it says more and counts as full. Else prove '..UptoSaid'. A law counts once. -/
mutual
def uptoBulk {H : Type} : DataW H → Nat
  | .lit (.string bytes) => bytes.length + 1
  | .lit _ => 1
  | .nil => 1
  | .ptr d => uptoBulk d + 1
  | .slice elems spare => uptoBulkAll elems + uptoBulkAll spare + 1
  | .agg parts => uptoBulkAll parts + 1
  | .iface _ d => uptoBulk d + 1
  | .map entries => uptoBulkEntries entries + 1
  | .held _ => 1
def uptoBulkAll {H : Type} : List (DataW H) → Nat
  | [] => 0
  | d :: r => uptoBulk d + uptoBulkAll r
def uptoBulkEntries {H : Type} : List (Lit × DataW H) → Nat
  | [] => 0
  | x :: r => uptoBulkEntry x + uptoBulkEntries r
def uptoBulkEntry {H : Type} : Lit × DataW H → Nat
  | (.string bytes, d) => bytes.length + uptoBulk d + 1
  | (_, d) => uptoBulk d + 1
 end
def uptoSmall : (H : Type) → List (DataW H) → Bool := fun _ ds => decide (uptoBulkAll ds ≤ 1048576)
def OpenSpec.upto (s : _root_.Go.ChangeSpec) : _root_.Go.OpenSpec := { _root_.Go.OpenSpec.ofChange s with cond := some uptoSmall }

/-- 'laws.FnExactMeetOrders', WHERE WHAT IT READS IS OF BULK AT MOST 1048576: true; the input reads as it did. -/
def fnExactMeetOrdersUptoRow : OpenClaim := { program := "ytgejcmlpccgjcaa", sum := "e9b8e546415391de568e9d00af5093e7284d7edfc65029b9fb14fa2c3a3b0512", func := "loop.example/g01106/laws.FnExactMeetOrders", spec := "fnExactMeetOrders", apart := false, narrowed := true }
def FnExactMeetOrdersUptoSaid : Prop := fnExactMeetOrdersUptoRow.holds Try.pinned (OpenSpec.upto fnExactMeetOrdersSpec)

/-- 'laws.FnExactDoesRefine', WHERE WHAT IT READS IS OF BULK AT MOST 1048576: true; the input reads as it did. -/
def fnExactDoesRefineUptoRow : OpenClaim := { program := "ytgejcmlpccgjcaa", sum := "e9b8e546415391de568e9d00af5093e7284d7edfc65029b9fb14fa2c3a3b0512", func := "loop.example/g01106/laws.FnExactDoesRefine", spec := "fnExactDoesRefine", apart := false, narrowed := true }
def FnExactDoesRefineUptoSaid : Prop := fnExactDoesRefineUptoRow.holds Try.pinned (OpenSpec.upto fnExactDoesRefineSpec)

/-- 'laws.FnExactPairDistance', WHERE WHAT IT READS IS OF BULK AT MOST 1048576: true; the input reads as it did. -/
def fnExactPairDistanceUptoRow : OpenClaim := { program := "ytgejcmlpccgjcaa", sum := "e9b8e546415391de568e9d00af5093e7284d7edfc65029b9fb14fa2c3a3b0512", func := "loop.example/g01106/laws.FnExactPairDistance", spec := "fnExactPairDistance", apart := false, narrowed := true }
def FnExactPairDistanceUptoSaid : Prop := fnExactPairDistanceUptoRow.holds Try.pinned (OpenSpec.upto fnExactPairDistanceSpec)

/-- 'laws.FnExactAreLevels', WHERE WHAT IT READS IS OF BULK AT MOST 1048576: true; the input reads as it did. -/
def fnExactAreLevelsUptoRow : OpenClaim := { program := "ytgejcmlpccgjcaa", sum := "e9b8e546415391de568e9d00af5093e7284d7edfc65029b9fb14fa2c3a3b0512", func := "loop.example/g01106/laws.FnExactAreLevels", spec := "fnExactAreLevels", apart := false, narrowed := true }
def FnExactAreLevelsUptoSaid : Prop := fnExactAreLevelsUptoRow.holds Try.pinned (OpenSpec.upto fnExactAreLevelsSpec)

/-- 'laws.FnExactMirrorLevels', WHERE WHAT IT READS IS OF BULK AT MOST 1048576: true; the input reads as it did. -/
def fnExactMirrorLevelsUptoRow : OpenClaim := { program := "ytgejcmlpccgjcaa", sum := "e9b8e546415391de568e9d00af5093e7284d7edfc65029b9fb14fa2c3a3b0512", func := "loop.example/g01106/laws.FnExactMirrorLevels", spec := "fnExactMirrorLevels", apart := false, narrowed := true }
def FnExactMirrorLevelsUptoSaid : Prop := fnExactMirrorLevelsUptoRow.holds Try.pinned (OpenSpec.upto fnExactMirrorLevelsSpec)

/-- 'laws.FnExactOrderOfLevels', WHERE WHAT IT READS IS OF BULK AT MOST 1048576: true; the input reads as it did. -/
def fnExactOrderOfLevelsUptoRow : OpenClaim := { program := "ytgejcmlpccgjcaa", sum := "e9b8e546415391de568e9d00af5093e7284d7edfc65029b9fb14fa2c3a3b0512", func := "loop.example/g01106/laws.FnExactOrderOfLevels", spec := "fnExactOrderOfLevels", unfollowed := true, recurses := true, apart := false, narrowed := true }
def FnExactOrderOfLevelsUptoSaid : Prop := fnExactOrderOfLevelsUptoRow.holds Try.pinned (OpenSpec.upto fnExactOrderOfLevelsSpec)

/-- 'laws.FnExactCountWeak', WHERE WHAT IT READS IS OF BULK AT MOST 1048576: true; the input reads as it did. -/
def fnExactCountWeakUptoRow : OpenClaim := { program := "ytgejcmlpccgjcaa", sum := "e9b8e546415391de568e9d00af5093e7284d7edfc65029b9fb14fa2c3a3b0512", func := "loop.example/g01106/laws.FnExactCountWeak", spec := "fnExactCountWeak", recurses := true, apart := false, narrowed := true }
def FnExactCountWeakUptoSaid : Prop := fnExactCountWeakUptoRow.holds Try.pinned (OpenSpec.upto fnExactCountWeakSpec)

/-- 'laws.FnExactMajorityOf', WHERE WHAT IT READS IS OF BULK AT MOST 1048576: true; the input reads as it did. -/
def fnExactMajorityOfUptoRow : OpenClaim := { program := "ytgejcmlpccgjcaa", sum := "e9b8e546415391de568e9d00af5093e7284d7edfc65029b9fb14fa2c3a3b0512", func := "loop.example/g01106/laws.FnExactMajorityOf", spec := "fnExactMajorityOf", apart := false, narrowed := true }
def FnExactMajorityOfUptoSaid : Prop := fnExactMajorityOfUptoRow.holds Try.pinned (OpenSpec.upto fnExactMajorityOfSpec)

/-- 'laws.FnExactRankLevels', WHERE WHAT IT READS IS OF BULK AT MOST 1048576: true; the input reads as it did. -/
def fnExactRankLevelsUptoRow : OpenClaim := { program := "ytgejcmlpccgjcaa", sum := "e9b8e546415391de568e9d00af5093e7284d7edfc65029b9fb14fa2c3a3b0512", func := "loop.example/g01106/laws.FnExactRankLevels", spec := "fnExactRankLevels", recurses := true, apart := false, narrowed := true }
def FnExactRankLevelsUptoSaid : Prop := fnExactRankLevelsUptoRow.holds Try.pinned (OpenSpec.upto fnExactRankLevelsSpec)

/-- 'laws.FnExactLevelsWith', WHERE WHAT IT READS IS OF BULK AT MOST 1048576: true; the input reads as it did. -/
def fnExactLevelsWithUptoRow : OpenClaim := { program := "ytgejcmlpccgjcaa", sum := "e9b8e546415391de568e9d00af5093e7284d7edfc65029b9fb14fa2c3a3b0512", func := "loop.example/g01106/laws.FnExactLevelsWith", spec := "fnExactLevelsWith", recurses := true, apart := false, narrowed := true }
def FnExactLevelsWithUptoSaid : Prop := fnExactLevelsWithUptoRow.holds Try.pinned (OpenSpec.upto fnExactLevelsWithSpec)

end Rows
end Go.Proofs.Ytgejcmlpccgjcaa
