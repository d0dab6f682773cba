/-
  No cell of these rows narrows 'for every input' (looked for: loops, veiled, ifaces, maps, wideKeys, modest, calm, conditions, laid).
  DERIVED. THE GIVEN ROWS OF THIS SEAT. 5 by the template 'for every input the law returns true; each argument reads behind the call as it read before'; 0 by the template 'total and deterministic' (their statements: YtkhilginiahebabTotals.lean).
  GIVEN WITH THE SEED: the statements are not yours to turn. If you find one false, say at which input.
  Laid BY PROGRAM, IN A SANDBOX (cutbox-rows.mjs): the forced cells as the released guide's own fill.sh prints them over the translation 5bf9ee833e072371… (all of the seat's roots in one cut). By AI agents, Wed Nov 11 2026. No macro, syntax, notation, axiom, sorry.
-/
import Derived.Test.YtkhilginiahebabChecked
import GoSem.Claim
import GoSem.ClaimJoined
import GoSem.ClaimMapViews
import Derived.JoinedTies
import Derived.KernelRfl
namespace Go.Proofs.Ytkhilginiahebab
/- THE CELL 'sum', in the pinned program and in every row, IS THE sha256 OF THE DUMP (.gsa) THAT YtkhilginiahebabProg.lean LOADS. Nothing in Lean hashes anything: it is a label: what it is worth is what the hold of that sum in a sandbox is worth. -/
noncomputable def Try.pinned : Pinned := { name := "ytkhilginiahebab", sum := "5bf9ee833e072371ba21f4d19e95cc1d011e9bb4754920e9e3669384e971bc44", checked := Try.checked }
namespace Rows
def none {H : Type} : Left H := { results := [], args := [] }

/-- 'laws.FnExactCountAscents': WHATEVER THE INPUT: true; the input reads as it did. -/
def fnExactCountAscentsSpec : ChangeSpec := { name := "fnExactCountAscents", fn := fun _ => fun
  | [d] => { results := [.lit (.bool true)], args := [d] }
  | _ => none }
def fnExactCountAscentsRow : OpenClaim := { program := "ytkhilginiahebab", sum := "5bf9ee833e072371ba21f4d19e95cc1d011e9bb4754920e9e3669384e971bc44", func := "loop.example/g01106/laws.FnExactCountAscents", spec := "fnExactCountAscents", unfollowed := true, recurses := true, plainKeys := false, apart := false }
def FnExactCountAscentsSaid : Prop := fnExactCountAscentsRow.holds Try.pinned (OpenSpec.ofChange fnExactCountAscentsSpec)

/-- ITS FALSE NEIGHBOUR: 'it returns false'. Refute it at one input. -/
def fnExactCountAscentsWrong : ChangeSpec := { name := "fnExactCountAscents", fn := fun _ => fun
  | [d] => { results := [.lit (.bool false)], args := [d] }
  | _ => none }
def FnExactCountAscentsWrongFalsely : Prop := fnExactCountAscentsRow.holds Try.pinned (OpenSpec.ofChange fnExactCountAscentsWrong)

/-- 'laws.FnExactRankAscent': WHATEVER THE INPUT: true; the input reads as it did. -/
def fnExactRankAscentSpec : ChangeSpec := { name := "fnExactRankAscent", fn := fun _ => fun
  | [d] => { results := [.lit (.bool true)], args := [d] }
  | _ => none }
def fnExactRankAscentRow : OpenClaim := { program := "ytkhilginiahebab", sum := "5bf9ee833e072371ba21f4d19e95cc1d011e9bb4754920e9e3669384e971bc44", func := "loop.example/g01106/laws.FnExactRankAscent", spec := "fnExactRankAscent", unfollowed := true, recurses := true, plainKeys := false, apart := false }
def FnExactRankAscentSaid : Prop := fnExactRankAscentRow.holds Try.pinned (OpenSpec.ofChange fnExactRankAscentSpec)

/-- ITS FALSE NEIGHBOUR: 'it returns false'. Refute it at one input. -/
def fnExactRankAscentWrong : ChangeSpec := { name := "fnExactRankAscent", fn := fun _ => fun
  | [d] => { results := [.lit (.bool false)], args := [d] }
  | _ => none }
def FnExactRankAscentWrongFalsely : Prop := fnExactRankAscentRow.holds Try.pinned (OpenSpec.ofChange fnExactRankAscentWrong)

/-- 'laws.FnExactAscentWith': WHATEVER THE INPUT: true; the input reads as it did. -/
def fnExactAscentWithSpec : ChangeSpec := { name := "fnExactAscentWith", fn := fun _ => fun
  | [d1, d2] => { results := [.lit (.bool true)], args := [d1, d2] }
  | _ => none }
def fnExactAscentWithRow : OpenClaim := { program := "ytkhilginiahebab", sum := "5bf9ee833e072371ba21f4d19e95cc1d011e9bb4754920e9e3669384e971bc44", func := "loop.example/g01106/laws.FnExactAscentWith", spec := "fnExactAscentWith", unfollowed := true, recurses := true, plainKeys := false, apart := false }
def FnExactAscentWithSaid : Prop := fnExactAscentWithRow.holds Try.pinned (OpenSpec.ofChange fnExactAscentWithSpec)

/-- ITS FALSE NEIGHBOUR: 'it returns false'. Refute it at one input. -/
def fnExactAscentWithWrong : ChangeSpec := { name := "fnExactAscentWith", fn := fun _ => fun
  | [d1, d2] => { results := [.lit (.bool false)], args := [d1, d2] }
  | _ => none }
def FnExactAscentWithWrongFalsely : Prop := fnExactAscentWithRow.holds Try.pinned (OpenSpec.ofChange fnExactAscentWithWrong)

/-- 'laws.FnExactIntervalsOfAscent': WHATEVER THE INPUT: true; the input reads as it did. -/
def fnExactIntervalsOfAscentSpec : ChangeSpec := { name := "fnExactIntervalsOfAscent", fn := fun _ => fun
  | [d] => { results := [.lit (.bool true)], args := [d] }
  | _ => none }
def fnExactIntervalsOfAscentRow : OpenClaim := { program := "ytkhilginiahebab", sum := "5bf9ee833e072371ba21f4d19e95cc1d011e9bb4754920e9e3669384e971bc44", func := "loop.example/g01106/laws.FnExactIntervalsOfAscent", spec := "fnExactIntervalsOfAscent", plainKeys := false, apart := false }
def FnExactIntervalsOfAscentSaid : Prop := fnExactIntervalsOfAscentRow.holds Try.pinned (OpenSpec.ofChange fnExactIntervalsOfAscentSpec)

/-- ITS FALSE NEIGHBOUR: 'it returns false'. Refute it at one input. -/
def fnExactIntervalsOfAscentWrong : ChangeSpec := { name := "fnExactIntervalsOfAscent", fn := fun _ => fun
  | [d] => { results := [.lit (.bool false)], args := [d] }
  | _ => none }
def FnExactIntervalsOfAscentWrongFalsely : Prop := fnExactIntervalsOfAscentRow.holds Try.pinned (OpenSpec.ofChange fnExactIntervalsOfAscentWrong)

/-- 'laws.FnExactOrderOfAscent': WHATEVER THE INPUT: true; the input reads as it did. -/
def fnExactOrderOfAscentSpec : ChangeSpec := { name := "fnExactOrderOfAscent", fn := fun _ => fun
  | [d] => { results := [.lit (.bool true)], args := [d] }
  | _ => none }
def fnExactOrderOfAscentRow : OpenClaim := { program := "ytkhilginiahebab", sum := "5bf9ee833e072371ba21f4d19e95cc1d011e9bb4754920e9e3669384e971bc44", func := "loop.example/g01106/laws.FnExactOrderOfAscent", spec := "fnExactOrderOfAscent", unfollowed := true, recurses := true, plainKeys := false, apart := false }
def FnExactOrderOfAscentSaid : Prop := fnExactOrderOfAscentRow.holds Try.pinned (OpenSpec.ofChange fnExactOrderOfAscentSpec)

/-- ITS FALSE NEIGHBOUR: 'it returns false'. Refute it at one input. -/
def fnExactOrderOfAscentWrong : ChangeSpec := { name := "fnExactOrderOfAscent", fn := fun _ => fun
  | [d] => { results := [.lit (.bool false)], args := [d] }
  | _ => none }
def FnExactOrderOfAscentWrongFalsely : Prop := fnExactOrderOfAscentRow.holds Try.pinned (OpenSpec.ofChange fnExactOrderOfAscentWrong)

/- THE SECOND FORM. 'bulk': how many values and letters a reading holds, each counted each time it is reached (what is shared counts as often as it is met; a slice's spare places count too). A statement '..UptoSaid' is the law's where the arguments, and the package variables that the reading takes, are together of bulk at most 1048576: NARROWER than '..Said'. Prove '..Said' where nothing that the law and all that it calls make is longer than what came in: it says more and counts as full. Else prove '..UptoSaid'. A law counts once. -/
mutual
def uptoBulk {H : Type} : DataW H → Nat
  | .lit (.string bytes) => bytes.length + 1
  | .lit _ => 1
  | .nil => 1
  | .ptr d => uptoBulk d + 1
  | .slice elems spare => uptoBulkAll elems + uptoBulkAll spare + 1
  | .agg parts => uptoBulkAll parts + 1
  | .iface _ d => uptoBulk d + 1
  | .map entries => uptoBulkEntries entries + 1
  | .held _ => 1
def uptoBulkAll {H : Type} : List (DataW H) → Nat
  | [] => 0
  | d :: r => uptoBulk d + uptoBulkAll r
def uptoBulkEntries {H : Type} : List (Lit × DataW H) → Nat
  | [] => 0
  | x :: r => uptoBulkEntry x + uptoBulkEntries r
def uptoBulkEntry {H : Type} : Lit × DataW H → Nat
  | (.string bytes, d) => bytes.length + uptoBulk d + 1
  | (_, d) => uptoBulk d + 1
 end
def uptoSmall : (H : Type) → List (DataW H) → Bool := fun _ ds => decide (uptoBulkAll ds ≤ 1048576)
def OpenSpec.upto (s : _root_.Go.ChangeSpec) : _root_.Go.OpenSpec := { _root_.Go.OpenSpec.ofChange s with cond := some uptoSmall }

/-- 'laws.FnExactCountAscents', WHERE WHAT IT READS IS OF BULK AT MOST 1048576: true; the input reads as it did. -/
def fnExactCountAscentsUptoRow : OpenClaim := { program := "ytkhilginiahebab", sum := "5bf9ee833e072371ba21f4d19e95cc1d011e9bb4754920e9e3669384e971bc44", func := "loop.example/g01106/laws.FnExactCountAscents", spec := "fnExactCountAscents", unfollowed := true, recurses := true, plainKeys := false, apart := false, narrowed := true }
def FnExactCountAscentsUptoSaid : Prop := fnExactCountAscentsUptoRow.holds Try.pinned (OpenSpec.upto fnExactCountAscentsSpec)

/-- 'laws.FnExactRankAscent', WHERE WHAT IT READS IS OF BULK AT MOST 1048576: true; the input reads as it did. -/
def fnExactRankAscentUptoRow : OpenClaim := { program := "ytkhilginiahebab", sum := "5bf9ee833e072371ba21f4d19e95cc1d011e9bb4754920e9e3669384e971bc44", func := "loop.example/g01106/laws.FnExactRankAscent", spec := "fnExactRankAscent", unfollowed := true, recurses := true, plainKeys := false, apart := false, narrowed := true }
def FnExactRankAscentUptoSaid : Prop := fnExactRankAscentUptoRow.holds Try.pinned (OpenSpec.upto fnExactRankAscentSpec)

/-- 'laws.FnExactAscentWith', WHERE WHAT IT READS IS OF BULK AT MOST 1048576: true; the input reads as it did. -/
def fnExactAscentWithUptoRow : OpenClaim := { program := "ytkhilginiahebab", sum := "5bf9ee833e072371ba21f4d19e95cc1d011e9bb4754920e9e3669384e971bc44", func := "loop.example/g01106/laws.FnExactAscentWith", spec := "fnExactAscentWith", unfollowed := true, recurses := true, plainKeys := false, apart := false, narrowed := true }
def FnExactAscentWithUptoSaid : Prop := fnExactAscentWithUptoRow.holds Try.pinned (OpenSpec.upto fnExactAscentWithSpec)

/-- 'laws.FnExactIntervalsOfAscent', WHERE WHAT IT READS IS OF BULK AT MOST 1048576: true; the input reads as it did. -/
def fnExactIntervalsOfAscentUptoRow : OpenClaim := { program := "ytkhilginiahebab", sum := "5bf9ee833e072371ba21f4d19e95cc1d011e9bb4754920e9e3669384e971bc44", func := "loop.example/g01106/laws.FnExactIntervalsOfAscent", spec := "fnExactIntervalsOfAscent", plainKeys := false, apart := false, narrowed := true }
def FnExactIntervalsOfAscentUptoSaid : Prop := fnExactIntervalsOfAscentUptoRow.holds Try.pinned (OpenSpec.upto fnExactIntervalsOfAscentSpec)

/-- 'laws.FnExactOrderOfAscent', WHERE WHAT IT READS IS OF BULK AT MOST 1048576: true; the input reads as it did. -/
def fnExactOrderOfAscentUptoRow : OpenClaim := { program := "ytkhilginiahebab", sum := "5bf9ee833e072371ba21f4d19e95cc1d011e9bb4754920e9e3669384e971bc44", func := "loop.example/g01106/laws.FnExactOrderOfAscent", spec := "fnExactOrderOfAscent", unfollowed := true, recurses := true, plainKeys := false, apart := false, narrowed := true }
def FnExactOrderOfAscentUptoSaid : Prop := fnExactOrderOfAscentUptoRow.holds Try.pinned (OpenSpec.upto fnExactOrderOfAscentSpec)

end Rows
end Go.Proofs.Ytkhilginiahebab
