/-
  NARROWER THAN 'FOR EVERY INPUT', by the rows' own cells (each row's printed sentence says how): FnExactThreeOneOf: laid · FnExactIsSemiorder: laid · FnExactTraceList: laid · FnExactStairOf: laid · FnExactMirrorStair: laid · FnExactTwoOneOf: laid · FnExactIsWeak: laid · FnExactWeakLevels: laid · FnExactTraceOf: laid.
  DERIVED. THE GIVEN ROWS OF THIS SEAT. 9 by the template 'for every input the law returns true; each argument reads behind the call as it read before'; 0 by the template 'total and deterministic' (their statements: YtnbgpelnihchoaaDoorTotals.lean).
  GIVEN WITH THE SEED: the statements are not yours to turn. If you find one false, say at which input.
  Laid BY PROGRAM, IN A SANDBOX (cutbox-rows.mjs): the forced cells as the released guide's own fill.sh prints them over the translation d9e02d1a79f02ab7… (all of the seat's roots in one cut). By AI agents, Wed Nov 11 2026. No macro, syntax, notation, axiom, sorry.
-/
import Derived.Test.YtnbgpelnihchoaaDoorChecked
import GoSem.Claim
import GoSem.ClaimJoined
import GoSem.ClaimMapViews
import Derived.JoinedTies
import Derived.KernelRfl
namespace Go.Proofs.YtnbgpelnihchoaaDoor
/- THE CELL 'sum', in the pinned program and in every row, IS THE sha256 OF THE DUMP (.gsa) THAT YtnbgpelnihchoaaDoorProg.lean LOADS. Nothing in Lean hashes anything: it is a label: what it is worth is what the hold of that sum in a sandbox is worth. -/
noncomputable def Tryd.pinned : Pinned := { name := "ytnbgpelnihchoaadoor", sum := "d9e02d1a79f02ab7a7b9dc8349ecd8c2a51150e40e8cd5183dd3ac508e21b937", checked := Tryd.checked }
namespace Rows
def none {H : Type} : Left H := { results := [], args := [] }

/- WHAT THE LISTED PACKAGE-LEVEL VARIABLES READ AS WHEN THE CALL BEGINS. Each datum BY PROGRAM (the guide's laid-datum.mjs) off the statement by which the dump's own 'gosem.cut.vars' lays the variable. In a bare row this is a premise. The card (YtnbgpelnihchoaaDoorCards.lean) ties it to the program's text. -/
def laid_math_bits_deBruijn32tab {H : Type} : DataW H := .agg [.lit (.int .u8 0), .lit (.int .u8 1), .lit (.int .u8 28), .lit (.int .u8 2), .lit (.int .u8 29), .lit (.int .u8 14), .lit (.int .u8 24), .lit (.int .u8 3), .lit (.int .u8 30), .lit (.int .u8 22), .lit (.int .u8 20), .lit (.int .u8 15), .lit (.int .u8 25), .lit (.int .u8 17), .lit (.int .u8 4), .lit (.int .u8 8), .lit (.int .u8 31), .lit (.int .u8 27), .lit (.int .u8 13), .lit (.int .u8 23), .lit (.int .u8 21), .lit (.int .u8 19), .lit (.int .u8 16), .lit (.int .u8 7), .lit (.int .u8 26), .lit (.int .u8 12), .lit (.int .u8 18), .lit (.int .u8 6), .lit (.int .u8 11), .lit (.int .u8 5), .lit (.int .u8 10), .lit (.int .u8 9)]
def laid_math_bits_deBruijn64tab {H : Type} : DataW H := .agg [.lit (.int .u8 0), .lit (.int .u8 1), .lit (.int .u8 56), .lit (.int .u8 2), .lit (.int .u8 57), .lit (.int .u8 49), .lit (.int .u8 28), .lit (.int .u8 3), .lit (.int .u8 61), .lit (.int .u8 58), .lit (.int .u8 42), .lit (.int .u8 50), .lit (.int .u8 38), .lit (.int .u8 29), .lit (.int .u8 17), .lit (.int .u8 4), .lit (.int .u8 62), .lit (.int .u8 47), .lit (.int .u8 59), .lit (.int .u8 36), .lit (.int .u8 45), .lit (.int .u8 43), .lit (.int .u8 51), .lit (.int .u8 22), .lit (.int .u8 53), .lit (.int .u8 39), .lit (.int .u8 33), .lit (.int .u8 30), .lit (.int .u8 24), .lit (.int .u8 18), .lit (.int .u8 12), .lit (.int .u8 5), .lit (.int .u8 63), .lit (.int .u8 55), .lit (.int .u8 48), .lit (.int .u8 27), .lit (.int .u8 60), .lit (.int .u8 41), .lit (.int .u8 37), .lit (.int .u8 16), .lit (.int .u8 46), .lit (.int .u8 35), .lit (.int .u8 44), .lit (.int .u8 21), .lit (.int .u8 52), .lit (.int .u8 32), .lit (.int .u8 23), .lit (.int .u8 11), .lit (.int .u8 54), .lit (.int .u8 26), .lit (.int .u8 40), .lit (.int .u8 15), .lit (.int .u8 34), .lit (.int .u8 20), .lit (.int .u8 31), .lit (.int .u8 10), .lit (.int .u8 25), .lit (.int .u8 14), .lit (.int .u8 19), .lit (.int .u8 9), .lit (.int .u8 13), .lit (.int .u8 8), .lit (.int .u8 7), .lit (.int .u8 6)]

/-- 'laws.FnExactThreeOneOf': WHATEVER THE INPUT: true; the input reads as it did. -/
def fnExactThreeOneOfSpec : ChangeSpec := { name := "fnExactThreeOneOf", fn := fun _ => fun
  | [d] => { results := [.lit (.bool true)], args := [d] }
  | _ => none }
def fnExactThreeOneOfRow : OpenClaim := { program := "ytnbgpelnihchoaadoor", sum := "d9e02d1a79f02ab7a7b9dc8349ecd8c2a51150e40e8cd5183dd3ac508e21b937", func := "loop.example/g01106/laws.FnExactThreeOneOf", spec := "fnExactThreeOneOf", named := ["math/bits.deBruijn32tab", "math/bits.deBruijn64tab"], apart := false, laid := [("math/bits.deBruijn32tab", laid_math_bits_deBruijn32tab), ("math/bits.deBruijn64tab", laid_math_bits_deBruijn64tab)] }
def FnExactThreeOneOfSaid : Prop := fnExactThreeOneOfRow.holds Tryd.pinned (OpenSpec.ofChange fnExactThreeOneOfSpec)

/-- ITS FALSE NEIGHBOUR: 'it returns false'. Refute it at one input. -/
def fnExactThreeOneOfWrong : ChangeSpec := { name := "fnExactThreeOneOf", fn := fun _ => fun
  | [d] => { results := [.lit (.bool false)], args := [d] }
  | _ => none }
def FnExactThreeOneOfWrongFalsely : Prop := fnExactThreeOneOfRow.holds Tryd.pinned (OpenSpec.ofChange fnExactThreeOneOfWrong)

/-- 'laws.FnExactIsSemiorder': WHATEVER THE INPUT: true; the input reads as it did. -/
def fnExactIsSemiorderSpec : ChangeSpec := { name := "fnExactIsSemiorder", fn := fun _ => fun
  | [d] => { results := [.lit (.bool true)], args := [d] }
  | _ => none }
def fnExactIsSemiorderRow : OpenClaim := { program := "ytnbgpelnihchoaadoor", sum := "d9e02d1a79f02ab7a7b9dc8349ecd8c2a51150e40e8cd5183dd3ac508e21b937", func := "loop.example/g01106/laws.FnExactIsSemiorder", spec := "fnExactIsSemiorder", named := ["math/bits.deBruijn32tab", "math/bits.deBruijn64tab"], apart := false, laid := [("math/bits.deBruijn32tab", laid_math_bits_deBruijn32tab), ("math/bits.deBruijn64tab", laid_math_bits_deBruijn64tab)] }
def FnExactIsSemiorderSaid : Prop := fnExactIsSemiorderRow.holds Tryd.pinned (OpenSpec.ofChange fnExactIsSemiorderSpec)

/-- ITS FALSE NEIGHBOUR: 'it returns false'. Refute it at one input. -/
def fnExactIsSemiorderWrong : ChangeSpec := { name := "fnExactIsSemiorder", fn := fun _ => fun
  | [d] => { results := [.lit (.bool false)], args := [d] }
  | _ => none }
def FnExactIsSemiorderWrongFalsely : Prop := fnExactIsSemiorderRow.holds Tryd.pinned (OpenSpec.ofChange fnExactIsSemiorderWrong)

/-- 'laws.FnExactTraceList': WHATEVER THE INPUT: true; the input reads as it did. -/
def fnExactTraceListSpec : ChangeSpec := { name := "fnExactTraceList", fn := fun _ => fun
  | [d] => { results := [.lit (.bool true)], args := [d] }
  | _ => none }
def fnExactTraceListRow : OpenClaim := { program := "ytnbgpelnihchoaadoor", sum := "d9e02d1a79f02ab7a7b9dc8349ecd8c2a51150e40e8cd5183dd3ac508e21b937", func := "loop.example/g01106/laws.FnExactTraceList", spec := "fnExactTraceList", unfollowed := true, recurses := true, named := ["math/bits.deBruijn32tab", "math/bits.deBruijn64tab"], apart := false, laid := [("math/bits.deBruijn32tab", laid_math_bits_deBruijn32tab), ("math/bits.deBruijn64tab", laid_math_bits_deBruijn64tab)] }
def FnExactTraceListSaid : Prop := fnExactTraceListRow.holds Tryd.pinned (OpenSpec.ofChange fnExactTraceListSpec)

/-- ITS FALSE NEIGHBOUR: 'it returns false'. Refute it at one input. -/
def fnExactTraceListWrong : ChangeSpec := { name := "fnExactTraceList", fn := fun _ => fun
  | [d] => { results := [.lit (.bool false)], args := [d] }
  | _ => none }
def FnExactTraceListWrongFalsely : Prop := fnExactTraceListRow.holds Tryd.pinned (OpenSpec.ofChange fnExactTraceListWrong)

/-- 'laws.FnExactStairOf': WHATEVER THE INPUT: true; the input reads as it did. -/
def fnExactStairOfSpec : ChangeSpec := { name := "fnExactStairOf", fn := fun _ => fun
  | [d] => { results := [.lit (.bool true)], args := [d] }
  | _ => none }
def fnExactStairOfRow : OpenClaim := { program := "ytnbgpelnihchoaadoor", sum := "d9e02d1a79f02ab7a7b9dc8349ecd8c2a51150e40e8cd5183dd3ac508e21b937", func := "loop.example/g01106/laws.FnExactStairOf", spec := "fnExactStairOf", recurses := true, named := ["math/bits.deBruijn32tab", "math/bits.deBruijn64tab"], apart := false, laid := [("math/bits.deBruijn32tab", laid_math_bits_deBruijn32tab), ("math/bits.deBruijn64tab", laid_math_bits_deBruijn64tab)] }
def FnExactStairOfSaid : Prop := fnExactStairOfRow.holds Tryd.pinned (OpenSpec.ofChange fnExactStairOfSpec)

/-- ITS FALSE NEIGHBOUR: 'it returns false'. Refute it at one input. -/
def fnExactStairOfWrong : ChangeSpec := { name := "fnExactStairOf", fn := fun _ => fun
  | [d] => { results := [.lit (.bool false)], args := [d] }
  | _ => none }
def FnExactStairOfWrongFalsely : Prop := fnExactStairOfRow.holds Tryd.pinned (OpenSpec.ofChange fnExactStairOfWrong)

/-- 'laws.FnExactMirrorStair': WHATEVER THE INPUT: true; the input reads as it did. -/
def fnExactMirrorStairSpec : ChangeSpec := { name := "fnExactMirrorStair", fn := fun _ => fun
  | [d] => { results := [.lit (.bool true)], args := [d] }
  | _ => none }
def fnExactMirrorStairRow : OpenClaim := { program := "ytnbgpelnihchoaadoor", sum := "d9e02d1a79f02ab7a7b9dc8349ecd8c2a51150e40e8cd5183dd3ac508e21b937", func := "loop.example/g01106/laws.FnExactMirrorStair", spec := "fnExactMirrorStair", recurses := true, named := ["math/bits.deBruijn32tab", "math/bits.deBruijn64tab"], apart := false, laid := [("math/bits.deBruijn32tab", laid_math_bits_deBruijn32tab), ("math/bits.deBruijn64tab", laid_math_bits_deBruijn64tab)] }
def FnExactMirrorStairSaid : Prop := fnExactMirrorStairRow.holds Tryd.pinned (OpenSpec.ofChange fnExactMirrorStairSpec)

/-- ITS FALSE NEIGHBOUR: 'it returns false'. Refute it at one input. -/
def fnExactMirrorStairWrong : ChangeSpec := { name := "fnExactMirrorStair", fn := fun _ => fun
  | [d] => { results := [.lit (.bool false)], args := [d] }
  | _ => none }
def FnExactMirrorStairWrongFalsely : Prop := fnExactMirrorStairRow.holds Tryd.pinned (OpenSpec.ofChange fnExactMirrorStairWrong)

/-- 'laws.FnExactTwoOneOf': WHATEVER THE INPUT: true; the input reads as it did. -/
def fnExactTwoOneOfSpec : ChangeSpec := { name := "fnExactTwoOneOf", fn := fun _ => fun
  | [d] => { results := [.lit (.bool true)], args := [d] }
  | _ => none }
def fnExactTwoOneOfRow : OpenClaim := { program := "ytnbgpelnihchoaadoor", sum := "d9e02d1a79f02ab7a7b9dc8349ecd8c2a51150e40e8cd5183dd3ac508e21b937", func := "loop.example/g01106/laws.FnExactTwoOneOf", spec := "fnExactTwoOneOf", named := ["math/bits.deBruijn32tab", "math/bits.deBruijn64tab"], apart := false, laid := [("math/bits.deBruijn32tab", laid_math_bits_deBruijn32tab), ("math/bits.deBruijn64tab", laid_math_bits_deBruijn64tab)] }
def FnExactTwoOneOfSaid : Prop := fnExactTwoOneOfRow.holds Tryd.pinned (OpenSpec.ofChange fnExactTwoOneOfSpec)

/-- ITS FALSE NEIGHBOUR: 'it returns false'. Refute it at one input. -/
def fnExactTwoOneOfWrong : ChangeSpec := { name := "fnExactTwoOneOf", fn := fun _ => fun
  | [d] => { results := [.lit (.bool false)], args := [d] }
  | _ => none }
def FnExactTwoOneOfWrongFalsely : Prop := fnExactTwoOneOfRow.holds Tryd.pinned (OpenSpec.ofChange fnExactTwoOneOfWrong)

/-- 'laws.FnExactIsWeak': WHATEVER THE INPUT: true; the input reads as it did. -/
def fnExactIsWeakSpec : ChangeSpec := { name := "fnExactIsWeak", fn := fun _ => fun
  | [d] => { results := [.lit (.bool true)], args := [d] }
  | _ => none }
def fnExactIsWeakRow : OpenClaim := { program := "ytnbgpelnihchoaadoor", sum := "d9e02d1a79f02ab7a7b9dc8349ecd8c2a51150e40e8cd5183dd3ac508e21b937", func := "loop.example/g01106/laws.FnExactIsWeak", spec := "fnExactIsWeak", named := ["math/bits.deBruijn32tab", "math/bits.deBruijn64tab"], apart := false, laid := [("math/bits.deBruijn32tab", laid_math_bits_deBruijn32tab), ("math/bits.deBruijn64tab", laid_math_bits_deBruijn64tab)] }
def FnExactIsWeakSaid : Prop := fnExactIsWeakRow.holds Tryd.pinned (OpenSpec.ofChange fnExactIsWeakSpec)

/-- ITS FALSE NEIGHBOUR: 'it returns false'. Refute it at one input. -/
def fnExactIsWeakWrong : ChangeSpec := { name := "fnExactIsWeak", fn := fun _ => fun
  | [d] => { results := [.lit (.bool false)], args := [d] }
  | _ => none }
def FnExactIsWeakWrongFalsely : Prop := fnExactIsWeakRow.holds Tryd.pinned (OpenSpec.ofChange fnExactIsWeakWrong)

/-- 'laws.FnExactWeakLevels': WHATEVER THE INPUT: true; the input reads as it did. -/
def fnExactWeakLevelsSpec : ChangeSpec := { name := "fnExactWeakLevels", fn := fun _ => fun
  | [d] => { results := [.lit (.bool true)], args := [d] }
  | _ => none }
def fnExactWeakLevelsRow : OpenClaim := { program := "ytnbgpelnihchoaadoor", sum := "d9e02d1a79f02ab7a7b9dc8349ecd8c2a51150e40e8cd5183dd3ac508e21b937", func := "loop.example/g01106/laws.FnExactWeakLevels", spec := "fnExactWeakLevels", unfollowed := true, recurses := true, named := ["math/bits.deBruijn32tab", "math/bits.deBruijn64tab"], apart := false, laid := [("math/bits.deBruijn32tab", laid_math_bits_deBruijn32tab), ("math/bits.deBruijn64tab", laid_math_bits_deBruijn64tab)] }
def FnExactWeakLevelsSaid : Prop := fnExactWeakLevelsRow.holds Tryd.pinned (OpenSpec.ofChange fnExactWeakLevelsSpec)

/-- ITS FALSE NEIGHBOUR: 'it returns false'. Refute it at one input. -/
def fnExactWeakLevelsWrong : ChangeSpec := { name := "fnExactWeakLevels", fn := fun _ => fun
  | [d] => { results := [.lit (.bool false)], args := [d] }
  | _ => none }
def FnExactWeakLevelsWrongFalsely : Prop := fnExactWeakLevelsRow.holds Tryd.pinned (OpenSpec.ofChange fnExactWeakLevelsWrong)

/-- 'laws.FnExactTraceOf': WHATEVER THE INPUT: true; the input reads as it did. -/
def fnExactTraceOfSpec : ChangeSpec := { name := "fnExactTraceOf", fn := fun _ => fun
  | [d] => { results := [.lit (.bool true)], args := [d] }
  | _ => none }
def fnExactTraceOfRow : OpenClaim := { program := "ytnbgpelnihchoaadoor", sum := "d9e02d1a79f02ab7a7b9dc8349ecd8c2a51150e40e8cd5183dd3ac508e21b937", func := "loop.example/g01106/laws.FnExactTraceOf", spec := "fnExactTraceOf", unfollowed := true, recurses := true, named := ["math/bits.deBruijn32tab", "math/bits.deBruijn64tab"], apart := false, laid := [("math/bits.deBruijn32tab", laid_math_bits_deBruijn32tab), ("math/bits.deBruijn64tab", laid_math_bits_deBruijn64tab)] }
def FnExactTraceOfSaid : Prop := fnExactTraceOfRow.holds Tryd.pinned (OpenSpec.ofChange fnExactTraceOfSpec)

/-- ITS FALSE NEIGHBOUR: 'it returns false'. Refute it at one input. -/
def fnExactTraceOfWrong : ChangeSpec := { name := "fnExactTraceOf", fn := fun _ => fun
  | [d] => { results := [.lit (.bool false)], args := [d] }
  | _ => none }
def FnExactTraceOfWrongFalsely : Prop := fnExactTraceOfRow.holds Tryd.pinned (OpenSpec.ofChange fnExactTraceOfWrong)

/- THE SECOND FORM. 'bulk': how many values and letters a reading holds, each counted each time it is reached (what is shared counts as often as it is met; a slice's spare places count too). A statement '..UptoSaid' is the law's where the arguments, and the package variables that the reading takes, are together of bulk at most 1048576: NARROWER than '..Said'. Prove '..Said' where nothing that the law and all that it calls make is longer than what came in: it says more and counts as full. Else prove '..UptoSaid'. A law counts once. -/
mutual
def uptoBulk {H : Type} : DataW H → Nat
  | .lit (.string bytes) => bytes.length + 1
  | .lit _ => 1
  | .nil => 1
  | .ptr d => uptoBulk d + 1
  | .slice elems spare => uptoBulkAll elems + uptoBulkAll spare + 1
  | .agg parts => uptoBulkAll parts + 1
  | .iface _ d => uptoBulk d + 1
  | .map entries => uptoBulkEntries entries + 1
  | .held _ => 1
def uptoBulkAll {H : Type} : List (DataW H) → Nat
  | [] => 0
  | d :: r => uptoBulk d + uptoBulkAll r
def uptoBulkEntries {H : Type} : List (Lit × DataW H) → Nat
  | [] => 0
  | x :: r => uptoBulkEntry x + uptoBulkEntries r
def uptoBulkEntry {H : Type} : Lit × DataW H → Nat
  | (.string bytes, d) => bytes.length + uptoBulk d + 1
  | (_, d) => uptoBulk d + 1
 end
def uptoSmall : (H : Type) → List (DataW H) → Bool := fun _ ds => decide (uptoBulkAll ds ≤ 1048576)
def OpenSpec.upto (s : _root_.Go.ChangeSpec) : _root_.Go.OpenSpec := { _root_.Go.OpenSpec.ofChange s with cond := some uptoSmall }

/-- 'laws.FnExactThreeOneOf', WHERE WHAT IT READS IS OF BULK AT MOST 1048576: true; the input reads as it did. -/
def fnExactThreeOneOfUptoRow : OpenClaim := { program := "ytnbgpelnihchoaadoor", sum := "d9e02d1a79f02ab7a7b9dc8349ecd8c2a51150e40e8cd5183dd3ac508e21b937", func := "loop.example/g01106/laws.FnExactThreeOneOf", spec := "fnExactThreeOneOf", named := ["math/bits.deBruijn32tab", "math/bits.deBruijn64tab"], apart := false, laid := [("math/bits.deBruijn32tab", laid_math_bits_deBruijn32tab), ("math/bits.deBruijn64tab", laid_math_bits_deBruijn64tab)], narrowed := true }
def FnExactThreeOneOfUptoSaid : Prop := fnExactThreeOneOfUptoRow.holds Tryd.pinned (OpenSpec.upto fnExactThreeOneOfSpec)

/-- 'laws.FnExactIsSemiorder', WHERE WHAT IT READS IS OF BULK AT MOST 1048576: true; the input reads as it did. -/
def fnExactIsSemiorderUptoRow : OpenClaim := { program := "ytnbgpelnihchoaadoor", sum := "d9e02d1a79f02ab7a7b9dc8349ecd8c2a51150e40e8cd5183dd3ac508e21b937", func := "loop.example/g01106/laws.FnExactIsSemiorder", spec := "fnExactIsSemiorder", named := ["math/bits.deBruijn32tab", "math/bits.deBruijn64tab"], apart := false, laid := [("math/bits.deBruijn32tab", laid_math_bits_deBruijn32tab), ("math/bits.deBruijn64tab", laid_math_bits_deBruijn64tab)], narrowed := true }
def FnExactIsSemiorderUptoSaid : Prop := fnExactIsSemiorderUptoRow.holds Tryd.pinned (OpenSpec.upto fnExactIsSemiorderSpec)

/-- 'laws.FnExactTraceList', WHERE WHAT IT READS IS OF BULK AT MOST 1048576: true; the input reads as it did. -/
def fnExactTraceListUptoRow : OpenClaim := { program := "ytnbgpelnihchoaadoor", sum := "d9e02d1a79f02ab7a7b9dc8349ecd8c2a51150e40e8cd5183dd3ac508e21b937", func := "loop.example/g01106/laws.FnExactTraceList", spec := "fnExactTraceList", unfollowed := true, recurses := true, named := ["math/bits.deBruijn32tab", "math/bits.deBruijn64tab"], apart := false, laid := [("math/bits.deBruijn32tab", laid_math_bits_deBruijn32tab), ("math/bits.deBruijn64tab", laid_math_bits_deBruijn64tab)], narrowed := true }
def FnExactTraceListUptoSaid : Prop := fnExactTraceListUptoRow.holds Tryd.pinned (OpenSpec.upto fnExactTraceListSpec)

/-- 'laws.FnExactStairOf', WHERE WHAT IT READS IS OF BULK AT MOST 1048576: true; the input reads as it did. -/
def fnExactStairOfUptoRow : OpenClaim := { program := "ytnbgpelnihchoaadoor", sum := "d9e02d1a79f02ab7a7b9dc8349ecd8c2a51150e40e8cd5183dd3ac508e21b937", func := "loop.example/g01106/laws.FnExactStairOf", spec := "fnExactStairOf", recurses := true, named := ["math/bits.deBruijn32tab", "math/bits.deBruijn64tab"], apart := false, laid := [("math/bits.deBruijn32tab", laid_math_bits_deBruijn32tab), ("math/bits.deBruijn64tab", laid_math_bits_deBruijn64tab)], narrowed := true }
def FnExactStairOfUptoSaid : Prop := fnExactStairOfUptoRow.holds Tryd.pinned (OpenSpec.upto fnExactStairOfSpec)

/-- 'laws.FnExactMirrorStair', WHERE WHAT IT READS IS OF BULK AT MOST 1048576: true; the input reads as it did. -/
def fnExactMirrorStairUptoRow : OpenClaim := { program := "ytnbgpelnihchoaadoor", sum := "d9e02d1a79f02ab7a7b9dc8349ecd8c2a51150e40e8cd5183dd3ac508e21b937", func := "loop.example/g01106/laws.FnExactMirrorStair", spec := "fnExactMirrorStair", recurses := true, named := ["math/bits.deBruijn32tab", "math/bits.deBruijn64tab"], apart := false, laid := [("math/bits.deBruijn32tab", laid_math_bits_deBruijn32tab), ("math/bits.deBruijn64tab", laid_math_bits_deBruijn64tab)], narrowed := true }
def FnExactMirrorStairUptoSaid : Prop := fnExactMirrorStairUptoRow.holds Tryd.pinned (OpenSpec.upto fnExactMirrorStairSpec)

/-- 'laws.FnExactTwoOneOf', WHERE WHAT IT READS IS OF BULK AT MOST 1048576: true; the input reads as it did. -/
def fnExactTwoOneOfUptoRow : OpenClaim := { program := "ytnbgpelnihchoaadoor", sum := "d9e02d1a79f02ab7a7b9dc8349ecd8c2a51150e40e8cd5183dd3ac508e21b937", func := "loop.example/g01106/laws.FnExactTwoOneOf", spec := "fnExactTwoOneOf", named := ["math/bits.deBruijn32tab", "math/bits.deBruijn64tab"], apart := false, laid := [("math/bits.deBruijn32tab", laid_math_bits_deBruijn32tab), ("math/bits.deBruijn64tab", laid_math_bits_deBruijn64tab)], narrowed := true }
def FnExactTwoOneOfUptoSaid : Prop := fnExactTwoOneOfUptoRow.holds Tryd.pinned (OpenSpec.upto fnExactTwoOneOfSpec)

/-- 'laws.FnExactIsWeak', WHERE WHAT IT READS IS OF BULK AT MOST 1048576: true; the input reads as it did. -/
def fnExactIsWeakUptoRow : OpenClaim := { program := "ytnbgpelnihchoaadoor", sum := "d9e02d1a79f02ab7a7b9dc8349ecd8c2a51150e40e8cd5183dd3ac508e21b937", func := "loop.example/g01106/laws.FnExactIsWeak", spec := "fnExactIsWeak", named := ["math/bits.deBruijn32tab", "math/bits.deBruijn64tab"], apart := false, laid := [("math/bits.deBruijn32tab", laid_math_bits_deBruijn32tab), ("math/bits.deBruijn64tab", laid_math_bits_deBruijn64tab)], narrowed := true }
def FnExactIsWeakUptoSaid : Prop := fnExactIsWeakUptoRow.holds Tryd.pinned (OpenSpec.upto fnExactIsWeakSpec)

/-- 'laws.FnExactWeakLevels', WHERE WHAT IT READS IS OF BULK AT MOST 1048576: true; the input reads as it did. -/
def fnExactWeakLevelsUptoRow : OpenClaim := { program := "ytnbgpelnihchoaadoor", sum := "d9e02d1a79f02ab7a7b9dc8349ecd8c2a51150e40e8cd5183dd3ac508e21b937", func := "loop.example/g01106/laws.FnExactWeakLevels", spec := "fnExactWeakLevels", unfollowed := true, recurses := true, named := ["math/bits.deBruijn32tab", "math/bits.deBruijn64tab"], apart := false, laid := [("math/bits.deBruijn32tab", laid_math_bits_deBruijn32tab), ("math/bits.deBruijn64tab", laid_math_bits_deBruijn64tab)], narrowed := true }
def FnExactWeakLevelsUptoSaid : Prop := fnExactWeakLevelsUptoRow.holds Tryd.pinned (OpenSpec.upto fnExactWeakLevelsSpec)

/-- 'laws.FnExactTraceOf', WHERE WHAT IT READS IS OF BULK AT MOST 1048576: true; the input reads as it did. -/
def fnExactTraceOfUptoRow : OpenClaim := { program := "ytnbgpelnihchoaadoor", sum := "d9e02d1a79f02ab7a7b9dc8349ecd8c2a51150e40e8cd5183dd3ac508e21b937", func := "loop.example/g01106/laws.FnExactTraceOf", spec := "fnExactTraceOf", unfollowed := true, recurses := true, named := ["math/bits.deBruijn32tab", "math/bits.deBruijn64tab"], apart := false, laid := [("math/bits.deBruijn32tab", laid_math_bits_deBruijn32tab), ("math/bits.deBruijn64tab", laid_math_bits_deBruijn64tab)], narrowed := true }
def FnExactTraceOfUptoSaid : Prop := fnExactTraceOfUptoRow.holds Tryd.pinned (OpenSpec.upto fnExactTraceOfSpec)

end Rows
end Go.Proofs.YtnbgpelnihchoaaDoor
