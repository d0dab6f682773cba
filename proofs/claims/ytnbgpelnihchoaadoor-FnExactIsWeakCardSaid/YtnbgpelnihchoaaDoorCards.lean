/-
  DERIVED. GIVEN WITH THE SEED: THE CARDS: each row of YtnbgpelnihchoaaDoorRows.lean that lists a variable, with what it lists TIED to the program's text (the seventh form; the later family's looks); each row that meets fmt, with fmt's text TOLD by the authors' own Lean function (tested against real Go, not proved from fmt's source: count such statements apart). THE CARD IS WHAT COUNTS. Prove the row's statement (the work); the ties are given (YtnbgpelnihchoaaDoorTie.lean); close each card by the builder's one call (the guide's Derived/Test/ToyasCard.lean, 'card_holds'). Laid BY PROGRAM, IN A SANDBOX (cutbox-door.mjs). By AI agents, Wed Nov 11 2026. No macro, syntax, notation, axiom, sorry.
-/
import Derived.Test.YtnbgpelnihchoaaDoorRows
import GoSem.ClaimSeven
namespace Go.Proofs.YtnbgpelnihchoaaDoor
namespace Rows

/-- THE TIED CARD OF 'laws.FnExactThreeOneOf'. -/
def fnExactThreeOneOfCard : Claim7 := { stood := { row := fnExactThreeOneOfRow, standIns := [], harness := (true, "3596323d4857f30e5647df292cac60f5e29f405aefffd9c7090b473aa61c8bd3"), looks := false }, kinds := [], alts := [], laidByText := true, laidKinds := [.data, .data], laidTests := true, laidLooks := .later }
def FnExactThreeOneOfCardSaid : Prop := Claim7.holds Tryd.pinned (.plain (OpenSpec.ofChange fnExactThreeOneOfSpec)) fnExactThreeOneOfCard

/-- THE TIED CARD OF 'laws.FnExactIsSemiorder'. -/
def fnExactIsSemiorderCard : Claim7 := { stood := { row := fnExactIsSemiorderRow, standIns := [], harness := (true, "3596323d4857f30e5647df292cac60f5e29f405aefffd9c7090b473aa61c8bd3"), looks := false }, kinds := [], alts := [], laidByText := true, laidKinds := [.data, .data], laidTests := true, laidLooks := .later }
def FnExactIsSemiorderCardSaid : Prop := Claim7.holds Tryd.pinned (.plain (OpenSpec.ofChange fnExactIsSemiorderSpec)) fnExactIsSemiorderCard

/-- THE TIED CARD OF 'laws.FnExactTraceList'. -/
def fnExactTraceListCard : Claim7 := { stood := { row := fnExactTraceListRow, standIns := [], harness := (true, "3596323d4857f30e5647df292cac60f5e29f405aefffd9c7090b473aa61c8bd3"), looks := false }, kinds := [], alts := [], laidByText := true, laidKinds := [.data, .data], laidTests := true, laidLooks := .later }
def FnExactTraceListCardSaid : Prop := Claim7.holds Tryd.pinned (.plain (OpenSpec.ofChange fnExactTraceListSpec)) fnExactTraceListCard

/-- THE TIED CARD OF 'laws.FnExactStairOf'. -/
def fnExactStairOfCard : Claim7 := { stood := { row := fnExactStairOfRow, standIns := [], harness := (true, "3596323d4857f30e5647df292cac60f5e29f405aefffd9c7090b473aa61c8bd3"), looks := false }, kinds := [], alts := [], laidByText := true, laidKinds := [.data, .data], laidTests := true, laidLooks := .later }
def FnExactStairOfCardSaid : Prop := Claim7.holds Tryd.pinned (.plain (OpenSpec.ofChange fnExactStairOfSpec)) fnExactStairOfCard

/-- THE TIED CARD OF 'laws.FnExactMirrorStair'. -/
def fnExactMirrorStairCard : Claim7 := { stood := { row := fnExactMirrorStairRow, standIns := [], harness := (true, "3596323d4857f30e5647df292cac60f5e29f405aefffd9c7090b473aa61c8bd3"), looks := false }, kinds := [], alts := [], laidByText := true, laidKinds := [.data, .data], laidTests := true, laidLooks := .later }
def FnExactMirrorStairCardSaid : Prop := Claim7.holds Tryd.pinned (.plain (OpenSpec.ofChange fnExactMirrorStairSpec)) fnExactMirrorStairCard

/-- THE TIED CARD OF 'laws.FnExactTwoOneOf'. -/
def fnExactTwoOneOfCard : Claim7 := { stood := { row := fnExactTwoOneOfRow, standIns := [], harness := (true, "3596323d4857f30e5647df292cac60f5e29f405aefffd9c7090b473aa61c8bd3"), looks := false }, kinds := [], alts := [], laidByText := true, laidKinds := [.data, .data], laidTests := true, laidLooks := .later }
def FnExactTwoOneOfCardSaid : Prop := Claim7.holds Tryd.pinned (.plain (OpenSpec.ofChange fnExactTwoOneOfSpec)) fnExactTwoOneOfCard

/-- THE TIED CARD OF 'laws.FnExactIsWeak'. -/
def fnExactIsWeakCard : Claim7 := { stood := { row := fnExactIsWeakRow, standIns := [], harness := (true, "3596323d4857f30e5647df292cac60f5e29f405aefffd9c7090b473aa61c8bd3"), looks := false }, kinds := [], alts := [], laidByText := true, laidKinds := [.data, .data], laidTests := true, laidLooks := .later }
def FnExactIsWeakCardSaid : Prop := Claim7.holds Tryd.pinned (.plain (OpenSpec.ofChange fnExactIsWeakSpec)) fnExactIsWeakCard

/-- THE TIED CARD OF 'laws.FnExactWeakLevels'. -/
def fnExactWeakLevelsCard : Claim7 := { stood := { row := fnExactWeakLevelsRow, standIns := [], harness := (true, "3596323d4857f30e5647df292cac60f5e29f405aefffd9c7090b473aa61c8bd3"), looks := false }, kinds := [], alts := [], laidByText := true, laidKinds := [.data, .data], laidTests := true, laidLooks := .later }
def FnExactWeakLevelsCardSaid : Prop := Claim7.holds Tryd.pinned (.plain (OpenSpec.ofChange fnExactWeakLevelsSpec)) fnExactWeakLevelsCard

/-- THE TIED CARD OF 'laws.FnExactTraceOf'. -/
def fnExactTraceOfCard : Claim7 := { stood := { row := fnExactTraceOfRow, standIns := [], harness := (true, "3596323d4857f30e5647df292cac60f5e29f405aefffd9c7090b473aa61c8bd3"), looks := false }, kinds := [], alts := [], laidByText := true, laidKinds := [.data, .data], laidTests := true, laidLooks := .later }
def FnExactTraceOfCardSaid : Prop := Claim7.holds Tryd.pinned (.plain (OpenSpec.ofChange fnExactTraceOfSpec)) fnExactTraceOfCard

/-- THE SECOND FORM's CARD OF 'laws.FnExactThreeOneOf'. -/
def fnExactThreeOneOfUptoCard : Claim7 := { stood := { row := fnExactThreeOneOfUptoRow, standIns := [], harness := (true, "3596323d4857f30e5647df292cac60f5e29f405aefffd9c7090b473aa61c8bd3"), looks := false }, kinds := [], alts := [], laidByText := true, laidKinds := [.data, .data], laidTests := true, laidLooks := .later }
def FnExactThreeOneOfUptoCardSaid : Prop := Claim7.holds Tryd.pinned (.plain (OpenSpec.upto fnExactThreeOneOfSpec)) fnExactThreeOneOfUptoCard

/-- THE SECOND FORM's CARD OF 'laws.FnExactIsSemiorder'. -/
def fnExactIsSemiorderUptoCard : Claim7 := { stood := { row := fnExactIsSemiorderUptoRow, standIns := [], harness := (true, "3596323d4857f30e5647df292cac60f5e29f405aefffd9c7090b473aa61c8bd3"), looks := false }, kinds := [], alts := [], laidByText := true, laidKinds := [.data, .data], laidTests := true, laidLooks := .later }
def FnExactIsSemiorderUptoCardSaid : Prop := Claim7.holds Tryd.pinned (.plain (OpenSpec.upto fnExactIsSemiorderSpec)) fnExactIsSemiorderUptoCard

/-- THE SECOND FORM's CARD OF 'laws.FnExactTraceList'. -/
def fnExactTraceListUptoCard : Claim7 := { stood := { row := fnExactTraceListUptoRow, standIns := [], harness := (true, "3596323d4857f30e5647df292cac60f5e29f405aefffd9c7090b473aa61c8bd3"), looks := false }, kinds := [], alts := [], laidByText := true, laidKinds := [.data, .data], laidTests := true, laidLooks := .later }
def FnExactTraceListUptoCardSaid : Prop := Claim7.holds Tryd.pinned (.plain (OpenSpec.upto fnExactTraceListSpec)) fnExactTraceListUptoCard

/-- THE SECOND FORM's CARD OF 'laws.FnExactStairOf'. -/
def fnExactStairOfUptoCard : Claim7 := { stood := { row := fnExactStairOfUptoRow, standIns := [], harness := (true, "3596323d4857f30e5647df292cac60f5e29f405aefffd9c7090b473aa61c8bd3"), looks := false }, kinds := [], alts := [], laidByText := true, laidKinds := [.data, .data], laidTests := true, laidLooks := .later }
def FnExactStairOfUptoCardSaid : Prop := Claim7.holds Tryd.pinned (.plain (OpenSpec.upto fnExactStairOfSpec)) fnExactStairOfUptoCard

/-- THE SECOND FORM's CARD OF 'laws.FnExactMirrorStair'. -/
def fnExactMirrorStairUptoCard : Claim7 := { stood := { row := fnExactMirrorStairUptoRow, standIns := [], harness := (true, "3596323d4857f30e5647df292cac60f5e29f405aefffd9c7090b473aa61c8bd3"), looks := false }, kinds := [], alts := [], laidByText := true, laidKinds := [.data, .data], laidTests := true, laidLooks := .later }
def FnExactMirrorStairUptoCardSaid : Prop := Claim7.holds Tryd.pinned (.plain (OpenSpec.upto fnExactMirrorStairSpec)) fnExactMirrorStairUptoCard

/-- THE SECOND FORM's CARD OF 'laws.FnExactTwoOneOf'. -/
def fnExactTwoOneOfUptoCard : Claim7 := { stood := { row := fnExactTwoOneOfUptoRow, standIns := [], harness := (true, "3596323d4857f30e5647df292cac60f5e29f405aefffd9c7090b473aa61c8bd3"), looks := false }, kinds := [], alts := [], laidByText := true, laidKinds := [.data, .data], laidTests := true, laidLooks := .later }
def FnExactTwoOneOfUptoCardSaid : Prop := Claim7.holds Tryd.pinned (.plain (OpenSpec.upto fnExactTwoOneOfSpec)) fnExactTwoOneOfUptoCard

/-- THE SECOND FORM's CARD OF 'laws.FnExactIsWeak'. -/
def fnExactIsWeakUptoCard : Claim7 := { stood := { row := fnExactIsWeakUptoRow, standIns := [], harness := (true, "3596323d4857f30e5647df292cac60f5e29f405aefffd9c7090b473aa61c8bd3"), looks := false }, kinds := [], alts := [], laidByText := true, laidKinds := [.data, .data], laidTests := true, laidLooks := .later }
def FnExactIsWeakUptoCardSaid : Prop := Claim7.holds Tryd.pinned (.plain (OpenSpec.upto fnExactIsWeakSpec)) fnExactIsWeakUptoCard

/-- THE SECOND FORM's CARD OF 'laws.FnExactWeakLevels'. -/
def fnExactWeakLevelsUptoCard : Claim7 := { stood := { row := fnExactWeakLevelsUptoRow, standIns := [], harness := (true, "3596323d4857f30e5647df292cac60f5e29f405aefffd9c7090b473aa61c8bd3"), looks := false }, kinds := [], alts := [], laidByText := true, laidKinds := [.data, .data], laidTests := true, laidLooks := .later }
def FnExactWeakLevelsUptoCardSaid : Prop := Claim7.holds Tryd.pinned (.plain (OpenSpec.upto fnExactWeakLevelsSpec)) fnExactWeakLevelsUptoCard

/-- THE SECOND FORM's CARD OF 'laws.FnExactTraceOf'. -/
def fnExactTraceOfUptoCard : Claim7 := { stood := { row := fnExactTraceOfUptoRow, standIns := [], harness := (true, "3596323d4857f30e5647df292cac60f5e29f405aefffd9c7090b473aa61c8bd3"), looks := false }, kinds := [], alts := [], laidByText := true, laidKinds := [.data, .data], laidTests := true, laidLooks := .later }
def FnExactTraceOfUptoCardSaid : Prop := Claim7.holds Tryd.pinned (.plain (OpenSpec.upto fnExactTraceOfSpec)) fnExactTraceOfUptoCard
end Rows
end Go.Proofs.YtnbgpelnihchoaaDoor
