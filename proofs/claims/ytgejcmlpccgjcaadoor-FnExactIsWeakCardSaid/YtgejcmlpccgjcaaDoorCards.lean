/-
  DERIVED. GIVEN WITH THE SEED: THE CARDS: each row of YtgejcmlpccgjcaaDoorRows.lean that lists a variable, with what it lists TIED to the program's text (the seventh form; the later family's looks); each row that meets fmt, with fmt's text TOLD by the authors' own Lean function (tested against real Go, not proved from fmt's source: count such statements apart). THE CARD IS WHAT COUNTS. Prove the row's statement (the work); the ties are given (YtgejcmlpccgjcaaDoorTie.lean); close each card by the builder's one call (the guide's Derived/Test/ToyasCard.lean, 'card_holds'). Laid BY PROGRAM, IN A SANDBOX (cutbox-door.mjs). By AI agents, Wed Nov 11 2026. No macro, syntax, notation, axiom, sorry.
-/
import Derived.Test.YtgejcmlpccgjcaaDoorRows
import GoSem.ClaimSeven
namespace Go.Proofs.YtgejcmlpccgjcaaDoor
namespace Rows

/-- THE TIED CARD OF 'laws.FnExactTwoOneOf'. -/
def fnExactTwoOneOfCard : Claim7 := { stood := { row := fnExactTwoOneOfRow, standIns := [], harness := (true, "14e41f22d822cfb2a3e19eac7f11f7e840e37bc923cd684fbaaf30cce58d1ed7"), looks := false }, kinds := [], alts := [], laidByText := true, laidKinds := [.data, .data], laidTests := true, laidLooks := .later }
def FnExactTwoOneOfCardSaid : Prop := Claim7.holds Tryd.pinned (.plain (OpenSpec.ofChange fnExactTwoOneOfSpec)) fnExactTwoOneOfCard

/-- THE TIED CARD OF 'laws.FnExactIsWeak'. -/
def fnExactIsWeakCard : Claim7 := { stood := { row := fnExactIsWeakRow, standIns := [], harness := (true, "14e41f22d822cfb2a3e19eac7f11f7e840e37bc923cd684fbaaf30cce58d1ed7"), looks := false }, kinds := [], alts := [], laidByText := true, laidKinds := [.data, .data], laidTests := true, laidLooks := .later }
def FnExactIsWeakCardSaid : Prop := Claim7.holds Tryd.pinned (.plain (OpenSpec.ofChange fnExactIsWeakSpec)) fnExactIsWeakCard

/-- THE SECOND FORM's CARD OF 'laws.FnExactTwoOneOf'. -/
def fnExactTwoOneOfUptoCard : Claim7 := { stood := { row := fnExactTwoOneOfUptoRow, standIns := [], harness := (true, "14e41f22d822cfb2a3e19eac7f11f7e840e37bc923cd684fbaaf30cce58d1ed7"), looks := false }, kinds := [], alts := [], laidByText := true, laidKinds := [.data, .data], laidTests := true, laidLooks := .later }
def FnExactTwoOneOfUptoCardSaid : Prop := Claim7.holds Tryd.pinned (.plain (OpenSpec.upto fnExactTwoOneOfSpec)) fnExactTwoOneOfUptoCard

/-- THE SECOND FORM's CARD OF 'laws.FnExactIsWeak'. -/
def fnExactIsWeakUptoCard : Claim7 := { stood := { row := fnExactIsWeakUptoRow, standIns := [], harness := (true, "14e41f22d822cfb2a3e19eac7f11f7e840e37bc923cd684fbaaf30cce58d1ed7"), looks := false }, kinds := [], alts := [], laidByText := true, laidKinds := [.data, .data], laidTests := true, laidLooks := .later }
def FnExactIsWeakUptoCardSaid : Prop := Claim7.holds Tryd.pinned (.plain (OpenSpec.upto fnExactIsWeakSpec)) fnExactIsWeakUptoCard
end Rows
end Go.Proofs.YtgejcmlpccgjcaaDoor
