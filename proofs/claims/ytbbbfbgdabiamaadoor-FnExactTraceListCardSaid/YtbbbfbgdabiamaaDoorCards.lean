/-
  DERIVED. GIVEN WITH THE SEED: THE CARDS: each row of YtbbbfbgdabiamaaDoorRows.lean that lists a variable, with what it lists TIED to the program's text (the seventh form; the later family's looks); each row that meets fmt, with fmt's text TOLD by the authors' own Lean function (tested against real Go, not proved from fmt's source: count such statements apart). THE CARD IS WHAT COUNTS. Prove the row's statement (the work); the ties are given (YtbbbfbgdabiamaaDoorTie.lean); close each card by the builder's one call (the guide's Derived/Test/ToyasCard.lean, 'card_holds'). Laid BY PROGRAM, IN A SANDBOX (cutbox-door.mjs). By AI agents, Wed Nov 11 2026. No macro, syntax, notation, axiom, sorry.
-/
import Derived.Test.YtbbbfbgdabiamaaDoorRows
import GoSem.ClaimSeven
namespace Go.Proofs.YtbbbfbgdabiamaaDoor
namespace Rows

/-- THE TIED CARD OF 'laws.FnExactTraceList'. -/
def fnExactTraceListCard : Claim7 := { stood := { row := fnExactTraceListRow, standIns := [], harness := (true, "f7c12003b83cf9c499632a4f91977d7c950a85ad602e9e33ac9ca88f2831311d"), looks := false }, kinds := [], alts := [], laidByText := true, laidKinds := [.data, .data], laidTests := true, laidLooks := .later }
def FnExactTraceListCardSaid : Prop := Claim7.holds Tryd.pinned (.plain (OpenSpec.ofChange fnExactTraceListSpec)) fnExactTraceListCard

/-- THE SECOND FORM's CARD OF 'laws.FnExactTraceList'. -/
def fnExactTraceListUptoCard : Claim7 := { stood := { row := fnExactTraceListUptoRow, standIns := [], harness := (true, "f7c12003b83cf9c499632a4f91977d7c950a85ad602e9e33ac9ca88f2831311d"), looks := false }, kinds := [], alts := [], laidByText := true, laidKinds := [.data, .data], laidTests := true, laidLooks := .later }
def FnExactTraceListUptoCardSaid : Prop := Claim7.holds Tryd.pinned (.plain (OpenSpec.upto fnExactTraceListSpec)) fnExactTraceListUptoCard
end Rows
end Go.Proofs.YtbbbfbgdabiamaaDoor
