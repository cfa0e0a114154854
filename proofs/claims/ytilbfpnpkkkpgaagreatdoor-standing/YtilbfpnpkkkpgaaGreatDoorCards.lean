/-
  DERIVED. GIVEN WITH THE SEED: THE CARDS: each row of YtilbfpnpkkkpgaaGreatDoorRows.lean that lists a variable, with what it lists TIED to the program's text (the seventh form; the later family's looks); each row that meets fmt, with fmt's text TOLD by the authors' own Lean function (tested against real Go, not proved from fmt's source: count such statements apart). THE CARD IS WHAT COUNTS. Prove the row's statement (the work); the ties are given (YtilbfpnpkkkpgaaGreatDoorTie.lean); close each card by the builder's one call (the guide's Derived/Test/ToyasCard.lean, 'card_holds'). Laid BY PROGRAM, IN A SANDBOX (cutbox-door.mjs). By AI agents, Wed Nov 11 2026. No macro, syntax, notation, axiom, sorry.
-/
import Derived.Test.YtilbfpnpkkkpgaaGreatDoorRows
import GoSem.ClaimSeven
namespace Go.Proofs.YtilbfpnpkkkpgaaGreatDoor
namespace Rows

/-- THE TIED CARD OF 'orderbooklaw.Flows'. -/
def flowsCard : Claim7 := { stood := { row := flowsRow, standIns := [], harness := (true, "e2e89bcdffd6ca880b876ebc1a6c4b9cf40f829f607db05db0a7e3fd6229f61a"), looks := true }, kinds := [], alts := [], laidByText := true, laidKinds := [.handle, .data, .sentinel, .sentinel, .sentinel, .sentinel, .sentinel, .sentinel, .sentinel, .sentinel], laidTests := true, laidLooks := .later }
def FlowsCardSaid : Prop := Claim7.holds Tryz.pinned (.plain (OpenSpec.ofChange flowsSpec)) flowsCard

/-- THE TIED CARD OF 'orderbooklaw.Standing'. -/
def standingCard : Claim7 := { stood := { row := standingRow, standIns := [], harness := (true, "e2e89bcdffd6ca880b876ebc1a6c4b9cf40f829f607db05db0a7e3fd6229f61a"), looks := true }, kinds := [], alts := [], laidByText := true, laidKinds := [.handle, .data, .sentinel, .sentinel, .sentinel, .sentinel, .sentinel, .sentinel, .sentinel, .sentinel], laidTests := true, laidLooks := .later }
def StandingCardSaid : Prop := Claim7.holds Tryz.pinned (.plain (OpenSpec.ofChange standingSpec)) standingCard

/-- THE TIED CARD OF 'orderbooklaw.Averages'. -/
def averagesCard : Claim7 := { stood := { row := averagesRow, standIns := [], harness := (true, "e2e89bcdffd6ca880b876ebc1a6c4b9cf40f829f607db05db0a7e3fd6229f61a"), looks := true }, kinds := [], alts := [], laidByText := true, laidKinds := [.handle, .data, .sentinel, .sentinel, .sentinel, .sentinel, .sentinel, .sentinel, .sentinel, .sentinel], laidTests := true, laidLooks := .later }
def AveragesCardSaid : Prop := Claim7.holds Tryz.pinned (.plain (OpenSpec.ofChange averagesSpec)) averagesCard

/-- THE SECOND FORM's CARD OF 'orderbooklaw.Flows'. -/
def flowsUptoCard : Claim7 := { stood := { row := flowsUptoRow, standIns := [], harness := (true, "e2e89bcdffd6ca880b876ebc1a6c4b9cf40f829f607db05db0a7e3fd6229f61a"), looks := true }, kinds := [], alts := [], laidByText := true, laidKinds := [.handle, .data, .sentinel, .sentinel, .sentinel, .sentinel, .sentinel, .sentinel, .sentinel, .sentinel], laidTests := true, laidLooks := .later }
def FlowsUptoCardSaid : Prop := Claim7.holds Tryz.pinned (.plain (OpenSpec.upto flowsSpec)) flowsUptoCard

/-- THE SECOND FORM's CARD OF 'orderbooklaw.Standing'. -/
def standingUptoCard : Claim7 := { stood := { row := standingUptoRow, standIns := [], harness := (true, "e2e89bcdffd6ca880b876ebc1a6c4b9cf40f829f607db05db0a7e3fd6229f61a"), looks := true }, kinds := [], alts := [], laidByText := true, laidKinds := [.handle, .data, .sentinel, .sentinel, .sentinel, .sentinel, .sentinel, .sentinel, .sentinel, .sentinel], laidTests := true, laidLooks := .later }
def StandingUptoCardSaid : Prop := Claim7.holds Tryz.pinned (.plain (OpenSpec.upto standingSpec)) standingUptoCard

/-- THE SECOND FORM's CARD OF 'orderbooklaw.Averages'. -/
def averagesUptoCard : Claim7 := { stood := { row := averagesUptoRow, standIns := [], harness := (true, "e2e89bcdffd6ca880b876ebc1a6c4b9cf40f829f607db05db0a7e3fd6229f61a"), looks := true }, kinds := [], alts := [], laidByText := true, laidKinds := [.handle, .data, .sentinel, .sentinel, .sentinel, .sentinel, .sentinel, .sentinel, .sentinel, .sentinel], laidTests := true, laidLooks := .later }
def AveragesUptoCardSaid : Prop := Claim7.holds Tryz.pinned (.plain (OpenSpec.upto averagesSpec)) averagesUptoCard
end Rows
end Go.Proofs.YtilbfpnpkkkpgaaGreatDoor
