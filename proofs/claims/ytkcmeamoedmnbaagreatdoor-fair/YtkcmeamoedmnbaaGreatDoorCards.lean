/-
  DERIVED. GIVEN WITH THE SEED: THE CARDS: each row of YtkcmeamoedmnbaaGreatDoorRows.lean that lists a variable, with what it lists TIED to the program's text (the seventh form; the later family's looks); each row that meets fmt, with fmt's text TOLD by the authors' own Lean function (tested against real Go, not proved from fmt's source: count such statements apart). THE CARD IS WHAT COUNTS. Prove the row's statement (the work); the ties are given (YtkcmeamoedmnbaaGreatDoorTie.lean); close each card by the builder's one call (the guide's Derived/Test/ToyasCard.lean, 'card_holds'). Laid BY PROGRAM, IN A SANDBOX (cutbox-door.mjs). By AI agents, Wed Nov 11 2026. No macro, syntax, notation, axiom, sorry.
-/
import Derived.Test.YtkcmeamoedmnbaaGreatDoorRows
import GoSem.ClaimSeven
namespace Go.Proofs.YtkcmeamoedmnbaaGreatDoor
namespace Rows

/-- THE TIED CARD OF 'orderbooklaw.Telling'. -/
def tellingCard : Claim7 := { stood := { row := tellingRow, standIns := [], harness := (true, "bbfadfa03044ee14ea9f684f72b5dec716a834563eb6f093aea0383127aac52d"), looks := true }, kinds := [], alts := [], laidByText := true, laidKinds := [.handle, .data, .sentinel, .sentinel, .sentinel, .sentinel, .sentinel, .sentinel, .sentinel, .sentinel], laidTests := true, laidLooks := .later }
def TellingCardSaid : Prop := Claim7.holds Tryz.pinned (.plain (OpenSpec.ofChange tellingSpec)) tellingCard

/-- THE TIED CARD OF 'orderbookkeep.Fair'. -/
def fairCard : Claim7 := { stood := { row := fairRow, standIns := [], harness := (true, "bbfadfa03044ee14ea9f684f72b5dec716a834563eb6f093aea0383127aac52d"), looks := true }, kinds := [], alts := [], laidByText := true, laidKinds := [.handle, .data, .sentinel, .sentinel, .sentinel, .sentinel, .sentinel, .sentinel, .sentinel, .sentinel], laidTests := true, laidLooks := .later }
def FairCardSaid : Prop := Claim7.holds Tryz.pinned (.plain (OpenSpec.ofChange fairSpec)) fairCard

/-- THE SECOND FORM's CARD OF 'orderbooklaw.Telling'. -/
def tellingUptoCard : Claim7 := { stood := { row := tellingUptoRow, standIns := [], harness := (true, "bbfadfa03044ee14ea9f684f72b5dec716a834563eb6f093aea0383127aac52d"), looks := true }, kinds := [], alts := [], laidByText := true, laidKinds := [.handle, .data, .sentinel, .sentinel, .sentinel, .sentinel, .sentinel, .sentinel, .sentinel, .sentinel], laidTests := true, laidLooks := .later }
def TellingUptoCardSaid : Prop := Claim7.holds Tryz.pinned (.plain (OpenSpec.upto tellingSpec)) tellingUptoCard

/-- THE SECOND FORM's CARD OF 'orderbookkeep.Fair'. -/
def fairUptoCard : Claim7 := { stood := { row := fairUptoRow, standIns := [], harness := (true, "bbfadfa03044ee14ea9f684f72b5dec716a834563eb6f093aea0383127aac52d"), looks := true }, kinds := [], alts := [], laidByText := true, laidKinds := [.handle, .data, .sentinel, .sentinel, .sentinel, .sentinel, .sentinel, .sentinel, .sentinel, .sentinel], laidTests := true, laidLooks := .later }
def FairUptoCardSaid : Prop := Claim7.holds Tryz.pinned (.plain (OpenSpec.upto fairSpec)) fairUptoCard
end Rows
end Go.Proofs.YtkcmeamoedmnbaaGreatDoor
