/-
  DERIVED. GIVEN WITH THE SEED: THE CARDS: each row of YtanfmhonjpjpoaaGreatDoorRows.lean that lists a variable, with what it lists TIED to the program's text (the seventh form; the later family's looks); each row that meets fmt, with fmt's text TOLD by the authors' own Lean function (tested against real Go, not proved from fmt's source: count such statements apart). THE CARD IS WHAT COUNTS. Prove the row's statement (the work); the ties are given (YtanfmhonjpjpoaaGreatDoorTie.lean); close each card by the builder's one call (the guide's Derived/Test/ToyasCard.lean, 'card_holds'). Laid BY PROGRAM, IN A SANDBOX (cutbox-door.mjs). By AI agents, Wed Nov 11 2026. No macro, syntax, notation, axiom, sorry.
-/
import Derived.Test.YtanfmhonjpjpoaaGreatDoorRows
import GoSem.ClaimSeven
namespace Go.Proofs.YtanfmhonjpjpoaaGreatDoor
namespace Rows

/-- THE TIED CARD OF 'orderbooklaw.Telling'. -/
def tellingCard : Claim7 := { stood := { row := tellingRow, standIns := [], harness := (true, "ba089df535d814372fb8e864a9aa87426ca26846f337139202fa1b133f270f0b"), looks := true }, kinds := [], alts := [], laidByText := true, laidKinds := [.handle, .data, .sentinel, .sentinel, .sentinel, .sentinel, .sentinel, .sentinel, .sentinel, .sentinel], laidTests := true, laidLooks := .later }
def TellingCardSaid : Prop := Claim7.holds Tryz.pinned (.plain (OpenSpec.ofChange tellingSpec)) tellingCard

/-- THE TIED CARD OF 'orderbookkeep.Fair'. -/
def fairCard : Claim7 := { stood := { row := fairRow, standIns := [], harness := (true, "ba089df535d814372fb8e864a9aa87426ca26846f337139202fa1b133f270f0b"), looks := true }, kinds := [], alts := [], laidByText := true, laidKinds := [.handle, .data, .sentinel, .sentinel, .sentinel, .sentinel, .sentinel, .sentinel, .sentinel, .sentinel], laidTests := true, laidLooks := .later }
def FairCardSaid : Prop := Claim7.holds Tryz.pinned (.plain (OpenSpec.ofChange fairSpec)) fairCard

/-- THE TIED CARD OF 'orderbookkeep.Agree'. -/
def agreeCard : Claim7 := { stood := { row := agreeRow, standIns := [], harness := (true, "ba089df535d814372fb8e864a9aa87426ca26846f337139202fa1b133f270f0b"), looks := true }, kinds := [], alts := [], laidByText := true, laidKinds := [.handle, .data, .sentinel, .sentinel, .sentinel, .sentinel, .sentinel, .sentinel, .sentinel, .sentinel], laidTests := true, laidLooks := .later }
def AgreeCardSaid : Prop := Claim7.holds Tryz.pinned (.plain (OpenSpec.ofChange agreeSpec)) agreeCard

/-- THE SECOND FORM's CARD OF 'orderbooklaw.Telling'. -/
def tellingUptoCard : Claim7 := { stood := { row := tellingUptoRow, standIns := [], harness := (true, "ba089df535d814372fb8e864a9aa87426ca26846f337139202fa1b133f270f0b"), looks := true }, kinds := [], alts := [], laidByText := true, laidKinds := [.handle, .data, .sentinel, .sentinel, .sentinel, .sentinel, .sentinel, .sentinel, .sentinel, .sentinel], laidTests := true, laidLooks := .later }
def TellingUptoCardSaid : Prop := Claim7.holds Tryz.pinned (.plain (OpenSpec.upto tellingSpec)) tellingUptoCard

/-- THE SECOND FORM's CARD OF 'orderbookkeep.Fair'. -/
def fairUptoCard : Claim7 := { stood := { row := fairUptoRow, standIns := [], harness := (true, "ba089df535d814372fb8e864a9aa87426ca26846f337139202fa1b133f270f0b"), looks := true }, kinds := [], alts := [], laidByText := true, laidKinds := [.handle, .data, .sentinel, .sentinel, .sentinel, .sentinel, .sentinel, .sentinel, .sentinel, .sentinel], laidTests := true, laidLooks := .later }
def FairUptoCardSaid : Prop := Claim7.holds Tryz.pinned (.plain (OpenSpec.upto fairSpec)) fairUptoCard

/-- THE SECOND FORM's CARD OF 'orderbookkeep.Agree'. -/
def agreeUptoCard : Claim7 := { stood := { row := agreeUptoRow, standIns := [], harness := (true, "ba089df535d814372fb8e864a9aa87426ca26846f337139202fa1b133f270f0b"), looks := true }, kinds := [], alts := [], laidByText := true, laidKinds := [.handle, .data, .sentinel, .sentinel, .sentinel, .sentinel, .sentinel, .sentinel, .sentinel, .sentinel], laidTests := true, laidLooks := .later }
def AgreeUptoCardSaid : Prop := Claim7.holds Tryz.pinned (.plain (OpenSpec.upto agreeSpec)) agreeUptoCard
end Rows
end Go.Proofs.YtanfmhonjpjpoaaGreatDoor
