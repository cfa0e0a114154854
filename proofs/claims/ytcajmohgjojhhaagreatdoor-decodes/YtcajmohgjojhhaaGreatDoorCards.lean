/-
  DERIVED. GIVEN WITH THE SEED: THE CARDS: each row of YtcajmohgjojhhaaGreatDoorRows.lean that lists a variable, with what it lists TIED to the program's text (the seventh form; the later family's looks); each row that meets fmt, with fmt's text TOLD by the authors' own Lean function (tested against real Go, not proved from fmt's source: count such statements apart). THE CARD IS WHAT COUNTS. Prove the row's statement (the work); the ties are given (YtcajmohgjojhhaaGreatDoorTie.lean); close each card by the builder's one call (the guide's Derived/Test/ToyasCard.lean, 'card_holds'). Laid BY PROGRAM, IN A SANDBOX (cutbox-door.mjs). By AI agents, Wed Nov 11 2026. No macro, syntax, notation, axiom, sorry.
-/
import Derived.Test.YtcajmohgjojhhaaGreatDoorRows
import GoSem.ClaimSeven
namespace Go.Proofs.YtcajmohgjojhhaaGreatDoor
namespace Rows

/-- THE TIED CARD OF 'orderbooklaw.Encodes'. -/
def encodesCard : Claim7 := { stood := { row := encodesRow, standIns := [], harness := (true, "826b2c5772f74bc2a34d8bab967570596b845aaa7efe7ebdf31a020db00f5581"), looks := true }, kinds := [], alts := [], laidByText := true, laidKinds := [.handle, .data, .sentinel, .sentinel, .sentinel, .sentinel, .sentinel, .sentinel, .sentinel, .sentinel], laidTests := true, laidLooks := .later }
def EncodesCardSaid : Prop := Claim7.holds Tryz.pinned (.plain (OpenSpec.ofChange encodesSpec)) encodesCard

/-- THE TIED CARD OF 'orderbooklaw.Decodes'. -/
def decodesCard : Claim7 := { stood := { row := decodesRow, standIns := [], harness := (true, "826b2c5772f74bc2a34d8bab967570596b845aaa7efe7ebdf31a020db00f5581"), looks := true }, kinds := [], alts := [], laidByText := true, laidKinds := [.handle, .data, .sentinel, .sentinel, .sentinel, .sentinel, .sentinel, .sentinel, .sentinel, .sentinel], laidTests := true, laidLooks := .later }
def DecodesCardSaid : Prop := Claim7.holds Tryz.pinned (.plain (OpenSpec.ofChange decodesSpec)) decodesCard

/-- THE TIED CARD OF 'orderbooklaw.Telling'. -/
def tellingCard : Claim7 := { stood := { row := tellingRow, standIns := [], harness := (true, "826b2c5772f74bc2a34d8bab967570596b845aaa7efe7ebdf31a020db00f5581"), looks := true }, kinds := [], alts := [], laidByText := true, laidKinds := [.handle, .data, .sentinel, .sentinel, .sentinel, .sentinel, .sentinel, .sentinel, .sentinel, .sentinel], laidTests := true, laidLooks := .later }
def TellingCardSaid : Prop := Claim7.holds Tryz.pinned (.plain (OpenSpec.ofChange tellingSpec)) tellingCard

/-- THE TIED CARD OF 'orderbooklaw.Audits'. -/
def auditsCard : Claim7 := { stood := { row := auditsRow, standIns := [], harness := (true, "826b2c5772f74bc2a34d8bab967570596b845aaa7efe7ebdf31a020db00f5581"), looks := true }, kinds := [], alts := [], laidByText := true, laidKinds := [.handle, .data, .sentinel, .sentinel, .sentinel, .sentinel, .sentinel, .sentinel, .sentinel, .sentinel], laidTests := true, laidLooks := .later }
def AuditsCardSaid : Prop := Claim7.holds Tryz.pinned (.plain (OpenSpec.ofChange auditsSpec)) auditsCard

/-- THE SECOND FORM's CARD OF 'orderbooklaw.Encodes'. -/
def encodesUptoCard : Claim7 := { stood := { row := encodesUptoRow, standIns := [], harness := (true, "826b2c5772f74bc2a34d8bab967570596b845aaa7efe7ebdf31a020db00f5581"), looks := true }, kinds := [], alts := [], laidByText := true, laidKinds := [.handle, .data, .sentinel, .sentinel, .sentinel, .sentinel, .sentinel, .sentinel, .sentinel, .sentinel], laidTests := true, laidLooks := .later }
def EncodesUptoCardSaid : Prop := Claim7.holds Tryz.pinned (.plain (OpenSpec.upto encodesSpec)) encodesUptoCard

/-- THE SECOND FORM's CARD OF 'orderbooklaw.Decodes'. -/
def decodesUptoCard : Claim7 := { stood := { row := decodesUptoRow, standIns := [], harness := (true, "826b2c5772f74bc2a34d8bab967570596b845aaa7efe7ebdf31a020db00f5581"), looks := true }, kinds := [], alts := [], laidByText := true, laidKinds := [.handle, .data, .sentinel, .sentinel, .sentinel, .sentinel, .sentinel, .sentinel, .sentinel, .sentinel], laidTests := true, laidLooks := .later }
def DecodesUptoCardSaid : Prop := Claim7.holds Tryz.pinned (.plain (OpenSpec.upto decodesSpec)) decodesUptoCard

/-- THE SECOND FORM's CARD OF 'orderbooklaw.Telling'. -/
def tellingUptoCard : Claim7 := { stood := { row := tellingUptoRow, standIns := [], harness := (true, "826b2c5772f74bc2a34d8bab967570596b845aaa7efe7ebdf31a020db00f5581"), looks := true }, kinds := [], alts := [], laidByText := true, laidKinds := [.handle, .data, .sentinel, .sentinel, .sentinel, .sentinel, .sentinel, .sentinel, .sentinel, .sentinel], laidTests := true, laidLooks := .later }
def TellingUptoCardSaid : Prop := Claim7.holds Tryz.pinned (.plain (OpenSpec.upto tellingSpec)) tellingUptoCard

/-- THE SECOND FORM's CARD OF 'orderbooklaw.Audits'. -/
def auditsUptoCard : Claim7 := { stood := { row := auditsUptoRow, standIns := [], harness := (true, "826b2c5772f74bc2a34d8bab967570596b845aaa7efe7ebdf31a020db00f5581"), looks := true }, kinds := [], alts := [], laidByText := true, laidKinds := [.handle, .data, .sentinel, .sentinel, .sentinel, .sentinel, .sentinel, .sentinel, .sentinel, .sentinel], laidTests := true, laidLooks := .later }
def AuditsUptoCardSaid : Prop := Claim7.holds Tryz.pinned (.plain (OpenSpec.upto auditsSpec)) auditsUptoCard
end Rows
end Go.Proofs.YtcajmohgjojhhaaGreatDoor
