/-
  DERIVED. GIVEN WITH THE SEED: THE PROGRAM's TIES (one call each: nine closed facts by the kernel) AND EACH ROW's TIE, after the 31st guide's Derived/Test/Toyas{Tie, Card}.lean. No idea stands in it: it is a product of the set-up. Laid BY PROGRAM, IN A SANDBOX (cutbox-door.mjs). By AI agents, Wed Nov 11 2026. No macro, syntax, notation, axiom, sorry.
-/
import Derived.Test.YtanfmhonjpjpoaaGreatDoorRows
import Derived.LaidByTextLater
import Derived.SevenTiedAt
import Derived.LaidSub
import Derived.LaidOnce
namespace Go.Proofs.YtanfmhonjpjpoaaGreatDoor
open Go
set_option maxRecDepth 100000
theorem seatTie1 : Tryz.prog.laidByTextLater [("errors.errorType", Rows.laid_errors_errorType), ("orderbook/orderbook.termWidths", Rows.laid_orderbook_orderbook_termWidths), ("orderbook/orderbook.ErrConfig", Rows.laid_orderbook_orderbook_ErrConfig), ("orderbook/orderbook.ErrKind", Rows.laid_orderbook_orderbook_ErrKind), ("orderbook/orderbook.ErrRange", Rows.laid_orderbook_orderbook_ErrRange), ("orderbook/orderbook.ErrShort", Rows.laid_orderbook_orderbook_ErrShort), ("orderbook/orderbook.ErrFrame", Rows.laid_orderbook_orderbook_ErrFrame), ("orderbook/orderbook.ErrRecord", Rows.laid_orderbook_orderbook_ErrRecord), ("orderbook/orderbook.ErrGap", Rows.laid_orderbook_orderbook_ErrGap), ("orderbook/orderbook.ErrBroken", Rows.laid_orderbook_orderbook_ErrBroken)] [.handle, .data, .sentinel, .sentinel, .sentinel, .sentinel, .sentinel, .sentinel, .sentinel, .sentinel] true :=
  Program.laidByTextLater_by_one 173 8 10 (by kernel_rfl) (by kernel_rfl) (by kernel_rfl) (by kernel_rfl) (by kernel_rfl) (by kernel_rfl) (fun _ _ => by kernel_rfl)
theorem noOwnUnsafe : Tryz.pinned.checked.prog.headLifts.contains "ownunsafe" = false := by kernel_rfl
theorem tie : Tryz.prog.laidByTextLater [("errors.errorType", Rows.laid_errors_errorType), ("orderbook/orderbook.termWidths", Rows.laid_orderbook_orderbook_termWidths), ("orderbook/orderbook.ErrConfig", Rows.laid_orderbook_orderbook_ErrConfig), ("orderbook/orderbook.ErrKind", Rows.laid_orderbook_orderbook_ErrKind), ("orderbook/orderbook.ErrRange", Rows.laid_orderbook_orderbook_ErrRange), ("orderbook/orderbook.ErrShort", Rows.laid_orderbook_orderbook_ErrShort), ("orderbook/orderbook.ErrFrame", Rows.laid_orderbook_orderbook_ErrFrame), ("orderbook/orderbook.ErrRecord", Rows.laid_orderbook_orderbook_ErrRecord), ("orderbook/orderbook.ErrGap", Rows.laid_orderbook_orderbook_ErrGap), ("orderbook/orderbook.ErrBroken", Rows.laid_orderbook_orderbook_ErrBroken)] [.handle, .data, .sentinel, .sentinel, .sentinel, .sentinel, .sentinel, .sentinel, .sentinel, .sentinel] true :=
  Program.laidByTextLater.sub seatTie1 ["errors.errorType", "orderbook/orderbook.termWidths", "orderbook/orderbook.ErrConfig", "orderbook/orderbook.ErrKind", "orderbook/orderbook.ErrRange", "orderbook/orderbook.ErrShort", "orderbook/orderbook.ErrFrame", "orderbook/orderbook.ErrRecord", "orderbook/orderbook.ErrGap", "orderbook/orderbook.ErrBroken"] (by kernel_rfl) (by kernel_rfl)
theorem telling_row_tie : Rows.tellingRow.laidByTextAt .later Tryz.pinned [.handle, .data, .sentinel, .sentinel, .sentinel, .sentinel, .sentinel, .sentinel, .sentinel, .sentinel] true :=
  OpenClaim.laidByTextAt_later rfl rfl tie noOwnUnsafe
theorem fair_row_tie : Rows.fairRow.laidByTextAt .later Tryz.pinned [.handle, .data, .sentinel, .sentinel, .sentinel, .sentinel, .sentinel, .sentinel, .sentinel, .sentinel] true :=
  OpenClaim.laidByTextAt_later rfl rfl tie noOwnUnsafe
theorem agree_row_tie : Rows.agreeRow.laidByTextAt .later Tryz.pinned [.handle, .data, .sentinel, .sentinel, .sentinel, .sentinel, .sentinel, .sentinel, .sentinel, .sentinel] true :=
  OpenClaim.laidByTextAt_later rfl rfl tie noOwnUnsafe
theorem tellingUpto_row_tie : Rows.tellingUptoRow.laidByTextAt .later Tryz.pinned [.handle, .data, .sentinel, .sentinel, .sentinel, .sentinel, .sentinel, .sentinel, .sentinel, .sentinel] true :=
  OpenClaim.laidByTextAt_later rfl rfl tie noOwnUnsafe
theorem fairUpto_row_tie : Rows.fairUptoRow.laidByTextAt .later Tryz.pinned [.handle, .data, .sentinel, .sentinel, .sentinel, .sentinel, .sentinel, .sentinel, .sentinel, .sentinel] true :=
  OpenClaim.laidByTextAt_later rfl rfl tie noOwnUnsafe
theorem agreeUpto_row_tie : Rows.agreeUptoRow.laidByTextAt .later Tryz.pinned [.handle, .data, .sentinel, .sentinel, .sentinel, .sentinel, .sentinel, .sentinel, .sentinel, .sentinel] true :=
  OpenClaim.laidByTextAt_later rfl rfl tie noOwnUnsafe
end Go.Proofs.YtanfmhonjpjpoaaGreatDoor
