/-
  NARROWER THAN 'FOR EVERY INPUT', by the rows' own cells (each row's printed sentence says how): Telling: laid · Fair: laid · Agree: laid.
  DERIVED. THE GIVEN ROWS OF THIS SEAT. 3 by the template 'for every input the law returns true; each argument reads behind the call as it read before'; 0 by the template 'total and deterministic' (their statements: YtanfmhonjpjpoaaGreatDoorTotals.lean).
  GIVEN WITH THE SEED: the statements are not yours to turn. If you find one false, say at which input.
  Laid BY PROGRAM, IN A SANDBOX (cutbox-rows.mjs): the forced cells as the released guide's own fill.sh prints them over the translation 98e58e4344d6806b… (all of the seat's roots in one cut). By AI agents, Wed Nov 11 2026. No macro, syntax, notation, axiom, sorry.
-/
import Derived.Test.YtanfmhonjpjpoaaGreatDoorChecked
import GoSem.Claim
import GoSem.ClaimJoined
import GoSem.ClaimMapViews
import Derived.JoinedTies
import Derived.KernelRfl
namespace Go.Proofs.YtanfmhonjpjpoaaGreatDoor
/- THE CELL 'sum', in the pinned program and in every row, IS THE sha256 OF THE DUMP (.gsa) THAT YtanfmhonjpjpoaaGreatDoorProg.lean LOADS. Nothing in Lean hashes anything: it is a label: what it is worth is what the hold of that sum in a sandbox is worth. -/
noncomputable def Tryz.pinned : Pinned := { name := "ytanfmhonjpjpoaagreatdoor", sum := "98e58e4344d6806b9c4b1b92fec34bd413d8a82ca80caf8d52428e4b3fd96d80", checked := Tryz.checked }
namespace Rows
def none {H : Type} : Left H := { results := [], args := [] }

/- WHAT THE LISTED PACKAGE-LEVEL VARIABLES READ AS WHEN THE CALL BEGINS. Each datum BY PROGRAM (the guide's laid-datum.mjs) off the statement by which the dump's own 'gosem.cut.vars' lays the variable. In a bare row this is a premise. The card (YtanfmhonjpjpoaaGreatDoorCards.lean) ties it to the program's text. -/
def laid_errors_errorType {H : Type} : DataW H := .iface "internal/reflectlite.rtype" (.agg [.ptr (.lit (.string [101, 114, 114, 111, 114]))])
def laid_orderbook_orderbook_termWidths {H : Type} : DataW H := .agg [.lit (.int .i64 4), .lit (.int .i64 1), .lit (.int .i64 1), .lit (.int .i64 4), .lit (.int .i64 4), .lit (.int .i64 4), .lit (.int .i64 4), .lit (.int .i64 1), .lit (.int .i64 4)]
def laid_orderbook_orderbook_ErrConfig {H : Type} : DataW H := .iface "*errors.errorString" (.ptr (.agg [.lit (.string [97, 32, 99, 111, 110, 102, 105, 103, 32, 116, 104, 97, 116, 32, 109, 97, 121, 32, 110, 111, 116, 32, 98, 101])]))
def laid_orderbook_orderbook_ErrKind {H : Type} : DataW H := .iface "*errors.errorString" (.ptr (.agg [.lit (.string [110, 111, 32, 107, 105, 110, 100, 32, 111, 102, 32, 99, 111, 109, 109, 97, 110, 100])]))
def laid_orderbook_orderbook_ErrRange {H : Type} : DataW H := .iface "*errors.errorString" (.ptr (.agg [.lit (.string [97, 32, 110, 117, 109, 98, 101, 114, 32, 116, 104, 97, 116, 32, 104, 97, 115, 32, 110, 111, 32, 114, 111, 111, 109])]))
def laid_orderbook_orderbook_ErrShort {H : Type} : DataW H := .iface "*errors.errorString" (.ptr (.agg [.lit (.string [98, 121, 116, 101, 115, 32, 116, 104, 97, 116, 32, 101, 110, 100, 32, 116, 111, 111, 32, 101, 97, 114, 108, 121])]))
def laid_orderbook_orderbook_ErrFrame {H : Type} : DataW H := .iface "*errors.errorString" (.ptr (.agg [.lit (.string [110, 111, 32, 102, 114, 97, 109, 101])]))
def laid_orderbook_orderbook_ErrRecord {H : Type} : DataW H := .iface "*errors.errorString" (.ptr (.agg [.lit (.string [110, 111, 32, 114, 101, 99, 111, 114, 100])]))
def laid_orderbook_orderbook_ErrGap {H : Type} : DataW H := .iface "*errors.errorString" (.ptr (.agg [.lit (.string [97, 32, 114, 101, 99, 111, 114, 100, 32, 116, 104, 97, 116, 32, 105, 115, 32, 110, 111, 116, 32, 116, 104, 101, 32, 110, 101, 120, 116])]))
def laid_orderbook_orderbook_ErrBroken {H : Type} : DataW H := .iface "*errors.errorString" (.ptr (.agg [.lit (.string [97, 32, 114, 101, 99, 111, 114, 100, 32, 116, 104, 97, 116, 32, 99, 97, 110, 110, 111, 116, 32, 98, 101])]))

/-- 'orderbooklaw.Telling': WHATEVER THE INPUT: true; the input reads as it did. -/
def tellingSpec : ChangeSpec := { name := "telling", fn := fun _ => fun
  | [d] => { results := [.lit (.bool true)], args := [d] }
  | _ => none }
def tellingRow : OpenClaim := { program := "ytanfmhonjpjpoaagreatdoor", sum := "98e58e4344d6806b9c4b1b92fec34bd413d8a82ca80caf8d52428e4b3fd96d80", func := "orderbook/orderbooklaw.Telling", spec := "telling", inPlace := ["internal/reflectlite.TypeOf", "internal/reflectlite.ValueOf", "(internal/reflectlite.Value).Type", "(internal/reflectlite.Value).IsNil", "(internal/reflectlite.Value).Elem", "(internal/reflectlite.Value).Set", "math.Float32bits"], unfollowed := true, recurses := true, named := ["orderbook/orderbook.ErrKind", "orderbook/orderbook.ErrRange", "orderbook/orderbook.termWidths", "orderbook/orderbook.ErrConfig", "orderbook/orderbook.ErrShort", "orderbook/orderbook.ErrFrame", "orderbook/orderbook.ErrRecord", "orderbook/orderbook.ErrGap", "orderbook/orderbook.ErrBroken", "errors.errorType"], apart := false, laid := [("errors.errorType", laid_errors_errorType), ("orderbook/orderbook.termWidths", laid_orderbook_orderbook_termWidths), ("orderbook/orderbook.ErrConfig", laid_orderbook_orderbook_ErrConfig), ("orderbook/orderbook.ErrKind", laid_orderbook_orderbook_ErrKind), ("orderbook/orderbook.ErrRange", laid_orderbook_orderbook_ErrRange), ("orderbook/orderbook.ErrShort", laid_orderbook_orderbook_ErrShort), ("orderbook/orderbook.ErrFrame", laid_orderbook_orderbook_ErrFrame), ("orderbook/orderbook.ErrRecord", laid_orderbook_orderbook_ErrRecord), ("orderbook/orderbook.ErrGap", laid_orderbook_orderbook_ErrGap), ("orderbook/orderbook.ErrBroken", laid_orderbook_orderbook_ErrBroken)] }
def TellingSaid : Prop := tellingRow.holds Tryz.pinned (OpenSpec.ofChange tellingSpec)

/-- ITS FALSE NEIGHBOUR: 'it returns false'. Refute it at one input. -/
def tellingWrong : ChangeSpec := { name := "telling", fn := fun _ => fun
  | [d] => { results := [.lit (.bool false)], args := [d] }
  | _ => none }
def TellingWrongFalsely : Prop := tellingRow.holds Tryz.pinned (OpenSpec.ofChange tellingWrong)

/-- 'orderbookkeep.Fair': WHATEVER THE INPUT: true; the input reads as it did. -/
def fairSpec : ChangeSpec := { name := "fair", fn := fun _ => fun
  | [d] => { results := [.lit (.bool true)], args := [d] }
  | _ => none }
def fairRow : OpenClaim := { program := "ytanfmhonjpjpoaagreatdoor", sum := "98e58e4344d6806b9c4b1b92fec34bd413d8a82ca80caf8d52428e4b3fd96d80", func := "orderbook/orderbookkeep.Fair", spec := "fair", inPlace := ["internal/reflectlite.TypeOf", "internal/reflectlite.ValueOf", "(internal/reflectlite.Value).Type", "(internal/reflectlite.Value).IsNil", "(internal/reflectlite.Value).Elem", "(internal/reflectlite.Value).Set"], unfollowed := true, recurses := true, named := ["orderbook/orderbook.ErrConfig", "orderbook/orderbook.ErrKind", "orderbook/orderbook.ErrRange", "orderbook/orderbook.ErrShort", "orderbook/orderbook.ErrFrame", "orderbook/orderbook.ErrRecord", "orderbook/orderbook.ErrGap", "orderbook/orderbook.ErrBroken", "errors.errorType", "orderbook/orderbook.termWidths"], apart := false, laid := [("errors.errorType", laid_errors_errorType), ("orderbook/orderbook.termWidths", laid_orderbook_orderbook_termWidths), ("orderbook/orderbook.ErrConfig", laid_orderbook_orderbook_ErrConfig), ("orderbook/orderbook.ErrKind", laid_orderbook_orderbook_ErrKind), ("orderbook/orderbook.ErrRange", laid_orderbook_orderbook_ErrRange), ("orderbook/orderbook.ErrShort", laid_orderbook_orderbook_ErrShort), ("orderbook/orderbook.ErrFrame", laid_orderbook_orderbook_ErrFrame), ("orderbook/orderbook.ErrRecord", laid_orderbook_orderbook_ErrRecord), ("orderbook/orderbook.ErrGap", laid_orderbook_orderbook_ErrGap), ("orderbook/orderbook.ErrBroken", laid_orderbook_orderbook_ErrBroken)] }
def FairSaid : Prop := fairRow.holds Tryz.pinned (OpenSpec.ofChange fairSpec)

/-- ITS FALSE NEIGHBOUR: 'it returns false'. Refute it at one input. -/
def fairWrong : ChangeSpec := { name := "fair", fn := fun _ => fun
  | [d] => { results := [.lit (.bool false)], args := [d] }
  | _ => none }
def FairWrongFalsely : Prop := fairRow.holds Tryz.pinned (OpenSpec.ofChange fairWrong)

/-- 'orderbookkeep.Agree': WHATEVER THE INPUT: true; the input reads as it did. -/
def agreeSpec : ChangeSpec := { name := "agree", fn := fun _ => fun
  | [d] => { results := [.lit (.bool true)], args := [d] }
  | _ => none }
def agreeRow : OpenClaim := { program := "ytanfmhonjpjpoaagreatdoor", sum := "98e58e4344d6806b9c4b1b92fec34bd413d8a82ca80caf8d52428e4b3fd96d80", func := "orderbook/orderbookkeep.Agree", spec := "agree", inPlace := ["internal/reflectlite.TypeOf", "internal/reflectlite.ValueOf", "(internal/reflectlite.Value).Type", "(internal/reflectlite.Value).IsNil", "(internal/reflectlite.Value).Elem", "(internal/reflectlite.Value).Set"], unfollowed := true, recurses := true, named := ["orderbook/orderbook.ErrConfig", "orderbook/orderbook.ErrKind", "orderbook/orderbook.ErrRange", "orderbook/orderbook.ErrShort", "orderbook/orderbook.ErrFrame", "orderbook/orderbook.ErrRecord", "orderbook/orderbook.ErrGap", "orderbook/orderbook.ErrBroken", "errors.errorType", "orderbook/orderbook.termWidths"], apart := false, laid := [("errors.errorType", laid_errors_errorType), ("orderbook/orderbook.termWidths", laid_orderbook_orderbook_termWidths), ("orderbook/orderbook.ErrConfig", laid_orderbook_orderbook_ErrConfig), ("orderbook/orderbook.ErrKind", laid_orderbook_orderbook_ErrKind), ("orderbook/orderbook.ErrRange", laid_orderbook_orderbook_ErrRange), ("orderbook/orderbook.ErrShort", laid_orderbook_orderbook_ErrShort), ("orderbook/orderbook.ErrFrame", laid_orderbook_orderbook_ErrFrame), ("orderbook/orderbook.ErrRecord", laid_orderbook_orderbook_ErrRecord), ("orderbook/orderbook.ErrGap", laid_orderbook_orderbook_ErrGap), ("orderbook/orderbook.ErrBroken", laid_orderbook_orderbook_ErrBroken)] }
def AgreeSaid : Prop := agreeRow.holds Tryz.pinned (OpenSpec.ofChange agreeSpec)

/-- ITS FALSE NEIGHBOUR: 'it returns false'. Refute it at one input. -/
def agreeWrong : ChangeSpec := { name := "agree", fn := fun _ => fun
  | [d] => { results := [.lit (.bool false)], args := [d] }
  | _ => none }
def AgreeWrongFalsely : Prop := agreeRow.holds Tryz.pinned (OpenSpec.ofChange agreeWrong)

/- THE SECOND FORM. 'bulk': how many values and letters a reading holds, each counted each time it is reached (what is shared counts as often as it is met; a slice's spare places count too). A statement '..UptoSaid' is the law's where the arguments, and the package variables that the reading takes, are together of bulk at most 1048576: NARROWER than '..Said'. Prove '..Said' where nothing that the law and all that it calls make is longer than what came in: it says more and counts as full. Else prove '..UptoSaid'. A law counts once. -/
mutual
def uptoBulk {H : Type} : DataW H → Nat
  | .lit (.string bytes) => bytes.length + 1
  | .lit _ => 1
  | .nil => 1
  | .ptr d => uptoBulk d + 1
  | .slice elems spare => uptoBulkAll elems + uptoBulkAll spare + 1
  | .agg parts => uptoBulkAll parts + 1
  | .iface _ d => uptoBulk d + 1
  | .map entries => uptoBulkEntries entries + 1
  | .held _ => 1
def uptoBulkAll {H : Type} : List (DataW H) → Nat
  | [] => 0
  | d :: r => uptoBulk d + uptoBulkAll r
def uptoBulkEntries {H : Type} : List (Lit × DataW H) → Nat
  | [] => 0
  | x :: r => uptoBulkEntry x + uptoBulkEntries r
def uptoBulkEntry {H : Type} : Lit × DataW H → Nat
  | (.string bytes, d) => bytes.length + uptoBulk d + 1
  | (_, d) => uptoBulk d + 1
 end
def uptoSmall : (H : Type) → List (DataW H) → Bool := fun _ ds => decide (uptoBulkAll ds ≤ 1048576)
def OpenSpec.upto (s : _root_.Go.ChangeSpec) : _root_.Go.OpenSpec := { _root_.Go.OpenSpec.ofChange s with cond := some uptoSmall }

/-- 'orderbooklaw.Telling', WHERE WHAT IT READS IS OF BULK AT MOST 1048576: true; the input reads as it did. -/
def tellingUptoRow : OpenClaim := { program := "ytanfmhonjpjpoaagreatdoor", sum := "98e58e4344d6806b9c4b1b92fec34bd413d8a82ca80caf8d52428e4b3fd96d80", func := "orderbook/orderbooklaw.Telling", spec := "telling", inPlace := ["internal/reflectlite.TypeOf", "internal/reflectlite.ValueOf", "(internal/reflectlite.Value).Type", "(internal/reflectlite.Value).IsNil", "(internal/reflectlite.Value).Elem", "(internal/reflectlite.Value).Set", "math.Float32bits"], unfollowed := true, recurses := true, named := ["orderbook/orderbook.ErrKind", "orderbook/orderbook.ErrRange", "orderbook/orderbook.termWidths", "orderbook/orderbook.ErrConfig", "orderbook/orderbook.ErrShort", "orderbook/orderbook.ErrFrame", "orderbook/orderbook.ErrRecord", "orderbook/orderbook.ErrGap", "orderbook/orderbook.ErrBroken", "errors.errorType"], apart := false, laid := [("errors.errorType", laid_errors_errorType), ("orderbook/orderbook.termWidths", laid_orderbook_orderbook_termWidths), ("orderbook/orderbook.ErrConfig", laid_orderbook_orderbook_ErrConfig), ("orderbook/orderbook.ErrKind", laid_orderbook_orderbook_ErrKind), ("orderbook/orderbook.ErrRange", laid_orderbook_orderbook_ErrRange), ("orderbook/orderbook.ErrShort", laid_orderbook_orderbook_ErrShort), ("orderbook/orderbook.ErrFrame", laid_orderbook_orderbook_ErrFrame), ("orderbook/orderbook.ErrRecord", laid_orderbook_orderbook_ErrRecord), ("orderbook/orderbook.ErrGap", laid_orderbook_orderbook_ErrGap), ("orderbook/orderbook.ErrBroken", laid_orderbook_orderbook_ErrBroken)], narrowed := true }
def TellingUptoSaid : Prop := tellingUptoRow.holds Tryz.pinned (OpenSpec.upto tellingSpec)

/-- 'orderbookkeep.Fair', WHERE WHAT IT READS IS OF BULK AT MOST 1048576: true; the input reads as it did. -/
def fairUptoRow : OpenClaim := { program := "ytanfmhonjpjpoaagreatdoor", sum := "98e58e4344d6806b9c4b1b92fec34bd413d8a82ca80caf8d52428e4b3fd96d80", func := "orderbook/orderbookkeep.Fair", spec := "fair", inPlace := ["internal/reflectlite.TypeOf", "internal/reflectlite.ValueOf", "(internal/reflectlite.Value).Type", "(internal/reflectlite.Value).IsNil", "(internal/reflectlite.Value).Elem", "(internal/reflectlite.Value).Set"], unfollowed := true, recurses := true, named := ["orderbook/orderbook.ErrConfig", "orderbook/orderbook.ErrKind", "orderbook/orderbook.ErrRange", "orderbook/orderbook.ErrShort", "orderbook/orderbook.ErrFrame", "orderbook/orderbook.ErrRecord", "orderbook/orderbook.ErrGap", "orderbook/orderbook.ErrBroken", "errors.errorType", "orderbook/orderbook.termWidths"], apart := false, laid := [("errors.errorType", laid_errors_errorType), ("orderbook/orderbook.termWidths", laid_orderbook_orderbook_termWidths), ("orderbook/orderbook.ErrConfig", laid_orderbook_orderbook_ErrConfig), ("orderbook/orderbook.ErrKind", laid_orderbook_orderbook_ErrKind), ("orderbook/orderbook.ErrRange", laid_orderbook_orderbook_ErrRange), ("orderbook/orderbook.ErrShort", laid_orderbook_orderbook_ErrShort), ("orderbook/orderbook.ErrFrame", laid_orderbook_orderbook_ErrFrame), ("orderbook/orderbook.ErrRecord", laid_orderbook_orderbook_ErrRecord), ("orderbook/orderbook.ErrGap", laid_orderbook_orderbook_ErrGap), ("orderbook/orderbook.ErrBroken", laid_orderbook_orderbook_ErrBroken)], narrowed := true }
def FairUptoSaid : Prop := fairUptoRow.holds Tryz.pinned (OpenSpec.upto fairSpec)

/-- 'orderbookkeep.Agree', WHERE WHAT IT READS IS OF BULK AT MOST 1048576: true; the input reads as it did. -/
def agreeUptoRow : OpenClaim := { program := "ytanfmhonjpjpoaagreatdoor", sum := "98e58e4344d6806b9c4b1b92fec34bd413d8a82ca80caf8d52428e4b3fd96d80", func := "orderbook/orderbookkeep.Agree", spec := "agree", inPlace := ["internal/reflectlite.TypeOf", "internal/reflectlite.ValueOf", "(internal/reflectlite.Value).Type", "(internal/reflectlite.Value).IsNil", "(internal/reflectlite.Value).Elem", "(internal/reflectlite.Value).Set"], unfollowed := true, recurses := true, named := ["orderbook/orderbook.ErrConfig", "orderbook/orderbook.ErrKind", "orderbook/orderbook.ErrRange", "orderbook/orderbook.ErrShort", "orderbook/orderbook.ErrFrame", "orderbook/orderbook.ErrRecord", "orderbook/orderbook.ErrGap", "orderbook/orderbook.ErrBroken", "errors.errorType", "orderbook/orderbook.termWidths"], apart := false, laid := [("errors.errorType", laid_errors_errorType), ("orderbook/orderbook.termWidths", laid_orderbook_orderbook_termWidths), ("orderbook/orderbook.ErrConfig", laid_orderbook_orderbook_ErrConfig), ("orderbook/orderbook.ErrKind", laid_orderbook_orderbook_ErrKind), ("orderbook/orderbook.ErrRange", laid_orderbook_orderbook_ErrRange), ("orderbook/orderbook.ErrShort", laid_orderbook_orderbook_ErrShort), ("orderbook/orderbook.ErrFrame", laid_orderbook_orderbook_ErrFrame), ("orderbook/orderbook.ErrRecord", laid_orderbook_orderbook_ErrRecord), ("orderbook/orderbook.ErrGap", laid_orderbook_orderbook_ErrGap), ("orderbook/orderbook.ErrBroken", laid_orderbook_orderbook_ErrBroken)], narrowed := true }
def AgreeUptoSaid : Prop := agreeUptoRow.holds Tryz.pinned (OpenSpec.upto agreeSpec)

end Rows
end Go.Proofs.YtanfmhonjpjpoaaGreatDoor
