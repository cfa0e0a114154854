import Derived.Test.YtcajmohgjojhhaaGreatDoorOpen
import Derived.Test.YtcajmohgjojhhaaGreatDoorLaid
import Derived.Test.YtcajmohgjojhhaaGreatDoorTie
import Derived.Test.YtcajmohgjojhhaaGreatDoorCards
import Derived.LaidMore
import Derived.Stop.Joined
import Derived.SevenTiedAt
set_option linter.unusedVariables false
set_option linter.unusedSimpArgs false
namespace Go.Proofs.YtcajmohgjojhhaaGreatDoor
open Go.ChangeShapes Go.WideShapes Go.RowKit Go.Deep

theorem Tryz.widthsAt : Tryz.prog.globalNamed "orderbook/orderbook.termWidths" = some 9 := by kernel_rfl
theorem Tryz.widthsType : (Tryz.prog.globals[9]?).map (·.type) = some 26 := by kernel_rfl
def widL : List Int := [4, 1, 1, 4, 4, 4, 4, 1, 4]
theorem wid_eq : ∀ j, j < 9 → widL[j]? = some (wid j) := by decide

theorem widths_of_laid {W : World} {r : List (String × DataW Unit)} (h : laidMet Tryz.prog (("orderbook/orderbook.termWidths", Rows.laid_orderbook_orderbook_termWidths) :: r) W) : Wids W ∧ laidMet Tryz.prog r W := by
  obtain ⟨ps, ⟨g0, t0, cs0, f0, p0, q0, hg0, ht0, hv0, hd0, hq, rfl⟩, hnd, hrows⟩ := h
  obtain rfl := Option.some.inj (Tryz.widthsAt.symm.trans hg0)
  obtain rfl := Option.some.inj (Tryz.widthsType.symm.trans ht0)
  refine ⟨fun j hj => ?_, q0, hq, (List.nodup_append.1 hnd).2.1, fun b off hm => hrows b off (List.mem_append_right _ hm)⟩
  obtain ⟨xs, m, -, hx, hlen, hxl, hf⟩ := DataW.trod_array Tryz.und9 hd0
  rw [Tryz.cells3] at hf
  have hfj := hf j hj
  rw [Nat.mul_one, List.getElem?_eq_getElem (show j < xs.length by omega)] at hfj
  obtain ⟨n, h1, h2, _⟩ := DataW.trod_int Tryz.underlying3 hfj
  have hag : xs.map (·.1) = widL.map fun n => DataW.lit (.int .i64 n) := by
    have := (Prod.mk.inj hx).1
    injection this with this
    exact this.symm
  have hn : n = wid j := by
    have e1 : (xs.map (·.1))[j]? = some (DataW.lit (.int .i64 n)) := by
      rw [List.getElem?_map, List.getElem?_eq_getElem (show j < xs.length by omega), h2]
      rfl
    rw [hag, List.getElem?_map, wid_eq j hj] at e1
    simp at e1
    exact e1.symm
  have hc := World.var?_cell hg0 hv0 j
  rw [hc]
  have := cell_of_cut h1
  rw [hn] at this
  simpa using this

def texts : Nat → List UInt8
  | 0 => [97, 32, 99, 111, 110, 102, 105, 103, 32, 116, 104, 97, 116, 32, 109, 97, 121, 32, 110, 111, 116, 32, 98, 101]
  | 1 => [110, 111, 32, 107, 105, 110, 100, 32, 111, 102, 32, 99, 111, 109, 109, 97, 110, 100]
  | 2 => [97, 32, 110, 117, 109, 98, 101, 114, 32, 116, 104, 97, 116, 32, 104, 97, 115, 32, 110, 111, 32, 114, 111, 111, 109]
  | 3 => [98, 121, 116, 101, 115, 32, 116, 104, 97, 116, 32, 101, 110, 100, 32, 116, 111, 111, 32, 101, 97, 114, 108, 121]
  | 4 => [110, 111, 32, 102, 114, 97, 109, 101]
  | 5 => [110, 111, 32, 114, 101, 99, 111, 114, 100]
  | 6 => [97, 32, 114, 101, 99, 111, 114, 100, 32, 116, 104, 97, 116, 32, 105, 115, 32, 110, 111, 116, 32, 116, 104, 101, 32, 110, 101, 120, 116]
  | _ => [97, 32, 114, 101, 99, 111, 114, 100, 32, 116, 104, 97, 116, 32, 99, 97, 110, 110, 111, 116, 32, 98, 101]
theorem texts_ok (k : Nat) : (texts k).length ≠ 0 ∧ (texts k).length ≤ 1000 := by
  unfold texts
  split <;> exact ⟨by decide, by decide⟩

def laidAll : List (String × DataW Unit) := ("errors.errorType", Rows.laid_errors_errorType) :: ("orderbook/orderbook.termWidths", Rows.laid_orderbook_orderbook_termWidths) :: nine texts

theorem errs_of_laidH {W : World} (h : laidMetH Tryz.prog laidAll W) : (∃ a s, Errs W a s) ∧ Wids W := by
  have h' : laidMet Tryz.prog (("orderbook/orderbook.termWidths", Rows.laid_orderbook_orderbook_termWidths) :: nine texts) W ∧ handlesMet Tryz.prog [("errors.errorType", Rows.laid_errors_errorType)] W := h
  obtain ⟨h1, h2⟩ := widths_of_laid h'.1
  exact ⟨errs_of_laid (fun k _ => texts_ok k) h2 (handle_of_met h'.2), h1⟩

theorem door_met (os : Os) (args : Array Value) : laidMetH Tryz.prog laidAll ((World.doorLaid Tryz.prog 400 os).forCall (fun _ _ => 0) ⟨#[], args, []⟩).memory :=
  laidMetH_of_parts3 (fuel := 8) (laidMet_of_run' 8 (by kernel_rfl) (by kernel_rfl)) (by kernel_rfl) (by kernel_rfl)
end Go.Proofs.YtcajmohgjojhhaaGreatDoor
