import Derived.Test.YtcajmohgjojhhaaGreatDoorMH
import Derived.Deep.QuietTactic
import Derived.BigQuiet
set_option linter.unusedVariables false
set_option linter.unusedSimpArgs false
namespace Go.Proofs.YtcajmohgjojhhaaGreatDoor
open Go.RowKit Go.Extern

/-- A row of the document's states of which only is known that it can be read, written and appended to. -/
def SR (base : Nat) (w : World) (v : Value) (m : Nat) : Prop := ∃ xs, w.ownsRow base 125 15 v m xs ∧ ∀ u ∈ xs, ∃ x, u = .int .i64 x
theorem SR.nil (base : Nat) (w : World) : SR base w (.slice none 0 0) 0 := ⟨[], World.ownsRow_nil _ _ _ _, fun u h => by cases h⟩
theorem SR.shape {base : Nat} {w : World} {v : Value} {m : Nat} (h : SR base w v m) : (v = .slice none 0 0 ∧ m = 0) ∨ ∃ g cap, v = .slice (some ⟨g, 0, none⟩) m cap ∧ base ≤ g ∧ IntBlock w g 125 (m * 15) := by
  obtain ⟨xs, h1, h2⟩ := h
  rcases h1.2 with h | ⟨g, cap, cur, rfl, hg, _⟩
  · exact .inl h
  · exact .inr ⟨g, cap, rfl, hg, IntBlock.of_row h1 h2⟩
theorem SR.block {base : Nat} {w w' : World} {v : Value} {m : Nat} (h : SR base w v m) (hb : ∀ q, v.ownBlock = some q → w'.heap[q]? = w.heap[q]?) : SR base w' v m := by
  obtain ⟨xs, h1, h2⟩ := h
  exact ⟨xs, owns_block h1 hb, h2⟩
theorem SR.below {base : Nat} {w w' : World} {v : Value} {m : Nat} (h : SR base w v m) (hb : Below w.heap.size w w') : SR base w' v m := by
  obtain ⟨xs, h1, h2⟩ := h
  exact ⟨xs, owns_block h1 (fun q hq => hb.block q (h1.lt q hq).2), h2⟩
theorem SR.drewN {base : Nat} {w : World} {v : Value} {m : Nat} (h : SR base w v m) (k : Nat) : SR base (w.drewN k) v m := h
theorem SR.drew {base : Nat} {w : World} {v : Value} {m : Nat} (h : SR base w v m) : SR base w.drew v m := h
theorem SR.lt {base : Nat} {w : World} {v : Value} {m : Nat} (h : SR base w v m) : ∀ q, v.ownBlock = some q → base ≤ q ∧ q < w.heap.size := by
  obtain ⟨xs, h1, _⟩ := h
  exact h1.lt
/-- A number that is stored leaves such a row. -/
theorem SR.set {base : Nat} {w : World} {v : Value} {m : Nat} (h : SR base w v m) (b o : Nat) (x : Int) : SR base (w.setCell ⟨b, o, none⟩ (.int .i64 x)) v m := by
  obtain ⟨xs, ⟨h1, h2⟩, h3⟩ := h
  rcases h2 with h2 | ⟨g, cap, cur, rfl, hg, hh, hle, hmx, hsz, htk⟩
  · exact ⟨xs, ⟨h1, .inl h2⟩, h3⟩
  · by_cases e : g = b
    · subst e
      refine ⟨(cur.setIfInBounds o (.int .i64 x)).toList.take (m * 15), ⟨?_, .inr ⟨g, cap, _, rfl, hg, heap_setCell_at _ _ _ _ _ _ _ hh, hle, hmx, by simpa using hsz, rfl⟩⟩, fun u hu => ?_⟩
      · have : m * 15 ≤ cur.size := by rw [hsz]; exact Nat.mul_le_mul_right _ hle
        simp
        omega
      · rw [Array.toList_setIfInBounds, List.take_set] at hu
        rw [htk] at hu
        rcases List.mem_or_eq_of_mem_set hu with hu | hu
        · exact h3 u hu
        · exact ⟨x, hu⟩
    · exact ⟨xs, ⟨h1, .inr ⟨g, cap, cur, rfl, hg, (Below.heap_setCell _ _ _ _ e).trans hh, hle, hmx, hsz, htk⟩⟩, h3⟩

set_option maxRecDepth 100000 in
set_option maxHeartbeats 2000000 in
theorem live_any (base : Nat) (w : World) (v : Value) (m : Nat) (id : Int) (h : SR base w v m) (hm : m ≤ 1000000000) :
    Calls Tryz.prog 86 #[v, .int .i64 id] w fun e w' => (e = .returned (.int .i64 (-1)) ∨ ∃ i : Nat, i < m ∧ e = .returned (.int .i64 (i : Int))) ∧ w' = w := by
  rcases h.shape with ⟨rfl, rfl⟩ | ⟨g, cap, rfl, hg, hib⟩
  · go_enter Tryz.func86, Tryz.ntmps86
    go_wp2
    go_loopw [5] (fun i wr => i = .int .i64 0 ∧ wr = w) (fun _ _ => 0)
    case atStart => exact ⟨rfl, rfl⟩
    case round =>
      obtain ⟨rfl, rfl⟩ := hrel
      go_wp2
      go_ret
      exact ⟨.inl rfl, rfl⟩
  · have HIB : Hid (IntBlock w g 125 (m * 15)) := hib
    clear hib h
    go_enter Tryz.func86, Tryz.ntmps86
    go_wp2
    go_loopw [5] (fun i wr => ∃ k : Nat, i = .int .i64 k ∧ k ≤ m ∧ wr = w) (fun i _ => m - (intOf i).toNat)
    case atStart => exact ⟨0, rfl, Nat.zero_le _, rfl⟩
    case round =>
      obtain ⟨k, rfl, hk, rfl⟩ := hrel
      by_cases hlt : k < m
      · have hkI : (k : Int) < (m : Int) := by omega
        obtain ⟨x0, c0⟩ := HIB.out.cell (k * 15) (by omega)
        obtain ⟨x8, c8⟩ := HIB.out.cell (k * 15 + 8) (by omega)
        cases e0 : (x0 == id)
        · go_wp2
          go_roundw
          case rel => exact ⟨k + 1, by go_num, by omega, by first | rfl | trivial⟩
          case measure => simp [intOf]; omega
        · cases e8 : (x8 == 1)
          · go_wp2
            go_roundw
            case rel => exact ⟨k + 1, by go_num, by omega, by first | rfl | trivial⟩
            case measure => simp [intOf]; omega
          · go_wp2
            go_ret
            exact ⟨.inr ⟨k, hlt, rfl⟩, rfl⟩
      · have hkM : ¬ (k : Int) < (m : Int) := by omega
        go_wp2
        go_ret
        exact ⟨.inl rfl, rfl⟩
end Go.Proofs.YtcajmohgjojhhaaGreatDoor
