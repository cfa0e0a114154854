import Derived.Test.YtcajmohgjojhhaaGreatDoorAud2
import Derived.Test.YtcajmohgjojhhaaGreatDoorMJ
import Derived.Deep.AppendLies
import Derived.Deep.RegionHeld3
set_option linter.unusedVariables false
set_option linter.unusedSimpArgs false
namespace Go.Proofs.YtcajmohgjojhhaaGreatDoor
open Go.RowKit Go.Extern

theorem Aud.back {base : Nat} {w0 w : World} {v : Value} {m gr : Nat} (h : Aud base w0 w v m gr) : SR base w v m ∧ Below base w0 w := ⟨h.row, h.low⟩
theorem below_drew2 {B : Nat} {w w' : World} (h : Below B w w') : Below B w w'.drew := ⟨h.os, h.tape, h.output, h.size, h.block⟩
/-- What taking a record hands back. -/
def TakeBack (base : Nat) (w0 : World) (m : Nat) (e : Ending) (w' : World) : Prop := ∃ v' m' r, e = .returned (.tuple #[v', .bool r]) ∧ m' ≤ m + 1 ∧ SR base w' v' m' ∧ Below base w0 w'
theorem SR.shape' {base : Nat} {w : World} {v : Value} {m : Nat} (h : SR base w v m) : ∃ p cap, v = .slice p m cap ∧ (m = 0 ∨ ∃ g, p = some ⟨g, 0, none⟩ ∧ base ≤ g ∧ IntBlock w g 125 (m * 15)) := by
  rcases h.shape with ⟨rfl, rfl⟩ | ⟨g, cap, rfl, h1, h2⟩
  · exact ⟨_, _, rfl, .inl rfl⟩
  · exact ⟨_, _, rfl, .inr ⟨g, rfl, h1, h2⟩⟩
theorem Tryz.infoSt : (Tryz.prog.info? 125).map (fun i => (i.size, i.bytes)) = some (15, 120) := by kernel_rfl
theorem Tryz.zeroSt : (Tryz.prog.info? 125).map (fun i => i.zero) = some (some (.agg #[.int .i64 0, .int .i64 0, .int .i64 0, .int .i64 0, .int .i64 0, .int .i64 0, .int .i64 0, .int .i64 0, .int .i64 0, .int .i64 0, .int .i64 0, .int .i64 0, .int .i64 0, .int .i64 0, .int .i64 0])) := by kernel_rfl

set_option maxRecDepth 100000 in
set_option maxHeartbeats 8000000 in
theorem accepted_any (base : Nat) (w : World) (v : Value) (m gr : Nat) (h : Aud base w w v m gr) (hb : base ≤ w.heap.size) (hm : m ≤ 100000000) :
    Calls Tryz.prog 84 #[v, .pointer (some ⟨gr, 0, none⟩)] w fun e w' => TakeBack base w m e w' := by
  obtain ⟨i0, hi, hz0, hz1, hz2⟩ := info_parts2 Tryz.infoSt Tryz.zeroSt
  have HINF : Hid (Tryz.prog.info? 125 = some i0 ∧ i0.zero = some (.agg #[.int .i64 0, .int .i64 0, .int .i64 0, .int .i64 0, .int .i64 0, .int .i64 0, .int .i64 0, .int .i64 0, .int .i64 0, .int .i64 0, .int .i64 0, .int .i64 0, .int .i64 0, .int .i64 0, .int .i64 0]) ∧ i0.size = 15 ∧ i0.bytes = 120) := ⟨hi, hz0, hz1, hz2⟩
  obtain ⟨r2, cr2⟩ := h.rcd.cell 2 (by omega)
  obtain ⟨r3, cr3⟩ := h.rcd.cell 3 (by omega)
  obtain ⟨r4, cr4⟩ := h.rcd.cell 4 (by omega)
  obtain ⟨r5, cr5⟩ := h.rcd.cell 5 (by omega)
  obtain ⟨r6, cr6⟩ := h.rcd.cell 6 (by omega)
  have hgr := h.rcd.lt
  have HA : Hid (Aud base w w v m gr) := h
  obtain ⟨p, cap, rfl, hp⟩ := h.row.shape'
  clear h hi hz0 hz1 hz2
  go_enter Tryz.func84, Tryz.ntmps84
  go_wp2
  go_loopw [6] (fun i wr => ∃ k j : Nat, i = .int .i64 k ∧ k ≤ m ∧ wr = w.drewN j) (fun i _ => m - (intOf i).toNat)
  case atStart => exact ⟨0, 0, rfl, Nat.zero_le _, rfl⟩
  case round =>
    obtain ⟨k, j, rfl, hk, rfl⟩ := hrel
    replace HA : Hid (Aud base w (w.drewN j) (.slice p m cap) m gr) := HA.out.drewN j
    replace cr2 : (w.drewN j).cell? ⟨gr, 2, none⟩ = some (.int .i64 r2) := cr2
    replace cr3 : (w.drewN j).cell? ⟨gr, 3, none⟩ = some (.int .i64 r3) := cr3
    replace cr4 : (w.drewN j).cell? ⟨gr, 4, none⟩ = some (.int .i64 r4) := cr4
    replace cr5 : (w.drewN j).cell? ⟨gr, 5, none⟩ = some (.int .i64 r5) := cr5
    replace cr6 : (w.drewN j).cell? ⟨gr, 6, none⟩ = some (.int .i64 r6) := cr6
    have hsz : (w.drewN j).heap.size = w.heap.size := rfl
    have HW : Hid (∃ a, w.drewN j = w.drewN a) := ⟨j, rfl⟩
    have hp' : m = 0 ∨ ∃ g, p = some ⟨g, 0, none⟩ ∧ base ≤ g ∧ IntBlock (w.drewN j) g 125 (m * 15) := hp
    generalize w.drewN j = W at *
    by_cases hlt : k < m
    · have hkI : (k : Int) < (m : Int) := by omega
      obtain ⟨g, rfl, hg, hib⟩ := hp'.resolve_left (by omega)
      obtain ⟨x0, c0⟩ := hib.cell (k * 15) (by omega)
      clear hp hp' hib
      go_wp2_with fail
      cases e0 : (x0 == r2)
      · go_quiet (fail)
        go_wp2
        go_roundw
        case rel =>
          obtain ⟨a, ha⟩ := HW.out
          exact ⟨k + 1, a + nq, by go_num, by omega, by rw [ha, drewN_add]⟩
        case measure => simp [intOf]; omega
      · go_quiet (fail)
        go_wp2
        go_ret2
        exact ⟨_, _, _, rfl, Nat.le_succ _, (HA.out.drewN _).back⟩
    · have hkM : ¬ (k : Int) < (m : Int) := by omega
      go_wp2_with fail
      cases q1 : (r2 == 0)
      case true =>
        go_quiet (fail)
        go_wp2
        go_ret2
        exact ⟨_, _, _, rfl, Nat.le_succ _, (HA.out.drewN _).back⟩
      by_cases q2 : r3 < 1
      · go_quiet (fail)
        go_wp2
        go_ret2
        exact ⟨_, _, _, rfl, Nat.le_succ _, (HA.out.drewN _).back⟩
      by_cases q3 : 2 < r3
      · go_quiet (fail)
        go_wp2
        go_ret2
        exact ⟨_, _, _, rfl, Nat.le_succ _, (HA.out.drewN _).back⟩
      by_cases q4 : r6 < 1
      · go_quiet (fail)
        go_wp2
        go_ret2
        exact ⟨_, _, _, rfl, Nat.le_succ _, (HA.out.drewN _).back⟩
      by_cases q5 : 3 < r6
      · go_quiet (fail)
        go_wp2
        go_ret2
        exact ⟨_, _, _, rfl, Nat.le_succ _, (HA.out.drewN _).back⟩
      cases q6 : (r5 == 0)
      case true =>
        go_quiet (fail)
        go_wp2
        go_ret2
        exact ⟨_, _, _, rfl, Nat.le_succ _, (HA.out.drewN _).back⟩
      cases q7 : (r6 == 3)
      · cases q8 : (r4 == 0)
        · go_quiet (fail)
          go_wp2_with fail
          replace HA : Hid (Aud base w (W.drewN nq) (.slice p m cap) m gr) := HA.out.drewN nq
          have d2 : (W.drewN nq).cell? ⟨gr, 2, none⟩ = some (.int .i64 r2) := cr2
          have d3 : (W.drewN nq).cell? ⟨gr, 3, none⟩ = some (.int .i64 r3) := cr3
          have d4 : (W.drewN nq).cell? ⟨gr, 4, none⟩ = some (.int .i64 r4) := cr4
          have d5 : (W.drewN nq).cell? ⟨gr, 5, none⟩ = some (.int .i64 r5) := cr5
          have d6 : (W.drewN nq).cell? ⟨gr, 6, none⟩ = some (.int .i64 r6) := cr6
          have hs2 : gr < (W.drewN nq).heap.size := by show gr < W.heap.size; omega
          have hb2 : base ≤ (W.drewN nq).heap.size := by show base ≤ W.heap.size; omega
          clear cr2 cr3 cr4 cr5 cr6 q1 q2 q3 q4 q5 q6 q7 q8 hp hp' hsz
          generalize W.drewN nq = W2 at *
          obtain ⟨xs, hown, hints⟩ := HA.out.row
          have HOWN : Hid (W2.ownsRow base 125 15 (.slice p m cap) m xs ∧ ∀ u ∈ xs, ∃ x, u = .int .i64 x) := ⟨hown, hints⟩
          have hrow : some gr ≠ (Value.slice p m cap).ownBlock := fun e => by
            obtain ⟨cur, b1⟩ := row_type hown e.symm
            obtain ⟨cur', b2, _⟩ := HA.out.rcd
            exact absurd (block_type b1 b2) (by decide)
          clear hown hints
          have HC1 : Hid (∀ (j : Nat) (u : Value), [.int .i64 r2, .int .i64 r3, .int .i64 r6, .int .i64 r5, .int .i64 0, .int .i64 0, .int .i64 0, .int .i64 0, .int .i64 1, .int .i64 r4, .int .i64 r5, .int .i64 0, .int .i64 0, .int .i64 0, .int .i64 0][j]? = some u → (W2.alloc (.cells #[.int .i64 r2, .int .i64 r3, .int .i64 r6, .int .i64 r5, .int .i64 0, .int .i64 0, .int .i64 0, .int .i64 0, .int .i64 1, .int .i64 r4, .int .i64 r5, .int .i64 0, .int .i64 0, .int .i64 0, .int .i64 0] 125)).drew.cell? (Addr.add ⟨W2.heap.size, 0, none⟩ j) = some u) := fun j u hj => by
            rw [Addr.add_lit, Nat.zero_add]
            exact cell_new W2 #[.int .i64 r2, .int .i64 r3, .int .i64 r6, .int .i64 r5, .int .i64 0, .int .i64 0, .int .i64 0, .int .i64 0, .int .i64 1, .int .i64 r4, .int .i64 r5, .int .i64 0, .int .i64 0, .int .i64 0, .int .i64 0] 125 j u (by simp; exact hj)
          have HC2 : Hid (∀ u ∈ ([.int .i64 r2, .int .i64 r3, .int .i64 r6, .int .i64 r5, .int .i64 0, .int .i64 0, .int .i64 0, .int .i64 0, .int .i64 1, .int .i64 r4, .int .i64 r5, .int .i64 0, .int .i64 0, .int .i64 0, .int .i64 0] : List Value), ∃ x, u = .int .i64 x) := fun u hu => by
            simp at hu
            rcases hu with rfl | rfl | rfl | rfl | rfl | rfl | rfl | rfl | rfl <;> exact ⟨_, rfl⟩
          have HC3 : Hid (m + 1 ≤ maxLen ∧ (m + 1) * 120 ≤ 140737488355328 ∧ base ≤ (W2.alloc (.cells #[.int .i64 r2, .int .i64 r3, .int .i64 r6, .int .i64 r5, .int .i64 0, .int .i64 0, .int .i64 0, .int .i64 0, .int .i64 1, .int .i64 r4, .int .i64 r5, .int .i64 0, .int .i64 0, .int .i64 0, .int .i64 0] 125)).drew.heap.size ∧ (W2.alloc (.cells #[.int .i64 r2, .int .i64 r3, .int .i64 r6, .int .i64 r5, .int .i64 0, .int .i64 0, .int .i64 0, .int .i64 0, .int .i64 1, .int .i64 r4, .int .i64 r5, .int .i64 0, .int .i64 0, .int .i64 0, .int .i64 0] 125)).drew.heap.size = W2.heap.size + 1) := ⟨by unfold maxLen; omega, by omega, by show base ≤ (W2.alloc _).heap.size; simp; omega, by show (W2.alloc _).heap.size = _; simp⟩
          have HW2 : Hid ((W2.alloc (.cells #[.int .i64 r2, .int .i64 r3, .int .i64 r6, .int .i64 r5, .int .i64 0, .int .i64 0, .int .i64 0, .int .i64 0, .int .i64 1, .int .i64 r4, .int .i64 r5, .int .i64 0, .int .i64 0, .int .i64 0, .int .i64 0] 125)).drew.ownsRow base 125 15 (.slice p m cap) m xs) := owns_drew (World.ownsRow.alloc HOWN.out.1 _)
          have HNX : Hid (∀ (g cap' : Nat) (w1 : World), w1.ownsRow base 125 15 (.slice (some ⟨g, 0, none⟩) (m + 1) cap') (m + 1) (xs ++ [.int .i64 r2, .int .i64 r3, .int .i64 r6, .int .i64 r5, .int .i64 0, .int .i64 0, .int .i64 0, .int .i64 0, .int .i64 1, .int .i64 r4, .int .i64 r5, .int .i64 0, .int .i64 0, .int .i64 0, .int .i64 0]) → (W2.alloc (.cells #[.int .i64 r2, .int .i64 r3, .int .i64 r6, .int .i64 r5, .int .i64 0, .int .i64 0, .int .i64 0, .int .i64 0, .int .i64 1, .int .i64 r4, .int .i64 r5, .int .i64 0, .int .i64 0, .int .i64 0, .int .i64 0] 125)).drew.grownBy w1 (Value.slice p m cap).ownBlock → (∀ j u, W2.cell? ⟨gr, j, none⟩ = some u → w1.cell? ⟨gr, j, none⟩ = some u) ∧ Aud base w w1 (.slice (some ⟨g, 0, none⟩) (m + 1) cap') (m + 1) gr) := fun g cap' w1 hown1 hgrow => ⟨fun j u hj => (hgrow.cell_far ⟨gr, j, none⟩ (by show gr < (W2.alloc _).heap.size; simp; omega) hrow).trans ((World.cell?_alloc_lt W2 _ ⟨gr, j, none⟩ hs2).trans hj), ⟨⟨_, hown1, fun u hu => by
            rcases List.mem_append.1 hu with hu | hu
            · exact HOWN.out.2 u hu
            · exact HC2.out u hu⟩, (HA.out.rcd.alloc _).of_block (hgrow.block gr (by show gr < (W2.alloc _).heap.size; simp; omega) hrow), (below_drew2 (HA.out.low.alloc hb2 _)).grown (B := base) hgrow HC3.out.2.2.1 (fun q hq => (HOWN.out.1.lt q hq).1)⟩⟩
          go_region_held3 (fun X => X.cell? ⟨gr, 2, none⟩ = some (.int .i64 r2) ∧ X.cell? ⟨gr, 3, none⟩ = some (.int .i64 r3) ∧ X.cell? ⟨gr, 4, none⟩ = some (.int .i64 r4) ∧ X.cell? ⟨gr, 5, none⟩ = some (.int .i64 r5) ∧ X.cell? ⟨gr, 6, none⟩ = some (.int .i64 r6)) (first
            | exact ⟨d2, d3, d4, d5, d6⟩
            | exact ⟨(World.cell?_alloc_lt _ _ _ hs2).trans d2, (World.cell?_alloc_lt _ _ _ hs2).trans d3, (World.cell?_alloc_lt _ _ _ hs2).trans d4, (World.cell?_alloc_lt _ _ _ hs2).trans d5, (World.cell?_alloc_lt _ _ _ hs2).trans d6⟩
            | exact ⟨hW1 2 _ d2, hW1 3 _ d3, hW1 4 _ d4, hW1 5 _ d5, hW1 6 _ d6⟩) ((
            refine step_append_lies _ (by rfl) _ _ 75 (by rfl) base 125 i0 _ 15 120 Tryz.underlying75 HINF.out.1 HINF.out.2.1 HINF.out.2.2.1 HINF.out.2.2.2 rfl (by decide) (.slice p m cap) m xs (by rfl) HW2.out ⟨W2.heap.size, 0, none⟩ 1 1 [.int .i64 r2, .int .i64 r3, .int .i64 r6, .int .i64 r5, .int .i64 0, .int .i64 0, .int .i64 0, .int .i64 0, .int .i64 1, .int .i64 r4, .int .i64 r5, .int .i64 0, .int .i64 0, .int .i64 0, .int .i64 0] (by rfl) rfl HC1.out (oneCell_ints HC2.out) (by decide) HC3.out.1 HC3.out.2.1 HC3.out.2.2.1 (W2.heap.size + 1) HC3.out.2.2.2 ?_
            intro g cap' w1 hown1 hgrow hat hltg
            have hW1 := (HNX.out g cap' w1 hown1 hgrow).1
            have HX : Hid (Aud base w w1 (.slice (some ⟨g, 0, none⟩) (m + 1) cap') (m + 1) gr) := (HNX.out g cap' w1 hown1 hgrow).2
            clear hown1 hgrow hat hltg))
          go_wp2
          go_ret2
          exact ⟨_, _, _, rfl, Nat.le_refl _, HX.out.back⟩
        · go_quiet (fail)
          go_wp2
          go_ret2
          exact ⟨_, _, _, rfl, Nat.le_succ _, (HA.out.drewN _).back⟩
      · cases q8 : (r4 == 0)
        · go_quiet (fail)
          go_wp2
          go_ret2
          exact ⟨_, _, _, rfl, Nat.le_succ _, (HA.out.drewN _).back⟩
        · go_quiet (fail)
          go_wp2_with fail
          replace HA : Hid (Aud base w (W.drewN nq) (.slice p m cap) m gr) := HA.out.drewN nq
          have d2 : (W.drewN nq).cell? ⟨gr, 2, none⟩ = some (.int .i64 r2) := cr2
          have d3 : (W.drewN nq).cell? ⟨gr, 3, none⟩ = some (.int .i64 r3) := cr3
          have d4 : (W.drewN nq).cell? ⟨gr, 4, none⟩ = some (.int .i64 r4) := cr4
          have d5 : (W.drewN nq).cell? ⟨gr, 5, none⟩ = some (.int .i64 r5) := cr5
          have d6 : (W.drewN nq).cell? ⟨gr, 6, none⟩ = some (.int .i64 r6) := cr6
          have hs2 : gr < (W.drewN nq).heap.size := by show gr < W.heap.size; omega
          have hb2 : base ≤ (W.drewN nq).heap.size := by show base ≤ W.heap.size; omega
          clear cr2 cr3 cr4 cr5 cr6 q1 q2 q3 q4 q5 q6 q7 q8 hp hp' hsz
          generalize W.drewN nq = W2 at *
          obtain ⟨xs, hown, hints⟩ := HA.out.row
          have HOWN : Hid (W2.ownsRow base 125 15 (.slice p m cap) m xs ∧ ∀ u ∈ xs, ∃ x, u = .int .i64 x) := ⟨hown, hints⟩
          have hrow : some gr ≠ (Value.slice p m cap).ownBlock := fun e => by
            obtain ⟨cur, b1⟩ := row_type hown e.symm
            obtain ⟨cur', b2, _⟩ := HA.out.rcd
            exact absurd (block_type b1 b2) (by decide)
          clear hown hints
          have HC1 : Hid (∀ (j : Nat) (u : Value), [.int .i64 r2, .int .i64 r3, .int .i64 r6, .int .i64 r5, .int .i64 0, .int .i64 0, .int .i64 0, .int .i64 0, .int .i64 1, .int .i64 r4, .int .i64 r5, .int .i64 0, .int .i64 0, .int .i64 0, .int .i64 0][j]? = some u → (W2.alloc (.cells #[.int .i64 r2, .int .i64 r3, .int .i64 r6, .int .i64 r5, .int .i64 0, .int .i64 0, .int .i64 0, .int .i64 0, .int .i64 1, .int .i64 r4, .int .i64 r5, .int .i64 0, .int .i64 0, .int .i64 0, .int .i64 0] 125)).drew.cell? (Addr.add ⟨W2.heap.size, 0, none⟩ j) = some u) := fun j u hj => by
            rw [Addr.add_lit, Nat.zero_add]
            exact cell_new W2 #[.int .i64 r2, .int .i64 r3, .int .i64 r6, .int .i64 r5, .int .i64 0, .int .i64 0, .int .i64 0, .int .i64 0, .int .i64 1, .int .i64 r4, .int .i64 r5, .int .i64 0, .int .i64 0, .int .i64 0, .int .i64 0] 125 j u (by simp; exact hj)
          have HC2 : Hid (∀ u ∈ ([.int .i64 r2, .int .i64 r3, .int .i64 r6, .int .i64 r5, .int .i64 0, .int .i64 0, .int .i64 0, .int .i64 0, .int .i64 1, .int .i64 r4, .int .i64 r5, .int .i64 0, .int .i64 0, .int .i64 0, .int .i64 0] : List Value), ∃ x, u = .int .i64 x) := fun u hu => by
            simp at hu
            rcases hu with rfl | rfl | rfl | rfl | rfl | rfl | rfl | rfl | rfl <;> exact ⟨_, rfl⟩
          have HC3 : Hid (m + 1 ≤ maxLen ∧ (m + 1) * 120 ≤ 140737488355328 ∧ base ≤ (W2.alloc (.cells #[.int .i64 r2, .int .i64 r3, .int .i64 r6, .int .i64 r5, .int .i64 0, .int .i64 0, .int .i64 0, .int .i64 0, .int .i64 1, .int .i64 r4, .int .i64 r5, .int .i64 0, .int .i64 0, .int .i64 0, .int .i64 0] 125)).drew.heap.size ∧ (W2.alloc (.cells #[.int .i64 r2, .int .i64 r3, .int .i64 r6, .int .i64 r5, .int .i64 0, .int .i64 0, .int .i64 0, .int .i64 0, .int .i64 1, .int .i64 r4, .int .i64 r5, .int .i64 0, .int .i64 0, .int .i64 0, .int .i64 0] 125)).drew.heap.size = W2.heap.size + 1) := ⟨by unfold maxLen; omega, by omega, by show base ≤ (W2.alloc _).heap.size; simp; omega, by show (W2.alloc _).heap.size = _; simp⟩
          have HW2 : Hid ((W2.alloc (.cells #[.int .i64 r2, .int .i64 r3, .int .i64 r6, .int .i64 r5, .int .i64 0, .int .i64 0, .int .i64 0, .int .i64 0, .int .i64 1, .int .i64 r4, .int .i64 r5, .int .i64 0, .int .i64 0, .int .i64 0, .int .i64 0] 125)).drew.ownsRow base 125 15 (.slice p m cap) m xs) := owns_drew (World.ownsRow.alloc HOWN.out.1 _)
          have HNX : Hid (∀ (g cap' : Nat) (w1 : World), w1.ownsRow base 125 15 (.slice (some ⟨g, 0, none⟩) (m + 1) cap') (m + 1) (xs ++ [.int .i64 r2, .int .i64 r3, .int .i64 r6, .int .i64 r5, .int .i64 0, .int .i64 0, .int .i64 0, .int .i64 0, .int .i64 1, .int .i64 r4, .int .i64 r5, .int .i64 0, .int .i64 0, .int .i64 0, .int .i64 0]) → (W2.alloc (.cells #[.int .i64 r2, .int .i64 r3, .int .i64 r6, .int .i64 r5, .int .i64 0, .int .i64 0, .int .i64 0, .int .i64 0, .int .i64 1, .int .i64 r4, .int .i64 r5, .int .i64 0, .int .i64 0, .int .i64 0, .int .i64 0] 125)).drew.grownBy w1 (Value.slice p m cap).ownBlock → (∀ j u, W2.cell? ⟨gr, j, none⟩ = some u → w1.cell? ⟨gr, j, none⟩ = some u) ∧ Aud base w w1 (.slice (some ⟨g, 0, none⟩) (m + 1) cap') (m + 1) gr) := fun g cap' w1 hown1 hgrow => ⟨fun j u hj => (hgrow.cell_far ⟨gr, j, none⟩ (by show gr < (W2.alloc _).heap.size; simp; omega) hrow).trans ((World.cell?_alloc_lt W2 _ ⟨gr, j, none⟩ hs2).trans hj), ⟨⟨_, hown1, fun u hu => by
            rcases List.mem_append.1 hu with hu | hu
            · exact HOWN.out.2 u hu
            · exact HC2.out u hu⟩, (HA.out.rcd.alloc _).of_block (hgrow.block gr (by show gr < (W2.alloc _).heap.size; simp; omega) hrow), (below_drew2 (HA.out.low.alloc hb2 _)).grown (B := base) hgrow HC3.out.2.2.1 (fun q hq => (HOWN.out.1.lt q hq).1)⟩⟩
          go_region_held3 (fun X => X.cell? ⟨gr, 2, none⟩ = some (.int .i64 r2) ∧ X.cell? ⟨gr, 3, none⟩ = some (.int .i64 r3) ∧ X.cell? ⟨gr, 4, none⟩ = some (.int .i64 r4) ∧ X.cell? ⟨gr, 5, none⟩ = some (.int .i64 r5) ∧ X.cell? ⟨gr, 6, none⟩ = some (.int .i64 r6)) (first
            | exact ⟨d2, d3, d4, d5, d6⟩
            | exact ⟨(World.cell?_alloc_lt _ _ _ hs2).trans d2, (World.cell?_alloc_lt _ _ _ hs2).trans d3, (World.cell?_alloc_lt _ _ _ hs2).trans d4, (World.cell?_alloc_lt _ _ _ hs2).trans d5, (World.cell?_alloc_lt _ _ _ hs2).trans d6⟩
            | exact ⟨hW1 2 _ d2, hW1 3 _ d3, hW1 4 _ d4, hW1 5 _ d5, hW1 6 _ d6⟩) ((
            refine step_append_lies _ (by rfl) _ _ 75 (by rfl) base 125 i0 _ 15 120 Tryz.underlying75 HINF.out.1 HINF.out.2.1 HINF.out.2.2.1 HINF.out.2.2.2 rfl (by decide) (.slice p m cap) m xs (by rfl) HW2.out ⟨W2.heap.size, 0, none⟩ 1 1 [.int .i64 r2, .int .i64 r3, .int .i64 r6, .int .i64 r5, .int .i64 0, .int .i64 0, .int .i64 0, .int .i64 0, .int .i64 1, .int .i64 r4, .int .i64 r5, .int .i64 0, .int .i64 0, .int .i64 0, .int .i64 0] (by rfl) rfl HC1.out (oneCell_ints HC2.out) (by decide) HC3.out.1 HC3.out.2.1 HC3.out.2.2.1 (W2.heap.size + 1) HC3.out.2.2.2 ?_
            intro g cap' w1 hown1 hgrow hat hltg
            have hW1 := (HNX.out g cap' w1 hown1 hgrow).1
            have HX : Hid (Aud base w w1 (.slice (some ⟨g, 0, none⟩) (m + 1) cap') (m + 1) gr) := (HNX.out g cap' w1 hown1 hgrow).2
            clear hown1 hgrow hat hltg))
          go_wp2
          go_ret2
          exact ⟨_, _, _, rfl, Nat.le_refl _, HX.out.back⟩
end Go.Proofs.YtcajmohgjojhhaaGreatDoor
