import Derived.Test.YtcajmohgjojhhaaGreatDoorAud3
import Derived.Test.YtcajmohgjojhhaaGreatDoorAud4
set_option linter.unusedVariables false
set_option linter.unusedSimpArgs false
namespace Go.Proofs.YtcajmohgjojhhaaGreatDoor
open Go.RowKit Go.Extern

theorem SomeBool.of {e : Ending} {r : Bool} (h : e = .returned (.bool r)) : SomeBool e := ⟨r, h⟩

set_option maxRecDepth 100000 in
set_option maxHeartbeats 8000000 in
theorem take_1 (base : Nat) (w : World) (v : Value) (m gr : Nat) (h : Aud base w w v m gr) (hb : base ≤ w.heap.size) (hm : m ≤ 100000000) (h0 : w.cell? ⟨gr, 0, none⟩ = some (.int .i64 1)) :
    Calls Tryz.prog 65 #[v, .pointer (some ⟨gr, 0, none⟩)] w fun e w' => TakeBack base w m e w' := by
  obtain ⟨p, cap, rfl, -⟩ := h.row.shape'
  have HA : Hid (Aud base w w (.slice p m cap) m gr) := h
  have HC : Hid (Calls Tryz.prog 84 #[.slice p m cap, .pointer (some ⟨gr, 0, none⟩)] w fun e w' => TakeBack base w m e w') := accepted_any base w _ m gr h hb hm
  clear h
  go_enter Tryz.func65, Tryz.ntmps65
  go_wp2_with fail
  refine HC.out.mono ?_
  rintro e w1 ⟨v', m', r, rfl, h1, h2, h3⟩
  have HX : Hid (m' ≤ m + 1 ∧ SR base w1 v' m' ∧ Below base w w1) := ⟨h1, h2, h3⟩
  clear h1 h2 h3
  go_wp2
  go_ret2
  exact ⟨_, _, _, rfl, HX.out.1, HX.out.2⟩

set_option maxRecDepth 100000 in
set_option maxHeartbeats 8000000 in
theorem take_2 (base : Nat) (w : World) (v : Value) (m gr : Nat) (h : Aud base w w v m gr) (hb : base ≤ w.heap.size) (hm : m ≤ 100000000) (h0 : w.cell? ⟨gr, 0, none⟩ = some (.int .i64 2)) :
    Calls Tryz.prog 65 #[v, .pointer (some ⟨gr, 0, none⟩)] w fun e w' => TakeBack base w m e w' := by
  obtain ⟨p, cap, rfl, -⟩ := h.row.shape'
  have HA : Hid (Aud base w w (.slice p m cap) m gr) := h
  obtain ⟨r3, cr3⟩ := h.rcd.cell 3 (by omega)
  obtain ⟨r4, cr4⟩ := h.rcd.cell 4 (by omega)
  obtain ⟨r5, cr5⟩ := h.rcd.cell 5 (by omega)
  obtain ⟨r6, cr6⟩ := h.rcd.cell 6 (by omega)
  clear h
  go_enter Tryz.func65, Tryz.ntmps65
  go_wp2_with fail
  cases q1 : (r3 == 0)
  case false =>
    go_quiet (fail)
    go_wp2
    go_ret2
    exact ⟨_, _, _, rfl, Nat.le_succ _, (HA.out.drewN _).back⟩
  cases q2 : (r4 == 0)
  case false =>
    go_quiet (fail)
    go_wp2
    go_ret2
    exact ⟨_, _, _, rfl, Nat.le_succ _, (HA.out.drewN _).back⟩
  cases q3 : (r5 == 0)
  case false =>
    go_quiet (fail)
    go_wp2
    go_ret2
    exact ⟨_, _, _, rfl, Nat.le_succ _, (HA.out.drewN _).back⟩
  by_cases q4 : 1 ≤ r6
  · by_cases q5 : r6 ≤ 10
    · go_quiet (fail)
      go_wp2
      go_ret2
      exact ⟨_, _, _, rfl, Nat.le_succ _, (HA.out.drewN _).back⟩
    · go_quiet (fail)
      go_wp2
      go_ret2
      exact ⟨_, _, _, rfl, Nat.le_succ _, (HA.out.drewN _).back⟩
  · go_quiet (fail)
    go_wp2
    go_ret2
    exact ⟨_, _, _, rfl, Nat.le_succ _, (HA.out.drewN _).back⟩

set_option maxRecDepth 100000 in
set_option maxHeartbeats 8000000 in
theorem take_3 (base : Nat) (w : World) (v : Value) (m gr : Nat) (h : Aud base w w v m gr) (hb : base ≤ w.heap.size) (hm : m ≤ 100000000) (h0 : w.cell? ⟨gr, 0, none⟩ = some (.int .i64 3)) :
    Calls Tryz.prog 65 #[v, .pointer (some ⟨gr, 0, none⟩)] w fun e w' => TakeBack base w m e w' := by
  obtain ⟨p, cap, rfl, -⟩ := h.row.shape'
  have HA : Hid (Aud base w w (.slice p m cap) m gr) := h
  have HC : Hid (Calls Tryz.prog 85 #[.slice p m cap, .pointer (some ⟨gr, 0, none⟩)] w fun e w' => SomeBool e ∧ SR base w' (.slice p m cap) m ∧ Below base w w') := traded_any base w _ m gr h.row h.rcd (by omega)
  clear h
  go_enter Tryz.func65, Tryz.ntmps65
  go_wp2_with fail
  refine HC.out.mono ?_
  rintro e w1 ⟨⟨r, rfl⟩, h2⟩
  have HX : Hid (SR base w1 (.slice p m cap) m ∧ Below base w w1) := h2
  clear h2
  go_wp2
  go_ret2
  exact ⟨_, _, _, rfl, Nat.le_succ _, HX.out⟩
end Go.Proofs.YtcajmohgjojhhaaGreatDoor

namespace Go.Proofs.YtcajmohgjojhhaaGreatDoor
open Go.RowKit Go.Extern

set_option maxRecDepth 100000 in
set_option maxHeartbeats 8000000 in
theorem take_4 (base : Nat) (w : World) (v : Value) (m gr : Nat) (h : Aud base w w v m gr) (hb : base ≤ w.heap.size) (hm : m ≤ 100000000) (h0 : w.cell? ⟨gr, 0, none⟩ = some (.int .i64 4)) :
    Calls Tryz.prog 65 #[v, .pointer (some ⟨gr, 0, none⟩)] w fun e w' => TakeBack base w m e w' := by
  obtain ⟨p, cap, rfl, -⟩ := h.row.shape'
  have HA : Hid (Aud base w w (.slice p m cap) m gr) := h
  obtain ⟨r2, cr2⟩ := h.rcd.cell 2 (by omega)
  obtain ⟨r3, cr3⟩ := h.rcd.cell 3 (by omega)
  obtain ⟨r4, cr4⟩ := h.rcd.cell 4 (by omega)
  obtain ⟨r5, cr5⟩ := h.rcd.cell 5 (by omega)
  obtain ⟨r6, cr6⟩ := h.rcd.cell 6 (by omega)
  have HL : Hid (Calls Tryz.prog 86 #[.slice p m cap, .int .i64 r2] w fun e w' => (e = .returned (.int .i64 (-1)) ∨ ∃ i : Nat, i < m ∧ e = .returned (.int .i64 (i : Int))) ∧ w' = w) := live_any base w _ m r2 h.row (by omega)
  clear h
  go_enter Tryz.func65, Tryz.ntmps65
  go_wp2_with fail
  refine HL.out.mono ?_
  clear HL
  rintro e w1 ⟨h1, rfl⟩
  rcases h1 with rfl | ⟨i, hi, rfl⟩
  · go_wp2
    go_ret2
    exact ⟨_, _, _, rfl, Nat.le_succ _, HA.out.back⟩
  have hi0 : decide ((i : Int) < 0) = false := decide_eq_false (by omega)
  have hiI : (i : Int) < (m : Int) := by omega
  cases e3 : (r3 != 0)
  case true =>
    go_wp2
    go_ret2
    exact ⟨_, _, _, rfl, Nat.le_succ _, HA.out.back⟩
  obtain ⟨g, rfl⟩ : ∃ g, p = some ⟨g, 0, none⟩ := by
    rcases HA.out.row.shape with ⟨-, e⟩ | ⟨g, cap', e, _⟩
    · omega
    · injection e with e1 e2 e3
      exact ⟨g, e1⟩
  have hg := HA.out.above
  obtain ⟨o2, c2⟩ := HA.out.block.cell (i * 15 + 2) (by omega)
  obtain ⟨o8, c8⟩ := HA.out.block.cell (i * 15 + 8) (by omega)
  obtain ⟨o9, c9⟩ := HA.out.block.cell (i * 15 + 9) (by omega)
  obtain ⟨o10, c10⟩ := HA.out.block.cell (i * 15 + 10) (by omega)
  obtain ⟨o12, c12⟩ := HA.out.block.cell (i * 15 + 12) (by omega)
  obtain ⟨o13, c13⟩ := HA.out.block.cell (i * 15 + 13) (by omega)
  have f8 := HA.out.block.froz (i * 15 + 8)
  have f9 := HA.out.block.froz (i * 15 + 9)
  have f10 := HA.out.block.froz (i * 15 + 10)
  have f12 := HA.out.block.froz (i * 15 + 12)
  have f13 := HA.out.block.froz (i * 15 + 13)
  go_wp2_with fail
  cases q1 : (r4 != 0)
  case true =>
    go_quiet (fail)
    go_wp2
    go_ret2
    refine ⟨_, _, _, rfl, Nat.le_succ _, Aud.back (gr := gr) ?_⟩
    repeat (first | exact HA.out | refine Aud.set ?_ _ _ hg _ | refine Aud.drewN ?_ _ | refine Aud.drew ?_)
  cases q2 : (r5 != o10)
  case true =>
    go_quiet (fail)
    go_wp2
    go_ret2
    refine ⟨_, _, _, rfl, Nat.le_succ _, Aud.back (gr := gr) ?_⟩
    repeat (first | exact HA.out | refine Aud.set ?_ _ _ hg _ | refine Aud.drewN ?_ _ | refine Aud.drew ?_)
  by_cases q3 : r6 < 1
  · go_quiet (fail)
    go_wp2
    go_ret2
    refine ⟨_, _, _, rfl, Nat.le_succ _, Aud.back (gr := gr) ?_⟩
    repeat (first | exact HA.out | refine Aud.set ?_ _ _ hg _ | refine Aud.drewN ?_ _ | refine Aud.drew ?_)
  by_cases q4 : 3 < r6
  · go_quiet (fail)
    go_wp2
    go_ret2
    refine ⟨_, _, _, rfl, Nat.le_succ _, Aud.back (gr := gr) ?_⟩
    repeat (first | exact HA.out | refine Aud.set ?_ _ _ hg _ | refine Aud.drewN ?_ _ | refine Aud.drew ?_)
  · go_quiet (fail)
    go_wp2
    go_ret2
    refine ⟨_, _, _, rfl, Nat.le_succ _, Aud.back (gr := gr) ?_⟩
    repeat (first | exact HA.out | refine Aud.set ?_ _ _ hg _ | refine Aud.drewN ?_ _ | refine Aud.drew ?_)

set_option maxRecDepth 100000 in
set_option maxHeartbeats 8000000 in
theorem take_5 (base : Nat) (w : World) (v : Value) (m gr : Nat) (h : Aud base w w v m gr) (hb : base ≤ w.heap.size) (hm : m ≤ 100000000) (h0 : w.cell? ⟨gr, 0, none⟩ = some (.int .i64 5)) :
    Calls Tryz.prog 65 #[v, .pointer (some ⟨gr, 0, none⟩)] w fun e w' => TakeBack base w m e w' := by
  obtain ⟨p, cap, rfl, -⟩ := h.row.shape'
  have HA : Hid (Aud base w w (.slice p m cap) m gr) := h
  obtain ⟨r2, cr2⟩ := h.rcd.cell 2 (by omega)
  obtain ⟨r3, cr3⟩ := h.rcd.cell 3 (by omega)
  obtain ⟨r4, cr4⟩ := h.rcd.cell 4 (by omega)
  obtain ⟨r5, cr5⟩ := h.rcd.cell 5 (by omega)
  obtain ⟨r6, cr6⟩ := h.rcd.cell 6 (by omega)
  have HL : Hid (Calls Tryz.prog 86 #[.slice p m cap, .int .i64 r2] w fun e w' => (e = .returned (.int .i64 (-1)) ∨ ∃ i : Nat, i < m ∧ e = .returned (.int .i64 (i : Int))) ∧ w' = w) := live_any base w _ m r2 h.row (by omega)
  clear h
  go_enter Tryz.func65, Tryz.ntmps65
  go_wp2_with fail
  refine HL.out.mono ?_
  clear HL
  rintro e w1 ⟨h1, rfl⟩
  rcases h1 with rfl | ⟨i, hi, rfl⟩
  · go_wp2
    go_ret2
    exact ⟨_, _, _, rfl, Nat.le_succ _, HA.out.back⟩
  have hi0 : decide ((i : Int) < 0) = false := decide_eq_false (by omega)
  have hiI : (i : Int) < (m : Int) := by omega
  cases e3 : (r3 != 0)
  case true =>
    go_wp2
    go_ret2
    exact ⟨_, _, _, rfl, Nat.le_succ _, HA.out.back⟩
  obtain ⟨g, rfl⟩ : ∃ g, p = some ⟨g, 0, none⟩ := by
    rcases HA.out.row.shape with ⟨-, e⟩ | ⟨g, cap', e, _⟩
    · omega
    · injection e with e1 e2 e3
      exact ⟨g, e1⟩
  have hg := HA.out.above
  obtain ⟨o2, c2⟩ := HA.out.block.cell (i * 15 + 2) (by omega)
  obtain ⟨o8, c8⟩ := HA.out.block.cell (i * 15 + 8) (by omega)
  obtain ⟨o9, c9⟩ := HA.out.block.cell (i * 15 + 9) (by omega)
  obtain ⟨o10, c10⟩ := HA.out.block.cell (i * 15 + 10) (by omega)
  obtain ⟨o12, c12⟩ := HA.out.block.cell (i * 15 + 12) (by omega)
  obtain ⟨o13, c13⟩ := HA.out.block.cell (i * 15 + 13) (by omega)
  have f8 := HA.out.block.froz (i * 15 + 8)
  have f9 := HA.out.block.froz (i * 15 + 9)
  have f10 := HA.out.block.froz (i * 15 + 10)
  have f12 := HA.out.block.froz (i * 15 + 12)
  have f13 := HA.out.block.froz (i * 15 + 13)
  have HC : Hid (Calls Tryz.prog 87 #[.pointer (some ⟨g, i * 15, none⟩), .pointer (some ⟨gr, 0, none⟩)] w1 fun e w' => RepBack base w1 (.slice (some ⟨g, 0, none⟩) m cap) m gr e w') := replaced_any base w1 m gr g cap (i * 15) HA.out (by omega)
  go_wp2_with fail
  refine HC.out.mono ?_
  rintro e w2 ⟨⟨r, rfl⟩, h2⟩
  have HX : Hid (Aud base w1 w2 (.slice (some ⟨g, 0, none⟩) m cap) m gr) := h2
  clear h2
  go_wp2
  go_ret2
  exact ⟨_, _, _, rfl, Nat.le_succ _, HX.out.back⟩

set_option maxRecDepth 100000 in
set_option maxHeartbeats 8000000 in
theorem take_else (base : Nat) (w : World) (v : Value) (m gr : Nat) (h : Aud base w w v m gr) (hb : base ≤ w.heap.size) (hm : m ≤ 100000000) (r0 : Int) (h0 : w.cell? ⟨gr, 0, none⟩ = some (.int .i64 r0)) (k1 : r0 ≠ 1) (k2 : r0 ≠ 2) (k3 : r0 ≠ 3) (k4 : r0 ≠ 4) (k5 : r0 ≠ 5) (k6 : r0 ≠ 6) (k7 : r0 ≠ 7) :
    Calls Tryz.prog 65 #[v, .pointer (some ⟨gr, 0, none⟩)] w fun e w' => TakeBack base w m e w' := by
  obtain ⟨p, cap, rfl, -⟩ := h.row.shape'
  have HA : Hid (Aud base w w (.slice p m cap) m gr) := h
  obtain ⟨r2, cr2⟩ := h.rcd.cell 2 (by omega)
  obtain ⟨r3, cr3⟩ := h.rcd.cell 3 (by omega)
  obtain ⟨r4, cr4⟩ := h.rcd.cell 4 (by omega)
  obtain ⟨r5, cr5⟩ := h.rcd.cell 5 (by omega)
  obtain ⟨r6, cr6⟩ := h.rcd.cell 6 (by omega)
  have HL : Hid (Calls Tryz.prog 86 #[.slice p m cap, .int .i64 r2] w fun e w' => (e = .returned (.int .i64 (-1)) ∨ ∃ i : Nat, i < m ∧ e = .returned (.int .i64 (i : Int))) ∧ w' = w) := live_any base w _ m r2 h.row (by omega)
  clear h
  have n1 := beq_eq_false_iff_ne.2 k1
  have n2 := beq_eq_false_iff_ne.2 k2
  have n3 := beq_eq_false_iff_ne.2 k3
  have n4 := beq_eq_false_iff_ne.2 k4
  have n5 := beq_eq_false_iff_ne.2 k5
  have n6 := beq_eq_false_iff_ne.2 k6
  have n7 := beq_eq_false_iff_ne.2 k7
  go_enter Tryz.func65, Tryz.ntmps65
  go_wp2_with fail
  refine HL.out.mono ?_
  clear HL
  rintro e w1 ⟨h1, rfl⟩
  rcases h1 with rfl | ⟨i, hi, rfl⟩
  · go_wp2
    go_ret2
    exact ⟨_, _, _, rfl, Nat.le_succ _, HA.out.back⟩
  have hi0 : decide ((i : Int) < 0) = false := decide_eq_false (by omega)
  have hiI : (i : Int) < (m : Int) := by omega
  cases e3 : (r3 != 0)
  case true =>
    go_wp2
    go_ret2
    exact ⟨_, _, _, rfl, Nat.le_succ _, HA.out.back⟩
  obtain ⟨g, rfl⟩ : ∃ g, p = some ⟨g, 0, none⟩ := by
    rcases HA.out.row.shape with ⟨-, e⟩ | ⟨g, cap', e, _⟩
    · omega
    · injection e with e1 e2 e3
      exact ⟨g, e1⟩
  have hg := HA.out.above
  obtain ⟨o2, c2⟩ := HA.out.block.cell (i * 15 + 2) (by omega)
  obtain ⟨o8, c8⟩ := HA.out.block.cell (i * 15 + 8) (by omega)
  obtain ⟨o9, c9⟩ := HA.out.block.cell (i * 15 + 9) (by omega)
  obtain ⟨o10, c10⟩ := HA.out.block.cell (i * 15 + 10) (by omega)
  obtain ⟨o12, c12⟩ := HA.out.block.cell (i * 15 + 12) (by omega)
  obtain ⟨o13, c13⟩ := HA.out.block.cell (i * 15 + 13) (by omega)
  have f8 := HA.out.block.froz (i * 15 + 8)
  have f9 := HA.out.block.froz (i * 15 + 9)
  have f10 := HA.out.block.froz (i * 15 + 10)
  have f12 := HA.out.block.froz (i * 15 + 12)
  have f13 := HA.out.block.froz (i * 15 + 13)
  go_wp2
  all_goals
    go_ret2
    refine ⟨_, _, _, rfl, Nat.le_succ _, Aud.back (gr := gr) ?_⟩
    repeat (first | exact HA.out | refine Aud.set ?_ _ _ hg _ | refine Aud.drewN ?_ _ | refine Aud.drew ?_)
end Go.Proofs.YtcajmohgjojhhaaGreatDoor

namespace Go.Proofs.YtcajmohgjojhhaaGreatDoor
open Go.RowKit Go.Extern

set_option maxRecDepth 100000 in
set_option maxHeartbeats 8000000 in
theorem take_7 (base : Nat) (w : World) (v : Value) (m gr : Nat) (h : Aud base w w v m gr) (hb : base ≤ w.heap.size) (hm : m ≤ 100000000) (h0 : w.cell? ⟨gr, 0, none⟩ = some (.int .i64 7)) :
    Calls Tryz.prog 65 #[v, .pointer (some ⟨gr, 0, none⟩)] w fun e w' => TakeBack base w m e w' := by
  obtain ⟨p, cap, rfl, -⟩ := h.row.shape'
  have HA : Hid (Aud base w w (.slice p m cap) m gr) := h
  obtain ⟨r2, cr2⟩ := h.rcd.cell 2 (by omega)
  obtain ⟨r3, cr3⟩ := h.rcd.cell 3 (by omega)
  obtain ⟨r4, cr4⟩ := h.rcd.cell 4 (by omega)
  obtain ⟨r5, cr5⟩ := h.rcd.cell 5 (by omega)
  obtain ⟨r6, cr6⟩ := h.rcd.cell 6 (by omega)
  have HL : Hid (Calls Tryz.prog 86 #[.slice p m cap, .int .i64 r2] w fun e w' => (e = .returned (.int .i64 (-1)) ∨ ∃ i : Nat, i < m ∧ e = .returned (.int .i64 (i : Int))) ∧ w' = w) := live_any base w _ m r2 h.row (by omega)
  clear h
  go_enter Tryz.func65, Tryz.ntmps65
  go_wp2_with fail
  refine HL.out.mono ?_
  clear HL
  rintro e w1 ⟨h1, rfl⟩
  rcases h1 with rfl | ⟨i, hi, rfl⟩
  · go_wp2
    go_ret2
    exact ⟨_, _, _, rfl, Nat.le_succ _, HA.out.back⟩
  have hi0 : decide ((i : Int) < 0) = false := decide_eq_false (by omega)
  have hiI : (i : Int) < (m : Int) := by omega
  cases e3 : (r3 != 0)
  case true =>
    go_wp2
    go_ret2
    exact ⟨_, _, _, rfl, Nat.le_succ _, HA.out.back⟩
  obtain ⟨g, rfl⟩ : ∃ g, p = some ⟨g, 0, none⟩ := by
    rcases HA.out.row.shape with ⟨-, e⟩ | ⟨g, cap', e, _⟩
    · omega
    · injection e with e1 e2 e3
      exact ⟨g, e1⟩
  have hg := HA.out.above
  obtain ⟨o2, c2⟩ := HA.out.block.cell (i * 15 + 2) (by omega)
  obtain ⟨o8, c8⟩ := HA.out.block.cell (i * 15 + 8) (by omega)
  obtain ⟨o9, c9⟩ := HA.out.block.cell (i * 15 + 9) (by omega)
  obtain ⟨o10, c10⟩ := HA.out.block.cell (i * 15 + 10) (by omega)
  obtain ⟨o12, c12⟩ := HA.out.block.cell (i * 15 + 12) (by omega)
  obtain ⟨o13, c13⟩ := HA.out.block.cell (i * 15 + 13) (by omega)
  have f8 := HA.out.block.froz (i * 15 + 8)
  have f9 := HA.out.block.froz (i * 15 + 9)
  have f10 := HA.out.block.froz (i * 15 + 10)
  have f12 := HA.out.block.froz (i * 15 + 12)
  have f13 := HA.out.block.froz (i * 15 + 13)
  go_wp2_with fail
  cases q1 : (o2 == 3)
  case false =>
    go_quiet (fail)
    go_wp2
    go_ret2
    refine ⟨_, _, _, rfl, Nat.le_succ _, Aud.back (gr := gr) ?_⟩
    repeat (first | exact HA.out | refine Aud.set ?_ _ _ hg _ | refine Aud.drewN ?_ _ | refine Aud.drew ?_)
  cases q2 : (r6 == 0)
  case false =>
    go_quiet (fail)
    go_wp2
    go_ret2
    refine ⟨_, _, _, rfl, Nat.le_succ _, Aud.back (gr := gr) ?_⟩
    repeat (first | exact HA.out | refine Aud.set ?_ _ _ hg _ | refine Aud.drewN ?_ _ | refine Aud.drew ?_)
  by_cases q3 : 0 < r4
  · cases q4 : (r4 != o9)
    · go_quiet (fail)
      go_wp2
      go_ret2
      refine ⟨_, _, _, rfl, Nat.le_succ _, Aud.back (gr := gr) ?_⟩
      repeat (first | exact HA.out | refine Aud.set ?_ _ _ hg _ | refine Aud.drewN ?_ _ | refine Aud.drew ?_)
    · cases q5 : (r5 == o10)
      · go_quiet (fail)
        go_wp2
        go_ret2
        refine ⟨_, _, _, rfl, Nat.le_succ _, Aud.back (gr := gr) ?_⟩
        repeat (first | exact HA.out | refine Aud.set ?_ _ _ hg _ | refine Aud.drewN ?_ _ | refine Aud.drew ?_)
      · go_quiet (fail)
        go_wp2
        go_ret2
        refine ⟨_, _, _, rfl, Nat.le_succ _, Aud.back (gr := gr) ?_⟩
        repeat (first | exact HA.out | refine Aud.set ?_ _ _ hg _ | refine Aud.drewN ?_ _ | refine Aud.drew ?_)
  · go_quiet (fail)
    go_wp2
    go_ret2
    refine ⟨_, _, _, rfl, Nat.le_succ _, Aud.back (gr := gr) ?_⟩
    repeat (first | exact HA.out | refine Aud.set ?_ _ _ hg _ | refine Aud.drewN ?_ _ | refine Aud.drew ?_)
end Go.Proofs.YtcajmohgjojhhaaGreatDoor

namespace Go.Proofs.YtcajmohgjojhhaaGreatDoor
open Go.RowKit Go.Extern

set_option maxRecDepth 100000 in
set_option maxHeartbeats 8000000 in
theorem take_6 (base : Nat) (w : World) (v : Value) (m gr : Nat) (h : Aud base w w v m gr) (hb : base ≤ w.heap.size) (hm : m ≤ 100000000) (h0 : w.cell? ⟨gr, 0, none⟩ = some (.int .i64 6)) :
    Calls Tryz.prog 65 #[v, .pointer (some ⟨gr, 0, none⟩)] w fun e w' => TakeBack base w m e w' := by
  obtain ⟨p, cap, rfl, -⟩ := h.row.shape'
  have HA : Hid (Aud base w w (.slice p m cap) m gr) := h
  obtain ⟨r2, cr2⟩ := h.rcd.cell 2 (by omega)
  obtain ⟨r3, cr3⟩ := h.rcd.cell 3 (by omega)
  obtain ⟨r4, cr4⟩ := h.rcd.cell 4 (by omega)
  obtain ⟨r5, cr5⟩ := h.rcd.cell 5 (by omega)
  obtain ⟨r6, cr6⟩ := h.rcd.cell 6 (by omega)
  have HL : Hid (Calls Tryz.prog 86 #[.slice p m cap, .int .i64 r2] w fun e w' => (e = .returned (.int .i64 (-1)) ∨ ∃ i : Nat, i < m ∧ e = .returned (.int .i64 (i : Int))) ∧ w' = w) := live_any base w _ m r2 h.row (by omega)
  clear h
  go_enter Tryz.func65, Tryz.ntmps65
  go_wp2_with fail
  refine HL.out.mono ?_
  clear HL
  rintro e w1 ⟨h1, rfl⟩
  rcases h1 with rfl | ⟨i, hi, rfl⟩
  · go_wp2
    go_ret2
    exact ⟨_, _, _, rfl, Nat.le_succ _, HA.out.back⟩
  have hi0 : decide ((i : Int) < 0) = false := decide_eq_false (by omega)
  have hiI : (i : Int) < (m : Int) := by omega
  cases e3 : (r3 != 0)
  case true =>
    go_wp2
    go_ret2
    exact ⟨_, _, _, rfl, Nat.le_succ _, HA.out.back⟩
  obtain ⟨g, rfl⟩ : ∃ g, p = some ⟨g, 0, none⟩ := by
    rcases HA.out.row.shape with ⟨-, e⟩ | ⟨g, cap', e, _⟩
    · omega
    · injection e with e1 e2 e3
      exact ⟨g, e1⟩
  have hg := HA.out.above
  obtain ⟨o2, c2⟩ := HA.out.block.cell (i * 15 + 2) (by omega)
  obtain ⟨o8, c8⟩ := HA.out.block.cell (i * 15 + 8) (by omega)
  obtain ⟨o9, c9⟩ := HA.out.block.cell (i * 15 + 9) (by omega)
  obtain ⟨o10, c10⟩ := HA.out.block.cell (i * 15 + 10) (by omega)
  obtain ⟨o12, c12⟩ := HA.out.block.cell (i * 15 + 12) (by omega)
  obtain ⟨o13, c13⟩ := HA.out.block.cell (i * 15 + 13) (by omega)
  have f8 := HA.out.block.froz (i * 15 + 8)
  have f9 := HA.out.block.froz (i * 15 + 9)
  have f10 := HA.out.block.froz (i * 15 + 10)
  have f12 := HA.out.block.froz (i * 15 + 12)
  have f13 := HA.out.block.froz (i * 15 + 13)
  go_wp2_with fail
  clear cr2 cr3 cr4 cr6 c8 c9 c12 f8 f9 f10 f12
  cases e1 : (r5 == o10)
  · go_quiet (fail)
    replace HA : Hid (Aud base w1 (w1.drewN nq) (.slice (some ⟨g, 0, none⟩) m cap) m gr) := HA.out.drewN nq
    replace cr5 : (w1.drewN nq).cell? ⟨gr, 5, none⟩ = some (.int .i64 r5) := cr5
    replace c2 : (w1.drewN nq).cell? ⟨g, i * 15 + 2, none⟩ = some (.int .i64 o2) := c2
    replace c10 : (w1.drewN nq).cell? ⟨g, i * 15 + 10, none⟩ = some (.int .i64 o10) := c10
    replace c13 : (w1.drewN nq).cell? ⟨g, i * 15 + 13, none⟩ = some (.int .i64 o13) := c13
    replace f13 : (w1.drewN nq).frozen? ⟨g, i * 15 + 13, none⟩ = false := f13
    generalize w1.drewN nq = WA at *
    cases t2 : (o2 == 2)
    · go_wp2_with fail
      replace HA : Hid (Aud base w1 (WA.setCell ⟨g, i * 15 + 13, none⟩ (.int .i64 r5)) (.slice (some ⟨g, 0, none⟩) m cap) m gr) := HA.out.set _ _ hg _
      clear cr5 c2 c10 c13 f13
      generalize WA.setCell ⟨g, i * 15 + 13, none⟩ (.int .i64 r5) = WC at *
      obtain ⟨y4, cy4⟩ := HA.out.rcd.cell 4 (by omega)
      obtain ⟨y6, cy6⟩ := HA.out.rcd.cell 6 (by omega)
      obtain ⟨z9, cz9⟩ := HA.out.block.cell (i * 15 + 9) (by omega)
      go_quiet (fail)
      go_wp2
      go_ret2
      refine ⟨_, _, _, rfl, Nat.le_succ _, Aud.back (gr := gr) ?_⟩
      repeat (first | exact HA.out | refine Aud.set ?_ _ _ hg _ | refine Aud.drewN ?_ _ | refine Aud.drew ?_)
    · go_wp2_with fail
      by_cases u1 : 1 ≤ r5
      · by_cases u2 : r5 ≤ o10
        · go_quiet (fail)
          replace HA : Hid (Aud base w1 (WA.drewN nq) (.slice (some ⟨g, 0, none⟩) m cap) m gr) := HA.out.drewN nq
          replace cr5 : (WA.drewN nq).cell? ⟨gr, 5, none⟩ = some (.int .i64 r5) := cr5
          replace c2 : (WA.drewN nq).cell? ⟨g, i * 15 + 2, none⟩ = some (.int .i64 o2) := c2
          replace c10 : (WA.drewN nq).cell? ⟨g, i * 15 + 10, none⟩ = some (.int .i64 o10) := c10
          replace c13 : (WA.drewN nq).cell? ⟨g, i * 15 + 13, none⟩ = some (.int .i64 o13) := c13
          replace f13 : (WA.drewN nq).frozen? ⟨g, i * 15 + 13, none⟩ = false := f13
          generalize WA.drewN nq = WB at *
          go_wp2_with fail
          replace HA : Hid (Aud base w1 (WB.setCell ⟨g, i * 15 + 13, none⟩ (.int .i64 r5)) (.slice (some ⟨g, 0, none⟩) m cap) m gr) := HA.out.set _ _ hg _
          clear cr5 c2 c10 c13 f13
          generalize WB.setCell ⟨g, i * 15 + 13, none⟩ (.int .i64 r5) = WC at *
          obtain ⟨y4, cy4⟩ := HA.out.rcd.cell 4 (by omega)
          obtain ⟨y6, cy6⟩ := HA.out.rcd.cell 6 (by omega)
          obtain ⟨z9, cz9⟩ := HA.out.block.cell (i * 15 + 9) (by omega)
          cases v1 : (y4 == z9)
          case false =>
            go_quiet (fail)
            go_wp2
            go_ret2
            refine ⟨_, _, _, rfl, Nat.le_succ _, Aud.back (gr := gr) ?_⟩
            repeat (first | exact HA.out | refine Aud.set ?_ _ _ hg _ | refine Aud.drewN ?_ _ | refine Aud.drew ?_)
          by_cases v2 : 0 < y4
          · cases v3 : (y6 == 0)
            · go_quiet (fail)
              go_wp2
              go_ret2
              refine ⟨_, _, _, rfl, Nat.le_succ _, Aud.back (gr := gr) ?_⟩
              repeat (first | exact HA.out | refine Aud.set ?_ _ _ hg _ | refine Aud.drewN ?_ _ | refine Aud.drew ?_)
            · go_quiet (fail)
              go_wp2
              go_ret2
              refine ⟨_, _, _, rfl, Nat.le_succ _, Aud.back (gr := gr) ?_⟩
              repeat (first | exact HA.out | refine Aud.set ?_ _ _ hg _ | refine Aud.drewN ?_ _ | refine Aud.drew ?_)
          · go_quiet (fail)
            go_wp2
            go_ret2
            refine ⟨_, _, _, rfl, Nat.le_succ _, Aud.back (gr := gr) ?_⟩
            repeat (first | exact HA.out | refine Aud.set ?_ _ _ hg _ | refine Aud.drewN ?_ _ | refine Aud.drew ?_)
        · go_quiet (fail)
          replace HA : Hid (Aud base w1 (WA.drewN nq) (.slice (some ⟨g, 0, none⟩) m cap) m gr) := HA.out.drewN nq
          replace cr5 : (WA.drewN nq).cell? ⟨gr, 5, none⟩ = some (.int .i64 r5) := cr5
          replace c2 : (WA.drewN nq).cell? ⟨g, i * 15 + 2, none⟩ = some (.int .i64 o2) := c2
          replace c10 : (WA.drewN nq).cell? ⟨g, i * 15 + 10, none⟩ = some (.int .i64 o10) := c10
          replace c13 : (WA.drewN nq).cell? ⟨g, i * 15 + 13, none⟩ = some (.int .i64 o13) := c13
          replace f13 : (WA.drewN nq).frozen? ⟨g, i * 15 + 13, none⟩ = false := f13
          generalize WA.drewN nq = WB at *
          go_wp2_with fail
          replace HA : Hid (Aud base w1 (WB.setCell ⟨g, i * 15 + 13, none⟩ (.int .i64 r5)) (.slice (some ⟨g, 0, none⟩) m cap) m gr) := HA.out.set _ _ hg _
          clear cr5 c2 c10 c13 f13
          generalize WB.setCell ⟨g, i * 15 + 13, none⟩ (.int .i64 r5) = WC at *
          obtain ⟨y4, cy4⟩ := HA.out.rcd.cell 4 (by omega)
          obtain ⟨y6, cy6⟩ := HA.out.rcd.cell 6 (by omega)
          obtain ⟨z9, cz9⟩ := HA.out.block.cell (i * 15 + 9) (by omega)
          go_quiet (fail)
          go_wp2
          go_ret2
          refine ⟨_, _, _, rfl, Nat.le_succ _, Aud.back (gr := gr) ?_⟩
          repeat (first | exact HA.out | refine Aud.set ?_ _ _ hg _ | refine Aud.drewN ?_ _ | refine Aud.drew ?_)
      · go_quiet (fail)
        replace HA : Hid (Aud base w1 (WA.drewN nq) (.slice (some ⟨g, 0, none⟩) m cap) m gr) := HA.out.drewN nq
        replace cr5 : (WA.drewN nq).cell? ⟨gr, 5, none⟩ = some (.int .i64 r5) := cr5
        replace c2 : (WA.drewN nq).cell? ⟨g, i * 15 + 2, none⟩ = some (.int .i64 o2) := c2
        replace c10 : (WA.drewN nq).cell? ⟨g, i * 15 + 10, none⟩ = some (.int .i64 o10) := c10
        replace c13 : (WA.drewN nq).cell? ⟨g, i * 15 + 13, none⟩ = some (.int .i64 o13) := c13
        replace f13 : (WA.drewN nq).frozen? ⟨g, i * 15 + 13, none⟩ = false := f13
        generalize WA.drewN nq = WB at *
        go_wp2_with fail
        replace HA : Hid (Aud base w1 (WB.setCell ⟨g, i * 15 + 13, none⟩ (.int .i64 r5)) (.slice (some ⟨g, 0, none⟩) m cap) m gr) := HA.out.set _ _ hg _
        clear cr5 c2 c10 c13 f13
        generalize WB.setCell ⟨g, i * 15 + 13, none⟩ (.int .i64 r5) = WC at *
        obtain ⟨y4, cy4⟩ := HA.out.rcd.cell 4 (by omega)
        obtain ⟨y6, cy6⟩ := HA.out.rcd.cell 6 (by omega)
        obtain ⟨z9, cz9⟩ := HA.out.block.cell (i * 15 + 9) (by omega)
        go_quiet (fail)
        go_wp2
        go_ret2
        refine ⟨_, _, _, rfl, Nat.le_succ _, Aud.back (gr := gr) ?_⟩
        repeat (first | exact HA.out | refine Aud.set ?_ _ _ hg _ | refine Aud.drewN ?_ _ | refine Aud.drew ?_)
  · go_quiet (fail)
    replace HA : Hid (Aud base w1 (w1.drewN nq) (.slice (some ⟨g, 0, none⟩) m cap) m gr) := HA.out.drewN nq
    replace cr5 : (w1.drewN nq).cell? ⟨gr, 5, none⟩ = some (.int .i64 r5) := cr5
    replace c2 : (w1.drewN nq).cell? ⟨g, i * 15 + 2, none⟩ = some (.int .i64 o2) := c2
    replace c10 : (w1.drewN nq).cell? ⟨g, i * 15 + 10, none⟩ = some (.int .i64 o10) := c10
    replace c13 : (w1.drewN nq).cell? ⟨g, i * 15 + 13, none⟩ = some (.int .i64 o13) := c13
    replace f13 : (w1.drewN nq).frozen? ⟨g, i * 15 + 13, none⟩ = false := f13
    generalize w1.drewN nq = WA at *
    cases t2 : (o2 == 2)
    · go_wp2_with fail
      replace HA : Hid (Aud base w1 (WA.setCell ⟨g, i * 15 + 13, none⟩ (.int .i64 r5)) (.slice (some ⟨g, 0, none⟩) m cap) m gr) := HA.out.set _ _ hg _
      clear cr5 c2 c10 c13 f13
      generalize WA.setCell ⟨g, i * 15 + 13, none⟩ (.int .i64 r5) = WC at *
      obtain ⟨y4, cy4⟩ := HA.out.rcd.cell 4 (by omega)
      obtain ⟨y6, cy6⟩ := HA.out.rcd.cell 6 (by omega)
      obtain ⟨z9, cz9⟩ := HA.out.block.cell (i * 15 + 9) (by omega)
      cases v1 : (y4 == z9)
      case false =>
        go_quiet (fail)
        go_wp2
        go_ret2
        refine ⟨_, _, _, rfl, Nat.le_succ _, Aud.back (gr := gr) ?_⟩
        repeat (first | exact HA.out | refine Aud.set ?_ _ _ hg _ | refine Aud.drewN ?_ _ | refine Aud.drew ?_)
      by_cases v2 : 0 < y4
      · cases v3 : (y6 == 0)
        · go_quiet (fail)
          go_wp2
          go_ret2
          refine ⟨_, _, _, rfl, Nat.le_succ _, Aud.back (gr := gr) ?_⟩
          repeat (first | exact HA.out | refine Aud.set ?_ _ _ hg _ | refine Aud.drewN ?_ _ | refine Aud.drew ?_)
        · go_quiet (fail)
          go_wp2
          go_ret2
          refine ⟨_, _, _, rfl, Nat.le_succ _, Aud.back (gr := gr) ?_⟩
          repeat (first | exact HA.out | refine Aud.set ?_ _ _ hg _ | refine Aud.drewN ?_ _ | refine Aud.drew ?_)
      · go_quiet (fail)
        go_wp2
        go_ret2
        refine ⟨_, _, _, rfl, Nat.le_succ _, Aud.back (gr := gr) ?_⟩
        repeat (first | exact HA.out | refine Aud.set ?_ _ _ hg _ | refine Aud.drewN ?_ _ | refine Aud.drew ?_)
    · go_wp2_with fail
      by_cases u1 : 1 ≤ r5
      · by_cases u2 : r5 ≤ o10
        · go_quiet (fail)
          replace HA : Hid (Aud base w1 (WA.drewN nq) (.slice (some ⟨g, 0, none⟩) m cap) m gr) := HA.out.drewN nq
          replace cr5 : (WA.drewN nq).cell? ⟨gr, 5, none⟩ = some (.int .i64 r5) := cr5
          replace c2 : (WA.drewN nq).cell? ⟨g, i * 15 + 2, none⟩ = some (.int .i64 o2) := c2
          replace c10 : (WA.drewN nq).cell? ⟨g, i * 15 + 10, none⟩ = some (.int .i64 o10) := c10
          replace c13 : (WA.drewN nq).cell? ⟨g, i * 15 + 13, none⟩ = some (.int .i64 o13) := c13
          replace f13 : (WA.drewN nq).frozen? ⟨g, i * 15 + 13, none⟩ = false := f13
          generalize WA.drewN nq = WB at *
          go_wp2_with fail
          replace HA : Hid (Aud base w1 (WB.setCell ⟨g, i * 15 + 13, none⟩ (.int .i64 r5)) (.slice (some ⟨g, 0, none⟩) m cap) m gr) := HA.out.set _ _ hg _
          clear cr5 c2 c10 c13 f13
          generalize WB.setCell ⟨g, i * 15 + 13, none⟩ (.int .i64 r5) = WC at *
          obtain ⟨y4, cy4⟩ := HA.out.rcd.cell 4 (by omega)
          obtain ⟨y6, cy6⟩ := HA.out.rcd.cell 6 (by omega)
          obtain ⟨z9, cz9⟩ := HA.out.block.cell (i * 15 + 9) (by omega)
          cases v1 : (y4 == z9)
          case false =>
            go_quiet (fail)
            go_wp2
            go_ret2
            refine ⟨_, _, _, rfl, Nat.le_succ _, Aud.back (gr := gr) ?_⟩
            repeat (first | exact HA.out | refine Aud.set ?_ _ _ hg _ | refine Aud.drewN ?_ _ | refine Aud.drew ?_)
          by_cases v2 : 0 < y4
          · cases v3 : (y6 == 0)
            · go_quiet (fail)
              go_wp2
              go_ret2
              refine ⟨_, _, _, rfl, Nat.le_succ _, Aud.back (gr := gr) ?_⟩
              repeat (first | exact HA.out | refine Aud.set ?_ _ _ hg _ | refine Aud.drewN ?_ _ | refine Aud.drew ?_)
            · go_quiet (fail)
              go_wp2
              go_ret2
              refine ⟨_, _, _, rfl, Nat.le_succ _, Aud.back (gr := gr) ?_⟩
              repeat (first | exact HA.out | refine Aud.set ?_ _ _ hg _ | refine Aud.drewN ?_ _ | refine Aud.drew ?_)
          · go_quiet (fail)
            go_wp2
            go_ret2
            refine ⟨_, _, _, rfl, Nat.le_succ _, Aud.back (gr := gr) ?_⟩
            repeat (first | exact HA.out | refine Aud.set ?_ _ _ hg _ | refine Aud.drewN ?_ _ | refine Aud.drew ?_)
        · go_quiet (fail)
          replace HA : Hid (Aud base w1 (WA.drewN nq) (.slice (some ⟨g, 0, none⟩) m cap) m gr) := HA.out.drewN nq
          replace cr5 : (WA.drewN nq).cell? ⟨gr, 5, none⟩ = some (.int .i64 r5) := cr5
          replace c2 : (WA.drewN nq).cell? ⟨g, i * 15 + 2, none⟩ = some (.int .i64 o2) := c2
          replace c10 : (WA.drewN nq).cell? ⟨g, i * 15 + 10, none⟩ = some (.int .i64 o10) := c10
          replace c13 : (WA.drewN nq).cell? ⟨g, i * 15 + 13, none⟩ = some (.int .i64 o13) := c13
          replace f13 : (WA.drewN nq).frozen? ⟨g, i * 15 + 13, none⟩ = false := f13
          generalize WA.drewN nq = WB at *
          go_wp2_with fail
          replace HA : Hid (Aud base w1 (WB.setCell ⟨g, i * 15 + 13, none⟩ (.int .i64 r5)) (.slice (some ⟨g, 0, none⟩) m cap) m gr) := HA.out.set _ _ hg _
          clear cr5 c2 c10 c13 f13
          generalize WB.setCell ⟨g, i * 15 + 13, none⟩ (.int .i64 r5) = WC at *
          obtain ⟨y4, cy4⟩ := HA.out.rcd.cell 4 (by omega)
          obtain ⟨y6, cy6⟩ := HA.out.rcd.cell 6 (by omega)
          obtain ⟨z9, cz9⟩ := HA.out.block.cell (i * 15 + 9) (by omega)
          go_quiet (fail)
          go_wp2
          go_ret2
          refine ⟨_, _, _, rfl, Nat.le_succ _, Aud.back (gr := gr) ?_⟩
          repeat (first | exact HA.out | refine Aud.set ?_ _ _ hg _ | refine Aud.drewN ?_ _ | refine Aud.drew ?_)
      · go_quiet (fail)
        replace HA : Hid (Aud base w1 (WA.drewN nq) (.slice (some ⟨g, 0, none⟩) m cap) m gr) := HA.out.drewN nq
        replace cr5 : (WA.drewN nq).cell? ⟨gr, 5, none⟩ = some (.int .i64 r5) := cr5
        replace c2 : (WA.drewN nq).cell? ⟨g, i * 15 + 2, none⟩ = some (.int .i64 o2) := c2
        replace c10 : (WA.drewN nq).cell? ⟨g, i * 15 + 10, none⟩ = some (.int .i64 o10) := c10
        replace c13 : (WA.drewN nq).cell? ⟨g, i * 15 + 13, none⟩ = some (.int .i64 o13) := c13
        replace f13 : (WA.drewN nq).frozen? ⟨g, i * 15 + 13, none⟩ = false := f13
        generalize WA.drewN nq = WB at *
        go_wp2_with fail
        replace HA : Hid (Aud base w1 (WB.setCell ⟨g, i * 15 + 13, none⟩ (.int .i64 r5)) (.slice (some ⟨g, 0, none⟩) m cap) m gr) := HA.out.set _ _ hg _
        clear cr5 c2 c10 c13 f13
        generalize WB.setCell ⟨g, i * 15 + 13, none⟩ (.int .i64 r5) = WC at *
        obtain ⟨y4, cy4⟩ := HA.out.rcd.cell 4 (by omega)
        obtain ⟨y6, cy6⟩ := HA.out.rcd.cell 6 (by omega)
        obtain ⟨z9, cz9⟩ := HA.out.block.cell (i * 15 + 9) (by omega)
        go_quiet (fail)
        go_wp2
        go_ret2
        refine ⟨_, _, _, rfl, Nat.le_succ _, Aud.back (gr := gr) ?_⟩
        repeat (first | exact HA.out | refine Aud.set ?_ _ _ hg _ | refine Aud.drewN ?_ _ | refine Aud.drew ?_)
end Go.Proofs.YtcajmohgjojhhaaGreatDoor

namespace Go.Proofs.YtcajmohgjojhhaaGreatDoor
open Go.RowKit Go.Extern

theorem take_any (base : Nat) (w : World) (v : Value) (m gr : Nat) (h : Aud base w w v m gr) (hb : base ≤ w.heap.size) (hm : m ≤ 100000000) :
    Calls Tryz.prog 65 #[v, .pointer (some ⟨gr, 0, none⟩)] w fun e w' => TakeBack base w m e w' := by
  obtain ⟨r0, h0⟩ := h.rcd.cell 0 (by omega)
  by_cases k1 : r0 = 1
  · subst k1; exact take_1 base w v m gr h hb hm h0
  by_cases k2 : r0 = 2
  · subst k2; exact take_2 base w v m gr h hb hm h0
  by_cases k3 : r0 = 3
  · subst k3; exact take_3 base w v m gr h hb hm h0
  by_cases k4 : r0 = 4
  · subst k4; exact take_4 base w v m gr h hb hm h0
  by_cases k5 : r0 = 5
  · subst k5; exact take_5 base w v m gr h hb hm h0
  by_cases k6 : r0 = 6
  · subst k6; exact take_6 base w v m gr h hb hm h0
  by_cases k7 : r0 = 7
  · subst k7; exact take_7 base w v m gr h hb hm h0
  exact take_else base w v m gr h hb hm r0 h0 k1 k2 k3 k4 k5 k6 k7
end Go.Proofs.YtcajmohgjojhhaaGreatDoor
