import Derived.Test.YtcajmohgjojhhaaGreatDoorAud2
import Derived.Deep.RegionLaw
set_option linter.unusedVariables false
set_option linter.unusedSimpArgs false
namespace Go.Proofs.YtcajmohgjojhhaaGreatDoor
open Go.RowKit Go.Extern

/-- The row's block lies above, and can be read. -/
theorem Aud.above {base : Nat} {w0 w : World} {m gr g cap : Nat} (h : Aud base w0 w (.slice (some ⟨g, 0, none⟩) m cap) m gr) : base ≤ g := by
  rcases h.row.shape with ⟨e, -⟩ | ⟨g', cap', e, hg, _⟩
  · cases e
  · injection e with e1 e2 e3
    injection e1 with e1
    injection e1 with e1
    subst e1
    exact hg

/-- The ends of (*State).replaced: behind its tests. -/
def RepBack (base : Nat) (w0 : World) (v : Value) (m gr : Nat) (e : Ending) (w' : World) : Prop := SomeBool e ∧ Aud base w0 w' v m gr

set_option maxRecDepth 100000 in
set_option maxHeartbeats 4000000 in
theorem replaced_any (base : Nat) (w : World) (m gr g cap off : Nat) (h : Aud base w w (.slice (some ⟨g, 0, none⟩) m cap) m gr) (ho : off + 15 ≤ m * 15) :
    Calls Tryz.prog 87 #[.pointer (some ⟨g, off, none⟩), .pointer (some ⟨gr, 0, none⟩)] w fun e w' => RepBack base w (.slice (some ⟨g, 0, none⟩) m cap) m gr e w' := by
  obtain ⟨r4, cr4⟩ := h.rcd.cell 4 (by omega)
  obtain ⟨r5, cr5⟩ := h.rcd.cell 5 (by omega)
  obtain ⟨r6, cr6⟩ := h.rcd.cell 6 (by omega)
  obtain ⟨t2, c2⟩ := h.block.cell (off + 2) (by omega)
  obtain ⟨q3, c3⟩ := h.block.cell (off + 3) (by omega)
  obtain ⟨p9, c9⟩ := h.block.cell (off + 9) (by omega)
  obtain ⟨f11, c11⟩ := h.block.cell (off + 11) (by omega)
  have hg := h.above
  have HA : Hid (Aud base w w (.slice (some ⟨g, 0, none⟩) m cap) m gr) := h
  clear h
  go_enter Tryz.func87, Tryz.ntmps87
  go_wp2_with fail
  by_cases k1 : r5 ≤ q3
  · cases k2 : (t2 == 3)
    · cases k3 : (r4 == p9)
      · go_quiet (fail)
        replace HA : Hid (Aud base w (w.drewN nq) (.slice (some ⟨g, 0, none⟩) m cap) m gr) := HA.out.drewN nq
        replace cr4 : (w.drewN nq).cell? ⟨gr, 4, none⟩ = some (.int .i64 r4) := cr4
        replace cr5 : (w.drewN nq).cell? ⟨gr, 5, none⟩ = some (.int .i64 r5) := cr5
        replace cr6 : (w.drewN nq).cell? ⟨gr, 6, none⟩ = some (.int .i64 r6) := cr6
        replace c3 : (w.drewN nq).cell? ⟨g, off + 3, none⟩ = some (.int .i64 q3) := c3
        replace c11 : (w.drewN nq).cell? ⟨g, off + 11, none⟩ = some (.int .i64 f11) := c11
        generalize w.drewN nq = WA at *
        go_wp2_with fail
        by_cases d1 : r5 ≤ f11
        · go_quiet (fail)
          go_wp2
          go_ret
          refine ⟨⟨_, rfl⟩, ?_⟩
          repeat (first | exact HA.out | refine Aud.set ?_ _ _ hg _ | refine Aud.drewN ?_ _ | refine Aud.drew ?_)
        cases d2 : (r4 == 0)
        · by_cases d3 : 1 < r6
          · go_quiet (fail)
            go_wp2
            go_ret
            refine ⟨⟨_, rfl⟩, ?_⟩
            repeat (first | exact HA.out | refine Aud.set ?_ _ _ hg _ | refine Aud.drewN ?_ _ | refine Aud.drew ?_)
          cases d4 : (r6 == 1)
          · go_quiet (fail)
            replace HA : Hid (Aud base w (WA.drewN nq) (.slice (some ⟨g, 0, none⟩) m cap) m gr) := HA.out.drewN nq
            replace cr5 : (WA.drewN nq).cell? ⟨gr, 5, none⟩ = some (.int .i64 r5) := cr5
            replace c3 : (WA.drewN nq).cell? ⟨g, off + 3, none⟩ = some (.int .i64 q3) := c3
            generalize WA.drewN nq = WB at *
            clear cr4 cr6 c11 d1 d3 d2 d4
            have fx3 := HA.out.block.froz (off + 3)
            go_wp2_with fail
            replace HA : Hid (Aud base w (WB.setCell ⟨g, off + 3, none⟩ (.int .i64 r5)) (.slice (some ⟨g, 0, none⟩) m cap) m gr) := HA.out.set _ _ hg _
            clear c3 cr5 fx3
            generalize WB.setCell ⟨g, off + 3, none⟩ (.int .i64 r5) = WC at *
            obtain ⟨x11, cx11⟩ := HA.out.block.cell (off + 11) (by omega)
            obtain ⟨x10, cx10⟩ := HA.out.block.cell (off + 10) (by omega)
            obtain ⟨y5, cy5⟩ := HA.out.rcd.cell 5 (by omega)
            have fx10 := HA.out.block.froz (off + 10)
            apply merge
            · intro hh
              go_region_law (fail)
              all_goals exact hh
            replace HA : Hid (Aud base w (WC.setCell ⟨g, off + 10, none⟩ (.int .i64 (IntKind.i64.wrap (y5 - x11)))).drew (.slice (some ⟨g, 0, none⟩) m cap) m gr) := (HA.out.set _ _ hg _).drew
            clear cx11 cx10 cy5 fx10
            generalize (WC.setCell ⟨g, off + 10, none⟩ (.int .i64 (IntKind.i64.wrap (y5 - x11)))).drew = WD at *
            obtain ⟨z13, cz13⟩ := HA.out.block.cell (off + 13) (by omega)
            obtain ⟨z10, cz10⟩ := HA.out.block.cell (off + 10) (by omega)
            obtain ⟨z2, cz2⟩ := HA.out.block.cell (off + 2) (by omega)
            obtain ⟨z9, cz9⟩ := HA.out.block.cell (off + 9) (by omega)
            obtain ⟨y4, cy4⟩ := HA.out.rcd.cell 4 (by omega)
            have fz13 := HA.out.block.froz (off + 13)
            have fz9 := HA.out.block.froz (off + 9)
            go_wp2_with fail
            go_quiet (fail)
            go_wp2
            go_ret
            refine ⟨⟨_, rfl⟩, ?_⟩
            repeat (first | exact HA.out | refine Aud.set ?_ _ _ hg _ | refine Aud.drewN ?_ _ | refine Aud.drew ?_)
          · go_quiet (fail)
            go_wp2
            go_ret
            refine ⟨⟨_, rfl⟩, ?_⟩
            repeat (first | exact HA.out | refine Aud.set ?_ _ _ hg _ | refine Aud.drewN ?_ _ | refine Aud.drew ?_)
        · go_quiet (fail)
          go_wp2
          go_ret
          refine ⟨⟨_, rfl⟩, ?_⟩
          repeat (first | exact HA.out | refine Aud.set ?_ _ _ hg _ | refine Aud.drewN ?_ _ | refine Aud.drew ?_)
      · go_quiet (fail)
        replace HA : Hid (Aud base w (w.drewN nq) (.slice (some ⟨g, 0, none⟩) m cap) m gr) := HA.out.drewN nq
        replace cr4 : (w.drewN nq).cell? ⟨gr, 4, none⟩ = some (.int .i64 r4) := cr4
        replace cr5 : (w.drewN nq).cell? ⟨gr, 5, none⟩ = some (.int .i64 r5) := cr5
        replace cr6 : (w.drewN nq).cell? ⟨gr, 6, none⟩ = some (.int .i64 r6) := cr6
        replace c3 : (w.drewN nq).cell? ⟨g, off + 3, none⟩ = some (.int .i64 q3) := c3
        replace c11 : (w.drewN nq).cell? ⟨g, off + 11, none⟩ = some (.int .i64 f11) := c11
        generalize w.drewN nq = WA at *
        go_wp2_with fail
        by_cases d1 : r5 ≤ f11
        · go_quiet (fail)
          go_wp2
          go_ret
          refine ⟨⟨_, rfl⟩, ?_⟩
          repeat (first | exact HA.out | refine Aud.set ?_ _ _ hg _ | refine Aud.drewN ?_ _ | refine Aud.drew ?_)
        cases d2 : (r4 == 0)
        · by_cases d3 : 1 < r6
          · go_quiet (fail)
            go_wp2
            go_ret
            refine ⟨⟨_, rfl⟩, ?_⟩
            repeat (first | exact HA.out | refine Aud.set ?_ _ _ hg _ | refine Aud.drewN ?_ _ | refine Aud.drew ?_)
          cases d4 : (r6 == 1)
          · go_quiet (fail)
            go_wp2
            go_ret
            refine ⟨⟨_, rfl⟩, ?_⟩
            repeat (first | exact HA.out | refine Aud.set ?_ _ _ hg _ | refine Aud.drewN ?_ _ | refine Aud.drew ?_)
          · go_quiet (fail)
            replace HA : Hid (Aud base w (WA.drewN nq) (.slice (some ⟨g, 0, none⟩) m cap) m gr) := HA.out.drewN nq
            replace cr5 : (WA.drewN nq).cell? ⟨gr, 5, none⟩ = some (.int .i64 r5) := cr5
            replace c3 : (WA.drewN nq).cell? ⟨g, off + 3, none⟩ = some (.int .i64 q3) := c3
            generalize WA.drewN nq = WB at *
            clear cr4 cr6 c11 d1 d3 d2 d4
            have fx3 := HA.out.block.froz (off + 3)
            go_wp2_with fail
            replace HA : Hid (Aud base w (WB.setCell ⟨g, off + 3, none⟩ (.int .i64 r5)) (.slice (some ⟨g, 0, none⟩) m cap) m gr) := HA.out.set _ _ hg _
            clear c3 cr5 fx3
            generalize WB.setCell ⟨g, off + 3, none⟩ (.int .i64 r5) = WC at *
            obtain ⟨x11, cx11⟩ := HA.out.block.cell (off + 11) (by omega)
            obtain ⟨x10, cx10⟩ := HA.out.block.cell (off + 10) (by omega)
            obtain ⟨y5, cy5⟩ := HA.out.rcd.cell 5 (by omega)
            have fx10 := HA.out.block.froz (off + 10)
            apply merge
            · intro hh
              go_region_law (fail)
              all_goals exact hh
            replace HA : Hid (Aud base w (WC.setCell ⟨g, off + 10, none⟩ (.int .i64 (IntKind.i64.wrap (y5 - x11)))).drew (.slice (some ⟨g, 0, none⟩) m cap) m gr) := (HA.out.set _ _ hg _).drew
            clear cx11 cx10 cy5 fx10
            generalize (WC.setCell ⟨g, off + 10, none⟩ (.int .i64 (IntKind.i64.wrap (y5 - x11)))).drew = WD at *
            obtain ⟨z13, cz13⟩ := HA.out.block.cell (off + 13) (by omega)
            obtain ⟨z10, cz10⟩ := HA.out.block.cell (off + 10) (by omega)
            obtain ⟨z2, cz2⟩ := HA.out.block.cell (off + 2) (by omega)
            obtain ⟨z9, cz9⟩ := HA.out.block.cell (off + 9) (by omega)
            obtain ⟨y4, cy4⟩ := HA.out.rcd.cell 4 (by omega)
            have fz13 := HA.out.block.froz (off + 13)
            have fz9 := HA.out.block.froz (off + 9)
            go_wp2_with fail
            by_cases u1 : z10 < z13
            · go_quiet (fail)
              go_wp2
              go_ret
              refine ⟨⟨_, rfl⟩, ?_⟩
              repeat (first | exact HA.out | refine Aud.set ?_ _ _ hg _ | refine Aud.drewN ?_ _ | refine Aud.drew ?_)
            by_cases u2 : 0 < z13
            · cases u3 : (z2 != 2)
              · go_quiet (fail)
                go_wp2
                go_ret
                refine ⟨⟨_, rfl⟩, ?_⟩
                repeat (first | exact HA.out | refine Aud.set ?_ _ _ hg _ | refine Aud.drewN ?_ _ | refine Aud.drew ?_)
              · go_quiet (fail)
                go_wp2
                go_ret
                refine ⟨⟨_, rfl⟩, ?_⟩
                repeat (first | exact HA.out | refine Aud.set ?_ _ _ hg _ | refine Aud.drewN ?_ _ | refine Aud.drew ?_)
            · go_quiet (fail)
              go_wp2
              go_ret
              refine ⟨⟨_, rfl⟩, ?_⟩
              repeat (first | exact HA.out | refine Aud.set ?_ _ _ hg _ | refine Aud.drewN ?_ _ | refine Aud.drew ?_)
        · go_quiet (fail)
          go_wp2
          go_ret
          refine ⟨⟨_, rfl⟩, ?_⟩
          repeat (first | exact HA.out | refine Aud.set ?_ _ _ hg _ | refine Aud.drewN ?_ _ | refine Aud.drew ?_)
    · go_quiet (fail)
      replace HA : Hid (Aud base w (w.drewN nq) (.slice (some ⟨g, 0, none⟩) m cap) m gr) := HA.out.drewN nq
      replace cr4 : (w.drewN nq).cell? ⟨gr, 4, none⟩ = some (.int .i64 r4) := cr4
      replace cr5 : (w.drewN nq).cell? ⟨gr, 5, none⟩ = some (.int .i64 r5) := cr5
      replace cr6 : (w.drewN nq).cell? ⟨gr, 6, none⟩ = some (.int .i64 r6) := cr6
      replace c3 : (w.drewN nq).cell? ⟨g, off + 3, none⟩ = some (.int .i64 q3) := c3
      replace c11 : (w.drewN nq).cell? ⟨g, off + 11, none⟩ = some (.int .i64 f11) := c11
      generalize w.drewN nq = WA at *
      go_wp2_with fail
      by_cases d1 : r5 ≤ f11
      · go_quiet (fail)
        go_wp2
        go_ret
        refine ⟨⟨_, rfl⟩, ?_⟩
        repeat (first | exact HA.out | refine Aud.set ?_ _ _ hg _ | refine Aud.drewN ?_ _ | refine Aud.drew ?_)
      cases d2 : (r4 == 0)
      · go_quiet (fail)
        go_wp2
        go_ret
        refine ⟨⟨_, rfl⟩, ?_⟩
        repeat (first | exact HA.out | refine Aud.set ?_ _ _ hg _ | refine Aud.drewN ?_ _ | refine Aud.drew ?_)
      · by_cases d3 : 1 < r6
        · go_quiet (fail)
          go_wp2
          go_ret
          refine ⟨⟨_, rfl⟩, ?_⟩
          repeat (first | exact HA.out | refine Aud.set ?_ _ _ hg _ | refine Aud.drewN ?_ _ | refine Aud.drew ?_)
        cases d4 : (r6 == 1)
        · go_quiet (fail)
          go_wp2
          go_ret
          refine ⟨⟨_, rfl⟩, ?_⟩
          repeat (first | exact HA.out | refine Aud.set ?_ _ _ hg _ | refine Aud.drewN ?_ _ | refine Aud.drew ?_)
        · go_quiet (fail)
          replace HA : Hid (Aud base w (WA.drewN nq) (.slice (some ⟨g, 0, none⟩) m cap) m gr) := HA.out.drewN nq
          replace cr5 : (WA.drewN nq).cell? ⟨gr, 5, none⟩ = some (.int .i64 r5) := cr5
          replace c3 : (WA.drewN nq).cell? ⟨g, off + 3, none⟩ = some (.int .i64 q3) := c3
          generalize WA.drewN nq = WB at *
          clear cr4 cr6 c11 d1 d3 d2 d4
          have fx3 := HA.out.block.froz (off + 3)
          go_wp2_with fail
          replace HA : Hid (Aud base w (WB.setCell ⟨g, off + 3, none⟩ (.int .i64 r5)) (.slice (some ⟨g, 0, none⟩) m cap) m gr) := HA.out.set _ _ hg _
          clear c3 cr5 fx3
          generalize WB.setCell ⟨g, off + 3, none⟩ (.int .i64 r5) = WC at *
          obtain ⟨x11, cx11⟩ := HA.out.block.cell (off + 11) (by omega)
          obtain ⟨x10, cx10⟩ := HA.out.block.cell (off + 10) (by omega)
          obtain ⟨y5, cy5⟩ := HA.out.rcd.cell 5 (by omega)
          have fx10 := HA.out.block.froz (off + 10)
          apply merge
          · intro hh
            go_region_law (fail)
            all_goals exact hh
          replace HA : Hid (Aud base w (WC.setCell ⟨g, off + 10, none⟩ (.int .i64 (IntKind.i64.wrap (y5 - x11)))).drew (.slice (some ⟨g, 0, none⟩) m cap) m gr) := (HA.out.set _ _ hg _).drew
          clear cx11 cx10 cy5 fx10
          generalize (WC.setCell ⟨g, off + 10, none⟩ (.int .i64 (IntKind.i64.wrap (y5 - x11)))).drew = WD at *
          obtain ⟨z13, cz13⟩ := HA.out.block.cell (off + 13) (by omega)
          obtain ⟨z10, cz10⟩ := HA.out.block.cell (off + 10) (by omega)
          obtain ⟨z2, cz2⟩ := HA.out.block.cell (off + 2) (by omega)
          obtain ⟨z9, cz9⟩ := HA.out.block.cell (off + 9) (by omega)
          obtain ⟨y4, cy4⟩ := HA.out.rcd.cell 4 (by omega)
          have fz13 := HA.out.block.froz (off + 13)
          have fz9 := HA.out.block.froz (off + 9)
          go_wp2_with fail
          by_cases u1 : z10 < z13
          · go_quiet (fail)
            go_wp2
            go_ret
            refine ⟨⟨_, rfl⟩, ?_⟩
            repeat (first | exact HA.out | refine Aud.set ?_ _ _ hg _ | refine Aud.drewN ?_ _ | refine Aud.drew ?_)
          by_cases u2 : 0 < z13
          · cases u3 : (z2 != 2)
            · go_quiet (fail)
              go_wp2
              go_ret
              refine ⟨⟨_, rfl⟩, ?_⟩
              repeat (first | exact HA.out | refine Aud.set ?_ _ _ hg _ | refine Aud.drewN ?_ _ | refine Aud.drew ?_)
            · go_quiet (fail)
              go_wp2
              go_ret
              refine ⟨⟨_, rfl⟩, ?_⟩
              repeat (first | exact HA.out | refine Aud.set ?_ _ _ hg _ | refine Aud.drewN ?_ _ | refine Aud.drew ?_)
          · go_quiet (fail)
            go_wp2
            go_ret
            refine ⟨⟨_, rfl⟩, ?_⟩
            repeat (first | exact HA.out | refine Aud.set ?_ _ _ hg _ | refine Aud.drewN ?_ _ | refine Aud.drew ?_)
  · cases k2 : (t2 == 3)
    · go_quiet (fail)
      replace HA : Hid (Aud base w (w.drewN nq) (.slice (some ⟨g, 0, none⟩) m cap) m gr) := HA.out.drewN nq
      replace cr4 : (w.drewN nq).cell? ⟨gr, 4, none⟩ = some (.int .i64 r4) := cr4
      replace cr5 : (w.drewN nq).cell? ⟨gr, 5, none⟩ = some (.int .i64 r5) := cr5
      replace cr6 : (w.drewN nq).cell? ⟨gr, 6, none⟩ = some (.int .i64 r6) := cr6
      replace c3 : (w.drewN nq).cell? ⟨g, off + 3, none⟩ = some (.int .i64 q3) := c3
      replace c11 : (w.drewN nq).cell? ⟨g, off + 11, none⟩ = some (.int .i64 f11) := c11
      generalize w.drewN nq = WA at *
      go_wp2_with fail
      by_cases d1 : r5 ≤ f11
      · go_quiet (fail)
        go_wp2
        go_ret
        refine ⟨⟨_, rfl⟩, ?_⟩
        repeat (first | exact HA.out | refine Aud.set ?_ _ _ hg _ | refine Aud.drewN ?_ _ | refine Aud.drew ?_)
      cases d2 : (r4 == 0)
      · by_cases d3 : 1 < r6
        · go_quiet (fail)
          go_wp2
          go_ret
          refine ⟨⟨_, rfl⟩, ?_⟩
          repeat (first | exact HA.out | refine Aud.set ?_ _ _ hg _ | refine Aud.drewN ?_ _ | refine Aud.drew ?_)
        cases d4 : (r6 == 1)
        · go_quiet (fail)
          replace HA : Hid (Aud base w (WA.drewN nq) (.slice (some ⟨g, 0, none⟩) m cap) m gr) := HA.out.drewN nq
          replace cr5 : (WA.drewN nq).cell? ⟨gr, 5, none⟩ = some (.int .i64 r5) := cr5
          replace c3 : (WA.drewN nq).cell? ⟨g, off + 3, none⟩ = some (.int .i64 q3) := c3
          generalize WA.drewN nq = WB at *
          clear cr4 cr6 c11 d1 d3 d2 d4
          have fx3 := HA.out.block.froz (off + 3)
          go_wp2_with fail
          replace HA : Hid (Aud base w (WB.setCell ⟨g, off + 3, none⟩ (.int .i64 r5)) (.slice (some ⟨g, 0, none⟩) m cap) m gr) := HA.out.set _ _ hg _
          clear c3 cr5 fx3
          generalize WB.setCell ⟨g, off + 3, none⟩ (.int .i64 r5) = WC at *
          obtain ⟨x11, cx11⟩ := HA.out.block.cell (off + 11) (by omega)
          obtain ⟨x10, cx10⟩ := HA.out.block.cell (off + 10) (by omega)
          obtain ⟨y5, cy5⟩ := HA.out.rcd.cell 5 (by omega)
          have fx10 := HA.out.block.froz (off + 10)
          apply merge
          · intro hh
            go_region_law (fail)
            all_goals exact hh
          replace HA : Hid (Aud base w (WC.setCell ⟨g, off + 10, none⟩ (.int .i64 (IntKind.i64.wrap (y5 - x11)))).drew (.slice (some ⟨g, 0, none⟩) m cap) m gr) := (HA.out.set _ _ hg _).drew
          clear cx11 cx10 cy5 fx10
          generalize (WC.setCell ⟨g, off + 10, none⟩ (.int .i64 (IntKind.i64.wrap (y5 - x11)))).drew = WD at *
          obtain ⟨z13, cz13⟩ := HA.out.block.cell (off + 13) (by omega)
          obtain ⟨z10, cz10⟩ := HA.out.block.cell (off + 10) (by omega)
          obtain ⟨z2, cz2⟩ := HA.out.block.cell (off + 2) (by omega)
          obtain ⟨z9, cz9⟩ := HA.out.block.cell (off + 9) (by omega)
          obtain ⟨y4, cy4⟩ := HA.out.rcd.cell 4 (by omega)
          have fz13 := HA.out.block.froz (off + 13)
          have fz9 := HA.out.block.froz (off + 9)
          go_wp2_with fail
          go_quiet (fail)
          go_wp2
          go_ret
          refine ⟨⟨_, rfl⟩, ?_⟩
          repeat (first | exact HA.out | refine Aud.set ?_ _ _ hg _ | refine Aud.drewN ?_ _ | refine Aud.drew ?_)
        · go_quiet (fail)
          go_wp2
          go_ret
          refine ⟨⟨_, rfl⟩, ?_⟩
          repeat (first | exact HA.out | refine Aud.set ?_ _ _ hg _ | refine Aud.drewN ?_ _ | refine Aud.drew ?_)
      · go_quiet (fail)
        go_wp2
        go_ret
        refine ⟨⟨_, rfl⟩, ?_⟩
        repeat (first | exact HA.out | refine Aud.set ?_ _ _ hg _ | refine Aud.drewN ?_ _ | refine Aud.drew ?_)
    · go_quiet (fail)
      replace HA : Hid (Aud base w (w.drewN nq) (.slice (some ⟨g, 0, none⟩) m cap) m gr) := HA.out.drewN nq
      replace cr4 : (w.drewN nq).cell? ⟨gr, 4, none⟩ = some (.int .i64 r4) := cr4
      replace cr5 : (w.drewN nq).cell? ⟨gr, 5, none⟩ = some (.int .i64 r5) := cr5
      replace cr6 : (w.drewN nq).cell? ⟨gr, 6, none⟩ = some (.int .i64 r6) := cr6
      replace c3 : (w.drewN nq).cell? ⟨g, off + 3, none⟩ = some (.int .i64 q3) := c3
      replace c11 : (w.drewN nq).cell? ⟨g, off + 11, none⟩ = some (.int .i64 f11) := c11
      generalize w.drewN nq = WA at *
      go_wp2_with fail
      by_cases d1 : r5 ≤ f11
      · go_quiet (fail)
        go_wp2
        go_ret
        refine ⟨⟨_, rfl⟩, ?_⟩
        repeat (first | exact HA.out | refine Aud.set ?_ _ _ hg _ | refine Aud.drewN ?_ _ | refine Aud.drew ?_)
      cases d2 : (r4 == 0)
      · go_quiet (fail)
        go_wp2
        go_ret
        refine ⟨⟨_, rfl⟩, ?_⟩
        repeat (first | exact HA.out | refine Aud.set ?_ _ _ hg _ | refine Aud.drewN ?_ _ | refine Aud.drew ?_)
      · by_cases d3 : 1 < r6
        · go_quiet (fail)
          go_wp2
          go_ret
          refine ⟨⟨_, rfl⟩, ?_⟩
          repeat (first | exact HA.out | refine Aud.set ?_ _ _ hg _ | refine Aud.drewN ?_ _ | refine Aud.drew ?_)
        cases d4 : (r6 == 1)
        · go_quiet (fail)
          replace HA : Hid (Aud base w (WA.drewN nq) (.slice (some ⟨g, 0, none⟩) m cap) m gr) := HA.out.drewN nq
          replace cr5 : (WA.drewN nq).cell? ⟨gr, 5, none⟩ = some (.int .i64 r5) := cr5
          replace c3 : (WA.drewN nq).cell? ⟨g, off + 3, none⟩ = some (.int .i64 q3) := c3
          generalize WA.drewN nq = WB at *
          clear cr4 cr6 c11 d1 d3 d2 d4
          have fx3 := HA.out.block.froz (off + 3)
          go_wp2_with fail
          replace HA : Hid (Aud base w (WB.setCell ⟨g, off + 3, none⟩ (.int .i64 r5)) (.slice (some ⟨g, 0, none⟩) m cap) m gr) := HA.out.set _ _ hg _
          clear c3 cr5 fx3
          generalize WB.setCell ⟨g, off + 3, none⟩ (.int .i64 r5) = WC at *
          obtain ⟨x11, cx11⟩ := HA.out.block.cell (off + 11) (by omega)
          obtain ⟨x10, cx10⟩ := HA.out.block.cell (off + 10) (by omega)
          obtain ⟨y5, cy5⟩ := HA.out.rcd.cell 5 (by omega)
          have fx10 := HA.out.block.froz (off + 10)
          apply merge
          · intro hh
            go_region_law (fail)
            all_goals exact hh
          replace HA : Hid (Aud base w (WC.setCell ⟨g, off + 10, none⟩ (.int .i64 (IntKind.i64.wrap (y5 - x11)))).drew (.slice (some ⟨g, 0, none⟩) m cap) m gr) := (HA.out.set _ _ hg _).drew
          clear cx11 cx10 cy5 fx10
          generalize (WC.setCell ⟨g, off + 10, none⟩ (.int .i64 (IntKind.i64.wrap (y5 - x11)))).drew = WD at *
          obtain ⟨z13, cz13⟩ := HA.out.block.cell (off + 13) (by omega)
          obtain ⟨z10, cz10⟩ := HA.out.block.cell (off + 10) (by omega)
          obtain ⟨z2, cz2⟩ := HA.out.block.cell (off + 2) (by omega)
          obtain ⟨z9, cz9⟩ := HA.out.block.cell (off + 9) (by omega)
          obtain ⟨y4, cy4⟩ := HA.out.rcd.cell 4 (by omega)
          have fz13 := HA.out.block.froz (off + 13)
          have fz9 := HA.out.block.froz (off + 9)
          go_wp2_with fail
          go_quiet (fail)
          go_wp2
          go_ret
          refine ⟨⟨_, rfl⟩, ?_⟩
          repeat (first | exact HA.out | refine Aud.set ?_ _ _ hg _ | refine Aud.drewN ?_ _ | refine Aud.drew ?_)
        · go_quiet (fail)
          go_wp2
          go_ret
          refine ⟨⟨_, rfl⟩, ?_⟩
          repeat (first | exact HA.out | refine Aud.set ?_ _ _ hg _ | refine Aud.drewN ?_ _ | refine Aud.drew ?_)
end Go.Proofs.YtcajmohgjojhhaaGreatDoor
