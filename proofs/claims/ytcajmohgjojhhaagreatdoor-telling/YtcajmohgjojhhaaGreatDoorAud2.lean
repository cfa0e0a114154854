import Derived.Test.YtcajmohgjojhhaaGreatDoorAud1
import Derived.Test.YtcajmohgjojhhaaGreatDoorMG
import Derived.Deep.RegionLaw
set_option linter.unusedVariables false
set_option linter.unusedSimpArgs false
namespace Go.Proofs.YtcajmohgjojhhaaGreatDoor
open Go.RowKit Go.Extern

/-- What the audit's steps keep: the row of states, the record, all that lay below. -/
structure Aud (base : Nat) (w0 w : World) (v : Value) (m gr : Nat) : Prop where
  row : SR base w v m
  rcd : IntBlock w gr 111 7
  low : Below base w0 w
theorem Aud.drew {base : Nat} {w0 w : World} {v : Value} {m gr : Nat} (h : Aud base w0 w v m gr) : Aud base w0 w.drew v m gr := ⟨h.row, h.rcd, ⟨h.low.os, h.low.tape, h.low.output, h.low.size, h.low.block⟩⟩
theorem Aud.drewN {base : Nat} {w0 w : World} {v : Value} {m gr : Nat} (h : Aud base w0 w v m gr) (k : Nat) : Aud base w0 (w.drewN k) v m gr := ⟨h.row, h.rcd, ⟨h.low.os, h.low.tape, h.low.output, h.low.size, h.low.block⟩⟩
theorem Aud.set {base : Nat} {w0 w : World} {v : Value} {m gr : Nat} (h : Aud base w0 w v m gr) (g o : Nat) (hg : base ≤ g) (x : Int) : Aud base w0 (w.setCell ⟨g, o, none⟩ (.int .i64 x)) v m gr := ⟨h.row.set g o x, h.rcd.set g o x, h.low.setCell (p := ⟨g, o, none⟩) hg _⟩
theorem Aud.block {base : Nat} {w0 w : World} {m gr g cap : Nat} (h : Aud base w0 w (.slice (some ⟨g, 0, none⟩) m cap) m gr) : IntBlock w g 125 (m * 15) := by
  rcases h.row.shape with ⟨e, -⟩ | ⟨g', cap', e, _, hib⟩
  · cases e
  · injection e with e1 e2 e3
    injection e1 with e1
    injection e1 with e1
    subst e1
    exact hib

theorem merge {T G : Prop} (h : T → G) (t : T) : G := h t

set_option maxRecDepth 100000 in
set_option maxHeartbeats 8000000 in
theorem traded_any (base : Nat) (w : World) (v : Value) (m gr : Nat) (h : SR base w v m) (hr : IntBlock w gr 111 7) (hm : m ≤ 1000000000) :
    Calls Tryz.prog 85 #[v, .pointer (some ⟨gr, 0, none⟩)] w fun e w' => SomeBool e ∧ SR base w' v m ∧ Below base w w' := by
  obtain ⟨r2, cr2⟩ := hr.cell 2 (by omega)
  obtain ⟨r3, cr3⟩ := hr.cell 3 (by omega)
  obtain ⟨r4, cr4⟩ := hr.cell 4 (by omega)
  obtain ⟨r5, cr5⟩ := hr.cell 5 (by omega)
  obtain ⟨r6, cr6⟩ := hr.cell 6 (by omega)
  have HL : Hid (∀ id, Calls Tryz.prog 86 #[v, .int .i64 id] w fun e w' => (e = .returned (.int .i64 (-1)) ∨ ∃ i : Nat, i < m ∧ e = .returned (.int .i64 (i : Int))) ∧ w' = w) := fun id => live_any base w v m id h hm
  have HSR : Hid (SR base w v m) := h
  have HR : Hid (IntBlock w gr 111 7) := hr
  clear h hr
  go_enter Tryz.func85, Tryz.ntmps85
  go_wp2_with fail
  refine (HL.out _).mono ?_
  rintro e w1 ⟨h1, rfl⟩
  rcases h1 with rfl | ⟨i, hi, rfl⟩
  · go_wp2_with fail
    refine (HL.out _).mono ?_
    rintro e w2 ⟨h2, rfl⟩
    rcases h2 with rfl | ⟨k, hk, rfl⟩
    all_goals
      go_wp2
      go_ret
      exact ⟨⟨_, rfl⟩, HSR.out, Below.refl _ _⟩
  · go_wp2_with fail
    refine (HL.out _).mono ?_
    rintro e w2 ⟨h2, rfl⟩
    rcases h2 with rfl | ⟨k, hk, rfl⟩
    · go_wp2
      go_ret
      exact ⟨⟨_, rfl⟩, HSR.out, Below.refl _ _⟩
    · rcases HSR.out.shape with ⟨rfl, rfl⟩ | ⟨g, cap, rfl, hg, hib⟩
      · omega
      have hi0 : decide ((i : Int) < 0) = false := decide_eq_false (by omega)
      have hk0 : decide ((k : Int) < 0) = false := decide_eq_false (by omega)
      have hiI : (i : Int) < (m : Int) := by omega
      have hkI : (k : Int) < (m : Int) := by omega
      cases eik : ((i : Int) == (k : Int))
      case true =>
        go_wp2
        go_ret
        exact ⟨⟨_, rfl⟩, HSR.out, Below.refl _ _⟩
      cases e6 : (r6 != 0)
      case true =>
        go_wp2
        go_ret
        exact ⟨⟨_, rfl⟩, HSR.out, Below.refl _ _⟩
      obtain ⟨o2, co2⟩ := hib.cell (i * 15 + 2) (by omega)
      obtain ⟨o10, co10⟩ := hib.cell (i * 15 + 10) (by omega)
      obtain ⟨o13, co13⟩ := hib.cell (i * 15 + 13) (by omega)
      obtain ⟨p9, cp9⟩ := hib.cell (k * 15 + 9) (by omega)
      obtain ⟨p13, cp13⟩ := hib.cell (k * 15 + 13) (by omega)
      have HIB : Hid (IntBlock w2 g 125 (m * 15)) := hib
      clear hib
      go_wp2_with fail
      cases q1 : (o2 == 3)
      case true =>
        go_quiet (fail)
        go_wp2
        go_ret
        exact ⟨⟨_, rfl⟩, HSR.out, ⟨rfl, rfl, rfl, Nat.le_refl _, fun _ _ => rfl⟩⟩
      cases q2 : (decide (0 < o13))
      case true =>
        go_quiet (fail)
        go_wp2
        go_ret
        exact ⟨⟨_, rfl⟩, HSR.out, ⟨rfl, rfl, rfl, Nat.le_refl _, fun _ _ => rfl⟩⟩
      cases q3 : (r4 != p9)
      case true =>
        go_quiet (fail)
        go_wp2
        go_ret
        exact ⟨⟨_, rfl⟩, HSR.out, ⟨rfl, rfl, rfl, Nat.le_refl _, fun _ _ => rfl⟩⟩
      cases q4 : (decide (r5 < 1))
      case true =>
        go_quiet (fail)
        go_wp2
        go_ret
        exact ⟨⟨_, rfl⟩, HSR.out, ⟨rfl, rfl, rfl, Nat.le_refl _, fun _ _ => rfl⟩⟩
      cases q5 : (decide (o10 < r5))
      case true =>
        go_quiet (fail)
        go_wp2
        go_ret
        exact ⟨⟨_, rfl⟩, HSR.out, ⟨rfl, rfl, rfl, Nat.le_refl _, fun _ _ => rfl⟩⟩
      cases q6 : (decide (p13 < r5))
      case true =>
        go_quiet (fail)
        go_wp2
        go_ret
        exact ⟨⟨_, rfl⟩, HSR.out, ⟨rfl, rfl, rfl, Nat.le_refl _, fun _ _ => rfl⟩⟩
      go_quiet (fail)
      go_wp2_with fail
      have HA : Hid (Aud base w2 (w2.drewN nq) (.slice (some ⟨g, 0, none⟩) m cap) m gr) := Aud.drewN ⟨HSR.out, HR.out, Below.refl _ _⟩ nq
      clear HIB HSR HR co2 co10 co13 cp9 cp13 cr2 cr3 cr4 cr5 cr6 q1 q2 q3 q4 q5 q6 HL
      generalize w2.drewN nq = W at *
      obtain ⟨x0, cx⟩ := HA.out.block.cell (i * 15 + 10) (by omega)
      obtain ⟨y0, cy⟩ := HA.out.rcd.cell 5 (by omega)
      have fx := HA.out.block.froz (i * 15 + 10)
      apply merge
      · intro hh
        go_region_law (fail)
        all_goals exact hh
      go_wp2_with fail
      replace HA : Hid (Aud base w2 (W.setCell ⟨g, i * 15 + 10, none⟩ (.int .i64 (IntKind.i64.wrap (x0 - y0)))).drew (.slice (some ⟨g, 0, none⟩) m cap) m gr) := (HA.out.set _ _ hg _).drew
      clear cx cy fx
      generalize (W.setCell ⟨g, i * 15 + 10, none⟩ (.int .i64 (IntKind.i64.wrap (x0 - y0)))).drew = W1 at *
      obtain ⟨x1, cx⟩ := HA.out.block.cell (i * 15 + 11) (by omega)
      obtain ⟨y1, cy⟩ := HA.out.rcd.cell 5 (by omega)
      have fx := HA.out.block.froz (i * 15 + 11)
      apply merge
      · intro hh
        go_region_law (fail)
        all_goals exact hh
      go_wp2_with fail
      replace HA : Hid (Aud base w2 (W1.setCell ⟨g, i * 15 + 11, none⟩ (.int .i64 (IntKind.i64.wrap (x1 + y1)))).drew (.slice (some ⟨g, 0, none⟩) m cap) m gr) := (HA.out.set _ _ hg _).drew
      clear cx cy fx
      generalize (W1.setCell ⟨g, i * 15 + 11, none⟩ (.int .i64 (IntKind.i64.wrap (x1 + y1)))).drew = W2 at *
      obtain ⟨x2, cx⟩ := HA.out.block.cell (k * 15 + 10) (by omega)
      obtain ⟨y2, cy⟩ := HA.out.rcd.cell 5 (by omega)
      have fx := HA.out.block.froz (k * 15 + 10)
      apply merge
      · intro hh
        go_region_law (fail)
        all_goals exact hh
      go_wp2_with fail
      replace HA : Hid (Aud base w2 (W2.setCell ⟨g, k * 15 + 10, none⟩ (.int .i64 (IntKind.i64.wrap (x2 - y2)))).drew (.slice (some ⟨g, 0, none⟩) m cap) m gr) := (HA.out.set _ _ hg _).drew
      clear cx cy fx
      generalize (W2.setCell ⟨g, k * 15 + 10, none⟩ (.int .i64 (IntKind.i64.wrap (x2 - y2)))).drew = W3 at *
      obtain ⟨x3, cx⟩ := HA.out.block.cell (k * 15 + 11) (by omega)
      obtain ⟨y3, cy⟩ := HA.out.rcd.cell 5 (by omega)
      have fx := HA.out.block.froz (k * 15 + 11)
      apply merge
      · intro hh
        go_region_law (fail)
        all_goals exact hh
      go_wp2_with fail
      replace HA : Hid (Aud base w2 (W3.setCell ⟨g, k * 15 + 11, none⟩ (.int .i64 (IntKind.i64.wrap (x3 + y3)))).drew (.slice (some ⟨g, 0, none⟩) m cap) m gr) := (HA.out.set _ _ hg _).drew
      clear cx cy fx
      generalize (W3.setCell ⟨g, k * 15 + 11, none⟩ (.int .i64 (IntKind.i64.wrap (x3 + y3)))).drew = W4 at *
      obtain ⟨x4, cx⟩ := HA.out.block.cell (k * 15 + 13) (by omega)
      obtain ⟨y4, cy⟩ := HA.out.rcd.cell 5 (by omega)
      have fx := HA.out.block.froz (k * 15 + 13)
      apply merge
      · intro hh
        go_region_law (fail)
        all_goals exact hh
      replace HA : Hid (Aud base w2 (W4.setCell ⟨g, k * 15 + 13, none⟩ (.int .i64 (IntKind.i64.wrap (x4 - y4)))).drew (.slice (some ⟨g, 0, none⟩) m cap) m gr) := (HA.out.set _ _ hg _).drew
      clear cx cy fx
      generalize (W4.setCell ⟨g, k * 15 + 13, none⟩ (.int .i64 (IntKind.i64.wrap (x4 - y4)))).drew = W5 at *
      obtain ⟨x, cx⟩ := HA.out.block.cell (i * 15 + 10) (by omega)
      obtain ⟨s1, cs1⟩ := HA.out.block.cell (i * 15 + 8) (by omega)
      have fs1 := HA.out.block.froz (i * 15 + 8)
      obtain ⟨y, cy⟩ := HA.out.block.cell (k * 15 + 10) (by omega)
      obtain ⟨s2, cs2⟩ := HA.out.block.cell (k * 15 + 8) (by omega)
      have fs2 := HA.out.block.froz (k * 15 + 8)
      have HA1 : Hid (Aud base w2 (W5.setCell ⟨g, i * 15 + 8, none⟩ (.int .i64 2)) (.slice (some ⟨g, 0, none⟩) m cap) m gr) := HA.out.set _ _ hg _
      have HA2 : Hid (Aud base w2 (W5.setCell ⟨g, k * 15 + 8, none⟩ (.int .i64 2)) (.slice (some ⟨g, 0, none⟩) m cap) m gr) := HA.out.set _ _ hg _
      have HA3 : Hid (Aud base w2 ((W5.setCell ⟨g, i * 15 + 8, none⟩ (.int .i64 2)).setCell ⟨g, k * 15 + 8, none⟩ (.int .i64 2)) (.slice (some ⟨g, 0, none⟩) m cap) m gr) := HA1.out.set _ _ hg _
      obtain ⟨y', cy'⟩ := HA1.out.block.cell (k * 15 + 10) (by omega)
      obtain ⟨s2', cs2'⟩ := HA1.out.block.cell (k * 15 + 8) (by omega)
      have fs2' := HA1.out.block.froz (k * 15 + 8)
      cases ex : (x == 0)
      · cases ey : (y == 0)
        · go_wp2
          go_ret
          exact ⟨⟨_, rfl⟩, HA.out.row, HA.out.low⟩
        · go_wp2
          go_ret
          exact ⟨⟨_, rfl⟩, HA2.out.row, HA2.out.low⟩
      · cases ey : (y' == 0)
        · go_wp2
          go_ret
          exact ⟨⟨_, rfl⟩, HA1.out.row, HA1.out.low⟩
        · go_wp2
          go_ret
          exact ⟨⟨_, rfl⟩, HA3.out.row, HA3.out.low⟩
end Go.Proofs.YtcajmohgjojhhaaGreatDoor
