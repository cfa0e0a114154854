import Derived.Test.YtcajmohgjojhhaaGreatDoorAud3
set_option linter.unusedVariables false
set_option linter.unusedSimpArgs false
namespace Go.Proofs.YtcajmohgjojhhaaGreatDoor
open Go.RowKit Go.Extern

theorem SR.set15 {base : Nat} {w : World} {v : Value} {m : Nat} (h : SR base w v m) (b o : Nat) (x0 x1 x2 x3 x4 x5 x6 x7 x8 x9 x10 x11 x12 x13 x14 : Int) : SR base (((((((((((((((w.setCell ⟨b, o, none⟩ (.int .i64 x0)).setCell ⟨b, o + 1, none⟩ (.int .i64 x1)).setCell ⟨b, o + 2, none⟩ (.int .i64 x2)).setCell ⟨b, o + 3, none⟩ (.int .i64 x3)).setCell ⟨b, o + 4, none⟩ (.int .i64 x4)).setCell ⟨b, o + 5, none⟩ (.int .i64 x5)).setCell ⟨b, o + 6, none⟩ (.int .i64 x6)).setCell ⟨b, o + 7, none⟩ (.int .i64 x7)).setCell ⟨b, o + 8, none⟩ (.int .i64 x8)).setCell ⟨b, o + 9, none⟩ (.int .i64 x9)).setCell ⟨b, o + 10, none⟩ (.int .i64 x10)).setCell ⟨b, o + 11, none⟩ (.int .i64 x11)).setCell ⟨b, o + 12, none⟩ (.int .i64 x12)).setCell ⟨b, o + 13, none⟩ (.int .i64 x13)).setCell ⟨b, o + 14, none⟩ (.int .i64 x14)) v m := (((((((((((((((h.set b (o) x0).set b (o + 1) x1).set b (o + 2) x2).set b (o + 3) x3).set b (o + 4) x4).set b (o + 5) x5).set b (o + 6) x6).set b (o + 7) x7).set b (o + 8) x8).set b (o + 9) x9).set b (o + 10) x10).set b (o + 11) x11).set b (o + 12) x12).set b (o + 13) x13).set b (o + 14) x14)
theorem below_set15 {B : Nat} {a w : World} (h : Below B a w) (b o : Nat) (hb : B ≤ b) (x0 x1 x2 x3 x4 x5 x6 x7 x8 x9 x10 x11 x12 x13 x14 : Int) : Below B a (((((((((((((((w.setCell ⟨b, o, none⟩ (.int .i64 x0)).setCell ⟨b, o + 1, none⟩ (.int .i64 x1)).setCell ⟨b, o + 2, none⟩ (.int .i64 x2)).setCell ⟨b, o + 3, none⟩ (.int .i64 x3)).setCell ⟨b, o + 4, none⟩ (.int .i64 x4)).setCell ⟨b, o + 5, none⟩ (.int .i64 x5)).setCell ⟨b, o + 6, none⟩ (.int .i64 x6)).setCell ⟨b, o + 7, none⟩ (.int .i64 x7)).setCell ⟨b, o + 8, none⟩ (.int .i64 x8)).setCell ⟨b, o + 9, none⟩ (.int .i64 x9)).setCell ⟨b, o + 10, none⟩ (.int .i64 x10)).setCell ⟨b, o + 11, none⟩ (.int .i64 x11)).setCell ⟨b, o + 12, none⟩ (.int .i64 x12)).setCell ⟨b, o + 13, none⟩ (.int .i64 x13)).setCell ⟨b, o + 14, none⟩ (.int .i64 x14)) := (((((((((((((((h.setCell (p := ⟨b, o, none⟩) hb _).setCell (p := ⟨b, o + 1, none⟩) hb _).setCell (p := ⟨b, o + 2, none⟩) hb _).setCell (p := ⟨b, o + 3, none⟩) hb _).setCell (p := ⟨b, o + 4, none⟩) hb _).setCell (p := ⟨b, o + 5, none⟩) hb _).setCell (p := ⟨b, o + 6, none⟩) hb _).setCell (p := ⟨b, o + 7, none⟩) hb _).setCell (p := ⟨b, o + 8, none⟩) hb _).setCell (p := ⟨b, o + 9, none⟩) hb _).setCell (p := ⟨b, o + 10, none⟩) hb _).setCell (p := ⟨b, o + 11, none⟩) hb _).setCell (p := ⟨b, o + 12, none⟩) hb _).setCell (p := ⟨b, o + 13, none⟩) hb _).setCell (p := ⟨b, o + 14, none⟩) hb _)

set_option maxRecDepth 100000 in
set_option maxHeartbeats 4000000 in
/-- (*Engine).Orders of an engine whose orders are such a row. -/
theorem orders_any (B base : Nat) (w : World) (v : Value) (m : Nat) (h : SR base w v m) (hc : w.cell? ⟨B, 5, none⟩ = some v) (hB : B < w.heap.size) (hm : m ≤ 100000000) :
    Calls Tryz.prog 31 #[.pointer (some ⟨B, 0, none⟩)] w fun e w' => ∃ v', e = .returned v' ∧ SR w.heap.size w' v' m ∧ Below w.heap.size w w' := by
  obtain ⟨i0, hi, hz0, hz1, hz2⟩ := info_parts2 Tryz.infoSt Tryz.zeroSt
  have HINF : Hid (Tryz.prog.info? 125 = some i0 ∧ i0.zero = some (.agg #[.int .i64 0, .int .i64 0, .int .i64 0, .int .i64 0, .int .i64 0, .int .i64 0, .int .i64 0, .int .i64 0, .int .i64 0, .int .i64 0, .int .i64 0, .int .i64 0, .int .i64 0, .int .i64 0, .int .i64 0]) ∧ i0.size = 15 ∧ i0.bytes = 120) := ⟨hi, hz0, hz1, hz2⟩
  clear hi hz0 hz1 hz2
  obtain ⟨p, cap, rfl, hp⟩ := h.shape'
  have HSR : Hid (SR base w (.slice p m cap) m) := h
  clear h
  go_enter Tryz.func31, Tryz.ntmps31
  go_wp2
  go_loopw [3, 4] (fun l i wr => ∃ k : Nat, i = .int .i64 k ∧ k ≤ m ∧ SR w.heap.size wr l k ∧ Below w.heap.size w wr) (fun _ i _ => m - (intOf i).toNat)
  case atStart => exact ⟨0, rfl, Nat.zero_le _, SR.nil _ _, Below.refl _ _⟩
  case round =>
    obtain ⟨k, rfl, hk, hsr, hbw⟩ := hrel
    have hcr : wr.cell? ⟨B, 5, none⟩ = some (.slice p m cap) := (hbw.cell (p := ⟨B, 5, none⟩) hB).trans hc
    have HBW : Hid (Below w.heap.size w wr) := hbw
    have HL : Hid (SR w.heap.size wr u3 k) := hsr
    have hbs := hbw.size
    clear hsr hbw
    by_cases hlt : k < m
    · have hkI : (k : Int) < (m : Int) := by omega
      obtain ⟨g, rfl, hg, hib⟩ := hp.resolve_left (by omega)
      have hib' : IntBlock wr g 125 (m * 15) := hib.below HBW.out
      obtain ⟨e0, c0⟩ := hib'.cell (k * 15 + 0) (by omega)
      obtain ⟨e1, c1⟩ := hib'.cell (k * 15 + 1) (by omega)
      obtain ⟨e2, c2⟩ := hib'.cell (k * 15 + 2) (by omega)
      obtain ⟨e3, c3⟩ := hib'.cell (k * 15 + 3) (by omega)
      obtain ⟨e4, c4⟩ := hib'.cell (k * 15 + 4) (by omega)
      obtain ⟨e5, c5⟩ := hib'.cell (k * 15 + 5) (by omega)
      obtain ⟨e6, c6⟩ := hib'.cell (k * 15 + 6) (by omega)
      obtain ⟨e7, c7⟩ := hib'.cell (k * 15 + 7) (by omega)
      obtain ⟨e8, c8⟩ := hib'.cell (k * 15 + 8) (by omega)
      obtain ⟨e9, c9⟩ := hib'.cell (k * 15 + 9) (by omega)
      obtain ⟨e10, c10⟩ := hib'.cell (k * 15 + 10) (by omega)
      obtain ⟨e11, c11⟩ := hib'.cell (k * 15 + 11) (by omega)
      obtain ⟨e12, c12⟩ := hib'.cell (k * 15 + 12) (by omega)
      obtain ⟨e13, c13⟩ := hib'.cell (k * 15 + 13) (by omega)
      obtain ⟨e14, c14⟩ := hib'.cell (k * 15 + 14) (by omega)
      rw [Nat.add_zero] at c0
      obtain ⟨xs, hown, hints⟩ := HL.out
      have HOWN : Hid (wr.ownsRow w.heap.size 125 15 u3 k xs ∧ ∀ u ∈ xs, ∃ x, u = .int .i64 x) := ⟨hown, hints⟩
      have HW2 : Hid (∀ o, (wr.alloc o).ownsRow w.heap.size 125 15 u3 k xs) := fun o => hown.alloc o
      have HC1 : Hid (∀ (j : Nat) (u : Value), [.int .i64 e0, .int .i64 e1, .int .i64 e2, .int .i64 e3, .int .i64 e4, .int .i64 e5, .int .i64 e6, .int .i64 e7, .int .i64 e8, .int .i64 e9, .int .i64 e10, .int .i64 e11, .int .i64 e12, .int .i64 e13, .int .i64 e14][j]? = some u → (wr.alloc (.cells #[.int .i64 e0, .int .i64 e1, .int .i64 e2, .int .i64 e3, .int .i64 e4, .int .i64 e5, .int .i64 e6, .int .i64 e7, .int .i64 e8, .int .i64 e9, .int .i64 e10, .int .i64 e11, .int .i64 e12, .int .i64 e13, .int .i64 e14] 125)).cell? (Addr.add ⟨wr.heap.size, 0, none⟩ j) = some u) := fun j u hj => by
        rw [Addr.add_lit, Nat.zero_add]
        exact cell_new wr #[.int .i64 e0, .int .i64 e1, .int .i64 e2, .int .i64 e3, .int .i64 e4, .int .i64 e5, .int .i64 e6, .int .i64 e7, .int .i64 e8, .int .i64 e9, .int .i64 e10, .int .i64 e11, .int .i64 e12, .int .i64 e13, .int .i64 e14] 125 j u (by simp; exact hj)
      have HC2 : Hid (∀ u ∈ ([.int .i64 e0, .int .i64 e1, .int .i64 e2, .int .i64 e3, .int .i64 e4, .int .i64 e5, .int .i64 e6, .int .i64 e7, .int .i64 e8, .int .i64 e9, .int .i64 e10, .int .i64 e11, .int .i64 e12, .int .i64 e13, .int .i64 e14] : List Value), ∃ x, u = .int .i64 x) := fun u hu => by
        simp at hu
        rcases hu with rfl | rfl | rfl | rfl | rfl | rfl | rfl | rfl | rfl | rfl | rfl | rfl | rfl | rfl | rfl <;> exact ⟨_, rfl⟩
      have HC3 : Hid (k + 1 ≤ maxLen ∧ (k + 1) * 120 ≤ 140737488355328) := ⟨by unfold maxLen; omega, by omega⟩
      have HC5 : Hid (∀ o, w.heap.size ≤ (wr.alloc o).heap.size) := fun o => by simp; omega
      have hltr := hown.lt
      clear hown hints hib hib'
      go_wp2_with (at_builtin; refine wpList_append_own _ rfl _ _ 75 rfl w.heap.size 125 i0 _ 15 120 Tryz.underlying75 HINF.out.1 HINF.out.2.1 HINF.out.2.2.1 HINF.out.2.2.2 rfl (by decide) _ _ _ rfl (HW2.out _) ⟨wr.heap.size, 0, none⟩ 1 1 [.int .i64 e0, .int .i64 e1, .int .i64 e2, .int .i64 e3, .int .i64 e4, .int .i64 e5, .int .i64 e6, .int .i64 e7, .int .i64 e8, .int .i64 e9, .int .i64 e10, .int .i64 e11, .int .i64 e12, .int .i64 e13, .int .i64 e14] rfl rfl HC1.out (oneCell_ints HC2.out) HC3.out.1 HC3.out.2 (HC5.out _) ?_)
      intro v' w3 hown3 hgrow3 _
      have hB3 : Below w.heap.size w w3 := (below_alloc HBW.out _).grown hgrow3 (by simp; omega) (fun q hq => (hltr q hq).1)
      have hS3 : SR w.heap.size w3 v' (k + 1) := ⟨_, hown3, fun u hu => by
        rcases List.mem_append.1 hu with hu | hu
        · exact HOWN.out.2 u hu
        · exact HC2.out u hu⟩
      obtain ⟨g', cap', rfl⟩ : ∃ g' cap', v' = .slice (some ⟨g', 0, none⟩) (k + 1) cap' := by
        rcases hown3.2 with ⟨_, h⟩ | ⟨g, cap, cur, h, _⟩
        · omega
        · exact ⟨g, cap, h⟩
      have HS3 : Hid (SR w.heap.size w3 (.slice (some ⟨g', 0, none⟩) (k + 1) cap') (k + 1) ∧ Below w.heap.size w w3) := ⟨hS3, hB3⟩
      have hw1 : wrap64 ((k : Int) + 1 - 1) = (k : Int) := by unfold wrap64; omega
      clear c0 c1 c2 c3 c4 c5 c6 c7 c8 c9 c10 c11 c12 c13 c14 hown3 hgrow3 hB3 hS3 HC1 HC2 HC3 HC5 HW2 HOWN HL hltr
      go_wp2_with fail
      go_loopw [5] (fun i wr2 => ∃ q : Nat, i = .int .i64 q ∧ q ≤ k ∧ SR w.heap.size wr2 (.slice (some ⟨g', 0, none⟩) (k + 1) cap') (k + 1) ∧ Below w.heap.size w wr2) (fun i _ => (intOf i).toNat)
      case atStart => exact ⟨k, rfl, Nat.le_refl _, HS3.out.1, HS3.out.2⟩
      case round =>
        obtain ⟨q, rfl, hq, hs2, hb2⟩ := hrel
        have HR : Hid (SR w.heap.size wr (.slice (some ⟨g', 0, none⟩) (k + 1) cap') (k + 1) ∧ Below w.heap.size w wr) := ⟨hs2, hb2⟩
        have hB : IntBlock wr g' 125 ((k + 1) * 15) := by
          rcases hs2.shape with ⟨e, -⟩ | ⟨g2, cap2, e, _, hib2⟩
          · cases e
          · injection e with e1 e2 e3
            injection e1 with e1
            injection e1 with e1
            subst e1
            exact hib2
        have hg' : w.heap.size ≤ g' := (hs2.lt g' rfl).1
        clear hs2 hb2
        rcases q with _ | q
        · go_wp2_with fail
          go_quiet (fail)
          go_wp2
          go_roundw
          case rel => exact ⟨k + 1, by go_num, by omega, HR.out.1.drewN nq, ⟨HR.out.2.os, HR.out.2.tape, HR.out.2.output, HR.out.2.size, HR.out.2.block⟩⟩
          case measure => simp [intOf]; omega
        · have hq1 : (q : Int) + 1 < (k : Int) + 1 := by omega
          have hq2 : (q : Int) < (k : Int) + 1 := by omega
          have hq0 : (0 : Int) < (q : Int) + 1 := by omega
          have hw2 : IntKind.i64.wrap ((q : Int) + 1 - 1) = (q : Int) := by simp only [IntKind.wrap, IntKind.bits, IntKind.signed]; simp; omega
          have hw3 : wrap64 ((q : Int) + 1 - 1) = (q : Int) := by unfold wrap64; omega
          obtain ⟨a0, ca0⟩ := hB.cell ((q + 1) * 15 + 0) (by omega)
          have fa0 := hB.froz ((q + 1) * 15 + 0)
          obtain ⟨b0, cb0⟩ := hB.cell (q * 15 + 0) (by omega)
          have fb0 := hB.froz (q * 15 + 0)
          rw [Nat.add_zero] at ca0 cb0 fa0 fb0
          have HBB : Hid (IntBlock wr g' 125 ((k + 1) * 15)) := hB
          clear hB
          by_cases hlt2 : a0 < b0
          · go_wp2_with fail
            go_quiet (fail)
            replace HR : Hid (SR w.heap.size (wr.drewN nq) (.slice (some ⟨g', 0, none⟩) (k + 1) cap') (k + 1) ∧ Below w.heap.size w (wr.drewN nq)) := ⟨HR.out.1.drewN nq, ⟨HR.out.2.os, HR.out.2.tape, HR.out.2.output, HR.out.2.size, HR.out.2.block⟩⟩
            have hB : IntBlock (wr.drewN nq) g' 125 ((k + 1) * 15) := HBB.out
            clear ca0 cb0 fa0 fb0 HBB
            generalize wr.drewN nq = W at *
            obtain ⟨a0, ca0⟩ := hB.cell ((q + 1) * 15 + 0) (by omega)
            have fa0 := hB.froz ((q + 1) * 15 + 0)
            obtain ⟨a1, ca1⟩ := hB.cell ((q + 1) * 15 + 1) (by omega)
            have fa1 := hB.froz ((q + 1) * 15 + 1)
            obtain ⟨a2, ca2⟩ := hB.cell ((q + 1) * 15 + 2) (by omega)
            have fa2 := hB.froz ((q + 1) * 15 + 2)
            obtain ⟨a3, ca3⟩ := hB.cell ((q + 1) * 15 + 3) (by omega)
            have fa3 := hB.froz ((q + 1) * 15 + 3)
            obtain ⟨a4, ca4⟩ := hB.cell ((q + 1) * 15 + 4) (by omega)
            have fa4 := hB.froz ((q + 1) * 15 + 4)
            obtain ⟨a5, ca5⟩ := hB.cell ((q + 1) * 15 + 5) (by omega)
            have fa5 := hB.froz ((q + 1) * 15 + 5)
            obtain ⟨a6, ca6⟩ := hB.cell ((q + 1) * 15 + 6) (by omega)
            have fa6 := hB.froz ((q + 1) * 15 + 6)
            obtain ⟨a7, ca7⟩ := hB.cell ((q + 1) * 15 + 7) (by omega)
            have fa7 := hB.froz ((q + 1) * 15 + 7)
            obtain ⟨a8, ca8⟩ := hB.cell ((q + 1) * 15 + 8) (by omega)
            have fa8 := hB.froz ((q + 1) * 15 + 8)
            obtain ⟨a9, ca9⟩ := hB.cell ((q + 1) * 15 + 9) (by omega)
            have fa9 := hB.froz ((q + 1) * 15 + 9)
            obtain ⟨a10, ca10⟩ := hB.cell ((q + 1) * 15 + 10) (by omega)
            have fa10 := hB.froz ((q + 1) * 15 + 10)
            obtain ⟨a11, ca11⟩ := hB.cell ((q + 1) * 15 + 11) (by omega)
            have fa11 := hB.froz ((q + 1) * 15 + 11)
            obtain ⟨a12, ca12⟩ := hB.cell ((q + 1) * 15 + 12) (by omega)
            have fa12 := hB.froz ((q + 1) * 15 + 12)
            obtain ⟨a13, ca13⟩ := hB.cell ((q + 1) * 15 + 13) (by omega)
            have fa13 := hB.froz ((q + 1) * 15 + 13)
            obtain ⟨a14, ca14⟩ := hB.cell ((q + 1) * 15 + 14) (by omega)
            have fa14 := hB.froz ((q + 1) * 15 + 14)
            obtain ⟨b0', cb0⟩ := hB.cell (q * 15 + 0) (by omega)
            have fb0 := hB.froz (q * 15 + 0)
            obtain ⟨b1, cb1⟩ := hB.cell (q * 15 + 1) (by omega)
            have fb1 := hB.froz (q * 15 + 1)
            obtain ⟨b2, cb2⟩ := hB.cell (q * 15 + 2) (by omega)
            have fb2 := hB.froz (q * 15 + 2)
            obtain ⟨b3, cb3⟩ := hB.cell (q * 15 + 3) (by omega)
            have fb3 := hB.froz (q * 15 + 3)
            obtain ⟨b4, cb4⟩ := hB.cell (q * 15 + 4) (by omega)
            have fb4 := hB.froz (q * 15 + 4)
            obtain ⟨b5, cb5⟩ := hB.cell (q * 15 + 5) (by omega)
            have fb5 := hB.froz (q * 15 + 5)
            obtain ⟨b6, cb6⟩ := hB.cell (q * 15 + 6) (by omega)
            have fb6 := hB.froz (q * 15 + 6)
            obtain ⟨b7, cb7⟩ := hB.cell (q * 15 + 7) (by omega)
            have fb7 := hB.froz (q * 15 + 7)
            obtain ⟨b8, cb8⟩ := hB.cell (q * 15 + 8) (by omega)
            have fb8 := hB.froz (q * 15 + 8)
            obtain ⟨b9, cb9⟩ := hB.cell (q * 15 + 9) (by omega)
            have fb9 := hB.froz (q * 15 + 9)
            obtain ⟨b10, cb10⟩ := hB.cell (q * 15 + 10) (by omega)
            have fb10 := hB.froz (q * 15 + 10)
            obtain ⟨b11, cb11⟩ := hB.cell (q * 15 + 11) (by omega)
            have fb11 := hB.froz (q * 15 + 11)
            obtain ⟨b12, cb12⟩ := hB.cell (q * 15 + 12) (by omega)
            have fb12 := hB.froz (q * 15 + 12)
            obtain ⟨b13, cb13⟩ := hB.cell (q * 15 + 13) (by omega)
            have fb13 := hB.froz (q * 15 + 13)
            obtain ⟨b14, cb14⟩ := hB.cell (q * 15 + 14) (by omega)
            have fb14 := hB.froz (q * 15 + 14)
            rw [Nat.add_zero] at ca0 fa0 cb0 fb0
            have hgl : g' < W.heap.size := hB.lt
            have hgn : g' ≠ W.heap.size := Nat.ne_of_lt hgl
            have hold : ∀ o j, (W.alloc o).cell? ⟨g', j, none⟩ = W.cell? ⟨g', j, none⟩ := fun o j => World.cell?_alloc_lt _ _ _ hgl
            have holf : ∀ o j, (W.alloc o).frozen? ⟨g', j, none⟩ = W.frozen? ⟨g', j, none⟩ := fun o j => World.frozen?_alloc_old _ _ _ hgn
            clear hB
            go_wp2
            go_roundw
            case rel =>
              refine ⟨q, by go_num, by omega, ?_, ?_⟩
              · refine SR.below ?_ (below_new _)
                iterate 30 (refine SR.set ?_ _ _ _)
                exact HR.out.1
              · refine below_alloc ?_ _
                iterate 30 (refine Below.setCell ?_ hg' _)
                exact HR.out.2
            case measure => simp [intOf]
          · go_wp2_with fail
            go_quiet (fail)
            go_wp2
            go_roundw
            case rel => exact ⟨k + 1, by go_num, by omega, HR.out.1.drewN nq, ⟨HR.out.2.os, HR.out.2.tape, HR.out.2.output, HR.out.2.size, HR.out.2.block⟩⟩
            case measure => simp [intOf]; omega
    · have hkM : ¬ (k : Int) < (m : Int) := by omega
      have hkm : k = m := by omega
      subst hkm
      go_wp2
      go_ret
      exact ⟨_, rfl, HL.out, HBW.out⟩
end Go.Proofs.YtcajmohgjojhhaaGreatDoor
