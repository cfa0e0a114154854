import Derived.Test.YtcajmohgjojhhaaGreatDoorMB
import Derived.Deep.RegionHeld3
import Derived.Test.YtcajmohgjojhhaaGreatDoorME
set_option linter.unusedVariables false
set_option linter.unusedSimpArgs false
namespace Go.Proofs.YtcajmohgjojhhaaGreatDoor
open Go.RowKit Go.Extern

theorem St.drew {w0 w : World} {n : Nat} {ws : List ByteArray} {left : Int} (h : St w0 w n ws left) : St w0 w.drew n ws left := h.below ⟨rfl, rfl, rfl, Nat.le_refl _, fun _ _ => rfl⟩
theorem St.list_at {w0 w : World} {n : Nat} {ws : List ByteArray} {left : Int} {g m cap : Nat} {xs : List Value} (hown : w.ownsRow (w0.heap.size + 1) 51 4 (.slice (some ⟨g, 0, none⟩) m cap) m xs) (hok : ListsOk w0.heap.size w xs m) (q : Nat) (hq : q < m) :
    ∃ r t M p c, w.cell? ⟨g, q * 4, none⟩ = some r ∧ w.cell? ⟨g, q * 4 + 1, none⟩ = some t ∧ w.cell? ⟨g, q * 4 + 2, none⟩ = some (.slice none 0 0) ∧ w.cell? ⟨g, q * 4 + 3, none⟩ = some (.slice p 0 c) ∧ RecSlice w0.heap.size w r M ∧ RecSlice w0.heap.size w t M := by
  obtain ⟨r, t, M, p, c, h1, h2, h3, h4, h5, h6⟩ := hok q hq
  have hc : ∀ j u, xs[j]? = some u → w.cell? ⟨g, j, none⟩ = some u := fun j u hu => by
    have := World.ownsRow.cells hown (g := g) rfl j u hu
    rw [Addr.add_lit] at this
    simpa using this
  rw [Nat.mul_comm 4 q] at h1 h2 h3 h4
  exact ⟨r, t, M, p, c, hc _ _ h1, hc _ _ h2, hc _ _ h3, hc _ _ h4, h5, h6⟩

set_option maxRecDepth 100000 in
set_option maxHeartbeats 4000000 in
theorem mine_any {w0 w : World} {n : Nat} {ws : List ByteArray} {left : Int} (h : St w0 w n ws left) (k : Int) (hn : n ≤ 1000000000) (h1 : -9223372036854775808 ≤ k) (h2 : k ≤ 9223372036854775807) :
    Calls Tryz.prog 37 #[.pointer (some ⟨w0.heap.size, 0, none⟩), .int .i64 k] w fun e w' => e = .returned (.tuple #[]) ∧ St w0 w' n ws left := by
  obtain ⟨v, m, xs, hc, hown, hok, hm⟩ := h.lists
  have HST : Hid (St w0 w n ws left) := h
  generalize hB : w0.heap.size = B at *
  by_cases hz : m = 0
  · subst hz
    rcases hown.2 with ⟨rfl, -⟩ | ⟨g, cap, cur, rfl, hg, hh, hle, hmx, hsz2, htk⟩
    all_goals
      clear hown h hok
      try clear hh htk hsz2
      go_enter Tryz.func37, Tryz.ntmps37
      go_wp2
      (try simp only [Exit.inBlock, Exit.then]); refine bodyPost_ret (results_none rfl _ _ _) rfl ?_
      exact ⟨rfl, HST.out⟩
  · rcases hown.2 with ⟨rfl, hn0⟩ | ⟨g, cap, cur, rfl, hg, hh, hle, hmx, hsz2, htk⟩
    · exact absurd hn0 hz
    · have hp := pick_toNat k m (by omega)
      have hpb := pick_bd k m (by omega)
      have hpk := fun W => pick_any k (m : Int) W h1 h2 (by omega) (by omega)
      obtain ⟨q, hq⟩ : ∃ q : Nat, pickN k m = q := ⟨(pickN k m).toNat, by omega⟩
      rw [hq] at hp hpb hpk
      have HPQ : Hid (∀ W, Calls Tryz.prog 15 #[.int .i64 k, .int .i64 (m : Int)] W fun e w' => e = .returned (.int .i64 (q : Int)) ∧ w' = W) := hpk
      have hqm : q < m := by simpa using hp
      have hqI : (q : Int) < (m : Int) := by omega
      subst hB
      obtain ⟨r, t, M, p, c, k1, k2, k3, k4, k5, k6⟩ := St.list_at (n := n) (ws := ws) (left := left) hown hok q hqm
      have hne : ((m : Int) == 0) = false := beq_eq_false_iff_ne.2 (by omega)
      have HGB : Hid (w0.heap.size + 1 ≤ g ∧ w.heap[g]? = some (.cells cur 51 (0, 0))) := ⟨hg, hh⟩
      have HK : Hid (RecSlice w0.heap.size w r M ∧ RecSlice w0.heap.size w t M) := ⟨k5, k6⟩
      clear hown h hok hh htk hsz2 hpk hq hp hpb k5 k6
      obtain ⟨⟨hM, pr, cr, rfl, hr⟩, -, pt, ct, rfl, ht⟩ := HK.out
      go_enter Tryz.func37, Tryz.ntmps37
      go_wp2_with fail
      go_quiet ((go_at_call 15; exact Calls.quiet_of_same (HPQ.out _)))
      go_wp2_with fail
      have HSTq : Hid (St w0 (w.drewN nq) n ws left) := HST.out.drewN nq
      go_loopw [5] (fun i wr => ∃ j : Nat, i = .int .i64 j ∧ j ≤ M ∧ St w0 wr n ws left ∧ wr.heap[g]? = w.heap[g]? ∧ RecsKept w wr) (fun i _ => M - (intOf i).toNat)
      case atStart => exact ⟨0, rfl, Nat.zero_le _, HSTq.out, rfl, fun _ _ q => q⟩
      case round =>
        obtain ⟨j, rfl, hj, hS, hblk, hrk⟩ := hrel
        have HS : Hid (St w0 wr n ws left) := hS
        have HBK : Hid (wr.heap[g]? = w.heap[g]?) := hblk
        have HRK : Hid (RecsKept w wr) := hrk
        have e1 : wr.cell? ⟨g, q * 4, none⟩ = some (.slice pr M cr) := (World.cell?_of_block (a := ⟨g, q * 4, none⟩) hblk).trans k1
        have e2 : wr.cell? ⟨g, q * 4 + 1, none⟩ = some (.slice pt M ct) := (World.cell?_of_block (a := ⟨g, q * 4 + 1, none⟩) hblk).trans k2
        have e3 : wr.cell? ⟨g, q * 4 + 2, none⟩ = some (.slice none 0 0) := (World.cell?_of_block (a := ⟨g, q * 4 + 2, none⟩) hblk).trans k3
        obtain ⟨x, hx⟩ := hS.mark
        have hf := hS.froz 7
        clear hS hblk hrk
        by_cases hlt : j < M
        · have hjI : (j : Int) < (M : Int) := by omega
          obtain ⟨gr, rfl, hBr, ir⟩ := hr.resolve_left (by omega)
          obtain ⟨gt, rfl, hBt, it⟩ := ht.resolve_left (by omega)
          have ir' := HRK.out _ _ ir
          have it' := HRK.out _ _ it
          obtain ⟨y, hy⟩ := ir'.cell (j * 7 + 2) (by omega)
          obtain ⟨z, hz'⟩ := it'.cell (j * 7 + 2) (by omega)
          have fy := ir'.froz (j * 7 + 2)
          have fz := it'.froz (j * 7 + 2)
          have hgr : gr ≠ g := by
            rintro rfl
            obtain ⟨c1, b1, _⟩ := ir
            exact absurd (block_type b1 HGB.out.2) (by decide)
          have hgt : gt ≠ g := by
            rintro rfl
            obtain ⟨c1, b1, _⟩ := it
            exact absurd (block_type b1 HGB.out.2) (by decide)
          have hgB : g ≠ w0.heap.size := by have := HGB.out.1; omega
          have hrB : gr ≠ w0.heap.size := by omega
          have htB : gt ≠ w0.heap.size := by omega
          have HI1 : Hid (St w0 (wr.setCell ⟨w0.heap.size, 7, none⟩ (.int .i64 (wrap64 (x + 1)))) n ws left) := HS.out.setInt 7 (by omega) _
          have ne7 : ∀ b o, b ≠ w0.heap.size → (wr.setCell ⟨w0.heap.size, 7, none⟩ (.int .i64 (wrap64 (x + 1)))).cell? ⟨b, o, none⟩ = wr.cell? ⟨b, o, none⟩ := fun b o hb => World.cell?_setCell_other _ _ _ _ (by intro e; injection e with ea eb; omega)
          have a1 := (ne7 g (q * 4) hgB).trans e1
          have a2 := (ne7 g (q * 4 + 1) hgB).trans e2
          have a3 := (ne7 gr (j * 7 + 2) hrB).trans hy
          have a4 := (ne7 gt (j * 7 + 2) htB).trans hz'
          have a7 : (wr.setCell ⟨w0.heap.size, 7, none⟩ (.int .i64 (wrap64 (x + 1)))).cell? ⟨w0.heap.size, 7, none⟩ = some (.int .i64 (wrap64 (x + 1))) := World.cell?_setCell_same _ _ _ hx
          have a5 : (wr.setCell ⟨w0.heap.size, 7, none⟩ (.int .i64 (wrap64 (x + 1)))).frozen? ⟨gr, j * 7 + 2, none⟩ = false := (World.frozen?_setCell _ _ _ _).trans fy
          have a6 : (wr.setCell ⟨w0.heap.size, 7, none⟩ (.int .i64 (wrap64 (x + 1)))).frozen? ⟨gt, j * 7 + 2, none⟩ = false := (World.frozen?_setCell _ _ _ _).trans fz
          have HI2 : Hid (RecsKept w (wr.setCell ⟨w0.heap.size, 7, none⟩ (.int .i64 (wrap64 (x + 1))))) := HRK.out.trans (fun _ _ q => q.set _ _ _)
          have HI3 : Hid ((wr.setCell ⟨w0.heap.size, 7, none⟩ (.int .i64 (wrap64 (x + 1)))).heap[g]? = w.heap[g]?) := (Below.heap_setCell _ _ _ _ hgB).trans HBK.out
          clear ne7
          go_wp2_with fail
          clear e1 e2 e3 hx hf hy hz' fy fz
          generalize wr.setCell ⟨w0.heap.size, 7, none⟩ (.int .i64 (wrap64 (x + 1))) = W1 at *
          go_region_held3 (fun W => W.cell? ⟨g, q * 4, none⟩ = some (.slice (some ⟨gr, 0, none⟩) M cr) ∧ W.cell? ⟨w0.heap.size, 7, none⟩ = some (.int .i64 (wrap64 (x + 1)))) (first | exact ⟨a1, a7⟩ | exact ⟨(World.cell?_setCell_other _ _ _ _ (by intro e; injection e with ea eb; omega)).trans a1, (World.cell?_setCell_other _ _ _ _ (by intro e; injection e with ea eb; omega)).trans a7⟩) (fail)
          go_wp2_with fail
          have HJ1 : Hid (St w0 (W1.setCell ⟨gr, j * 7 + 2, none⟩ (.int .i64 (IntKind.i64.wrap (-wrap64 (x + 1))))).drew n ws left) := (HI1.out.setRec (HI2.out _ _ ir) hBr _ _).drew
          have HJ2 : Hid (RecsKept w (W1.setCell ⟨gr, j * 7 + 2, none⟩ (.int .i64 (IntKind.i64.wrap (-wrap64 (x + 1))))).drew) := HI2.out.trans (fun _ _ q => (q.set _ _ _).of_block rfl)
          have HJ3 : Hid ((W1.setCell ⟨gr, j * 7 + 2, none⟩ (.int .i64 (IntKind.i64.wrap (-wrap64 (x + 1))))).drew.heap[g]? = w.heap[g]?) := (Below.heap_setCell _ _ _ _ (Ne.symm hgr)).trans HI3.out
          have b2 : (W1.setCell ⟨gr, j * 7 + 2, none⟩ (.int .i64 (IntKind.i64.wrap (-wrap64 (x + 1))))).drew.cell? ⟨g, q * 4 + 1, none⟩ = some (.slice (some ⟨gt, 0, none⟩) M ct) := (World.cell?_setCell_other _ _ _ _ (by intro e; injection e with ea eb; omega)).trans a2
          have b7 : (W1.setCell ⟨gr, j * 7 + 2, none⟩ (.int .i64 (IntKind.i64.wrap (-wrap64 (x + 1))))).drew.cell? ⟨w0.heap.size, 7, none⟩ = some (.int .i64 (wrap64 (x + 1))) := (World.cell?_setCell_other _ _ _ _ (by intro e; injection e with ea eb; omega)).trans a7
          obtain ⟨z2, b4⟩ := (HJ2.out _ _ it).cell (j * 7 + 2) (by omega)
          have b6 := (HJ2.out _ _ it).froz (j * 7 + 2)
          clear a1 a2 a3 a4 a5 a6 a7
          generalize (W1.setCell ⟨gr, j * 7 + 2, none⟩ (.int .i64 (IntKind.i64.wrap (-wrap64 (x + 1))))).drew = W2 at *
          go_region_held3 (fun W => W.cell? ⟨g, q * 4 + 1, none⟩ = some (.slice (some ⟨gt, 0, none⟩) M ct) ∧ W.cell? ⟨w0.heap.size, 7, none⟩ = some (.int .i64 (wrap64 (x + 1)))) (first | exact ⟨b2, b7⟩ | exact ⟨(World.cell?_setCell_other _ _ _ _ (by intro e; injection e with ea eb; omega)).trans b2, (World.cell?_setCell_other _ _ _ _ (by intro e; injection e with ea eb; omega)).trans b7⟩) (fail)
          go_wp2
          go_roundw
          case rel =>
            refine ⟨j + 1, by go_num, by omega, (HJ1.out.setRec (HJ2.out _ _ it) hBt _ _).drew, ?_, HJ2.out.trans (fun _ _ q => (q.set _ _ _).of_block rfl)⟩
            exact (Below.heap_setCell _ _ _ _ (Ne.symm hgt)).trans HJ3.out
          case measure => simp [intOf]; omega
        · have hjM : ¬ (j : Int) < (M : Int) := by omega
          go_wp2_with fail
          go_loopw [6] (fun i wr' => i = .int .i64 0 ∧ wr' = wr) (fun _ _ => 0)
          case atStart => exact ⟨rfl, rfl⟩
          case round =>
            obtain ⟨rfl, rfl⟩ := hrel
            go_wp2
            go_end0
            exact ⟨rfl, HS.out⟩
end Go.Proofs.YtcajmohgjojhhaaGreatDoor

namespace Go.Proofs.YtcajmohgjojhhaaGreatDoor
open Go.RowKit Go.Extern

def SomeBool (e : Ending) : Prop := ∃ r : Bool, e = .returned (.bool r)
set_option maxRecDepth 100000 in
set_option maxHeartbeats 4000000 in
theorem looks_any {w0 w : World} {n : Nat} {ws : List ByteArray} {left : Int} (h : St w0 w n ws left) (hn : n ≤ 1000000000) :
    Calls Tryz.prog 11 #[.pointer (some ⟨w0.heap.size, 0, none⟩)] w fun e w' => SomeBool e ∧ ∃ k, w' = w.drewN k := by
  obtain ⟨v, m, xs, hc, hown, hok, hm⟩ := h.lists
  by_cases hz : m = 0
  · subst hz
    rcases hown.2 with ⟨rfl, -⟩ | ⟨g, cap, cur, rfl, hg, hh, hle, hmx, hsz2, htk⟩
    all_goals
      clear hown h hok
      try clear hh htk hsz2
      go_enter Tryz.func11, Tryz.ntmps11
      go_wp2
      go_loopw [3] (fun i wr => i = .int .i64 0 ∧ wr = w) (fun _ _ => 0)
      case atStart => exact ⟨rfl, rfl⟩
      case round =>
        obtain ⟨rfl, rfl⟩ := hrel
        go_wp2
        go_ret
        exact ⟨⟨true, rfl⟩, 0, rfl⟩
  · rcases hown.2 with ⟨rfl, hn0⟩ | ⟨g, cap, cur, rfl, hg, hh, hle, hmx, hsz2, htk⟩
    · exact absurd hn0 hz
    · have HL : Hid (∀ q, q < m → ∃ r t M p c, w.cell? ⟨g, q * 4, none⟩ = some r ∧ w.cell? ⟨g, q * 4 + 1, none⟩ = some t ∧ w.cell? ⟨g, q * 4 + 2, none⟩ = some (.slice none 0 0) ∧ w.cell? ⟨g, q * 4 + 3, none⟩ = some (.slice p 0 c) ∧ RecSlice w0.heap.size w r M ∧ RecSlice w0.heap.size w t M) := fun q hq => St.list_at (n := n) (ws := ws) (left := left) hown hok q hq
      clear hown h hok hh htk hsz2
      go_enter Tryz.func11, Tryz.ntmps11
      go_wp2
      go_loopw [3] (fun i wr => ∃ k j : Nat, i = .int .i64 k ∧ k ≤ m ∧ wr = w.drewN j) (fun i _ => m - (intOf i).toNat)
      case atStart => exact ⟨0, 0, rfl, Nat.zero_le _, rfl⟩
      case round =>
        obtain ⟨k, j, rfl, hk, rfl⟩ := hrel
        by_cases hlt : k < m
        · have hkI : (k : Int) < (m : Int) := by omega
          obtain ⟨r, t, M, p, c, k1, k2, k3, k4, k5, k6⟩ : ∃ r t M p c, (w.drewN j).cell? ⟨g, k * 4, none⟩ = some r ∧ (w.drewN j).cell? ⟨g, k * 4 + 1, none⟩ = some t ∧ (w.drewN j).cell? ⟨g, k * 4 + 2, none⟩ = some (.slice none 0 0) ∧ (w.drewN j).cell? ⟨g, k * 4 + 3, none⟩ = some (.slice p 0 c) ∧ RecSlice w0.heap.size (w.drewN j) r M ∧ RecSlice w0.heap.size (w.drewN j) t M := HL.out k hlt
          have hcj : (w.drewN j).cell? ⟨w0.heap.size, 6, none⟩ = some (.slice (some ⟨g, 0, none⟩) m cap) := hc
          have HW : Hid (∃ a, w.drewN j = w.drewN a) := ⟨j, rfl⟩
          generalize w.drewN j = W at *
          obtain ⟨ra, hra⟩ := sameRecords_any W r t M M k5 k6
          have HRA : Hid (∀ k, Calls Tryz.prog 17 #[r, t] (W.drewN k) fun e w' => e = .returned (.bool ra) ∧ ∃ j, w' = (W.drewN k).drewN j) := hra
          obtain ⟨-, pr, cr, rfl, -⟩ := k5
          obtain ⟨-, pt, ct, rfl, -⟩ := k6
          clear hra
          go_wp2_with fail
          go_quiet ((go_at_call 17; refine Calls.quiet_of (HRA.out _)))
          go_wp2_with fail
          clear HRA
          have k3' : (W.drewN nq).cell? ⟨g, k * 4 + 2, none⟩ = some (.slice none 0 0) := k3
          have k4' : (W.drewN nq).cell? ⟨g, k * 4 + 3, none⟩ = some (.slice p 0 c) := k4
          have hcj' : (W.drewN nq).cell? ⟨w0.heap.size, 6, none⟩ = some (.slice (some ⟨g, 0, none⟩) m cap) := hcj
          have HW2 : Hid (∃ a, W.drewN nq = w.drewN a) := by
            obtain ⟨a, ha⟩ := HW.out
            exact ⟨a + nq, by rw [ha, drewN_add]⟩
          clear k1 k2 k3 k4 hcj HW
          generalize W.drewN nq = W2 at *
          obtain ⟨rb, hrb⟩ := sameStates_any W2 none p 0 c 0 (by omega)
          have HRB : Hid (∀ k, Calls Tryz.prog 18 #[.slice none 0 0, .slice p 0 c] (W2.drewN k) fun e w' => e = .returned (.bool rb) ∧ ∃ j, w' = (W2.drewN k).drewN j) := hrb
          clear hrb
          go_quiet ((go_at_call 18; refine Calls.quiet_of (HRB.out _)))
          clear HRB
          have HW3 : Hid (∃ a, W2.drewN nq = w.drewN a) := by
            obtain ⟨a, ha⟩ := HW2.out
            exact ⟨a + nq, by rw [ha, drewN_add]⟩
          clear HW2 k3' k4' hcj'
          generalize W2.drewN nq = W3 at *
          cases ra <;> cases rb
          case true.true =>
            go_wp2
            go_roundw
            case rel =>
              obtain ⟨a, ha⟩ := HW3.out
              exact ⟨k + 1, a, by go_num, by omega, ha⟩
            case measure => simp [intOf]; omega
          all_goals
            go_wp2
            go_ret
            obtain ⟨a, ha⟩ := HW3.out
            exact ⟨⟨false, rfl⟩, a, ha⟩
        · have hkM : ¬ (k : Int) < (m : Int) := by omega
          go_wp2
          go_ret
          exact ⟨⟨true, rfl⟩, j, rfl⟩
end Go.Proofs.YtcajmohgjojhhaaGreatDoor
