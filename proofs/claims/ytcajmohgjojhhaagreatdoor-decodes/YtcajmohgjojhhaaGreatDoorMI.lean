import Derived.Test.YtcajmohgjojhhaaGreatDoorMG
import Derived.Laws.CopyOwn
set_option linter.unusedVariables false
set_option linter.unusedSimpArgs false
namespace Go.Proofs.YtcajmohgjojhhaaGreatDoor
open Go.RowKit Go.Extern

/-- The cells of a list of records. -/
theorem RecSlice.cells {B : Nat} {w : World} {g k c : Nat} (h : IntBlock w g 85 (7 * k)) : ∃ cs : List Value, cs.length = 7 * k ∧ (∀ u ∈ cs, ∃ x, u = .int .i64 x) ∧ ∀ j u, cs[j]? = some u → w.cell? ⟨g, j, none⟩ = some u := by
  obtain ⟨cur, h1, h2, h3⟩ := h
  refine ⟨cur.toList.take (7 * k), by simp; omega, fun u hu => ?_, fun j u hj => ?_⟩
  · obtain ⟨j, hj⟩ := List.getElem?_of_mem hu
    have hlt : j < 7 * k := by
      have := (List.getElem?_eq_some_iff.1 hj).1
      simp at this
      omega
    obtain ⟨x, hx⟩ := h3 j hlt
    rw [List.getElem?_take_of_lt hlt] at hj
    have : cur[j]? = some u := by simpa using hj
    rw [hx] at this
    exact ⟨x, (Option.some.inj this).symm⟩
  · have hlt : j < 7 * k := by
      have := (List.getElem?_eq_some_iff.1 hj).1
      simp at this
      omega
    rw [List.getElem?_take_of_lt hlt] at hj
    have : cur[j]? = some u := by simpa using hj
    simp [World.cell?, h1, this]

theorem Tryz.infoRec7 : (Tryz.prog.info? 85).map (·.size) = some 7 := by kernel_rfl

/-- copy of a list of records into one that is as long. -/
theorem copy_records {B : Nat} {w : World} {p : Option Addr} {k c c' H : Nat} {cur : Array Value} (h : RecSlice B w (.slice p k c) k) (hH : w.heap[H]? = some (.cells cur 85 (0, 0))) (hs : cur.size = k * 7) (ty : TypeId) :
    ∃ w', (Builtin.copy_ #[48, 48] ty #[.slice (some ⟨H, 0, none⟩) k c', .slice p k c]).run Tryz.prog w = .ok (goInt k) w' ∧ w'.os = w.os ∧ w'.tape = w.tape ∧ w'.output = w.output ∧ w'.heap.size = w.heap.size ∧ (∀ b, b ≠ H → w'.heap[b]? = w.heap[b]?) ∧ IntBlock w' H 85 (7 * k) := by
  obtain ⟨hk, p', c2, e, h2⟩ := h
  injection e with e1 e2 e3
  subst e1
  subst e3
  cases hq : Tryz.prog.info? 85 with
  | none => have := Tryz.infoRec7; rw [hq] at this; simp at this
  | some i =>
    have hi : i.size = 7 := by have := Tryz.infoRec7; rw [hq] at this; simpa using this
    rcases h2 with rfl | ⟨g, rfl, hB, hg⟩
    · refine ⟨w, ?_, rfl, rfl, rfl, rfl, fun _ _ => rfl, ⟨cur, hH, by omega, fun j hj => absurd hj (by omega)⟩⟩
      cases p with
      | none => simp [Builtin.copy_, run_underlying Tryz.underlying48, Builtin.lenOf, Builtin.firstCells, sizeOf, typeInfo, hq, storeCells]
      | some ad =>
        have hl := run_loadCells_list (P := Tryz.prog) w ad [] (fun j v hj => by simp at hj)
        simp [Builtin.copy_, run_underlying Tryz.underlying48, Builtin.lenOf, Builtin.firstCells, sizeOf, typeInfo, hq, storeCells] at hl ⊢
        simp [hl, storeCells]
    · obtain ⟨cs, l1, l2, l3⟩ := RecSlice.cells (B := B) (c := c) hg
      have hl := run_loadCells_list (P := Tryz.prog) w ⟨g, 0, none⟩ cs (fun j v hj => by rw [Addr.add_lit, Nat.zero_add]; exact l3 j v hj)
      have hst := run_storeCells_at Tryz.prog H 0 85 cs 0 cur w hH (by simp; omega) (fun v hv => by obtain ⟨x, rfl⟩ := l2 v hv; rfl)
      refine ⟨w.setRow H (List.take (0 + 0) cur.toList ++ cs ++ List.drop (0 + 0 + cs.length) cur.toList).toArray, ?_, ?_, ?_, ?_, ?_, ?_, ?_⟩
      rotate_left
      · rfl
      · rfl
      · rfl
      · simp [World.setRow]
      · intro b hb
        exact setRow_other w H b _ hb
      · refine ⟨_, setRow_heap w H cur _ _ _ hH, ?_, fun j hj => ?_⟩
        · simp; omega
        · have hj' : j < cs.length := by omega
          obtain ⟨x, hx⟩ := l2 cs[j] (List.getElem_mem _)
          refine ⟨x, ?_⟩
          rw [← hx]
          simp
          rw [List.getElem?_append_left hj', List.getElem?_eq_getElem hj']
      · have e : Nat.min k k * 7 = cs.length := by rw [l1]; simp; omega
        simp only [Nat.zero_add] at hst hl ⊢
        simp [Builtin.copy_, run_underlying Tryz.underlying48, Builtin.lenOf, Builtin.firstCells, sizeOf, typeInfo, hq, hi, show k * 7 = cs.length by omega, hl, hst]

theorem Tryz.infoRecB : (Tryz.prog.info? 85).map (fun i => (i.size, i.bytes)) = some (7, 56) := by kernel_rfl
theorem Tryz.zeroRecB : (Tryz.prog.info? 85).map (fun i => i.zero) = some (some (.agg #[.int .i64 0, .int .i64 0, .int .i64 0, .int .i64 0, .int .i64 0, .int .i64 0, .int .i64 0])) := by kernel_rfl
theorem Tryz.infoList : (Tryz.prog.info? 51).map (fun i => (i.size, i.bytes)) = some (4, 96) := by kernel_rfl
theorem Tryz.zeroList : (Tryz.prog.info? 51).map (fun i => i.zero) = some (some (.agg #[.slice none 0 0, .slice none 0 0, .slice none 0 0, .slice none 0 0])) := by kernel_rfl

theorem own_block {w : World} {base : Nat} {e : TypeId} {size g n cap : Nat} {xs : List Value} (h : w.ownsRow base e size (.slice (some ⟨g, 0, none⟩) n cap) n xs) : ∃ cur, w.heap[g]? = some (.cells cur e (0, 0)) ∧ cur.size = cap * size := by
  rcases h.2 with ⟨e, -⟩ | ⟨g', cap', cur, e, hg, hh, hle, hmx, hsz, htk⟩
  · cases e
  · injection e with e1 e2 e3
    injection e1 with e1
    injection e1 with e1
    subst e1
    subst e3
    exact ⟨cur, hh, hsz⟩

set_option maxRecDepth 100000 in
set_option maxHeartbeats 4000000 in
theorem ownRecords_any {w0 w : World} {n : Nat} {ws : List ByteArray} {left : Int} (h : St w0 w n ws left) (hn : n ≤ 100000000) (p : Option Addr) (k : Nat) (hv : RecSlice w0.heap.size w (.slice p k k) k) :
    Calls Tryz.prog 47 #[.pointer (some ⟨w0.heap.size, 0, none⟩), .slice p k k] w fun e w' => e = .returned (.tuple #[]) ∧ St w0 w' (n + 1) ws left := by
  obtain ⟨i0, hi, hz0, hz1, hz2⟩ := info_parts2 Tryz.infoRecB Tryz.zeroRecB
  obtain ⟨i1, hj, hy0, hy1, hy2⟩ := info_parts2 Tryz.infoList Tryz.zeroList
  have HS : Hid (St w0 w n ws left) := h
  have HV : Hid (RecSlice w0.heap.size w (.slice p k k) k) := hv
  have hk := hv.1
  have hlt := h.lt
  clear h hv
  have hb0 : i0.bytes * k ≤ 281474976710656 := by rw [hz2]; omega
  have hb1 : k ≤ maxLen := by unfold maxLen; omega
  have HBND : Hid (i0.bytes * k ≤ 281474976710656 ∧ k ≤ maxLen ∧ Tryz.prog.info? 85 = some i0 ∧ i0.zero = some (.agg #[.int .i64 0, .int .i64 0, .int .i64 0, .int .i64 0, .int .i64 0, .int .i64 0, .int .i64 0]) ∧ i0.size = 7) := ⟨hb0, hb1, hi, hz0, hz1⟩
  have HLST : Hid (Tryz.prog.info? 51 = some i1 ∧ i1.zero = some (.agg #[.slice none 0 0, .slice none 0 0, .slice none 0 0, .slice none 0 0]) ∧ i1.size = 4 ∧ i1.bytes = 96) := ⟨hj, hy0, hy1, hy2⟩
  have hp : p = none → k = 0 := fun e => by
    obtain ⟨_, p', c', e', h3⟩ := HV.out
    injection e' with e1 e2 e3
    rcases h3 with h3 | ⟨g, h3, _⟩
    · exact h3
    · rw [e1, h3] at e
      cases e
  clear hb0 hb1 hi hz0 hz1 hz2 hj hy0 hy1 hy2
  rcases p with _ | ad
  · obtain rfl := hp rfl
    clear hp
    go_enter Tryz.func47, Tryz.ntmps47
    go_wp2_with (at_make; refine wpList_make_full _ rfl _ _ 48 rfl (w0.heap.size + 1) 85 i0 _ 7 Tryz.underlying48 HBND.out.2.2.1 HBND.out.2.2.2.1 HBND.out.2.2.2.2 _ _ _ _ 0 rfl rfl rfl rfl HBND.out.1 HBND.out.2.1 hlt ?_)
    intro w1 hown1 hgrow1
    have hB1 : Below w.heap.size w w1 := ⟨hgrow1.os, hgrow1.tape, hgrow1.output, hgrow1.size, fun b hb => hgrow1.block b hb (by simp)⟩
    obtain ⟨cur, hcur, hcsz⟩ := own_block hown1
    obtain ⟨w2, hrun, x1, x2, x3, x4, x5, x6⟩ := copy_records (HV.out.kept (RecsKept.below hB1)) hcur hcsz 3 (c' := 0)
    have hB2 : Below w.heap.size w w2 := ⟨x1.trans hB1.os, x2.trans hB1.tape, x3.trans hB1.output, by rw [x4]; exact hB1.size, fun b hb => (x5 b (by omega)).trans (hB1.block b hb)⟩
    have HS2 : Hid (St w0 w2 n ws left) := HS.out.below hB2
    have HR2 : Hid (RecSlice w0.heap.size w2 (.slice none 0 0) 0) := HV.out.kept (RecsKept.below hB2)
    have HQ2 : Hid (RecSlice w0.heap.size w2 (.slice (some ⟨w.heap.size, 0, none⟩) 0 0) 0) := ⟨hk, _, _, rfl, .inr ⟨w.heap.size, rfl, hlt, x6⟩⟩
    have HRUN : Hid ((Builtin.copy_ #[48, 48] 3 #[.slice (some ⟨w.heap.size, 0, none⟩) 0 0, .slice none 0 0]).run Tryz.prog w1 = .ok (goInt (0 : Nat)) w2) := hrun
    clear hown1 hgrow1 hB1 hcur hcsz hrun x1 x2 x3 x4 x5 x6 hB2 cur
    go_wp2_with fail
    rw [HRUN.out]
    clear HRUN
    obtain ⟨v, m, xs, hc6, hownL, hokL, hmL⟩ := HS2.out.lists
    have hlt2 := HS2.out.lt
    have HOL : Hid (∀ o, (w2.alloc o).ownsRow (w0.heap.size + 1) 51 4 v m xs) := fun o => hownL.alloc o
    have HOW : Hid (w2.ownsRow (w0.heap.size + 1) 51 4 v m xs ∧ ListsOk w0.heap.size w2 xs m) := ⟨hownL, hokL⟩
    have hrow : ∀ q, v.ownBlock = some q → w0.heap.size + 1 ≤ q := fun q hq => (hownL.lt q hq).1
    have HFAR : Hid (some w0.heap.size ≠ v.ownBlock) := fun e => by have := hrow _ e.symm; omega
    have HC1 : Hid (∀ (j : Nat) (u : Value), [.slice none 0 0, .slice (some ⟨w.heap.size, 0, none⟩) 0 0, .slice none 0 0, .slice none 0 0][j]? = some u → (w2.alloc (.cells #[.slice none 0 0, .slice (some ⟨w.heap.size, 0, none⟩) 0 0, .slice none 0 0, .slice none 0 0] 51)).cell? (Addr.add ⟨w2.heap.size, 0, none⟩ j) = some u) := fun j u hj => by
      rw [Addr.add_lit, Nat.zero_add, World.cell?_alloc_at _ _ _ _ rfl]
      simpa using hj
    have HC2 : Hid (∀ u ∈ ([.slice none 0 0, .slice (some ⟨w.heap.size, 0, none⟩) 0 0, .slice none 0 0, .slice none 0 0] : List Value), u.oneCell' = true) := fun u hu => by
      simp at hu
      rcases hu with rfl | rfl | rfl <;> rfl
    have HC3 : Hid (m + 1 ≤ maxLen) := by show m + 1 ≤ maxLen; unfold maxLen; omega
    have HC4 : Hid ((m + 1) * 96 ≤ 140737488355328) := by show (m + 1) * 96 ≤ 140737488355328; omega
    have HC5 : Hid (∀ o, w0.heap.size + 1 ≤ (w2.alloc o).heap.size) := fun o => by simp; omega
    clear hownL hokL hrow
    go_wp2_with (at_builtin; refine wpList_append_own _ rfl _ _ 34 rfl (w0.heap.size + 1) 51 i1 (.agg #[.slice none 0 0, .slice none 0 0, .slice none 0 0, .slice none 0 0]) 4 96 Tryz.underlying34 HLST.out.1 HLST.out.2.1 HLST.out.2.2.1 HLST.out.2.2.2 rfl (by decide) _ _ _ rfl (HOL.out _) ⟨w2.heap.size, 0, none⟩ 1 1 [.slice none 0 0, .slice (some ⟨w.heap.size, 0, none⟩) 0 0, .slice none 0 0, .slice none 0 0] rfl rfl HC1.out HC2.out HC3.out HC4.out (HC5.out _) ?_)
    intro v' w3 hown3 hgrow3 _
    obtain ⟨g', cap', rfl⟩ : ∃ g' cap', v' = .slice (some ⟨g', 0, none⟩) (m + 1) cap' := by
      rcases hown3.2 with ⟨_, h⟩ | ⟨g, cap, cur, h, _⟩
      · omega
      · exact ⟨g, cap, h⟩
    have hbl : ∀ b, b < w2.heap.size → some b ≠ v.ownBlock → w3.heap[b]? = w2.heap[b]? := fun b h1 h2 => (hgrow3.block b (by simp; omega) h2).trans (Below.heap_alloc _ _ _ h1)
    have hq6 : w3.cell? ⟨w0.heap.size, 6, none⟩ = some v := (World.cell?_of_block (a := ⟨w0.heap.size, 6, none⟩) (hbl _ hlt2 HFAR.out)).trans hc6
    have hf6 : w3.frozen? ⟨w0.heap.size, 6, none⟩ = false := (World.frozen?_of_block (a := ⟨w0.heap.size, 6, none⟩) (hbl _ hlt2 HFAR.out)).trans (HS2.out.froz 6)
    have hrk : RecsKept w2 w3 := fun g j q => q.of_block (hbl g q.lt (fun e => rec_row q HOW.out.1 (by decide) e.symm))
    have HFIN : Hid (St w0 (w3.setCell ⟨w0.heap.size, 6, none⟩ (.slice (some ⟨g', 0, none⟩) (m + 1) cap')) (n + 1) ws left) := HS2.out.put_lists HOW.out.1 hgrow3.os hgrow3.tape hgrow3.output (Nat.le_trans (by simp) hgrow3.size) hbl hown3 ((HOW.out.2.kept hrk).snoc HOW.out.1.1 (HR2.out.kept hrk) (HQ2.out.kept hrk)) (by omega)
    clear hown3 hgrow3 hbl hrk hc6
    go_wp2
    go_end0
    exact ⟨rfl, HFIN.out⟩
  · clear hp
    go_enter Tryz.func47, Tryz.ntmps47
    go_wp2_with (at_make; refine wpList_make_full _ rfl _ _ 48 rfl (w0.heap.size + 1) 85 i0 _ 7 Tryz.underlying48 HBND.out.2.2.1 HBND.out.2.2.2.1 HBND.out.2.2.2.2 _ _ _ _ k rfl rfl rfl rfl HBND.out.1 HBND.out.2.1 hlt ?_)
    intro w1 hown1 hgrow1
    have hB1 : Below w.heap.size w w1 := ⟨hgrow1.os, hgrow1.tape, hgrow1.output, hgrow1.size, fun b hb => hgrow1.block b hb (by simp)⟩
    obtain ⟨cur, hcur, hcsz⟩ := own_block hown1
    obtain ⟨w2, hrun, x1, x2, x3, x4, x5, x6⟩ := copy_records (HV.out.kept (RecsKept.below hB1)) hcur hcsz 3 (c' := k)
    have hB2 : Below w.heap.size w w2 := ⟨x1.trans hB1.os, x2.trans hB1.tape, x3.trans hB1.output, by rw [x4]; exact hB1.size, fun b hb => (x5 b (by omega)).trans (hB1.block b hb)⟩
    have HS2 : Hid (St w0 w2 n ws left) := HS.out.below hB2
    have HR2 : Hid (RecSlice w0.heap.size w2 (.slice (some ad) k k) k) := HV.out.kept (RecsKept.below hB2)
    have HQ2 : Hid (RecSlice w0.heap.size w2 (.slice (some ⟨w.heap.size, 0, none⟩) k k) k) := ⟨hk, _, _, rfl, .inr ⟨w.heap.size, rfl, hlt, x6⟩⟩
    have HRUN : Hid ((Builtin.copy_ #[48, 48] 3 #[.slice (some ⟨w.heap.size, 0, none⟩) k k, .slice (some ad) k k]).run Tryz.prog w1 = .ok (goInt (k : Nat)) w2) := hrun
    clear hown1 hgrow1 hB1 hcur hcsz hrun x1 x2 x3 x4 x5 x6 hB2 cur
    go_wp2_with fail
    rw [HRUN.out]
    clear HRUN
    obtain ⟨v, m, xs, hc6, hownL, hokL, hmL⟩ := HS2.out.lists
    have hlt2 := HS2.out.lt
    have HOL : Hid (∀ o, (w2.alloc o).ownsRow (w0.heap.size + 1) 51 4 v m xs) := fun o => hownL.alloc o
    have HOW : Hid (w2.ownsRow (w0.heap.size + 1) 51 4 v m xs ∧ ListsOk w0.heap.size w2 xs m) := ⟨hownL, hokL⟩
    have hrow : ∀ q, v.ownBlock = some q → w0.heap.size + 1 ≤ q := fun q hq => (hownL.lt q hq).1
    have HFAR : Hid (some w0.heap.size ≠ v.ownBlock) := fun e => by have := hrow _ e.symm; omega
    have HC1 : Hid (∀ (j : Nat) (u : Value), [.slice (some ad) k k, .slice (some ⟨w.heap.size, 0, none⟩) k k, .slice none 0 0, .slice none 0 0][j]? = some u → (w2.alloc (.cells #[.slice (some ad) k k, .slice (some ⟨w.heap.size, 0, none⟩) k k, .slice none 0 0, .slice none 0 0] 51)).cell? (Addr.add ⟨w2.heap.size, 0, none⟩ j) = some u) := fun j u hj => by
      rw [Addr.add_lit, Nat.zero_add, World.cell?_alloc_at _ _ _ _ rfl]
      simpa using hj
    have HC2 : Hid (∀ u ∈ ([.slice (some ad) k k, .slice (some ⟨w.heap.size, 0, none⟩) k k, .slice none 0 0, .slice none 0 0] : List Value), u.oneCell' = true) := fun u hu => by
      simp at hu
      rcases hu with rfl | rfl | rfl <;> rfl
    have HC3 : Hid (m + 1 ≤ maxLen) := by show m + 1 ≤ maxLen; unfold maxLen; omega
    have HC4 : Hid ((m + 1) * 96 ≤ 140737488355328) := by show (m + 1) * 96 ≤ 140737488355328; omega
    have HC5 : Hid (∀ o, w0.heap.size + 1 ≤ (w2.alloc o).heap.size) := fun o => by simp; omega
    clear hownL hokL hrow
    go_wp2_with (at_builtin; refine wpList_append_own _ rfl _ _ 34 rfl (w0.heap.size + 1) 51 i1 (.agg #[.slice none 0 0, .slice none 0 0, .slice none 0 0, .slice none 0 0]) 4 96 Tryz.underlying34 HLST.out.1 HLST.out.2.1 HLST.out.2.2.1 HLST.out.2.2.2 rfl (by decide) _ _ _ rfl (HOL.out _) ⟨w2.heap.size, 0, none⟩ 1 1 [.slice (some ad) k k, .slice (some ⟨w.heap.size, 0, none⟩) k k, .slice none 0 0, .slice none 0 0] rfl rfl HC1.out HC2.out HC3.out HC4.out (HC5.out _) ?_)
    intro v' w3 hown3 hgrow3 _
    obtain ⟨g', cap', rfl⟩ : ∃ g' cap', v' = .slice (some ⟨g', 0, none⟩) (m + 1) cap' := by
      rcases hown3.2 with ⟨_, h⟩ | ⟨g, cap, cur, h, _⟩
      · omega
      · exact ⟨g, cap, h⟩
    have hbl : ∀ b, b < w2.heap.size → some b ≠ v.ownBlock → w3.heap[b]? = w2.heap[b]? := fun b h1 h2 => (hgrow3.block b (by simp; omega) h2).trans (Below.heap_alloc _ _ _ h1)
    have hq6 : w3.cell? ⟨w0.heap.size, 6, none⟩ = some v := (World.cell?_of_block (a := ⟨w0.heap.size, 6, none⟩) (hbl _ hlt2 HFAR.out)).trans hc6
    have hf6 : w3.frozen? ⟨w0.heap.size, 6, none⟩ = false := (World.frozen?_of_block (a := ⟨w0.heap.size, 6, none⟩) (hbl _ hlt2 HFAR.out)).trans (HS2.out.froz 6)
    have hrk : RecsKept w2 w3 := fun g j q => q.of_block (hbl g q.lt (fun e => rec_row q HOW.out.1 (by decide) e.symm))
    have HFIN : Hid (St w0 (w3.setCell ⟨w0.heap.size, 6, none⟩ (.slice (some ⟨g', 0, none⟩) (m + 1) cap')) (n + 1) ws left) := HS2.out.put_lists HOW.out.1 hgrow3.os hgrow3.tape hgrow3.output (Nat.le_trans (by simp) hgrow3.size) hbl hown3 ((HOW.out.2.kept hrk).snoc HOW.out.1.1 (HR2.out.kept hrk) (HQ2.out.kept hrk)) (by omega)
    clear hown3 hgrow3 hbl hrk hc6
    go_wp2
    go_end0
    exact ⟨rfl, HFIN.out⟩
end Go.Proofs.YtcajmohgjojhhaaGreatDoor

namespace Go.Proofs.YtcajmohgjojhhaaGreatDoor
open Go.RowKit Go.Extern

theorem Tryz.infoOSt : (Tryz.prog.info? 87).map (fun i => (i.size, i.bytes)) = some (7, 56) := by kernel_rfl
theorem Tryz.zeroOSt : (Tryz.prog.info? 87).map (fun i => i.zero) = some (some (.agg #[.int .i64 0, .int .i64 0, .int .i64 0, .int .i64 0, .int .i64 0, .int .i64 0, .int .i64 0])) := by kernel_rfl
theorem copy_nothing (w : World) (H : Nat) : (Builtin.copy_ #[49, 49] 3 #[.slice (some ⟨H, 0, none⟩) 0 0, .slice none 0 0]).run Tryz.prog w = .ok (goInt (0 : Nat)) w := by
  cases hq : Tryz.prog.info? 87 with
  | none => have := Tryz.infoOSt; rw [hq] at this; simp at this
  | some i => simp [Builtin.copy_, run_underlying Tryz.underlying49, Builtin.lenOf, Builtin.firstCells, sizeOf, typeInfo, hq, storeCells]

set_option maxRecDepth 100000 in
set_option maxHeartbeats 4000000 in
theorem ownStates_nil {w0 w : World} {n : Nat} {ws : List ByteArray} {left : Int} (h : St w0 w n ws left) (hn : n ≤ 100000000) :
    Calls Tryz.prog 33 #[.pointer (some ⟨w0.heap.size, 0, none⟩), .slice none 0 0] w fun e w' => e = .returned (.tuple #[]) ∧ St w0 w' (n + 1) ws left := by
  obtain ⟨i0, hi, hz0, hz1, hz2⟩ := info_parts2 Tryz.infoOSt Tryz.zeroOSt
  obtain ⟨i1, hj, hy0, hy1, hy2⟩ := info_parts2 Tryz.infoList Tryz.zeroList
  have HS : Hid (St w0 w n ws left) := h
  have hlt := h.lt
  clear h
  have hb0 : i0.bytes * 0 ≤ 281474976710656 := by omega
  have hb1 : 0 ≤ maxLen := Nat.zero_le _
  have HBND : Hid (i0.bytes * 0 ≤ 281474976710656 ∧ 0 ≤ maxLen ∧ Tryz.prog.info? 87 = some i0 ∧ i0.zero = some (.agg #[.int .i64 0, .int .i64 0, .int .i64 0, .int .i64 0, .int .i64 0, .int .i64 0, .int .i64 0]) ∧ i0.size = 7) := ⟨hb0, hb1, hi, hz0, hz1⟩
  have HLST : Hid (Tryz.prog.info? 51 = some i1 ∧ i1.zero = some (.agg #[.slice none 0 0, .slice none 0 0, .slice none 0 0, .slice none 0 0]) ∧ i1.size = 4 ∧ i1.bytes = 96) := ⟨hj, hy0, hy1, hy2⟩
  clear hb0 hb1 hi hz0 hz1 hz2 hj hy0 hy1 hy2
  go_enter Tryz.func33, Tryz.ntmps33
  go_wp2_with (at_make; refine wpList_make_full _ rfl _ _ 49 rfl (w0.heap.size + 1) 87 i0 _ 7 Tryz.underlying49 HBND.out.2.2.1 HBND.out.2.2.2.1 HBND.out.2.2.2.2 _ _ _ _ 0 rfl rfl rfl rfl HBND.out.1 HBND.out.2.1 hlt ?_)
  intro w1 hown1 hgrow1
  have hB1 : Below w.heap.size w w1 := ⟨hgrow1.os, hgrow1.tape, hgrow1.output, hgrow1.size, fun b hb => hgrow1.block b hb (by simp)⟩
  have hrun := copy_nothing w1 w.heap.size
  have HS2 : Hid (St w0 w1 n ws left) := HS.out.below hB1
  have HRUN : Hid ((Builtin.copy_ #[49, 49] 3 #[.slice (some ⟨w.heap.size, 0, none⟩) 0 0, .slice none 0 0]).run Tryz.prog w1 = .ok (goInt (0 : Nat)) w1) := hrun
  clear hown1 hgrow1 hB1 hrun
  go_wp2_with fail
  rw [HRUN.out]
  clear HRUN
  obtain ⟨v, m, xs, hc6, hownL, hokL, hmL⟩ := HS2.out.lists
  have hlt2 := HS2.out.lt
  have HOL : Hid (∀ o, (w1.alloc o).ownsRow (w0.heap.size + 1) 51 4 v m xs) := fun o => hownL.alloc o
  have HOW : Hid (w1.ownsRow (w0.heap.size + 1) 51 4 v m xs ∧ ListsOk w0.heap.size w1 xs m) := ⟨hownL, hokL⟩
  have hrow : ∀ q, v.ownBlock = some q → w0.heap.size + 1 ≤ q := fun q hq => (hownL.lt q hq).1
  have HFAR : Hid (some w0.heap.size ≠ v.ownBlock) := fun e => by have := hrow _ e.symm; omega
  have HC1 : Hid (∀ (j : Nat) (u : Value), [.slice none 0 0, .slice none 0 0, .slice none 0 0, .slice (some ⟨w.heap.size, 0, none⟩) 0 0][j]? = some u → (w1.alloc (.cells #[.slice none 0 0, .slice none 0 0, .slice none 0 0, .slice (some ⟨w.heap.size, 0, none⟩) 0 0] 51)).cell? (Addr.add ⟨w1.heap.size, 0, none⟩ j) = some u) := fun j u hj => by
    rw [Addr.add_lit, Nat.zero_add, World.cell?_alloc_at _ _ _ _ rfl]
    simpa using hj
  have HC2 : Hid (∀ u ∈ ([.slice none 0 0, .slice none 0 0, .slice none 0 0, .slice (some ⟨w.heap.size, 0, none⟩) 0 0] : List Value), u.oneCell' = true) := fun u hu => by
    simp at hu
    rcases hu with rfl | rfl <;> rfl
  have HC3 : Hid (m + 1 ≤ maxLen) := by show m + 1 ≤ maxLen; unfold maxLen; omega
  have HC4 : Hid ((m + 1) * 96 ≤ 140737488355328) := by show (m + 1) * 96 ≤ 140737488355328; omega
  have HC5 : Hid (∀ o, w0.heap.size + 1 ≤ (w1.alloc o).heap.size) := fun o => by simp; omega
  clear hownL hokL hrow
  go_wp2_with (at_builtin; refine wpList_append_own _ rfl _ _ 34 rfl (w0.heap.size + 1) 51 i1 (.agg #[.slice none 0 0, .slice none 0 0, .slice none 0 0, .slice none 0 0]) 4 96 Tryz.underlying34 HLST.out.1 HLST.out.2.1 HLST.out.2.2.1 HLST.out.2.2.2 rfl (by decide) _ _ _ rfl (HOL.out _) ⟨w1.heap.size, 0, none⟩ 1 1 [.slice none 0 0, .slice none 0 0, .slice none 0 0, .slice (some ⟨w.heap.size, 0, none⟩) 0 0] rfl rfl HC1.out HC2.out HC3.out HC4.out (HC5.out _) ?_)
  intro v' w3 hown3 hgrow3 _
  obtain ⟨g', cap', rfl⟩ : ∃ g' cap', v' = .slice (some ⟨g', 0, none⟩) (m + 1) cap' := by
    rcases hown3.2 with ⟨_, h⟩ | ⟨g, cap, cur, h, _⟩
    · omega
    · exact ⟨g, cap, h⟩
  have hbl : ∀ b, b < w1.heap.size → some b ≠ v.ownBlock → w3.heap[b]? = w1.heap[b]? := fun b h1 h2 => (hgrow3.block b (by simp; omega) h2).trans (Below.heap_alloc _ _ _ h1)
  have hq6 : w3.cell? ⟨w0.heap.size, 6, none⟩ = some v := (World.cell?_of_block (a := ⟨w0.heap.size, 6, none⟩) (hbl _ hlt2 HFAR.out)).trans hc6
  have hf6 : w3.frozen? ⟨w0.heap.size, 6, none⟩ = false := (World.frozen?_of_block (a := ⟨w0.heap.size, 6, none⟩) (hbl _ hlt2 HFAR.out)).trans (HS2.out.froz 6)
  have hrk : RecsKept w1 w3 := fun g j q => q.of_block (hbl g q.lt (fun e => rec_row q HOW.out.1 (by decide) e.symm))
  have HFIN : Hid (St w0 (w3.setCell ⟨w0.heap.size, 6, none⟩ (.slice (some ⟨g', 0, none⟩) (m + 1) cap')) (n + 1) ws left) := HS2.out.put_lists HOW.out.1 hgrow3.os hgrow3.tape hgrow3.output (Nat.le_trans (by simp) hgrow3.size) hbl hown3 ((HOW.out.2.kept hrk).snoc HOW.out.1.1 (RecSlice.nil _ _) (RecSlice.nil _ _)) (by omega)
  clear hown3 hgrow3 hbl hrk hc6
  go_wp2
  go_end0
  exact ⟨rfl, HFIN.out⟩
end Go.Proofs.YtcajmohgjojhhaaGreatDoor
