import Derived.Test.YtcajmohgjojhhaaGreatDoorMA
import Derived.Laws.OwnMore
import Derived.Deep.QuietTactic
import Derived.BigQuiet
set_option linter.unusedVariables false
set_option linter.unusedSimpArgs false
namespace Go.Proofs.YtcajmohgjojhhaaGreatDoor
open Go.RowKit Go.Extern

/-- Word k, counted from the last one. -/
def wordAt (ws : List ByteArray) (k : Int) : ByteArray := ws.getD (ws.length - 1 - (pickN k ws.length).toNat) ⟨#[]⟩
theorem pick_toNat (k : Int) (n : Nat) (h : 0 < n) : (pickN k n).toNat < n := by have := pick_bd k n (by omega); omega

set_option maxRecDepth 100000 in
set_option maxHeartbeats 1000000 in
/-- (*World).word: the words lie in cell 4 of the world's block. -/
theorem word_any (B base : Nat) (wv : Value) (ws : List ByteArray) (k : Int) (w : World) (hc : w.cell? ⟨B, 4, none⟩ = some wv) (hown : w.ownsRow base 9 1 wv ws.length (ws.map Value.string)) (hl : ws.length ≤ 1000000000)
    (h1 : -9223372036854775808 ≤ k) (h2 : k ≤ 9223372036854775807) :
    Calls Tryz.prog 20 #[.pointer (some ⟨B, 0, none⟩), .int .i64 k] w fun e w' => e = .returned (.string (wordAt ws k)) ∧ ∃ m, w' = w.drewN m := by
  by_cases h0 : ws.length = 0
  · have hws : ws = [] := List.length_eq_zero_iff.1 h0
    subst hws
    rcases hown.2 with ⟨rfl, -⟩ | ⟨g, cap, cur, rfl, hg, hh, hle, hmx, hsz2, htk⟩
    all_goals
      clear hown
      try clear hh htk hsz2
      go_enter Tryz.func20, Tryz.ntmps20
      go_wp2
      go_ret
      exact ⟨rfl, 0, rfl⟩
  · have hp := pick_toNat k ws.length (by omega)
    have hpb := pick_bd k ws.length (by omega)
    have hix : ws.length - 1 - (pickN k ws.length).toNat < ws.length := by omega
    have hcc := fun g hg => World.ownsRow.cells hown (g := g) hg (ws.length - 1 - (pickN k ws.length).toNat) (.string (wordAt ws k)) (by
      rw [List.getElem?_map, List.getElem?_eq_getElem hix]
      unfold wordAt
      rw [List.getD_eq_getElem?_getD, List.getElem?_eq_getElem hix]
      rfl)
    rcases hown.2 with ⟨rfl, hn⟩ | ⟨g, cap, cur, rfl, hg, hh, hle, hmx, hsz2, htk⟩
    · exact absurd hn h0
    · have hcell := hcc g rfl
      rw [Addr.add_lit] at hcell
      clear hcc hown hh htk hsz2
      generalize hW : wordAt ws k = t at *
      have HW : Hid (wordAt ws k = t) := hW
      clear hW
      generalize hN : ws.length = n at *
      clear hN
      have hpk := fun W => pick_any k (n : Int) W h1 h2 (by omega) (by omega)
      have HPK : Hid (∀ W, Calls Tryz.prog 15 #[.int .i64 k, .int .i64 (n : Int)] W fun e w' => e = .returned (.int .i64 (pickN k n)) ∧ w' = W) := hpk
      clear hpk
      obtain ⟨q, hq⟩ : ∃ q : Nat, pickN k n = q := ⟨(pickN k n).toNat, by omega⟩
      rw [hq] at hp hpb hcell hix
      have HPQ : Hid (∀ W, Calls Tryz.prog 15 #[.int .i64 k, .int .i64 (n : Int)] W fun e w' => e = .returned (.int .i64 (q : Int)) ∧ w' = W) := fun W => by rw [← hq]; exact HPK.out W
      clear hq HPK
      simp only [Int.toNat_natCast] at hp hcell hix
      have hne : ((n : Int) == 0) = false := beq_eq_false_iff_ne.2 (by omega)
      obtain ⟨j, hj⟩ : ∃ j, n - 1 - q = j := ⟨_, rfl⟩
      rw [hj] at hcell
      have hcell' : w.cell? ⟨g, j, none⟩ = some (.string t) := by simpa using hcell
      clear hcell
      have hwr1 : IntKind.i64.wrap ((n : Int) - 1) = (n : Int) - 1 := by simp only [IntKind.wrap, IntKind.bits, IntKind.signed]; simp; omega
      have hwr2 : IntKind.i64.wrap ((n : Int) - 1 - (q : Int)) = (j : Int) := by simp only [IntKind.wrap, IntKind.bits, IntKind.signed]; simp; omega
      have hjb : (j : Int) < (n : Int) := by omega
      clear hj
      go_enter Tryz.func20, Tryz.ntmps20
      go_wp2_with fail
      go_quiet ((go_at_call 15; exact Calls.quiet_of_same (HPQ.out _)))
      go_wp2
      go_ret
      exact ⟨rfl, _, rfl⟩

theorem info_parts2 {P : Program} {t : TypeId} {z : Value} {s b : Nat} (h : (P.info? t).map (fun i => (i.size, i.bytes)) = some (s, b)) (hz : (P.info? t).map (fun i => i.zero) = some (some z)) : ∃ i, P.info? t = some i ∧ i.zero = some z ∧ i.size = s ∧ i.bytes = b := by
  obtain ⟨i, hi, e⟩ := Option.map_eq_some_iff.1 h
  rw [hi] at hz
  simp at e hz
  exact ⟨i, hi, hz, e.1, e.2⟩
theorem Tryz.infoStr : (Tryz.prog.info? 9).map (fun i => (i.size, i.bytes)) = some (1, 16) := by kernel_rfl
theorem Tryz.zeroStr : (Tryz.prog.info? 9).map (fun i => i.zero) = some (some (.string ⟨#[]⟩)) := by kernel_rfl

theorem heap_setCell_at (w : World) (b o : Nat) (u : Value) (cur : Array Value) (ty : TypeId) (fr : Nat × Nat) (h : w.heap[b]? = some (.cells cur ty fr)) : (w.setCell ⟨b, o, none⟩ u).heap[b]? = some (.cells (cur.setIfInBounds o u) ty fr) := by
  simp [World.setCell, Array.getElem?_modify, h]
/-- What a step on the world's words leaves: cells 4 and 8 of block B, the words' row; all else is as it was. -/
structure Kept (B : Nat) (wv : Value) (w w' : World) : Prop where
  os : w'.os = w.os
  tape : w'.tape = w.tape
  output : w'.output = w.output
  size : w.heap.size ≤ w'.heap.size
  cell : ∀ j, j ≠ 4 → j ≠ 8 → w'.cell? ⟨B, j, none⟩ = w.cell? ⟨B, j, none⟩
  froz : ∀ j, w'.frozen? ⟨B, j, none⟩ = w.frozen? ⟨B, j, none⟩
  block : ∀ b, b < w.heap.size → b ≠ B → some b ≠ wv.ownBlock → w'.heap[b]? = w.heap[b]?
  own : ∀ cur ty fr, w.heap[B]? = some (.cells cur ty fr) → ∃ cur', w'.heap[B]? = some (.cells cur' ty fr)

set_option maxRecDepth 100000 in
set_option maxHeartbeats 1000000 in
/-- (*World).keep. -/
theorem keep_any (B base : Nat) (wv : Value) (ws : List ByteArray) (left : Int) (t : ByteArray) (w : World) (h4 : w.cell? ⟨B, 4, none⟩ = some wv) (h8 : w.cell? ⟨B, 8, none⟩ = some (.int .i64 left)) (hf : ∀ j, w.frozen? ⟨B, j, none⟩ = false)
    (hown : w.ownsRow base 9 1 wv ws.length (ws.map Value.string)) (hB : B < base) (hbs : base ≤ w.heap.size) (hl : ws.length ≤ 1000000000) (ht : t.size ≤ 1000000000) (hl1 : -1000000000000 ≤ left) (hl2 : left ≤ 1000000000000) :
    Calls Tryz.prog 29 #[.pointer (some ⟨B, 0, none⟩), .string t] w fun e w' => e = .returned (.tuple #[]) ∧ ∃ wv', w'.cell? ⟨B, 4, none⟩ = some wv' ∧ w'.cell? ⟨B, 8, none⟩ = some (.int .i64 (left - (t.size : Int))) ∧
      w'.ownsRow base 9 1 wv' (ws.length + 1) ((ws ++ [t]).map Value.string) ∧ Kept B wv w w' := by
  obtain ⟨i0, hi, hz0, hz1, hz2⟩ := info_parts2 Tryz.infoStr Tryz.zeroStr
  have hf8 := hf 8
  have hf4 := hf 4
  have HF : Hid (∀ j, w.frozen? ⟨B, j, none⟩ = false) := hf
  clear hf
  have hown1 := ownsRow_setCell_below hown (a := ⟨B, 8, none⟩) hB (.int .i64 (left - (t.size : Int)))
  have h41 : (w.setCell ⟨B, 8, none⟩ (.int .i64 (left - (t.size : Int)))).cell? ⟨B, 4, none⟩ = some wv := by
    rw [World.cell?_setCell_other _ _ _ _ (by intro e; injection e with e1 e2; omega)]; exact h4
  go_enter Tryz.func29, Tryz.ntmps29
  go_wp2_with (at_builtin; refine wpList_append_own _ rfl _ _ 32 rfl base 9 i0 (.string ⟨#[]⟩) 1 16 Tryz.underlying32 hi hz0 hz1 hz2 rfl (by decide) _ _ _ rfl (hown1.alloc _) ⟨w.heap.size, 0, none⟩ 1 1 [.string t] rfl rfl ?c1 ?c2 ?c3 ?c4 ?c5 ?_)
  case c1 =>
    intro j u hj
    match j, hj with
    | 0, hj =>
      simp at hj
      subst hj
      rw [show (⟨w.heap.size, 0, none⟩ : Addr).add 0 = ⟨w.heap.size, 0, none⟩ from rfl, World.cell?_alloc_at _ _ _ _ (by simp [World.setCell])]
      rfl
  case c2 => intro u hu; simp at hu; subst hu; rfl
  case c3 => unfold maxLen; omega
  case c4 => omega
  case c5 => simp; omega
  intro v' w1 hown2 hgrow _
  obtain ⟨g', cap', rfl⟩ : ∃ g' cap', v' = .slice (some ⟨g', 0, none⟩) (ws.length + 1) cap' := by
    rcases hown2.2 with ⟨_, h⟩ | ⟨g, cap, cur, h, _⟩
    · omega
    · exact ⟨g, cap, h⟩
  have hrow : ∀ q, wv.ownBlock = some q → base ≤ q := fun q hq => (hown.lt q hq).1
  have hBr : some B ≠ wv.ownBlock := fun e => by have := hrow B e.symm; omega
  have hBl : B < w.heap.size := by omega
  have hszS : (w.setCell ⟨B, 8, none⟩ (.int .i64 (left - (t.size : Int)))).heap.size = w.heap.size := by simp [World.setCell]
  have hWB : ∀ j, ((w.setCell ⟨B, 8, none⟩ (.int .i64 (left - (t.size : Int)))).alloc (.cells #[.string t] 9)).cell? ⟨B, j, none⟩ = (w.setCell ⟨B, 8, none⟩ (.int .i64 (left - (t.size : Int)))).cell? ⟨B, j, none⟩ := fun j => World.cell?_alloc_lt _ _ _ (by rw [hszS]; exact hBl)
  have hblk : w1.heap[B]? = ((w.setCell ⟨B, 8, none⟩ (.int .i64 (left - (t.size : Int)))).alloc (.cells #[.string t] 9)).heap[B]? := hgrow.block B (by simp; omega) hBr
  have c1' : ∀ j, w1.cell? ⟨B, j, none⟩ = (w.setCell ⟨B, 8, none⟩ (.int .i64 (left - (t.size : Int)))).cell? ⟨B, j, none⟩ := fun j => (World.cell?_of_block (a := ⟨B, j, none⟩) hblk).trans (hWB j)
  have f1' : ∀ j, w1.frozen? ⟨B, j, none⟩ = w.frozen? ⟨B, j, none⟩ := fun j => (World.frozen?_of_block (a := ⟨B, j, none⟩) hblk).trans (by
    rw [World.frozen?_alloc_old _ _ _ (by rw [hszS]; exact Nat.ne_of_lt hBl), World.frozen?_setCell])
  have hq4 := (c1' 4).trans h41
  have hqf := (f1' 4).trans hf4
  have HC8 : Hid (w1.cell? ⟨B, 8, none⟩ = some (.int .i64 (left - (t.size : Int)))) := (c1' 8).trans (World.cell?_setCell_same _ _ _ h8)
  have HCJ : Hid (∀ j, j ≠ 4 → j ≠ 8 → w1.cell? ⟨B, j, none⟩ = w.cell? ⟨B, j, none⟩) := fun j _ h => (c1' j).trans (World.cell?_setCell_other _ _ _ _ (by intro e; injection e with e1 e2; omega))
  have HFJ : Hid (∀ j, w1.frozen? ⟨B, j, none⟩ = w.frozen? ⟨B, j, none⟩) := f1'
  have HO : Hid (∀ x, (w1.setCell ⟨B, 4, none⟩ x).ownsRow base 9 1 (.slice (some ⟨g', 0, none⟩) (ws.length + 1) cap') (ws.length + 1) ((ws ++ [t]).map Value.string)) := fun x => by
    rw [List.map_append]
    exact ownsRow_setCell_below hown2 (a := ⟨B, 4, none⟩) hB x
  have HBK : Hid (∀ b, b < w.heap.size → b ≠ B → some b ≠ wv.ownBlock → w1.heap[b]? = w.heap[b]?) := fun b h1 h2 h3 => by
    rw [hgrow.block b (by simp; omega) h3, Below.heap_alloc _ _ _ (by rw [hszS]; exact h1)]
    exact Below.heap_setCell _ _ _ _ h2
  have HSZ : Hid (w.heap.size ≤ w1.heap.size) := by
    have h := hgrow.size
    rw [show ((w.setCell ⟨B, 8, none⟩ (.int .i64 (left - (t.size : Int)))).alloc (.cells #[.string t] 9)).heap.size = w.heap.size + 1 by simp] at h
    show w.heap.size ≤ w1.heap.size
    omega
  have HOWN : Hid (∀ cur ty fr, w.heap[B]? = some (.cells cur ty fr) → ∃ cur', w1.heap[B]? = some (.cells cur' ty fr)) := fun cur ty fr h => ⟨_, by
    rw [hblk, Below.heap_alloc _ _ _ (by rw [hszS]; exact hBl)]
    exact heap_setCell_at _ _ _ _ _ _ _ h⟩
  have HOS : Hid (w1.os = w.os ∧ w1.tape = w.tape ∧ w1.output = w.output) := ⟨hgrow.os, hgrow.tape, hgrow.output⟩
  clear hown2 hgrow hown hown1 hWB hblk c1' f1' hszS
  go_wp2
  go_end0
  refine ⟨rfl, _, World.cell?_setCell_same _ _ _ hq4, ?_, HO.out _, ⟨HOS.out.1, HOS.out.2.1, HOS.out.2.2, ?_, fun j h1 h2 => ?_, fun j => ?_, fun b h1 h2 h3 => ?_, fun cur ty fr h => ?_⟩⟩
  · rw [World.cell?_setCell_other _ _ _ _ (by intro e; injection e with e1 e2; omega)]; exact HC8.out
  · have := HSZ.out
    simpa [World.setCell] using this
  · rw [World.cell?_setCell_other _ _ _ _ (by intro e; injection e with e1 e2; omega)]; exact HCJ.out j h1 h2
  · rw [World.frozen?_setCell]; exact HFJ.out j
  · exact (Below.heap_setCell _ _ _ _ h2).trans (HBK.out b h1 h2 h3)
  · obtain ⟨cur', h'⟩ := HOWN.out cur ty fr h
    exact ⟨_, heap_setCell_at _ _ _ _ _ _ _ h'⟩
end Go.Proofs.YtcajmohgjojhhaaGreatDoor

namespace Go.Proofs.YtcajmohgjojhhaaGreatDoor
open Go.RowKit Go.Extern

/-- A block of whose cells the first n are ints. -/
def IntBlock (w : World) (g : Nat) (ty : TypeId) (n : Nat) : Prop :=
  ∃ cur, w.heap[g]? = some (.cells cur ty (0, 0)) ∧ n ≤ cur.size ∧ ∀ j, j < n → ∃ x, cur[j]? = some (.int .i64 x)
theorem IntBlock.cell {w : World} {g : Nat} {ty : TypeId} {n : Nat} (h : IntBlock w g ty n) (j : Nat) (hj : j < n) : ∃ x, w.cell? ⟨g, j, none⟩ = some (.int .i64 x) := by
  obtain ⟨cur, h1, _, h3⟩ := h
  obtain ⟨x, hx⟩ := h3 j hj
  exact ⟨x, by simp [World.cell?, h1, hx]⟩
theorem IntBlock.froz {w : World} {g : Nat} {ty : TypeId} {n : Nat} (h : IntBlock w g ty n) (j : Nat) : w.frozen? ⟨g, j, none⟩ = false := by
  obtain ⟨cur, h1, _, _⟩ := h
  simp [World.frozen?, h1]
theorem IntBlock.lt {w : World} {g : Nat} {ty : TypeId} {n : Nat} (h : IntBlock w g ty n) : g < w.heap.size := by
  obtain ⟨cur, h1, _⟩ := h
  exact (Array.getElem?_eq_some_iff.1 h1).1
theorem IntBlock.of_block {w w' : World} {g : Nat} {ty : TypeId} {n : Nat} (h : IntBlock w g ty n) (e : w'.heap[g]? = w.heap[g]?) : IntBlock w' g ty n := by
  obtain ⟨cur, h1, h2⟩ := h
  exact ⟨cur, e.trans h1, h2⟩
theorem IntBlock.alloc {w : World} {g : Nat} {ty : TypeId} {n : Nat} (h : IntBlock w g ty n) (o : Obj) : IntBlock (w.alloc o) g ty n := h.of_block (Below.heap_alloc _ _ _ h.lt)
theorem IntBlock.below {w w' : World} {g : Nat} {ty : TypeId} {n : Nat} (h : IntBlock w g ty n) (hb : Below w.heap.size w w') : IntBlock w' g ty n := h.of_block (hb.block g h.lt)
theorem IntBlock.set {w : World} {g : Nat} {ty : TypeId} {n : Nat} (h : IntBlock w g ty n) (b o : Nat) (x : Int) : IntBlock (w.setCell ⟨b, o, none⟩ (.int .i64 x)) g ty n := by
  by_cases e : g = b
  · subst e
    obtain ⟨cur, h1, h2, h3⟩ := h
    refine ⟨_, heap_setCell_at _ _ _ _ _ _ _ h1, by simpa using h2, fun j hj => ?_⟩
    by_cases ej : o = j
    · subst ej
      exact ⟨x, by rw [Array.getElem?_setIfInBounds_self_of_lt (by omega)]⟩
    · obtain ⟨y, hy⟩ := h3 j hj
      exact ⟨y, by rw [Array.getElem?_setIfInBounds_ne ej]; exact hy⟩
  · exact h.of_block (Below.heap_setCell _ _ _ _ e)
theorem IntBlock.mono {w : World} {g : Nat} {ty : TypeId} {n m : Nat} (h : IntBlock w g ty n) (hm : m ≤ n) : IntBlock w g ty m := by
  obtain ⟨cur, h1, h2, h3⟩ := h
  exact ⟨cur, h1, by omega, fun j hj => h3 j (by omega)⟩
theorem IntBlock.of_row {w : World} {base : Nat} {ty : TypeId} {size : Nat} {g n c : Nat} {xs : List Value} (h : w.ownsRow base ty size (.slice (some ⟨g, 0, none⟩) n c) n xs) (hx : ∀ u ∈ xs, ∃ x, u = .int .i64 x) : IntBlock w g ty (n * size) := by
  obtain ⟨hl, h2⟩ := h
  rcases h2 with ⟨e, -⟩ | ⟨g', cap, cur, e, hg, hh, hle, hmx, hsz, htk⟩
  · cases e
  · injection e with e1 e2 e3
    injection e1 with e1
    injection e1 with e1
    subst e1
    have hn : n * size ≤ cur.size := by rw [hsz]; exact Nat.mul_le_mul_right _ hle
    refine ⟨cur, hh, hn, fun j hj => ?_⟩
    have hc : cur[j]? = xs[j]? := by
      rw [← htk, List.getElem?_take_of_lt hj]
      simp
    obtain ⟨u, hu⟩ : ∃ u, xs[j]? = some u := ⟨xs[j], List.getElem?_eq_getElem (by omega)⟩
    obtain ⟨x, rfl⟩ := hx u (List.mem_of_getElem? hu)
    exact ⟨x, hc.trans hu⟩

/-- A list of records of which only is known that it can be read and written. -/
def RecSlice (B : Nat) (w : World) (v : Value) (m : Nat) : Prop := m ≤ 1000000000 ∧ ∃ p c, v = .slice p m c ∧ (m = 0 ∨ ∃ g, p = some ⟨g, 0, none⟩ ∧ B < g ∧ IntBlock w g 85 (7 * m))
/-- What is a block of records stays one. -/
def RecsKept (w w' : World) : Prop := ∀ g n, IntBlock w g 85 n → IntBlock w' g 85 n
theorem RecsKept.refl (w : World) : RecsKept w w := fun _ _ h => h
theorem RecsKept.trans {a b c : World} (h : RecsKept a b) (k : RecsKept b c) : RecsKept a c := fun g n q => k g n (h g n q)
theorem RecsKept.below {w w' : World} (h : Below w.heap.size w w') : RecsKept w w' := fun _ _ q => q.below h
theorem RecSlice.kept {B : Nat} {w w' : World} {v : Value} {m : Nat} (h : RecSlice B w v m) (k : RecsKept w w') : RecSlice B w' v m := by
  obtain ⟨h0, p, c, h1, h2⟩ := h
  refine ⟨h0, p, c, h1, ?_⟩
  rcases h2 with h2 | ⟨g, h2, hB, h3⟩
  · exact .inl h2
  · exact .inr ⟨g, h2, hB, k _ _ h3⟩
theorem RecSlice.nil (B : Nat) (w : World) : RecSlice B w (.slice none 0 0) 0 := ⟨by omega, none, 0, rfl, .inl rfl⟩

/-- The lists that were handed out: two of records, equally long; two of states without any. -/
def ListsOk (B : Nat) (w : World) (xs : List Value) (n : Nat) : Prop := ∀ i, i < n → ∃ r q m p c, xs[4 * i]? = some r ∧ xs[4 * i + 1]? = some q ∧ xs[4 * i + 2]? = some (.slice none 0 0) ∧ xs[4 * i + 3]? = some (.slice p 0 c) ∧ RecSlice B w r m ∧ RecSlice B w q m
theorem ListsOk.kept {B : Nat} {w w' : World} {xs : List Value} {n : Nat} (h : ListsOk B w xs n) (k : RecsKept w w') : ListsOk B w' xs n := fun i hi => by
  obtain ⟨r, q, m, p, c, h1, h2, h3, h4, h5, h6⟩ := h i hi
  exact ⟨r, q, m, p, c, h1, h2, h3, h4, h5.kept k, h6.kept k⟩
theorem ListsOk.nil (B : Nat) (w : World) : ListsOk B w [] 0 := fun i h => absurd h (Nat.not_lt_zero i)
theorem ListsOk.snoc {B : Nat} {w : World} {xs : List Value} {n : Nat} (h : ListsOk B w xs n) (hl : xs.length = n * 4) {r q : Value} {m : Nat} {p : Option Addr} {c : Nat} (hr : RecSlice B w r m) (hq : RecSlice B w q m) : ListsOk B w (xs ++ [r, q, .slice none 0 0, .slice p 0 c]) (n + 1) := fun i hi => by
  by_cases e : i < n
  · obtain ⟨r', q', m', p', c', h1, h2, h3, h4, h5⟩ := h i e
    refine ⟨r', q', m', p', c', ?_, ?_, ?_, ?_, h5⟩
    · rw [List.getElem?_append_left (by omega)]; exact h1
    · rw [List.getElem?_append_left (by omega)]; exact h2
    · rw [List.getElem?_append_left (by omega)]; exact h3
    · rw [List.getElem?_append_left (by omega)]; exact h4
  · have : i = n := by omega
    subst this
    refine ⟨r, q, m, p, c, ?_, ?_, ?_, ?_, hr, hq⟩
    · rw [List.getElem?_append_right (by omega), show 4 * i - xs.length = 0 by omega]; rfl
    · rw [List.getElem?_append_right (by omega), show 4 * i + 1 - xs.length = 1 by omega]; rfl
    · rw [List.getElem?_append_right (by omega), show 4 * i + 2 - xs.length = 2 by omega]; rfl
    · rw [List.getElem?_append_right (by omega), show 4 * i + 3 - xs.length = 3 by omega]; rfl

def sizes (ws : List ByteArray) : Nat := (ws.map ByteArray.size).sum
theorem sizes_snoc (ws : List ByteArray) (t : ByteArray) : sizes (ws ++ [t]) = sizes ws + t.size := by simp [sizes]
theorem sizes_mem (ws : List ByteArray) (t : ByteArray) (h : t ∈ ws) : t.size ≤ sizes ws := by
  induction ws with
  | nil => cases h
  | cons u r ih =>
    simp only [sizes, List.map_cons, List.sum_cons]
    rcases List.mem_cons.1 h with rfl | h
    · exact Nat.le_add_right _ _
    · exact Nat.le_trans (ih h) (Nat.le_add_left _ _)
theorem wordAt_size (ws : List ByteArray) (k : Int) : (wordAt ws k).size ≤ sizes ws := by
  unfold wordAt
  rw [List.getD_eq_getElem?_getD]
  rcases h : ws[ws.length - 1 - (pickN k ws.length).toNat]? with _ | t
  · exact Nat.zero_le _
  · exact sizes_mem ws t (List.mem_of_getElem? h)

/-- All that the script has made, behind n steps: the World lies in the block that comes behind w0's. -/
structure St (w0 w : World) (n : Nat) (ws : List ByteArray) (left : Int) : Prop where
  low : Below w0.heap.size w0 w
  blk : ∃ cur, w.heap[w0.heap.size]? = some (.cells cur 36 (0, 0))
  c0 : ∃ x, w.cell? ⟨w0.heap.size, 0, none⟩ = some (.int .i64 x)
  c1 : ∃ x, w.cell? ⟨w0.heap.size, 1, none⟩ = some (.int .i64 x)
  c2 : ∃ x, w.cell? ⟨w0.heap.size, 2, none⟩ = some (.int .i64 x)
  draws : ∃ v m xs, w.cell? ⟨w0.heap.size, 3, none⟩ = some v ∧ w.ownsRow (w0.heap.size + 1) 3 1 v m xs ∧ (∀ u ∈ xs, ∃ x, u = .int .i64 x) ∧ m ≤ n
  words : ∃ v, w.cell? ⟨w0.heap.size, 4, none⟩ = some v ∧ w.ownsRow (w0.heap.size + 1) 9 1 v ws.length (ws.map Value.string)
  wlen : ws.length ≤ n
  desks : w.cell? ⟨w0.heap.size, 5, none⟩ = some (.slice none 0 0)
  lists : ∃ v m xs, w.cell? ⟨w0.heap.size, 6, none⟩ = some v ∧ w.ownsRow (w0.heap.size + 1) 51 4 v m xs ∧ ListsOk w0.heap.size w xs m ∧ m ≤ n
  mark : ∃ x, w.cell? ⟨w0.heap.size, 7, none⟩ = some (.int .i64 x)
  lft : w.cell? ⟨w0.heap.size, 8, none⟩ = some (.int .i64 left)
  sum : left + (sizes ws : Int) = 1048576

theorem St.lt {w0 w : World} {n : Nat} {ws : List ByteArray} {left : Int} (h : St w0 w n ws left) : w0.heap.size < w.heap.size := by
  obtain ⟨cur, h1⟩ := h.blk
  exact (Array.getElem?_eq_some_iff.1 h1).1
theorem St.froz {w0 w : World} {n : Nat} {ws : List ByteArray} {left : Int} (h : St w0 w n ws left) (j : Nat) : w.frozen? ⟨w0.heap.size, j, none⟩ = false := by
  obtain ⟨cur, h1⟩ := h.blk
  simp [World.frozen?, h1]
theorem St.mono {w0 w : World} {n m : Nat} {ws : List ByteArray} {left : Int} (h : St w0 w n ws left) (hm : n ≤ m) : St w0 w m ws left := by
  refine ⟨h.low, h.blk, h.c0, h.c1, h.c2, ?_, h.words, Nat.le_trans h.wlen hm, h.desks, ?_, h.mark, h.lft, h.sum⟩
  · obtain ⟨v, k, xs, h1, h2, h3, h4⟩ := h.draws
    exact ⟨v, k, xs, h1, h2, h3, by omega⟩
  · obtain ⟨v, k, xs, h1, h2, h3, h4⟩ := h.lists
    exact ⟨v, k, xs, h1, h2, h3, by omega⟩
theorem owns_block {w w' : World} {B : Nat} {e : TypeId} {size : Nat} {v : Value} {n : Nat} {xs : List Value} (h : w.ownsRow B e size v n xs) (hb : ∀ q, v.ownBlock = some q → w'.heap[q]? = w.heap[q]?) : w'.ownsRow B e size v n xs := by
  refine ⟨h.1, ?_⟩
  rcases h.2 with h2 | ⟨g, cap, cur, hv, hg, hh, r⟩
  · exact .inl h2
  · exact .inr ⟨g, cap, cur, hv, hg, by rw [hb g (by rw [hv]; rfl)]; exact hh, r⟩
/-- Calls that leave all that stood. -/
theorem St.below {w0 w w' : World} {n : Nat} {ws : List ByteArray} {left : Int} (h : St w0 w n ws left) (hb : Below w.heap.size w w') : St w0 w' n ws left := by
  have hB : w'.heap[w0.heap.size]? = w.heap[w0.heap.size]? := hb.block _ h.lt
  have hc : ∀ j, w'.cell? ⟨w0.heap.size, j, none⟩ = w.cell? ⟨w0.heap.size, j, none⟩ := fun j => World.cell?_of_block (a := ⟨w0.heap.size, j, none⟩) hB
  refine ⟨h.low.trans (hb.mono (Nat.le_of_lt h.lt)), ?_, ?_, ?_, ?_, ?_, ?_, h.wlen, ?_, ?_, ?_, ?_, h.sum⟩
  · rw [hB]; exact h.blk
  · rw [hc]; exact h.c0
  · rw [hc]; exact h.c1
  · rw [hc]; exact h.c2
  · obtain ⟨v, k, xs, h1, h2, h3⟩ := h.draws
    exact ⟨v, k, xs, by rw [hc]; exact h1, owns_block h2 (fun q hq => hb.block q (h2.lt q hq).2), h3⟩
  · obtain ⟨v, h1, h2⟩ := h.words
    exact ⟨v, by rw [hc]; exact h1, owns_block h2 (fun q hq => hb.block q (h2.lt q hq).2)⟩
  · rw [hc]; exact h.desks
  · obtain ⟨v, k, xs, h1, h2, h3, h4⟩ := h.lists
    exact ⟨v, k, xs, by rw [hc]; exact h1, owns_block h2 (fun q hq => hb.block q (h2.lt q hq).2), h3.kept (RecsKept.below hb), h4⟩
  · rw [hc]; exact h.mark
  · rw [hc]; exact h.lft
theorem St.drewN {w0 w : World} {n : Nat} {ws : List ByteArray} {left : Int} (h : St w0 w n ws left) (m : Nat) : St w0 (w.drewN m) n ws left := h.below ⟨rfl, rfl, rfl, Nat.le_refl _, fun _ _ => rfl⟩
/-- Two rows of other types lie in other blocks. -/
theorem owns_apart {w : World} {b b' : Nat} {e e' : TypeId} {s s' : Nat} {v v' : Value} {n n' : Nat} {xs xs' : List Value} (h : w.ownsRow b e s v n xs) (h' : w.ownsRow b' e' s' v' n' xs') (he : e ≠ e') (q : Nat) (hq : v.ownBlock = some q) : v'.ownBlock ≠ some q := by
  rcases h.2 with ⟨rfl, -⟩ | ⟨g, cap, cur, rfl, hg, hh, r⟩
  · simp [Value.ownBlock] at hq
  · rcases h'.2 with ⟨rfl, -⟩ | ⟨g', cap', cur', rfl, hg', hh', r'⟩
    · simp [Value.ownBlock]
    · intro e2
      simp only [Value.ownBlock, Option.some.injEq] at hq e2
      subst hq
      subst e2
      rw [hh] at hh'
      injection hh' with hh'
      injection hh' with _ q2 _
      exact he q2
theorem St.word {w0 w : World} {n : Nat} {ws : List ByteArray} {left : Int} (h : St w0 w n ws left) (k : Int) (hn : n ≤ 1000000000) (h1 : -9223372036854775808 ≤ k) (h2 : k ≤ 9223372036854775807) :
    Calls Tryz.prog 20 #[.pointer (some ⟨w0.heap.size, 0, none⟩), .int .i64 k] w fun e w' => e = .returned (.string (wordAt ws k)) ∧ ∃ m, w' = w.drewN m := by
  obtain ⟨v, q1, q2⟩ := h.words
  exact word_any _ _ v ws k w q1 q2 (by have := h.wlen; omega) h1 h2
theorem St.keep {w0 w : World} {n : Nat} {ws : List ByteArray} {left : Int} (h : St w0 w n ws left) (t : ByteArray) (hn : n ≤ 1000000000) (ht : t.size ≤ 1000000000) (hl1 : -1000000000000 ≤ left) :
    Calls Tryz.prog 29 #[.pointer (some ⟨w0.heap.size, 0, none⟩), .string t] w fun e w' => e = .returned (.tuple #[]) ∧ St w0 w' (n + 1) (ws ++ [t]) (left - (t.size : Int)) ∧ w.heap.size ≤ w'.heap.size := by
  obtain ⟨v, q1, q2⟩ := h.words
  have hlt := h.lt
  refine (keep_any _ _ v ws left t w q1 h.lft h.froz q2 (Nat.lt_succ_self _) hlt (by have := h.wlen; omega) ht hl1 (by have := h.sum; omega)).mono ?_
  rintro e w' ⟨rfl, wv', p4, p8, pown, kept⟩
  have hwv : ∀ q, v.ownBlock = some q → w0.heap.size + 1 ≤ q := fun q hq => (q2.lt q hq).1
  have hc : ∀ j, j ≠ 4 → j ≠ 8 → w'.cell? ⟨w0.heap.size, j, none⟩ = w.cell? ⟨w0.heap.size, j, none⟩ := kept.cell
  have other : ∀ {e : TypeId} {s : Nat} {v' : Value} {m : Nat} {xs : List Value}, w.ownsRow (w0.heap.size + 1) e s v' m xs → e ≠ 9 → w'.ownsRow (w0.heap.size + 1) e s v' m xs := fun ho hne =>
    owns_block ho fun q hq => kept.block q (ho.lt q hq).2 (by have := (ho.lt q hq).1; omega) (fun e => owns_apart ho q2 hne q hq e.symm)
  have hrk : RecsKept w w' := fun g m hg => by
    refine hg.of_block (kept.block g hg.lt ?_ ?_)
    · rintro rfl
      obtain ⟨cur, b1⟩ := h.blk
      obtain ⟨cur', b2, _⟩ := hg
      rw [b1] at b2
      injection b2 with b2
      injection b2 with _ b2 _
      exact absurd b2 (by decide)
    · intro e
      obtain ⟨cur', b2, _⟩ := hg
      rcases q2.2 with ⟨rfl, -⟩ | ⟨g', cap, cur, rfl, _, hh, _⟩
      · simp [Value.ownBlock] at e
      · simp only [Value.ownBlock, Option.some.injEq] at e
        subst e
        rw [hh] at b2
        injection b2 with b2
        injection b2 with _ b2 _
        exact absurd b2 (by decide)
  refine ⟨rfl, ⟨?_, ?_, ?_, ?_, ?_, ?_, ⟨wv', p4, ?_⟩, ?_, ?_, ?_, ?_, p8, ?_⟩, kept.size⟩
  · exact h.low.trans ⟨kept.os, kept.tape, kept.output, kept.size, fun k hk => kept.block k (by omega) (by omega) (fun e => by have := hwv k e.symm; omega)⟩
  · obtain ⟨cur, b1⟩ := h.blk
    exact kept.own cur _ _ b1
  · rw [hc _ (by omega) (by omega)]; exact h.c0
  · rw [hc _ (by omega) (by omega)]; exact h.c1
  · rw [hc _ (by omega) (by omega)]; exact h.c2
  · obtain ⟨u, k, xs, r1, r2, r3, r4⟩ := h.draws
    exact ⟨u, k, xs, by rw [hc _ (by omega) (by omega)]; exact r1, other r2 (by decide), r3, by omega⟩
  · rw [List.length_append]; exact pown
  · rw [List.length_append]; have := h.wlen; simp; omega
  · rw [hc _ (by omega) (by omega)]; exact h.desks
  · obtain ⟨u, k, xs, r1, r2, r3, r4⟩ := h.lists
    exact ⟨u, k, xs, by rw [hc _ (by omega) (by omega)]; exact r1, other r2 (by decide), r3.kept hrk, by omega⟩
  · rw [hc _ (by omega) (by omega)]; exact h.mark
  · rw [sizes_snoc]; have := h.sum; omega
end Go.Proofs.YtcajmohgjojhhaaGreatDoor

namespace Go.Proofs.YtcajmohgjojhhaaGreatDoor
open Go.RowKit Go.Extern

theorem cell_setCell_off (w : World) (b i j : Nat) (u : Value) (h : i ≠ j) : (w.setCell ⟨b, i, none⟩ u).cell? ⟨b, j, none⟩ = w.cell? ⟨b, j, none⟩ :=
  World.cell?_setCell_other _ _ _ _ (by intro e; injection e with e1 e2; omega)
theorem block_type {w : World} {g : Nat} {c c' : Array Value} {t t' : TypeId} {f f' : Nat × Nat} (h : w.heap[g]? = some (.cells c t f)) (h' : w.heap[g]? = some (.cells c' t' f')) : t = t' := by
  rw [h] at h'
  injection h' with h'
  injection h' with _ h' _
theorem row_type {w : World} {b : Nat} {e : TypeId} {s : Nat} {v : Value} {n : Nat} {xs : List Value} (h : w.ownsRow b e s v n xs) {g : Nat} (hg : v.ownBlock = some g) : ∃ cur, w.heap[g]? = some (.cells cur e (0, 0)) := by
  rcases h.2 with ⟨rfl, -⟩ | ⟨g', cap, cur, rfl, _, hh, _⟩
  · simp [Value.ownBlock] at hg
  · simp only [Value.ownBlock, Option.some.injEq] at hg
    subst hg
    exact ⟨cur, hh⟩

section
variable {w0 w : World} {n : Nat} {ws : List ByteArray} {left : Int}

theorem St.rec_ne (h : St w0 w n ws left) {g m : Nat} (hg : IntBlock w g 85 m) : g ≠ w0.heap.size := by
  rintro rfl
  obtain ⟨cur, b1⟩ := h.blk
  obtain ⟨cur', b2, _⟩ := hg
  exact absurd (block_type b1 b2) (by decide)
theorem rec_row {b : Nat} {e : TypeId} {s : Nat} {v : Value} {k : Nat} {xs : List Value} {g m : Nat} (hg : IntBlock w g 85 m) (ho : w.ownsRow b e s v k xs) (he : e ≠ 85) : v.ownBlock ≠ some g := fun q => by
  obtain ⟨cur, b1⟩ := row_type ho q
  obtain ⟨cur', b2, _⟩ := hg
  exact he (block_type b1 b2)

/-- A number of the World's own. -/
theorem St.setInt (h : St w0 w n ws left) (j : Nat) (hj : j = 0 ∨ j = 1 ∨ j = 2 ∨ j = 7) (x : Int) : St w0 (w.setCell ⟨w0.heap.size, j, none⟩ (.int .i64 x)) n ws left := by
  have hc : ∀ i, j ≠ i → (w.setCell ⟨w0.heap.size, j, none⟩ (.int .i64 x)).cell? ⟨w0.heap.size, i, none⟩ = w.cell? ⟨w0.heap.size, i, none⟩ := fun i hi => cell_setCell_off _ _ _ _ _ hi
  have hi : ∀ i, (∃ y, w.cell? ⟨w0.heap.size, i, none⟩ = some (.int .i64 y)) → ∃ y, (w.setCell ⟨w0.heap.size, j, none⟩ (.int .i64 x)).cell? ⟨w0.heap.size, i, none⟩ = some (.int .i64 y) := fun i ⟨y, hy⟩ => by
    by_cases e : j = i
    · subst e; exact ⟨x, World.cell?_setCell_same _ _ _ hy⟩
    · exact ⟨y, (hc i e).trans hy⟩
  have hrow : ∀ {e : TypeId} {s : Nat} {v' : Value} {m : Nat} {xs : List Value}, w.ownsRow (w0.heap.size + 1) e s v' m xs → (w.setCell ⟨w0.heap.size, j, none⟩ (.int .i64 x)).ownsRow (w0.heap.size + 1) e s v' m xs := fun ho => ownsRow_setCell_below ho (a := ⟨w0.heap.size, j, none⟩) (Nat.lt_succ_self _) _
  refine ⟨h.low.setCell (p := ⟨w0.heap.size, j, none⟩) (Nat.le_refl _) _, ?_, hi 0 h.c0, hi 1 h.c1, hi 2 h.c2, ?_, ?_, h.wlen, ?_, ?_, hi 7 h.mark, ?_, h.sum⟩
  · obtain ⟨cur, b1⟩ := h.blk
    exact ⟨_, heap_setCell_at _ _ _ _ _ _ _ b1⟩
  · obtain ⟨u, k, xs, r1, r2, r3⟩ := h.draws
    exact ⟨u, k, xs, (hc 3 (by omega)).trans r1, hrow r2, r3⟩
  · obtain ⟨u, r1, r2⟩ := h.words
    exact ⟨u, (hc 4 (by omega)).trans r1, hrow r2⟩
  · exact (hc 5 (by omega)).trans h.desks
  · obtain ⟨u, k, xs, r1, r2, r3, r4⟩ := h.lists
    exact ⟨u, k, xs, (hc 6 (by omega)).trans r1, hrow r2, r3.kept (fun g m q => q.set _ _ _), r4⟩
  · exact (hc 8 (by omega)).trans h.lft
/-- A number in a list of records. -/
theorem St.setRec (h : St w0 w n ws left) {g m : Nat} (hg : IntBlock w g 85 m) (hlow : w0.heap.size < g) (j : Nat) (x : Int) : St w0 (w.setCell ⟨g, j, none⟩ (.int .i64 x)) n ws left := by
  have hne := h.rec_ne hg
  have hB : (w.setCell ⟨g, j, none⟩ (.int .i64 x)).heap[w0.heap.size]? = w.heap[w0.heap.size]? := Below.heap_setCell _ _ _ _ (Ne.symm hne)
  have hc : ∀ i, (w.setCell ⟨g, j, none⟩ (.int .i64 x)).cell? ⟨w0.heap.size, i, none⟩ = w.cell? ⟨w0.heap.size, i, none⟩ := fun i => World.cell?_of_block (a := ⟨w0.heap.size, i, none⟩) hB
  have hrow : ∀ {e : TypeId} {s : Nat} {v' : Value} {k : Nat} {xs : List Value}, w.ownsRow (w0.heap.size + 1) e s v' k xs → e ≠ 85 → (w.setCell ⟨g, j, none⟩ (.int .i64 x)).ownsRow (w0.heap.size + 1) e s v' k xs := fun ho he =>
    owns_block ho fun q hq => Below.heap_setCell _ _ _ _ (fun e => rec_row hg ho he (by rw [hq, e]))
  refine ⟨h.low.setCell (p := ⟨g, j, none⟩) (Nat.le_of_lt hlow) _, by rw [hB]; exact h.blk, by rw [hc]; exact h.c0, by rw [hc]; exact h.c1, by rw [hc]; exact h.c2, ?_, ?_, h.wlen, by rw [hc]; exact h.desks, ?_, by rw [hc]; exact h.mark, by rw [hc]; exact h.lft, h.sum⟩
  · obtain ⟨u, k, xs, r1, r2, r3⟩ := h.draws
    exact ⟨u, k, xs, (hc 3).trans r1, hrow r2 (by decide), r3⟩
  · obtain ⟨u, r1, r2⟩ := h.words
    exact ⟨u, (hc 4).trans r1, hrow r2 (by decide)⟩
  · obtain ⟨u, k, xs, r1, r2, r3, r4⟩ := h.lists
    exact ⟨u, k, xs, (hc 6).trans r1, hrow r2 (by decide), r3.kept (fun g m q => q.set _ _ _), r4⟩

/-- The numbers that are drawn have grown. -/
theorem St.put_draws (h : St w0 w n ws left) {v : Value} {m : Nat} {xs : List Value} (ho : w.ownsRow (w0.heap.size + 1) 3 1 v m xs) {w1 : World} (hos : w1.os = w.os) (htp : w1.tape = w.tape) (hout : w1.output = w.output) (hsz : w.heap.size ≤ w1.heap.size)
    (hb : ∀ b, b < w.heap.size → some b ≠ v.ownBlock → w1.heap[b]? = w.heap[b]?) {v' : Value} {m' : Nat} {xs' : List Value} (ho' : w1.ownsRow (w0.heap.size + 1) 3 1 v' m' xs') (hx : ∀ u ∈ xs', ∃ x, u = .int .i64 x) (hm : m' ≤ n + 1) : St w0 (w1.setCell ⟨w0.heap.size, 3, none⟩ v') (n + 1) ws left := by
  have hvb : ∀ q, v.ownBlock = some q → w0.heap.size + 1 ≤ q := fun q hq => (ho.lt q hq).1
  have hlt := h.lt
  have hB : w1.heap[w0.heap.size]? = w.heap[w0.heap.size]? := hb _ h.lt (fun e => by have := hvb _ e.symm; omega)
  have hc : ∀ i, 3 ≠ i → (w1.setCell ⟨w0.heap.size, 3, none⟩ v').cell? ⟨w0.heap.size, i, none⟩ = w.cell? ⟨w0.heap.size, i, none⟩ := fun i hi => (cell_setCell_off _ _ _ _ _ hi).trans (World.cell?_of_block (a := ⟨w0.heap.size, i, none⟩) hB)
  have hrow : ∀ {e : TypeId} {s : Nat} {u : Value} {k : Nat} {ys : List Value}, w.ownsRow (w0.heap.size + 1) e s u k ys → e ≠ 3 → (w1.setCell ⟨w0.heap.size, 3, none⟩ v').ownsRow (w0.heap.size + 1) e s u k ys := fun r he =>
    ownsRow_setCell_below (owns_block r fun q hq => hb q (r.lt q hq).2 (fun e => owns_apart r ho he q hq e.symm)) (a := ⟨w0.heap.size, 3, none⟩) (Nat.lt_succ_self _) _
  have hlow : Below w0.heap.size w0 w1 := h.low.trans ⟨hos, htp, hout, hsz, fun k hk => hb k (by omega) (fun e => by have := hvb _ e.symm; omega)⟩
  have hrk : RecsKept w (w1.setCell ⟨w0.heap.size, 3, none⟩ v') := fun g k q => (q.of_block (hb g q.lt (fun e => rec_row q ho (by decide) e.symm))).of_block (Below.heap_setCell _ _ _ _ (h.rec_ne q))
  refine ⟨hlow.setCell (p := ⟨w0.heap.size, 3, none⟩) (Nat.le_refl _) _, ?_, by rw [hc _ (by decide)]; exact h.c0, by rw [hc _ (by decide)]; exact h.c1, by rw [hc _ (by decide)]; exact h.c2, ?_, ?_, Nat.le_succ_of_le h.wlen, by rw [hc _ (by decide)]; exact h.desks, ?_, by rw [hc _ (by decide)]; exact h.mark, by rw [hc _ (by decide)]; exact h.lft, h.sum⟩
  · obtain ⟨cur, b1⟩ := h.blk
    exact ⟨_, heap_setCell_at _ _ _ _ _ _ _ (hB.trans b1)⟩
  · obtain ⟨u, k, ys, r1, r2, r3⟩ := h.draws
    refine ⟨v', m', xs', World.cell?_setCell_same (u := u) _ _ _ ?_, ownsRow_setCell_below ho' (a := ⟨w0.heap.size, 3, none⟩) (Nat.lt_succ_self _) _, hx, hm⟩
    exact (World.cell?_of_block (a := ⟨w0.heap.size, 3, none⟩) hB).trans r1
  · obtain ⟨u, r1, r2⟩ := h.words
    exact ⟨u, (hc 4 (by decide)).trans r1, hrow r2 (by decide)⟩
  · obtain ⟨u, k, ys, r1, r2, r3, r4⟩ := h.lists
    exact ⟨u, k, ys, (hc 6 (by decide)).trans r1, hrow r2 (by decide), r3.kept hrk, by omega⟩
/-- The lists that were handed out have grown. -/
theorem St.put_lists (h : St w0 w n ws left) {v : Value} {m : Nat} {xs : List Value} (ho : w.ownsRow (w0.heap.size + 1) 51 4 v m xs) {w1 : World} (hos : w1.os = w.os) (htp : w1.tape = w.tape) (hout : w1.output = w.output) (hsz : w.heap.size ≤ w1.heap.size)
    (hb : ∀ b, b < w.heap.size → some b ≠ v.ownBlock → w1.heap[b]? = w.heap[b]?) {v' : Value} {m' : Nat} {xs' : List Value} (ho' : w1.ownsRow (w0.heap.size + 1) 51 4 v' m' xs') (hx : ListsOk w0.heap.size w1 xs' m') (hm : m' ≤ n + 1) : St w0 (w1.setCell ⟨w0.heap.size, 6, none⟩ v') (n + 1) ws left := by
  have hvb : ∀ q, v.ownBlock = some q → w0.heap.size + 1 ≤ q := fun q hq => (ho.lt q hq).1
  have hlt := h.lt
  have hB : w1.heap[w0.heap.size]? = w.heap[w0.heap.size]? := hb _ h.lt (fun e => by have := hvb _ e.symm; omega)
  have hc : ∀ i, 6 ≠ i → (w1.setCell ⟨w0.heap.size, 6, none⟩ v').cell? ⟨w0.heap.size, i, none⟩ = w.cell? ⟨w0.heap.size, i, none⟩ := fun i hi => (cell_setCell_off _ _ _ _ _ hi).trans (World.cell?_of_block (a := ⟨w0.heap.size, i, none⟩) hB)
  have hrow : ∀ {e : TypeId} {s : Nat} {u : Value} {k : Nat} {ys : List Value}, w.ownsRow (w0.heap.size + 1) e s u k ys → e ≠ 51 → (w1.setCell ⟨w0.heap.size, 6, none⟩ v').ownsRow (w0.heap.size + 1) e s u k ys := fun r he =>
    ownsRow_setCell_below (owns_block r fun q hq => hb q (r.lt q hq).2 (fun e => owns_apart r ho he q hq e.symm)) (a := ⟨w0.heap.size, 6, none⟩) (Nat.lt_succ_self _) _
  have hlow : Below w0.heap.size w0 w1 := h.low.trans ⟨hos, htp, hout, hsz, fun k hk => hb k (by omega) (fun e => by have := hvb _ e.symm; omega)⟩
  have hrk : RecsKept w1 (w1.setCell ⟨w0.heap.size, 6, none⟩ v') := fun g k q => q.of_block (Below.heap_setCell _ _ _ _ (fun e => by
    obtain ⟨cur, b1⟩ := h.blk
    obtain ⟨cur', b2, _⟩ := q
    subst e
    exact absurd (block_type (hB.trans b1) b2) (by decide)))
  refine ⟨hlow.setCell (p := ⟨w0.heap.size, 6, none⟩) (Nat.le_refl _) _, ?_, by rw [hc _ (by decide)]; exact h.c0, by rw [hc _ (by decide)]; exact h.c1, by rw [hc _ (by decide)]; exact h.c2, ?_, ?_, Nat.le_succ_of_le h.wlen, by rw [hc _ (by decide)]; exact h.desks, ?_, by rw [hc _ (by decide)]; exact h.mark, by rw [hc _ (by decide)]; exact h.lft, h.sum⟩
  · obtain ⟨cur, b1⟩ := h.blk
    exact ⟨_, heap_setCell_at _ _ _ _ _ _ _ (hB.trans b1)⟩
  · obtain ⟨u, k, ys, r1, r2, r3, r4⟩ := h.draws
    exact ⟨u, k, ys, (hc 3 (by decide)).trans r1, hrow r2 (by decide), r3, by omega⟩
  · obtain ⟨u, r1, r2⟩ := h.words
    exact ⟨u, (hc 4 (by decide)).trans r1, hrow r2 (by decide)⟩
  · obtain ⟨u, k, ys, r1, r2, r3, r4⟩ := h.lists
    refine ⟨v', m', xs', World.cell?_setCell_same (u := u) _ _ _ ?_, ownsRow_setCell_below ho' (a := ⟨w0.heap.size, 6, none⟩) (Nat.lt_succ_self _) _, hx.kept hrk, hm⟩
    exact (World.cell?_of_block (a := ⟨w0.heap.size, 6, none⟩) hB).trans r1
end
end Go.Proofs.YtcajmohgjojhhaaGreatDoor
