import Derived.Test.YtcajmohgjojhhaaGreatDoorMC
import Derived.Laws.DeepStrings4
import Derived.Deep.RegionHeld
import Derived.WalkMore
import Derived.ScopeJumps
import Derived.Test.YtcajmohgjojhhaaGreatDoorFrame4
set_option linter.unusedVariables false
set_option linter.unusedSimpArgs false
namespace Go.Proofs.YtcajmohgjojhhaaGreatDoor
open Go.RowKit Go.Extern

/-! P4, plainly -/
def bAt (s : ByteArray) (i : Nat) : Nat := (s.data.toList.getD i 0).toNat
theorem bAt_lt (s : ByteArray) (i : Nat) : bAt s i < 256 := UInt8.toNat_lt _
def upd (v : Nat → Int) (i : Nat) (x : Int) : Nat → Int := fun j => if j = i then x else v j
def rd (t : List UInt8) (at_ : Nat) (p : Nat × Nat) : Int := if p.1 = 6 ∧ 2147483648 ≤ val ((t.drop at_).take p.2) then val ((t.drop at_).take p.2) - 4294967296 else val ((t.drop at_).take p.2)
def reads (t : List UInt8) : Nat → List (Nat × Nat) → (Nat → Int) → (Nat → Int)
  | _, [], v => v
  | a, p :: l, v => reads t (a + p.2) l (upd v p.1 (rd t a p))
def wsum (l : List (Nat × Nat)) : Nat := (l.map (·.2)).sum
theorem wsum_fsum (l : List (Nat × Nat)) : (wsum l : Int) = fsum l := by
  induction l with
  | nil => rfl
  | cons a l ih => simp only [wsum, fsum, List.map_cons, List.sum_cons] at ih ⊢; omega
theorem wsum_snoc (l : List (Nat × Nat)) (p : Nat × Nat) : wsum (l ++ [p]) = wsum l + p.2 := by simp [wsum]
theorem reads_snoc (t : List UInt8) (l : List (Nat × Nat)) (p : Nat × Nat) : ∀ (a : Nat) (v : Nat → Int), reads t a (l ++ [p]) v = upd (reads t a l v) p.1 (rd t (a + wsum l) p) := by
  induction l with
  | nil => intro a v; rfl
  | cons q l ih =>
    intro a v
    rw [List.cons_append, reads, ih, reads]
    simp only [wsum, List.map_cons, List.sum_cons, Nat.add_assoc]
theorem wsum_append (l m : List (Nat × Nat)) : wsum (l ++ m) = wsum l + wsum m := by simp [wsum]
theorem wsum_take_le (l : List (Nat × Nat)) (k : Nat) : wsum (l.take k) ≤ wsum l := by
  have h2 := wsum_append (l.take k) (l.drop k)
  rw [List.take_append_drop] at h2
  omega
def okDec (s : ByteArray) : Bool := decide (1 ≤ bAt s 1) && decide (bAt s 1 ≤ 5) && decide (2 + wsum (terms (bAt s 1)) = bAt s 0 + 1)
theorem okDec_iff (s : ByteArray) : okDec s = true ↔ 1 ≤ bAt s 1 ∧ bAt s 1 ≤ 5 ∧ 2 + wsum (terms (bAt s 1)) = bAt s 0 + 1 := by simp [okDec, and_assoc]
def nextE (s : ByteArray) : Int := if s.size = 0 then 4 else if bAt s 0 = 0 then 5 else if s.size < bAt s 0 + 1 then 4 else if okDec s = true then 0 else 5
def nextM (s : ByteArray) : Int := if s.size = 0 then 0 else if bAt s 0 = 0 then 1 else if s.size < bAt s 0 + 1 then 0 else (bAt s 0 : Int) + 1
def nextK (s : ByteArray) : Int := if nextE s = 0 then bAt s 1 else 0
def nextV (s : ByteArray) : Nat → Int := if nextE s = 0 then reads s.data.toList 2 (terms (bAt s 1)) (fun _ => 0) else fun _ => 0
theorem getElem_bAt (s : ByteArray) (i : Nat) (h : i < s.size) : s[i].toNat = bAt s i := by
  unfold bAt
  have : i < s.data.toList.length := by simpa using h
  rw [List.getD_eq_getElem?_getD, List.getElem?_eq_getElem this]
  rfl

/-- A piece of a text. -/
theorem cut_str (s : ByteArray) (A n : Nat) (w : World) (h : A + n ≤ s.size) :
    (Instr.slice 9 (.string s) (some (.int .i64 (A : Int))) (some (.int .i64 ((A : Int) + (n : Int)))) none).run Tryz.prog w = .ok (.string (s.extract A (A + n))) w := by
  rw [run_slice_string_if w 9 s .i64 .i64 (A : Int) ((A : Int) + (n : Int)) Tryz.underlying9, if_pos (by omega), if_pos (by omega)]
  rw [show ((A : Int) + (n : Int)).toNat = A + n by omega, Int.toNat_natCast]
theorem cut_data (s : ByteArray) (A n : Nat) (h : A + n ≤ s.size) : (s.extract A (A + n)).data.toList = (s.data.toList.drop A).take n := by
  rw [ByteArray.data_extract, Array.toList_extract, List.extract_eq_take_drop]
  rw [show A + n - A = n by omega]
theorem cut_size (s : ByteArray) (A n : Nat) (h : A + n ≤ s.size) : (s.extract A (A + n)).size = n := by
  rw [ByteArray.size_extract]; omega
theorem grown_set {w w' : World} {C o : Nat} (h : w.grownBy w' (some C)) (v : Value) : w.grownBy (w'.setCell ⟨C, o, none⟩ v) (some C) :=
  ⟨h.os, h.tape, h.output, by simpa [World.setCell] using h.size, fun k hk hne => (Below.heap_setCell _ _ _ k (by intro e; exact hne (by rw [e]))).trans (h.block k hk hne)⟩
theorem grown_below {w w' : World} {C B : Nat} (h : w.grownBy w' (some C)) (hB : B ≤ C) (hs : B ≤ w.heap.size) : Below B w w' := ⟨h.os, h.tape, h.output, h.size, fun k hk => h.block k (by omega) (by intro e; injection e with e; omega)⟩
theorem keep10 {w w' : World} {B : Nat} (h : Below B w w') (x0 x1 x2 x3 x4 x5 x6 x7 x8 x9 : Value) : Below B w ((((((((((w'.setCell ⟨B, 0, none⟩ x0).setCell ⟨B, 1, none⟩ x1).setCell ⟨B, 2, none⟩ x2).setCell ⟨B, 3, none⟩ x3).setCell ⟨B, 4, none⟩ x4).setCell ⟨B, 5, none⟩ x5).setCell ⟨B, 6, none⟩ x6).setCell ⟨B, 7, none⟩ x7).setCell ⟨B, 8, none⟩ x8).setCell ⟨B, 9, none⟩ x9) :=
  (((((((((h.setCell (Nat.le_refl B) x0).setCell (Nat.le_refl B) x1).setCell (Nat.le_refl B) x2).setCell (Nat.le_refl B) x3).setCell (Nat.le_refl B) x4).setCell (Nat.le_refl B) x5).setCell (Nat.le_refl B) x6).setCell (Nat.le_refl B) x7).setCell (Nat.le_refl B) x8).setCell (Nat.le_refl B) x9
theorem rd_plain (t : List UInt8) (A pa pb : Nat) (h : ¬ (pa = 6 ∧ 2147483648 ≤ val ((t.drop A).take pb))) : rd t A (pa, pb) = val ((t.drop A).take pb) := by unfold rd; rw [if_neg h]
theorem rd_neg (t : List UInt8) (A pb : Nat) (h : 2147483648 ≤ val ((t.drop A).take pb)) : rd t A (6, pb) = val ((t.drop A).take pb) - 4294967296 := by unfold rd; rw [if_pos ⟨rfl, h⟩]

set_option maxRecDepth 100000 in
set_option maxHeartbeats 1000000 in
theorem next_short0 (s : ByteArray) (w : World) (h : s.size = 0) :
    Calls Tryz.prog 22 #[.string s] w fun e w' => e = .returned (.tuple #[cmdV 0 (fun _ => 0), .int .i64 0, .int .i64 4]) ∧ Below w.heap.size w w' := by
  obtain rfl : s = ⟨#[]⟩ := by
    apply ByteArray.ext
    exact Array.eq_empty_of_size_eq_zero h
  go_enter Tryz.func22, Tryz.ntmps22
  go_wp2
  refine bodyPost_ret (v := .tuple #[cmdV 0 (fun _ => 0), .int .i64 0, .int .i64 4]) (by simp [results, Tryz.results22, go_sem]) rfl ⟨rfl, ?_⟩
  repeat (first | exact Below.refl _ _ | refine Below.setCell ?_ (by simp <;> omega) _ | refine Below.drew ?_ | refine below_alloc ?_ _)

theorem not_empty (s : ByteArray) (h : 0 < s.size) : s.toList.isEmpty = false := by
  rw [ByteArray.toList_eq]
  cases e : s.data.toList with
  | nil => exact absurd (by rw [ByteArray.size, ← Array.length_toList, e]; rfl) (Nat.ne_of_gt h)
  | cons a l => rfl

set_option maxRecDepth 100000 in
set_option maxHeartbeats 1000000 in
theorem next_zero (s : ByteArray) (w : World) (h : 0 < s.size) (h0 : bAt s 0 = 0) :
    Calls Tryz.prog 22 #[.string s] w fun e w' => e = .returned (.tuple #[cmdV 0 (fun _ => 0), .int .i64 1, .int .i64 5]) ∧ Below w.heap.size w w' := by
  have hne := not_empty s h
  have hb := getElem_bAt s 0 h
  rw [h0] at hb
  go_enter Tryz.func22, Tryz.ntmps22
  go_wp2
  refine bodyPost_ret (v := .tuple #[cmdV 0 (fun _ => 0), .int .i64 1, .int .i64 5]) (by simp [results, Tryz.results22, go_sem]) rfl ⟨rfl, ?_⟩
  repeat (first | exact Below.refl _ _ | refine Below.setCell ?_ (by simp <;> omega) _ | refine Below.drew ?_ | refine below_alloc ?_ _)

set_option maxRecDepth 100000 in
set_option maxHeartbeats 1000000 in
theorem next_short (s : ByteArray) (w : World) (h : 0 < s.size) (h0 : bAt s 0 ≠ 0) (h1 : s.size < bAt s 0 + 1) :
    Calls Tryz.prog 22 #[.string s] w fun e w' => e = .returned (.tuple #[cmdV 0 (fun _ => 0), .int .i64 0, .int .i64 4]) ∧ Below w.heap.size w w' := by
  have hne := not_empty s h
  have hb := getElem_bAt s 0 h
  have hlt := bAt_lt s 0
  generalize bAt s 0 = n at *
  have hwn : wrap64 ((n : Nat) : Int) = n := by unfold wrap64; omega
  have hz : ((n : Int) == 0) = false := beq_eq_false_iff_ne.2 (by omega)
  go_enter Tryz.func22, Tryz.ntmps22
  go_wp2
  refine bodyPost_ret (v := .tuple #[cmdV 0 (fun _ => 0), .int .i64 0, .int .i64 4]) (by simp [results, Tryz.results22, go_sem]) rfl ⟨rfl, ?_⟩
  repeat (first | exact Below.refl _ _ | refine Below.setCell ?_ (by simp <;> omega) _ | refine Below.drew ?_ | refine below_alloc ?_ _)

/-- What the next frame is, where it is whole. -/
theorem next_bad (s : ByteArray) (h : 0 < s.size) (h0 : bAt s 0 ≠ 0) (h1 : bAt s 0 + 1 ≤ s.size) (hb : ¬ (1 ≤ bAt s 1 ∧ bAt s 1 ≤ 5 ∧ 2 + wsum (terms (bAt s 1)) = bAt s 0 + 1)) :
    nextK s = 0 ∧ nextV s = (fun _ => 0) ∧ nextM s = (bAt s 0 : Int) + 1 ∧ nextE s = 5 := by
  have hf : ¬ okDec s = true := fun e => hb ((okDec_iff s).1 e)
  have e : nextE s = 5 := by
    unfold nextE
    rw [if_neg (by omega), if_neg h0, if_neg (by omega), if_neg hf]
  refine ⟨by unfold nextK; rw [e]; rfl, by unfold nextV; rw [e]; rfl, ?_, e⟩
  unfold nextM
  rw [if_neg (by omega), if_neg h0, if_neg (by omega)]
theorem next_good (s : ByteArray) (h : 0 < s.size) (h0 : bAt s 0 ≠ 0) (h1 : bAt s 0 + 1 ≤ s.size) (hb : 1 ≤ bAt s 1 ∧ bAt s 1 ≤ 5 ∧ 2 + wsum (terms (bAt s 1)) = bAt s 0 + 1) :
    nextK s = bAt s 1 ∧ nextV s = reads s.data.toList 2 (terms (bAt s 1)) (fun _ => 0) ∧ nextM s = (bAt s 0 : Int) + 1 ∧ nextE s = 0 := by
  have e : nextE s = 0 := by
    unfold nextE
    rw [if_neg (by omega), if_neg h0, if_neg (by omega), if_pos ((okDec_iff s).2 hb)]
  refine ⟨by unfold nextK; rw [e]; rfl, by unfold nextV; rw [e]; rfl, ?_, e⟩
  unfold nextM
  rw [if_neg (by omega), if_neg h0, if_neg (by omega)]

set_option maxRecDepth 100000 in
set_option maxHeartbeats 1000000 in
theorem next_main (s : ByteArray) (w : World) (h : 0 < s.size) (h0 : bAt s 0 ≠ 0) (h1 : bAt s 0 + 1 ≤ s.size) (hm : s.size ≤ 1000000000) :
    Calls Tryz.prog 22 #[.string s] w fun e w' => e = .returned (.tuple #[cmdV (nextK s) (nextV s), .int .i64 (nextM s), .int .i64 (nextE s)]) ∧ Below w.heap.size w w' := by
  have hne := not_empty s h
  have hb := getElem_bAt s 0 h
  have hs1 : 1 < s.size := by omega
  have hb1 := getElem_bAt s 1 hs1
  have hlt := bAt_lt s 0
  have hlt1 := bAt_lt s 1
  have HBAD : Hid (¬ (1 ≤ bAt s 1 ∧ bAt s 1 ≤ 5 ∧ 2 + wsum (terms (bAt s 1)) = bAt s 0 + 1) → nextK s = 0 ∧ nextV s = (fun _ => 0) ∧ nextM s = (bAt s 0 : Int) + 1 ∧ nextE s = 5) := next_bad s h h0 h1
  have HGOOD : Hid (1 ≤ bAt s 1 ∧ bAt s 1 ≤ 5 ∧ 2 + wsum (terms (bAt s 1)) = bAt s 0 + 1 → nextK s = bAt s 1 ∧ nextV s = reads s.data.toList 2 (terms (bAt s 1)) (fun _ => 0) ∧ nextM s = (bAt s 0 : Int) + 1 ∧ nextE s = 0) := next_good s h h0 h1
  generalize bAt s 0 = n at *
  generalize bAt s 1 = kd at *
  have hwn : wrap64 ((n : Nat) : Int) = n := by unfold wrap64; omega
  have hwk : wrap64 ((kd : Nat) : Int) = kd := by unfold wrap64; omega
  have hz : ((n : Int) == 0) = false := beq_eq_false_iff_ne.2 (by omega)
  go_enter Tryz.func22, Tryz.ntmps22
  go_wp2_with fail
  refine (layout_any' (kd : Int) _).mono ?_
  rintro e w2 ⟨a, b, rfl, hia, hib, hb2, hfa, hfb⟩
  have hs2 : w.heap.size + 1 < w2.heap.size := by have := hb2.size; simp at this; omega
  have HB2 : Hid (Below w.heap.size w w2) := (((Below.refl _ _).alloc (Nat.le_refl _) _).alloc (by simp) _).trans (hb2.mono (by simp; omega))
  have hk0 : w2.cell? ⟨w.heap.size + 1, 0, none⟩ = some (.int .i64 (kd : Int)) := (hb2.cell (p := ⟨w.heap.size + 1, 0, none⟩) (by simp)).trans (by simp)
  have HC0 : Hid (∀ j, j < 9 → w2.cell? ⟨w.heap.size + 1, 1 + j, none⟩ = some (.int .i64 0)) := fun j hj => (hb2.cell (p := ⟨w.heap.size + 1, 1 + j, none⟩) (by simp)).trans (by
    have h : j = 0 ∨ j = 1 ∨ j = 2 ∨ j = 3 ∨ j = 4 ∨ j = 5 ∨ j = 6 ∨ j = 7 ∨ j = 8 := by omega
    rcases h with rfl | rfl | rfl | rfl | rfl | rfl | rfl | rfl | rfl <;> simp)
  have HF0 : Hid (∀ j, w2.frozen? ⟨w.heap.size + 1, j, none⟩ = false) := fun j => (hb2.frozen (p := ⟨w.heap.size + 1, j, none⟩) (by simp)).trans (by simp)
  have HR0 : Hid (∀ j, j < 10 → w2.cell? ⟨w.heap.size, j, none⟩ = some (.int .i64 0)) := fun j hj => (hb2.cell (p := ⟨w.heap.size, j, none⟩) (by simp; omega)).trans (by
    have h : j = 0 ∨ j = 1 ∨ j = 2 ∨ j = 3 ∨ j = 4 ∨ j = 5 ∨ j = 6 ∨ j = 7 ∨ j = 8 ∨ j = 9 := by omega
    rcases h with rfl | rfl | rfl | rfl | rfl | rfl | rfl | rfl | rfl | rfl <;> simp)
  have HG0 : Hid (∀ j, w2.frozen? ⟨w.heap.size, j, none⟩ = false) := fun j => (hb2.frozen (p := ⟨w.heap.size, j, none⟩) (by simp; omega)).trans (by simp)
  clear hb2
  have hlen : (whichs (kd : Int)).length = (terms (kd : Int)).length := by simp [whichs]
  have hlen' : (widths (kd : Int)).length = (terms (kd : Int)).length := by simp [widths]
  have hn9 := terms_len (kd : Int)
  rcases hia with ⟨rfl, hnil⟩ | ⟨ba, rfl, hne', hca⟩
  · have ht : terms (kd : Int) = [] := by simpa [whichs] using hnil
    have hkd : kd < 1 ∨ 5 ≤ kd := by
      rcases Nat.lt_or_ge kd 1 with q | q
      · exact .inl q
      · rcases Nat.lt_or_ge kd 5 with q2 | q2
        · exfalso
          have h4 : kd = 1 ∨ kd = 2 ∨ kd = 3 ∨ kd = 4 := by omega
          rcases h4 with rfl | rfl | rfl | rfl <;> exact absurd ht (by decide)
        · exact .inr q2
    have hgr : w2.grownBy w2 (some (w.heap.size + 1)) := ⟨rfl, rfl, rfl, Nat.le_refl _, fun _ _ _ => rfl⟩
    have hw0 : wsum (terms (kd : Int)) = 0 := by rw [ht]; rfl
    have HV0 : Hid (reads s.data.toList 2 (terms (kd : Int)) (fun _ => 0) = fun _ => 0) := by show _ = _; rw [ht]; rfl
    have hr0 := hgr.cell (HR0.out 0 (by omega)) (by simp)
    have hg0 := (World.frozen?_of_block (a := ⟨w.heap.size, 0, none⟩) (hgr.block w.heap.size (by omega) (by simp))).trans (HG0.out 0)
    have hr1 := hgr.cell (HR0.out 1 (by omega)) (by simp)
    have hg1 := (World.frozen?_of_block (a := ⟨w.heap.size, 1, none⟩) (hgr.block w.heap.size (by omega) (by simp))).trans (HG0.out 1)
    have hr2 := hgr.cell (HR0.out 2 (by omega)) (by simp)
    have hg2 := (World.frozen?_of_block (a := ⟨w.heap.size, 2, none⟩) (hgr.block w.heap.size (by omega) (by simp))).trans (HG0.out 2)
    have hr3 := hgr.cell (HR0.out 3 (by omega)) (by simp)
    have hg3 := (World.frozen?_of_block (a := ⟨w.heap.size, 3, none⟩) (hgr.block w.heap.size (by omega) (by simp))).trans (HG0.out 3)
    have hr4 := hgr.cell (HR0.out 4 (by omega)) (by simp)
    have hg4 := (World.frozen?_of_block (a := ⟨w.heap.size, 4, none⟩) (hgr.block w.heap.size (by omega) (by simp))).trans (HG0.out 4)
    have hr5 := hgr.cell (HR0.out 5 (by omega)) (by simp)
    have hg5 := (World.frozen?_of_block (a := ⟨w.heap.size, 5, none⟩) (hgr.block w.heap.size (by omega) (by simp))).trans (HG0.out 5)
    have hr6 := hgr.cell (HR0.out 6 (by omega)) (by simp)
    have hg6 := (World.frozen?_of_block (a := ⟨w.heap.size, 6, none⟩) (hgr.block w.heap.size (by omega) (by simp))).trans (HG0.out 6)
    have hr7 := hgr.cell (HR0.out 7 (by omega)) (by simp)
    have hg7 := (World.frozen?_of_block (a := ⟨w.heap.size, 7, none⟩) (hgr.block w.heap.size (by omega) (by simp))).trans (HG0.out 7)
    have hr8 := hgr.cell (HR0.out 8 (by omega)) (by simp)
    have hg8 := (World.frozen?_of_block (a := ⟨w.heap.size, 8, none⟩) (hgr.block w.heap.size (by omega) (by simp))).trans (HG0.out 8)
    have hr9 := hgr.cell (HR0.out 9 (by omega)) (by simp)
    have hg9 := (World.frozen?_of_block (a := ⟨w.heap.size, 9, none⟩) (hgr.block w.heap.size (by omega) (by simp))).trans (HG0.out 9)
    have hv0 := HC0.out 0 (by omega)
    have hv1 := HC0.out 1 (by omega)
    have hv2 := HC0.out 2 (by omega)
    have hv3 := HC0.out 3 (by omega)
    have hv4 := HC0.out 4 (by omega)
    have hv5 := HC0.out 5 (by omega)
    have hv6 := HC0.out 6 (by omega)
    have hv7 := HC0.out 7 (by omega)
    have hv8 := HC0.out 8 (by omega)
    clear hlen hlen' hn9 ht hnil hfa hfb
    by_cases hn1 : n = 1
    · subst hn1
      by_cases hk5 : kd = 5
      · subst hk5
        have HO : Hid (nextK s = ((5 : Nat) : Int) ∧ nextV s = (fun _ => 0) ∧ nextM s = ((1 : Nat) : Int) + 1 ∧ nextE s = 0) := by
          have := HGOOD.out ⟨by omega, by omega, by rw [hw0]⟩
          exact ⟨this.1, this.2.1.trans HV0.out, this.2.2⟩
        clear hw0 HGOOD HBAD hkd
        go_wp2_with fail
        refine wp_loop_rounds 1 ?_
        rw [rounds_succ]
        go_wp2
        refine bodyPost_ret (v := .tuple #[cmdV 5 (fun _ => 0), .int .i64 2, .int .i64 0]) (by simp [results, Tryz.results22, go_sem, hr0, hr1, hr2, hr3, hr4, hr5, hr6, hr7, hr8, hr9]) rfl ⟨by rw [HO.out.1, HO.out.2.1, HO.out.2.2.1, HO.out.2.2.2]; rfl, ?_⟩
        refine HB2.out.trans ?_
        exact keep10 (grown_below hgr (by omega) (by omega)) _ _ _ _ _ _ _ _ _ _
      · have HO : Hid (nextK s = 0 ∧ nextV s = (fun _ => 0) ∧ nextM s = ((1 : Nat) : Int) + 1 ∧ nextE s = 5) := HBAD.out (by omega)
        have hkI : (kd : Int) < 1 ∨ 5 < (kd : Int) := by omega
        clear hw0 HGOOD HBAD hkd hk5
        rcases hkI with hkI | hkI
        all_goals
          go_wp2_with fail
          refine wp_loop_rounds 1 ?_
          rw [rounds_succ]
          go_wp2
          refine bodyPost_ret (v := .tuple #[cmdV 0 (fun _ => 0), .int .i64 2, .int .i64 5]) (by simp [results, Tryz.results22, go_sem, hr0, hr1, hr2, hr3, hr4, hr5, hr6, hr7, hr8, hr9]) rfl ⟨by rw [HO.out.1, HO.out.2.1, HO.out.2.2.1, HO.out.2.2.2]; rfl, ?_⟩
          refine HB2.out.trans ?_
          exact keep10 (grown_below hgr (by omega) (by omega)) _ _ _ _ _ _ _ _ _ _
    · have HO : Hid (nextK s = 0 ∧ nextV s = (fun _ => 0) ∧ nextM s = (n : Int) + 1 ∧ nextE s = 5) := HBAD.out (by omega)
      have hq : ((2 : Int) != (n : Int) + 1) = true := by rw [bne_iff_ne]; omega
      clear hw0 HGOOD HBAD hkd
      go_wp2_with fail
      refine wp_loop_rounds 1 ?_
      rw [rounds_succ]
      go_wp2
      refine bodyPost_ret (v := .tuple #[cmdV 0 (fun _ => 0), .int .i64 ((n : Int) + 1), .int .i64 5]) (by simp [results, Tryz.results22, go_sem, hr0, hr1, hr2, hr3, hr4, hr5, hr6, hr7, hr8, hr9]) rfl ⟨by rw [HO.out.1, HO.out.2.1, HO.out.2.2.1, HO.out.2.2.2], ?_⟩
      refine HB2.out.trans ?_
      exact keep10 (grown_below hgr (by omega) (by omega)) _ _ _ _ _ _ _ _ _ _
  · rcases hib with ⟨rfl, hnil⟩ | ⟨bb, rfl, -, hcb⟩
    · exact absurd (by have : terms (kd : Int) = [] := by simpa [widths] using hnil
                       simp [whichs, this]) hne'
    rw [hlen, hlen']
    have HA : Hid (∀ i (h : i < (whichs (kd : Int)).length), w2.cell? ⟨ba, i, none⟩ = some (.int .i64 (whichs (kd : Int))[i])) := hca
    have HBB : Hid (∀ i (h : i < (widths (kd : Int)).length), w2.cell? ⟨bb, i, none⟩ = some (.int .i64 (widths (kd : Int))[i])) := hcb
    have HL : Hid ((whichs (kd : Int)).length = (terms (kd : Int)).length) := hlen
    have HL' : Hid ((widths (kd : Int)).length = (terms (kd : Int)).length) := hlen'
    clear hca hcb hlen hlen'
    generalize hN : (terms (kd : Int)).length = L at *
    have HN : Hid ((terms (kd : Int)).length = L) := hN
    have HK0 : Hid (0 < L) := by
      show 0 < L
      rcases Nat.eq_zero_or_pos L with h0' | h0'
      · exact absurd (by rw [← List.length_eq_zero_iff, HL.out, h0']) hne'
      · exact h0'
    clear hN hne'
    have hbaC : ba ≠ w.heap.size + 1 := by have := hfa ba 0 _ _ rfl; simp at this; omega
    have hbbC : bb ≠ w.heap.size + 1 := by have := hfb bb 0 _ _ rfl; simp at this; omega
    clear hfa hfb
    go_wp2_with fail
    go_loopw [9, 10] (fun at_ i wr => ∃ k : Nat, k ≤ L ∧ i = .int .i64 k ∧ at_ = .int .i64 ((2 + wsum ((terms (kd : Int)).take k) : Nat) : Int) ∧ 2 + wsum ((terms (kd : Int)).take k) ≤ n + 1 ∧ w2.grownBy wr (some (w.heap.size + 1)) ∧
      wr.cell? ⟨w.heap.size + 1, 0, none⟩ = some (.int .i64 (kd : Int)) ∧ (∀ j, j < 9 → wr.cell? ⟨w.heap.size + 1, 1 + j, none⟩ = some (.int .i64 (reads s.data.toList 2 ((terms (kd : Int)).take k) (fun _ => 0) j))) ∧ (∀ j, wr.frozen? ⟨w.heap.size + 1, j, none⟩ = false)) (fun _ i _ => L - (intOf i).toNat)
    case atStart => exact ⟨0, Nat.zero_le _, rfl, rfl, by simp [wsum]; omega, ⟨rfl, rfl, rfl, Nat.le_refl _, fun _ _ _ => rfl⟩, hk0, HC0.out, HF0.out⟩
    case round =>
      obtain ⟨k, hkL, rfl, rfl, hat, hgr, hck, hcv, hfz⟩ := hrel
      have HCV : Hid (∀ j, j < 9 → wr.cell? ⟨w.heap.size + 1, 1 + j, none⟩ = some (.int .i64 (reads s.data.toList 2 ((terms (kd : Int)).take k) (fun _ => 0) j))) := hcv
      have HFZ : Hid (∀ j, wr.frozen? ⟨w.heap.size + 1, j, none⟩ = false) := hfz
      clear hcv hfz
      by_cases hlt : k < L
      · have hkt : k < (terms (kd : Int)).length := by rw [HN.out]; exact hlt
        have hok := terms_ok (kd : Int) _ (List.getElem_mem hkt)
        have hws : wsum ((terms (kd : Int)).take (k + 1)) = wsum ((terms (kd : Int)).take k) + (terms (kd : Int))[k].2 := by
          rw [List.take_succ_eq_append_getElem hkt, wsum_snoc]
        have hrd : reads s.data.toList 2 ((terms (kd : Int)).take (k + 1)) (fun _ => 0) = upd (reads s.data.toList 2 ((terms (kd : Int)).take k) (fun _ => 0)) (terms (kd : Int))[k].1 (rd s.data.toList (2 + wsum ((terms (kd : Int)).take k)) (terms (kd : Int))[k]) := by
          rw [List.take_succ_eq_append_getElem hkt, reads_snoc]
        have hca := hgr.cell (HA.out k (by rw [HL.out]; exact hlt)) (by simpa using hbaC)
        have hcb := hgr.cell (HBB.out k (by rw [HL'.out]; exact hlt)) (by simpa using hbbC)
        have htl := wsum_take_le (terms (kd : Int)) (k + 1)
        simp only [whichs, widths, List.getElem_map] at hca hcb
        generalize hp : (terms (kd : Int))[k] = p at *
        obtain ⟨pa, pb⟩ := p
        obtain ⟨hp1, hp2, hp3⟩ := hok
        simp only at hp1 hp2 hp3 hca hcb hws hrd
        have hcx := HCV.out pa hp1
        have hfx := HFZ.out (1 + pa)
        have HRD : Hid (reads s.data.toList 2 ((terms (kd : Int)).take (k + 1)) (fun _ => 0) = upd (reads s.data.toList 2 ((terms (kd : Int)).take k) (fun _ => 0)) pa (rd s.data.toList (2 + wsum ((terms (kd : Int)).take k)) (pa, pb))) := hrd
        have HWS : Hid (wsum ((terms (kd : Int)).take (k + 1)) = wsum ((terms (kd : Int)).take k) + pb) := hws
        clear hrd hws hp
        generalize hat' : 2 + wsum ((terms (kd : Int)).take k) = A at *
        have HAT : Hid (2 + wsum ((terms (kd : Int)).take k) = A) := hat'
        clear hat'
        have hpz : (0 : Int) ≤ (pa : Int) ∧ (pa : Int) < 9 := by omega
        by_cases hover : n + 1 < A + pb
        · have HO : Hid (nextK s = 0 ∧ nextV s = (fun _ => 0) ∧ nextM s = (n : Int) + 1 ∧ nextE s = 5) := HBAD.out (by
            intro hc
            have h3 := hc.2.2
            have h4 := HWS.out
            have h5 := HAT.out
            omega)
          have hr0 := hgr.cell (HR0.out 0 (by omega)) (by simp)
          have hg0 := (World.frozen?_of_block (a := ⟨w.heap.size, 0, none⟩) (hgr.block w.heap.size (by omega) (by simp))).trans (HG0.out 0)
          have hr1 := hgr.cell (HR0.out 1 (by omega)) (by simp)
          have hg1 := (World.frozen?_of_block (a := ⟨w.heap.size, 1, none⟩) (hgr.block w.heap.size (by omega) (by simp))).trans (HG0.out 1)
          have hr2 := hgr.cell (HR0.out 2 (by omega)) (by simp)
          have hg2 := (World.frozen?_of_block (a := ⟨w.heap.size, 2, none⟩) (hgr.block w.heap.size (by omega) (by simp))).trans (HG0.out 2)
          have hr3 := hgr.cell (HR0.out 3 (by omega)) (by simp)
          have hg3 := (World.frozen?_of_block (a := ⟨w.heap.size, 3, none⟩) (hgr.block w.heap.size (by omega) (by simp))).trans (HG0.out 3)
          have hr4 := hgr.cell (HR0.out 4 (by omega)) (by simp)
          have hg4 := (World.frozen?_of_block (a := ⟨w.heap.size, 4, none⟩) (hgr.block w.heap.size (by omega) (by simp))).trans (HG0.out 4)
          have hr5 := hgr.cell (HR0.out 5 (by omega)) (by simp)
          have hg5 := (World.frozen?_of_block (a := ⟨w.heap.size, 5, none⟩) (hgr.block w.heap.size (by omega) (by simp))).trans (HG0.out 5)
          have hr6 := hgr.cell (HR0.out 6 (by omega)) (by simp)
          have hg6 := (World.frozen?_of_block (a := ⟨w.heap.size, 6, none⟩) (hgr.block w.heap.size (by omega) (by simp))).trans (HG0.out 6)
          have hr7 := hgr.cell (HR0.out 7 (by omega)) (by simp)
          have hg7 := (World.frozen?_of_block (a := ⟨w.heap.size, 7, none⟩) (hgr.block w.heap.size (by omega) (by simp))).trans (HG0.out 7)
          have hr8 := hgr.cell (HR0.out 8 (by omega)) (by simp)
          have hg8 := (World.frozen?_of_block (a := ⟨w.heap.size, 8, none⟩) (hgr.block w.heap.size (by omega) (by simp))).trans (HG0.out 8)
          have hr9 := hgr.cell (HR0.out 9 (by omega)) (by simp)
          have hg9 := (World.frozen?_of_block (a := ⟨w.heap.size, 9, none⟩) (hgr.block w.heap.size (by omega) (by simp))).trans (HG0.out 9)
          go_wp2
          refine bodyPost_ret (v := .tuple #[cmdV 0 (fun _ => 0), .int .i64 ((n : Int) + 1), .int .i64 5]) (by simp [results, Tryz.results22, go_sem, hr0, hr1, hr2, hr3, hr4, hr5, hr6, hr7, hr8, hr9]) rfl ⟨by rw [HO.out.1, HO.out.2.1, HO.out.2.2.1, HO.out.2.2.2], ?_⟩
          refine HB2.out.trans ?_
          exact keep10 (grown_below hgr (by omega) (by omega)) _ _ _ _ _ _ _ _ _ _
        · have hsl : A + pb ≤ s.size := by omega
          have hcut := cut_str s A pb wr hsl
          have hcd := cut_data s A pb hsl
          have hcs := cut_size s A pb hsl
          have hvn := val_nonneg ((s.data.toList.drop A).take pb)
          have hvl := val_lt4 ((s.data.toList.drop A).take pb) (Nat.le_trans (List.length_take_le _ _) (by omega))
          go_wp2_with fail
          refine (value_any (s.extract A (A + pb)) _ (by rw [hcs]; omega)).mono ?_
          rintro e w' ⟨rfl, rfl⟩
          rw [hcd]
          have HNX : Hid (∀ x : Int, rd s.data.toList A (pa, pb) = x → ∀ j, j < 9 → (w'.setCell ⟨w.heap.size + 1, 1 + pa, none⟩ (.int .i64 x)).cell? ⟨w.heap.size + 1, 1 + j, none⟩ = some (.int .i64 (reads s.data.toList 2 ((terms (kd : Int)).take (k + 1)) (fun _ => 0) j))) := fun x hx j hj => by
            rw [HRD.out, hx]
            unfold upd
            by_cases hjp : j = pa
            · subst hjp
              rw [if_pos rfl]
              exact World.cell?_setCell_same _ _ _ hcx
            · rw [if_neg hjp, World.cell?_setCell_other _ _ _ _ (by intro e; injection e with e1 e2; omega)]
              exact HCV.out j hj
          have HCK : Hid (∀ x : Value, (w'.setCell ⟨w.heap.size + 1, 1 + pa, none⟩ x).cell? ⟨w.heap.size + 1, 0, none⟩ = some (.int .i64 (kd : Int))) := fun x => by
            rw [World.cell?_setCell_other _ _ _ _ (by intro e; injection e with e1 e2; omega)]; exact hck
          have HFK : Hid (∀ (x : Value) (j : Nat), (w'.setCell ⟨w.heap.size + 1, 1 + pa, none⟩ x).frozen? ⟨w.heap.size + 1, j, none⟩ = false) := fun x j => by
            rw [World.frozen?_setCell]; exact HFZ.out j
          have hcb' : ∀ x : Value, (w'.setCell ⟨w.heap.size + 1, 1 + pa, none⟩ x).cell? ⟨bb, k, none⟩ = some (.int .i64 (pb : Int)) := fun x => by
            rw [World.cell?_setCell_other _ _ _ _ (by intro e; injection e with e1 e2; omega)]; exact hcb
          have HP := rd_plain s.data.toList A pa pb
          have HPN := rd_neg s.data.toList A pb
          have HP' : Hid (¬ (pa = 6 ∧ 2147483648 ≤ val ((s.data.toList.drop A).take pb)) → rd s.data.toList A (pa, pb) = val ((s.data.toList.drop A).take pb)) := HP
          have HPN' : Hid (2147483648 ≤ val ((s.data.toList.drop A).take pb) → rd s.data.toList A (6, pb) = val ((s.data.toList.drop A).take pb) - 4294967296) := HPN
          clear HP HPN hcut hcd hcs
          generalize val ((s.data.toList.drop A).take pb) = x at *
          by_cases h6 : pa = 6
          · subst h6
            have h4 : pb = 4 := hp3 rfl
            subst h4
            clear hp2 hp3
            by_cases hbig : 2147483648 ≤ x
            · go_wp2
              go_roundw
              case rel => exact ⟨k + 1, by omega, by go_num, int_eq (by have := HAT.out; rw [HWS.out]; omega), by have := HAT.out; rw [HWS.out]; omega, grown_set hgr _, HCK.out _, HNX.out _ (HPN'.out hbig), HFK.out _⟩
              case measure => simp [intOf]; omega
            · go_wp2
              go_roundw
              case rel => exact ⟨k + 1, by omega, by go_num, int_eq (by have := HAT.out; rw [HWS.out]; omega), by have := HAT.out; rw [HWS.out]; omega, grown_set hgr _, HCK.out _, HNX.out _ (HP'.out (by omega)), HFK.out _⟩
              case measure => simp [intOf]; omega
          · have g6 : ((pa : Int) == 6) = false := beq_eq_false_iff_ne.2 (by omega)
            go_wp2
            go_roundw
            case rel => exact ⟨k + 1, by omega, by go_num, int_eq (by have := HAT.out; rw [HWS.out]; omega), by have := HAT.out; rw [HWS.out]; omega, grown_set hgr _, HCK.out _, HNX.out _ (HP'.out (by omega)), HFK.out _⟩
            case measure => simp [intOf]; omega
      · have hkL' : k = L := by omega
        subst hkL'
        have htk : (terms (kd : Int)).take k = terms (kd : Int) := List.take_of_length_le (by rw [HN.out]; omega)
        rw [htk] at hat
        have HCV2 : Hid (∀ j, j < 9 → wr.cell? ⟨w.heap.size + 1, 1 + j, none⟩ = some (.int .i64 (reads s.data.toList 2 (terms (kd : Int)) (fun _ => 0) j))) := by
          have := HCV.out
          rw [htk] at this
          exact this
        rw [htk]
        clear htk HCV
        have hkd : 1 ≤ kd ∧ kd ≤ 4 := by
          have h1 := HN.out
          have h2 : 0 < k := HK0.out
          unfold terms at h1
          split at h1
          · omega
          split at h1
          · omega
          split at h1
          · omega
          split at h1
          · omega
          · simp at h1; omega
        have hr0 := hgr.cell (HR0.out 0 (by omega)) (by simp)
        have hg0 := (World.frozen?_of_block (a := ⟨w.heap.size, 0, none⟩) (hgr.block w.heap.size (by omega) (by simp))).trans (HG0.out 0)
        have hr1 := hgr.cell (HR0.out 1 (by omega)) (by simp)
        have hg1 := (World.frozen?_of_block (a := ⟨w.heap.size, 1, none⟩) (hgr.block w.heap.size (by omega) (by simp))).trans (HG0.out 1)
        have hr2 := hgr.cell (HR0.out 2 (by omega)) (by simp)
        have hg2 := (World.frozen?_of_block (a := ⟨w.heap.size, 2, none⟩) (hgr.block w.heap.size (by omega) (by simp))).trans (HG0.out 2)
        have hr3 := hgr.cell (HR0.out 3 (by omega)) (by simp)
        have hg3 := (World.frozen?_of_block (a := ⟨w.heap.size, 3, none⟩) (hgr.block w.heap.size (by omega) (by simp))).trans (HG0.out 3)
        have hr4 := hgr.cell (HR0.out 4 (by omega)) (by simp)
        have hg4 := (World.frozen?_of_block (a := ⟨w.heap.size, 4, none⟩) (hgr.block w.heap.size (by omega) (by simp))).trans (HG0.out 4)
        have hr5 := hgr.cell (HR0.out 5 (by omega)) (by simp)
        have hg5 := (World.frozen?_of_block (a := ⟨w.heap.size, 5, none⟩) (hgr.block w.heap.size (by omega) (by simp))).trans (HG0.out 5)
        have hr6 := hgr.cell (HR0.out 6 (by omega)) (by simp)
        have hg6 := (World.frozen?_of_block (a := ⟨w.heap.size, 6, none⟩) (hgr.block w.heap.size (by omega) (by simp))).trans (HG0.out 6)
        have hr7 := hgr.cell (HR0.out 7 (by omega)) (by simp)
        have hg7 := (World.frozen?_of_block (a := ⟨w.heap.size, 7, none⟩) (hgr.block w.heap.size (by omega) (by simp))).trans (HG0.out 7)
        have hr8 := hgr.cell (HR0.out 8 (by omega)) (by simp)
        have hg8 := (World.frozen?_of_block (a := ⟨w.heap.size, 8, none⟩) (hgr.block w.heap.size (by omega) (by simp))).trans (HG0.out 8)
        have hr9 := hgr.cell (HR0.out 9 (by omega)) (by simp)
        have hg9 := (World.frozen?_of_block (a := ⟨w.heap.size, 9, none⟩) (hgr.block w.heap.size (by omega) (by simp))).trans (HG0.out 9)
        have hkI1 : (1 : Int) ≤ (kd : Int) := by omega
        have hkI2 : (kd : Int) ≤ 5 := by omega
        by_cases heq : 2 + wsum (terms (kd : Int)) = n + 1
        · have HO := HGOOD.out ⟨by omega, by omega, heq⟩
          have HO' : Hid (nextK s = kd ∧ nextV s = reads s.data.toList 2 (terms (kd : Int)) (fun _ => 0) ∧ nextM s = (n : Int) + 1 ∧ nextE s = 0) := HO
          clear HO
          have hv0 := HCV2.out 0 (by omega)
          have hv1 := HCV2.out 1 (by omega)
          have hv2 := HCV2.out 2 (by omega)
          have hv3 := HCV2.out 3 (by omega)
          have hv4 := HCV2.out 4 (by omega)
          have hv5 := HCV2.out 5 (by omega)
          have hv6 := HCV2.out 6 (by omega)
          have hv7 := HCV2.out 7 (by omega)
          have hv8 := HCV2.out 8 (by omega)
          rw [heq]
          have hq : (((n + 1 : Nat) : Int) != (n : Int) + 1) = false := by simp
          generalize reads s.data.toList 2 (terms (kd : Int)) (fun _ => 0) = V at *
          clear heq HGOOD HBAD
          go_wp2
          refine bodyPost_ret (v := .tuple #[cmdV (kd : Int) V, .int .i64 ((n : Int) + 1), .int .i64 0]) (by simp [results, Tryz.results22, go_sem, hr0, hr1, hr2, hr3, hr4, hr5, hr6, hr7, hr8, hr9]) rfl ⟨by rw [HO'.out.1, HO'.out.2.1, HO'.out.2.2.1, HO'.out.2.2.2], ?_⟩
          refine HB2.out.trans ?_
          exact keep10 (grown_below hgr (by omega) (by omega)) _ _ _ _ _ _ _ _ _ _
        · have HO : Hid (nextK s = 0 ∧ nextV s = (fun _ => 0) ∧ nextM s = (n : Int) + 1 ∧ nextE s = 5) := HBAD.out (fun hc => heq hc.2.2)
          generalize 2 + wsum (terms (kd : Int)) = A at *
          have hq : ((A : Int) != (n : Int) + 1) = true := by rw [bne_iff_ne]; omega
          clear heq HGOOD HBAD
          go_wp2
          refine bodyPost_ret (v := .tuple #[cmdV 0 (fun _ => 0), .int .i64 ((n : Int) + 1), .int .i64 5]) (by simp [results, Tryz.results22, go_sem, hr0, hr1, hr2, hr3, hr4, hr5, hr6, hr7, hr8, hr9]) rfl ⟨by rw [HO.out.1, HO.out.2.1, HO.out.2.2.1, HO.out.2.2.2], ?_⟩
          refine HB2.out.trans ?_
          exact keep10 (grown_below hgr (by omega) (by omega)) _ _ _ _ _ _ _ _ _ _

/-- The document's next frame, of every text. -/
theorem next_any (s : ByteArray) (w : World) (hm : s.size ≤ 1000000000) :
    Calls Tryz.prog 22 #[.string s] w fun e w' => e = .returned (.tuple #[cmdV (nextK s) (nextV s), .int .i64 (nextM s), .int .i64 (nextE s)]) ∧ Below w.heap.size w w' := by
  by_cases h : s.size = 0
  · have e : nextE s = 4 := by unfold nextE; rw [if_pos h]
    have e1 : nextK s = 0 := by unfold nextK; rw [e]; rfl
    have e2 : nextV s = fun _ => 0 := by unfold nextV; rw [e]; rfl
    have e3 : nextM s = 0 := by unfold nextM; rw [if_pos h]
    rw [e, e1, e2, e3]
    exact next_short0 s w h
  by_cases h0 : bAt s 0 = 0
  · have e : nextE s = 5 := by unfold nextE; rw [if_neg h, if_pos h0]
    have e1 : nextK s = 0 := by unfold nextK; rw [e]; rfl
    have e2 : nextV s = fun _ => 0 := by unfold nextV; rw [e]; rfl
    have e3 : nextM s = 1 := by unfold nextM; rw [if_neg h, if_pos h0]
    rw [e, e1, e2, e3]
    exact next_zero s w (by omega) h0
  by_cases h1 : s.size < bAt s 0 + 1
  · have e : nextE s = 4 := by unfold nextE; rw [if_neg h, if_neg h0, if_pos h1]
    have e1 : nextK s = 0 := by unfold nextK; rw [e]; rfl
    have e2 : nextV s = fun _ => 0 := by unfold nextV; rw [e]; rfl
    have e3 : nextM s = 0 := by unfold nextM; rw [if_neg h, if_neg h0, if_pos h1]
    rw [e, e1, e2, e3]
    exact next_short s w (by omega) h0 h1
  · exact next_main s w (by omega) h0 (by omega) hm
end Go.Proofs.YtcajmohgjojhhaaGreatDoor

namespace Go.Proofs.YtcajmohgjojhhaaGreatDoor
open Go.RowKit Go.Extern

set_option maxHeartbeats 1000000 in
theorem termAt_any (s : ByteArray) (A pa pb : Nat) (w : World) (hW : Wids w) (hpa : pa < 9) (hpb : wid pa = pb) (hb4 : pb = 1 ∨ pb = 4) (h6 : pa = 6 → pb = 4) (ha : A + pb ≤ s.size) (hm : s.size ≤ 1000000000) :
    Calls Tryz.prog 75 #[.string s, .int .i64 A, .int .i64 pa] w fun e w' => e = .returned (.int .i64 (rd s.data.toList A (pa, pb))) ∧ w' = w := by
  have hcw := hW pa hpa
  rw [hpb] at hcw
  have hpz : (0 : Int) ≤ (pa : Int) ∧ (pa : Int) < 9 := by omega
  have hvn := val_nonneg ((s.data.toList.drop A).take pb)
  have hvl := val_lt4 ((s.data.toList.drop A).take pb) (Nat.le_trans (List.length_take_le _ _) (by omega))
  have HP := rd_plain s.data.toList A pa pb
  have HPN := rd_neg s.data.toList A pb
  have HP' : Hid (¬ (pa = 6 ∧ 2147483648 ≤ val ((s.data.toList.drop A).take pb)) → rd s.data.toList A (pa, pb) = val ((s.data.toList.drop A).take pb)) := HP
  have HPN' : Hid (2147483648 ≤ val ((s.data.toList.drop A).take pb) → rd s.data.toList A (6, pb) = val ((s.data.toList.drop A).take pb) - 4294967296) := HPN
  clear HP HPN hpb hW
  have hna := fun W => numberAt_any s A pb W (by omega) ha hm
  have HNA : Hid (∀ W, Calls Tryz.prog 96 #[.string s, .int .i64 A, .int .i64 pb] W fun e w' => e = .returned (.int .i64 (val ((s.data.toList.drop A).take pb))) ∧ w' = W) := hna
  clear hna
  generalize val ((s.data.toList.drop A).take pb) = x at *
  by_cases h6' : pa = 6
  · subst h6'
    have h4 : pb = 4 := h6 rfl
    subst h4
    clear hb4 h6
    go_enter Tryz.func75, Tryz.ntmps75
    go_wp2_with fail
    refine (HNA.out _).mono ?_
    rintro e w' ⟨rfl, rfl⟩
    go_wp2
    go_ret
    refine ⟨ret_int ?_, rfl⟩
    by_cases hbig : 2147483648 ≤ x
    · rw [HPN'.out hbig]; unfold wrap64 wrap32; omega
    · rw [HP'.out (by omega)]; unfold wrap64 wrap32; omega
  · have g6 : ((pa : Int) == 6) = false := beq_eq_false_iff_ne.2 (by omega)
    have HR := HP'.out (by omega)
    have HR' : Hid (rd s.data.toList A (pa, pb) = x) := HR
    clear HR h6' h6
    go_enter Tryz.func75, Tryz.ntmps75
    go_wp2_with fail
    refine (HNA.out _).mono ?_
    rintro e w' ⟨rfl, rfl⟩
    go_wp2
    go_ret
    exact ⟨ret_int HR'.out.symm, rfl⟩

set_option maxHeartbeats 1000000 in
theorem termsOf_any (v : Nat → Int) (w : World) :
    Calls Tryz.prog 76 #[arrV v] w fun e w' => e = .returned (arrV v) ∧ Below w.heap.size w w' := by
  go_enter Tryz.func76, Tryz.ntmps76
  go_wp2
  refine bodyPost_ret (v := arrV v) (by simp [results, Tryz.results76, go_sem]) rfl ⟨rfl, ?_⟩
  repeat (first | exact Below.refl _ _ | refine Below.setCell ?_ (by simp) _ | refine Below.drew ?_ | refine below_alloc ?_ _)

/-- A scope in which the run may jump to one label, and does so no more behind it. -/
theorem wp_scope_fwd {P : Program} {a : Act} {w : World} {Q : Exit → Act → World → Prop} {c rest : Code} (l : Nat) (hf : findLabel c l = some rest)
    (first : c.wp P (Exit.jump l (fun a w => rest.wp P (Exit.noGoto Q) a w) Q) a w) : (Code.scope c).wp P Q a w := by
  intro b k cs
  have hg : gotoIn l (.inScope c :: k) = some (.code rest :: .inScope c :: k) := by simp [gotoIn, hf]
  obtain ⟨e, a₁, w₁, hq, harr⟩ := first b (.inScope c :: k) cs
  cases e with
  | normal => exact ⟨.normal, a₁, w₁, hq, .head step_scope (Steps.trans harr (.one step_inScope))⟩
  | exit id => exact ⟨.exit id, a₁, w₁, hq, fun k' hk => .head step_scope (harr k' (by simp [exitTo, hk]))⟩
  | goto l' =>
    obtain ⟨rfl, hJ'⟩ := hq
    obtain ⟨e₂, a₂, w₂, hq₂, harr₂⟩ := hJ' b (.inScope c :: k) cs
    cases e₂ with
    | normal => exact ⟨.normal, a₂, w₂, hq₂, .of_steps (.head step_scope (harr _ hg)) (Steps.trans harr₂ (.one step_inScope))⟩
    | exit id => exact ⟨.exit id, a₂, w₂, hq₂, fun k' hk => Steps.trans (.head step_scope (harr _ hg)) (harr₂ k' (by simp [exitTo, hk]))⟩
    | goto l => exact hq₂.elim
    | ret => exact ⟨_, a₂, w₂, hq₂, .of_steps (.head step_scope (harr _ hg)) harr₂⟩
    | panic ch => exact ⟨_, a₂, w₂, hq₂, .of_steps (.head step_scope (harr _ hg)) harr₂⟩
    | outgrown => exact ⟨_, a₂, w₂, hq₂, .of_steps (.head step_scope (harr _ hg)) harr₂⟩
  | ret => exact ⟨_, a₁, w₁, hq, .of_steps (.one step_scope) harr⟩
  | panic ch => exact ⟨_, a₁, w₁, hq, .of_steps (.one step_scope) harr⟩
  | outgrown => exact ⟨_, a₁, w₁, hq, .of_steps (.one step_scope) harr⟩
end Go.Proofs.YtcajmohgjojhhaaGreatDoor

namespace Go.Proofs.YtcajmohgjojhhaaGreatDoor
open Go.RowKit Go.Extern

/-- An error without a place: none, or one of the reasons. -/
def ErrBare (a : Nat → Addr) (err : Value) (n : Int) : Prop := (err = .nilIface ∧ n = 0) ∨ ∃ k : Nat, k < 8 ∧ err = .iface 204 (.pointer (some (a k))) ∧ n = (k : Int) + 1
theorem ErrBare.is {a : Nat → Addr} {err : Value} {n : Int} (h : ErrBare a err n) (w : World) : ErrIs w a err n (-1) := by
  rcases h with ⟨h1, h2⟩ | ⟨k, h1, h2, h3⟩
  · exact .inl ⟨h1, h2, rfl⟩
  · exact .inr (.inl ⟨k, h1, h2, h3, rfl⟩)

abbrev z10 : Array Value := #[.int .i64 0, .int .i64 0, .int .i64 0, .int .i64 0, .int .i64 0, .int .i64 0, .int .i64 0, .int .i64 0, .int .i64 0, .int .i64 0]
abbrev z9 : Array Value := #[.int .i64 0, .int .i64 0, .int .i64 0, .int .i64 0, .int .i64 0, .int .i64 0, .int .i64 0, .int .i64 0, .int .i64 0]
theorem errs3 {w : World} {a : Nat → Addr} {st : Nat → ByteArray} (hE : Errs w a st) (o1 o2 o3 : Obj) : Errs (((w.alloc o1).alloc o2).alloc o3) a st := ((hE.alloc o1).alloc o2).alloc o3

set_option maxRecDepth 100000 in
set_option maxHeartbeats 1000000 in
theorem dec_short0 (a : Nat → Addr) (st : Nat → ByteArray) (w : World) (hE : Errs w a st) :
    Calls Tryz.prog 60 #[.string ⟨#[]⟩] w fun e w' => ∃ err, e = .returned (.tuple #[cmdV 0 (fun _ => 0), .int .i64 0, err]) ∧ ErrBare a err 4 ∧ Below w.heap.size w w' := by
  have hc := (errs3 hE (.cells z10 94) (.cells z10 94) (.cells z9 26)).c3
  go_enter Tryz.func60, Tryz.ntmps60
  go_wp2_with fail
  refine wp_scope_fwd 0 rfl ?_
  go_wp2_with fail
  go_step3
  refine ⟨rfl, ?_⟩
  go_wp2_with fail
  go_region
  all_goals (try go_wp2)
  all_goals
    simp only [Exit.noGoto]
    refine bodyPost_ret (v := .tuple #[cmdV 0 (fun _ => 0), .int .i64 0, .iface 204 (.pointer (some (a 3)))]) (by simp [results, Tryz.results60, go_sem]) rfl ⟨_, rfl, .inr ⟨3, by omega, rfl, rfl⟩, ?_⟩
    repeat (first | exact Below.refl _ _ | refine Below.drew ?_ | refine below_alloc ?_ _)

set_option maxRecDepth 100000 in
set_option maxHeartbeats 1000000 in
theorem dec_zero (a : Nat → Addr) (st : Nat → ByteArray) (s : ByteArray) (w : World) (hE : Errs w a st) (h : 0 < s.size) (h0 : bAt s 0 = 0) :
    Calls Tryz.prog 60 #[.string s] w fun e w' => ∃ err, e = .returned (.tuple #[cmdV 0 (fun _ => 0), .int .i64 0, err]) ∧ ErrBare a err 5 ∧ Below w.heap.size w w' := by
  have hc := (errs3 hE (.cells z10 94) (.cells z10 94) (.cells z9 26)).c4
  have hb := getElem_bAt s 0 h
  rw [h0] at hb
  have hsz : ((s.size : Int) == 0) = false := beq_eq_false_iff_ne.2 (by omega)
  go_enter Tryz.func60, Tryz.ntmps60
  go_wp2_with fail
  refine wp_scope_fwd 1 rfl ?_
  go_wp2_with fail
  go_step3
  refine ⟨rfl, ?_⟩
  go_wp2_with fail
  go_region
  all_goals (try go_wp2)
  all_goals
    simp only [Exit.noGoto]
    refine bodyPost_ret (v := .tuple #[cmdV 0 (fun _ => 0), .int .i64 0, .iface 204 (.pointer (some (a 4)))]) (by simp [results, Tryz.results60, go_sem]) rfl ⟨_, rfl, .inr ⟨4, by omega, rfl, rfl⟩, ?_⟩
    repeat (first | exact Below.refl _ _ | refine Below.drew ?_ | refine below_alloc ?_ _)

set_option maxRecDepth 100000 in
set_option maxHeartbeats 1000000 in
theorem dec_short (a : Nat → Addr) (st : Nat → ByteArray) (s : ByteArray) (w : World) (hE : Errs w a st) (h : 0 < s.size) (h0 : bAt s 0 ≠ 0) (h1 : s.size < bAt s 0 + 1) :
    Calls Tryz.prog 60 #[.string s] w fun e w' => ∃ err, e = .returned (.tuple #[cmdV 0 (fun _ => 0), .int .i64 0, err]) ∧ ErrBare a err 4 ∧ Below w.heap.size w w' := by
  have hc := (errs3 hE (.cells z10 94) (.cells z10 94) (.cells z9 26)).c3
  have hb := getElem_bAt s 0 h
  have hlt := bAt_lt s 0
  generalize bAt s 0 = n at *
  have hwn : wrap64 ((n : Nat) : Int) = n := by unfold wrap64; omega
  have hz : ((n : Int) == 0) = false := beq_eq_false_iff_ne.2 (by omega)
  have hsz : ((s.size : Int) == 0) = false := beq_eq_false_iff_ne.2 (by omega)
  go_enter Tryz.func60, Tryz.ntmps60
  go_wp2_with fail
  refine wp_scope_fwd 0 rfl ?_
  go_wp2_with fail
  go_step3
  refine ⟨rfl, ?_⟩
  go_wp2_with fail
  go_region
  all_goals (try go_wp2)
  all_goals
    simp only [Exit.noGoto]
    refine bodyPost_ret (v := .tuple #[cmdV 0 (fun _ => 0), .int .i64 0, .iface 204 (.pointer (some (a 3)))]) (by simp [results, Tryz.results60, go_sem]) rfl ⟨_, rfl, .inr ⟨3, by omega, rfl, rfl⟩, ?_⟩
    repeat (first | exact Below.refl _ _ | refine Below.drew ?_ | refine below_alloc ?_ _)
end Go.Proofs.YtcajmohgjojhhaaGreatDoor

namespace Go.Proofs.YtcajmohgjojhhaaGreatDoor
open Go.RowKit Go.Extern

/-- What lies where behind termsOfKind: R the result, C the command, M the numbers. -/
structure DecMem (w2 : World) (R : Nat) (kd : Int) : Prop where
  size : R + 2 < w2.heap.size
  res : ∀ j, j < 10 → w2.cell? ⟨R, j, none⟩ = some (.int .i64 0)
  resF : ∀ j, w2.frozen? ⟨R, j, none⟩ = false
  kind : w2.cell? ⟨R + 1, 0, none⟩ = some (.int .i64 kd)
  cmd : ∀ j, j < 9 → w2.cell? ⟨R + 1, 1 + j, none⟩ = some (.int .i64 0)
  cmdF : ∀ j, w2.frozen? ⟨R + 1, j, none⟩ = false
  num : ∀ j, j < 9 → w2.cell? ⟨R + 2, j, none⟩ = some (.int .i64 0)
  numF : ∀ j, w2.frozen? ⟨R + 2, j, none⟩ = false
theorem decMem_start (w : World) (kd : Int) (w2 : World) (W : World) (hW : W = ((w.alloc (.cells z10 94)).alloc (.cells #[.int .i64 kd, .int .i64 0, .int .i64 0, .int .i64 0, .int .i64 0, .int .i64 0, .int .i64 0, .int .i64 0, .int .i64 0, .int .i64 0] 94)).alloc (.cells z9 26))
    (hb : Below W.heap.size W w2) : DecMem w2 w.heap.size kd := by
  subst hW
  have e9 : ∀ j, j < 9 → j = 0 ∨ j = 1 ∨ j = 2 ∨ j = 3 ∨ j = 4 ∨ j = 5 ∨ j = 6 ∨ j = 7 ∨ j = 8 := fun j hj => by omega
  have e10 : ∀ j, j < 10 → j = 0 ∨ j = 1 ∨ j = 2 ∨ j = 3 ∨ j = 4 ∨ j = 5 ∨ j = 6 ∨ j = 7 ∨ j = 8 ∨ j = 9 := fun j hj => by omega
  refine ⟨by have := hb.size; simp at this; omega, fun j hj => ?_, fun j => ?_, ?_, fun j hj => ?_, fun j => ?_, fun j hj => ?_, fun j => ?_⟩
  · rw [hb.cell (p := ⟨w.heap.size, j, none⟩) (by simp; omega), World.cell?_alloc_lt _ _ _ (by simp; omega), World.cell?_alloc_lt _ _ _ (by simp)]
    rcases e10 j hj with rfl | rfl | rfl | rfl | rfl | rfl | rfl | rfl | rfl | rfl <;> simp
  · rw [hb.frozen (p := ⟨w.heap.size, j, none⟩) (by simp; omega), World.frozen?_alloc_old _ _ _ (by simp; omega), World.frozen?_alloc_old _ _ _ (by simp)]
    simp
  · rw [hb.cell (p := ⟨w.heap.size + 1, 0, none⟩) (by simp), World.cell?_alloc_lt _ _ _ (by simp)]
    simp
  · rw [hb.cell (p := ⟨w.heap.size + 1, 1 + j, none⟩) (by simp), World.cell?_alloc_lt _ _ _ (by simp)]
    rcases e9 j hj with rfl | rfl | rfl | rfl | rfl | rfl | rfl | rfl | rfl <;> simp
  · rw [hb.frozen (p := ⟨w.heap.size + 1, j, none⟩) (by simp), World.frozen?_alloc_old _ _ _ (by simp)]
    simp
  · rw [hb.cell (p := ⟨w.heap.size + 2, j, none⟩) (by simp), World.cell?_alloc_at _ _ _ _ (by simp)]
    rcases e9 j hj with rfl | rfl | rfl | rfl | rfl | rfl | rfl | rfl | rfl <;> simp
  · rw [hb.frozen (p := ⟨w.heap.size + 2, j, none⟩) (by simp), World.frozen?_alloc_at _ _ _ _ (by simp)]

set_option maxRecDepth 100000 in
set_option maxHeartbeats 2000000 in
theorem dec_bad (a : Nat → Addr) (st : Nat → ByteArray) (s : ByteArray) (w : World) (hE : Errs w a st) (hW : Wids w) (h : 0 < s.size) (h0 : bAt s 0 ≠ 0) (h1 : bAt s 0 + 1 ≤ s.size) (hbad : ¬ (1 ≤ bAt s 1 ∧ bAt s 1 ≤ 5 ∧ 2 + wsum (terms (bAt s 1)) = bAt s 0 + 1)) :
    Calls Tryz.prog 60 #[.string s] w fun e w' => ∃ err, e = .returned (.tuple #[cmdV 0 (fun _ => 0), .int .i64 0, err]) ∧ ErrBare a err 5 ∧ Below w.heap.size w w' := by
  have hb := getElem_bAt s 0 h
  have hs1 : 1 < s.size := by omega
  have hb1 := getElem_bAt s 1 hs1
  have hlt := bAt_lt s 0
  have hlt1 := bAt_lt s 1
  have HE : Hid (Errs w a st) := hE
  have HW : Hid (Wids w) := hW
  clear hE hW
  generalize bAt s 0 = n at *
  generalize bAt s 1 = kd at *
  have HBD : Hid (¬ (1 ≤ kd ∧ kd ≤ 5 ∧ 2 + wsum (terms (kd : Int)) = n + 1)) := hbad
  clear hbad
  have hwn : wrap64 ((n : Nat) : Int) = n := by unfold wrap64; omega
  have hwk : wrap64 ((kd : Nat) : Int) = kd := by unfold wrap64; omega
  have hz : ((n : Int) == 0) = false := beq_eq_false_iff_ne.2 (by omega)
  have hsz : ((s.size : Int) == 0) = false := beq_eq_false_iff_ne.2 (by omega)
  go_enter Tryz.func60, Tryz.ntmps60
  go_wp2_with fail
  refine wp_scope_fwd 1 rfl ?_
  go_wp2_with fail
  refine (termsOfKind_any (kd : Int) _).mono ?_
  rintro e w2 ⟨ta, rfl, hia, hb2⟩
  have HM : Hid (DecMem w2 w.heap.size (kd : Int)) := decMem_start w (kd : Int) w2 _ rfl hb2
  have HB2 : Hid (Below w.heap.size w w2) := ((((Below.refl _ _).alloc (Nat.le_refl _) _).alloc (by simp) _).alloc (by simp; omega) _).trans (hb2.mono (by simp; omega))
  clear hb2
  have hce := (HE.out.below HB2.out).c4
  have hl4 : 4 < w.heap.size := lt_of_cell HE.out.c4
  have hn4 : ¬ w.heap.size = 4 := by omega
  have hn4' : ¬ 4 = w.heap.size := by omega
  have hr0 := HM.out.res 0 (by omega)
  have hg0 := HM.out.resF 0
  have hr1 := HM.out.res 1 (by omega)
  have hg1 := HM.out.resF 1
  have hr2 := HM.out.res 2 (by omega)
  have hg2 := HM.out.resF 2
  have hr3 := HM.out.res 3 (by omega)
  have hg3 := HM.out.resF 3
  have hr4 := HM.out.res 4 (by omega)
  have hg4 := HM.out.resF 4
  have hr5 := HM.out.res 5 (by omega)
  have hg5 := HM.out.resF 5
  have hr6 := HM.out.res 6 (by omega)
  have hg6 := HM.out.resF 6
  have hr7 := HM.out.res 7 (by omega)
  have hg7 := HM.out.resF 7
  have hr8 := HM.out.res 8 (by omega)
  have hg8 := HM.out.resF 8
  have hr9 := HM.out.res 9 (by omega)
  have hg9 := HM.out.resF 9
  by_cases hk : 1 ≤ (kd : Int) ∧ (kd : Int) ≤ 5
  · have hkd : decide (1 ≤ (kd : Int) ∧ (kd : Int) ≤ 5) = true := by simp; omega
    rw [hkd]
    have hws := wsum_fsum (terms (kd : Int))
    have hne : 2 + fsum (terms (kd : Int)) ≠ (n : Int) + 1 := by
      intro e
      exact HBD.out ⟨by omega, by omega, by omega⟩
    have hfr := frameSize_any (kd : Int) ta w2 hia (HW.out.below HB2.out)
    generalize 2 + fsum (terms (kd : Int)) = F at *
    have HFR : Hid (Calls Tryz.prog 74 #[ta] w2 fun e w' => e = .returned (.int .i64 F) ∧ w' = w2) := hfr
    have hq : ((1 : Int) + (n : Int) != F) = true := by rw [bne_iff_ne]; omega
    clear hfr hws hkd hia hne
    go_wp2_with fail
    refine HFR.out.mono ?_
    rintro e w' ⟨rfl, rfl⟩
    go_wp2_with fail
    go_step3
    refine ⟨rfl, ?_⟩
    go_wp2_with fail
    go_region
    all_goals (try go_wp2)
    all_goals
      simp only [Exit.noGoto]
      refine bodyPost_ret (v := .tuple #[cmdV 0 (fun _ => 0), .int .i64 0, .iface 204 (.pointer (some (a 4)))]) (by simp [results, Tryz.results60, go_sem, hr0, hr1, hr2, hr3, hr4, hr5, hr6, hr7, hr8, hr9]) rfl ⟨_, rfl, .inr ⟨4, by omega, rfl, rfl⟩, ?_⟩
      exact Below.drew (keep10 HB2.out _ _ _ _ _ _ _ _ _ _)
  · have hkd : decide (1 ≤ (kd : Int) ∧ (kd : Int) ≤ 5) = false := by simp; omega
    rw [hkd]
    clear hkd hia hk
    go_wp2_with fail
    go_step3
    refine ⟨rfl, ?_⟩
    go_wp2_with fail
    go_region
    all_goals (try go_wp2)
    all_goals
      simp only [Exit.noGoto]
      refine bodyPost_ret (v := .tuple #[cmdV 0 (fun _ => 0), .int .i64 0, .iface 204 (.pointer (some (a 4)))]) (by simp [results, Tryz.results60, go_sem, hr0, hr1, hr2, hr3, hr4, hr5, hr6, hr7, hr8, hr9]) rfl ⟨_, rfl, .inr ⟨4, by omega, rfl, rfl⟩, ?_⟩
      exact Below.drew (keep10 HB2.out _ _ _ _ _ _ _ _ _ _)
end Go.Proofs.YtcajmohgjojhhaaGreatDoor

namespace Go.Proofs.YtcajmohgjojhhaaGreatDoor
open Go.RowKit Go.Extern

theorem keep9 {w w' : World} {B C : Nat} (h : Below B w w') (hC : B ≤ C) (x1 x2 x3 x4 x5 x6 x7 x8 x9 : Value) : Below B w (((((((((w'.setCell ⟨C, 1, none⟩ x1).setCell ⟨C, 2, none⟩ x2).setCell ⟨C, 3, none⟩ x3).setCell ⟨C, 4, none⟩ x4).setCell ⟨C, 5, none⟩ x5).setCell ⟨C, 6, none⟩ x6).setCell ⟨C, 7, none⟩ x7).setCell ⟨C, 8, none⟩ x8).setCell ⟨C, 9, none⟩ x9) :=
  ((((((((h.setCell (p := ⟨C, 1, none⟩) hC x1).setCell (p := ⟨C, 2, none⟩) hC x2).setCell (p := ⟨C, 3, none⟩) hC x3).setCell (p := ⟨C, 4, none⟩) hC x4).setCell (p := ⟨C, 5, none⟩) hC x5).setCell (p := ⟨C, 6, none⟩) hC x6).setCell (p := ⟨C, 7, none⟩) hC x7).setCell (p := ⟨C, 8, none⟩) hC x8).setCell (p := ⟨C, 9, none⟩) hC x9

/-- What the end of a good frame leans on. -/
structure DecEnd (w4 : World) (R : Nat) (kd : Int) : Prop where
  cellR : ∀ j, j < 10 → w4.cell? ⟨R, j, none⟩ = some (.int .i64 0)
  frR : ∀ j, w4.frozen? ⟨R, j, none⟩ = false
  kind : w4.cell? ⟨R + 1, 0, none⟩ = some (.int .i64 kd)
  cellC : ∀ j, j < 9 → w4.cell? ⟨R + 1, 1 + j, none⟩ = some (.int .i64 0)
  frC : ∀ j, w4.frozen? ⟨R + 1, j, none⟩ = false
theorem decEnd {w2 wr w4 : World} {R : Nat} {kd : Int} (hm : DecMem w2 R kd) (hg : w2.grownBy wr (some (R + 2))) (hb : Below wr.heap.size wr w4) : DecEnd w4 R kd := by
  have hs := hm.size
  have hs' := hg.size
  have cc : ∀ (b o : Nat), b < R + 2 → w4.cell? ⟨b, o, none⟩ = w2.cell? ⟨b, o, none⟩ := fun b o hbo =>
    (hb.cell (p := ⟨b, o, none⟩) (by show b < wr.heap.size; omega)).trans (World.cell?_of_block (a := ⟨b, o, none⟩) (hg.block b (by omega) (by intro e; injection e with e; omega)))
  have ff : ∀ (b o : Nat), b < R + 2 → w4.frozen? ⟨b, o, none⟩ = w2.frozen? ⟨b, o, none⟩ := fun b o hbo =>
    (hb.frozen (p := ⟨b, o, none⟩) (by show b < wr.heap.size; omega)).trans (World.frozen?_of_block (a := ⟨b, o, none⟩) (hg.block b (by omega) (by intro e; injection e with e; omega)))
  exact ⟨fun j hj => (cc R j (by omega)).trans (hm.res j hj), fun j => (ff R j (by omega)).trans (hm.resF j), (cc (R + 1) 0 (by omega)).trans hm.kind,
    fun j hj => (cc (R + 1) (1 + j) (by omega)).trans (hm.cmd j hj), fun j => (ff (R + 1) j (by omega)).trans (hm.cmdF j)⟩

set_option maxRecDepth 100000 in
set_option maxHeartbeats 4000000 in
theorem dec_good (a : Nat → Addr) (st : Nat → ByteArray) (s : ByteArray) (w : World) (hE : Errs w a st) (hW : Wids w) (h : 0 < s.size) (h0 : bAt s 0 ≠ 0) (h1 : bAt s 0 + 1 ≤ s.size) (hm : s.size ≤ 1000000000) (hok : 1 ≤ bAt s 1 ∧ bAt s 1 ≤ 5 ∧ 2 + wsum (terms (bAt s 1)) = bAt s 0 + 1) :
    Calls Tryz.prog 60 #[.string s] w fun e w' => e = .returned (.tuple #[cmdV (bAt s 1) (reads s.data.toList 2 (terms (bAt s 1)) (fun _ => 0)), .int .i64 ((bAt s 0 : Int) + 1), .nilIface]) ∧ Below w.heap.size w w' := by
  have hb := getElem_bAt s 0 h
  have hs1 : 1 < s.size := by omega
  have hb1 := getElem_bAt s 1 hs1
  have hlt := bAt_lt s 0
  have hlt1 := bAt_lt s 1
  have HW : Hid (Wids w) := hW
  have h9 : 9 < w.heap.size := lt_of_cell' (hW 0 (by omega))
  clear hE hW
  generalize bAt s 0 = n at *
  generalize bAt s 1 = kd at *
  obtain ⟨hk1, hk5, hsum⟩ := hok
  have hwn : wrap64 ((n : Nat) : Int) = n := by unfold wrap64; omega
  have hwk : wrap64 ((kd : Nat) : Int) = kd := by unfold wrap64; omega
  have hz : ((n : Int) == 0) = false := beq_eq_false_iff_ne.2 (by omega)
  have hsz : ((s.size : Int) == 0) = false := beq_eq_false_iff_ne.2 (by omega)
  have HSUM : Hid (2 + wsum (terms (kd : Int)) = n + 1) := hsum
  clear hsum
  go_enter Tryz.func60, Tryz.ntmps60
  go_wp2_with fail
  go_step3
  go_wp2_with fail
  refine (termsOfKind_any' (kd : Int) _).mono ?_
  rintro e w2 ⟨ta, rfl, hia, hb2, hfa⟩
  have hmem : DecMem w2 w.heap.size (kd : Int) := decMem_start w (kd : Int) w2 _ rfl hb2
  have HB2 : Hid (Below w.heap.size w w2) := ((((Below.refl _ _).alloc (Nat.le_refl _) _).alloc (by simp) _).alloc (by simp; omega) _).trans (hb2.mono (by simp; omega))
  clear hb2
  have hs2 := hmem.size
  have HW2 : Hid (Wids w2) := HW.out.below HB2.out
  have hkd : decide (1 ≤ (kd : Int) ∧ (kd : Int) ≤ 5) = true := by simp; omega
  rw [hkd]
  have hws := wsum_fsum (terms (kd : Int))
  have hfr := frameSize_any (kd : Int) ta w2 hia HW2.out
  have hFeq : 2 + fsum (terms (kd : Int)) = (1 : Int) + (n : Int) := by have := HSUM.out; omega
  rw [hFeq] at hfr
  have HFR : Hid (Calls Tryz.prog 74 #[ta] w2 fun e w' => e = .returned (.int .i64 ((1 : Int) + (n : Int))) ∧ w' = w2) := hfr
  clear hfr hws hkd hFeq
  go_wp2_with fail
  refine HFR.out.mono ?_
  rintro e w' ⟨rfl, rfl⟩
  have hlen : (whichs (kd : Int)).length = (terms (kd : Int)).length := by simp [whichs]
  have hn9 := terms_len (kd : Int)
  have hg0 : w'.grownBy w' (some (w.heap.size + 2)) := ⟨rfl, rfl, rfl, Nat.le_refl _, fun _ _ _ => rfl⟩
  rcases hia with ⟨rfl, hnil⟩ | ⟨ba, rfl, hne', hca⟩
  · have ht : terms (kd : Int) = [] := by simpa [whichs] using hnil
    have HV : Hid (reads s.data.toList 2 (terms (kd : Int)) (fun _ => 0) = fun _ => 0) := by show _ = _; rw [ht]; rfl
    have hgr := hg0
    have hv0 := hmem.num 0 (by omega)
    have hv1 := hmem.num 1 (by omega)
    have hv2 := hmem.num 2 (by omega)
    have hv3 := hmem.num 3 (by omega)
    have hv4 := hmem.num 4 (by omega)
    have hv5 := hmem.num 5 (by omega)
    have hv6 := hmem.num 6 (by omega)
    have hv7 := hmem.num 7 (by omega)
    have hv8 := hmem.num 8 (by omega)
    clear ht hnil hlen hn9 hg0
    go_wp2_with fail
    refine wp_loop_rounds 1 ?_
    rw [rounds_succ]
    go_wp2_with fail
    refine (termsOf_any (fun _ => 0) _).mono ?_
    rintro e w4 ⟨rfl, hb4⟩
    have HD := decEnd hmem hgr hb4
    have HB4 : Hid (Below w.heap.size w w4) := HB2.out.trans ((grown_below hgr (by omega) (by omega)).trans (hb4.mono (by have := hgr.size; omega)))
    have hkk := HD.kind
    have hr0 := HD.cellR 0 (by omega)
    have hg0 := HD.frR 0
    have hr1 := HD.cellR 1 (by omega)
    have hg1 := HD.frR 1
    have hr2 := HD.cellR 2 (by omega)
    have hg2 := HD.frR 2
    have hr3 := HD.cellR 3 (by omega)
    have hg3 := HD.frR 3
    have hr4 := HD.cellR 4 (by omega)
    have hg4 := HD.frR 4
    have hr5 := HD.cellR 5 (by omega)
    have hg5 := HD.frR 5
    have hr6 := HD.cellR 6 (by omega)
    have hg6 := HD.frR 6
    have hr7 := HD.cellR 7 (by omega)
    have hg7 := HD.frR 7
    have hr8 := HD.cellR 8 (by omega)
    have hg8 := HD.frR 8
    have hr9 := HD.cellR 9 (by omega)
    have hg9 := HD.frR 9
    have hc0 := HD.cellC 0 (by omega)
    have hc1 := HD.cellC 1 (by omega)
    have hc2 := HD.cellC 2 (by omega)
    have hc3 := HD.cellC 3 (by omega)
    have hc4 := HD.cellC 4 (by omega)
    have hc5 := HD.cellC 5 (by omega)
    have hc6 := HD.cellC 6 (by omega)
    have hc7 := HD.cellC 7 (by omega)
    have hc8 := HD.cellC 8 (by omega)
    have hf1 := HD.frC 1
    have hf2 := HD.frC 2
    have hf3 := HD.frC 3
    have hf4 := HD.frC 4
    have hf5 := HD.frC 5
    have hf6 := HD.frC 6
    have hf7 := HD.frC 7
    have hf8 := HD.frC 8
    have hf9 := HD.frC 9
    clear hb4 hgr hmem
    go_wp2
    simp only [Exit.noGoto]
    refine bodyPost_ret (v := .tuple #[cmdV (kd : Int) (fun _ => 0), .int .i64 ((1 : Int) + (n : Int)), .nilIface]) (by simp [results, Tryz.results60, go_sem, hr0, hr1, hr2, hr3, hr4, hr5, hr6, hr7, hr8, hr9]) rfl ⟨by rw [HV.out, Int.add_comm], ?_⟩
    exact keep10 (keep9 HB4.out (by omega) _ _ _ _ _ _ _ _ _) _ _ _ _ _ _ _ _ _ _
  · rw [hlen]
    have HA : Hid (∀ i (h : i < (whichs (kd : Int)).length), w'.cell? ⟨ba, i, none⟩ = some (.int .i64 (whichs (kd : Int))[i])) := hca
    have HL : Hid ((whichs (kd : Int)).length = (terms (kd : Int)).length) := hlen
    clear hca hlen hne'
    generalize hN : (terms (kd : Int)).length = L at *
    have HN : Hid ((terms (kd : Int)).length = L) := hN
    clear hN
    have hbaC : ba ≠ w.heap.size + 2 := by have := hfa ba 0 _ _ rfl; simp at this; omega
    clear hfa
    have HM : Hid (DecMem w' w.heap.size (kd : Int)) := hmem
    clear hmem
    go_wp2_with fail
    go_loopw [10, 47] (fun at_ i wr => ∃ k : Nat, k ≤ L ∧ i = .int .i64 k ∧ at_ = .int .i64 ((2 + wsum ((terms (kd : Int)).take k) : Nat) : Int) ∧ w'.grownBy wr (some (w.heap.size + 2)) ∧
      (∀ j, j < 9 → wr.cell? ⟨w.heap.size + 2, j, none⟩ = some (.int .i64 (reads s.data.toList 2 ((terms (kd : Int)).take k) (fun _ => 0) j))) ∧ (∀ j, wr.frozen? ⟨w.heap.size + 2, j, none⟩ = false)) (fun _ i _ => L - (intOf i).toNat)
    case atStart => exact ⟨0, Nat.zero_le _, rfl, rfl, hg0, HM.out.num, HM.out.numF⟩
    case round =>
      obtain ⟨k, hkL, rfl, rfl, hgr, hcv, hfz⟩ := hrel
      have HCV : Hid (∀ j, j < 9 → wr.cell? ⟨w.heap.size + 2, j, none⟩ = some (.int .i64 (reads s.data.toList 2 ((terms (kd : Int)).take k) (fun _ => 0) j))) := hcv
      have HFZ : Hid (∀ j, wr.frozen? ⟨w.heap.size + 2, j, none⟩ = false) := hfz
      clear hcv hfz
      by_cases hlt : k < L
      · have hkt : k < (terms (kd : Int)).length := by rw [HN.out]; exact hlt
        have hok := terms_ok (kd : Int) _ (List.getElem_mem hkt)
        have hwd := terms_wid (kd : Int) _ (List.getElem_mem hkt)
        have hws : wsum ((terms (kd : Int)).take (k + 1)) = wsum ((terms (kd : Int)).take k) + (terms (kd : Int))[k].2 := by
          rw [List.take_succ_eq_append_getElem hkt, wsum_snoc]
        have hrd : reads s.data.toList 2 ((terms (kd : Int)).take (k + 1)) (fun _ => 0) = upd (reads s.data.toList 2 ((terms (kd : Int)).take k) (fun _ => 0)) (terms (kd : Int))[k].1 (rd s.data.toList (2 + wsum ((terms (kd : Int)).take k)) (terms (kd : Int))[k]) := by
          rw [List.take_succ_eq_append_getElem hkt, reads_snoc]
        have hca := hgr.cell (HA.out k (by rw [HL.out]; exact hlt)) (by simpa using hbaC)
        have htl := wsum_take_le (terms (kd : Int)) (k + 1)
        have hsm := HSUM.out
        simp only [whichs, List.getElem_map] at hca
        generalize hp : (terms (kd : Int))[k] = p at *
        obtain ⟨pa, pb⟩ := p
        obtain ⟨hp1, hp2, hp3⟩ := hok
        simp only at hp1 hp2 hp3 hca hws hrd hwd
        have hcx := HCV.out pa hp1
        have hfx := HFZ.out pa
        have HRD : Hid (reads s.data.toList 2 ((terms (kd : Int)).take (k + 1)) (fun _ => 0) = upd (reads s.data.toList 2 ((terms (kd : Int)).take k) (fun _ => 0)) pa (rd s.data.toList (2 + wsum ((terms (kd : Int)).take k)) (pa, pb))) := hrd
        have HWS : Hid (wsum ((terms (kd : Int)).take (k + 1)) = wsum ((terms (kd : Int)).take k) + pb) := hws
        have hsl : 2 + wsum ((terms (kd : Int)).take k) + pb ≤ s.size := by omega
        have hwr : Wids wr := fun i hi => hgr.cell (HW2.out i hi) (by intro e; injection e with e; have e' : 9 = w.heap.size + 2 := e; omega)
        clear hrd hws hp htl hsm
        generalize hat' : 2 + wsum ((terms (kd : Int)).take k) = A at *
        have HAT : Hid (2 + wsum ((terms (kd : Int)).take k) = A) := hat'
        clear hat'
        have hta := termAt_any s A pa pb wr hwr hp1 hwd hp2 hp3 hsl hm
        have hcw : ∀ x : Value, (wr.setCell ⟨w.heap.size + 2, pa, none⟩ x).cell? ⟨9, pa, none⟩ = some (.int .i64 (pb : Int)) := fun x => by
          rw [World.cell?_setCell_other _ _ _ _ (by intro e; injection e with e1 e2; omega), hwr pa hp1, hwd]
        have HNX : Hid (∀ x : Int, rd s.data.toList A (pa, pb) = x → ∀ j, j < 9 → (wr.setCell ⟨w.heap.size + 2, pa, none⟩ (.int .i64 x)).cell? ⟨w.heap.size + 2, j, none⟩ = some (.int .i64 (reads s.data.toList 2 ((terms (kd : Int)).take (k + 1)) (fun _ => 0) j))) := fun x hx j hj => by
          rw [HRD.out, hx]
          unfold upd
          by_cases hjp : j = pa
          · subst hjp
            rw [if_pos rfl]
            exact World.cell?_setCell_same _ _ _ hcx
          · rw [if_neg hjp, World.cell?_setCell_other _ _ _ _ (by intro e; injection e with e1 e2; omega)]
            exact HCV.out j hj
        have HFK : Hid (∀ (x : Value) (j : Nat), (wr.setCell ⟨w.heap.size + 2, pa, none⟩ x).frozen? ⟨w.heap.size + 2, j, none⟩ = false) := fun x j => by
          rw [World.frozen?_setCell]; exact HFZ.out j
        generalize hrx : rd s.data.toList A (pa, pb) = x at *
        have HRX : Hid (rd s.data.toList A (pa, pb) = x) := hrx
        have HTA : Hid (Calls Tryz.prog 75 #[.string s, .int .i64 A, .int .i64 pa] wr fun e w' => e = .returned (.int .i64 x) ∧ w' = wr) := hta
        have hpz : (0 : Int) ≤ (pa : Int) ∧ (pa : Int) < 9 := by omega
        clear hrx hta hwd hp3 hwr
        go_wp2_with fail
        refine HTA.out.mono ?_
        rintro e w3 ⟨rfl, rfl⟩
        go_wp2
        go_roundw
        case rel => exact ⟨k + 1, by omega, by go_num, int_eq (by have := HAT.out; rw [HWS.out]; omega), grown_set hgr _, HNX.out _ rfl, HFK.out _⟩
        case measure => simp [intOf]; omega
      · have hkL' : k = L := by omega
        subst hkL'
        have htk : (terms (kd : Int)).take k = terms (kd : Int) := List.take_of_length_le (by rw [HN.out]; omega)
        rw [htk]
        have HCV2 : Hid (∀ j, j < 9 → wr.cell? ⟨w.heap.size + 2, j, none⟩ = some (.int .i64 (reads s.data.toList 2 (terms (kd : Int)) (fun _ => 0) j))) := by
          have := HCV.out
          rw [htk] at this
          exact this
        clear htk HCV
        have hv0 := HCV2.out 0 (by omega)
        have hv1 := HCV2.out 1 (by omega)
        have hv2 := HCV2.out 2 (by omega)
        have hv3 := HCV2.out 3 (by omega)
        have hv4 := HCV2.out 4 (by omega)
        have hv5 := HCV2.out 5 (by omega)
        have hv6 := HCV2.out 6 (by omega)
        have hv7 := HCV2.out 7 (by omega)
        have hv8 := HCV2.out 8 (by omega)
        have hmem := HM.out
        generalize hVV : reads s.data.toList 2 (terms (kd : Int)) (fun _ => 0) = V at *
        have HV : Hid (reads s.data.toList 2 (terms (kd : Int)) (fun _ => 0) = V) := hVV
        clear hVV
        go_wp2_with fail
        refine (termsOf_any V _).mono ?_
        rintro e w4 ⟨rfl, hb4⟩
        have HD := decEnd hmem hgr hb4
        have HB4 : Hid (Below w.heap.size w w4) := HB2.out.trans ((grown_below hgr (by omega) (by omega)).trans (hb4.mono (by have := hgr.size; omega)))
        have hkk := HD.kind
        have hr0 := HD.cellR 0 (by omega)
        have hg0 := HD.frR 0
        have hr1 := HD.cellR 1 (by omega)
        have hg1 := HD.frR 1
        have hr2 := HD.cellR 2 (by omega)
        have hg2 := HD.frR 2
        have hr3 := HD.cellR 3 (by omega)
        have hg3 := HD.frR 3
        have hr4 := HD.cellR 4 (by omega)
        have hg4 := HD.frR 4
        have hr5 := HD.cellR 5 (by omega)
        have hg5 := HD.frR 5
        have hr6 := HD.cellR 6 (by omega)
        have hg6 := HD.frR 6
        have hr7 := HD.cellR 7 (by omega)
        have hg7 := HD.frR 7
        have hr8 := HD.cellR 8 (by omega)
        have hg8 := HD.frR 8
        have hr9 := HD.cellR 9 (by omega)
        have hg9 := HD.frR 9
        have hc0 := HD.cellC 0 (by omega)
        have hc1 := HD.cellC 1 (by omega)
        have hc2 := HD.cellC 2 (by omega)
        have hc3 := HD.cellC 3 (by omega)
        have hc4 := HD.cellC 4 (by omega)
        have hc5 := HD.cellC 5 (by omega)
        have hc6 := HD.cellC 6 (by omega)
        have hc7 := HD.cellC 7 (by omega)
        have hc8 := HD.cellC 8 (by omega)
        have hf1 := HD.frC 1
        have hf2 := HD.frC 2
        have hf3 := HD.frC 3
        have hf4 := HD.frC 4
        have hf5 := HD.frC 5
        have hf6 := HD.frC 6
        have hf7 := HD.frC 7
        have hf8 := HD.frC 8
        have hf9 := HD.frC 9
        clear hb4 hgr hmem
        go_wp2
        simp only [Exit.noGoto]
        refine bodyPost_ret (v := .tuple #[cmdV (kd : Int) V, .int .i64 ((1 : Int) + (n : Int)), .nilIface]) (by simp [results, Tryz.results60, go_sem, hr0, hr1, hr2, hr3, hr4, hr5, hr6, hr7, hr8, hr9]) rfl ⟨by rw [HV.out, Int.add_comm], ?_⟩
        exact keep10 (keep9 HB4.out (by omega) _ _ _ _ _ _ _ _ _) _ _ _ _ _ _ _ _ _ _

/-- decodeFrame, of every text. -/
theorem decodeFrame_any (a : Nat → Addr) (st : Nat → ByteArray) (s : ByteArray) (w : World) (hE : Errs w a st) (hW : Wids w) (hm : s.size ≤ 1000000000) :
    Calls Tryz.prog 60 #[.string s] w fun e w' => ∃ err m, e = .returned (.tuple #[cmdV (nextK s) (nextV s), .int .i64 m, err]) ∧ ErrBare a err (nextE s) ∧ m = (if nextE s = 0 then nextM s else 0) ∧ Below w.heap.size w w' := by
  by_cases h : s.size = 0
  · obtain rfl : s = ⟨#[]⟩ := by
      apply ByteArray.ext
      exact Array.eq_empty_of_size_eq_zero h
    refine (dec_short0 a st w hE).mono ?_
    rintro e w' ⟨err, rfl, h1, h2⟩
    exact ⟨err, 0, rfl, h1, rfl, h2⟩
  by_cases h0 : bAt s 0 = 0
  · have e : nextE s = 5 := by unfold nextE; rw [if_neg h, if_pos h0]
    have e1 : nextK s = 0 := by unfold nextK; rw [e]; rfl
    have e2 : nextV s = fun _ => 0 := by unfold nextV; rw [e]; rfl
    rw [e, e1, e2]
    refine (dec_zero a st s w hE (by omega) h0).mono ?_
    rintro e w' ⟨err, rfl, h1, h2⟩
    exact ⟨err, 0, rfl, h1, rfl, h2⟩
  by_cases h1 : s.size < bAt s 0 + 1
  · have e : nextE s = 4 := by unfold nextE; rw [if_neg h, if_neg h0, if_pos h1]
    have e1 : nextK s = 0 := by unfold nextK; rw [e]; rfl
    have e2 : nextV s = fun _ => 0 := by unfold nextV; rw [e]; rfl
    rw [e, e1, e2]
    refine (dec_short a st s w hE (by omega) h0 h1).mono ?_
    rintro e w' ⟨err, rfl, h1, h2⟩
    exact ⟨err, 0, rfl, h1, rfl, h2⟩
  by_cases hok : 1 ≤ bAt s 1 ∧ bAt s 1 ≤ 5 ∧ 2 + wsum (terms (bAt s 1)) = bAt s 0 + 1
  · obtain ⟨e1, e2, e3, e⟩ := next_good s (by omega) h0 (by omega) hok
    rw [e, e1, e2, e3]
    refine (dec_good a st s w hE hW (by omega) h0 (by omega) hm hok).mono ?_
    rintro e w' ⟨rfl, h2⟩
    exact ⟨.nilIface, _, rfl, .inl ⟨rfl, rfl⟩, rfl, h2⟩
  · obtain ⟨e1, e2, e3, e⟩ := next_bad s (by omega) h0 (by omega) hok
    rw [e, e1, e2]
    refine (dec_bad a st s w hE hW (by omega) h0 (by omega) hok).mono ?_
    rintro e w' ⟨err, rfl, h1, h2⟩
    exact ⟨err, 0, rfl, h1, rfl, h2⟩
end Go.Proofs.YtcajmohgjojhhaaGreatDoor
