import Derived.Test.YtcajmohgjojhhaaGreatDoorMH
import Derived.Test.YtcajmohgjojhhaaGreatDoorPDec
import Derived.Test.YtcajmohgjojhhaaGreatDoorMC
set_option linter.unusedVariables false
set_option linter.unusedSimpArgs false
namespace Go.Proofs.YtcajmohgjojhhaaGreatDoor
open Go.RowKit Go.Extern

abbrev nineC (v : Nat → Int) : Array Value := #[.int .i64 (v 0), .int .i64 (v 1), .int .i64 (v 2), .int .i64 (v 3), .int .i64 (v 4), .int .i64 (v 5), .int .i64 (v 6), .int .i64 (v 7), .int .i64 (v 8)]
abbrev tenC (k : Int) (v : Nat → Int) : Array Value := #[.int .i64 k, .int .i64 (v 0), .int .i64 (v 1), .int .i64 (v 2), .int .i64 (v 3), .int .i64 (v 4), .int .i64 (v 5), .int .i64 (v 6), .int .i64 (v 7), .int .i64 (v 8)]
set_option maxRecDepth 100000 in
set_option maxHeartbeats 4000000 in
theorem pure_decode {w0 w : World} {n : Nat} {ws : List ByteArray} {left : Int} (h : St w0 w n ws left) (hn : n ≤ 100000000) (hl : 0 < left) (ad : Nat → Addr) (st : Nat → ByteArray) (hE : Errs w ad st) (hW : Wids w) (a b d : Int) (s : ByteArray) (v : Nat → Int) (ha : I64 a) :
    Calls Tryz.prog 12 #[.pointer (some ⟨w0.heap.size, 0, none⟩), opV 9 a b d s v] w fun e w' => e = .returned (.bool true) ∧ Next w0 w' n := by
  have hsum := h.sum
  have hz1 := wordAt_size ws a
  have HS : Hid (St w0 (w.alloc (.cells (opC 9 a b d s v) 28)) n ws left) := h.below (below_new _)
  have HE : Hid (Errs (w.alloc (.cells (opC 9 a b d s v) 28)) ad st) := hE.below (below_new _)
  have HW : Hid (Wids (w.alloc (.cells (opC 9 a b d s v) 28))) := hW.below (below_new _)
  clear h hE hW
  go_enter Tryz.func12, Tryz.ntmps12
  go_wp2_with fail
  refine (HS.out.word a (by omega) ha.1 ha.2).mono ?_
  rintro e w1 ⟨rfl, m, rfl⟩
  generalize hta : wordAt ws a = ta at *
  have HS1 : Hid (St w0 ((w.alloc (.cells (opC 9 a b d s v) 28)).drewN m) n ws left) := HS.out.drewN m
  have HE1 : Hid (Errs ((w.alloc (.cells (opC 9 a b d s v) 28)).drewN m) ad st) := HE.out.below ⟨rfl, rfl, rfl, Nat.le_refl _, fun _ _ => rfl⟩
  have HW1 : Hid (Wids ((w.alloc (.cells (opC 9 a b d s v) 28)).drewN m)) := HW.out.below ⟨rfl, rfl, rfl, Nat.le_refl _, fun _ _ => rfl⟩
  go_wp2_with fail
  refine (plainDecode_any ad st ta _ HE1.out HW1.out (by omega)).mono ?_
  rintro e w2 ⟨rfl, hb2⟩
  have HS2 : Hid (St w0 w2 n ws left) := HS1.out.below hb2
  clear hb2
  have hRN := fun W => next_any ta W (by omega)
  obtain ⟨K, hK⟩ : ∃ K, nextK ta = K := ⟨_, rfl⟩
  obtain ⟨V, hV⟩ : ∃ V, nextV ta = V := ⟨_, rfl⟩
  obtain ⟨Bn, hBn⟩ : ∃ Bn, nextB ta = Bn := ⟨_, rfl⟩
  obtain ⟨M, hM⟩ : ∃ M, nextM ta = M := ⟨_, rfl⟩
  obtain ⟨E, hEq⟩ : ∃ E, nextE ta = E := ⟨_, rfl⟩
  simp only [hK, hV, hM, hEq] at hRN
  have HRN : Hid (∀ W, Calls Tryz.prog 22 #[.string ta] W fun e w' => e = .returned (.tuple #[cmdV K V, .int .i64 M, .int .i64 E]) ∧ Below W.heap.size W w') := hRN
  have HF : Hid ((E ≠ 0 → Bn = 0 ∧ K = 0 ∧ V = fun _ => 0) ∧ (E = 0 → Bn = M)) := by
    refine ⟨fun q => ⟨?_, ?_, ?_⟩, fun q => ?_⟩
    · rw [← hBn, nextB, hEq, if_neg q]
    · rw [← hK, nextK, hEq, if_neg q]
    · rw [← hV, nextV, hEq, if_neg q]
    · rw [← hBn, nextB, hEq, if_pos q, hM]
  rw [hK, hV, hBn, hEq]
  clear hRN hK hV hBn hM hEq
  go_wp2_with fail
  refine (HRN.out _).mono ?_
  rintro e w3 ⟨rfl, hb3⟩
  have HS3 : Hid (St w0 w3 n ws left) := (HS2.out.below (below_new (.cells (nineC V) 26))).below hb3
  have hcell : ∀ j u, (nineC V)[j]? = some u → w3.cell? ⟨w2.heap.size, j, none⟩ = some u := fun j u hj => (hb3.cell (p := ⟨w2.heap.size, j, none⟩) (by simp)).trans (cell_new w2 _ _ j u hj)
  have c0 := hcell 0 _ rfl
  have c1 := hcell 1 _ rfl
  have c2 := hcell 2 _ rfl
  have c3 := hcell 3 _ rfl
  have c4 := hcell 4 _ rfl
  have c5 := hcell 5 _ rfl
  have c6 := hcell 6 _ rfl
  have c7 := hcell 7 _ rfl
  have c8 := hcell 8 _ rfl
  have hs3 : w2.heap.size < w3.heap.size := by have := hb3.size; simp at this; omega
  have hold : ∀ o j, (w3.alloc o).cell? ⟨w2.heap.size, j, none⟩ = w3.cell? ⟨w2.heap.size, j, none⟩ := fun o j => World.cell?_alloc_lt _ _ _ hs3
  have HFIN : Hid (∀ o, Next w0 (w3.alloc o) n) := fun o => (HS3.out.below (below_new o)).next
  have heq := fun W => eq9 V W
  have hgd := Tryz.arrGuard
  clear hcell hb3
  by_cases hE0 : E = 0
  · obtain rfl := HF.out.2 hE0
    subst hE0
    go_wp2
    go_ret
    exact ⟨rfl, HFIN.out _⟩
  · obtain ⟨rfl, rfl, rfl⟩ := HF.out.1 hE0
    have hq : (E == 0) = false := beq_eq_false_iff_ne.2 hE0
    go_wp2
    go_ret
    exact ⟨rfl, HFIN.out _⟩
end Go.Proofs.YtcajmohgjojhhaaGreatDoor
