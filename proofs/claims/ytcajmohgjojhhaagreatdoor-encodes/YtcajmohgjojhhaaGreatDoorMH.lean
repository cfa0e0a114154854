import Derived.Test.YtcajmohgjojhhaaGreatDoorMG
import Derived.Test.YtcajmohgjojhhaaGreatDoorMC
import Derived.Deep.AppendLies
import Derived.Deep.RegionLaw
import Derived.Test.YtcajmohgjojhhaaGreatDoorFrame4
import Derived.Lib.ConvBytes
set_option linter.unusedVariables false
set_option linter.unusedSimpArgs false
namespace Go.Proofs.YtcajmohgjojhhaaGreatDoor
open Go.RowKit Go.Extern

/-- A step of a script. -/
abbrev opV (kind a b d : Int) (s : ByteArray) (v : Nat → Int) : Value := .agg #[.int .i64 kind, .int .i64 a, .int .i64 b, .int .i64 d, .string s, .int .i64 (v 0), .int .i64 (v 1), .int .i64 (v 2), .int .i64 (v 3), .int .i64 (v 4), .int .i64 (v 5), .int .i64 (v 6), .int .i64 (v 7), .int .i64 (v 8)]
abbrev opC (kind a b d : Int) (s : ByteArray) (v : Nat → Int) : Array Value := #[.int .i64 kind, .int .i64 a, .int .i64 b, .int .i64 d, .string s, .int .i64 (v 0), .int .i64 (v 1), .int .i64 (v 2), .int .i64 (v 3), .int .i64 (v 4), .int .i64 (v 5), .int .i64 (v 6), .int .i64 (v 7), .int .i64 (v 8)]
def I64 (x : Int) : Prop := -9223372036854775808 ≤ x ∧ x ≤ 9223372036854775807
theorem below_new {w : World} (o : Obj) : Below w.heap.size w (w.alloc o) := (Below.refl _ _).alloc (Nat.le_refl _) _
/-- What a step leaves. -/
def Next (w0 w' : World) (n : Nat) : Prop := ∃ ws' left', St w0 w' (n + 1) ws' left'
theorem St.next {w0 w : World} {n : Nat} {ws : List ByteArray} {left : Int} (h : St w0 w n ws left) : Next w0 w n := ⟨ws, left, h.mono (Nat.le_succ n)⟩

theorem cut_upto (t : ByteArray) (q : Nat) (w : World) (h : q ≤ t.size) : (Instr.slice 9 (.string t) none (some (.int .i64 (q : Int))) none).run Tryz.prog w = .ok (.string (t.extract 0 q)) w := by
  rw [run_slice_string_to_if w 9 t .i64 (q : Int) Tryz.underlying9, if_pos (by omega)]
  rfl
theorem cut_back (t : ByteArray) (q : Nat) (w : World) (h : q ≤ t.size) : (Instr.slice 9 (.string t) (some (.int .i64 (q : Int))) none none).run Tryz.prog w = .ok (.string (t.extract q t.size)) w := by
  rw [run_slice_string_from_if w 9 t .i64 (q : Int) Tryz.underlying9, if_pos (by omega)]
  rfl

section
variable {w0 w : World} {n : Nat} {ws : List ByteArray} {left : Int}

set_option maxRecDepth 100000 in
set_option maxHeartbeats 4000000 in
theorem owner_word (h : St w0 w n ws left) (a b d : Int) (s : ByteArray) (v : Nat → Int) (hn : n ≤ 100000000) (ha : I64 a) (hs : s.size ≤ 1000000000) (hl : 0 < left) :
    Calls Tryz.prog 16 #[.pointer (some ⟨w0.heap.size, 0, none⟩), opV 4 a b d s v] w fun e w' => e = .returned (.tuple #[]) ∧ Next w0 w' n := by
  have HS : Hid (St w0 (w.alloc (.cells (opC 4 a b d s v) 28)) n ws left) := h.below (below_new _)
  clear h
  go_enter Tryz.func16, Tryz.ntmps16
  go_wp2_with fail
  refine (HS.out.word a (by omega) ha.1 ha.2).mono ?_
  rintro e w1 ⟨rfl, m, rfl⟩
  go_wp2_with fail
  refine ((HS.out.drewN m).keep s (by omega) hs (by omega)).mono ?_
  rintro e w2 ⟨rfl, hS2, hsz⟩
  have HS2 : Hid (St w0 w2 (n + 1) (ws ++ [s]) (left - (s.size : Int))) := hS2
  clear hS2
  go_wp2
  go_end0
  exact ⟨rfl, _, _, HS2.out⟩

set_option maxRecDepth 100000 in
set_option maxHeartbeats 4000000 in
theorem owner_join (h : St w0 w n ws left) (a b d : Int) (s : ByteArray) (v : Nat → Int) (hn : n ≤ 100000000) (ha : I64 a) (hb : I64 b) (hl : 0 < left) :
    Calls Tryz.prog 16 #[.pointer (some ⟨w0.heap.size, 0, none⟩), opV 5 a b d s v] w fun e w' => e = .returned (.tuple #[]) ∧ Next w0 w' n := by
  have hsum := h.sum
  have hz1 := wordAt_size ws a
  have hz2 := wordAt_size ws b
  have HS : Hid (St w0 (w.alloc (.cells (opC 5 a b d s v) 28)) n ws left) := h.below (below_new _)
  clear h
  go_enter Tryz.func16, Tryz.ntmps16
  go_wp2_with fail
  refine (HS.out.word a (by omega) ha.1 ha.2).mono ?_
  rintro e w1 ⟨rfl, m, rfl⟩
  generalize hta : wordAt ws a = ta at *
  generalize htb : wordAt ws b = tb at *
  go_wp2_with fail
  refine ((HS.out.drewN m).word b (by omega) hb.1 hb.2).mono ?_
  rintro e w2 ⟨rfl, m2, rfl⟩
  rw [htb]
  have happ : (ta ++ tb).size ≤ 1000000000 := by rw [ByteArray.size_append]; omega
  go_wp2_with fail
  refine ((HS.out.drewN (m + m2)).keep (ta ++ tb) (by omega) happ (by omega)).mono ?_
  rintro e w2 ⟨rfl, hS2, hsz⟩
  have HS2 : Hid (Next w0 w2 n) := ⟨_, _, hS2⟩
  clear hS2
  go_wp2
  go_end0
  exact ⟨rfl, HS2.out⟩

set_option maxRecDepth 100000 in
set_option maxHeartbeats 4000000 in
theorem owner_cut (h : St w0 w n ws left) (a b d : Int) (s : ByteArray) (v : Nat → Int) (hn : n ≤ 100000000) (ha : I64 a) (hb : I64 b) (hl : 0 < left) :
    Calls Tryz.prog 16 #[.pointer (some ⟨w0.heap.size, 0, none⟩), opV 7 a b d s v] w fun e w' => e = .returned (.tuple #[]) ∧ Next w0 w' n := by
  have hsum := h.sum
  have hz1 := wordAt_size ws a
  have hz2 := wordAt_size ws b
  have HS : Hid (St w0 (w.alloc (.cells (opC 7 a b d s v) 28)) n ws left) := h.below (below_new _)
  clear h
  generalize hta : wordAt ws a = ta at *
  have hpk := fun W => pick_any b ((ta.size : Int) + 1) W hb.1 hb.2 (by omega) (by omega)
  have hpb := pick_bd b ((ta.size : Int) + 1) (by omega)
  obtain ⟨q, hq⟩ : ∃ q : Nat, pickN b ((ta.size : Int) + 1) = q := ⟨(pickN b ((ta.size : Int) + 1)).toNat, by omega⟩
  rw [hq] at hpb hpk
  have hq2 : q ≤ ta.size := by omega
  clear hpb hq
  have HPK : Hid (∀ W, Calls Tryz.prog 15 #[.int .i64 b, .int .i64 ((ta.size : Int) + 1)] W fun e w' => e = .returned (.int .i64 (q : Int)) ∧ w' = W) := hpk
  clear hpk
  have hcut := fun W => cut_upto ta q W hq2
  go_enter Tryz.func16, Tryz.ntmps16
  go_wp2_with fail
  refine (HS.out.word a (by omega) ha.1 ha.2).mono ?_
  rintro e w1 ⟨rfl, m, rfl⟩
  rw [hta]
  go_wp2_with fail
  refine (HPK.out _).mono ?_
  rintro e w2 ⟨rfl, rfl⟩
  have happ : (ta.extract 0 q).size ≤ 1000000000 := by simp; omega
  go_wp2_with fail
  refine ((HS.out.drewN m).keep (ta.extract 0 q) (by omega) happ (by omega)).mono ?_
  rintro e w2 ⟨rfl, hS2, hsz⟩
  have HS2 : Hid (Next w0 w2 n) := ⟨_, _, hS2⟩
  clear hS2
  go_wp2
  go_end0
  exact ⟨rfl, HS2.out⟩

set_option maxRecDepth 100000 in
set_option maxHeartbeats 4000000 in
theorem owner_rest (h : St w0 w n ws left) (a b d : Int) (s : ByteArray) (v : Nat → Int) (hn : n ≤ 100000000) (ha : I64 a) (hb : I64 b) (hl : 0 < left) :
    Calls Tryz.prog 16 #[.pointer (some ⟨w0.heap.size, 0, none⟩), opV 8 a b d s v] w fun e w' => e = .returned (.tuple #[]) ∧ Next w0 w' n := by
  have hsum := h.sum
  have hz1 := wordAt_size ws a
  have hz2 := wordAt_size ws b
  have HS : Hid (St w0 (w.alloc (.cells (opC 8 a b d s v) 28)) n ws left) := h.below (below_new _)
  clear h
  generalize hta : wordAt ws a = ta at *
  have hpk := fun W => pick_any b ((ta.size : Int) + 1) W hb.1 hb.2 (by omega) (by omega)
  have hpb := pick_bd b ((ta.size : Int) + 1) (by omega)
  obtain ⟨q, hq⟩ : ∃ q : Nat, pickN b ((ta.size : Int) + 1) = q := ⟨(pickN b ((ta.size : Int) + 1)).toNat, by omega⟩
  rw [hq] at hpb hpk
  have hq2 : q ≤ ta.size := by omega
  clear hpb hq
  have HPK : Hid (∀ W, Calls Tryz.prog 15 #[.int .i64 b, .int .i64 ((ta.size : Int) + 1)] W fun e w' => e = .returned (.int .i64 (q : Int)) ∧ w' = W) := hpk
  clear hpk
  have hcut := fun W => cut_back ta q W hq2
  go_enter Tryz.func16, Tryz.ntmps16
  go_wp2_with fail
  refine (HS.out.word a (by omega) ha.1 ha.2).mono ?_
  rintro e w1 ⟨rfl, m, rfl⟩
  rw [hta]
  go_wp2_with fail
  refine (HPK.out _).mono ?_
  rintro e w2 ⟨rfl, rfl⟩
  have happ : (ta.extract q ta.size).size ≤ 1000000000 := by simp; omega
  go_wp2_with fail
  refine ((HS.out.drewN m).keep (ta.extract q ta.size) (by omega) happ (by omega)).mono ?_
  rintro e w2 ⟨rfl, hS2, hsz⟩
  have HS2 : Hid (Next w0 w2 n) := ⟨_, _, hS2⟩
  clear hS2
  go_wp2
  go_end0
  exact ⟨rfl, HS2.out⟩

set_option maxRecDepth 100000 in
set_option maxHeartbeats 4000000 in
theorem owner_mine (h : St w0 w n ws left) (a b d : Int) (s : ByteArray) (v : Nat → Int) (hn : n ≤ 100000000) (ha : I64 a) (hb : I64 b) (hl : 0 < left) :
    Calls Tryz.prog 16 #[.pointer (some ⟨w0.heap.size, 0, none⟩), opV 17 a b d s v] w fun e w' => e = .returned (.tuple #[]) ∧ Next w0 w' n := by
  have hsum := h.sum
  have hz1 := wordAt_size ws a
  have hz2 := wordAt_size ws b
  have HS : Hid (St w0 (w.alloc (.cells (opC 17 a b d s v) 28)) n ws left) := h.below (below_new _)
  clear h
  go_enter Tryz.func16, Tryz.ntmps16
  go_wp2_with fail
  refine (HS.out.word a (by omega) ha.1 ha.2).mono ?_
  rintro e w1 ⟨rfl, m, rfl⟩
  go_wp2_with fail
  refine (mine_any (HS.out.drewN m) a (by omega) ha.1 ha.2).mono ?_
  rintro e w2 ⟨rfl, hS2⟩
  have HS2 : Hid (Next w0 w2 n) := hS2.next
  clear hS2
  go_wp2
  go_end0
  exact ⟨rfl, HS2.out⟩

set_option maxRecDepth 100000 in
set_option maxHeartbeats 4000000 in
theorem owner_else (h : St w0 w n ws left) (kind a b d : Int) (s : ByteArray) (v : Nat → Int) (hn : n ≤ 100000000) (ha : I64 a) (hb : I64 b) (hl : 0 < left) (k1 : kind ≠ 1) (k2 : kind ≠ 2) (k4 : kind ≠ 4) (k5 : kind ≠ 5) (k6 : kind ≠ 6) (k7 : kind ≠ 7) (k8 : kind ≠ 8) (k17 : kind ≠ 17) :
    Calls Tryz.prog 16 #[.pointer (some ⟨w0.heap.size, 0, none⟩), opV kind a b d s v] w fun e w' => e = .returned (.tuple #[]) ∧ Next w0 w' n := by
  have hsum := h.sum
  have hz1 := wordAt_size ws a
  have hz2 := wordAt_size ws b
  have HS : Hid (St w0 (w.alloc (.cells (opC kind a b d s v) 28)) n ws left) := h.below (below_new _)
  clear h
  have e1 := beq_eq_false_iff_ne.2 k1
  have e2 := beq_eq_false_iff_ne.2 k2
  have e4 := beq_eq_false_iff_ne.2 k4
  have e5 := beq_eq_false_iff_ne.2 k5
  have e6 := beq_eq_false_iff_ne.2 k6
  have e7 := beq_eq_false_iff_ne.2 k7
  have e8 := beq_eq_false_iff_ne.2 k8
  have e17 := beq_eq_false_iff_ne.2 k17
  go_enter Tryz.func16, Tryz.ntmps16
  go_wp2_with fail
  refine (HS.out.word a (by omega) ha.1 ha.2).mono ?_
  rintro e w1 ⟨rfl, m, rfl⟩
  have HS2 : Hid (Next w0 ((w.alloc (.cells (opC kind a b d s v) 28)).drewN m) n) := (HS.out.drewN m).next
  go_wp2
  go_end0
  exact ⟨rfl, HS2.out⟩
end
end Go.Proofs.YtcajmohgjojhhaaGreatDoor

namespace Go.Proofs.YtcajmohgjojhhaaGreatDoor
open Go.RowKit Go.Extern

theorem cell_box (w : World) (cs : Array Value) (ty : TypeId) (m j : Nat) (u : Value) (h : cs[j]? = some u) : ((w.alloc (.cells cs ty)).drewN m).cell? ⟨w.heap.size, j, none⟩ = some u := by
  show (w.alloc (.cells cs ty)).cell? ⟨w.heap.size, j, none⟩ = some u
  rw [World.cell?_alloc_at _ _ _ _ rfl]
  exact h
theorem cell_new (w : World) (cs : Array Value) (ty : TypeId) (j : Nat) (u : Value) (h : cs[j]? = some u) : (w.alloc (.cells cs ty)).cell? ⟨w.heap.size, j, none⟩ = some u := by
  rw [World.cell?_alloc_at _ _ _ _ rfl]
  exact h
theorem owns_drew {w : World} {B : Nat} {e : TypeId} {size : Nat} {v : Value} {n : Nat} {xs : List Value} (h : w.ownsRow B e size v n xs) : w.drew.ownsRow B e size v n xs := h
theorem Tryz.infoInt : (Tryz.prog.info? 3).map (fun i => (i.size, i.bytes)) = some (1, 8) := by kernel_rfl
theorem Tryz.zeroInt : (Tryz.prog.info? 3).map (fun i => i.zero) = some (some (.int .i64 0)) := by kernel_rfl

section
variable {w0 w : World} {n : Nat} {ws : List ByteArray} {left : Int}

theorem pick3 (a : Int) : ∃ q : Nat, pickN a 3 = q ∧ q < 3 := by
  have := pick_bd a 3 (by omega)
  exact ⟨(pickN a 3).toNat, by omega, by omega⟩

set_option maxRecDepth 100000 in
set_option maxHeartbeats 4000000 in
theorem owner_num (h : St w0 w n ws left) (a b d : Int) (s : ByteArray) (v : Nat → Int) (hn : n ≤ 100000000) (ha : I64 a) :
    Calls Tryz.prog 16 #[.pointer (some ⟨w0.heap.size, 0, none⟩), opV 1 a b d s v] w fun e w' => e = .returned (.tuple #[]) ∧ Next w0 w' n := by
  have HS : Hid (St w0 (w.alloc (.cells (opC 1 a b d s v) 28)) n ws left) := h.below (below_new _)
  have hpk := fun W => pick_any a 3 W ha.1 ha.2 (by omega) (by omega)
  obtain ⟨q, hq, hq3⟩ := pick3 a
  rw [hq] at hpk
  have HPK : Hid (∀ W, Calls Tryz.prog 15 #[.int .i64 a, .int .i64 3] W fun e w' => e = .returned (.int .i64 (q : Int)) ∧ w' = W) := hpk
  clear hpk hq
  have hlt := h.lt
  clear h
  go_enter Tryz.func16, Tryz.ntmps16
  go_wp2_with fail
  refine (HS.out.word a (by omega) ha.1 ha.2).mono ?_
  rintro e w1 ⟨rfl, m, rfl⟩
  have HS1 : Hid (St w0 ((w.alloc (.cells (opC 1 a b d s v) 28)).drewN m) n ws left) := HS.out.drewN m
  obtain ⟨x0, hx0⟩ := HS1.out.c0
  obtain ⟨x1, hx1⟩ := HS1.out.c1
  obtain ⟨x2, hx2⟩ := HS1.out.c2
  have hf0 := HS1.out.froz 0
  have hf1 := HS1.out.froz 1
  have hf2 := HS1.out.froz 2
  have hb1 : ((w.alloc (.cells (opC 1 a b d s v) 28)).drewN m).cell? ⟨w.heap.size, 1, none⟩ = some (.int .i64 a) := cell_box _ _ _ _ _ _ rfl
  have hb2 : ((w.alloc (.cells (opC 1 a b d s v) 28)).drewN m).cell? ⟨w.heap.size, 2, none⟩ = some (.int .i64 b) := cell_box _ _ _ _ _ _ rfl
  go_wp2_with fail
  generalize (w.alloc (.cells (opC 1 a b d s v) 28)).drewN m = W at *
  obtain rfl | rfl | rfl : q = 0 ∨ q = 1 ∨ q = 2 := by omega
  all_goals
    go_region_held3 (fun X => X.cell? ⟨w.heap.size, 1, none⟩ = some (.int .i64 a) ∧ X.cell? ⟨w.heap.size, 2, none⟩ = some (.int .i64 b)) (first | exact ⟨hb1, hb2⟩ | exact ⟨(World.cell?_setCell_other _ _ _ _ (by intro e; injection e with ea eb; omega)).trans hb1, (World.cell?_setCell_other _ _ _ _ (by intro e; injection e with ea eb; omega)).trans hb2⟩) ((go_at_call 15; refine (HPK.out _).mono ?_; rintro e w' ⟨rfl, rfl⟩))
  · have HS2 := (HS1.out.setInt 0 (by omega) b).drew.next
    go_wp2
    go_end0
    exact ⟨rfl, HS2⟩
  · have HS2 := (HS1.out.setInt 1 (by omega) b).drew.next
    go_wp2
    go_end0
    exact ⟨rfl, HS2⟩
  · have HS2 := (HS1.out.setInt 2 (by omega) b).drew.next
    go_wp2
    go_end0
    exact ⟨rfl, HS2⟩

set_option maxRecDepth 100000 in
set_option maxHeartbeats 4000000 in
theorem owner_draw (h : St w0 w n ws left) (a b d : Int) (s : ByteArray) (v : Nat → Int) (hn : n ≤ 100000000) (ha : I64 a) :
    Calls Tryz.prog 16 #[.pointer (some ⟨w0.heap.size, 0, none⟩), opV 2 a b d s v] w fun e w' => e = .returned (.tuple #[]) ∧ Next w0 w' n := by
  obtain ⟨i0, hi, hz0, hz1, hz2⟩ := info_parts2 Tryz.infoInt Tryz.zeroInt
  have HS : Hid (St w0 (w.alloc (.cells (opC 2 a b d s v) 28)) n ws left) := h.below (below_new _)
  have hlt := h.lt
  clear h
  go_enter Tryz.func16, Tryz.ntmps16
  go_wp2_with fail
  refine (HS.out.word a (by omega) ha.1 ha.2).mono ?_
  rintro e w1 ⟨rfl, m, rfl⟩
  have HS1 : Hid (St w0 ((w.alloc (.cells (opC 2 a b d s v) 28)).drewN m) n ws left) := HS.out.drewN m
  have hb2 : ((w.alloc (.cells (opC 2 a b d s v) 28)).drewN m).cell? ⟨w.heap.size, 2, none⟩ = some (.int .i64 b) := cell_box _ _ _ _ _ _ rfl
  have hsz : w.heap.size < ((w.alloc (.cells (opC 2 a b d s v) 28)).drewN m).heap.size := by
    show w.heap.size < (w.alloc _).heap.size
    simp
  go_wp2_with fail
  generalize (w.alloc (.cells (opC 2 a b d s v) 28)).drewN m = W at *
  obtain ⟨dv, md, xs, hc3, hown, hints, hmd⟩ := HS1.out.draws
  have hf3 := HS1.out.froz 3
  have hltW := HS1.out.lt
  have hc3a : ∀ o, (W.alloc o).drew.cell? ⟨w0.heap.size, 3, none⟩ = some dv := fun o => (World.cell?_alloc_lt W o ⟨w0.heap.size, 3, none⟩ hltW).trans hc3
  have hrow : ∀ q, dv.ownBlock = some q → w0.heap.size + 1 ≤ q := fun q hq => (hown.lt q hq).1
  have hfar : some w0.heap.size ≠ dv.ownBlock := fun e => by have := hrow _ e.symm; omega
  have HOWN : Hid (W.ownsRow (w0.heap.size + 1) 3 1 dv md xs) := hown
  have HINTS : Hid (∀ u ∈ xs, ∃ x, u = .int .i64 x) := hints
  have hmd2 : md ≤ 100000000 := by omega
  clear hown hints
  go_region_law ((
    refine step_append_lies _ (by rfl) _ _ 31 (by rfl) (w0.heap.size + 1) 3 i0 (.int .i64 0) 1 8 Tryz.underlying31 hi hz0 hz1 hz2 rfl (by decide) dv md xs (by rfl) (owns_drew (World.ownsRow.alloc HOWN.out _)) ⟨W.heap.size, 0, none⟩ 1 1 [.int .i64 b] (by rfl) rfl ?_ ?_ (by decide) ?_ ?_ ?_ (W.heap.size + 1) (by simp) ?_
    · intro j u hj
      match j, hj with
      | 0, hj =>
        simp at hj
        subst hj
        exact cell_new W _ _ 0 _ rfl
    · intro u hu; simp at hu; subst hu; rfl
    · unfold maxLen; omega
    · omega
    · simp; omega
    intro g cap w1 hown1 hgrow hat hltg
    have hc3W : w1.cell? ⟨w0.heap.size, 3, none⟩ = some dv := (hgrow.cell_far ⟨w0.heap.size, 3, none⟩ (by simp; omega) hfar).trans (hc3a _)
    have hf3W : w1.frozen? ⟨w0.heap.size, 3, none⟩ = false := (hgrow.frozen_far ⟨w0.heap.size, 3, none⟩ (by simp; omega) hfar).trans ((World.frozen?_alloc_old W _ _ (by show w0.heap.size ≠ W.heap.size; omega)).trans hf3)
    have HX : Hid (Next w0 (w1.setCell ⟨w0.heap.size, 3, none⟩ (.slice (some ⟨g, 0, none⟩) (md + 1) cap)) n) := ⟨_, _, HS1.out.put_draws HOWN.out hgrow.os hgrow.tape hgrow.output (Nat.le_trans (by simp) hgrow.size) (fun q hq hr => (hgrow.block q (by simp; omega) hr).trans (Below.heap_alloc W _ _ hq)) hown1 (fun u hu => by
      rcases List.mem_append.1 hu with hu | hu
      · exact HINTS.out u hu
      · simp at hu
        exact ⟨b, hu⟩) (by omega)⟩
    clear hown1 hgrow hat hltg))
  all_goals
    go_wp2
    go_end0
    exact ⟨rfl, HX.out⟩
end
end Go.Proofs.YtcajmohgjojhhaaGreatDoor

namespace Go.Proofs.YtcajmohgjojhhaaGreatDoor
open Go.RowKit Go.Extern

section
variable {w0 w : World} {n : Nat} {ws : List ByteArray} {left : Int}

set_option maxRecDepth 100000 in
set_option maxHeartbeats 4000000 in
theorem owner_bend (h : St w0 w n ws left) (a b d : Int) (s : ByteArray) (v : Nat → Int) (hn : n ≤ 100000000) (ha : I64 a) (hb : I64 b) (hl : 0 < left) :
    Calls Tryz.prog 16 #[.pointer (some ⟨w0.heap.size, 0, none⟩), opV 6 a b d s v] w fun e w' => e = .returned (.tuple #[]) ∧ Next w0 w' n := by
  have hsum := h.sum
  have hz1 := wordAt_size ws a
  have HS : Hid (St w0 (w.alloc (.cells (opC 6 a b d s v) 28)) n ws left) := h.below (below_new _)
  clear h
  generalize hta : wordAt ws a = ta at *
  have hcv := fun W => Lib.run_convert_string_bytes (P := Tryz.prog) W 9 82 5 ta Tryz.underlying9 Tryz.underlying82 Tryz.underlying5
  have hlt := HS.out.lt
  go_enter Tryz.func16, Tryz.ntmps16
  go_wp2_with fail
  refine (HS.out.word a (by omega) ha.1 ha.2).mono ?_
  rintro e w1 ⟨rfl, m, rfl⟩
  rw [hta]
  have HS1 : Hid (St w0 ((w.alloc (.cells (opC 6 a b d s v) 28)).drewN m) n ws left) := HS.out.drewN m
  have hb2 : ((w.alloc (.cells (opC 6 a b d s v) 28)).drewN m).cell? ⟨w.heap.size, 2, none⟩ = some (.int .i64 b) := cell_box _ _ _ _ _ _ rfl
  have hb3 : ((w.alloc (.cells (opC 6 a b d s v) 28)).drewN m).cell? ⟨w.heap.size, 3, none⟩ = some (.int .i64 d) := cell_box _ _ _ _ _ _ rfl
  have hb0 : ((w.alloc (.cells (opC 6 a b d s v) 28)).drewN m).cell? ⟨w.heap.size, 0, none⟩ = some (.int .i64 6) := cell_box _ _ _ _ _ _ rfl
  have hsz : w.heap.size < ((w.alloc (.cells (opC 6 a b d s v) 28)).drewN m).heap.size := by
    show w.heap.size < (w.alloc _).heap.size
    simp
  generalize (w.alloc (.cells (opC 6 a b d s v) 28)).drewN m = W at *
  have hcw := hcv W
  have HS2 : Hid (St w0 (Lib.bytesWorld W 5 ta) n ws left) := HS1.out.below ⟨rfl, rfl, rfl, by rw [Lib.bytesWorld_size]; omega, fun k hk => Lib.bytesWorld_at_old W _ ta k hk⟩
  have HXB : Hid (Below W.heap.size W (Lib.bytesWorld W 5 ta)) := ⟨rfl, rfl, rfl, by rw [Lib.bytesWorld_size]; omega, fun k hk => Lib.bytesWorld_at_old W _ ta k hk⟩
  have hx2 : (Lib.bytesWorld W 5 ta).cell? ⟨w.heap.size, 2, none⟩ = some (.int .i64 b) := (Lib.bytesWorld_old W _ ta _ hsz).trans hb2
  have hx3 : (Lib.bytesWorld W 5 ta).cell? ⟨w.heap.size, 3, none⟩ = some (.int .i64 d) := (Lib.bytesWorld_old W _ ta _ hsz).trans hb3
  have HXJ : Hid (∀ j, j < ta.size → (Lib.bytesWorld W 5 ta).cell? ⟨W.heap.size, j, none⟩ = some (.int .u8 (ta.data.toList.getD j 0).toNat)) := fun j hj => Lib.bytesWorld_cell W _ ta j hj
  have HXF : Hid (∀ j, j < ta.size → (Lib.bytesWorld W 5 ta).frozen? ⟨W.heap.size, j, none⟩ = false) := fun j hj => by
    simp only [World.frozen?, Lib.bytesWorld_at_new, Lib.bytesCells]
    simp
    omega
  clear hcv
  generalize hgc : grownCap W ta.size 0 5 = gc at *
  by_cases h0 : ta.size = 0
  · have hback : (convert 82 9 (.slice (some ⟨W.heap.size, 0, none⟩) 0 gc)).run Tryz.prog (Lib.bytesWorld W 5 ta) = .ok (.string ⟨#[]⟩) (Lib.bytesWorld W 5 ta) := run_convert_bytes_back (Lib.bytesWorld W 5 ta) 82 9 5 ⟨W.heap.size, 0, none⟩ gc [] Tryz.underlying82 Tryz.underlying5 Tryz.underlying9 (fun j hj => absurd hj (by simp))
    rw [h0] at hcw
    go_wp2_with fail
    refine (HS2.out.keep ⟨#[]⟩ (by omega) (by decide) (by omega)).mono ?_
    rintro e w2 ⟨rfl, hS2, hsz⟩
    have HS3 : Hid (Next w0 w2 n) := ⟨_, _, hS2⟩
    clear hS2
    go_wp2
    go_end0
    exact ⟨rfl, HS3.out⟩
  · have hgt : (0 : Int) < (ta.size : Int) := by omega
    have hpk := fun W => pick_any b (ta.size : Int) W hb.1 hb.2 (by omega) (by omega)
    have hpb := pick_bd b (ta.size : Int) (by omega)
    obtain ⟨q, hq⟩ : ∃ q : Nat, pickN b (ta.size : Int) = q := ⟨(pickN b (ta.size : Int)).toNat, by omega⟩
    rw [hq] at hpb hpk
    have hq2 : q < ta.size := by omega
    have hqI : (q : Int) < (ta.size : Int) := by omega
    have HPK : Hid (∀ W, Calls Tryz.prog 15 #[.int .i64 b, .int .i64 (ta.size : Int)] W fun e w' => e = .returned (.int .i64 (q : Int)) ∧ w' = W) := hpk
    clear hpk hpb hq
    have hxq := HXJ.out q hq2
    have hfq := HXF.out q hq2
    go_wp2_with fail
    clear hcw
    generalize Lib.bytesWorld W 5 ta = X at *
    refine (HPK.out _).mono ?_
    rintro e w2 ⟨rfl, rfl⟩
    go_wp2_with fail
    generalize (ta.data.toList.getD q 0) = bq at *
    have hzb : 0 ≤ bits .xor .u8 (bq.toNat : Int) (d % 256) ∧ bits .xor .u8 (bq.toNat : Int) (d % 256) < 256 := by
      have e : bits .xor .u8 (bq.toNat : Int) (d % 256) = IntKind.u8.wrap (bits .xor .u8 (bq.toNat : Int) (d % 256)) := by
        show IntKind.u8.wrap _ = IntKind.u8.wrap (IntKind.u8.wrap _)
        rw [IntKind.wrap_u8, IntKind.wrap_u8]
        omega
      rw [IntKind.wrap_u8] at e
      omega
    have hback : ∀ z : Int, 0 ≤ z → z < 256 → (convert 82 9 (.slice (some ⟨W.heap.size, 0, none⟩) ta.size gc)).run Tryz.prog (w2.setCell ⟨W.heap.size, q, none⟩ (.int .u8 z)).drew = .ok (.string ⟨(ta.data.toList.set q (UInt8.ofNat z.toNat)).toArray⟩) (w2.setCell ⟨W.heap.size, q, none⟩ (.int .u8 z)).drew := fun z z0 z1 => by
      have hl : (ta.data.toList.set q (UInt8.ofNat z.toNat)).length = ta.size := by simp
      rw [← hl]
      refine run_convert_bytes_back _ 82 9 5 ⟨W.heap.size, 0, none⟩ gc _ Tryz.underlying82 Tryz.underlying5 Tryz.underlying9 (fun j hj => ?_)
      rw [Addr.add_lit, Nat.zero_add]
      show (w2.setCell ⟨W.heap.size, q, none⟩ (.int .u8 z)).cell? ⟨W.heap.size, j, none⟩ = _
      by_cases e : q = j
      · subst e
        rw [World.cell?_setCell_same _ _ _ hxq]
        simp
        omega
      · rw [cell_setCell_off _ _ _ _ _ e, HXJ.out j (by rw [hl] at hj; exact hj), List.getElem_set_ne e]
        congr 3
        rw [List.getD_eq_getElem?_getD, List.getElem?_eq_getElem (by rw [hl] at hj; simpa using hj)]
        rfl
    have hbk := hback _ hzb.1 hzb.2
    have HKP : Hid (St w0 (w2.setCell ⟨W.heap.size, q, none⟩ (.int .u8 (bits .xor .u8 (bq.toNat : Int) (d % 256)))).drew n ws left) := by
      refine St.drew ?_
      exact HS1.out.below (Below.setCell (HXB.out) (p := ⟨W.heap.size, q, none⟩) (Nat.le_refl _) _)
    have hsl : (⟨(ta.data.toList.set q (UInt8.ofNat (bits .xor .u8 (bq.toNat : Int) (d % 256)).toNat)).toArray⟩ : ByteArray).size ≤ 1000000000 := by
      show (ta.data.toList.set q _).toArray.size ≤ _
      simp
      omega
    generalize (⟨(ta.data.toList.set q (UInt8.ofNat (bits .xor .u8 (bq.toNat : Int) (d % 256)).toNat)).toArray⟩ : ByteArray) = tn at *
    have HBK : Hid ((convert 82 9 (.slice (some ⟨W.heap.size, 0, none⟩) ta.size gc)).run Tryz.prog (w2.setCell ⟨W.heap.size, q, none⟩ (.int .u8 (bits .xor .u8 (bq.toNat : Int) (d % 256)))).drew = .ok (.string tn) (w2.setCell ⟨W.heap.size, q, none⟩ (.int .u8 (bits .xor .u8 (bq.toNat : Int) (d % 256)))).drew) := hbk
    clear hback hbk
    go_region_law (fail)
    all_goals
      go_wp2_with fail
      rw [HBK.out]
      go_wp2_with fail
      refine (HKP.out.keep tn (by omega) hsl (by omega)).mono ?_
      rintro e w3 ⟨rfl, hS2, hsz⟩
      have HS3 : Hid (Next w0 w3 n) := ⟨_, _, hS2⟩
      clear hS2
      go_wp2
      go_end0
      exact ⟨rfl, HS3.out⟩
end
end Go.Proofs.YtcajmohgjojhhaaGreatDoor
