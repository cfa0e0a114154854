import Derived.Test.YtcajmohgjojhhaaGreatDoorMH
import Derived.Test.YtcajmohgjojhhaaGreatDoorEncd
import Derived.Test.YtcajmohgjojhhaaGreatDoorPure1
import Derived.Test.YtcajmohgjojhhaaGreatDoorTold
import Derived.Test.YtcajmohgjojhhaaGreatDoorML
import Derived.Test.YtcajmohgjojhhaaGreatDoorMJ
set_option linter.unusedVariables false
set_option linter.unusedSimpArgs false
namespace Go.Proofs.YtcajmohgjojhhaaGreatDoor
open Go.RowKit Go.Extern

section
variable {w0 w : World} {n : Nat} {ws : List ByteArray} {left : Int}

set_option maxRecDepth 100000 in
set_option maxHeartbeats 2000000 in
theorem pure_3 (h : St w0 w n ws left) (hn : n ≤ 10000000) (hl : 0 < left) (ad : Nat → Addr) (st : Nat → ByteArray) (hE : Errs w ad st) (hW : Wids w) (a b d : Int) (s : ByteArray) (v : Nat → Int) (ha : I64 a) (hb : I64 b) (hv : ∀ i, i < 9 → -9223372036854775808 ≤ v i ∧ v i ≤ 9223372036854775807) (hs : s.size ≤ 1000000000) :
    Calls Tryz.prog 12 #[.pointer (some ⟨w0.heap.size, 0, none⟩), opV 3 a b d s v] w fun e w' => e = .returned (.bool true) ∧ Next w0 w' n := by
  have HS : Hid (St w0 (w.alloc (.cells (opC 3 a b d s v) 28)) n ws left) := h.below (below_new _)
  have HE : Hid (Errs (w.alloc (.cells (opC 3 a b d s v) 28)) ad st) := hE.below (below_new _)
  have HW : Hid (Wids (w.alloc (.cells (opC 3 a b d s v) 28))) := hW.below (below_new _)
  have hsum := h.sum
  have hz1 := wordAt_size ws a
  clear h hE hW
  go_enter Tryz.func12, Tryz.ntmps12
  go_wp2_with fail
  refine (encoded_any HS.out (by omega) hl ad st HE.out HW.out 3 a b d s v hv).mono ?_
  rintro e w1 ⟨rfl, hN⟩
  have HN : Hid (Next w0 w1 n) := hN
  clear hN
  go_wp2
  go_ret
  exact ⟨rfl, HN.out⟩

set_option maxRecDepth 100000 in
set_option maxHeartbeats 2000000 in
theorem pure_10 (h : St w0 w n ws left) (hn : n ≤ 10000000) (hl : 0 < left) (ad : Nat → Addr) (st : Nat → ByteArray) (hE : Errs w ad st) (hW : Wids w) (a b d : Int) (s : ByteArray) (v : Nat → Int) (ha : I64 a) (hb : I64 b) (hv : ∀ i, i < 9 → -9223372036854775808 ≤ v i ∧ v i ≤ 9223372036854775807) (hs : s.size ≤ 1000000000) :
    Calls Tryz.prog 12 #[.pointer (some ⟨w0.heap.size, 0, none⟩), opV 10 a b d s v] w fun e w' => e = .returned (.bool true) ∧ Next w0 w' n := by
  have HS : Hid (St w0 (w.alloc (.cells (opC 10 a b d s v) 28)) n ws left) := h.below (below_new _)
  have HE : Hid (Errs (w.alloc (.cells (opC 10 a b d s v) 28)) ad st) := hE.below (below_new _)
  have HW : Hid (Wids (w.alloc (.cells (opC 10 a b d s v) 28))) := hW.below (below_new _)
  have hsum := h.sum
  have hz1 := wordAt_size ws a
  clear h hE hW
  go_enter Tryz.func12, Tryz.ntmps12
  go_wp2_with fail
  refine (HS.out.word a (by omega) ha.1 ha.2).mono ?_
  rintro e w1 ⟨rfl, m, rfl⟩
  have HS1 : Hid (St w0 ((w.alloc (.cells (opC 10 a b d s v) 28)).drewN m) n ws left) := HS.out.drewN m
  have HE1 : Hid (Errs ((w.alloc (.cells (opC 10 a b d s v) 28)).drewN m) ad st) := HE.out.below ⟨rfl, rfl, rfl, Nat.le_refl _, fun _ _ => rfl⟩
  generalize wordAt ws a = ta at *
  go_wp2_with fail
  refine (told_any HS1.out (by omega) ad st HE1.out ta (by omega)).mono ?_
  rintro e w2 ⟨rfl, hN⟩
  have HN : Hid (Next w0 w2 n) := ⟨_, _, hN⟩
  clear hN
  go_wp2
  go_ret
  exact ⟨rfl, HN.out⟩

set_option maxRecDepth 100000 in
set_option maxHeartbeats 2000000 in
theorem pure_16 (h : St w0 w n ws left) (hn : n ≤ 10000000) (hl : 0 < left) (ad : Nat → Addr) (st : Nat → ByteArray) (hE : Errs w ad st) (hW : Wids w) (a b d : Int) (s : ByteArray) (v : Nat → Int) (ha : I64 a) (hb : I64 b) (hv : ∀ i, i < 9 → -9223372036854775808 ≤ v i ∧ v i ≤ 9223372036854775807) (hs : s.size ≤ 1000000000) :
    Calls Tryz.prog 12 #[.pointer (some ⟨w0.heap.size, 0, none⟩), opV 16 a b d s v] w fun e w' => SomeBool e ∧ Next w0 w' n := by
  have HS : Hid (St w0 (w.alloc (.cells (opC 16 a b d s v) 28)) n ws left) := h.below (below_new _)
  have HE : Hid (Errs (w.alloc (.cells (opC 16 a b d s v) 28)) ad st) := hE.below (below_new _)
  have HW : Hid (Wids (w.alloc (.cells (opC 16 a b d s v) 28))) := hW.below (below_new _)
  have hsum := h.sum
  have hz1 := wordAt_size ws a
  clear h hE hW
  go_enter Tryz.func12, Tryz.ntmps12
  go_wp2_with fail
  refine (HS.out.word a (by omega) ha.1 ha.2).mono ?_
  rintro e w1 ⟨rfl, m, rfl⟩
  have HS1 : Hid (St w0 ((w.alloc (.cells (opC 16 a b d s v) 28)).drewN m) n ws left) := HS.out.drewN m
  have HE1 : Hid (Errs ((w.alloc (.cells (opC 16 a b d s v) 28)).drewN m) ad st) := HE.out.below ⟨rfl, rfl, rfl, Nat.le_refl _, fun _ _ => rfl⟩
  generalize wordAt ws a = ta at *
  go_wp2_with fail
  refine (audited_any HS1.out (by omega) ta (by omega)).mono ?_
  rintro e w2 ⟨⟨r, rfl⟩, hN⟩
  have HN : Hid (Next w0 w2 n) := hN
  clear hN
  go_wp2
  go_ret
  exact ⟨⟨_, rfl⟩, HN.out⟩

/-- What a step hands back. -/
def StepBack (w0 : World) (n : Nat) (kind : Int) (e : Ending) (w' : World) : Prop := (∃ r, e = .returned (.bool r) ∧ ((kind = 3 ∨ kind = 9 ∨ kind = 10) → r = true)) ∧ Next w0 w' n

set_option maxRecDepth 100000 in
set_option maxHeartbeats 2000000 in
theorem step_3 (h : St w0 w n ws left) (hn : n ≤ 10000000) (hl : 0 < left) (ad : Nat → Addr) (st : Nat → ByteArray) (hE : Errs w ad st) (hW : Wids w) (a b d : Int) (s : ByteArray) (v : Nat → Int) (ha : I64 a) (hb : I64 b) (hv : ∀ i, i < 9 → -9223372036854775808 ≤ v i ∧ v i ≤ 9223372036854775807) (hs : s.size ≤ 1000000000) :
    Calls Tryz.prog 10 #[.pointer (some ⟨w0.heap.size, 0, none⟩), opV 3 a b d s v] w fun e w' => StepBack w0 n 3 e w' := by
  have HS : Hid (St w0 (w.alloc (.cells (opC 3 a b d s v) 28)) n ws left) := h.below (below_new _)
  have HE : Hid (Errs (w.alloc (.cells (opC 3 a b d s v) 28)) ad st) := hE.below (below_new _)
  have HW : Hid (Wids (w.alloc (.cells (opC 3 a b d s v) 28))) := hW.below (below_new _)
  have hsum := h.sum
  have hz1 := wordAt_size ws a
  clear h hE hW
  go_enter Tryz.func10, Tryz.ntmps10
  go_wp2_with fail
  refine (pure_3 HS.out hn hl ad st HE.out HW.out a b d s v ha hb hv hs).mono ?_
  rintro e w1 ⟨rfl, hN⟩
  have HN : Hid (Next w0 w1 n) := hN
  clear hN
  go_wp2
  go_ret
  exact ⟨⟨_, rfl, fun _ => rfl⟩, HN.out⟩

set_option maxRecDepth 100000 in
set_option maxHeartbeats 2000000 in
theorem step_9 (h : St w0 w n ws left) (hn : n ≤ 10000000) (hl : 0 < left) (ad : Nat → Addr) (st : Nat → ByteArray) (hE : Errs w ad st) (hW : Wids w) (a b d : Int) (s : ByteArray) (v : Nat → Int) (ha : I64 a) (hb : I64 b) (hv : ∀ i, i < 9 → -9223372036854775808 ≤ v i ∧ v i ≤ 9223372036854775807) (hs : s.size ≤ 1000000000) :
    Calls Tryz.prog 10 #[.pointer (some ⟨w0.heap.size, 0, none⟩), opV 9 a b d s v] w fun e w' => StepBack w0 n 9 e w' := by
  have HS : Hid (St w0 (w.alloc (.cells (opC 9 a b d s v) 28)) n ws left) := h.below (below_new _)
  have HE : Hid (Errs (w.alloc (.cells (opC 9 a b d s v) 28)) ad st) := hE.below (below_new _)
  have HW : Hid (Wids (w.alloc (.cells (opC 9 a b d s v) 28))) := hW.below (below_new _)
  have hsum := h.sum
  have hz1 := wordAt_size ws a
  clear h hE hW
  go_enter Tryz.func10, Tryz.ntmps10
  go_wp2_with fail
  refine (pure_decode HS.out (by omega) hl ad st HE.out HW.out a b d s v ha).mono ?_
  rintro e w1 ⟨rfl, hN⟩
  have HN : Hid (Next w0 w1 n) := hN
  clear hN
  go_wp2
  go_ret
  exact ⟨⟨_, rfl, fun _ => rfl⟩, HN.out⟩

set_option maxRecDepth 100000 in
set_option maxHeartbeats 2000000 in
theorem step_10 (h : St w0 w n ws left) (hn : n ≤ 10000000) (hl : 0 < left) (ad : Nat → Addr) (st : Nat → ByteArray) (hE : Errs w ad st) (hW : Wids w) (a b d : Int) (s : ByteArray) (v : Nat → Int) (ha : I64 a) (hb : I64 b) (hv : ∀ i, i < 9 → -9223372036854775808 ≤ v i ∧ v i ≤ 9223372036854775807) (hs : s.size ≤ 1000000000) :
    Calls Tryz.prog 10 #[.pointer (some ⟨w0.heap.size, 0, none⟩), opV 10 a b d s v] w fun e w' => StepBack w0 n 10 e w' := by
  have HS : Hid (St w0 (w.alloc (.cells (opC 10 a b d s v) 28)) n ws left) := h.below (below_new _)
  have HE : Hid (Errs (w.alloc (.cells (opC 10 a b d s v) 28)) ad st) := hE.below (below_new _)
  have HW : Hid (Wids (w.alloc (.cells (opC 10 a b d s v) 28))) := hW.below (below_new _)
  have hsum := h.sum
  have hz1 := wordAt_size ws a
  clear h hE hW
  go_enter Tryz.func10, Tryz.ntmps10
  go_wp2_with fail
  refine (pure_10 HS.out hn hl ad st HE.out HW.out a b d s v ha hb hv hs).mono ?_
  rintro e w1 ⟨rfl, hN⟩
  have HN : Hid (Next w0 w1 n) := hN
  clear hN
  go_wp2
  go_ret
  exact ⟨⟨_, rfl, fun _ => rfl⟩, HN.out⟩

set_option maxRecDepth 100000 in
set_option maxHeartbeats 2000000 in
theorem step_16 (h : St w0 w n ws left) (hn : n ≤ 10000000) (hl : 0 < left) (ad : Nat → Addr) (st : Nat → ByteArray) (hE : Errs w ad st) (hW : Wids w) (a b d : Int) (s : ByteArray) (v : Nat → Int) (ha : I64 a) (hb : I64 b) (hv : ∀ i, i < 9 → -9223372036854775808 ≤ v i ∧ v i ≤ 9223372036854775807) (hs : s.size ≤ 1000000000) :
    Calls Tryz.prog 10 #[.pointer (some ⟨w0.heap.size, 0, none⟩), opV 16 a b d s v] w fun e w' => StepBack w0 n 16 e w' := by
  have HS : Hid (St w0 (w.alloc (.cells (opC 16 a b d s v) 28)) n ws left) := h.below (below_new _)
  have HE : Hid (Errs (w.alloc (.cells (opC 16 a b d s v) 28)) ad st) := hE.below (below_new _)
  have HW : Hid (Wids (w.alloc (.cells (opC 16 a b d s v) 28))) := hW.below (below_new _)
  have hsum := h.sum
  have hz1 := wordAt_size ws a
  clear h hE hW
  go_enter Tryz.func10, Tryz.ntmps10
  go_wp2_with fail
  refine (pure_16 HS.out hn hl ad st HE.out HW.out a b d s v ha hb hv hs).mono ?_
  rintro e w1 ⟨⟨r, rfl⟩, hN⟩
  have HN : Hid (Next w0 w1 n) := hN
  clear hN
  go_wp2
  go_ret
  exact ⟨⟨_, rfl, fun q => absurd q (by decide)⟩, HN.out⟩

set_option maxRecDepth 100000 in
set_option maxHeartbeats 2000000 in
theorem step_11 (h : St w0 w n ws left) (hn : n ≤ 10000000) (hl : 0 < left) (ad : Nat → Addr) (st : Nat → ByteArray) (hE : Errs w ad st) (hW : Wids w) (a b d : Int) (s : ByteArray) (v : Nat → Int) (ha : I64 a) (hb : I64 b) (hv : ∀ i, i < 9 → -9223372036854775808 ≤ v i ∧ v i ≤ 9223372036854775807) (hs : s.size ≤ 1000000000) :
    Calls Tryz.prog 10 #[.pointer (some ⟨w0.heap.size, 0, none⟩), opV 11 a b d s v] w fun e w' => StepBack w0 n 11 e w' := by
  have HS : Hid (St w0 (w.alloc (.cells (opC 11 a b d s v) 28)) n ws left) := h.below (below_new _)
  have HE : Hid (Errs (w.alloc (.cells (opC 11 a b d s v) 28)) ad st) := hE.below (below_new _)
  have HW : Hid (Wids (w.alloc (.cells (opC 11 a b d s v) 28))) := hW.below (below_new _)
  have hsum := h.sum
  have hz1 := wordAt_size ws a
  clear h hE hW
  go_enter Tryz.func10, Tryz.ntmps10
  go_wp2_with fail
  refine (made_any HS.out (by omega)).mono ?_
  rintro e w1 ⟨⟨r, rfl⟩, hN⟩
  have HN : Hid (Next w0 w1 n) := hN
  clear hN
  go_wp2
  go_ret
  exact ⟨⟨_, rfl, fun q => absurd q (by decide)⟩, HN.out⟩

set_option maxRecDepth 100000 in
set_option maxHeartbeats 2000000 in
theorem step_12 (h : St w0 w n ws left) (hn : n ≤ 10000000) (hl : 0 < left) (ad : Nat → Addr) (st : Nat → ByteArray) (hE : Errs w ad st) (hW : Wids w) (a b d : Int) (s : ByteArray) (v : Nat → Int) (ha : I64 a) (hb : I64 b) (hv : ∀ i, i < 9 → -9223372036854775808 ≤ v i ∧ v i ≤ 9223372036854775807) (hs : s.size ≤ 1000000000) :
    Calls Tryz.prog 10 #[.pointer (some ⟨w0.heap.size, 0, none⟩), opV 12 a b d s v] w fun e w' => StepBack w0 n 12 e w' := by
  have HS : Hid (St w0 (w.alloc (.cells (opC 12 a b d s v) 28)) n ws left) := h.below (below_new _)
  have HE : Hid (Errs (w.alloc (.cells (opC 12 a b d s v) 28)) ad st) := hE.below (below_new _)
  have HW : Hid (Wids (w.alloc (.cells (opC 12 a b d s v) 28))) := hW.below (below_new _)
  have hsum := h.sum
  have hz1 := wordAt_size ws a
  have hd := HS.out.desks
  clear h hE hW
  go_enter Tryz.func10, Tryz.ntmps10
  have HN : Hid (Next w0 (w.alloc (.cells (opC 12 a b d s v) 28)) n) := HS.out.next
  go_wp2
  go_ret
  exact ⟨⟨_, rfl, fun q => absurd q (by decide)⟩, HN.out⟩

set_option maxRecDepth 100000 in
set_option maxHeartbeats 2000000 in
theorem step_13 (h : St w0 w n ws left) (hn : n ≤ 10000000) (hl : 0 < left) (ad : Nat → Addr) (st : Nat → ByteArray) (hE : Errs w ad st) (hW : Wids w) (a b d : Int) (s : ByteArray) (v : Nat → Int) (ha : I64 a) (hb : I64 b) (hv : ∀ i, i < 9 → -9223372036854775808 ≤ v i ∧ v i ≤ 9223372036854775807) (hs : s.size ≤ 1000000000) :
    Calls Tryz.prog 10 #[.pointer (some ⟨w0.heap.size, 0, none⟩), opV 13 a b d s v] w fun e w' => StepBack w0 n 13 e w' := by
  have HS : Hid (St w0 (w.alloc (.cells (opC 13 a b d s v) 28)) n ws left) := h.below (below_new _)
  have HE : Hid (Errs (w.alloc (.cells (opC 13 a b d s v) 28)) ad st) := hE.below (below_new _)
  have HW : Hid (Wids (w.alloc (.cells (opC 13 a b d s v) 28))) := hW.below (below_new _)
  have hsum := h.sum
  have hz1 := wordAt_size ws a
  have hd := HS.out.desks
  clear h hE hW
  go_enter Tryz.func10, Tryz.ntmps10
  have HN : Hid (Next w0 (w.alloc (.cells (opC 13 a b d s v) 28)) n) := HS.out.next
  go_wp2
  go_ret
  exact ⟨⟨_, rfl, fun q => absurd q (by decide)⟩, HN.out⟩

set_option maxRecDepth 100000 in
set_option maxHeartbeats 2000000 in
theorem step_14 (h : St w0 w n ws left) (hn : n ≤ 10000000) (hl : 0 < left) (ad : Nat → Addr) (st : Nat → ByteArray) (hE : Errs w ad st) (hW : Wids w) (a b d : Int) (s : ByteArray) (v : Nat → Int) (ha : I64 a) (hb : I64 b) (hv : ∀ i, i < 9 → -9223372036854775808 ≤ v i ∧ v i ≤ 9223372036854775807) (hs : s.size ≤ 1000000000) :
    Calls Tryz.prog 10 #[.pointer (some ⟨w0.heap.size, 0, none⟩), opV 14 a b d s v] w fun e w' => StepBack w0 n 14 e w' := by
  have HS : Hid (St w0 (w.alloc (.cells (opC 14 a b d s v) 28)) n ws left) := h.below (below_new _)
  have HE : Hid (Errs (w.alloc (.cells (opC 14 a b d s v) 28)) ad st) := hE.below (below_new _)
  have HW : Hid (Wids (w.alloc (.cells (opC 14 a b d s v) 28))) := hW.below (below_new _)
  have hsum := h.sum
  have hz1 := wordAt_size ws a
  have hd := HS.out.desks
  clear h hE hW
  go_enter Tryz.func10, Tryz.ntmps10
  have HN : Hid (Next w0 (w.alloc (.cells (opC 14 a b d s v) 28)) n) := HS.out.next
  go_wp2
  go_ret
  exact ⟨⟨_, rfl, fun q => absurd q (by decide)⟩, HN.out⟩

set_option maxRecDepth 100000 in
set_option maxHeartbeats 2000000 in
theorem step_15 (h : St w0 w n ws left) (hn : n ≤ 10000000) (hl : 0 < left) (ad : Nat → Addr) (st : Nat → ByteArray) (hE : Errs w ad st) (hW : Wids w) (a b d : Int) (s : ByteArray) (v : Nat → Int) (ha : I64 a) (hb : I64 b) (hv : ∀ i, i < 9 → -9223372036854775808 ≤ v i ∧ v i ≤ 9223372036854775807) (hs : s.size ≤ 1000000000) :
    Calls Tryz.prog 10 #[.pointer (some ⟨w0.heap.size, 0, none⟩), opV 15 a b d s v] w fun e w' => StepBack w0 n 15 e w' := by
  have HS : Hid (St w0 (w.alloc (.cells (opC 15 a b d s v) 28)) n ws left) := h.below (below_new _)
  have HE : Hid (Errs (w.alloc (.cells (opC 15 a b d s v) 28)) ad st) := hE.below (below_new _)
  have HW : Hid (Wids (w.alloc (.cells (opC 15 a b d s v) 28))) := hW.below (below_new _)
  have hsum := h.sum
  have hz1 := wordAt_size ws a
  have hd := HS.out.desks
  clear h hE hW
  go_enter Tryz.func10, Tryz.ntmps10
  have HN : Hid (Next w0 (w.alloc (.cells (opC 15 a b d s v) 28)) n) := HS.out.next
  go_wp2
  go_ret
  exact ⟨⟨_, rfl, fun q => absurd q (by decide)⟩, HN.out⟩

theorem owner_any (h : St w0 w n ws left) (hn : n ≤ 10000000) (hl : 0 < left) (kind a b d : Int) (s : ByteArray) (v : Nat → Int) (ha : I64 a) (hb : I64 b) (hs : s.size ≤ 1000000000) :
    Calls Tryz.prog 16 #[.pointer (some ⟨w0.heap.size, 0, none⟩), opV kind a b d s v] w fun e w' => e = .returned (.tuple #[]) ∧ Next w0 w' n := by
  by_cases k1 : kind = 1
  · subst k1; exact owner_num h a b d s v (by omega) ha
  by_cases k2 : kind = 2
  · subst k2; exact owner_draw h a b d s v (by omega) ha
  by_cases k4 : kind = 4
  · subst k4; exact owner_word h a b d s v (by omega) ha hs hl
  by_cases k5 : kind = 5
  · subst k5; exact owner_join h a b d s v (by omega) ha hb hl
  by_cases k6 : kind = 6
  · subst k6; exact owner_bend h a b d s v (by omega) ha hb hl
  by_cases k7 : kind = 7
  · subst k7; exact owner_cut h a b d s v (by omega) ha hb hl
  by_cases k8 : kind = 8
  · subst k8; exact owner_rest h a b d s v (by omega) ha hb hl
  by_cases k17 : kind = 17
  · subst k17; exact owner_mine h a b d s v (by omega) ha hb hl
  exact owner_else h kind a b d s v (by omega) ha hb hl k1 k2 k4 k5 k6 k7 k8 k17

set_option maxRecDepth 100000 in
set_option maxHeartbeats 2000000 in
theorem step_else (h : St w0 w n ws left) (hn : n ≤ 10000000) (hl : 0 < left) (ad : Nat → Addr) (st : Nat → ByteArray) (hE : Errs w ad st) (hW : Wids w) (kind : Int) (k3 : kind ≠ 3) (k9 : kind ≠ 9) (k10 : kind ≠ 10) (k16 : kind ≠ 16) (k11 : kind ≠ 11) (k12 : kind ≠ 12) (k13 : kind ≠ 13) (k14 : kind ≠ 14) (k15 : kind ≠ 15) (a b d : Int) (s : ByteArray) (v : Nat → Int) (ha : I64 a) (hb : I64 b) (hv : ∀ i, i < 9 → -9223372036854775808 ≤ v i ∧ v i ≤ 9223372036854775807) (hs : s.size ≤ 1000000000) :
    Calls Tryz.prog 10 #[.pointer (some ⟨w0.heap.size, 0, none⟩), opV kind a b d s v] w fun e w' => StepBack w0 n kind e w' := by
  have HS : Hid (St w0 (w.alloc (.cells (opC kind a b d s v) 28)) n ws left) := h.below (below_new _)
  have HE : Hid (Errs (w.alloc (.cells (opC kind a b d s v) 28)) ad st) := hE.below (below_new _)
  have HW : Hid (Wids (w.alloc (.cells (opC kind a b d s v) 28))) := hW.below (below_new _)
  have hsum := h.sum
  have hz1 := wordAt_size ws a
  clear h hE hW
  have e3 := beq_eq_false_iff_ne.2 k3
  have e9 := beq_eq_false_iff_ne.2 k9
  have e10 := beq_eq_false_iff_ne.2 k10
  have e16 := beq_eq_false_iff_ne.2 k16
  have e11 := beq_eq_false_iff_ne.2 k11
  have e12 := beq_eq_false_iff_ne.2 k12
  have e13 := beq_eq_false_iff_ne.2 k13
  have e14 := beq_eq_false_iff_ne.2 k14
  have e15 := beq_eq_false_iff_ne.2 k15
  have HQ : Hid (kind ≠ 3 ∧ kind ≠ 9 ∧ kind ≠ 10) := ⟨k3, k9, k10⟩
  go_enter Tryz.func10, Tryz.ntmps10
  go_wp2_with fail
  refine (owner_any HS.out hn hl kind a b d s v ha hb hs).mono ?_
  rintro e w1 ⟨rfl, hN⟩
  have HN : Hid (Next w0 w1 n) := hN
  clear hN
  go_wp2
  go_ret
  exact ⟨⟨_, rfl, fun _ => rfl⟩, HN.out⟩

theorem step_any (h : St w0 w n ws left) (hn : n ≤ 10000000) (hl : 0 < left) (ad : Nat → Addr) (st : Nat → ByteArray) (hE : Errs w ad st) (hW : Wids w) (kind : Int) (a b d : Int) (s : ByteArray) (v : Nat → Int) (ha : I64 a) (hb : I64 b) (hv : ∀ i, i < 9 → -9223372036854775808 ≤ v i ∧ v i ≤ 9223372036854775807) (hs : s.size ≤ 1000000000) :
    Calls Tryz.prog 10 #[.pointer (some ⟨w0.heap.size, 0, none⟩), opV kind a b d s v] w fun e w' => StepBack w0 n kind e w' := by
  by_cases k3 : kind = 3
  · subst k3; exact step_3 h hn hl ad st hE hW a b d s v ha hb hv hs
  by_cases k9 : kind = 9
  · subst k9; exact step_9 h hn hl ad st hE hW a b d s v ha hb hv hs
  by_cases k10 : kind = 10
  · subst k10; exact step_10 h hn hl ad st hE hW a b d s v ha hb hv hs
  by_cases k16 : kind = 16
  · subst k16; exact step_16 h hn hl ad st hE hW a b d s v ha hb hv hs
  by_cases k11 : kind = 11
  · subst k11; exact step_11 h hn hl ad st hE hW a b d s v ha hb hv hs
  by_cases k12 : kind = 12
  · subst k12; exact step_12 h hn hl ad st hE hW a b d s v ha hb hv hs
  by_cases k13 : kind = 13
  · subst k13; exact step_13 h hn hl ad st hE hW a b d s v ha hb hv hs
  by_cases k14 : kind = 14
  · subst k14; exact step_14 h hn hl ad st hE hW a b d s v ha hb hv hs
  by_cases k15 : kind = 15
  · subst k15; exact step_15 h hn hl ad st hE hW a b d s v ha hb hv hs
  exact step_else h hn hl ad st hE hW kind k3 k9 k10 k16 k11 k12 k13 k14 k15 a b d s v ha hb hv hs
end
end Go.Proofs.YtcajmohgjojhhaaGreatDoor
