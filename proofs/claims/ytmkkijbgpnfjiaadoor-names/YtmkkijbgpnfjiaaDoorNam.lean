import Derived.Test.YtmkkijbgpnfjiaaDoorNum2
import Derived.Deep.QuietTactic
import Derived.BigQuiet
namespace Go.Proofs.YtmkkijbgpnfjiaaDoor
open Go.RowKit Go.Extern.Stop Go.Stop Go.Extern

theorem Tryd.methodErrE (v : Value) (w : World) : (Go.method 218 66 v "Error").run Tryd.prog w = .ok (63, v) w := by kernel_rfl
theorem Tryd.methodErrF (v : Value) (w : World) : (Go.method 218 28 v "Error").run Tryd.prog w = .ok (33, v) w := by kernel_rfl

/-- The text of a reason. -/
theorem text_bare (a : Addr) (s : ByteArray) (w : World) (h : w.cell? a = some (.string s)) :
    Calls Tryd.prog 63 #[.pointer (some a)] w fun e w' => e = .returned (.string s) ∧ w' = w := by
  obtain ⟨b, o, sp⟩ := a
  go_enter Tryd.func63, Tryd.ntmps63
  go_wp2
  go_ret
  exact ⟨rfl, rfl⟩

theorem itoa7 (w : World) : Calls Tryd.prog 35 #[.int .i64 7] w fun e w' => e = .returned (.string ⟨#[55]⟩) ∧ w' = w := by
  go_enter Tryd.func35, Tryd.ntmps35
  go_wp2
  go_ret
  exact ⟨rfl, rfl⟩

set_option maxHeartbeats 1000000 in
/-- The text of a Fault at place 7. -/
theorem text_fault (a : Addr) (s : ByteArray) (pb po : Nat) (w : World) (hs : s.size ≤ 1000) (h : w.cell? a = some (.string s))
    (h0 : w.cell? ⟨pb, po, none⟩ = some (.int .i64 7)) (h1 : w.cell? ⟨pb, po + 1, none⟩ = some (.iface 66 (.pointer (some a)))) :
    Calls Tryd.prog 33 #[.pointer (some ⟨pb, po, none⟩)] w fun e w' => ∃ t : ByteArray, e = .returned (.string t) ∧ t.size ≠ 0 ∧ ∃ n, w' = w.drewN n := by
  have mE := Tryd.methodErrE
  go_enter Tryd.func33, Tryd.ntmps33
  go_wp2_with fail
  go_quiet ((first | (go_at_call 63; exact Calls.quiet_of_same (text_bare a s _ (by exact h))) | (go_at_call 35; exact Calls.quiet_of_same (itoa7 _))))
  go_wp2
  go_ret
  exact ⟨_, rfl, by rw [ByteArray.size_append]; show _ + 1 ≠ 0; omega, _, rfl⟩

theorem Below.drewN {B : Nat} {a w : World} (h : Below B a w) (n : Nat) : Below B a (w.drewN n) := ⟨h.os, h.tape, h.output, h.size, h.block⟩

theorem str_ne (s : ByteArray) (h : s.size ≠ 0) : s.toList.isEmpty = false := by
  rw [ByteArray.toList_eq]
  cases e : s.data.toList with
  | nil => exact absurd (by rw [ByteArray.size, ← Array.length_toList, e]; rfl) h
  | cons a l => rfl

set_option maxHeartbeats 1000000 in
/-- Reason(k, false). -/
theorem reason_bare (a : Nat → Addr) (s : Nat → ByteArray) (k : Nat) (hk : k < 8) (w : World) (hE : Errs w a s) :
    Calls Tryd.prog 4 #[.int .i64 k, .bool false] w fun e w' => e = .returned (.tuple #[.int .i64 ((k : Int) + 1), .int .i64 (-1), .bool true]) ∧ Below w.heap.size w w' := by
  have hE1 := hE.alloc (.cells (listCells a) 26)
  obtain ⟨c0, c1, c2, c3, c4, c5, c6, c7, -, -, -, -⟩ := hE
  have hc := listCell a w 26 k hk
  have mE := Tryd.methodErrE
  go_enter Tryd.func4, Tryd.ntmps4
  go_wp2_with fail
  refine (number_bare a s k hk _ hE1).mono ?_
  rintro e w1 ⟨rfl, hb⟩
  have hE2 := hE1.below hb
  obtain ⟨hs, hz, -⟩ := hE2.str k hk
  have hne := str_ne _ hz
  go_wp2_with (go_at_call 63; refine (text_bare _ _ _ hs).mono ?_; rintro e w' ⟨rfl, rfl⟩)
  go_ret3
  exact ⟨rfl, ((Below.refl _ _).alloc (Nat.le_refl _) _).trans (hb.mono (by simp))⟩

set_option maxHeartbeats 1000000 in
/-- Reason(k, true). -/
theorem reason_fault (a : Nat → Addr) (s : Nat → ByteArray) (k : Nat) (hk : k < 8) (w : World) (hE : Errs w a s) :
    Calls Tryd.prog 4 #[.int .i64 k, .bool true] w fun e w' => e = .returned (.tuple #[.int .i64 ((k : Int) + 1), .int .i64 7, .bool true]) ∧ Below w.heap.size w w' := by
  have hE1 := (hE.alloc (.cells (listCells a) 26)).alloc (.cells #[.int .i64 7, .iface 66 (.pointer (some (a k)))] 30)
  obtain ⟨c0, c1, c2, c3, c4, c5, c6, c7, -, -, -, -⟩ := hE
  have hc := listCell a w 26 k hk
  have mE := Tryd.methodErrF
  go_enter Tryd.func4, Tryd.ntmps4
  go_wp2_with fail
  refine (number_fault a s k hk _ _ 7 _ hE1 (by simp) (by simp)).mono ?_
  rintro e w1 ⟨rfl, hb⟩
  have hE2 := hE1.below hb
  obtain ⟨hs, -, hm⟩ := hE2.str k hk
  have hk0 := (hb.cell (p := ⟨w.heap.size + 1, 0, none⟩) (by simp)).trans (show _ = some (.int .i64 7) by simp)
  have hk1 := (hb.cell (p := ⟨w.heap.size + 1, 0 + 1, none⟩) (by simp)).trans (show _ = some (.iface 66 (.pointer (some (a k)))) by simp)
  have HB : Hid (Below w.heap.size w w1) := (((Below.refl _ _).alloc (Nat.le_refl _) _).alloc (by simp) _).trans (hb.mono (by simp; omega))
  clear hb
  go_wp2_with fail
  refine (text_fault _ _ _ _ _ hm hs hk0 hk1).mono ?_
  rintro e w' ⟨t, rfl, hz, n, rfl⟩
  have hne := str_ne _ hz
  go_wp2
  go_ret3
  exact ⟨rfl, Below.drewN HB.out n⟩

set_option maxHeartbeats 1000000 in
/-- Names. -/
theorem names_any (a : Nat → Addr) (s : Nat → ByteArray) (w : World) (hE : Errs w a s) :
    Calls Tryd.prog 3 #[] w fun e w' => e = .returned (.bool true) ∧ Below w.heap.size w w' := by
  go_enter Tryd.func3, Tryd.ntmps3
  go_wp2
  go_loopw [1] (fun i wr => ∃ j : Nat, j ≤ 8 ∧ i = .int .i64 j ∧ Below w.heap.size w wr) (fun i _ => 8 - (intOf i).toNat)
  case atStart => exact ⟨0, by omega, rfl, Below.refl _ _⟩
  case round =>
    obtain ⟨j, hj, rfl, hb⟩ := hrel
    have HB := hb
    have hE1 := hE.below hb
    by_cases hlt : j < 8
    · go_wp2_with fail
      refine (reason_bare a s j hlt _ hE1).mono ?_
      rintro e w1 ⟨rfl, hb1⟩
      have hE2 := hE1.below hb1
      go_wp2_with fail
      refine (reason_fault a s j hlt _ hE2).mono ?_
      rintro e w2 ⟨rfl, hb2⟩
      go_wp2
      go_roundw
      case rel => exact ⟨j + 1, by omega, by go_num, (hb.trans (hb1.mono hb.size)).trans (hb2.mono (Nat.le_trans hb.size hb1.size))⟩
      case measure => simp [intOf]; omega
    · go_wp2
      go_ret
      exact ⟨rfl, hb⟩
end Go.Proofs.YtmkkijbgpnfjiaaDoor
