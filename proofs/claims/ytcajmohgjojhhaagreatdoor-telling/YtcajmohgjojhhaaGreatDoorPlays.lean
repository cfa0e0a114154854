import Derived.Test.YtcajmohgjojhhaaGreatDoorSmall
import Derived.Test.YtcajmohgjojhhaaGreatDoorUpto2
import Derived.Test.YtcajmohgjojhhaaGreatDoorUpto3
set_option linter.unusedVariables false
set_option linter.unusedSimpArgs false
namespace Go.Proofs.YtcajmohgjojhhaaGreatDoor
open Go.RowKit Go.Extern

set_option maxRecDepth 100000 in
set_option maxHeartbeats 1000000 in
theorem small_nil (w : World) (p : Option Addr) (c : Nat) : Calls Tryz.prog 8 #[.slice p 0 c] w fun e w' => e = .returned (.bool true) ∧ w' = w := by
  go_enter Tryz.func8, Tryz.ntmps8
  go_wp2_with fail
  go_loopw [3, 4] (fun s i wr => s = .int .i64 0 ∧ i = .int .i64 0 ∧ wr = w) (fun _ _ _ => 0)
  case atStart => exact ⟨rfl, rfl, rfl⟩
  case round =>
    obtain ⟨rfl, rfl, rfl⟩ := hrel
    go_wp2
    go_ret
    exact ⟨rfl, rfl⟩
set_option maxRecDepth 100000 in
set_option maxHeartbeats 1000000 in
theorem upto_nil (w : World) (p : Option Addr) (c : Nat) (held : Int) : Calls Tryz.prog 9 #[.slice p 0 c, .int .i64 held, .bool false] w fun e w' => e = .returned (.int .i64 (-1)) ∧ Below w.heap.size w w' := by
  go_enter Tryz.func9, Tryz.ntmps9
  go_wp2_with fail
  have HB : Hid (Below w.heap.size w (w.alloc (.cells world0 36))) := below_new _
  have hl : (w.alloc (.cells world0 36)).cell? ⟨w.heap.size, 8, none⟩ = some (.int .i64 1048576) := cell_new w _ _ 8 _ rfl
  generalize w.alloc (.cells world0 36) = W at *
  go_loopw [8] (fun i wr => i = .int .i64 0 ∧ wr = W) (fun _ _ => 0)
  case atStart => exact ⟨rfl, rfl⟩
  case round =>
    obtain ⟨rfl, rfl⟩ := hrel
    go_wp2
    go_ret
    exact ⟨rfl, HB.out⟩

/-- A script that was handed in. -/
def Script (w : World) (v : Value) : Prop := (∃ p c, v = .slice p 0 c) ∨ ∃ g o L c K A B D S V, v = .slice (some ⟨g, o, none⟩) L c ∧ Scr w g o L K A B D S V ∧ L ≤ 9000000000000000000 ∧ ∀ i, i < L → (S i).size ≤ 9000000000000000000

set_option maxRecDepth 100000 in
set_option maxHeartbeats 1000000 in
theorem plays_8 (w : World) (ad : Nat → Addr) (st : Nat → ByteArray) (hE : Errs w ad st) (hW : Wids w) (v : Value) (h : Script w v) :
    Calls Tryz.prog 7 #[v, .int .i64 8, .bool false] w fun e w' => e = .returned (.bool true) ∧ Below w.heap.size w w' := by
  rcases h with ⟨p, c, rfl⟩ | ⟨g, o, L, c, K, A, B, D, S, V, rfl, hsc, hL, hS⟩
  · go_enter Tryz.func7, Tryz.ntmps7
    go_wp2_with fail
    refine (small_nil _ p c).mono ?_
    rintro e w1 ⟨rfl, rfl⟩
    go_wp2_with fail
    refine (upto_nil _ p c 8).mono ?_
    rintro e w2 ⟨rfl, hb⟩
    have HB : Hid (Below w1.heap.size w1 w2) := hb
    clear hb
    go_wp2
    go_ret
    exact ⟨rfl, HB.out⟩
  · have HSM := small_any w g o L c K A B D S V hsc hL hS
    have HUP := fun (q : L ≤ 1048576) (q2 : ∀ i, i < L → (S i).size ≤ 1048576) => upto_8 w ad st hE hW g o L c K A B D S V hsc q q2
    have HSM' : Hid (Calls Tryz.prog 8 #[.slice (some ⟨g, o, none⟩) L c] w fun e w' => SmallBack L S e ∧ w' = w) := HSM
    have HUP' : Hid (L ≤ 1048576 → (∀ i, i < L → (S i).size ≤ 1048576) → Calls Tryz.prog 9 #[.slice (some ⟨g, o, none⟩) L c, .int .i64 8, .bool false] w fun e w' => e = .returned (.int .i64 (-1)) ∧ Below w.heap.size w w') := HUP
    clear HSM HUP hsc hL hS hE hW
    go_enter Tryz.func7, Tryz.ntmps7
    go_wp2_with fail
    refine HSM'.out.mono ?_
    rintro e w1 ⟨⟨r, rfl, hr⟩, rfl⟩
    cases r
    · clear hr
      go_wp2
      go_ret
      exact ⟨rfl, Below.refl _ _⟩
    · have HX := HUP'.out (hr rfl).1 (hr rfl).2
      have HX' : Hid (Calls Tryz.prog 9 #[.slice (some ⟨g, o, none⟩) L c, .int .i64 8, .bool false] w1 fun e w' => e = .returned (.int .i64 (-1)) ∧ Below w1.heap.size w1 w') := HX
      clear hr HX
      go_wp2_with fail
      refine HX'.out.mono ?_
      rintro e w2 ⟨rfl, hb⟩
      have HB : Hid (Below w1.heap.size w1 w2) := hb
      clear hb
      go_wp2
      go_ret
      exact ⟨rfl, HB.out⟩

set_option maxHeartbeats 1000000 in
theorem encodes_any (w : World) (ad : Nat → Addr) (st : Nat → ByteArray) (hE : Errs w ad st) (hW : Wids w) (v : Value) (h : Script w v) :
    Calls Tryz.prog 3 #[v] w fun e w' => e = .returned (.bool true) ∧ Below w.heap.size w w' := by
  have HP : Hid (Calls Tryz.prog 7 #[v, .int .i64 8, .bool false] w fun e w' => e = .returned (.bool true) ∧ Below w.heap.size w w') := plays_8 w ad st hE hW v h
  clear h hE hW
  go_enter Tryz.func3, Tryz.ntmps3
  go_wp2_with fail
  refine HP.out.mono ?_
  rintro e w1 ⟨rfl, hb⟩
  have HB : Hid (Below w.heap.size w w1) := hb
  clear hb
  go_wp2
  go_ret
  exact ⟨rfl, HB.out⟩

set_option maxRecDepth 100000 in
set_option maxHeartbeats 1000000 in
theorem plays_512 (w : World) (ad : Nat → Addr) (st : Nat → ByteArray) (hE : Errs w ad st) (hW : Wids w) (v : Value) (h : Script w v) :
    Calls Tryz.prog 7 #[v, .int .i64 512, .bool false] w fun e w' => e = .returned (.bool true) ∧ Below w.heap.size w w' := by
  rcases h with ⟨p, c, rfl⟩ | ⟨g, o, L, c, K, A, B, D, S, V, rfl, hsc, hL, hS⟩
  · go_enter Tryz.func7, Tryz.ntmps7
    go_wp2_with fail
    refine (small_nil _ p c).mono ?_
    rintro e w1 ⟨rfl, rfl⟩
    go_wp2_with fail
    refine (upto_nil _ p c 512).mono ?_
    rintro e w2 ⟨rfl, hb⟩
    have HB : Hid (Below w1.heap.size w1 w2) := hb
    clear hb
    go_wp2
    go_ret
    exact ⟨rfl, HB.out⟩
  · have HSM := small_any w g o L c K A B D S V hsc hL hS
    have HUP := fun (q : L ≤ 1048576) (q2 : ∀ i, i < L → (S i).size ≤ 1048576) => upto_512 w ad st hE hW g o L c K A B D S V hsc q q2
    have HSM' : Hid (Calls Tryz.prog 8 #[.slice (some ⟨g, o, none⟩) L c] w fun e w' => SmallBack L S e ∧ w' = w) := HSM
    have HUP' : Hid (L ≤ 1048576 → (∀ i, i < L → (S i).size ≤ 1048576) → Calls Tryz.prog 9 #[.slice (some ⟨g, o, none⟩) L c, .int .i64 512, .bool false] w fun e w' => e = .returned (.int .i64 (-1)) ∧ Below w.heap.size w w') := HUP
    clear HSM HUP hsc hL hS hE hW
    go_enter Tryz.func7, Tryz.ntmps7
    go_wp2_with fail
    refine HSM'.out.mono ?_
    rintro e w1 ⟨⟨r, rfl, hr⟩, rfl⟩
    cases r
    · clear hr
      go_wp2
      go_ret
      exact ⟨rfl, Below.refl _ _⟩
    · have HX := HUP'.out (hr rfl).1 (hr rfl).2
      have HX' : Hid (Calls Tryz.prog 9 #[.slice (some ⟨g, o, none⟩) L c, .int .i64 512, .bool false] w1 fun e w' => e = .returned (.int .i64 (-1)) ∧ Below w1.heap.size w1 w') := HX
      clear hr HX
      go_wp2_with fail
      refine HX'.out.mono ?_
      rintro e w2 ⟨rfl, hb⟩
      have HB : Hid (Below w1.heap.size w1 w2) := hb
      clear hb
      go_wp2
      go_ret
      exact ⟨rfl, HB.out⟩

set_option maxHeartbeats 1000000 in
theorem decodes_any (w : World) (ad : Nat → Addr) (st : Nat → ByteArray) (hE : Errs w ad st) (hW : Wids w) (v : Value) (h : Script w v) :
    Calls Tryz.prog 4 #[v] w fun e w' => e = .returned (.bool true) ∧ Below w.heap.size w w' := by
  have HP : Hid (Calls Tryz.prog 7 #[v, .int .i64 512, .bool false] w fun e w' => e = .returned (.bool true) ∧ Below w.heap.size w w') := plays_512 w ad st hE hW v h
  clear h hE hW
  go_enter Tryz.func4, Tryz.ntmps4
  go_wp2_with fail
  refine HP.out.mono ?_
  rintro e w1 ⟨rfl, hb⟩
  have HB : Hid (Below w.heap.size w w1) := hb
  clear hb
  go_wp2
  go_ret
  exact ⟨rfl, HB.out⟩

set_option maxRecDepth 100000 in
set_option maxHeartbeats 1000000 in
theorem plays_1024 (w : World) (ad : Nat → Addr) (st : Nat → ByteArray) (hE : Errs w ad st) (hW : Wids w) (v : Value) (h : Script w v) :
    Calls Tryz.prog 7 #[v, .int .i64 1024, .bool false] w fun e w' => e = .returned (.bool true) ∧ Below w.heap.size w w' := by
  rcases h with ⟨p, c, rfl⟩ | ⟨g, o, L, c, K, A, B, D, S, V, rfl, hsc, hL, hS⟩
  · go_enter Tryz.func7, Tryz.ntmps7
    go_wp2_with fail
    refine (small_nil _ p c).mono ?_
    rintro e w1 ⟨rfl, rfl⟩
    go_wp2_with fail
    refine (upto_nil _ p c 1024).mono ?_
    rintro e w2 ⟨rfl, hb⟩
    have HB : Hid (Below w1.heap.size w1 w2) := hb
    clear hb
    go_wp2
    go_ret
    exact ⟨rfl, HB.out⟩
  · have HSM := small_any w g o L c K A B D S V hsc hL hS
    have HUP := fun (q : L ≤ 1048576) (q2 : ∀ i, i < L → (S i).size ≤ 1048576) => upto_1024 w ad st hE hW g o L c K A B D S V hsc q q2
    have HSM' : Hid (Calls Tryz.prog 8 #[.slice (some ⟨g, o, none⟩) L c] w fun e w' => SmallBack L S e ∧ w' = w) := HSM
    have HUP' : Hid (L ≤ 1048576 → (∀ i, i < L → (S i).size ≤ 1048576) → Calls Tryz.prog 9 #[.slice (some ⟨g, o, none⟩) L c, .int .i64 1024, .bool false] w fun e w' => e = .returned (.int .i64 (-1)) ∧ Below w.heap.size w w') := HUP
    clear HSM HUP hsc hL hS hE hW
    go_enter Tryz.func7, Tryz.ntmps7
    go_wp2_with fail
    refine HSM'.out.mono ?_
    rintro e w1 ⟨⟨r, rfl, hr⟩, rfl⟩
    cases r
    · clear hr
      go_wp2
      go_ret
      exact ⟨rfl, Below.refl _ _⟩
    · have HX := HUP'.out (hr rfl).1 (hr rfl).2
      have HX' : Hid (Calls Tryz.prog 9 #[.slice (some ⟨g, o, none⟩) L c, .int .i64 1024, .bool false] w1 fun e w' => e = .returned (.int .i64 (-1)) ∧ Below w1.heap.size w1 w') := HX
      clear hr HX
      go_wp2_with fail
      refine HX'.out.mono ?_
      rintro e w2 ⟨rfl, hb⟩
      have HB : Hid (Below w1.heap.size w1 w2) := hb
      clear hb
      go_wp2
      go_ret
      exact ⟨rfl, HB.out⟩

set_option maxHeartbeats 1000000 in
theorem telling_any (w : World) (ad : Nat → Addr) (st : Nat → ByteArray) (hE : Errs w ad st) (hW : Wids w) (v : Value) (h : Script w v) :
    Calls Tryz.prog 5 #[v] w fun e w' => e = .returned (.bool true) ∧ Below w.heap.size w w' := by
  have HP : Hid (Calls Tryz.prog 7 #[v, .int .i64 1024, .bool false] w fun e w' => e = .returned (.bool true) ∧ Below w.heap.size w w') := plays_1024 w ad st hE hW v h
  clear h hE hW
  go_enter Tryz.func5, Tryz.ntmps5
  go_wp2_with fail
  refine HP.out.mono ?_
  rintro e w1 ⟨rfl, hb⟩
  have HB : Hid (Below w.heap.size w w1) := hb
  clear hb
  go_wp2
  go_ret
  exact ⟨rfl, HB.out⟩
end Go.Proofs.YtcajmohgjojhhaaGreatDoor
