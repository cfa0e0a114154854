import Derived.Test.YtcajmohgjojhhaaGreatDoorFrame4
import Derived.Test.YtcajmohgjojhhaaGreatDoorMC
import Derived.Test.YtcajmohgjojhhaaGreatDoorNum2
set_option linter.unusedVariables false
set_option linter.unusedSimpArgs false
namespace Go.Proofs.YtcajmohgjojhhaaGreatDoor
open Go.RowKit Go.Extern

/-- number, of whatever error is told. -/
theorem number_err (a : Nat → Addr) (s : Nat → ByteArray) (err : Value) (n pl : Int) (w : World) (hE : Errs w a s) (h : ErrIs w a err n pl) :
    Calls Tryz.prog 41 #[err] w fun e w' => e = .returned (.tuple #[.int .i64 n, .int .i64 pl]) ∧ Below w.heap.size w w' := by
  rcases h with ⟨rfl, rfl, rfl⟩ | ⟨k, hk, rfl, rfl, rfl⟩ | ⟨k, b, o, hk, rfl, rfl, h4, h5⟩
  · refine (number_nil w).mono ?_
    rintro e w' ⟨rfl, rfl⟩
    exact ⟨rfl, Below.refl _ _⟩
  · exact number_bare a s k hk w hE
  · exact number_fault a s k hk b o pl w hE h4 h5

set_option maxHeartbeats 1000000 in
theorem obEncode_any (a : Nat → Addr) (s : Nat → ByteArray) (kind : Int) (v : Nat → Int) (w : World) (hE : Errs w a s) (hW : Wids w) (hv : ∀ i, i < 9 → -9223372036854775808 ≤ v i ∧ v i ≤ 9223372036854775807) :
    Calls Tryz.prog 57 #[cmdV kind v] w fun e w' =>
      ∃ err, e = .returned (.tuple #[.string ⟨(encRes kind v).1.toArray⟩, err]) ∧ ErrIs w' a err (encRes kind v).2.1 (encRes kind v).2.2 ∧ Below w.heap.size w w' := by
  have HV : Hid (∀ i, i < 9 → -9223372036854775808 ≤ v i ∧ v i ≤ 9223372036854775807) := hv
  clear hv
  have hE1 := hE.alloc (.cells #[.int .i64 kind, .int .i64 (v 0), .int .i64 (v 1), .int .i64 (v 2), .int .i64 (v 3), .int .i64 (v 4), .int .i64 (v 5), .int .i64 (v 6), .int .i64 (v 7), .int .i64 (v 8)] 94)
  have hW1 := hW.below ((Below.refl _ _).alloc (Nat.le_refl _) (.cells #[.int .i64 kind, .int .i64 (v 0), .int .i64 (v 1), .int .i64 (v 2), .int .i64 (v 3), .int .i64 (v 4), .int .i64 (v 5), .int .i64 (v 6), .int .i64 (v 7), .int .i64 (v 8)] 94))
  go_enter Tryz.func57, Tryz.ntmps57
  go_wp2_with fail
  refine (encodeFrame_any a s kind v _ hE1 hW1 HV.out).mono ?_
  rintro e w1 ⟨err, rfl, her, hb⟩
  go_wp2
  go_ret2
  exact ⟨_, rfl, her, ((Below.refl _ _).alloc (Nat.le_refl _) _).trans (hb.mono (by simp))⟩

set_option maxHeartbeats 1000000 in
theorem plainEncode_any (a : Nat → Addr) (s : Nat → ByteArray) (kind : Int) (v : Nat → Int) (w : World) (hE : Errs w a s) (hW : Wids w) (hv : ∀ i, i < 9 → -9223372036854775808 ≤ v i ∧ v i ≤ 9223372036854775807) :
    Calls Tryz.prog 38 #[.int .i64 kind, arrV v] w fun e w' =>
      e = .returned (.tuple #[.string ⟨(encRes kind v).1.toArray⟩, .int .i64 (encRes kind v).2.1, .int .i64 (encRes kind v).2.2]) ∧ Below w.heap.size w w' := by
  have HV : Hid (∀ i, i < 9 → -9223372036854775808 ≤ v i ∧ v i ≤ 9223372036854775807) := hv
  clear hv
  have hB1 : Below w.heap.size w (w.alloc (.cells #[.int .i64 (v 0), .int .i64 (v 1), .int .i64 (v 2), .int .i64 (v 3), .int .i64 (v 4), .int .i64 (v 5), .int .i64 (v 6), .int .i64 (v 7), .int .i64 (v 8)] 26)) := (Below.refl _ _).alloc (Nat.le_refl _) _
  go_enter Tryz.func38, Tryz.ntmps38
  go_wp2_with fail
  refine (command_any kind v _).mono ?_
  rintro e w1 ⟨rfl, hb1⟩
  have HB1 : Hid (Below w.heap.size w w1) := hB1.trans (hb1.mono (by simp))
  have hE1 := hE.below HB1.out
  have hW1 := hW.below HB1.out
  clear hb1 hB1
  go_wp2_with fail
  refine (obEncode_any a s kind v _ hE1 hW1 HV.out).mono ?_
  rintro e w2 ⟨err, rfl, her, hb2⟩
  have HB2 : Hid (Below w.heap.size w w2) := HB1.out.trans (hb2.mono HB1.out.size)
  have hE2 := hE.below HB2.out
  generalize hR : encRes kind v = R at *
  have HR : Hid (encRes kind v = R) := hR
  clear hR
  obtain ⟨l, n, pl⟩ := R
  simp only at her
  clear hb2
  go_wp2_with fail
  refine (number_err a s err n pl _ hE2 her).mono ?_
  rintro e w3 ⟨rfl, hb3⟩
  go_wp2
  go_ret3
  exact ⟨by rw [HR.out]; rfl, HB2.out.trans (hb3.mono HB2.out.size)⟩
end Go.Proofs.YtcajmohgjojhhaaGreatDoor
