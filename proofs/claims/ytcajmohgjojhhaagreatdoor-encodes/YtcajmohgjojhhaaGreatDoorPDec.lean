import Derived.Test.YtcajmohgjojhhaaGreatDoorMD
import Derived.Test.YtcajmohgjojhhaaGreatDoorMC
import Derived.Test.YtcajmohgjojhhaaGreatDoorPEnc
set_option linter.unusedVariables false
set_option linter.unusedSimpArgs false
namespace Go.Proofs.YtcajmohgjojhhaaGreatDoor
open Go.RowKit Go.Extern

/-- How many bytes Decode tells. -/
def nextB (s : ByteArray) : Int := if nextE s = 0 then nextM s else 0
theorem decodeFrame_any' (a : Nat → Addr) (st : Nat → ByteArray) (s : ByteArray) (w : World) (hE : Errs w a st) (hW : Wids w) (hm : s.size ≤ 1000000000) :
    Calls Tryz.prog 60 #[.string s] w fun e w' => ∃ err, e = .returned (.tuple #[cmdV (nextK s) (nextV s), .int .i64 (nextB s), err]) ∧ ErrBare a err (nextE s) ∧ Below w.heap.size w w' := by
  refine (decodeFrame_any a st s w hE hW hm).mono ?_
  rintro e w' ⟨err, m, h1, h2, h3, h4⟩
  exact ⟨err, by rw [h1, h3]; rfl, h2, h4⟩

set_option maxHeartbeats 1000000 in
theorem obDecode_any (a : Nat → Addr) (st : Nat → ByteArray) (s : ByteArray) (w : World) (hE : Errs w a st) (hW : Wids w) (hm : s.size ≤ 1000000000) :
    Calls Tryz.prog 40 #[.string s] w fun e w' => ∃ err, e = .returned (.tuple #[cmdV (nextK s) (nextV s), .int .i64 (nextB s), err]) ∧ ErrBare a err (nextE s) ∧ Below w.heap.size w w' := by
  have hE1 := hE.alloc (.cells #[.int .i64 0, .int .i64 0, .int .i64 0, .int .i64 0, .int .i64 0, .int .i64 0, .int .i64 0, .int .i64 0, .int .i64 0, .int .i64 0] 94)
  have hW1 := hW.below ((Below.refl _ _).alloc (Nat.le_refl _) (.cells #[.int .i64 0, .int .i64 0, .int .i64 0, .int .i64 0, .int .i64 0, .int .i64 0, .int .i64 0, .int .i64 0, .int .i64 0, .int .i64 0] 94))
  go_enter Tryz.func40, Tryz.ntmps40
  go_wp2_with fail
  refine (decodeFrame_any' a st s _ hE1 hW1 hm).mono ?_
  rintro e w1 ⟨err, rfl, her, hb⟩
  have HER : Hid (ErrBare a err (nextE s)) := her
  clear her
  have HB : Hid (Below w.heap.size w w1) := ((Below.refl _ _).alloc (Nat.le_refl _) _).trans (hb.mono (by simp))
  have hs1 : w.heap.size < w1.heap.size := by have := hb.size; simp at this; omega
  have hr0 := (hb.cell (p := ⟨w.heap.size, 0, none⟩) (by simp)).trans (show _ = some (.int .i64 0) by simp)
  have hg0 := (hb.frozen (p := ⟨w.heap.size, 0, none⟩) (by simp)).trans (show _ = false by simp)
  have hr1 := (hb.cell (p := ⟨w.heap.size, 1, none⟩) (by simp)).trans (show _ = some (.int .i64 0) by simp)
  have hg1 := (hb.frozen (p := ⟨w.heap.size, 1, none⟩) (by simp)).trans (show _ = false by simp)
  have hr2 := (hb.cell (p := ⟨w.heap.size, 2, none⟩) (by simp)).trans (show _ = some (.int .i64 0) by simp)
  have hg2 := (hb.frozen (p := ⟨w.heap.size, 2, none⟩) (by simp)).trans (show _ = false by simp)
  have hr3 := (hb.cell (p := ⟨w.heap.size, 3, none⟩) (by simp)).trans (show _ = some (.int .i64 0) by simp)
  have hg3 := (hb.frozen (p := ⟨w.heap.size, 3, none⟩) (by simp)).trans (show _ = false by simp)
  have hr4 := (hb.cell (p := ⟨w.heap.size, 4, none⟩) (by simp)).trans (show _ = some (.int .i64 0) by simp)
  have hg4 := (hb.frozen (p := ⟨w.heap.size, 4, none⟩) (by simp)).trans (show _ = false by simp)
  have hr5 := (hb.cell (p := ⟨w.heap.size, 5, none⟩) (by simp)).trans (show _ = some (.int .i64 0) by simp)
  have hg5 := (hb.frozen (p := ⟨w.heap.size, 5, none⟩) (by simp)).trans (show _ = false by simp)
  have hr6 := (hb.cell (p := ⟨w.heap.size, 6, none⟩) (by simp)).trans (show _ = some (.int .i64 0) by simp)
  have hg6 := (hb.frozen (p := ⟨w.heap.size, 6, none⟩) (by simp)).trans (show _ = false by simp)
  have hr7 := (hb.cell (p := ⟨w.heap.size, 7, none⟩) (by simp)).trans (show _ = some (.int .i64 0) by simp)
  have hg7 := (hb.frozen (p := ⟨w.heap.size, 7, none⟩) (by simp)).trans (show _ = false by simp)
  have hr8 := (hb.cell (p := ⟨w.heap.size, 8, none⟩) (by simp)).trans (show _ = some (.int .i64 0) by simp)
  have hg8 := (hb.frozen (p := ⟨w.heap.size, 8, none⟩) (by simp)).trans (show _ = false by simp)
  have hr9 := (hb.cell (p := ⟨w.heap.size, 9, none⟩) (by simp)).trans (show _ = some (.int .i64 0) by simp)
  have hg9 := (hb.frozen (p := ⟨w.heap.size, 9, none⟩) (by simp)).trans (show _ = false by simp)
  clear hb
  go_wp2
  refine bodyPost_ret (v := .tuple #[cmdV (nextK s) (nextV s), .int .i64 (nextB s), err]) (by simp [results, Tryz.results40, go_sem, hr0, hr1, hr2, hr3, hr4, hr5, hr6, hr7, hr8, hr9]) rfl ⟨err, rfl, HER.out, keep10 HB.out _ _ _ _ _ _ _ _ _ _⟩

theorem keep9r {w w' : World} {B : Nat} (h : Below B w w') (x0 x1 x2 x3 x4 x5 x6 x7 x8 : Value) : Below B w (((((((((w'.setCell ⟨B, 0, none⟩ x0).setCell ⟨B, 1, none⟩ x1).setCell ⟨B, 2, none⟩ x2).setCell ⟨B, 3, none⟩ x3).setCell ⟨B, 4, none⟩ x4).setCell ⟨B, 5, none⟩ x5).setCell ⟨B, 6, none⟩ x6).setCell ⟨B, 7, none⟩ x7).setCell ⟨B, 8, none⟩ x8) :=
  ((((((((h.setCell (Nat.le_refl B) x0).setCell (Nat.le_refl B) x1).setCell (Nat.le_refl B) x2).setCell (Nat.le_refl B) x3).setCell (Nat.le_refl B) x4).setCell (Nat.le_refl B) x5).setCell (Nat.le_refl B) x6).setCell (Nat.le_refl B) x7).setCell (Nat.le_refl B) x8
theorem rcell {w w3 : World} {t : TypeId} (_hs : w.heap.size < w3.heap.size) (h : Below (w.heap.size + 1) (w.alloc (.cells z9 t)) w3) (j : Nat) (hj : j < 9) : w3.cell? ⟨w.heap.size, j, none⟩ = some (.int .i64 0) := by
  rw [h.cell (p := ⟨w.heap.size, j, none⟩) (by simp)]
  have e : j = 0 ∨ j = 1 ∨ j = 2 ∨ j = 3 ∨ j = 4 ∨ j = 5 ∨ j = 6 ∨ j = 7 ∨ j = 8 := by omega
  rcases e with rfl | rfl | rfl | rfl | rfl | rfl | rfl | rfl | rfl <;> simp
theorem rfroz {w w3 : World} {t : TypeId} (h : Below (w.heap.size + 1) (w.alloc (.cells z9 t)) w3) (j : Nat) : w3.frozen? ⟨w.heap.size, j, none⟩ = false := by
  rw [h.frozen (p := ⟨w.heap.size, j, none⟩) (by simp)]
  simp

set_option maxRecDepth 100000 in
set_option maxHeartbeats 2000000 in
theorem plainDecode_any (a : Nat → Addr) (st : Nat → ByteArray) (s : ByteArray) (w : World) (hE : Errs w a st) (hW : Wids w) (hm : s.size ≤ 1000000000) :
    Calls Tryz.prog 21 #[.string s] w fun e w' => e = .returned (.tuple #[.int .i64 (nextK s), arrV (nextV s), .int .i64 (nextB s), .int .i64 (nextE s)]) ∧ Below w.heap.size w w' := by
  have hB1 : Below w.heap.size w (w.alloc (.cells z9 26)) := (Below.refl _ _).alloc (Nat.le_refl _) _
  have hE1 := hE.below hB1
  have hW1 := hW.below hB1
  go_enter Tryz.func21, Tryz.ntmps21
  go_wp2_with fail
  refine (obDecode_any a st s _ hE1 hW1 hm).mono ?_
  rintro e w1 ⟨err, rfl, her, hb⟩
  have HB1 : Hid (Below w.heap.size w w1) := hB1.trans (hb.mono (by simp))
  have HR1 : Hid (Below (w.heap.size + 1) (w.alloc (.cells z9 26)) w1) := hb.mono (by simp)
  have hs1 : w.heap.size < w1.heap.size := by have := hb.size; simp at this; omega
  have HER : Hid (ErrBare a err (nextE s)) := her
  clear her hb
  generalize hKK : nextK s = K at *
  generalize hVV : nextV s = V at *
  generalize hBB : nextB s = Bn at *
  generalize hEE : nextE s = En at *
  have HKK : Hid (nextK s = K) := hKK
  have HVV : Hid (nextV s = V) := hVV
  have HBB : Hid (nextB s = Bn) := hBB
  have HEE : Hid (nextE s = En) := hEE
  clear hKK hVV hBB hEE
  have hnb := number_err a st err En (-1) (w1.alloc (.cells #[.int .i64 K, .int .i64 (V 0), .int .i64 (V 1), .int .i64 (V 2), .int .i64 (V 3), .int .i64 (V 4), .int .i64 (V 5), .int .i64 (V 6), .int .i64 (V 7), .int .i64 (V 8)] 94)) (hE.below (below_alloc HB1.out _)) (HER.out.is _)
  have HNB : Hid (Calls Tryz.prog 41 #[err] (w1.alloc (.cells #[.int .i64 K, .int .i64 (V 0), .int .i64 (V 1), .int .i64 (V 2), .int .i64 (V 3), .int .i64 (V 4), .int .i64 (V 5), .int .i64 (V 6), .int .i64 (V 7), .int .i64 (V 8)] 94)) fun e w' => e = .returned (.tuple #[.int .i64 En, .int .i64 (-1)]) ∧ Below (w1.alloc (.cells #[.int .i64 K, .int .i64 (V 0), .int .i64 (V 1), .int .i64 (V 2), .int .i64 (V 3), .int .i64 (V 4), .int .i64 (V 5), .int .i64 (V 6), .int .i64 (V 7), .int .i64 (V 8)] 94)).heap.size (w1.alloc (.cells #[.int .i64 K, .int .i64 (V 0), .int .i64 (V 1), .int .i64 (V 2), .int .i64 (V 3), .int .i64 (V 4), .int .i64 (V 5), .int .i64 (V 6), .int .i64 (V 7), .int .i64 (V 8)] 94)) w') := hnb
  clear hnb
  go_wp2_with fail
  refine HNB.out.mono ?_
  rintro e w2 ⟨rfl, hb2⟩
  have hk0 := (hb2.cell (p := ⟨w1.heap.size, 0, none⟩) (by simp)).trans (show _ = some (.int .i64 K) by simp)
  have hk1 := (hb2.cell (p := ⟨w1.heap.size, 1, none⟩) (by simp)).trans (show _ = some (.int .i64 (V 0)) by simp)
  have hk2 := (hb2.cell (p := ⟨w1.heap.size, 2, none⟩) (by simp)).trans (show _ = some (.int .i64 (V 1)) by simp)
  have hk3 := (hb2.cell (p := ⟨w1.heap.size, 3, none⟩) (by simp)).trans (show _ = some (.int .i64 (V 2)) by simp)
  have hk4 := (hb2.cell (p := ⟨w1.heap.size, 4, none⟩) (by simp)).trans (show _ = some (.int .i64 (V 3)) by simp)
  have hk5 := (hb2.cell (p := ⟨w1.heap.size, 5, none⟩) (by simp)).trans (show _ = some (.int .i64 (V 4)) by simp)
  have hk6 := (hb2.cell (p := ⟨w1.heap.size, 6, none⟩) (by simp)).trans (show _ = some (.int .i64 (V 5)) by simp)
  have hk7 := (hb2.cell (p := ⟨w1.heap.size, 7, none⟩) (by simp)).trans (show _ = some (.int .i64 (V 6)) by simp)
  have hk8 := (hb2.cell (p := ⟨w1.heap.size, 8, none⟩) (by simp)).trans (show _ = some (.int .i64 (V 7)) by simp)
  have hk9 := (hb2.cell (p := ⟨w1.heap.size, 9, none⟩) (by simp)).trans (show _ = some (.int .i64 (V 8)) by simp)
  have hs2 : w.heap.size + 1 ≤ w2.heap.size := by have := hb2.size; simp at this; omega
  have HB2 : Hid (Below w.heap.size w w2) := (below_alloc HB1.out _).trans (hb2.mono (by simp; omega))
  have HR2 : Hid (Below (w.heap.size + 1) (w.alloc (.cells z9 26)) w2) := (HR1.out.alloc (by omega) _).trans (hb2.mono (by simp; omega))
  clear hb2
  go_wp2_with fail
  refine (numbers_any K V _).mono ?_
  rintro e w3 ⟨rfl, hb3⟩
  have hs3 : w.heap.size < w3.heap.size := by have := hb3.size; omega
  have HB3 : Hid (Below w.heap.size w w3) := HB2.out.trans (hb3.mono (by omega))
  have HR3 : Hid (Below (w.heap.size + 1) (w.alloc (.cells z9 26)) w3) := HR2.out.trans (hb3.mono (by omega))
  have hr0 := rcell hs3 HR3.out 0 (by omega)
  have hg0 := rfroz HR3.out 0
  have hr1 := rcell hs3 HR3.out 1 (by omega)
  have hg1 := rfroz HR3.out 1
  have hr2 := rcell hs3 HR3.out 2 (by omega)
  have hg2 := rfroz HR3.out 2
  have hr3 := rcell hs3 HR3.out 3 (by omega)
  have hg3 := rfroz HR3.out 3
  have hr4 := rcell hs3 HR3.out 4 (by omega)
  have hg4 := rfroz HR3.out 4
  have hr5 := rcell hs3 HR3.out 5 (by omega)
  have hg5 := rfroz HR3.out 5
  have hr6 := rcell hs3 HR3.out 6 (by omega)
  have hg6 := rfroz HR3.out 6
  have hr7 := rcell hs3 HR3.out 7 (by omega)
  have hg7 := rfroz HR3.out 7
  have hr8 := rcell hs3 HR3.out 8 (by omega)
  have hg8 := rfroz HR3.out 8
  clear hb3 hk0 hk1 hk2 hk3 hk4 hk5 hk6 hk7 hk8 hk9
  go_wp2_with fail
  go_region
  all_goals (try go_wp2)
  all_goals
    refine bodyPost_ret (v := .tuple #[.int .i64 K, arrV V, .int .i64 Bn, .int .i64 En]) (by simp [results, Tryz.results21, go_sem, hr0, hr1, hr2, hr3, hr4, hr5, hr6, hr7, hr8, hs3]) rfl ⟨by rw [HKK.out, HVV.out, HBB.out, HEE.out], ?_⟩
    exact Below.drew (below_alloc (keep9r HB3.out _ _ _ _ _ _ _ _ _) _)
end Go.Proofs.YtcajmohgjojhhaaGreatDoor
