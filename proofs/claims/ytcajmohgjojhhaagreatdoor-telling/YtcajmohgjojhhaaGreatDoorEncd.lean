import Derived.Test.YtcajmohgjojhhaaGreatDoorMH
import Derived.Test.YtcajmohgjojhhaaGreatDoorPEnc
set_option linter.unusedVariables false
set_option linter.unusedSimpArgs false
namespace Go.Proofs.YtcajmohgjojhhaaGreatDoor
open Go.RowKit Go.Extern

theorem encRes_len (kind : Int) (v : Nat → Int) : (encRes kind v).1.length ≤ 1000 := by
  unfold encRes
  split
  · split
    · simp
    · have h1 := body_length (terms kind) v (fun p hp => by rcases (terms_ok kind p hp).2.1 with q | q <;> omega)
      have h2 := terms_len kind
      simp only [List.length_cons]
      omega
  · simp

set_option maxRecDepth 100000 in
set_option maxHeartbeats 4000000 in
theorem encoded_any {w0 w : World} {n : Nat} {ws : List ByteArray} {left : Int} (h : St w0 w n ws left) (hn : n ≤ 100000000) (hl : 0 < left) (ad : Nat → Addr) (st : Nat → ByteArray) (hE : Errs w ad st) (hW : Wids w) (kind a b d : Int) (s : ByteArray) (v : Nat → Int) (hv : ∀ i, i < 9 → -9223372036854775808 ≤ v i ∧ v i ≤ 9223372036854775807) :
    Calls Tryz.prog 19 #[.pointer (some ⟨w0.heap.size, 0, none⟩), opV kind a b d s v] w fun e w' => e = .returned (.bool true) ∧ Next w0 w' n := by
  have hlen := encRes_len a v
  have HS : Hid (St w0 (w.alloc (.cells (opC kind a b d s v) 28)) n ws left) := h.below (below_new _)
  have HE : Hid (Errs (w.alloc (.cells (opC kind a b d s v) 28)) ad st) := hE.below (below_new _)
  have HW : Hid (Wids (w.alloc (.cells (opC kind a b d s v) 28))) := hW.below (below_new _)
  have HV : Hid (∀ i, i < 9 → -9223372036854775808 ≤ v i ∧ v i ≤ 9223372036854775807) := hv
  have HPE := fun W (h1 : Errs W ad st) (h2 : Wids W) => plainEncode_any ad st a v W h1 h2 hv
  have HRE := fun W => refEncode_any a v W hv
  clear h hE hW hv
  have hsz : (⟨(encRes a v).1.toArray⟩ : ByteArray).size ≤ 1000000000 := by
    show (encRes a v).1.toArray.size ≤ _
    simp
    omega
  generalize (⟨(encRes a v).1.toArray⟩ : ByteArray) = eb at *
  generalize (encRes a v).2.1 = en at *
  generalize (encRes a v).2.2 = ea at *
  have HPE' : Hid (∀ W, Errs W ad st → Wids W → Calls Tryz.prog 38 #[.int .i64 a, arrV v] W fun e w' => e = .returned (.tuple #[.string eb, .int .i64 en, .int .i64 ea]) ∧ Below W.heap.size W w') := HPE
  have HRE' : Hid (∀ W, Calls Tryz.prog 39 #[.agg #[.int .i64 a, .int .i64 (v 0), .int .i64 (v 1), .int .i64 (v 2), .int .i64 (v 3), .int .i64 (v 4), .int .i64 (v 5), .int .i64 (v 6), .int .i64 (v 7), .int .i64 (v 8)]] W fun e w' => e = .returned (.tuple #[.string eb, .int .i64 en, .int .i64 ea]) ∧ Below W.heap.size W w') := HRE
  clear HPE HRE
  go_enter Tryz.func19, Tryz.ntmps19
  go_wp2_with fail
  refine (HPE'.out _ HE.out HW.out).mono ?_
  rintro e w1 ⟨rfl, hb1⟩
  have HB1 : Hid (Below (w.alloc (.cells (opC kind a b d s v) 28)).heap.size (w.alloc (.cells (opC kind a b d s v) 28)) w1) := hb1
  have hcell : ∀ j u, (opC kind a b d s v)[j]? = some u → w1.cell? ⟨w.heap.size, j, none⟩ = some u := fun j u hj => (hb1.cell (p := ⟨w.heap.size, j, none⟩) (by simp)).trans (cell_new w _ _ j u hj)
  have d1 := hcell 1 _ rfl
  have d5 := hcell 5 _ rfl
  have d6 := hcell 6 _ rfl
  have d7 := hcell 7 _ rfl
  have d8 := hcell 8 _ rfl
  have d9 := hcell 9 _ rfl
  have d10 := hcell 10 _ rfl
  have d11 := hcell 11 _ rfl
  have d12 := hcell 12 _ rfl
  have d13 := hcell 13 _ rfl
  clear hb1 hcell
  go_wp2_with fail
  refine (HRE'.out _).mono ?_
  rintro e w2 ⟨rfl, hb2⟩
  have HS2 : Hid (St w0 w2 n ws left) := (HS.out.below HB1.out).below hb2
  clear hb2 d1 d5 d6 d7 d8 d9 d10 d11 d12 d13
  go_wp2_with fail
  refine (HS2.out.keep eb (by omega) hsz (by omega)).mono ?_
  rintro e w3 ⟨rfl, hS3, hs3⟩
  have HS3 : Hid (Next w0 w3 n) := ⟨_, _, hS3⟩
  clear hS3 hs3
  by_cases hea : ea < 0
  · go_wp2
    go_ret
    exact ⟨rfl, HS3.out⟩
  · go_wp2
    go_ret
    exact ⟨rfl, HS3.out⟩
end Go.Proofs.YtcajmohgjojhhaaGreatDoor
