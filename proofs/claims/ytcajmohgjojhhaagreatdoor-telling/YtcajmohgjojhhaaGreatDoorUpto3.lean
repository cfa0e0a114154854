import Derived.Test.YtcajmohgjojhhaaGreatDoorUpto1
set_option linter.unusedVariables false
set_option linter.unusedSimpArgs false
namespace Go.Proofs.YtcajmohgjojhhaaGreatDoor
open Go.RowKit Go.Extern

set_option maxRecDepth 100000 in
set_option maxHeartbeats 4000000 in
theorem upto_1024 (w : World) (ad : Nat → Addr) (st : Nat → ByteArray) (hE : Errs w ad st) (hW : Wids w) (g o L c : Nat) (K A B D : Nat → Int) (S : Nat → ByteArray) (V : Nat → Nat → Int) (hsc : Scr w g o L K A B D S V) (hL : L ≤ 1048576) (hS : ∀ i, i < L → (S i).size ≤ 1048576) :
    Calls Tryz.prog 9 #[.slice (some ⟨g, o, none⟩) L c, .int .i64 1024, .bool false] w fun e w' => e = .returned (.int .i64 (-1)) ∧ Below w.heap.size w w' := by
  have HE : Hid (Errs w ad st) := hE
  have HW : Hid (Wids w) := hW
  have HSC : Hid (Scr w g o L K A B D S V) := hsc
  have HSS : Hid (∀ i, i < L → (S i).size ≤ 1048576) := hS
  clear hE hW hsc hS
  go_enter Tryz.func9, Tryz.ntmps9
  go_wp2_with fail
  go_loopw [8] (fun i wr => ∃ (j : Nat) (ws : List ByteArray) (left : Int), i = .int .i64 j ∧ j ≤ L ∧ St w wr j ws left) (fun i _ => L - (intOf i).toNat)
  case atStart => exact ⟨0, [], 1048576, rfl, Nat.zero_le _, St.init w⟩
  case round =>
    obtain ⟨j, ws, left, rfl, hj, hst⟩ := hrel
    have HST : Hid (St w wr j ws left) := hst
    have HL : Hid (Below w.heap.size w wr) := hst.low
    have hlft := hst.lft
    clear hst
    by_cases hlt : j < L
    · have hjI : (j : Int) < (L : Int) := by omega
      by_cases hpos : 0 < left
      · have ck : wr.cell? ⟨g, o + j * 14, none⟩ = some (.int .i64 (K j)) := (HL.out.cell (p := ⟨g, o + j * 14, none⟩) HSC.out.lt).trans (HSC.out.k j hlt)
        have ca : wr.cell? ⟨g, o + j * 14 + 1, none⟩ = some (.int .i64 (A j)) := (HL.out.cell (p := ⟨g, o + j * 14 + 1, none⟩) HSC.out.lt).trans (HSC.out.a j hlt)
        have cb : wr.cell? ⟨g, o + j * 14 + 2, none⟩ = some (.int .i64 (B j)) := (HL.out.cell (p := ⟨g, o + j * 14 + 2, none⟩) HSC.out.lt).trans (HSC.out.b j hlt)
        have cd : wr.cell? ⟨g, o + j * 14 + 3, none⟩ = some (.int .i64 (D j)) := (HL.out.cell (p := ⟨g, o + j * 14 + 3, none⟩) HSC.out.lt).trans (HSC.out.d j hlt)
        have cs : wr.cell? ⟨g, o + j * 14 + 4, none⟩ = some (.string (S j)) := (HL.out.cell (p := ⟨g, o + j * 14 + 4, none⟩) HSC.out.lt).trans (HSC.out.s j hlt)
        have v0 : wr.cell? ⟨g, o + j * 14 + 5, none⟩ = some (.int .i64 (V j 0)) := (HL.out.cell (p := ⟨g, o + j * 14 + 5, none⟩) HSC.out.lt).trans (HSC.out.v j 0 hlt (by omega))
        have v1 : wr.cell? ⟨g, o + j * 14 + 6, none⟩ = some (.int .i64 (V j 1)) := (HL.out.cell (p := ⟨g, o + j * 14 + 6, none⟩) HSC.out.lt).trans (HSC.out.v j 1 hlt (by omega))
        have v2 : wr.cell? ⟨g, o + j * 14 + 7, none⟩ = some (.int .i64 (V j 2)) := (HL.out.cell (p := ⟨g, o + j * 14 + 7, none⟩) HSC.out.lt).trans (HSC.out.v j 2 hlt (by omega))
        have v3 : wr.cell? ⟨g, o + j * 14 + 8, none⟩ = some (.int .i64 (V j 3)) := (HL.out.cell (p := ⟨g, o + j * 14 + 8, none⟩) HSC.out.lt).trans (HSC.out.v j 3 hlt (by omega))
        have v4 : wr.cell? ⟨g, o + j * 14 + 9, none⟩ = some (.int .i64 (V j 4)) := (HL.out.cell (p := ⟨g, o + j * 14 + 9, none⟩) HSC.out.lt).trans (HSC.out.v j 4 hlt (by omega))
        have v5 : wr.cell? ⟨g, o + j * 14 + 10, none⟩ = some (.int .i64 (V j 5)) := (HL.out.cell (p := ⟨g, o + j * 14 + 10, none⟩) HSC.out.lt).trans (HSC.out.v j 5 hlt (by omega))
        have v6 : wr.cell? ⟨g, o + j * 14 + 11, none⟩ = some (.int .i64 (V j 6)) := (HL.out.cell (p := ⟨g, o + j * 14 + 11, none⟩) HSC.out.lt).trans (HSC.out.v j 6 hlt (by omega))
        have v7 : wr.cell? ⟨g, o + j * 14 + 12, none⟩ = some (.int .i64 (V j 7)) := (HL.out.cell (p := ⟨g, o + j * 14 + 12, none⟩) HSC.out.lt).trans (HSC.out.v j 7 hlt (by omega))
        have v8 : wr.cell? ⟨g, o + j * 14 + 13, none⟩ = some (.int .i64 (V j 8)) := (HL.out.cell (p := ⟨g, o + j * 14 + 13, none⟩) HSC.out.lt).trans (HSC.out.v j 8 hlt (by omega))
        have HSTEP : Hid (Calls Tryz.prog 10 #[.pointer (some ⟨w.heap.size, 0, none⟩), opV (K j) (A j) (B j) (D j) (S j) (V j)] wr fun e w' => StepBack w j (K j) e w') := step_any HST.out (by omega) hpos ad st (HE.out.below HL.out) (HW.out.below HL.out) (K j) (A j) (B j) (D j) (S j) (V j) (HSC.out.ra j hlt) (HSC.out.rb j hlt) (fun q hq => HSC.out.rv j q hlt hq) (Nat.le_trans (HSS.out j hlt) (by decide))
        have HMONO : Hid (St w wr (j + 1) ws left) := HST.out.mono (Nat.le_succ j)
        generalize K j = kk at *
        by_cases hk1 : kk < 1
        · go_wp2
          go_roundw
          case rel => exact ⟨j + 1, ws, left, by go_num, by omega, HMONO.out⟩
          case measure => simp [intOf]; omega
        by_cases hk17 : 17 < kk
        · go_wp2
          go_roundw
          case rel => exact ⟨j + 1, ws, left, by go_num, by omega, HMONO.out⟩
          case measure => simp [intOf]; omega
        go_wp2_with fail
        refine HSTEP.out.mono ?_
        rintro e w2 ⟨⟨r, rfl, hr⟩, ws2, left2, hS2⟩
        have HS2 : Hid (St w w2 (j + 1) ws2 left2) := hS2
        clear hS2 HSTEP ck ca cb cd cs v0 v1 v2 v3 v4 v5 v6 v7 v8
        cases r
        · have hnk : kk ≠ 3 ∧ kk ≠ 9 ∧ kk ≠ 10 := ⟨fun q => Bool.noConfusion (hr (.inl q)), fun q => Bool.noConfusion (hr (.inr (.inl q))), fun q => Bool.noConfusion (hr (.inr (.inr q)))⟩
          have hkk : kk = 1 ∨ kk = 2 ∨ kk = 4 ∨ kk = 5 ∨ kk = 6 ∨ kk = 7 ∨ kk = 8 ∨ kk = 11 ∨ kk = 12 ∨ kk = 13 ∨ kk = 14 ∨ kk = 15 ∨ kk = 16 ∨ kk = 17 := by omega
          clear hr hnk hk1 hk17
          rcases hkk with rfl | rfl | rfl | rfl | rfl | rfl | rfl | rfl | rfl | rfl | rfl | rfl | rfl | rfl
          all_goals
            go_wp2_with fail
            refine (looks_any HS2.out (by omega)).mono ?_
            rintro e w3 ⟨⟨r3, rfl⟩, q3, rfl⟩
            have HS3 : Hid (St w (w2.drewN q3) (j + 1) ws2 left2) := HS2.out.drewN q3
            cases r3
            · go_wp2
              go_ret
              exact ⟨rfl, HS3.out.low⟩
            · go_wp2
              go_roundw
              case rel => exact ⟨j + 1, ws2, left2, by go_num, by omega, HS3.out⟩
              case measure => simp [intOf]; omega
        · clear hr
          go_wp2_with fail
          refine (looks_any HS2.out (by omega)).mono ?_
          rintro e w3 ⟨⟨r3, rfl⟩, q3, rfl⟩
          have HS3 : Hid (St w (w2.drewN q3) (j + 1) ws2 left2) := HS2.out.drewN q3
          cases r3
          · go_wp2
            go_ret
            exact ⟨rfl, HS3.out.low⟩
          · go_wp2
            go_roundw
            case rel => exact ⟨j + 1, ws2, left2, by go_num, by omega, HS3.out⟩
            case measure => simp [intOf]; omega
      · go_wp2
        go_ret
        exact ⟨rfl, HL.out⟩
    · have hjL : ¬ (j : Int) < (L : Int) := by omega
      go_wp2
      go_ret
      exact ⟨rfl, HL.out⟩
end Go.Proofs.YtcajmohgjojhhaaGreatDoor
