import Derived.Test.YtcajmohgjojhhaaGreatDoorUpto1
set_option linter.unusedVariables false
set_option linter.unusedSimpArgs false
namespace Go.Proofs.YtcajmohgjojhhaaGreatDoor
open Go.RowKit Go.Extern

/-- What small tells. -/
def SmallBack (L : Nat) (S : Nat → ByteArray) (e : Ending) : Prop := ∃ r, e = .returned (.bool r) ∧ (r = true → L ≤ 1048576 ∧ ∀ i, i < L → (S i).size ≤ 1048576)

set_option maxRecDepth 100000 in
set_option maxHeartbeats 2000000 in
theorem small_any (w : World) (g o L c : Nat) (K A B D : Nat → Int) (S : Nat → ByteArray) (V : Nat → Nat → Int) (hsc : Scr w g o L K A B D S V) (hL : L ≤ 9000000000000000000) (hS : ∀ i, i < L → (S i).size ≤ 9000000000000000000) :
    Calls Tryz.prog 8 #[.slice (some ⟨g, o, none⟩) L c] w fun e w' => SmallBack L S e ∧ w' = w := by
  have HSC : Hid (Scr w g o L K A B D S V) := hsc
  have HSS : Hid (∀ i, i < L → (S i).size ≤ 9000000000000000000) := hS
  clear hsc hS
  by_cases hbig : 1048576 < L
  · have hb : (1048576 : Int) < (L : Int) := by omega
    have hnb : ¬ L ≤ 1048576 := by omega
    go_enter Tryz.func8, Tryz.ntmps8
    go_wp2
    go_ret
    exact ⟨⟨_, rfl, fun q => Bool.noConfusion q⟩, rfl⟩
  · have hb : ¬ (1048576 : Int) < (L : Int) := by omega
    have HL : Hid (L ≤ 1048576) := by show L ≤ 1048576; omega
    go_enter Tryz.func8, Tryz.ntmps8
    go_wp2_with fail
    go_loopw [3, 4] (fun s i wr => ∃ (j N : Nat), i = .int .i64 j ∧ s = .int .i64 N ∧ j ≤ L ∧ N ≤ 1048576 ∧ (∀ i, i < j → (S i).size ≤ 1048576) ∧ wr = w) (fun _ i _ => L - (intOf i).toNat)
    case atStart => exact ⟨0, L, rfl, rfl, Nat.zero_le _, HL.out, fun i h => absurd h (Nat.not_lt_zero i), rfl⟩
    case round =>
      obtain ⟨j, N, rfl, rfl, hj, hN, hall, rfl⟩ := hrel
      have HALL : Hid (∀ i, i < j → (S i).size ≤ 1048576) := hall
      clear hall
      by_cases hlt : j < L
      · have hjI : (j : Int) < (L : Int) := by omega
        have cs := HSC.out.s j hlt
        have hsz := HSS.out j hlt
        obtain ⟨sj, hsj⟩ : ∃ sj, S j = sj := ⟨_, rfl⟩
        have HSJ : Hid (S j = sj) := hsj
        rw [hsj] at cs hsz
        clear hsj
        by_cases hgt : 1048576 < N + sj.size
        · have hg : (1048576 : Int) < (N : Int) + (sj.size : Int) := by omega
          have hw : wrap64 ((N : Int) + (sj.size : Int)) = (N : Int) + (sj.size : Int) := by unfold wrap64; omega
          go_wp2
          go_ret
          exact ⟨⟨_, rfl, fun q => Bool.noConfusion q⟩, rfl⟩
        · have hg : ¬ (1048576 : Int) < (N : Int) + (sj.size : Int) := by omega
          have hw : wrap64 ((N : Int) + (sj.size : Int)) = (N : Int) + (sj.size : Int) := by unfold wrap64; omega
          have HR : Hid (∀ i, i < j + 1 → (S i).size ≤ 1048576) := fun i hi => by
            by_cases e : i < j
            · exact HALL.out i e
            · have : i = j := by omega
              subst this
              rw [HSJ.out]
              omega
          go_wp2
          go_roundw
          case rel => exact ⟨j + 1, N + sj.size, by go_num, by first | rfl | go_num | (push_cast; rfl), by omega, by omega, HR.out, by first | rfl | trivial⟩
          case measure => simp [intOf]; omega
      · have hjL : ¬ (j : Int) < (L : Int) := by omega
        have hjl : j = L := by omega
        have HF : Hid (L ≤ 1048576 ∧ ∀ i, i < L → (S i).size ≤ 1048576) := ⟨HL.out, fun i hi => HALL.out i (by omega)⟩
        go_wp2
        go_ret
        exact ⟨⟨_, rfl, fun _ => HF.out⟩, rfl⟩
end Go.Proofs.YtcajmohgjojhhaaGreatDoor
