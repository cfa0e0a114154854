import Derived.Test.YtmkkijbgpnfjiaaDoorNum
import Derived.Deep.RegionWith
namespace Go.Proofs.YtmkkijbgpnfjiaaDoor
open Go.RowKit Go.Extern.Stop Go.Stop Go.Extern

/-- errors.As(f, &t), f a *Fault: t is f; below t's block nothing has turned. -/
theorem as_hit' (e t : Addr) (old : Value) (w : World) (hg : w.cell? ⟨8, 0, none⟩ = some (.iface 52 (.agg #[.pointer (some ⟨12, 26, none⟩)]))) (ht0 : w.cell? t = some old) (hf0 : w.frozen? t = false) :
    Calls Tryd.prog 7 #[.iface 28 (.pointer (some e)), .iface 36 (.pointer (some t))] w fun ev w' => ev = .returned (.bool true) ∧ w'.cell? t = some (.pointer (some e)) ∧ Below t.block w w' := by
  refine (as_hit e t old w hg ht0 hf0).mono ?_
  rintro ev w' ⟨rfl, rfl⟩
  have hl := lt_of_cell ht0
  refine ⟨rfl, ?_, ?_⟩
  · refine World.cell?_setCell_same (u := old) _ _ _ ?_
    rw [World.cell?_alloc_lt _ _ t (by simp; omega), World.cell?_alloc_lt _ _ t (by simp; omega), World.cell?_alloc_lt _ _ t (by simp; omega), World.cell?_alloc_lt _ _ t hl]; exact ht0
  · exact (((((Below.refl _ _).alloc (by omega) _).alloc (by simp; omega) _).alloc (by simp; omega) _).alloc (by simp; omega) _).setCell (Nat.le_refl _) _

set_option maxHeartbeats 1000000 in
/-- number of a Fault of a reason. -/
theorem number_fault (a : Nat → Addr) (s : Nat → ByteArray) (k : Nat) (hk : k < 8) (pb po : Nat) (n : Int) (w : World) (hE : Errs w a s)
    (h0 : w.cell? ⟨pb, po, none⟩ = some (.int .i64 n)) (h1 : w.cell? ⟨pb, po + 1, none⟩ = some (.iface 66 (.pointer (some (a k))))) :
    Calls Tryd.prog 5 #[.iface 28 (.pointer (some ⟨pb, po, none⟩))] w fun e w' => e = .returned (.tuple #[.int .i64 ((k : Int) + 1), .int .i64 n]) ∧ Below w.heap.size w w' := by
  have hE1 := hE.alloc (.cells (listCells a) 26)
  have hpb : pb < w.heap.size := lt_of_cell h0
  have h11 : (w.alloc (.cells (listCells a) 26)).cell? ⟨pb, po + 1, none⟩ = some (.iface 66 (.pointer (some (a k)))) := by
    rw [World.cell?_alloc_lt _ _ _ hpb]; exact h1
  have h02 : ((w.alloc (.cells (listCells a) 26)).alloc (.cells #[.pointer none] 28)).cell? ⟨pb, po, none⟩ = some (.int .i64 n) := by
    rw [World.cell?_alloc_lt _ _ _ (by simp; omega), World.cell?_alloc_lt _ _ _ hpb]; exact h0
  obtain ⟨c0, c1, c2, c3, c4, c5, c6, c7, -, -, -, -⟩ := hE
  have hcell := listCell a w 26
  have HC : Hid (∀ j, j < 8 → (w.alloc (.cells (listCells a) 26)).cell? ⟨w.heap.size, j, none⟩ = some (.iface 66 (.pointer (some (a j))))) := hcell
  clear hcell
  go_enter Tryd.func5, Tryd.ntmps5
  go_wp2
  go_loop [4, 20] (fun n i => ∃ j : Nat, j ≤ 8 ∧ i = .int .i64 j ∧ n = .int .i64 (if k < j then (k : Int) + 1 else 0)) (fun _ i => 8 - (intOf i).toNat)
  case atStart => exact ⟨0, by omega, rfl, rfl⟩
  case round =>
    obtain ⟨j, hj, rfl, rfl⟩ := hrel
    by_cases hlt : j < 8
    · have hc := HC.out j hlt
      obtain ⟨cj, tj, hrj⟩ := hE1.row j hlt
      obtain ⟨ck, tk, hrk⟩ := hE1.row k hk
      rcases Nat.lt_trichotomy j k with hjk | hjk | hjk
      · have hne := hE1.ne k j hk hlt (by omega)
        rw [if_neg (by omega)]
        go_wp2_with (go_at_call 6; refine (is_wrap_other _ _ _ _ ck cj tk tj _ h11 hne hrk hrj).mono ?_; rintro e w' ⟨rfl, rfl⟩)
        go_round
        case rel => exact ⟨j + 1, by omega, by go_num, by rw [if_neg (by omega)]⟩
        case measure => simp [intOf]; omega
      · subst hjk
        rw [if_neg (by omega)]
        go_wp2_with (go_at_call 6; refine (is_wrap_same _ _ _ _ h11).mono ?_; rintro e w' ⟨rfl, rfl⟩)
        go_round
        case rel => exact ⟨j + 1, by omega, by go_num, by rw [if_pos (by omega)]⟩
        case measure => simp [intOf]; omega
      · have hne := hE1.ne k j hk hlt (by omega)
        rw [if_pos hjk]
        go_wp2_with (go_at_call 6; refine (is_wrap_other _ _ _ _ ck cj tk tj _ h11 hne hrk hrj).mono ?_; rintro e w' ⟨rfl, rfl⟩)
        go_round
        case rel => exact ⟨j + 1, by omega, by go_num, by rw [if_pos (by omega)]⟩
        case measure => simp [intOf]; omega
    · have hj8 : j = 8 := by omega
      subst hj8
      rw [if_pos hk]
      have hb0 : ((k : Int) + 1 == 0) = false := beq_eq_false_iff_ne.2 (by omega)
      have hE2 := hE1.alloc (.cells #[.pointer none] 28)
      have hh := hE2.handle
      have hB0 : Below w.heap.size w ((w.alloc (.cells (listCells a) 26)).alloc (.cells #[.pointer none] 28)) := ((Below.refl _ _).alloc (Nat.le_refl _) _).alloc (by simp) _
      go_wp2_with fail
      refine (as_hit' _ _ (.pointer none) _ hh (by simp) (by simp)).mono ?_
      rintro e w' ⟨rfl, hc, hb⟩
      have hq : w'.cell? ⟨pb, po, none⟩ = some (.int .i64 n) := (hb.cell (p := ⟨pb, po, none⟩) (by simp; omega)).trans h02
      have HB : Hid (Below w.heap.size w w') := hB0.trans (hb.mono (by simp))
      clear hb hB0
      go_wp2_with fail
      go_region
      all_goals (try go_wp2)
      all_goals (go_ret2; exact ⟨rfl, HB.out.drew⟩)
end Go.Proofs.YtmkkijbgpnfjiaaDoor
