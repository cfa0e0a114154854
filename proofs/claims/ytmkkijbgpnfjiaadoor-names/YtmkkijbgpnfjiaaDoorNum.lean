import Derived.Test.YtmkkijbgpnfjiaaDoorAs
import Derived.Below
namespace Go.Proofs.YtmkkijbgpnfjiaaDoor
open Go.RowKit Go.Extern.Stop Go.Stop Go.Extern

/-- The eight reasons lie in their variables: pointers to texts, no two alike; and the handle of the type error. -/
structure Errs (w : World) (a : Nat → Addr) (s : Nat → ByteArray) : Prop where
  c0 : w.cell? ⟨0, 0, none⟩ = some (.iface 66 (.pointer (some (a 0))))
  c1 : w.cell? ⟨1, 0, none⟩ = some (.iface 66 (.pointer (some (a 1))))
  c2 : w.cell? ⟨2, 0, none⟩ = some (.iface 66 (.pointer (some (a 2))))
  c3 : w.cell? ⟨3, 0, none⟩ = some (.iface 66 (.pointer (some (a 3))))
  c4 : w.cell? ⟨4, 0, none⟩ = some (.iface 66 (.pointer (some (a 4))))
  c5 : w.cell? ⟨5, 0, none⟩ = some (.iface 66 (.pointer (some (a 5))))
  c6 : w.cell? ⟨6, 0, none⟩ = some (.iface 66 (.pointer (some (a 6))))
  c7 : w.cell? ⟨7, 0, none⟩ = some (.iface 66 (.pointer (some (a 7))))
  handle : w.cell? ⟨8, 0, none⟩ = some (.iface 52 (.agg #[.pointer (some ⟨12, 26, none⟩)]))
  ne : ∀ i j, i < 8 → j < 8 → i ≠ j → a i ≠ a j
  row : ∀ k, k < 8 → ∃ c t, w.heap[(a k).block]? = some (.cells c t (0, 0))
  str : ∀ k, k < 8 → w.cell? (a k) = some (.string (s k)) ∧ (s k).size ≠ 0 ∧ (s k).size ≤ 1000

theorem Errs.below {w w' : World} {a : Nat → Addr} {s : Nat → ByteArray} (h : Errs w a s) (hb : Below w.heap.size w w') : Errs w' a s :=
  ⟨(hb.cell (lt_of_cell h.c0)).trans h.c0, (hb.cell (lt_of_cell h.c1)).trans h.c1, (hb.cell (lt_of_cell h.c2)).trans h.c2, (hb.cell (lt_of_cell h.c3)).trans h.c3,
   (hb.cell (lt_of_cell h.c4)).trans h.c4, (hb.cell (lt_of_cell h.c5)).trans h.c5, (hb.cell (lt_of_cell h.c6)).trans h.c6, (hb.cell (lt_of_cell h.c7)).trans h.c7,
   (hb.cell (lt_of_cell h.handle)).trans h.handle, h.ne,
   fun k hk => by
     obtain ⟨c, t, hr⟩ := h.row k hk
     exact ⟨c, t, (hb.block _ (lt_of_cell (h.str k hk).1)).trans hr⟩,
   fun k hk => ⟨(hb.cell (lt_of_cell (h.str k hk).1)).trans (h.str k hk).1, (h.str k hk).2⟩⟩

theorem Errs.alloc {w : World} {a : Nat → Addr} {s : Nat → ByteArray} (h : Errs w a s) (o : Obj) : Errs (w.alloc o) a s :=
  h.below ((Below.refl _ _).alloc (Nat.le_refl _) o)

/-- The list of the eight, in memory. -/
abbrev listCells (a : Nat → Addr) : Array Value := #[.iface 66 (.pointer (some (a 0))), .iface 66 (.pointer (some (a 1))), .iface 66 (.pointer (some (a 2))), .iface 66 (.pointer (some (a 3))), .iface 66 (.pointer (some (a 4))), .iface 66 (.pointer (some (a 5))), .iface 66 (.pointer (some (a 6))), .iface 66 (.pointer (some (a 7)))]
theorem listCell (a : Nat → Addr) (w : World) (t : TypeId) (j : Nat) (hj : j < 8) : (w.alloc (.cells (listCells a) t)).cell? ⟨w.heap.size, j, none⟩ = some (.iface 66 (.pointer (some (a j)))) := by
  have h : j = 0 ∨ j = 1 ∨ j = 2 ∨ j = 3 ∨ j = 4 ∨ j = 5 ∨ j = 6 ∨ j = 7 := by omega
  rcases h with rfl | rfl | rfl | rfl | rfl | rfl | rfl | rfl <;> simp

/-- number(nil). -/
theorem number_nil (w : World) : Calls Tryd.prog 5 #[.nilIface] w fun e w' => e = .returned (.tuple #[.int .i64 0, .int .i64 (-1)]) ∧ w' = w := by
  go_enter Tryd.func5, Tryd.ntmps5
  go_wp2
  go_ret2
  exact ⟨rfl, rfl⟩

set_option maxHeartbeats 1000000 in
/-- number of a reason itself. -/
theorem number_bare (a : Nat → Addr) (s : Nat → ByteArray) (k : Nat) (hk : k < 8) (w : World) (hE : Errs w a s) :
    Calls Tryd.prog 5 #[.iface 66 (.pointer (some (a k)))] w fun e w' => e = .returned (.tuple #[.int .i64 ((k : Int) + 1), .int .i64 (-1)]) ∧ Below w.heap.size w w' := by
  have hE1 := hE.alloc (.cells (listCells a) 26)
  obtain ⟨c0, c1, c2, c3, c4, c5, c6, c7, -, -, -, -⟩ := hE
  have hcell := listCell a w 26
  have HC : Hid (∀ j, j < 8 → (w.alloc (.cells (listCells a) 26)).cell? ⟨w.heap.size, j, none⟩ = some (.iface 66 (.pointer (some (a j))))) := hcell
  clear hcell
  go_enter Tryd.func5, Tryd.ntmps5
  go_wp2
  go_loop [4, 20] (fun n i => ∃ j : Nat, j ≤ 8 ∧ i = .int .i64 j ∧ n = .int .i64 (if k < j then (k : Int) + 1 else 0)) (fun _ i => 8 - (intOf i).toNat)
  case atStart => exact ⟨0, by omega, rfl, rfl⟩
  case round =>
    obtain ⟨j, hj, rfl, rfl⟩ := hrel
    by_cases hlt : j < 8
    · have hc := HC.out j hlt
      obtain ⟨cj, tj, hrj⟩ := hE1.row j hlt
      obtain ⟨ck, tk, hrk⟩ := hE1.row k hk
      rcases Nat.lt_trichotomy j k with hjk | hjk | hjk
      · have hne := hE1.ne k j hk hlt (by omega)
        rw [if_neg (by omega)]
        go_wp2_with (go_at_call 6; refine (is_other _ _ ck cj tk tj _ hne hrk hrj).mono ?_; rintro e w' ⟨rfl, rfl⟩)
        go_round
        case rel => exact ⟨j + 1, by omega, by go_num, by rw [if_neg (by omega)]⟩
        case measure => simp [intOf]; omega
      · subst hjk
        rw [if_neg (by omega)]
        go_wp2_with (go_at_call 6; refine (is_same _ _).mono ?_; rintro e w' ⟨rfl, rfl⟩)
        go_round
        case rel => exact ⟨j + 1, by omega, by go_num, by rw [if_pos (by omega)]⟩
        case measure => simp [intOf]; omega
      · have hne := hE1.ne k j hk hlt (by omega)
        rw [if_pos hjk]
        go_wp2_with (go_at_call 6; refine (is_other _ _ ck cj tk tj _ hne hrk hrj).mono ?_; rintro e w' ⟨rfl, rfl⟩)
        go_round
        case rel => exact ⟨j + 1, by omega, by go_num, by rw [if_pos (by omega)]⟩
        case measure => simp [intOf]; omega
    · have hj8 : j = 8 := by omega
      subst hj8
      rw [if_pos hk]
      have hb0 : ((k : Int) + 1 == 0) = false := beq_eq_false_iff_ne.2 (by omega)
      have hE2 := hE1.alloc (.cells #[.pointer none] 28)
      have hh := hE2.handle
      go_wp2_with (go_at_call 7; refine (as_miss _ _ (.pointer none) _ hh (by simp)).mono ?_; rintro e w' ⟨rfl, rfl⟩)
      go_ret2
      refine ⟨rfl, ?_⟩
      exact (((((Below.refl _ _).alloc (Nat.le_refl _) _).alloc (by simp) _).alloc (by simp; omega) _).alloc (by simp; omega) _).alloc (by simp; omega) _
end Go.Proofs.YtmkkijbgpnfjiaaDoor
