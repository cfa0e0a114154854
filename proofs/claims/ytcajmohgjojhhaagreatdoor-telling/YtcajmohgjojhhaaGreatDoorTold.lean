import Derived.Test.YtcajmohgjojhhaaGreatDoorRefRec
import Derived.Test.YtcajmohgjojhhaaGreatDoorMF
import Derived.Test.YtcajmohgjojhhaaGreatDoorMI
import Derived.Test.YtcajmohgjojhhaaGreatDoorME
set_option linter.unusedVariables false
set_option linter.unusedSimpArgs false
namespace Go.Proofs.YtcajmohgjojhhaaGreatDoor
open Go.RowKit Go.Extern

theorem rowsC_ints (s : ByteArray) (k : Nat) : ∀ u ∈ rowsC s k, ∃ x, u = .int .i64 x := fun u hu => by
  simp only [rowsC, List.mem_flatMap, List.mem_map] at hu
  obtain ⟨i, _, y, _, rfl⟩ := hu
  exact ⟨y, rfl⟩
theorem rowsC_len (s : ByteArray) (k : Nat) : (rowsC s k).length = k * 7 := by
  induction k with
  | zero => rfl
  | succ k ih => rw [rowsC_snoc, List.length_append, ih]; simp [recL]; omega
/-- Number j of the records, as one long row. -/
def rowX (s : ByteArray) (k j : Nat) : Int := match (rowsC s k)[j]? with | some (.int _ x) => x | _ => 0
theorem rowX_at (s : ByteArray) (k j : Nat) (h : j < 7 * k) : (rowsC s k)[j]? = some (.int .i64 (rowX s k j)) := by
  have hl := rowsC_len s k
  have e : (rowsC s k)[j]? = some (rowsC s k)[j] := List.getElem?_eq_getElem (by omega)
  obtain ⟨x, hx⟩ := rowsC_ints s k (rowsC s k)[j] (List.getElem_mem _)
  unfold rowX
  rw [e, hx]
theorem rowsC_at (s : ByteArray) (k j i : Nat) (hj : j < k) (hi : i < 7) : (rowsC s k)[j * 7 + i]? = ((recL s (22 * j)).map (Value.int .i64))[i]? := by
  induction k with
  | zero => omega
  | succ k ih =>
    rw [rowsC_snoc]
    by_cases e : j < k
    · rw [List.getElem?_append_left (by rw [rowsC_len]; omega)]
      exact ih e
    · have : j = k := by omega
      subst this
      rw [List.getElem?_append_right (by rw [rowsC_len]; omega), rowsC_len, show j * 7 + i - j * 7 = i by omega]
/-- What a row of records reads as. -/
theorem rows_cell {w : World} {base : Nat} {ty : TypeId} {g n cap : Nat} {s : ByteArray} (h : w.ownsRow base ty 7 (.slice (some ⟨g, 0, none⟩) n cap) n (rowsC s n)) (j : Nat) (hj : j < 7 * n) : w.cell? ⟨g, j, none⟩ = some (.int .i64 (rowX s n j)) := by
  have := World.ownsRow.cells h (g := g) rfl j _ (rowX_at s n j hj)
  rw [Addr.add_lit] at this
  simpa using this

theorem rows_cell' {w : World} {base : Nat} {ty : TypeId} {g n cap : Nat} {s : ByteArray} (h : w.ownsRow base ty 7 (.slice (some ⟨g, 0, none⟩) n cap) n (rowsC s n)) (j : Nat) (hj : j < n) (i : Nat) (hi : i < 7) (x : Int) (hx : (recL s (22 * j))[i]? = some x) : w.cell? ⟨g, j * 7 + i, none⟩ = some (.int .i64 x) := by
  have := World.ownsRow.cells h (g := g) rfl (j * 7 + i) (.int .i64 x) (by rw [rowsC_at s n j i hj hi, List.getElem?_map, hx]; rfl)
  rw [Addr.add_lit] at this
  simpa using this
theorem owns_below' {w w' : World} {B : Nat} {e : TypeId} {size : Nat} {v : Value} {n : Nat} {xs : List Value} (h : w.ownsRow B e size v n xs) (hb : Below w.heap.size w w') : w'.ownsRow B e size v n xs := owns_block h (fun q hq => hb.block q (h.lt q hq).2)
/-- What plain.Records hands out: k records of s. -/
def Got (b : Nat) (w : World) (s : ByteArray) (k : Nat) (p : Option Addr) : Prop := (p = none ∧ k = 0) ∨ ∃ g, p = some ⟨g, 0, none⟩ ∧ ∃ cap, w.ownsRow b 85 7 (.slice (some ⟨g, 0, none⟩) k cap) k (rowsC s k)
/-- A list that was handed out, as a list that can be read and written. -/
theorem rec_slice {B b : Nat} {w : World} {s : ByteArray} {k : Nat} {p : Option Addr} (hk : k ≤ 1000000000) (hB : B < b) (ha : Got b w s k p) : RecSlice B w (.slice p k k) k := by
  refine ⟨hk, p, k, rfl, ?_⟩
  rcases ha with ⟨_, h⟩ | ⟨g, rfl, cap, h⟩
  · exact .inl h
  · refine .inr ⟨g, rfl, ?_, ?_⟩
    · have := (h.lt g rfl).1
      omega
    · have := IntBlock.of_row h (rowsC_ints s k)
      rw [Nat.mul_comm] at this
      exact this
theorem got_below {b : Nat} {w w' : World} {s : ByteArray} {k : Nat} {p : Option Addr} (ha : Got b w s k p) (hb : Below w.heap.size w w') :
    Got b w' s k p := by
  rcases ha with h | ⟨g, h, cap, h2⟩
  · exact .inl h
  · exact .inr ⟨g, h, cap, owns_below' h2 hb⟩
/-- The two lists of records read alike. -/
theorem same_rows {w : World} {b b' : Nat} {s : ByteArray} {k : Nat} {p : Option Addr} {c : Nat} {v : Value} (hk : k ≤ 1000000000)
    (ha : Got b w s k p) (hv : w.ownsRow b' 85 7 v k (rowsC s k)) :
    Calls Tryz.prog 17 #[.slice p k c, v] w fun e w' => e = .returned (.bool true) ∧ ∃ m, w' = w.drewN m := by
  by_cases hz : k = 0
  · subst hz
    rcases hv.2 with ⟨rfl, -⟩ | ⟨g', cap', cur, rfl, _⟩
    · exact sameRecords_zero p none c 0 w
    · exact sameRecords_zero p _ c cap' w
  · rcases ha with ⟨_, h⟩ | ⟨g, rfl, cap, ha⟩
    · exact absurd h hz
    · rcases hv.2 with ⟨rfl, h⟩ | ⟨g', cap', cur, rfl, _⟩
      · exact absurd h hz
      · refine (sameRecords_eq g g' c cap' k (rowX s k) (rowX s k) w hk (fun j hj => rows_cell ha j hj) (fun j hj => rows_cell hv j hj)).mono ?_
        rintro e w' ⟨rfl, h⟩
        exact ⟨by rw [decide_eq_true (fun _ _ => rfl)], h⟩

set_option maxRecDepth 100000 in
set_option maxHeartbeats 4000000 in
theorem told_any {w0 w : World} {n : Nat} {ws : List ByteArray} {left : Int} (h : St w0 w n ws left) (hn : n ≤ 100000000) (a : Nat → Addr) (st : Nat → ByteArray) (hE : Errs w a st) (t : ByteArray) (ht : t.size ≤ 1000000000) :
    Calls Tryz.prog 23 #[.pointer (some ⟨w0.heap.size, 0, none⟩), .string t] w fun e w' => e = .returned (.bool true) ∧ St w0 w' (n + 1) ws left := by
  have HS : Hid (St w0 w n ws left) := h
  have hlt := h.lt
  clear h
  go_enter Tryz.func23, Tryz.ntmps23
  go_wp2_with fail
  refine (plainRecords_any a st t _ hE ht).mono ?_
  clear hE
  rintro e w1 ⟨k, nn, hR, hb, hback⟩
  have HR : Hid (RecsOf t k nn) := hR
  have HB : Hid (Below w.heap.size w w1) := hb
  have hkt : k ≤ 100000000 := by
    rcases hR.2 with ⟨_, q⟩ | ⟨_, q, _⟩ | ⟨_, q, _⟩ <;> omega
  have hbs := hb.size
  clear hR hb
  rcases hback with ⟨rfl, v, rfl, hv⟩ | ⟨hne, rfl⟩
  · obtain ⟨p, rfl, HP⟩ : ∃ p, v = .slice p k k ∧ Hid (Got w.heap.size w1 t k p) := by
      rcases hv with ⟨rfl, rfl⟩ | ⟨g, rfl, cap, h⟩
      · exact ⟨none, rfl, .inl ⟨rfl, rfl⟩⟩
      · exact ⟨_, rfl, .inr ⟨g, rfl, cap, h⟩⟩
    clear hv
    go_wp2_with fail
    refine (refRecords_any t _ ht).mono ?_
    rintro e w2 ⟨k', nn, hR2, hb2, hback⟩
    obtain ⟨rfl, rfl⟩ := HR.out.uniq hR2
    clear hR2
    rcases hback with ⟨-, vb, rfl, hvb⟩ | ⟨hne, -⟩
    · have HB2 : Hid (Below w1.heap.size w1 w2) := hb2
      have hbs2 := hb2.size
      have HVB : Hid (w2.ownsRow w1.heap.size 111 7 vb k (rowsC t k)) := hvb
      clear hb2 hvb
      obtain ⟨i0, hi, hz0, hz1, hz2⟩ := info_parts2 Tryz.infoRec Tryz.zeroRec
      have HINF : Hid (Tryz.prog.info? 85 = some i0 ∧ i0.zero = some (recV 0 0 0 0 0 0 0) ∧ i0.size = 7 ∧ i0.bytes = 56) := ⟨hi, hz0, hz1, hz2⟩
      clear hi hz0 hz1 hz2
      rcases HVB.out.2 with ⟨rfl, rfl⟩ | ⟨gb, capb, cur, rfl, hgb, hhb, hleb, hmxb, hszb, htkb⟩
      · go_wp2_with fail
        go_loopw [11, 12] (fun c i wr => c = .slice none 0 0 ∧ i = .int .i64 0 ∧ wr = w2) (fun _ _ _ => 0)
        case atStart => exact ⟨rfl, rfl, rfl⟩
        case round =>
          obtain ⟨rfl, rfl, rfl⟩ := hrel
          have HCC : Hid (wr.ownsRow wr.heap.size 85 7 (.slice none 0 0) 0 (rowsC t 0)) := World.ownsRow_nil _ _ _ _
          have hbw : Below wr.heap.size wr wr := Below.refl _ _
          have HS3 : Hid (St w0 wr n ws left) := ((HS.out.below HB.out).below HB2.out).below hbw
          have HA3 := got_below (got_below HP.out HB2.out) hbw
          have HA4 : Hid (Got w.heap.size wr t 0 p) := HA3
          clear HA3 hbw
          go_wp2_with fail
          refine (same_rows (s := t) (by omega) HA4.out HCC.out).mono ?_
          rintro e w4 ⟨rfl, m, rfl⟩
          go_wp2_with fail
          refine (ownRecords_any (HS3.out.drewN m) hn p 0 (rec_slice (s := t) (by omega) hlt HA4.out)).mono ?_
          rintro e w5 ⟨rfl, hS5⟩
          have HS5 : Hid (St w0 w5 (n + 1) ws left) := hS5
          clear hS5
          go_wp2
          go_ret
          exact ⟨rfl, HS5.out⟩
      · clear hhb htkb hszb
        go_wp2_with fail
        go_loopw [11, 12] (fun c i wr => ∃ j : Nat, i = .int .i64 j ∧ j ≤ k ∧ wr.ownsRow w2.heap.size 85 7 c j (rowsC t j) ∧ Below w2.heap.size w2 wr) (fun _ i _ => k - (intOf i).toNat)
        case atStart => exact ⟨0, rfl, Nat.zero_le _, World.ownsRow_nil _ _ _ _, Below.refl _ _⟩
        case round =>
          obtain ⟨j, rfl, hj, hown, hbw⟩ := hrel
          by_cases hjk : j < k
          · have hjI : (j : Int) < (k : Int) := by omega
            have HVBr := owns_below' HVB.out hbw
            have c0 := rows_cell' HVBr j hjk 0 (by omega) _ rfl
            have c1 := rows_cell' HVBr j hjk 1 (by omega) _ rfl
            have c2 := rows_cell' HVBr j hjk 2 (by omega) _ rfl
            have c3 := rows_cell' HVBr j hjk 3 (by omega) _ rfl
            have c4 := rows_cell' HVBr j hjk 4 (by omega) _ rfl
            have c5 := rows_cell' HVBr j hjk 5 (by omega) _ rfl
            have c6 := rows_cell' HVBr j hjk 6 (by omega) _ rfl
            have HRL : Hid ((recL t (22 * j)).map (Value.int .i64) = [.int .i64 (fld t (22 * j) 0 1), .int .i64 (fld t (22 * j) 1 4), .int .i64 (fld t (22 * j) 5 4), .int .i64 (fld t (22 * j) 9 4), .int .i64 (fld t (22 * j) 13 4), .int .i64 (fld t (22 * j) 17 4), .int .i64 (fld t (22 * j) 21 1)]) := rfl
            rw [Nat.add_zero] at c0
            clear HVBr
            generalize fld t (22 * j) 0 1 = k0 at *
            generalize fld t (22 * j) 1 4 = k1 at *
            generalize fld t (22 * j) 5 4 = k2 at *
            generalize fld t (22 * j) 9 4 = k3 at *
            generalize fld t (22 * j) 13 4 = k4 at *
            generalize fld t (22 * j) 17 4 = k5 at *
            generalize fld t (22 * j) 21 1 = k6 at *
            have hbs3 := hbw.size
            have HBL : Hid (Below w2.heap.size w2 wr) := hbw
            have HW2 : Hid (((wr.alloc (.cells #[.int .i64 k0, .int .i64 k1, .int .i64 k2, .int .i64 k3, .int .i64 k4, .int .i64 k5, .int .i64 k6] 111)).alloc (.cells #[.int .i64 k0, .int .i64 k1, .int .i64 k2, .int .i64 k3, .int .i64 k4, .int .i64 k5, .int .i64 k6] 85)).ownsRow w2.heap.size 85 7 u11 j (rowsC t j)) := (hown.alloc _).alloc _
            have HC1 : Hid (∀ (i : Nat) (u : Value), [.int .i64 k0, .int .i64 k1, .int .i64 k2, .int .i64 k3, .int .i64 k4, .int .i64 k5, .int .i64 k6][i]? = some u → ((wr.alloc (.cells #[.int .i64 k0, .int .i64 k1, .int .i64 k2, .int .i64 k3, .int .i64 k4, .int .i64 k5, .int .i64 k6] 111)).alloc (.cells #[.int .i64 k0, .int .i64 k1, .int .i64 k2, .int .i64 k3, .int .i64 k4, .int .i64 k5, .int .i64 k6] 85)).cell? (Addr.add ⟨wr.heap.size + 1, 0, none⟩ i) = some u) := fun i u hi => by
              rw [Addr.add_lit, Nat.zero_add, ← World.size_alloc wr (.cells #[.int .i64 k0, .int .i64 k1, .int .i64 k2, .int .i64 k3, .int .i64 k4, .int .i64 k5, .int .i64 k6] 111)]
              exact cell_new' (wr.alloc (.cells #[.int .i64 k0, .int .i64 k1, .int .i64 k2, .int .i64 k3, .int .i64 k4, .int .i64 k5, .int .i64 k6] 111)) #[.int .i64 k0, .int .i64 k1, .int .i64 k2, .int .i64 k3, .int .i64 k4, .int .i64 k5, .int .i64 k6] _ i u (by simp; exact hi)
            have HC2 : Hid (∀ u ∈ ([.int .i64 k0, .int .i64 k1, .int .i64 k2, .int .i64 k3, .int .i64 k4, .int .i64 k5, .int .i64 k6] : List Value), u.oneCell' = true) := fun u hu => by
              simp at hu
              rcases hu with rfl | rfl | rfl | rfl | rfl | rfl | rfl <;> rfl
            have HC3 : Hid (j + 1 ≤ maxLen) := by show j + 1 ≤ maxLen; unfold maxLen; omega
            have HC4 : Hid ((j + 1) * 56 ≤ 140737488355328) := by show (j + 1) * 56 ≤ 140737488355328; omega
            have HC5 : Hid (w2.heap.size ≤ ((wr.alloc (.cells #[.int .i64 k0, .int .i64 k1, .int .i64 k2, .int .i64 k3, .int .i64 k4, .int .i64 k5, .int .i64 k6] 111)).alloc (.cells #[.int .i64 k0, .int .i64 k1, .int .i64 k2, .int .i64 k3, .int .i64 k4, .int .i64 k5, .int .i64 k6] 85)).heap.size) := by
              show w2.heap.size ≤ ((wr.alloc _).alloc _).heap.size
              simp
              omega
            clear hown hbw
            go_wp2_with (at_builtin; refine wpList_append_own _ rfl _ _ 48 rfl w2.heap.size 85 i0 (recV 0 0 0 0 0 0 0) 7 56 Tryz.underlying48 HINF.out.1 HINF.out.2.1 HINF.out.2.2.1 HINF.out.2.2.2 rfl (by decide) _ _ _ rfl HW2.out ⟨wr.heap.size + 1, 0, none⟩ 1 1 [.int .i64 k0, .int .i64 k1, .int .i64 k2, .int .i64 k3, .int .i64 k4, .int .i64 k5, .int .i64 k6] rfl rfl HC1.out HC2.out HC3.out HC4.out HC5.out ?_)
            intro v' w3 hown2 hgrow _
            have hlt3 := HW2.out.lt
            have HB3 : Hid (Below w2.heap.size w2 w3) := (below_alloc (below_alloc HBL.out _) _).grown hgrow (by simp; omega) (fun q hq => (hlt3 q hq).1)
            have HO : Hid (w3.ownsRow w2.heap.size 85 7 v' (j + 1) (rowsC t (j + 1))) := by
              show w3.ownsRow w2.heap.size 85 7 v' (j + 1) (rowsC t (j + 1))
              rw [rowsC_snoc, HRL.out]
              exact hown2
            clear hown2 hgrow hlt3
            go_wp2
            go_roundw
            case rel => exact ⟨j + 1, by go_num, by omega, HO.out, HB3.out⟩
            case measure => simp [intOf]; omega
          · obtain rfl : j = k := by omega
            have hjI : ¬ (j : Int) < (j : Int) := by omega
            have HCC : Hid (wr.ownsRow w2.heap.size 85 7 u11 j (rowsC t j)) := hown
            clear hown
            have HS3 : Hid (St w0 wr n ws left) := ((HS.out.below HB.out).below HB2.out).below hbw
            have HA3 := got_below (got_below HP.out HB2.out) hbw
            have HA4 : Hid (Got w.heap.size wr t j p) := HA3
            clear HA3 hbw
            go_wp2_with fail
            refine (same_rows (s := t) (by omega) HA4.out HCC.out).mono ?_
            rintro e w4 ⟨rfl, m, rfl⟩
            go_wp2_with fail
            refine (ownRecords_any (HS3.out.drewN m) hn p j (rec_slice (s := t) (by omega) hlt HA4.out)).mono ?_
            rintro e w5 ⟨rfl, hS5⟩
            have HS5 : Hid (St w0 w5 (n + 1) ws left) := hS5
            clear hS5
            go_wp2
            go_ret
            exact ⟨rfl, HS5.out⟩
    · exact absurd rfl hne
  · have HNE : Hid (nn ≠ 0) := hne
    go_wp2_with fail
    refine (refRecords_any t _ ht).mono ?_
    rintro e w2 ⟨k', nn', hR2, hb2, hback⟩
    obtain ⟨rfl, rfl⟩ := HR.out.uniq hR2
    clear hR2
    rcases hback with ⟨e0, -⟩ | ⟨-, rfl⟩
    · exact absurd e0 hne
    · have hq : (nn == 0) = false := beq_eq_false_iff_ne.2 hne
      have HS2 : Hid (St w0 w2 (n + 1) ws left) := ((HS.out.below HB.out).below hb2).mono (Nat.le_succ n)
      clear hb2
      go_wp2
      go_ret
      exact ⟨rfl, HS2.out⟩
end Go.Proofs.YtcajmohgjojhhaaGreatDoor
