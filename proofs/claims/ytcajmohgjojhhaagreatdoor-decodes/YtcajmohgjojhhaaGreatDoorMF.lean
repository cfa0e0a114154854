import Derived.Test.YtcajmohgjojhhaaGreatDoorME
import Derived.Test.YtcajmohgjojhhaaGreatDoorFrame4
import Derived.Test.YtcajmohgjojhhaaGreatDoorPEnc
set_option linter.unusedVariables false
set_option linter.unusedSimpArgs false
namespace Go.Proofs.YtcajmohgjojhhaaGreatDoor
open Go.RowKit Go.Extern

def okRec (s : ByteArray) (i : Nat) : Prop := 22 * i + 22 ≤ s.size ∧ 1 ≤ fld s (22 * i) 0 1 ∧ fld s (22 * i) 0 1 ≤ 8
/-- How many records a text has ahead of its end or its first fault, and which that is. -/
def RecsOf (s : ByteArray) (k : Nat) (e : Int) : Prop := (∀ i, i < k → okRec s i) ∧ ((e = 0 ∧ 22 * k = s.size) ∨ (e = 4 ∧ 22 * k < s.size ∧ s.size < 22 * k + 22) ∨ (e = 6 ∧ 22 * k + 22 ≤ s.size ∧ (fld s (22 * k) 0 1 < 1 ∨ 8 < fld s (22 * k) 0 1)))
theorem RecsOf.not {s : ByteArray} {k : Nat} {e : Int} (h : RecsOf s k e) : ¬ okRec s k := by
  rintro ⟨h1, h2, h3⟩
  rcases h.2 with ⟨_, h4⟩ | ⟨_, _, h4⟩ | ⟨_, _, h4⟩ <;> omega
theorem RecsOf.uniq {s : ByteArray} {k k' : Nat} {e e' : Int} (h : RecsOf s k e) (h' : RecsOf s k' e') : k = k' ∧ e = e' := by
  have hk : k = k' := by
    rcases Nat.lt_trichotomy k k' with q | q | q
    · exact absurd (h'.1 k q) h.not
    · exact q
    · exact absurd (h.1 k' q) h'.not
  subst hk
  refine ⟨rfl, ?_⟩
  rcases h.2 with ⟨h1, h2⟩ | ⟨h1, h2, h3⟩ | ⟨h1, h2, h3⟩ <;> rcases h'.2 with ⟨h4, h5⟩ | ⟨h4, h5, h6⟩ | ⟨h4, h5, h6⟩ <;> omega

def rowsC (s : ByteArray) (k : Nat) : List Value := (List.range k).flatMap fun i => (recL s (22 * i)).map (Value.int .i64)
theorem rowsC_snoc (s : ByteArray) (k : Nat) : rowsC s (k + 1) = rowsC s k ++ (recL s (22 * k)).map (Value.int .i64) := by
  simp [rowsC, List.range_succ, List.flatMap_append]
def strLen : Value → Nat | .string s => s.size | _ => 0

theorem fld_drop (s t : ByteArray) (p a n : Nat) (h : t.data.toList = s.data.toList.drop p) : fld t 0 a n = fld s p a n := by
  unfold fld
  rw [h, List.drop_drop]
  congr 2
  congr 1
  omega
theorem size_drop (s t : ByteArray) (p : Nat) (h : t.data.toList = s.data.toList.drop p) : t.size = s.size - p := by
  have := congrArg List.length h
  simpa using this
/-- The rest of a text. -/
theorem cut_from (t : ByteArray) (w : World) (h : 22 ≤ t.size) :
    (Instr.slice 9 (.string t) (some (.int .i64 22)) none none).run Tryz.prog w = .ok (.string (t.extract 22 t.size)) w := by
  rw [run_slice_string_from_if w 9 t .i64 22 Tryz.underlying9, if_pos (by omega)]
  rfl
theorem cut_from_data (t : ByteArray) (h : 22 ≤ t.size) : (t.extract 22 t.size).data.toList = t.data.toList.drop 22 := by
  rw [ByteArray.data_extract, Array.toList_extract, List.extract_eq_take_drop]
  exact List.take_of_length_le (by simp)
theorem owns_below {w w' : World} {B : Nat} {e : TypeId} {size : Nat} {v : Value} {n : Nat} {xs : List Value} (h : w.ownsRow B e size v n xs) (hb : Below w.heap.size w w') : w'.ownsRow B e size v n xs := by
  refine ⟨h.1, ?_⟩
  rcases h.2 with h2 | ⟨g, cap, cur, hv, hg, hh, r⟩
  · exact .inl h2
  · exact .inr ⟨g, cap, cur, hv, hg, by rw [hb.block g (Array.getElem?_eq_some_iff.1 hh).1]; exact hh, r⟩

theorem Tryz.infoRec : (Tryz.prog.info? 85).map (fun i => (i.size, i.bytes)) = some (7, 56) := by kernel_rfl
theorem Tryz.zeroRec : (Tryz.prog.info? 85).map (fun i => i.zero) = some (some (recV 0 0 0 0 0 0 0)) := by kernel_rfl

set_option maxRecDepth 100000 in
set_option maxHeartbeats 2000000 in
theorem readRecords_any (a : Nat → Addr) (st : Nat → ByteArray) (s : ByteArray) (w : World) (hE : Errs w a st) (hm : s.size ≤ 1000000000) :
    Calls Tryz.prog 83 #[.string s] w fun e w' => ∃ (k : Nat) (n : Int), RecsOf s k n ∧ Below w.heap.size w w' ∧
      ((n = 0 ∧ ∃ v, e = .returned (.tuple #[v, .nilIface]) ∧ ((v = .slice none 0 0 ∧ k = 0) ∨ ∃ g cap, v = .slice (some ⟨g, 0, none⟩) k k ∧ w'.ownsRow w.heap.size 85 7 (.slice (some ⟨g, 0, none⟩) k cap) k (rowsC s k))) ∨
       (n ≠ 0 ∧ ∃ err, e = .returned (.tuple #[.slice none 0 0, err]) ∧ ErrIs w' a err n k)) := by
  obtain ⟨i0, hi, hz0, hz1, hz2⟩ := info_parts' Tryz.infoRec Tryz.zeroRec
  have HE : Hid (Errs w a st) := hE
  clear hE
  go_enter Tryz.func83, Tryz.ntmps83
  go_wp2
  go_loopw [0, 4] (fun t l wr => ∃ (k : Nat) (tb : ByteArray), t = .string tb ∧ tb.data.toList = s.data.toList.drop (22 * k) ∧ 22 * k ≤ s.size ∧ (∀ i, i < k → okRec s i) ∧ wr.ownsRow w.heap.size 85 7 l k (rowsC s k) ∧ Below w.heap.size w wr) (fun t _ _ => strLen t)
  case atStart => exact ⟨0, s, rfl, rfl, Nat.zero_le _, fun _ h => absurd h (Nat.not_lt_zero _), World.ownsRow_nil _ _ _ _, Below.refl _ _⟩
  case round =>
    obtain ⟨k, tb, rfl, htb, hk, hok, hown, hb⟩ := hrel
    have hsa : tb.size + 22 * k ≤ s.size := by have := size_drop s tb _ htb; omega
    have hsb : s.size ≤ tb.size + 22 * k := by have := size_drop s tb _ htb; omega
    have HTB : Hid (tb.data.toList = s.data.toList.drop (22 * k)) := htb
    have HOK : Hid (∀ i, i < k → okRec s i) := hok
    have hEr := HE.out.below hb
    clear htb hok
    by_cases h0 : tb.size = 0
    · have HR : Hid (RecsOf s k 0) := ⟨HOK.out, .inl ⟨rfl, by omega⟩⟩
      have hng : ¬ (0 : Int) < (tb.size : Int) := by omega
      rcases hown.2 with ⟨rfl, rfl⟩ | ⟨g, cap, cur, rfl, hg, hh, hle, hmx, hsz2, htk⟩
      · clear hown
        go_wp2
        go_ret2
        exact ⟨0, 0, HR.out, hb, .inl ⟨rfl, _, rfl, .inl ⟨rfl, rfl⟩⟩⟩
      · have HOW : Hid (wr.ownsRow w.heap.size 85 7 (.slice (some ⟨g, 0, none⟩) k cap) k (rowsC s k)) := hown
        clear hown hh htk hsz2
        go_wp2
        go_ret2
        exact ⟨k, 0, HR.out, hb, .inl ⟨rfl, _, rfl, .inr ⟨g, rfl, cap, HOW.out⟩⟩⟩
    · by_cases h22 : tb.size < 22
      · have HR : Hid (RecsOf s k 4) := ⟨HOK.out, .inr (.inl ⟨rfl, by omega, by omega⟩)⟩
        have hgt : (0 : Int) < (tb.size : Int) := by omega
        have HRR := readRecord_short a st tb wr hEr h22
        have HRR' : Hid (Calls Tryz.prog 99 #[.string tb] wr fun e w' => e = .returned (.tuple #[recV 0 0 0 0 0 0 0, .iface 204 (.pointer (some (a 3)))]) ∧ Below wr.heap.size wr w') := HRR
        clear HRR
        rcases hown.2 with ⟨rfl, rfl⟩ | ⟨g, cap, cur, rfl, hg, hh, hle, hmx, hsz2, htk⟩
        all_goals
          clear hown
          try clear hh htk hsz2
          go_wp2_with fail
          refine HRR'.out.mono ?_
          rintro e w1 ⟨rfl, hb1⟩
          have HB1 : Hid (Below w.heap.size w w1) := hb.trans (hb1.mono hb.size)
          clear hb hb1
          go_wp2
          go_ret2
          refine ⟨_, 4, HR.out, below_alloc (below_alloc HB1.out _) _, .inr ⟨by decide, _, rfl, .inr (.inr ⟨3, w1.heap.size + 1, 0, by omega, rfl, rfl, by simp, by simp⟩)⟩⟩
      · by_cases hkd : fld tb 0 0 1 < 1 ∨ 8 < fld tb 0 0 1
        · have HR : Hid (RecsOf s k 6) := ⟨HOK.out, .inr (.inr ⟨rfl, by omega, by rw [fld_drop s tb _ 0 1 HTB.out] at hkd; exact hkd⟩)⟩
          have hgt : (0 : Int) < (tb.size : Int) := by omega
          have HRR := readRecord_bad a st tb wr hEr (by omega) (by omega) hkd
          have HRR' : Hid (Calls Tryz.prog 99 #[.string tb] wr fun e w' => e = .returned (.tuple #[recV 0 0 0 0 0 0 0, .iface 204 (.pointer (some (a 5)))]) ∧ Below wr.heap.size wr w') := HRR
          clear HRR hkd
          rcases hown.2 with ⟨rfl, rfl⟩ | ⟨g, cap, cur, rfl, hg, hh, hle, hmx, hsz2, htk⟩
          all_goals
            clear hown
            try clear hh htk hsz2
            go_wp2_with fail
            refine HRR'.out.mono ?_
            rintro e w1 ⟨rfl, hb1⟩
            have HB1 : Hid (Below w.heap.size w w1) := hb.trans (hb1.mono hb.size)
            clear hb hb1
            go_wp2
            go_ret2
            refine ⟨_, 6, HR.out, below_alloc (below_alloc HB1.out _) _, .inr ⟨by decide, _, rfl, .inr (.inr ⟨5, w1.heap.size + 1, 0, by omega, rfl, rfl, by simp, by simp⟩)⟩⟩
        · have hrr := readRecord_ok tb wr (by omega) (by omega) (by omega)
          rw [fld_drop s tb _ 0 1 HTB.out, fld_drop s tb _ 1 4 HTB.out, fld_drop s tb _ 5 4 HTB.out, fld_drop s tb _ 9 4 HTB.out, fld_drop s tb _ 13 4 HTB.out, fld_drop s tb _ 17 4 HTB.out, fld_drop s tb _ 21 1 HTB.out] at hrr
          rw [fld_drop s tb _ 0 1 HTB.out] at hkd
          have HNX : Hid (okRec s k) := ⟨by omega, by omega, by omega⟩
          have HRL : Hid ((recL s (22 * k)).map (Value.int .i64) = [.int .i64 (fld s (22 * k) 0 1), .int .i64 (fld s (22 * k) 1 4), .int .i64 (fld s (22 * k) 5 4), .int .i64 (fld s (22 * k) 9 4), .int .i64 (fld s (22 * k) 13 4), .int .i64 (fld s (22 * k) 17 4), .int .i64 (fld s (22 * k) 21 1)]) := rfl
          have hcut := fun W => cut_from tb W (by omega)
          have HCD := cut_from_data tb (by omega)
          have HCD' : Hid ((tb.extract 22 tb.size).data.toList = tb.data.toList.drop 22) := HCD
          clear HCD hkd
          generalize fld s (22 * k) 0 1 = k0 at *
          generalize fld s (22 * k) 1 4 = k1 at *
          generalize fld s (22 * k) 5 4 = k2 at *
          generalize fld s (22 * k) 9 4 = k3 at *
          generalize fld s (22 * k) 13 4 = k4 at *
          generalize fld s (22 * k) 17 4 = k5 at *
          generalize fld s (22 * k) 21 1 = k6 at *
          have HRR : Hid (Calls Tryz.prog 99 #[.string tb] wr fun e w' => e = .returned (.tuple #[recV k0 k1 k2 k3 k4 k5 k6, .nilIface]) ∧ Below wr.heap.size wr w') := hrr
          clear hrr
          have hgt : (0 : Int) < (tb.size : Int) := by omega
          go_wp2_with fail
          refine HRR.out.mono ?_
          rintro e w1 ⟨rfl, hb1⟩
          have hown1 := owns_below hown hb1
          have hbs := hb.size
          have hbs1 := hb1.size
          have HB1 : Hid (Below w.heap.size w w1) := hb.trans (hb1.mono hb.size)
          clear hown hb hb1
          go_wp2_with (at_builtin; refine wpList_append_own _ rfl _ _ 48 rfl w.heap.size 85 i0 (recV 0 0 0 0 0 0 0) 7 56 Tryz.underlying48 hi hz0 hz1 hz2 rfl (by decide) _ _ _ rfl ((hown1.alloc _).alloc _) ⟨w1.heap.size + 1, 0, none⟩ 1 1 [.int .i64 k0, .int .i64 k1, .int .i64 k2, .int .i64 k3, .int .i64 k4, .int .i64 k5, .int .i64 k6] rfl rfl ?c1 ?c2 ?c3 ?c4 ?c5 ?_)
          case c1 =>
            intro j u hj
            match j, hj with
            | 0, hj => simp at hj; subst hj; simp [Addr.add]
            | 1, hj => simp at hj; subst hj; simp [Addr.add]
            | 2, hj => simp at hj; subst hj; simp [Addr.add]
            | 3, hj => simp at hj; subst hj; simp [Addr.add]
            | 4, hj => simp at hj; subst hj; simp [Addr.add]
            | 5, hj => simp at hj; subst hj; simp [Addr.add]
            | 6, hj => simp at hj; subst hj; simp [Addr.add]
          case c2 =>
            intro u hu
            simp at hu
            rcases hu with rfl | rfl | rfl | rfl | rfl | rfl | rfl <;> rfl
          case c3 => unfold maxLen; omega
          case c4 => omega
          case c5 => simp; omega
          intro v' w3 hown2 hgrow _
          have hlt := ((hown1.alloc (.cells #[.int .i64 k0, .int .i64 k1, .int .i64 k2, .int .i64 k3, .int .i64 k4, .int .i64 k5, .int .i64 k6] 85)).alloc (.cells #[.int .i64 k0, .int .i64 k1, .int .i64 k2, .int .i64 k3, .int .i64 k4, .int .i64 k5, .int .i64 k6] 85)).lt
          have HB3 : Hid (Below w.heap.size w w3) := (below_alloc (below_alloc HB1.out _) _).grown hgrow (by simp; omega) (fun q hq => (hlt q hq).1)
          have HO : Hid (w3.ownsRow w.heap.size 85 7 v' (k + 1) (rowsC s (k + 1))) := by
            show w3.ownsRow w.heap.size 85 7 v' (k + 1) (rowsC s (k + 1))
            rw [rowsC_snoc, HRL.out]
            exact hown2
          clear hown2 hgrow hlt hown1
          have hcut3 := hcut w3
          clear hcut
          go_wp2
          go_roundw
          case rel =>
            refine ⟨k + 1, tb.extract 22 tb.size, rfl, ?_, by omega, ?_, HO.out, HB3.out⟩
            · rw [HCD'.out, HTB.out, List.drop_drop]; congr 1
            · intro i hi
              rcases Nat.lt_or_ge i k with q | q
              · exact HOK.out i q
              · have : i = k := by omega
                subst this
                exact HNX.out
          case measure =>
            simp [strLen]
            omega
end Go.Proofs.YtcajmohgjojhhaaGreatDoor

namespace Go.Proofs.YtcajmohgjojhhaaGreatDoor
open Go.RowKit Go.Extern

/-- What plain.Records hands back. -/
def RecsBack (s : ByteArray) (B : Nat) (w' : World) (k : Nat) (n : Int) (e : Ending) : Prop :=
  (n = 0 ∧ ∃ v, e = .returned (.tuple #[v, .int .i64 0, .int .i64 (-1)]) ∧ ((v = .slice none 0 0 ∧ k = 0) ∨ ∃ g, v = .slice (some ⟨g, 0, none⟩) k k ∧ ∃ cap, w'.ownsRow B 85 7 (.slice (some ⟨g, 0, none⟩) k cap) k (rowsC s k))) ∨
  (n ≠ 0 ∧ e = .returned (.tuple #[.slice none 0 0, .int .i64 n, .int .i64 (k : Int)]))

set_option maxHeartbeats 1000000 in
theorem obRecords_any (a : Nat → Addr) (st : Nat → ByteArray) (s : ByteArray) (w : World) (hE : Errs w a st) (hm : s.size ≤ 1000000000) :
    Calls Tryz.prog 63 #[.string s] w fun e w' => ∃ (k : Nat) (n : Int), RecsOf s k n ∧ Below w.heap.size w w' ∧
      ((n = 0 ∧ ∃ v, e = .returned (.tuple #[v, .nilIface]) ∧ ((v = .slice none 0 0 ∧ k = 0) ∨ ∃ g cap, v = .slice (some ⟨g, 0, none⟩) k k ∧ w'.ownsRow w.heap.size 85 7 (.slice (some ⟨g, 0, none⟩) k cap) k (rowsC s k))) ∨
       (n ≠ 0 ∧ ∃ err, e = .returned (.tuple #[.slice none 0 0, err]) ∧ ErrIs w' a err n k)) := by
  go_enter Tryz.func63, Tryz.ntmps63
  go_wp2_with fail
  refine (readRecords_any a st s _ hE hm).mono ?_
  rintro e w1 ⟨k, n, hR, hb, h⟩
  have HR : Hid (RecsOf s k n) := hR
  clear hR
  rcases h with ⟨rfl, v, rfl, hv⟩ | ⟨hn, err, rfl, her⟩
  · have HVV : Hid ((v = .slice none 0 0 ∧ k = 0) ∨ ∃ g cap, v = .slice (some ⟨g, 0, none⟩) k k ∧ w1.ownsRow w.heap.size 85 7 (.slice (some ⟨g, 0, none⟩) k cap) k (rowsC s k)) := hv
    clear hv
    go_wp2
    go_ret2
    refine ⟨k, 0, HR.out, hb, .inl ⟨rfl, v, rfl, ?_⟩⟩
    rcases HVV.out with h | ⟨g, cap, h1, h2⟩
    · exact .inl h
    · exact .inr ⟨g, cap, h1, h2⟩
  · have HN : Hid (n ≠ 0) := hn
    clear hn
    go_wp2
    go_ret2
    exact ⟨k, n, HR.out, hb, .inr ⟨HN.out, err, rfl, her⟩⟩

set_option maxHeartbeats 1000000 in
theorem plainRecords_any (a : Nat → Addr) (st : Nat → ByteArray) (s : ByteArray) (w : World) (hE : Errs w a st) (hm : s.size ≤ 1000000000) :
    Calls Tryz.prog 45 #[.string s] w fun e w' => ∃ (k : Nat) (n : Int), RecsOf s k n ∧ Below w.heap.size w w' ∧ RecsBack s w.heap.size w' k n e := by
  go_enter Tryz.func45, Tryz.ntmps45
  go_wp2_with fail
  refine (obRecords_any a st s _ hE hm).mono ?_
  rintro e w1 ⟨k, n, hR, hb, h⟩
  have HR : Hid (RecsOf s k n) := hR
  clear hR
  have hE1 := hE.below hb
  rcases h with ⟨rfl, v, rfl, hv⟩ | ⟨hn, err, rfl, her⟩
  · have HVV : Hid ((v = .slice none 0 0 ∧ k = 0) ∨ ∃ g cap, v = .slice (some ⟨g, 0, none⟩) k k ∧ w1.ownsRow w.heap.size 85 7 (.slice (some ⟨g, 0, none⟩) k cap) k (rowsC s k)) := hv
    clear hv
    go_wp2_with fail
    refine (number_nil _).mono ?_
    rintro e w2 ⟨rfl, rfl⟩
    go_wp2
    go_ret3
    refine ⟨k, 0, HR.out, hb, .inl ⟨rfl, v, rfl, ?_⟩⟩
    rcases HVV.out with h | ⟨g, cap, h1, h2⟩
    · exact .inl h
    · exact .inr ⟨g, h1, cap, h2⟩
  · have HN : Hid (n ≠ 0) := hn
    clear hn
    go_wp2_with fail
    refine (number_err a st err n (k : Int) _ hE1 her).mono ?_
    rintro e w2 ⟨rfl, hb2⟩
    go_wp2
    go_ret3
    exact ⟨k, n, HR.out, hb.trans (hb2.mono hb.size), .inr ⟨HN.out, rfl⟩⟩
end Go.Proofs.YtcajmohgjojhhaaGreatDoor
