import Derived.Test.YtcajmohgjojhhaaGreatDoorMK
import Derived.Test.YtcajmohgjojhhaaGreatDoorAudO
import Derived.Test.YtcajmohgjojhhaaGreatDoorTold
import Derived.Test.YtcajmohgjojhhaaGreatDoorMI
set_option linter.unusedVariables false
set_option linter.unusedSimpArgs false
namespace Go.Proofs.YtcajmohgjojhhaaGreatDoor
open Go.RowKit Go.Extern

theorem wrap64_small (x : Int) (h0 : 0 ≤ x) (h1 : x < 1000000000000) : wrap64 x = x := by unfold wrap64; omega
theorem SR.mono {b b' : Nat} {w : World} {v : Value} {m : Nat} (h : SR b' w v m) (hb : b ≤ b') : SR b w v m := by
  obtain ⟨xs, ⟨h1, h2⟩, h3⟩ := h
  refine ⟨xs, ⟨h1, ?_⟩, h3⟩
  rcases h2 with h2 | ⟨g, cap, cur, e, hg, r⟩
  · exact .inl h2
  · exact .inr ⟨g, cap, cur, e, Nat.le_trans hb hg, r⟩
/-- What the document's Audit hands back. -/
def AudBack (w : World) (e : Ending) (w' : World) : Prop := ∃ v m n k, e = .returned (.tuple #[v, .int .i64 n, .int .i64 k]) ∧ SR w.heap.size w' v m ∧ m ≤ 100000000 ∧ Below w.heap.size w w'

set_option maxRecDepth 100000 in
set_option maxHeartbeats 1000000 in
theorem refAudit_any (t : ByteArray) (w : World) (ht : t.size ≤ 100000000) :
    Calls Tryz.prog 49 #[.string t] w fun e w' => AudBack w e w' := by
  obtain ⟨N, hN⟩ : ∃ N, t.size / 22 = N := ⟨_, rfl⟩
  have hdiv : Int.tdiv (t.size : Int) 22 = (N : Int) := by
    rw [← hN]
    exact (Int.ofNat_tdiv t.size 22).symm
  have hN1 : 22 * N ≤ t.size := by omega
  have hN2 : N ≤ 100000000 := by omega
  clear hN
  have hwN : IntKind.i64.wrap (N : Int) = (N : Int) := by simp only [IntKind.wrap, IntKind.bits, IntKind.signed]; simp; omega
  have hwN' : wrap64 (N : Int) = (N : Int) := by unfold wrap64; omega
  go_enter Tryz.func49, Tryz.ntmps49
  go_wp2_with fail
  clear hdiv hwN hwN'
  go_loopw [6, 7] (fun a i wr => ∃ j m : Nat, i = .int .i64 j ∧ j ≤ N ∧ SR w.heap.size wr a m ∧ m ≤ j ∧ Below w.heap.size w wr) (fun _ i _ => N - (intOf i).toNat)
  case atStart => exact ⟨0, 0, rfl, Nat.zero_le _, SR.nil _ _, Nat.le_refl _, Below.refl _ _⟩
  case round =>
    obtain ⟨j, m, rfl, hj, hsr, hmj, hbw⟩ := hrel
    have HR : Hid (SR w.heap.size wr u6 m ∧ Below w.heap.size w wr) := ⟨hsr, hbw⟩
    have hbs := hbw.size
    clear hsr hbw
    by_cases hlt : j < N
    · have hjI : (j : Int) < (N : Int) := by omega
      have hle : 22 * j + 22 ≤ t.size := by omega
      have hlj : (22 : Int) * (j : Int) < 1000000000 := by omega
      have hlk : (j : Int) < 1000000000 := by omega
      have hmc : m ≤ 100000000 := by omega
      have hm1 : wrap64 (22 * (j : Int)) = ((22 * j : Nat) : Int) := (wrap64_small _ (by omega) (by omega)).trans (by push_cast; rfl)
      have hm2 : wrap64 (((22 * j : Nat) : Int) + 22) = ((22 * j + 22 : Nat) : Int) := (wrap64_small _ (by push_cast; omega) (by push_cast; omega)).trans (by push_cast; rfl)
      have hsz := cut_size t (22 * j) 22 hle
      obtain ⟨tp, htp⟩ : ∃ tp, t.extract (22 * j) (22 * j + 22) = tp := ⟨_, rfl⟩
      rw [htp] at hsz
      have HRR : Hid (∀ W, Calls Tryz.prog 46 #[.string tp] W fun e w' => ∃ (k : Nat) (n : Int), RecsOf tp k n ∧ Below W.heap.size W w' ∧
        ((n = 0 ∧ ∃ v, e = .returned (.tuple #[v, .int .i64 0, .int .i64 0]) ∧ w'.ownsRow W.heap.size 111 7 v k (rowsC tp k)) ∨
         (n ≠ 0 ∧ e = .returned (.tuple #[.slice none 0 0, .int .i64 n, .int .i64 (k : Int)])))) := fun W => refRecords_any tp W (by rw [hsz]; decide)
      have HTP : Hid (t.extract (22 * j) (22 * j + 22) = tp) := htp
      clear htp
      go_wp2_with fail
      rw [HTP.out]
      refine (HRR.out _).mono ?_
      clear HRR hm1 hm2 HTP
      rintro e w2 ⟨k, nn, hR, hb2, hback⟩
      have HB2 : Hid (Below w.heap.size w w2) := HR.out.2.trans (hb2.mono hbs)
      have HS2 : Hid (SR w.heap.size w2 u6 m) := HR.out.1.below hb2
      have hbs2 := hb2.size
      rcases hback with ⟨rfl, vb, rfl, hvb⟩ | ⟨hne, rfl⟩
      · obtain rfl : k = 1 := by
          rcases hR.2 with ⟨_, q⟩ | ⟨q, _⟩ | ⟨q, _⟩
          · omega
          · exact absurd q (by decide)
          · exact absurd q (by decide)
        rcases hvb.2 with ⟨_, q⟩ | ⟨gb, capb, cur, rfl, hgb, hhb, hleb, hmxb, hszb, htkb⟩
        · exact absurd q (by decide)
        · have hib : IntBlock w2 gb 111 7 := IntBlock.of_row hvb (rowsC_ints tp 1)
          obtain ⟨x1, cx1⟩ := hib.cell 1 (by omega)
          have HTK : Hid (Calls Tryz.prog 65 #[u6, .pointer (some ⟨gb, 0, none⟩)] w2 fun e w' => TakeBack w.heap.size w2 m e w') := take_any w.heap.size w2 u6 m gb ⟨HS2.out, hib, Below.refl _ _⟩ (Nat.le_trans hbs hbs2) hmc
          clear hvb hhb htkb hszb hR hb2 hib
          cases e1 : (x1 != (j : Int) + 1)
          · go_wp2_with fail
            refine HTK.out.mono ?_
            rintro e w3 ⟨v', m', r, rfl, h1, h2, h3⟩
            have HT3 : Hid (SR w.heap.size w3 v' m' ∧ Below w.heap.size w w3) := ⟨h2, HB2.out.trans h3⟩
            clear h2 h3
            cases r
            · go_wp2
              go_ret3
              exact ⟨_, 0, _, _, rfl, SR.nil _ _, Nat.zero_le _, HT3.out.2⟩
            · go_wp2
              go_roundw
              case rel =>
                exact ⟨j + 1, m', by go_num, hlt, HT3.out.1, by omega, HT3.out.2⟩
              case measure => simp [intOf]; omega
          · go_wp2
            go_ret3
            exact ⟨_, 0, _, _, rfl, SR.nil _ _, Nat.zero_le _, HB2.out⟩
      · have hq : (nn == 0) = false := beq_eq_false_iff_ne.2 hne
        clear hR hb2 hlj hlk
        go_wp2
        go_ret3
        exact ⟨_, 0, _, _, rfl, SR.nil _ _, Nat.zero_le _, HB2.out⟩
    · have hjN : ¬ (j : Int) < (N : Int) := by omega
      have hlN : (N : Int) < 1000000000 := by omega
      have hmc : m ≤ 100000000 := by omega
      obtain ⟨p, cap, rfl, -⟩ := HR.out.1.shape'
      have HOR : Hid (Calls Tryz.prog 31 #[.pointer (some ⟨wr.heap.size, 0, none⟩)] (wr.alloc (.cells #[.int .i64 0, .int .i64 0, .int .i64 0, .slice none 0 0, .int .i64 0, .slice p m cap, .string ⟨#[]⟩, .int .i64 0, .int .i64 0, .int .i64 0, .string ⟨#[]⟩, .int .i64 0, .int .i64 0] 81)) fun e w' => ∃ v', e = .returned v' ∧ SR (wr.alloc (.cells #[.int .i64 0, .int .i64 0, .int .i64 0, .slice none 0 0, .int .i64 0, .slice p m cap, .string ⟨#[]⟩, .int .i64 0, .int .i64 0, .int .i64 0, .string ⟨#[]⟩, .int .i64 0, .int .i64 0] 81)).heap.size w' v' m ∧ Below (wr.alloc (.cells #[.int .i64 0, .int .i64 0, .int .i64 0, .slice none 0 0, .int .i64 0, .slice p m cap, .string ⟨#[]⟩, .int .i64 0, .int .i64 0, .int .i64 0, .string ⟨#[]⟩, .int .i64 0, .int .i64 0] 81)).heap.size (wr.alloc (.cells #[.int .i64 0, .int .i64 0, .int .i64 0, .slice none 0 0, .int .i64 0, .slice p m cap, .string ⟨#[]⟩, .int .i64 0, .int .i64 0, .int .i64 0, .string ⟨#[]⟩, .int .i64 0, .int .i64 0] 81)) w') := orders_any wr.heap.size w.heap.size _ _ m (HR.out.1.below (below_new _)) (cell_new wr _ _ 5 _ rfl) (by simp) hmc
      have HMC : Hid (m ≤ 100000000 ∧ w.heap.size ≤ wr.heap.size) := ⟨hmc, hbs⟩
      clear hN1 ht hlN hmc hmj hj hbs hN2
      go_wp2_with fail
      · go_ret3
        exact ⟨_, 0, _, _, rfl, SR.nil _ _, Nat.zero_le _, HR.out.2⟩
      · refine HOR.out.mono ?_
        rintro e w5 ⟨v', rfl, h2, h3⟩
        have HX : Hid (SR w.heap.size w5 v' m ∧ Below w.heap.size w w5) := ⟨h2.mono (Nat.le_trans HMC.out.2 (by simp)), (below_alloc HR.out.2 _).trans (h3.mono (Nat.le_trans HMC.out.2 (by simp)))⟩
        clear h2 h3
        go_wp2
        go_ret3
        exact ⟨_, m, _, _, rfl, HX.out.1, HMC.out.1, HX.out.2⟩
end Go.Proofs.YtcajmohgjojhhaaGreatDoor

namespace Go.Proofs.YtcajmohgjojhhaaGreatDoor
open Go.RowKit Go.Extern

def SliceBack (w : World) (e : Ending) (w' : World) : Prop := ∃ p n c, e = .returned (.slice p n c) ∧ n ≤ 1000000000 ∧ Below w.heap.size w w'

set_option maxRecDepth 100000 in
set_option maxHeartbeats 4000000 in
theorem states_any (base : Nat) (w : World) (v : Value) (m : Nat) (h : SR base w v m) (hm : m ≤ 100000000) :
    Calls Tryz.prog 32 #[v] w fun e w' => SliceBack w e w' := by
  obtain ⟨i0, hi, hz0, hz1, hz2⟩ := info_parts2 Tryz.infoOSt Tryz.zeroOSt
  have HINF : Hid (Tryz.prog.info? 87 = some i0 ∧ i0.zero = some (.agg #[.int .i64 0, .int .i64 0, .int .i64 0, .int .i64 0, .int .i64 0, .int .i64 0, .int .i64 0]) ∧ i0.size = 7 ∧ i0.bytes = 56) := ⟨hi, hz0, hz1, hz2⟩
  clear hi hz0 hz1 hz2
  obtain ⟨p, cap, rfl, hp⟩ := h.shape'
  clear h
  go_enter Tryz.func32, Tryz.ntmps32
  go_wp2
  go_loopw [3, 4] (fun l i wr => ∃ k : Nat, i = .int .i64 k ∧ k ≤ m ∧ (∃ xs, wr.ownsRow w.heap.size 87 7 l k xs) ∧ Below w.heap.size w wr) (fun _ i _ => m - (intOf i).toNat)
  case atStart => exact ⟨0, rfl, Nat.zero_le _, ⟨_, World.ownsRow_nil _ _ _ _⟩, Below.refl _ _⟩
  case round =>
    obtain ⟨k, rfl, hk, ⟨xs, hown⟩, hbw⟩ := hrel
    have HBW : Hid (Below w.heap.size w wr) := hbw
    have hbs := hbw.size
    by_cases hlt : k < m
    · have hkI : (k : Int) < (m : Int) := by omega
      obtain ⟨g, rfl, hg, hib⟩ := hp.resolve_left (by omega)
      have hib' : IntBlock wr g 125 (m * 15) := hib.below hbw
      obtain ⟨e0, c0⟩ := hib'.cell (k * 15 + 0) (by omega)
      obtain ⟨e1, c1⟩ := hib'.cell (k * 15 + 1) (by omega)
      obtain ⟨e2, c2⟩ := hib'.cell (k * 15 + 2) (by omega)
      obtain ⟨e3, c3⟩ := hib'.cell (k * 15 + 3) (by omega)
      obtain ⟨e4, c4⟩ := hib'.cell (k * 15 + 4) (by omega)
      obtain ⟨e5, c5⟩ := hib'.cell (k * 15 + 5) (by omega)
      obtain ⟨e6, c6⟩ := hib'.cell (k * 15 + 6) (by omega)
      obtain ⟨e7, c7⟩ := hib'.cell (k * 15 + 7) (by omega)
      obtain ⟨e8, c8⟩ := hib'.cell (k * 15 + 8) (by omega)
      obtain ⟨e9, c9⟩ := hib'.cell (k * 15 + 9) (by omega)
      obtain ⟨e10, c10⟩ := hib'.cell (k * 15 + 10) (by omega)
      obtain ⟨e11, c11⟩ := hib'.cell (k * 15 + 11) (by omega)
      obtain ⟨e12, c12⟩ := hib'.cell (k * 15 + 12) (by omega)
      obtain ⟨e13, c13⟩ := hib'.cell (k * 15 + 13) (by omega)
      obtain ⟨e14, c14⟩ := hib'.cell (k * 15 + 14) (by omega)
      rw [Nat.add_zero] at c0
      have HOW : Hid (((wr.alloc (.cells #[.int .i64 e0, .int .i64 e1, .int .i64 e2, .int .i64 e3, .int .i64 e4, .int .i64 e5, .int .i64 e6, .int .i64 e7, .int .i64 e8, .int .i64 e9, .int .i64 e10, .int .i64 e11, .int .i64 e12, .int .i64 e13, .int .i64 e14] 125)).alloc (.cells #[.int .i64 e0, .int .i64 e8, .int .i64 e9, .int .i64 e10, .int .i64 e11, .int .i64 e12, .int .i64 e13] 87)).ownsRow w.heap.size 87 7 u3 k xs) := (hown.alloc _).alloc _
      have HC1 : Hid (∀ (i : Nat) (u : Value), [.int .i64 e0, .int .i64 e8, .int .i64 e9, .int .i64 e10, .int .i64 e11, .int .i64 e12, .int .i64 e13][i]? = some u → ((wr.alloc (.cells #[.int .i64 e0, .int .i64 e1, .int .i64 e2, .int .i64 e3, .int .i64 e4, .int .i64 e5, .int .i64 e6, .int .i64 e7, .int .i64 e8, .int .i64 e9, .int .i64 e10, .int .i64 e11, .int .i64 e12, .int .i64 e13, .int .i64 e14] 125)).alloc (.cells #[.int .i64 e0, .int .i64 e8, .int .i64 e9, .int .i64 e10, .int .i64 e11, .int .i64 e12, .int .i64 e13] 87)).cell? (Addr.add ⟨wr.heap.size + 1, 0, none⟩ i) = some u) := fun i u hi => by
        rw [Addr.add_lit, Nat.zero_add, ← World.size_alloc wr (.cells #[.int .i64 e0, .int .i64 e1, .int .i64 e2, .int .i64 e3, .int .i64 e4, .int .i64 e5, .int .i64 e6, .int .i64 e7, .int .i64 e8, .int .i64 e9, .int .i64 e10, .int .i64 e11, .int .i64 e12, .int .i64 e13, .int .i64 e14] 125)]
        exact cell_new' (wr.alloc (.cells #[.int .i64 e0, .int .i64 e1, .int .i64 e2, .int .i64 e3, .int .i64 e4, .int .i64 e5, .int .i64 e6, .int .i64 e7, .int .i64 e8, .int .i64 e9, .int .i64 e10, .int .i64 e11, .int .i64 e12, .int .i64 e13, .int .i64 e14] 125)) #[.int .i64 e0, .int .i64 e8, .int .i64 e9, .int .i64 e10, .int .i64 e11, .int .i64 e12, .int .i64 e13] _ i u (by simp; exact hi)
      have HC2 : Hid (∀ u ∈ ([.int .i64 e0, .int .i64 e8, .int .i64 e9, .int .i64 e10, .int .i64 e11, .int .i64 e12, .int .i64 e13] : List Value), u.oneCell' = true) := fun u hu => by
        simp at hu
        rcases hu with rfl | rfl | rfl | rfl | rfl | rfl | rfl <;> rfl
      have HC3 : Hid (k + 1 ≤ maxLen ∧ (k + 1) * 56 ≤ 140737488355328 ∧ w.heap.size ≤ ((wr.alloc (.cells #[.int .i64 e0, .int .i64 e1, .int .i64 e2, .int .i64 e3, .int .i64 e4, .int .i64 e5, .int .i64 e6, .int .i64 e7, .int .i64 e8, .int .i64 e9, .int .i64 e10, .int .i64 e11, .int .i64 e12, .int .i64 e13, .int .i64 e14] 125)).alloc (.cells #[.int .i64 e0, .int .i64 e8, .int .i64 e9, .int .i64 e10, .int .i64 e11, .int .i64 e12, .int .i64 e13] 87)).heap.size) := ⟨by unfold maxLen; omega, by omega, by simp; omega⟩
      have hltr := hown.lt
      clear hown hbw hib hib'
      go_wp2_with (at_builtin; refine wpList_append_own _ rfl _ _ 49 rfl w.heap.size 87 i0 _ 7 56 Tryz.underlying49 HINF.out.1 HINF.out.2.1 HINF.out.2.2.1 HINF.out.2.2.2 rfl (by decide) _ _ _ rfl HOW.out ⟨wr.heap.size + 1, 0, none⟩ 1 1 [.int .i64 e0, .int .i64 e8, .int .i64 e9, .int .i64 e10, .int .i64 e11, .int .i64 e12, .int .i64 e13] rfl rfl HC1.out HC2.out HC3.out.1 HC3.out.2.1 HC3.out.2.2 ?_)
      intro v' w3 hown3 hgrow3 _
      have HX : Hid ((∃ ys, w3.ownsRow w.heap.size 87 7 v' (k + 1) ys) ∧ Below w.heap.size w w3) := ⟨⟨_, hown3⟩, (below_alloc (below_alloc HBW.out _) _).grown hgrow3 HC3.out.2.2 (fun q hq => (hltr q hq).1)⟩
      clear hown3 hgrow3 hltr c0 c1 c2 c3 c4 c5 c6 c7 c8 c9 c10 c11 c12 c13 c14 HC1 HC2 HC3 HOW
      go_wp2
      go_roundw
      case rel => exact ⟨k + 1, by go_num, by omega, HX.out.1, HX.out.2⟩
      case measure => simp [intOf]; omega
    · have hkM : ¬ (k : Int) < (m : Int) := by omega
      obtain ⟨p', n', c', rfl, hn'⟩ : ∃ p' n' c', u3 = .slice p' n' c' ∧ n' ≤ 1000000000 := by
        rcases hown.2 with ⟨rfl, _⟩ | ⟨g, cap, cur, h, _⟩
        · exact ⟨_, _, _, rfl, Nat.zero_le _⟩
        · exact ⟨_, _, _, h, by omega⟩
      clear hown hbw
      have HN : Hid (n' ≤ 1000000000) := hn'
      clear hn'
      go_wp2
      go_ret
      exact ⟨_, _, _, rfl, HN.out, HBW.out⟩

set_option maxHeartbeats 1000000 in
theorem plainAudit_any (t : ByteArray) (w : World) : Calls Tryz.prog 48 #[.string t] w fun e w' => e = .returned (.tuple #[.slice none 0 0, .int .i64 0, .int .i64 (-1)]) ∧ w' = w := by
  have HC : Hid (∀ W, Calls Tryz.prog 64 #[.string t] W fun e w' => e = .returned (.tuple #[.slice none 0 0, .nilIface]) ∧ w' = W) := fun W => by
    go_enter Tryz.func64, Tryz.ntmps64
    go_wp2
    go_ret2
    exact ⟨rfl, rfl⟩
  go_enter Tryz.func48, Tryz.ntmps48
  go_wp2_with fail
  refine (HC.out _).mono ?_
  rintro e w1 ⟨rfl, rfl⟩
  go_wp2_with fail
  refine (number_nil _).mono ?_
  rintro e w2 ⟨rfl, rfl⟩
  go_wp2
  go_ret3
  exact ⟨rfl, rfl⟩

set_option maxRecDepth 100000 in
set_option maxHeartbeats 2000000 in
theorem audited_any {w0 w : World} {n : Nat} {ws : List ByteArray} {left : Int} (h : St w0 w n ws left) (hn : n ≤ 100000000) (t : ByteArray) (ht : t.size ≤ 100000000) :
    Calls Tryz.prog 24 #[.pointer (some ⟨w0.heap.size, 0, none⟩), .string t] w fun e w' => SomeBool e ∧ Next w0 w' n := by
  have HS : Hid (St w0 w n ws left) := h
  clear h
  go_enter Tryz.func24, Tryz.ntmps24
  go_wp2_with fail
  refine (plainAudit_any t _).mono ?_
  rintro e w1 ⟨rfl, rfl⟩
  go_wp2_with fail
  refine (refAudit_any t _ ht).mono ?_
  rintro e w2 ⟨v, m, nn, k, rfl, h1, h2, h3⟩
  have HX : Hid (SR w1.heap.size w2 v m ∧ m ≤ 100000000) := ⟨h1, h2⟩
  have HS2 : Hid (St w0 w2 n ws left) := HS.out.below h3
  clear h1 h2 h3
  cases e1 : (nn == 0)
  · have e2 : ((0 : Int) == nn) = false := by rw [Bool.eq_false_iff] at e1 ⊢; intro q; apply e1; simp at q ⊢; exact q.symm
    go_wp2
    go_ret
    exact ⟨⟨_, rfl⟩, HS2.out.next⟩
  · obtain rfl : nn = 0 := by simpa using e1
    go_wp2_with fail
    refine (states_any _ _ v m HX.out.1 HX.out.2).mono ?_
    rintro e w3 ⟨p, q, c, rfl, hq, hb3⟩
    have HS3 : Hid (St w0 w3 n ws left) := HS2.out.below hb3
    clear hb3
    obtain ⟨rb, hrb⟩ := sameStates_any w3 none p 0 c q hq
    have HRB : Hid (Calls Tryz.prog 18 #[.slice none 0 0, .slice p q c] w3 fun e w' => e = .returned (.bool rb) ∧ ∃ j, w' = w3.drewN j) := hrb 0
    clear hrb hq
    go_wp2_with fail
    refine HRB.out.mono ?_
    rintro e w4 ⟨rfl, j, rfl⟩
    go_wp2_with fail
    refine (ownStates_nil (HS3.out.drewN j) hn).mono ?_
    rintro e w5 ⟨rfl, h5⟩
    have HS5 : Hid (Next w0 w5 n) := ⟨_, _, h5⟩
    clear h5
    go_wp2
    go_ret
    exact ⟨⟨_, rfl⟩, HS5.out⟩
end Go.Proofs.YtcajmohgjojhhaaGreatDoor
