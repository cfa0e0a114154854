import Derived.Test.YtcajmohgjojhhaaGreatDoorMH
import Derived.Test.YtcajmohgjojhhaaGreatDoorNum
import Derived.Laws.AppendOwnNone
import Derived.Test.YtcajmohgjojhhaaGreatDoorMG
set_option linter.unusedVariables false
set_option linter.unusedSimpArgs false
namespace Go.Proofs.YtcajmohgjojhhaaGreatDoor
open Go.RowKit Go.Extern

abbrev cfgV (c0 c1 c2 : Int) : Value := .agg #[.int .i64 c0, .int .i64 c1, .int .i64 c2]
set_option maxHeartbeats 1000000 in
theorem obNew_any (c0 c1 c2 : Int) (d : Value) (w : World) : Calls Tryz.prog 50 #[cfgV c0 c1 c2, d] w fun e w' => e = .returned (.tuple #[.pointer none, .nilIface]) ∧ Below w.heap.size w w' := by
  go_enter Tryz.func50, Tryz.ntmps50
  go_wp2
  go_ret2
  exact ⟨rfl, below_new _⟩
theorem oneCell_ints {xs : List Value} (h : ∀ u ∈ xs, ∃ x, u = .int .i64 x) : ∀ u ∈ xs, u.oneCell' = true := fun u hu => by obtain ⟨x, rfl⟩ := h u hu; rfl

set_option maxRecDepth 100000 in
set_option maxHeartbeats 2000000 in
theorem plainNew_any (c0 c1 c2 : Int) (dv : Value) (md base : Nat) (xs : List Value) (w : World) (hown : w.ownsRow base 3 1 dv md xs) (hx : ∀ u ∈ xs, ∃ x, u = .int .i64 x) (hm : md ≤ 1000000000) :
    Calls Tryz.prog 25 #[cfgV c0 c1 c2, dv] w fun e w' => e = .returned (.tuple #[.pointer none, .int .i64 0]) ∧ Below w.heap.size w w' := by
  obtain ⟨i0, hi, hz0, hz1, hz2⟩ := info_parts2 Tryz.infoInt Tryz.zeroInt
  have HINF : Hid (Tryz.prog.info? 3 = some i0 ∧ i0.zero = some (.int .i64 0) ∧ i0.size = 1 ∧ i0.bytes = 8) := ⟨hi, hz0, hz1, hz2⟩
  have HX : Hid (∀ u ∈ xs, u.oneCell' = true) := oneCell_ints hx
  have hcc := fun g hg => World.ownsRow.cells hown (g := g) hg
  have hlen := hown.1
  have hltr := hown.lt
  have HMADE : Hid (((w.alloc (.cells #[.int .i64 c0, .int .i64 c1, .int .i64 c2] 62)).alloc (.cells #[] 3)).ownsRow (w.heap.size + 1) 3 1 (.slice (some ⟨w.heap.size + 1, 0, none⟩) 0 0) 0 []) := by
    have := World.ownsRow_made (base := w.heap.size + 1) (e := 3) (size := 1) (w.alloc (.cells #[.int .i64 c0, .int .i64 c1, .int .i64 c2] 62)) #[] 0 (by simp) (by unfold maxLen; omega) (by simp)
    rw [World.size_alloc] at this
    exact this
  clear hi hz0 hz1 hz2 hx
  rcases hown.2 with ⟨rfl, rfl⟩ | ⟨g, cap, cur, rfl, hg, hh, hle, hmx, hsz2, htk⟩
  · clear hown hcc
    go_enter Tryz.func25, Tryz.ntmps25
    go_wp2_with fail
    refine (obNew_any c0 c1 c2 _ _).mono ?_
    rintro e w4 ⟨rfl, hb4⟩
    have HB4 : Hid (Below w.heap.size w w4) := (below_alloc (below_alloc (below_alloc (Below.refl _ _) _) _) _).trans (hb4.mono (by simp; omega))
    clear hb4
    go_wp2_with fail
    refine (number_nil _).mono ?_
    rintro e w5 ⟨rfl, rfl⟩
    go_wp2
    go_ret2
    exact ⟨rfl, HB4.out⟩
  · have HC1 : Hid (∀ (j : Nat) (u : Value), xs[j]? = some u → ((w.alloc (.cells #[.int .i64 c0, .int .i64 c1, .int .i64 c2] 62)).alloc (.cells #[] 3)).cell? (Addr.add ⟨g, 0, none⟩ j) = some u) := fun j u hj => by
      have h1 := hcc g rfl j u hj
      have h2 := (hltr g rfl).2
      rw [Addr.add_lit] at h1 ⊢
      rw [World.cell?_alloc_lt _ _ _ (by simp; omega), World.cell?_alloc_lt _ _ _ h2]
      exact h1
    have HC3 : Hid (0 + md ≤ maxLen) := by show 0 + md ≤ maxLen; unfold maxLen; omega
    have HC4 : Hid ((0 + md) * 8 ≤ 140737488355328) := by show (0 + md) * 8 ≤ 140737488355328; omega
    have HC5 : Hid (w.heap.size + 1 ≤ ((w.alloc (.cells #[.int .i64 c0, .int .i64 c1, .int .i64 c2] 62)).alloc (.cells #[] 3)).heap.size) := by
      show w.heap.size + 1 ≤ ((w.alloc _).alloc _).heap.size
      simp
    have HLEN : Hid (xs.length = md * 1) := hlen
    clear hown hcc hh htk hsz2 hltr hlen
    go_enter Tryz.func25, Tryz.ntmps25
    go_wp2_with (at_builtin; refine wpList_append_own _ rfl _ _ 31 rfl (w.heap.size + 1) 3 i0 (.int .i64 0) 1 8 Tryz.underlying31 HINF.out.1 HINF.out.2.1 HINF.out.2.2.1 HINF.out.2.2.2 rfl (by decide) _ _ _ rfl HMADE.out ⟨g, 0, none⟩ md cap xs rfl HLEN.out HC1.out HX.out HC3.out HC4.out HC5.out ?_)
    intro v' w3 hown2 hgrow _
    have HB3 : Hid (Below w.heap.size w w3) := (below_alloc (below_alloc (Below.refl _ _) _) _).grown hgrow (by simp; omega) (fun q hq => by simp [Value.ownBlock] at hq; omega)
    have hs3 := HB3.out.size
    have hcf : ∀ j u, (#[.int .i64 c0, .int .i64 c1, .int .i64 c2] : Array Value)[j]? = some u → ∀ o, (w3.alloc o).cell? ⟨w.heap.size, j, none⟩ = some u := fun j u hj o => by
      have hbb := hgrow.block w.heap.size (by simp; omega) (by simp [Value.ownBlock])
      have hsz3 := hgrow.size
      rw [World.cell?_alloc_lt _ _ _ (by simp at hsz3; show w.heap.size < w3.heap.size; omega), World.cell?_of_block (a := ⟨w.heap.size, j, none⟩) hbb, World.cell?_alloc_lt _ _ _ (by simp)]
      exact cell_new w _ _ j u hj
    have q0 := hcf 0 _ rfl
    have q1 := hcf 1 _ rfl
    have q2 := hcf 2 _ rfl
    obtain ⟨p', n', cap', rfl⟩ : ∃ p' n' cap', v' = .slice p' n' cap' := by
      rcases hown2.2 with ⟨rfl, _⟩ | ⟨g, cap, cur, h, _⟩
      · exact ⟨_, _, _, rfl⟩
      · exact ⟨_, _, _, h⟩
    clear hown2 hgrow hcf
    go_wp2_with fail
    refine (obNew_any c0 c1 c2 _ _).mono ?_
    rintro e w4 ⟨rfl, hb4⟩
    have HB4 : Hid (Below w.heap.size w w4) := (below_alloc HB3.out _).trans (hb4.mono (by simp; omega))
    clear hb4
    go_wp2_with fail
    refine (number_nil _).mono ?_
    rintro e w5 ⟨rfl, rfl⟩
    go_wp2
    go_ret2
    exact ⟨rfl, HB4.out⟩
end Go.Proofs.YtcajmohgjojhhaaGreatDoor

namespace Go.Proofs.YtcajmohgjojhhaaGreatDoor
open Go.RowKit Go.Extern

def EngBack (e : Ending) : Prop := ∃ (q : Option Addr) (r : Bool), e = .returned (.tuple #[.pointer q, .bool r])
set_option maxRecDepth 100000 in
set_option maxHeartbeats 2000000 in
theorem newEngine_any (c0 c1 c2 : Int) (p : Option Addr) (m cap : Nat) (w : World) : Calls Tryz.prog 26 #[cfgV c0 c1 c2, .slice p m cap] w fun e w' => EngBack e ∧ Below w.heap.size w w' := by
  go_enter Tryz.func26, Tryz.ntmps26
  by_cases h0 : c0 < 1
  · go_wp2
    go_ret2
    exact ⟨⟨_, _, rfl⟩, below_new _⟩
  by_cases h1 : 64 < c0
  · go_wp2
    go_ret2
    exact ⟨⟨_, _, rfl⟩, below_new _⟩
  by_cases h2 : c1 < 1
  · go_wp2
    go_ret2
    exact ⟨⟨_, _, rfl⟩, below_new _⟩
  by_cases h3 : 1000000 < c1
  · go_wp2
    go_ret2
    exact ⟨⟨_, _, rfl⟩, below_new _⟩
  by_cases h4 : c2 < 1
  · go_wp2
    go_ret2
    exact ⟨⟨_, _, rfl⟩, below_new _⟩
  by_cases h5 : 1000 < c2
  · go_wp2
    go_ret2
    exact ⟨⟨_, _, rfl⟩, below_new _⟩
  · go_wp2
    go_ret2
    exact ⟨⟨_, _, rfl⟩, below_alloc (below_new _) _⟩

set_option maxRecDepth 100000 in
set_option maxHeartbeats 4000000 in
theorem made_any {w0 w : World} {n : Nat} {ws : List ByteArray} {left : Int} (h : St w0 w n ws left) (hn : n ≤ 100000000) :
    Calls Tryz.prog 13 #[.pointer (some ⟨w0.heap.size, 0, none⟩)] w fun e w' => SomeBool e ∧ Next w0 w' n := by
  obtain ⟨x0, hx0⟩ := h.c0
  obtain ⟨x1, hx1⟩ := h.c1
  obtain ⟨x2, hx2⟩ := h.c2
  obtain ⟨dv, md, xs, hc3, hown, hints, hmd⟩ := h.draws
  have HS : Hid (St w0 w n ws left) := h
  have hlt := h.lt
  have HOWN : Hid (w.ownsRow (w0.heap.size + 1) 3 1 dv md xs ∧ ∀ u ∈ xs, ∃ x, u = .int .i64 x) := ⟨hown, hints⟩
  clear h hown hints
  go_enter Tryz.func13, Tryz.ntmps13
  go_wp2_with fail
  go_region_held (fun X => X.cell? ⟨w0.heap.size, 0, none⟩ = some (.int .i64 x0) ∧ X.cell? ⟨w0.heap.size, 1, none⟩ = some (.int .i64 x1) ∧ X.cell? ⟨w0.heap.size, 2, none⟩ = some (.int .i64 x2)) (first
    | exact ⟨hx0, hx1, hx2⟩
    | exact ⟨(World.cell?_alloc_lt _ _ _ hlt).trans hx0, (World.cell?_alloc_lt _ _ _ hlt).trans hx1, (World.cell?_alloc_lt _ _ _ hlt).trans hx2⟩
    | exact ⟨(World.cell?_setCell_other _ _ _ _ (by intro e; injection e with ea eb; omega)).trans ((World.cell?_alloc_lt _ _ _ hlt).trans hx0), (World.cell?_setCell_other _ _ _ _ (by intro e; injection e with ea eb; omega)).trans ((World.cell?_alloc_lt _ _ _ hlt).trans hx1), (World.cell?_setCell_other _ _ _ _ (by intro e; injection e with ea eb; omega)).trans ((World.cell?_alloc_lt _ _ _ hlt).trans hx2)⟩) (fail)
  go_wp2_with fail
  have HS1 : Hid (St w0 (w.alloc (.cells #[.int .i64 x0, .int .i64 x1, .int .i64 x2] 62)).drew n ws left) := (HS.out.below (below_new _)).drew
  have HOW1 : Hid ((w.alloc (.cells #[.int .i64 x0, .int .i64 x1, .int .i64 x2] 62)).drew.ownsRow (w0.heap.size + 1) 3 1 dv md xs ∧ ∀ u ∈ xs, ∃ x, u = .int .i64 x) := ⟨owns_drew (HOWN.out.1.alloc _), HOWN.out.2⟩
  have d0 : (w.alloc (.cells #[.int .i64 x0, .int .i64 x1, .int .i64 x2] 62)).drew.cell? ⟨w.heap.size, 0, none⟩ = some (.int .i64 x0) := cell_new w _ _ 0 _ rfl
  have d1 : (w.alloc (.cells #[.int .i64 x0, .int .i64 x1, .int .i64 x2] 62)).drew.cell? ⟨w.heap.size, 1, none⟩ = some (.int .i64 x1) := cell_new w _ _ 1 _ rfl
  have d2 : (w.alloc (.cells #[.int .i64 x0, .int .i64 x1, .int .i64 x2] 62)).drew.cell? ⟨w.heap.size, 2, none⟩ = some (.int .i64 x2) := cell_new w _ _ 2 _ rfl
  have d3 : (w.alloc (.cells #[.int .i64 x0, .int .i64 x1, .int .i64 x2] 62)).drew.cell? ⟨w0.heap.size, 3, none⟩ = some dv := (World.cell?_alloc_lt w _ ⟨w0.heap.size, 3, none⟩ hlt).trans hc3
  have e0 : (w.alloc (.cells #[.int .i64 x0, .int .i64 x1, .int .i64 x2] 62)).drew.cell? ⟨w0.heap.size, 0, none⟩ = some (.int .i64 x0) := (World.cell?_alloc_lt w _ ⟨w0.heap.size, 0, none⟩ hlt).trans hx0
  have e1 : (w.alloc (.cells #[.int .i64 x0, .int .i64 x1, .int .i64 x2] 62)).drew.cell? ⟨w0.heap.size, 1, none⟩ = some (.int .i64 x1) := (World.cell?_alloc_lt w _ ⟨w0.heap.size, 1, none⟩ hlt).trans hx1
  have e2 : (w.alloc (.cells #[.int .i64 x0, .int .i64 x1, .int .i64 x2] 62)).drew.cell? ⟨w0.heap.size, 2, none⟩ = some (.int .i64 x2) := (World.cell?_alloc_lt w _ ⟨w0.heap.size, 2, none⟩ hlt).trans hx2
  have hszW : w.heap.size < (w.alloc (.cells #[.int .i64 x0, .int .i64 x1, .int .i64 x2] 62)).drew.heap.size := by
    show w.heap.size < (w.alloc _).heap.size
    simp
  clear hx0 hx1 hx2 hc3 HOWN HS
  generalize (w.alloc (.cells #[.int .i64 x0, .int .i64 x1, .int .i64 x2] 62)).drew = W at *
  have hltW : w0.heap.size < W.heap.size := by omega
  go_region_held (fun X => X.cell? ⟨w.heap.size, 0, none⟩ = some (.int .i64 x0) ∧ X.cell? ⟨w.heap.size, 1, none⟩ = some (.int .i64 x1) ∧ X.cell? ⟨w.heap.size, 2, none⟩ = some (.int .i64 x2) ∧ X.cell? ⟨w0.heap.size, 3, none⟩ = some dv) (first
    | exact ⟨d0, d1, d2, d3⟩
    | exact ⟨(hbn.cell (p := ⟨w.heap.size, 0, none⟩) hszW).trans d0, (hbn.cell (p := ⟨w.heap.size, 1, none⟩) hszW).trans d1, (hbn.cell (p := ⟨w.heap.size, 2, none⟩) hszW).trans d2, (hbn.cell (p := ⟨w0.heap.size, 3, none⟩) hltW).trans d3⟩) ((go_at_call 25; refine (plainNew_any x0 x1 x2 dv md (w0.heap.size + 1) xs _ (owns_drew HOW1.out.1) HOW1.out.2 (by omega)).mono ?_; rintro e w' ⟨rfl, hbn⟩))
  have HS2 : Hid (St w0 w' n ws left) := HS1.out.drew.below hbn
  have HOW2 : Hid (w'.ownsRow (w0.heap.size + 1) 3 1 dv md xs ∧ ∀ u ∈ xs, ∃ x, u = .int .i64 x) := ⟨owns_block (owns_drew HOW1.out.1) (fun q hq => hbn.block q ((owns_drew HOW1.out.1).lt q hq).2), HOW1.out.2⟩
  have f0 := (hbn.cell (p := ⟨w0.heap.size, 0, none⟩) hltW).trans e0
  have f1 := (hbn.cell (p := ⟨w0.heap.size, 1, none⟩) hltW).trans e1
  have f2 := (hbn.cell (p := ⟨w0.heap.size, 2, none⟩) hltW).trans e2
  have f3 := (hbn.cell (p := ⟨w0.heap.size, 3, none⟩) hltW).trans d3
  have hlt2 := HS2.out.lt
  clear d0 d1 d2 d3 e0 e1 e2 hbn HOW1 HS1 hszW hltW
  obtain ⟨i0, hi, hz0, hz1, hz2⟩ := info_parts2 Tryz.infoInt Tryz.zeroInt
  have HINF : Hid (Tryz.prog.info? 3 = some i0 ∧ i0.zero = some (.int .i64 0) ∧ i0.size = 1 ∧ i0.bytes = 8) := ⟨hi, hz0, hz1, hz2⟩
  have HX : Hid (∀ u ∈ xs, u.oneCell' = true) := oneCell_ints HOW2.out.2
  have hcc := fun g hg => World.ownsRow.cells HOW2.out.1 (g := g) hg
  have hlen := HOW2.out.1.1
  have hltr := HOW2.out.1.lt
  have HMADE : Hid ((w'.alloc (.cells #[] 3)).ownsRow w'.heap.size 3 1 (.slice (some ⟨w'.heap.size, 0, none⟩) 0 0) 0 []) := World.ownsRow_made (base := w'.heap.size) (e := 3) (size := 1) w' #[] 0 (Nat.le_refl _) (by unfold maxLen; omega) (by simp)
  clear hi hz0 hz1 hz2
  rcases HOW2.out.1.2 with ⟨rfl, rfl⟩ | ⟨g, cap, cur, rfl, hg, hh, hle, hmx, hsz2, htk⟩
  · clear hcc hlen hltr HMADE
    go_wp2_with fail
    have HS4 : Hid (St w0 (w'.alloc (.cells #[] 3)) n ws left) := HS2.out.below (below_new _)
    have g0 := (World.cell?_alloc_lt w' (.cells #[] 3) ⟨w0.heap.size, 0, none⟩ hlt2).trans f0
    have g1 := (World.cell?_alloc_lt w' (.cells #[] 3) ⟨w0.heap.size, 1, none⟩ hlt2).trans f1
    have g2 := (World.cell?_alloc_lt w' (.cells #[] 3) ⟨w0.heap.size, 2, none⟩ hlt2).trans f2
    clear f0 f1 f2 f3
    generalize w'.alloc (.cells #[] 3) = W4 at *
    have hlt4 := HS4.out.lt
    go_region_held (fun X => X.cell? ⟨w0.heap.size, 0, none⟩ = some (.int .i64 x0) ∧ X.cell? ⟨w0.heap.size, 1, none⟩ = some (.int .i64 x1) ∧ X.cell? ⟨w0.heap.size, 2, none⟩ = some (.int .i64 x2)) (first
      | exact ⟨g0, g1, g2⟩
      | exact ⟨(hbn.cell (p := ⟨w0.heap.size, 0, none⟩) hlt4).trans g0, (hbn.cell (p := ⟨w0.heap.size, 1, none⟩) hlt4).trans g1, (hbn.cell (p := ⟨w0.heap.size, 2, none⟩) hlt4).trans g2⟩) ((go_at_call 26; refine (newEngine_any x0 x1 x2 _ _ _ _).mono ?_; rintro e w5 ⟨⟨q, r, rfl⟩, hbn⟩))
    have HS5 : Hid (Next w0 w5 n) := (HS4.out.drew.below hbn).next
    clear g0 g1 g2 hbn
    cases r
    · go_wp2
      go_ret
      exact ⟨⟨false, rfl⟩, HS5.out⟩
    · go_wp2
      go_ret
      exact ⟨⟨false, rfl⟩, HS5.out⟩
  · have HC1 : Hid (∀ (j : Nat) (u : Value), xs[j]? = some u → (w'.alloc (.cells #[] 3)).cell? (Addr.add ⟨g, 0, none⟩ j) = some u) := fun j u hj => by
      have h1 := hcc g rfl j u hj
      have h2 := (hltr g rfl).2
      rw [Addr.add_lit] at h1 ⊢
      rw [World.cell?_alloc_lt _ _ _ h2]
      exact h1
    have HC3 : Hid (0 + md ≤ maxLen) := by show 0 + md ≤ maxLen; unfold maxLen; omega
    have HC4 : Hid ((0 + md) * 8 ≤ 140737488355328) := by show (0 + md) * 8 ≤ 140737488355328; omega
    have HC5 : Hid (w'.heap.size ≤ (w'.alloc (.cells #[] 3)).heap.size) := by
      show w'.heap.size ≤ (w'.alloc _).heap.size
      simp
    have HLEN : Hid (xs.length = md * 1) := hlen
    clear hcc hh htk hsz2 hltr hlen
    go_wp2_with (at_builtin; refine wpList_append_own _ rfl _ _ 31 rfl w'.heap.size 3 i0 (.int .i64 0) 1 8 Tryz.underlying31 HINF.out.1 HINF.out.2.1 HINF.out.2.2.1 HINF.out.2.2.2 rfl (by decide) _ _ _ rfl HMADE.out ⟨g, 0, none⟩ md cap xs rfl HLEN.out HC1.out HX.out HC3.out HC4.out HC5.out ?_)
    intro v' W4 hown2 hgrow _
    have hB4 : Below w'.heap.size w' W4 := (below_alloc (Below.refl _ _) _).grown hgrow (by simp) (fun q hq => by simp [Value.ownBlock] at hq; omega)
    have HS4 : Hid (St w0 W4 n ws left) := HS2.out.below hB4
    have g0 := (hB4.cell (p := ⟨w0.heap.size, 0, none⟩) hlt2).trans f0
    have g1 := (hB4.cell (p := ⟨w0.heap.size, 1, none⟩) hlt2).trans f1
    have g2 := (hB4.cell (p := ⟨w0.heap.size, 2, none⟩) hlt2).trans f2
    obtain ⟨p', n', cap', rfl⟩ : ∃ p' n' cap', v' = .slice p' n' cap' := by
      rcases hown2.2 with ⟨rfl, _⟩ | ⟨g, cap, cur, h, _⟩
      · exact ⟨_, _, _, rfl⟩
      · exact ⟨_, _, _, h⟩
    clear hown2 hgrow f0 f1 f2 f3 hB4
    go_wp2_with fail
    have hlt4 := HS4.out.lt
    go_region_held (fun X => X.cell? ⟨w0.heap.size, 0, none⟩ = some (.int .i64 x0) ∧ X.cell? ⟨w0.heap.size, 1, none⟩ = some (.int .i64 x1) ∧ X.cell? ⟨w0.heap.size, 2, none⟩ = some (.int .i64 x2)) (first
      | exact ⟨g0, g1, g2⟩
      | exact ⟨(hbn.cell (p := ⟨w0.heap.size, 0, none⟩) hlt4).trans g0, (hbn.cell (p := ⟨w0.heap.size, 1, none⟩) hlt4).trans g1, (hbn.cell (p := ⟨w0.heap.size, 2, none⟩) hlt4).trans g2⟩) ((go_at_call 26; refine (newEngine_any x0 x1 x2 _ _ _ _).mono ?_; rintro e w5 ⟨⟨q, r, rfl⟩, hbn⟩))
    have HS5 : Hid (Next w0 w5 n) := (HS4.out.drew.below hbn).next
    clear g0 g1 g2 hbn
    cases r
    · go_wp2
      go_ret
      exact ⟨⟨false, rfl⟩, HS5.out⟩
    · go_wp2
      go_ret
      exact ⟨⟨false, rfl⟩, HS5.out⟩
end Go.Proofs.YtcajmohgjojhhaaGreatDoor
