import Derived.Test.YtcajmohgjojhhaaGreatDoorMA
import Derived.Deep.RegionHeld
import Derived.Test.YtcajmohgjojhhaaGreatDoorNum
import Derived.Laws.StructEq
import Derived.ChangeKeysEq
set_option linter.unusedVariables false
set_option linter.unusedSimpArgs false
namespace Go.Proofs.YtcajmohgjojhhaaGreatDoor
open Go.RowKit Go.Extern

def bcell (b : UInt8) : Value := .int .u8 (b.toNat : Int)
theorem info_parts' {P : Program} {t : TypeId} {z : Value} {s b : Nat} (h : (P.info? t).map (fun i => (i.size, i.bytes)) = some (s, b)) (hz : (P.info? t).map (fun i => i.zero) = some (some z)) : ∃ i, P.info? t = some i ∧ i.zero = some z ∧ i.size = s ∧ i.bytes = b := by
  obtain ⟨i, hi, e⟩ := Option.map_eq_some_iff.1 h
  rw [hi] at hz
  simp at e hz
  exact ⟨i, hi, hz, e.1, e.2⟩
theorem Tryz.infoU8 : (Tryz.prog.info? 5).map (fun i => (i.size, i.bytes)) = some (1, 1) := by kernel_rfl
theorem Tryz.zeroU8 : (Tryz.prog.info? 5).map (fun i => i.zero) = some (some (.int .u8 0)) := by kernel_rfl

theorem pow28 (j : Nat) : (2 : Int) ^ (8 * j) = 256 ^ j := by
  rw [Int.pow_mul]; rfl
theorem shift_byte (x : Int) (j : Nat) (h : j ≤ 4) : UInt8.ofNat ((x / 2 ^ (8 * j)) % 256).toNat = byteOf (x / 256 ^ j) := by
  have h3 : j = 0 ∨ j = 1 ∨ j = 2 ∨ j = 3 ∨ j = 4 := by omega
  rcases h3 with rfl | rfl | rfl | rfl | rfl <;> rfl
theorem byteOf_toNat (x : Int) : ((byteOf x).toNat : Int) = x % 256 := by
  unfold byteOf
  rw [UInt8.toNat_ofNat']
  omega

set_option maxRecDepth 100000 in
set_option maxHeartbeats 1000000 in
theorem appendNumber_any (B : Nat) (v : Value) (n : Nat) (xs : List Value) (x : Int) (width : Nat) (w : World) (hw : width ≤ 4) (hn : n ≤ 1000) (hB : B ≤ w.heap.size) (hown : w.ownsRow B 5 1 v n xs)
    (h1 : -9223372036854775808 ≤ x) (h2 : x ≤ 9223372036854775807) :
    Calls Tryz.prog 95 #[v, .int .i64 x, .int .i64 width] w fun e w' => ∃ v', e = .returned v' ∧ w'.ownsRow B 5 1 v' (n + width) (xs ++ (be width x).map bcell) ∧ Below B w w' := by
  obtain ⟨i0, hi, hz0, hz1, hz2⟩ := info_parts' Tryz.infoU8 Tryz.zeroU8
  go_enter Tryz.func95, Tryz.ntmps95
  go_wp2
  go_loopw [0, 2] (fun t j wr => ∃ (k : Nat) (ys : List UInt8), k ≤ width ∧ j = .int .i64 k ∧ ys ++ be k x = be width x ∧ wr.ownsRow B 5 1 t (n + ys.length) (xs ++ ys.map bcell) ∧ Below B w wr) (fun _ j _ => (intOf j).toNat)
  case atStart => exact ⟨width, [], Nat.le_refl _, rfl, rfl, by simpa using hown, Below.refl _ _⟩
  case round =>
    obtain ⟨k, ys, hk, rfl, hys, hown', hb⟩ := hrel
    have hyl : ys.length + k = width := by
      have := congrArg List.length hys
      simpa [be_length] using this
    have HYS : Hid (ys ++ be k x = be width x) := hys
    clear hys
    have hbs := hb.size
    have HOWN := hown
    clear hown
    by_cases hk0 : k = 0
    · subst hk0
      go_wp2
      go_ret
      have e : ys = be width x := by simpa [be] using HYS.out
      refine ⟨_, rfl, ?_, hb⟩
      rw [← e, ← hyl]
      exact hown'
    · obtain ⟨j, rfl⟩ : ∃ j, k = j + 1 := ⟨k - 1, by omega⟩
      have hjp : (0 : Int) < (j : Int) + 1 := by omega
      go_wp2_with (at_builtin; refine wpList_append_own _ rfl _ _ 82 rfl B 5 i0 (.int .u8 0) 1 1 Tryz.underlying82 hi hz0 hz1 hz2 rfl (by decide) _ _ _ rfl (hown'.alloc _) ⟨wr.heap.size, 0, none⟩ 1 1 [.int .u8 (x / 2 ^ (8 * j) % 256)] rfl rfl ?c1 ?c2 ?c3 ?c4 ?c5 ?_)
      case c1 =>
        intro j u hj
        match j, hj with
        | 0, hj => simp at hj; subst hj; simp [Addr.add]
      case c2 => intro u hu; simp at hu; subst hu; rfl
      case c3 => unfold maxLen; omega
      case c4 => omega
      case c5 => simp; omega
      intro v' w1 hown2 hgrow _
      have hlt := (hown'.alloc (.cells #[.int .u8 (x / 2 ^ (8 * j) % 256)] 5)).lt
      have HB1 : Hid (Below B w w1) := (hb.alloc (by omega) _).grown hgrow (by simp; omega) (fun k hk => (hlt k hk).1)
      have HO : Hid (w1.ownsRow B 5 1 v' (n + (ys ++ [byteOf (x / 256 ^ j)]).length) (xs ++ (ys ++ [byteOf (x / 256 ^ j)]).map bcell)) := by
        show w1.ownsRow B 5 1 v' _ _
        have e : bcell (byteOf (x / 256 ^ j)) = .int .u8 (x / 2 ^ (8 * j) % 256) := by
          rw [bcell, byteOf_toNat, pow28 j]
        rw [List.map_append, List.map_singleton, e, List.length_append, ← Nat.add_assoc]
        exact hown2
      have HY : Hid ((ys ++ [byteOf (x / 256 ^ j)]) ++ be j x = be width x) := by
        show _ = _
        rw [← HYS.out, be_cons, List.append_assoc]; rfl
      clear hown2 hgrow hown' hlt hb
      go_wp2
      go_roundw
      case rel => exact ⟨j, _, by omega, rfl, HY.out, HO.out, HB1.out⟩
      case measure => simp [intOf]
end Go.Proofs.YtcajmohgjojhhaaGreatDoor

namespace Go.Proofs.YtcajmohgjojhhaaGreatDoor
open Go.RowKit Go.Extern

def wid : Nat → Int | 0 => 4 | 1 => 1 | 2 => 1 | 3 => 4 | 4 => 4 | 5 => 4 | 6 => 4 | 7 => 1 | _ => 4
/-- The table of widths lies in its variable. -/
def Wids (w : World) : Prop := ∀ i, i < 9 → w.cell? ⟨9, i, none⟩ = some (.int .i64 (wid i))
theorem Wids.below {w w' : World} (h : Wids w) (hb : Below w.heap.size w w') : Wids w' := fun i hi => (hb.cell (p := ⟨9, i, none⟩) (lt_of_cell' (h i hi))).trans (h i hi)
theorem terms_wid (kind : Int) : ∀ p ∈ terms kind, wid p.1 = p.2 := by
  intro p hp
  unfold terms at hp
  split at hp
  · simp at hp; rcases hp with rfl | rfl | rfl | rfl | rfl | rfl | rfl | rfl | rfl <;> rfl
  split at hp
  · simp at hp; rcases hp with rfl; rfl
  split at hp
  · simp at hp; rcases hp with rfl | rfl | rfl <;> rfl
  split at hp
  · simp at hp; rcases hp with rfl; rfl
  · simp at hp

set_option maxHeartbeats 1000000 in
theorem termsOfKind_any' (kind : Int) (w : World) :
    Calls Tryz.prog 73 #[.int .i64 kind] w fun e w' => ∃ a, e = .returned (.tuple #[a, .bool (decide (1 ≤ kind ∧ kind ≤ 5))]) ∧ IntsAt w' a (whichs kind) ∧ Below w.heap.size w w' ∧ Fresh w.heap.size a := by
  by_cases h1 : kind = 1
  · subst h1
    go_enter Tryz.func73, Tryz.ntmps73
    go_wp2
    go_ret2
    exact ⟨_, rfl, .inr ⟨_, rfl, by decide, fun i hi => ints_cells _ _ _ _ rfl i hi⟩, (Below.refl _ _).alloc (Nat.le_refl _) _, fresh_at (Nat.le_refl _)⟩
  by_cases h2 : kind = 2
  · subst h2
    go_enter Tryz.func73, Tryz.ntmps73
    go_wp2
    go_ret2
    exact ⟨_, rfl, .inr ⟨_, rfl, by decide, fun i hi => ints_cells _ _ _ _ rfl i hi⟩, (Below.refl _ _).alloc (Nat.le_refl _) _, fresh_at (Nat.le_refl _)⟩
  by_cases h3 : kind = 3
  · subst h3
    go_enter Tryz.func73, Tryz.ntmps73
    go_wp2
    go_ret2
    exact ⟨_, rfl, .inr ⟨_, rfl, by decide, fun i hi => ints_cells _ _ _ _ rfl i hi⟩, (Below.refl _ _).alloc (Nat.le_refl _) _, fresh_at (Nat.le_refl _)⟩
  by_cases h4 : kind = 4
  · subst h4
    go_enter Tryz.func73, Tryz.ntmps73
    go_wp2
    go_ret2
    exact ⟨_, rfl, .inr ⟨_, rfl, by decide, fun i hi => ints_cells _ _ _ _ rfl i hi⟩, (Below.refl _ _).alloc (Nat.le_refl _) _, fresh_at (Nat.le_refl _)⟩
  have g1 : (kind == 1) = false := beq_eq_false_iff_ne.2 h1
  have g2 : (kind == 2) = false := beq_eq_false_iff_ne.2 h2
  have g3 : (kind == 3) = false := beq_eq_false_iff_ne.2 h3
  have g4 : (kind == 4) = false := beq_eq_false_iff_ne.2 h4
  have e : terms kind = [] := by simp [terms, h1, h2, h3, h4]
  have HE : Hid (terms kind = []) := e
  clear e
  by_cases h5 : kind = 5
  · subst h5
    clear h1 h2 h3 h4
    go_enter Tryz.func73, Tryz.ntmps73
    go_wp2
    go_ret2
    exact ⟨_, rfl, .inl ⟨rfl, by rw [whichs, HE.out]; rfl⟩, Below.refl _ _, fresh_nil⟩
  · have g5 : (kind == 5) = false := beq_eq_false_iff_ne.2 h5
    have HD : Hid (decide (1 ≤ kind ∧ kind ≤ 5) = false) := by show _ = _; simp; omega
    clear h1 h2 h3 h4 h5
    go_enter Tryz.func73, Tryz.ntmps73
    go_wp2
    go_ret2
    exact ⟨_, by rw [HD.out]; rfl, .inl ⟨rfl, by rw [whichs, HE.out]; rfl⟩, Below.refl _ _, fresh_nil⟩

theorem termsOfKind_any (kind : Int) (w : World) :
    Calls Tryz.prog 73 #[.int .i64 kind] w fun e w' => ∃ a, e = .returned (.tuple #[a, .bool (decide (1 ≤ kind ∧ kind ≤ 5))]) ∧ IntsAt w' a (whichs kind) ∧ Below w.heap.size w w' := by
  refine (termsOfKind_any' kind w).mono ?_
  rintro e w' ⟨a, h1, h2, h3, -⟩
  exact ⟨a, h1, h2, h3⟩

def fsum (l : List (Nat × Nat)) : Int := (l.map fun p => (p.2 : Int)).sum
theorem fsum_snoc (l : List (Nat × Nat)) (p : Nat × Nat) : fsum (l ++ [p]) = fsum l + p.2 := by simp [fsum]
theorem fsum_bd (l : List (Nat × Nat)) (h : ∀ p ∈ l, p.2 ≤ 4) : 0 ≤ fsum l ∧ fsum l ≤ 4 * l.length := by
  induction l with
  | nil => simp [fsum]
  | cons a l ih =>
    have h1 := ih (fun p hp => h p (List.mem_cons_of_mem _ hp))
    have h2 := h a (List.mem_cons_self ..)
    simp only [fsum, List.map_cons, List.sum_cons, List.length_cons] at h1 ⊢
    omega
theorem body_fsum (l : List (Nat × Nat)) (v : Nat → Int) : ((body l v).length : Int) = fsum l := by
  induction l with
  | nil => rfl
  | cons a l ih =>
    simp only [body, fsum, List.flatMap_cons, List.length_append, be_length, List.map_cons, List.sum_cons] at ih ⊢
    omega

set_option maxHeartbeats 1000000 in
theorem frameSize_any (kind : Int) (a : Value) (w : World) (hi : IntsAt w a (whichs kind)) (hW : Wids w) :
    Calls Tryz.prog 74 #[a] w fun e w' => e = .returned (.int .i64 (2 + fsum (terms kind))) ∧ w' = w := by
  have hlen : (whichs kind).length = (terms kind).length := by simp [whichs]
  rcases hi with ⟨rfl, hnil⟩ | ⟨ba, rfl, hne, hca⟩
  · have ht : terms kind = [] := by simpa [whichs] using hnil
    have HT : Hid (terms kind = []) := ht
    clear ht hnil hlen
    go_enter Tryz.func74, Tryz.ntmps74
    go_wp2
    refine wp_loop_rounds 1 ?_
    rw [rounds_succ]
    go_wp2
    go_ret
    exact ⟨by rw [HT.out]; rfl, rfl⟩
  · rw [hlen]
    have hn9 := terms_len kind
    have HA : Hid (∀ i (h : i < (whichs kind).length), w.cell? ⟨ba, i, none⟩ = some (.int .i64 (whichs kind)[i])) := hca
    have HL : Hid ((whichs kind).length = (terms kind).length) := hlen
    have HW : Hid (Wids w) := hW
    clear hca hne hlen hW
    generalize hN : (terms kind).length = n at *
    have HN : Hid ((terms kind).length = n) := hN
    clear hN
    go_enter Tryz.func74, Tryz.ntmps74
    go_wp2
    go_loop [3, 8] (fun s i => ∃ k : Nat, k ≤ n ∧ i = .int .i64 k ∧ s = .int .i64 (2 + fsum ((terms kind).take k))) (fun _ i => n - (intOf i).toNat)
    case atStart => exact ⟨0, Nat.zero_le _, rfl, rfl⟩
    case round =>
      obtain ⟨k, hk, rfl, rfl⟩ := hrel
      have hbd := fsum_bd ((terms kind).take k) (fun p hp => by have := terms_ok kind p (List.mem_of_mem_take hp); omega)
      have hl9 : ((terms kind).take k).length ≤ 9 := by rw [List.length_take]; omega
      by_cases hlt : k < n
      · have hkt : k < (terms kind).length := by rw [HN.out]; exact hlt
        have hok := terms_ok kind _ (List.getElem_mem hkt)
        have hwd := terms_wid kind _ (List.getElem_mem hkt)
        have hts : fsum ((terms kind).take (k + 1)) = fsum ((terms kind).take k) + (terms kind)[k].2 := by
          rw [List.take_succ_eq_append_getElem hkt, fsum_snoc]
        have hca := HA.out k (by rw [HL.out]; exact hlt)
        simp only [whichs, List.getElem_map] at hca
        have hcw := HW.out (terms kind)[k].1 hok.1
        rw [hwd] at hcw
        generalize hp : (terms kind)[k] = p at *
        obtain ⟨pa, pb⟩ := p
        obtain ⟨hp1, hp2, -⟩ := hok
        simp only at hp1 hp2 hca hcw hts
        have HTS : Hid (fsum ((terms kind).take (k + 1)) = fsum ((terms kind).take k) + pb) := hts
        clear hts hwd hp
        generalize fsum ((terms kind).take k) = q at *
        have hpz : (0 : Int) ≤ (pa : Int) ∧ (pa : Int) < 9 := by omega
        go_wp2
        go_round
        case rel => exact ⟨k + 1, by omega, by go_num, int_eq (by rw [HTS.out]; omega)⟩
        case measure => simp [intOf]; omega
      · have hkn : k = n := by omega
        subst hkn
        go_wp2
        go_ret
        exact ⟨ret_int (by rw [List.take_of_length_le (by rw [HN.out]; omega)]), rfl⟩

set_option maxHeartbeats 1000000 in
theorem termHasRoom_any (pa pb : Nat) (x : Int) (w : World) (hW : Wids w) (hpa : pa < 9) (hpb : wid pa = pb) (hb4 : pb ≤ 4) (h1 : -9223372036854775808 ≤ x) (h2 : x ≤ 9223372036854775807) :
    Calls Tryz.prog 94 #[.int .i64 pa, .int .i64 x] w fun e w' => e = .returned (.bool (fit (pa, pb) x)) ∧ w' = w := by
  by_cases h6 : pa = 6
  · subst h6
    go_enter Tryz.func94, Tryz.ntmps94
    go_wp2_with fail
    refine (hasSignedRoom_any x _ h1 h2).mono ?_
    rintro e w' ⟨rfl, rfl⟩
    go_wp2
    go_ret
    exact ⟨ret_bool (by unfold fit; rw [if_pos rfl, Bool.decide_and]), rfl⟩
  · have g6 : ((pa : Int) == 6) = false := beq_eq_false_iff_ne.2 (by omega)
    have hcw := hW pa hpa
    rw [hpb] at hcw
    have HF : Hid (fit (pa, pb) x = decide (0 ≤ x ∧ x < 256 ^ pb)) := by show _ = _; unfold fit; rw [if_neg h6]
    clear hpb hW h6
    have hpz : (0 : Int) ≤ (pa : Int) ∧ (pa : Int) < 9 := by omega
    go_enter Tryz.func94, Tryz.ntmps94
    go_wp2_with fail
    refine (hasRoom_any x pb _ hb4 h1 h2).mono ?_
    rintro e w' ⟨rfl, rfl⟩
    go_wp2
    go_ret
    exact ⟨ret_bool (by rw [HF.out, Bool.decide_and]), rfl⟩
end Go.Proofs.YtcajmohgjojhhaaGreatDoor

namespace Go.Proofs.YtcajmohgjojhhaaGreatDoor
open Go.RowKit Go.Extern

theorem below_alloc {w w' : World} (h : Below w.heap.size w w') (o : Obj) : Below w.heap.size w (w'.alloc o) := h.alloc h.size o

/-- The value of a command. -/
abbrev cmdV (kind : Int) (v : Nat → Int) : Value := .agg #[.int .i64 kind, .int .i64 (v 0), .int .i64 (v 1), .int .i64 (v 2), .int .i64 (v 3), .int .i64 (v 4), .int .i64 (v 5), .int .i64 (v 6), .int .i64 (v 7), .int .i64 (v 8)]
abbrev arrV (v : Nat → Int) : Value := .agg #[.int .i64 (v 0), .int .i64 (v 1), .int .i64 (v 2), .int .i64 (v 3), .int .i64 (v 4), .int .i64 (v 5), .int .i64 (v 6), .int .i64 (v 7), .int .i64 (v 8)]

set_option maxHeartbeats 1000000 in
theorem numbersOf_any (v : Nat → Int) (w : World) :
    Calls Tryz.prog 93 #[arrV v] w fun e w' => e = .returned (arrV v) ∧ Below w.heap.size w w' := by
  go_enter Tryz.func93, Tryz.ntmps93
  go_wp2
  refine bodyPost_ret (v := arrV v) (by simp [results, Tryz.results93, go_sem]) rfl ⟨rfl, ?_⟩
  repeat (first | exact Below.refl _ _ | refine Below.setCell ?_ (by simp) _ | refine Below.drew ?_ | refine below_alloc ?_ _)

end Go.Proofs.YtcajmohgjojhhaaGreatDoor

namespace Go.Proofs.YtcajmohgjojhhaaGreatDoor
open Go.RowKit Go.Extern

set_option maxHeartbeats 4000000 in
theorem command_any (kind : Int) (v : Nat → Int) (w : World) :
    Calls Tryz.prog 58 #[.int .i64 kind, arrV v] w fun e w' => e = .returned (cmdV kind v) ∧ Below w.heap.size w w' := by
  go_enter Tryz.func58, Tryz.ntmps58
  go_wp2_with fail
  go_region_held (fun w' => w'.cell? ⟨w.heap.size, 0, none⟩ = some (.int .i64 (v 0)) ∧ w'.cell? ⟨w.heap.size, 1, none⟩ = some (.int .i64 (v 1)) ∧ w'.cell? ⟨w.heap.size, 2, none⟩ = some (.int .i64 (v 2)) ∧ w'.cell? ⟨w.heap.size, 3, none⟩ = some (.int .i64 (v 3)) ∧ w'.cell? ⟨w.heap.size, 4, none⟩ = some (.int .i64 (v 4)) ∧ w'.cell? ⟨w.heap.size, 5, none⟩ = some (.int .i64 (v 5)) ∧ w'.cell? ⟨w.heap.size, 6, none⟩ = some (.int .i64 (v 6)) ∧ w'.cell? ⟨w.heap.size, 7, none⟩ = some (.int .i64 (v 7)) ∧ w'.cell? ⟨w.heap.size, 8, none⟩ = some (.int .i64 (v 8))) (go_keep) (fail)
  go_wp2
  refine bodyPost_ret (v := cmdV kind v) (by simp [results, Tryz.results58, go_sem]) rfl ⟨rfl, ?_⟩
  repeat (first | exact Below.refl _ _ | refine Below.setCell ?_ (by simp <;> omega) _ | refine Below.drew ?_ | refine below_alloc ?_ _)
end Go.Proofs.YtcajmohgjojhhaaGreatDoor

namespace Go.Proofs.YtcajmohgjojhhaaGreatDoor
open Go.RowKit Go.Extern

theorem keep9o {w w' : World} {B C : Nat} (h : Below B w w') (hC : B ≤ C) (o0 o1 o2 o3 o4 o5 o6 o7 o8 : Nat) (x0 x1 x2 x3 x4 x5 x6 x7 x8 : Value) : Below B w (((((((((w'.setCell ⟨C, o0, none⟩ x0).setCell ⟨C, o1, none⟩ x1).setCell ⟨C, o2, none⟩ x2).setCell ⟨C, o3, none⟩ x3).setCell ⟨C, o4, none⟩ x4).setCell ⟨C, o5, none⟩ x5).setCell ⟨C, o6, none⟩ x6).setCell ⟨C, o7, none⟩ x7).setCell ⟨C, o8, none⟩ x8) :=
  (((((((((h.setCell (p := ⟨C, o0, none⟩) hC x0).setCell (p := ⟨C, o1, none⟩) hC x1).setCell (p := ⟨C, o2, none⟩) hC x2).setCell (p := ⟨C, o3, none⟩) hC x3).setCell (p := ⟨C, o4, none⟩) hC x4).setCell (p := ⟨C, o5, none⟩) hC x5).setCell (p := ⟨C, o6, none⟩) hC x6).setCell (p := ⟨C, o7, none⟩) hC x7).setCell (p := ⟨C, o8, none⟩) hC x8)
abbrev NumS (B : Nat) (kind : Int) (v : Nat → Int) (W : World) : Prop := W.cell? ⟨B, 0, none⟩ = some (.int .i64 kind) ∧ W.cell? ⟨B, 1, none⟩ = some (.int .i64 (v 0)) ∧ W.cell? ⟨B, 2, none⟩ = some (.int .i64 (v 1)) ∧ W.cell? ⟨B, 3, none⟩ = some (.int .i64 (v 2)) ∧ W.cell? ⟨B, 4, none⟩ = some (.int .i64 (v 3)) ∧ W.cell? ⟨B, 5, none⟩ = some (.int .i64 (v 4)) ∧ W.cell? ⟨B, 6, none⟩ = some (.int .i64 (v 5)) ∧ W.cell? ⟨B, 7, none⟩ = some (.int .i64 (v 6)) ∧ W.cell? ⟨B, 8, none⟩ = some (.int .i64 (v 7)) ∧ W.cell? ⟨B, 9, none⟩ = some (.int .i64 (v 8)) ∧ W.there (B + 1) 0 9
theorem numS0 (w : World) (kind : Int) (v : Nat → Int) : NumS w.heap.size kind v (((w.alloc (.cells #[.int .i64 kind, .int .i64 (v 0), .int .i64 (v 1), .int .i64 (v 2), .int .i64 (v 3), .int .i64 (v 4), .int .i64 (v 5), .int .i64 (v 6), .int .i64 (v 7), .int .i64 (v 8)] 94)).alloc (.cells #[.int .i64 0, .int .i64 0, .int .i64 0, .int .i64 0, .int .i64 0, .int .i64 0, .int .i64 0, .int .i64 0, .int .i64 0] 26)).drew) := by
  refine ⟨by simp, by simp, by simp, by simp, by simp, by simp, by simp, by simp, by simp, by simp, fun j hj => ?_⟩
  have h : j = 0 ∨ j = 1 ∨ j = 2 ∨ j = 3 ∨ j = 4 ∨ j = 5 ∨ j = 6 ∨ j = 7 ∨ j = 8 := by omega
  rcases h with rfl | rfl | rfl | rfl | rfl | rfl | rfl | rfl | rfl <;> exact ⟨by simp, by simp⟩
theorem numOut (B : Nat) (W : World) (l : List Value) (j : Nat) : (W.setCells (B + 1) 0 l).cell? ⟨B, j, none⟩ = W.cell? ⟨B, j, none⟩ := World.cell?_setCells_out _ _ _ _ _ (by intro e; simp at e)
theorem numS1 (B : Nat) (kind : Int) (v : Nat → Int) (W : World) (l : List Value) (h : W.cell? ⟨B, 0, none⟩ = some (.int .i64 kind) ∧ W.cell? ⟨B, 1, none⟩ = some (.int .i64 (v 0)) ∧ W.cell? ⟨B, 2, none⟩ = some (.int .i64 (v 1)) ∧ W.cell? ⟨B, 3, none⟩ = some (.int .i64 (v 2)) ∧ W.cell? ⟨B, 4, none⟩ = some (.int .i64 (v 3)) ∧ W.cell? ⟨B, 5, none⟩ = some (.int .i64 (v 4)) ∧ W.cell? ⟨B, 6, none⟩ = some (.int .i64 (v 5)) ∧ W.cell? ⟨B, 7, none⟩ = some (.int .i64 (v 6)) ∧ W.cell? ⟨B, 8, none⟩ = some (.int .i64 (v 7)) ∧ W.cell? ⟨B, 9, none⟩ = some (.int .i64 (v 8)) ∧ W.there (B + 1) 0 9) : W.cell? ⟨B, 0, none⟩ = some (.int .i64 kind) ∧ W.cell? ⟨B, 1, none⟩ = some (.int .i64 (v 0)) ∧ W.cell? ⟨B, 2, none⟩ = some (.int .i64 (v 1)) ∧ W.cell? ⟨B, 3, none⟩ = some (.int .i64 (v 2)) ∧ W.cell? ⟨B, 4, none⟩ = some (.int .i64 (v 3)) ∧ W.cell? ⟨B, 5, none⟩ = some (.int .i64 (v 4)) ∧ W.cell? ⟨B, 6, none⟩ = some (.int .i64 (v 5)) ∧ W.cell? ⟨B, 7, none⟩ = some (.int .i64 (v 6)) ∧ W.cell? ⟨B, 8, none⟩ = some (.int .i64 (v 7)) ∧ W.cell? ⟨B, 9, none⟩ = some (.int .i64 (v 8)) ∧ (W.setCells (B + 1) 0 l).there (B + 1) 0 9 := by
  obtain ⟨h0, h1, h2, h3, h4, h5, h6, h7, h8, h9, h10⟩ := h
  exact ⟨h0, h1, h2, h3, h4, h5, h6, h7, h8, h9, World.there_setCells h10 _ _ _⟩

set_option maxRecDepth 100000 in
set_option maxHeartbeats 4000000 in
theorem numbers_any (kind : Int) (v : Nat → Int) (w : World) :
    Calls Tryz.prog 42 #[cmdV kind v] w fun e w' => e = .returned (.tuple #[.int .i64 kind, arrV v]) ∧ Below w.heap.size w w' := by
  have h1 : ∀ x ∈ ([.int .i64 (v 0), .int .i64 (v 1), .int .i64 (v 2), .int .i64 (v 3), .int .i64 (v 4), .int .i64 (v 5), .int .i64 (v 6), .int .i64 (v 7), .int .i64 (v 8)] : List Value), x.oneCell' = true := by
    intro x hx
    simp at hx
    rcases hx with rfl | rfl | rfl | rfl | rfl | rfl | rfl | rfl | rfl <;> rfl
  have h3 : (Tryz.prog.info? 26).map (·.size) = some ([.int .i64 (v 0), .int .i64 (v 1), .int .i64 (v 2), .int .i64 (v 3), .int .i64 (v 4), .int .i64 (v 5), .int .i64 (v 6), .int .i64 (v 7), .int .i64 (v 8)] : List Value).length := by
    show _ = some 9
    kernel_rfl
  go_enter Tryz.func42, Tryz.ntmps42
  go_wp2_with fail
  go_region_held (fun w' => w'.cell? ⟨w.heap.size, 0, none⟩ = some (.int .i64 kind) ∧ w'.cell? ⟨w.heap.size, 1, none⟩ = some (.int .i64 (v 0)) ∧ w'.cell? ⟨w.heap.size, 2, none⟩ = some (.int .i64 (v 1)) ∧ w'.cell? ⟨w.heap.size, 3, none⟩ = some (.int .i64 (v 2)) ∧ w'.cell? ⟨w.heap.size, 4, none⟩ = some (.int .i64 (v 3)) ∧ w'.cell? ⟨w.heap.size, 5, none⟩ = some (.int .i64 (v 4)) ∧ w'.cell? ⟨w.heap.size, 6, none⟩ = some (.int .i64 (v 5)) ∧ w'.cell? ⟨w.heap.size, 7, none⟩ = some (.int .i64 (v 6)) ∧ w'.cell? ⟨w.heap.size, 8, none⟩ = some (.int .i64 (v 7)) ∧ w'.cell? ⟨w.heap.size, 9, none⟩ = some (.int .i64 (v 8)) ∧ w'.there (w.heap.size + 1) 0 9) (first | (simp only [numOut]; exact numS1 w.heap.size kind v _ _ (by assumption)) | exact numS0 w kind v) (fail)
  simp only [World.setCells]
  go_wp2
  refine bodyPost_ret (v := .tuple #[.int .i64 kind, arrV v]) (by simp [results, Tryz.results42, go_sem]) rfl ⟨rfl, ?_⟩
  exact keep9o (C := w.heap.size + 1) ((below_alloc (below_alloc (Below.refl _ _) _) _).drew) (by omega) _ _ _ _ _ _ _ _ _ _ _ _ _ _ _ _ _ _
end Go.Proofs.YtcajmohgjojhhaaGreatDoor

namespace Go.Proofs.YtcajmohgjojhhaaGreatDoor
open Go.RowKit Go.Extern

theorem Tryz.arr9 : Tryz.prog.underlying 26 = some (.array 9 3) := by kernel_rfl
theorem Tryz.intCells : Tryz.prog.cellsOf 3 = 1 := by kernel_rfl
theorem Tryz.intInfo : (Tryz.prog.info? 3).isSome = true := by kernel_rfl
theorem Tryz.arrGuard : Tryz.prog.eqGuardType Tryz.prog.depth 26 = false := by kernel_rfl

theorem items_step (d : Nat) (xs : Array Value) (j : Nat) (is : List Nat) (x : Int) (W : World) (hx : (part 3 xs (j * 1)).run Tryz.prog W = .ok (.int .i64 x) W) (h : (Op.eqItems (d + 1) 3 1 xs xs is).run Tryz.prog W = .ok true W) : (Op.eqItems (d + 1) 3 1 xs xs (j :: is)).run Tryz.prog W = .ok true W := by
  simp only [Op.eqItems, Sem.run_bind, hx, Result.andThen_ok, run_equalIn_int W d 3 .i64 .i64 x x Tryz.underlying3]
  simpa using h

/-- An array is like itself. -/
theorem eq9 (v : Nat → Int) (W : World) : (binOp .eql 26 (arrV v) (arrV v)).run Tryz.prog W = .ok (.bool true) W := by
  obtain ⟨i, hi⟩ := Option.isSome_iff_exists.1 Tryz.intInfo
  have h1 := Tryz.arr9
  rw [run_eql_struct, run_equalIn_array W 9999 _ _ h1 hi, Tryz.intCells]
  have : (Op.eqItems 9999 3 1 #[.int .i64 (v 0), .int .i64 (v 1), .int .i64 (v 2), .int .i64 (v 3), .int .i64 (v 4), .int .i64 (v 5), .int .i64 (v 6), .int .i64 (v 7), .int .i64 (v 8)] #[.int .i64 (v 0), .int .i64 (v 1), .int .i64 (v 2), .int .i64 (v 3), .int .i64 (v 4), .int .i64 (v 5), .int .i64 (v 6), .int .i64 (v 7), .int .i64 (v 8)] (List.range 9)).run Tryz.prog W = .ok true W := by
    rw [show List.range 9 = [0, 1, 2, 3, 4, 5, 6, 7, 8] from rfl]
    refine items_step 9998 _ 0 _ (v 0) W (by kernel_rfl) ?_
    refine items_step 9998 _ 1 _ (v 1) W (by kernel_rfl) ?_
    refine items_step 9998 _ 2 _ (v 2) W (by kernel_rfl) ?_
    refine items_step 9998 _ 3 _ (v 3) W (by kernel_rfl) ?_
    refine items_step 9998 _ 4 _ (v 4) W (by kernel_rfl) ?_
    refine items_step 9998 _ 5 _ (v 5) W (by kernel_rfl) ?_
    refine items_step 9998 _ 6 _ (v 6) W (by kernel_rfl) ?_
    refine items_step 9998 _ 7 _ (v 7) W (by kernel_rfl) ?_
    refine items_step 9998 _ 8 _ (v 8) W (by kernel_rfl) ?_
    rfl
  rw [this]
  rfl
end Go.Proofs.YtcajmohgjojhhaaGreatDoor
