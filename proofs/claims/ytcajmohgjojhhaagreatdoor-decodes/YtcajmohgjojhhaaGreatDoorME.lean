import Derived.Test.YtcajmohgjojhhaaGreatDoorMA
import Derived.Test.YtcajmohgjojhhaaGreatDoorNum
import Derived.Laws.DeepStrings4
import Derived.Deep.RegionHeld
import Derived.Laws.StructEq
import Derived.Deep.QuietTactic
import Derived.BigQuiet
import Derived.Test.YtcajmohgjojhhaaGreatDoorMB
set_option linter.unusedVariables false
set_option linter.unusedSimpArgs false
namespace Go.Proofs.YtcajmohgjojhhaaGreatDoor
open Go.RowKit Go.Extern

/-! P5, plainly: a text, from a place on -/
def fld (s : ByteArray) (p a n : Nat) : Int := val ((s.data.toList.drop (p + a)).take n)
def recL (s : ByteArray) (p : Nat) : List Int := [fld s p 0 1, fld s p 1 4, fld s p 5 4, fld s p 9 4, fld s p 13 4, fld s p 17 4, fld s p 21 1]
abbrev recV (l0 l1 l2 l3 l4 l5 l6 : Int) : Value := .agg #[.int .i64 l0, .int .i64 l1, .int .i64 l2, .int .i64 l3, .int .i64 l4, .int .i64 l5, .int .i64 l6]
theorem fld_bd (s : ByteArray) (p a n : Nat) (h : n ≤ 4) : 0 ≤ fld s p a n ∧ fld s p a n < 4294967296 :=
  ⟨val_nonneg _, val_lt4 _ (Nat.le_trans (List.length_take_le _ _) h)⟩

theorem errs1 {w : World} {a : Nat → Addr} {st : Nat → ByteArray} (hE : Errs w a st) (o1 : Obj) : Errs (w.alloc o1) a st := hE.alloc o1

set_option maxRecDepth 100000 in
set_option maxHeartbeats 1000000 in
theorem readRecord_short (a : Nat → Addr) (st : Nat → ByteArray) (s : ByteArray) (w : World) (hE : Errs w a st) (h : s.size < 22) :
    Calls Tryz.prog 99 #[.string s] w fun e w' => e = .returned (.tuple #[recV 0 0 0 0 0 0 0, .iface 204 (.pointer (some (a 3)))]) ∧ Below w.heap.size w w' := by
  have hc := (errs1 hE (.cells #[.int .i64 0, .int .i64 0, .int .i64 0, .int .i64 0, .int .i64 0, .int .i64 0, .int .i64 0] 85)).c3
  go_enter Tryz.func99, Tryz.ntmps99
  go_wp2_with fail
  go_region
  all_goals (try go_wp2)
  all_goals
    refine bodyPost_ret (v := .tuple #[recV 0 0 0 0 0 0 0, .iface 204 (.pointer (some (a 3)))]) (by simp [results, Tryz.results99, go_sem]) rfl ⟨rfl, ?_⟩
    exact (((Below.refl _ _).alloc (Nat.le_refl _) _).drew)

set_option maxRecDepth 100000 in
set_option maxHeartbeats 1000000 in
theorem readRecord_bad (a : Nat → Addr) (st : Nat → ByteArray) (s : ByteArray) (w : World) (hE : Errs w a st) (h : 22 ≤ s.size) (hm : s.size ≤ 1000000000) (hk : fld s 0 0 1 < 1 ∨ 8 < fld s 0 0 1) :
    Calls Tryz.prog 99 #[.string s] w fun e w' => e = .returned (.tuple #[recV 0 0 0 0 0 0 0, .iface 204 (.pointer (some (a 5)))]) ∧ Below w.heap.size w w' := by
  have hc := (errs1 hE (.cells #[.int .i64 0, .int .i64 0, .int .i64 0, .int .i64 0, .int .i64 0, .int .i64 0, .int .i64 0] 85)).c5
  have hna := fun W => numberAt_any s 0 1 W (by omega) (by omega) hm
  have e : val ((s.data.toList.drop 0).take 1) = fld s 0 0 1 := rfl
  rw [e] at hna
  generalize fld s 0 0 1 = k at *
  have HNA : Hid (∀ W, Calls Tryz.prog 96 #[.string s, .int .i64 0, .int .i64 1] W fun e w' => e = .returned (.int .i64 k) ∧ w' = W) := hna
  clear hna e
  rcases hk with hk | hk
  all_goals
    go_enter Tryz.func99, Tryz.ntmps99
    go_wp2_with fail
    refine (HNA.out _).mono ?_
    rintro e w' ⟨rfl, rfl⟩
    go_wp2_with fail
    go_region
    all_goals (try go_wp2)
    all_goals
      refine bodyPost_ret (v := .tuple #[recV 0 0 0 0 0 0 0, .iface 204 (.pointer (some (a 5)))]) (by simp [results, Tryz.results99, go_sem]) rfl ⟨rfl, ?_⟩
      exact (((Below.refl _ _).alloc (Nat.le_refl _) _).drew)

set_option maxRecDepth 100000 in
set_option maxHeartbeats 1000000 in
theorem readRecord_ok (s : ByteArray) (w : World) (h : 22 ≤ s.size) (hm : s.size ≤ 1000000000) (hk : 1 ≤ fld s 0 0 1 ∧ fld s 0 0 1 ≤ 8) :
    Calls Tryz.prog 99 #[.string s] w fun e w' => e = .returned (.tuple #[recV (fld s 0 0 1) (fld s 0 1 4) (fld s 0 5 4) (fld s 0 9 4) (fld s 0 13 4) (fld s 0 17 4) (fld s 0 21 1), .nilIface]) ∧ Below w.heap.size w w' := by
  have hn0 := fun W => numberAt_any s 0 1 W (by omega) (by omega) hm
  have e0 : val ((s.data.toList.drop 0).take 1) = fld s 0 0 1 := by simp [fld]
  rw [e0] at hn0
  generalize fld s 0 0 1 = k0 at *
  have HN0 : Hid (∀ W, Calls Tryz.prog 96 #[.string s, .int .i64 0, .int .i64 1] W fun e w' => e = .returned (.int .i64 k0) ∧ w' = W) := hn0
  clear hn0 e0
  have hn1 := fun W => numberAt_any s 1 4 W (by omega) (by omega) hm
  have e1 : val ((s.data.toList.drop 1).take 4) = fld s 0 1 4 := by simp [fld]
  rw [e1] at hn1
  generalize fld s 0 1 4 = k1 at *
  have HN1 : Hid (∀ W, Calls Tryz.prog 96 #[.string s, .int .i64 1, .int .i64 4] W fun e w' => e = .returned (.int .i64 k1) ∧ w' = W) := hn1
  clear hn1 e1
  have hn2 := fun W => numberAt_any s 5 4 W (by omega) (by omega) hm
  have e2 : val ((s.data.toList.drop 5).take 4) = fld s 0 5 4 := by simp [fld]
  rw [e2] at hn2
  generalize fld s 0 5 4 = k2 at *
  have HN2 : Hid (∀ W, Calls Tryz.prog 96 #[.string s, .int .i64 5, .int .i64 4] W fun e w' => e = .returned (.int .i64 k2) ∧ w' = W) := hn2
  clear hn2 e2
  have hn3 := fun W => numberAt_any s 9 4 W (by omega) (by omega) hm
  have e3 : val ((s.data.toList.drop 9).take 4) = fld s 0 9 4 := by simp [fld]
  rw [e3] at hn3
  generalize fld s 0 9 4 = k3 at *
  have HN3 : Hid (∀ W, Calls Tryz.prog 96 #[.string s, .int .i64 9, .int .i64 4] W fun e w' => e = .returned (.int .i64 k3) ∧ w' = W) := hn3
  clear hn3 e3
  have hn4 := fun W => numberAt_any s 13 4 W (by omega) (by omega) hm
  have e4 : val ((s.data.toList.drop 13).take 4) = fld s 0 13 4 := by simp [fld]
  rw [e4] at hn4
  generalize fld s 0 13 4 = k4 at *
  have HN4 : Hid (∀ W, Calls Tryz.prog 96 #[.string s, .int .i64 13, .int .i64 4] W fun e w' => e = .returned (.int .i64 k4) ∧ w' = W) := hn4
  clear hn4 e4
  have hn5 := fun W => numberAt_any s 17 4 W (by omega) (by omega) hm
  have e5 : val ((s.data.toList.drop 17).take 4) = fld s 0 17 4 := by simp [fld]
  rw [e5] at hn5
  generalize fld s 0 17 4 = k5 at *
  have HN5 : Hid (∀ W, Calls Tryz.prog 96 #[.string s, .int .i64 17, .int .i64 4] W fun e w' => e = .returned (.int .i64 k5) ∧ w' = W) := hn5
  clear hn5 e5
  have hn6 := fun W => numberAt_any s 21 1 W (by omega) (by omega) hm
  have e6 : val ((s.data.toList.drop 21).take 1) = fld s 0 21 1 := by simp [fld]
  rw [e6] at hn6
  generalize fld s 0 21 1 = k6 at *
  have HN6 : Hid (∀ W, Calls Tryz.prog 96 #[.string s, .int .i64 21, .int .i64 1] W fun e w' => e = .returned (.int .i64 k6) ∧ w' = W) := hn6
  clear hn6 e6
  obtain ⟨hk1, hk8⟩ := hk
  go_enter Tryz.func99, Tryz.ntmps99
  go_wp2_with fail
  refine (HN0.out _).mono ?_
  rintro e w' ⟨rfl, rfl⟩
  go_wp2_with fail
  refine (HN1.out _).mono ?_
  rintro e w' ⟨rfl, rfl⟩
  go_wp2_with fail
  refine (HN2.out _).mono ?_
  rintro e w' ⟨rfl, rfl⟩
  go_wp2_with fail
  refine (HN3.out _).mono ?_
  rintro e w' ⟨rfl, rfl⟩
  go_wp2_with fail
  refine (HN4.out _).mono ?_
  rintro e w' ⟨rfl, rfl⟩
  go_wp2_with fail
  refine (HN5.out _).mono ?_
  rintro e w' ⟨rfl, rfl⟩
  go_wp2_with fail
  refine (HN6.out _).mono ?_
  rintro e w' ⟨rfl, rfl⟩
  go_wp2
  refine bodyPost_ret (v := .tuple #[recV k0 k1 k2 k3 k4 k5 k6, .nilIface]) (by simp [results, Tryz.results99, go_sem]) rfl ⟨rfl, ?_⟩
  exact ((Below.refl _ _).alloc (Nat.le_refl _) _)
end Go.Proofs.YtcajmohgjojhhaaGreatDoor

namespace Go.Proofs.YtcajmohgjojhhaaGreatDoor
open Go.RowKit Go.Extern
theorem Tryz.recStruct : Tryz.prog.underlying 85 = some (.struct (Tryz.prog.fieldsOf 85)) := by kernel_rfl
theorem Tryz.recHeld : Tryz.prog.stoodInHeld 85 = false := by kernel_rfl
theorem Tryz.recGuard : Tryz.prog.eqGuardType Tryz.prog.depth 85 = false := by kernel_rfl
theorem eqF_cons (d : Nat) (xs ys : Array Value) (f : Field) (fs : List Field) (a b : Int) (t : TypeId) (o : Nat) (W : World) (hn : (f.name == "_") = false) (ht : f.type = t) (ho : f.offset = o) (hu : Tryz.prog.underlying t = some (.int .i64))
    (hx : (part t xs o).run Tryz.prog W = .ok (.int .i64 a) W) (hy : (part t ys o).run Tryz.prog W = .ok (.int .i64 b) W) :
    (Op.eqFields (d + 1) xs ys (f :: fs)).run Tryz.prog W = if a == b then (Op.eqFields (d + 1) xs ys fs).run Tryz.prog W else .ok false W := by
  have hne : f.name ≠ "_" := by simpa using hn
  subst ht ho
  rw [Op.eqFields, if_pos hne]
  simp only [Sem.run_bind, hx, hy, Result.andThen_ok, run_equalIn_int W d f.type .i64 .i64 a b hu]
  cases hab : (a == b) <;> simp

theorem eq7 (l : List Field) (h : l.map (fun f => (f.name == "_", f.type, f.offset)) = [(false, 3, 0), (false, 3, 1), (false, 3, 2), (false, 3, 3), (false, 3, 4), (false, 3, 5), (false, 3, 6)])
    (a0 a1 a2 a3 a4 a5 a6 b0 b1 b2 b3 b4 b5 b6 : Int) (W : World) :
    (((Op.eqFields 9999 #[.int .i64 a0, .int .i64 a1, .int .i64 a2, .int .i64 a3, .int .i64 a4, .int .i64 a5, .int .i64 a6] #[.int .i64 b0, .int .i64 b1, .int .i64 b2, .int .i64 b3, .int .i64 b4, .int .i64 b5, .int .i64 b6] l).run Tryz.prog W).andThen fun b w' => Result.ok (Value.bool (!b)) w') = .ok (Value.bool (!(a0 == b0 && a1 == b1 && a2 == b2 && a3 == b3 && a4 == b4 && a5 == b5 && a6 == b6))) W := by
  rcases l with _ | ⟨f0, _ | ⟨f1, _ | ⟨f2, _ | ⟨f3, _ | ⟨f4, _ | ⟨f5, _ | ⟨f6, _ | ⟨f7, l⟩⟩⟩⟩⟩⟩⟩⟩
  · simp at h
  · simp at h
  · simp at h
  · simp at h
  · simp at h
  · simp at h
  · simp at h
  · simp only [List.map_cons, List.map_nil, List.cons.injEq, Prod.mk.injEq, and_true] at h
    obtain ⟨⟨n0, t0, o0⟩, ⟨n1, t1, o1⟩, ⟨n2, t2, o2⟩, ⟨n3, t3, o3⟩, ⟨n4, t4, o4⟩, ⟨n5, t5, o5⟩, ⟨n6, t6, o6⟩⟩ := h
    rw [eqF_cons 9998 _ _ f0 _ a0 b0 3 0 W n0 t0 o0 Tryz.underlying3 (by kernel_rfl) (by kernel_rfl),
      eqF_cons 9998 _ _ f1 _ a1 b1 3 1 W n1 t1 o1 Tryz.underlying3 (by kernel_rfl) (by kernel_rfl),
      eqF_cons 9998 _ _ f2 _ a2 b2 3 2 W n2 t2 o2 Tryz.underlying3 (by kernel_rfl) (by kernel_rfl),
      eqF_cons 9998 _ _ f3 _ a3 b3 3 3 W n3 t3 o3 Tryz.underlying3 (by kernel_rfl) (by kernel_rfl),
      eqF_cons 9998 _ _ f4 _ a4 b4 3 4 W n4 t4 o4 Tryz.underlying3 (by kernel_rfl) (by kernel_rfl),
      eqF_cons 9998 _ _ f5 _ a5 b5 3 5 W n5 t5 o5 Tryz.underlying3 (by kernel_rfl) (by kernel_rfl),
      eqF_cons 9998 _ _ f6 _ a6 b6 3 6 W n6 t6 o6 Tryz.underlying3 (by kernel_rfl) (by kernel_rfl)]
    cases (a0 == b0) <;> cases (a1 == b1) <;> cases (a2 == b2) <;> cases (a3 == b3) <;> cases (a4 == b4) <;> cases (a5 == b5) <;> cases (a6 == b6) <;> rfl
  · simp at h

set_option maxRecDepth 100000 in
theorem neqRec (a0 a1 a2 a3 a4 a5 a6 b0 b1 b2 b3 b4 b5 b6 : Int) (W : World) :
    (binOp .neq 85 (recV a0 a1 a2 a3 a4 a5 a6) (recV b0 b1 b2 b3 b4 b5 b6)).run Tryz.prog W = .ok (.bool (!(a0 == b0 && a1 == b1 && a2 == b2 && a3 == b3 && a4 == b4 && a5 == b5 && a6 == b6))) W := by
  have h1 := Tryz.recStruct
  have h2 := Tryz.recHeld
  rw [run_neq_struct, run_equalIn_struct W 9999 _ _ _ h1 h2]
  clear h1 h2
  have hfs : (Tryz.prog.fieldsOf 85).toList.map (fun f => (f.name == "_", f.type, f.offset)) = [(false, 3, 0), (false, 3, 1), (false, 3, 2), (false, 3, 3), (false, 3, 4), (false, 3, 5), (false, 3, 6)] := by kernel_rfl
  exact eq7 _ hfs _ _ _ _ _ _ _ _ _ _ _ _ _ _ W
end Go.Proofs.YtcajmohgjojhhaaGreatDoor

namespace Go.Proofs.YtcajmohgjojhhaaGreatDoor
open Go.RowKit Go.Extern

theorem drewN_add (w : World) (m n : Nat) : (w.drewN m).drewN n = w.drewN (m + n) := by simp [World.drewN, Nat.add_assoc]

/-- A slice whose first cells are these ints, size cells an element. -/
def SliceOf (w : World) (size : Nat) (v : Value) (n : Nat) (X : Nat → Int) : Prop :=
  (v = .slice none 0 0 ∧ n = 0) ∨ ∃ g c, v = .slice (some ⟨g, 0, none⟩) n c ∧ ∀ j, j < size * n → w.cell? ⟨g, j, none⟩ = some (.int .i64 (X j))

set_option maxRecDepth 100000 in
set_option maxHeartbeats 2000000 in
theorem sameRecords_eq (ga gb ca cb n : Nat) (X Y : Nat → Int) (w : World) (hn : n ≤ 1000000000)
    (hX : ∀ j, j < 7 * n → w.cell? ⟨ga, j, none⟩ = some (.int .i64 (X j))) (hY : ∀ j, j < 7 * n → w.cell? ⟨gb, j, none⟩ = some (.int .i64 (Y j))) :
    Calls Tryz.prog 17 #[.slice (some ⟨ga, 0, none⟩) n ca, .slice (some ⟨gb, 0, none⟩) n cb] w fun e w' => e = .returned (.bool (decide (∀ j, j < 7 * n → X j = Y j))) ∧ ∃ m, w' = w.drewN m := by
  have HX : Hid (∀ j, j < 7 * n → w.cell? ⟨ga, j, none⟩ = some (.int .i64 (X j))) := hX
  have HY : Hid (∀ j, j < 7 * n → w.cell? ⟨gb, j, none⟩ = some (.int .i64 (Y j))) := hY
  clear hX hY
  go_enter Tryz.func17, Tryz.ntmps17
  go_wp2
  go_loopw [5] (fun i wr => ∃ k m : Nat, k ≤ n ∧ (∀ j, j < 7 * k → X j = Y j) ∧ i = .int .i64 k ∧ wr = w.drewN m) (fun i _ => n - (intOf i).toNat)
  case atStart => exact ⟨0, 0, Nat.zero_le _, fun j hj => absurd hj (by omega), rfl, rfl⟩
  case round =>
    obtain ⟨k, m, hk, hsm, rfl, rfl⟩ := hrel
    have HSM : Hid (∀ j, j < 7 * k → X j = Y j) := hsm
    clear hsm
    by_cases hlt : k < n
    · have hx0 := HX.out (k * 7) (by omega)
      have hx1 := HX.out (k * 7 + 1) (by omega)
      have hx2 := HX.out (k * 7 + 2) (by omega)
      have hx3 := HX.out (k * 7 + 3) (by omega)
      have hx4 := HX.out (k * 7 + 4) (by omega)
      have hx5 := HX.out (k * 7 + 5) (by omega)
      have hx6 := HX.out (k * 7 + 6) (by omega)
      have hy0 := HY.out (k * 7) (by omega)
      have hy1 := HY.out (k * 7 + 1) (by omega)
      have hy2 := HY.out (k * 7 + 2) (by omega)
      have hy3 := HY.out (k * 7 + 3) (by omega)
      have hy4 := HY.out (k * 7 + 4) (by omega)
      have hy5 := HY.out (k * 7 + 5) (by omega)
      have hy6 := HY.out (k * 7 + 6) (by omega)
      have hkI : (k : Int) < (n : Int) := by omega
      have hneq := fun W => neqRec (X (k * 7)) (X (k * 7 + 1)) (X (k * 7 + 2)) (X (k * 7 + 3)) (X (k * 7 + 4)) (X (k * 7 + 5)) (X (k * 7 + 6)) (Y (k * 7)) (Y (k * 7 + 1)) (Y (k * 7 + 2)) (Y (k * 7 + 3)) (Y (k * 7 + 4)) (Y (k * 7 + 5)) (Y (k * 7 + 6)) W
      have hgd := Tryz.recGuard
      generalize hcc : (X (k * 7) == Y (k * 7) && X (k * 7 + 1) == Y (k * 7 + 1) && X (k * 7 + 2) == Y (k * 7 + 2) && X (k * 7 + 3) == Y (k * 7 + 3) && X (k * 7 + 4) == Y (k * 7 + 4) && X (k * 7 + 5) == Y (k * 7 + 5) && X (k * 7 + 6) == Y (k * 7 + 6)) = c at hneq
      have HC : Hid ((∀ j, j < 7 * n → X j = Y j) → c = true) := fun h => by
        rw [← hcc, h (k * 7) (by omega), h (k * 7 + 1) (by omega), h (k * 7 + 2) (by omega), h (k * 7 + 3) (by omega), h (k * 7 + 4) (by omega), h (k * 7 + 5) (by omega), h (k * 7 + 6) (by omega)]
        simp
      have HD : Hid (c = true → ∀ j, j < 7 * (k + 1) → X j = Y j) := fun h j hj => by
        rw [h] at hcc
        simp only [Bool.and_eq_true, beq_iff_eq] at hcc
        obtain ⟨⟨⟨⟨⟨⟨e0, e1⟩, e2⟩, e3⟩, e4⟩, e5⟩, e6⟩ := hcc
        by_cases q : j < 7 * k
        · exact HSM.out j q
        · obtain rfl | rfl | rfl | rfl | rfl | rfl | rfl : j = k * 7 ∨ j = k * 7 + 1 ∨ j = k * 7 + 2 ∨ j = k * 7 + 3 ∨ j = k * 7 + 4 ∨ j = k * 7 + 5 ∨ j = k * 7 + 6 := by omega
          all_goals assumption
      clear hcc
      cases c with
      | true =>
        have HD1 : Hid (∀ j, j < 7 * (k + 1) → X j = Y j) := HD.out rfl
        clear HC HD
        go_wp2_with fail
        go_quiet (fail)
        go_wp2
        go_roundw
        case rel => exact ⟨k + 1, _, by omega, HD1.out, by go_num, rfl⟩
        case measure => simp [intOf]; omega
      | false =>
        have HC1 : Hid (¬ ∀ j, j < 7 * n → X j = Y j) := fun h => Bool.noConfusion (HC.out h)
        clear HC HD
        go_wp2_with fail
        go_quiet (fail)
        go_wp2
        go_ret
        exact ⟨by rw [decide_eq_false HC1.out]; rfl, _, drewN_add _ _ _⟩
    · go_wp2
      go_ret
      exact ⟨by rw [decide_eq_true (fun j hj => HSM.out j (by omega))]; rfl, m, rfl⟩
end Go.Proofs.YtcajmohgjojhhaaGreatDoor

namespace Go.Proofs.YtcajmohgjojhhaaGreatDoor
open Go.RowKit Go.Extern

set_option maxRecDepth 100000 in
set_option maxHeartbeats 1000000 in
theorem sameRecords_len (p p' : Option Addr) (c c' m n : Nat) (w : World) (h : m ≠ n) (hm : m ≤ 1000000000) (hn : n ≤ 1000000000) :
    Calls Tryz.prog 17 #[.slice p m c, .slice p' n c'] w fun e w' => e = .returned (.bool false) ∧ ∃ k, w' = w.drewN k := by
  have hne : ((m : Int) == (n : Int)) = false := beq_eq_false_iff_ne.2 (by omega)
  go_enter Tryz.func17, Tryz.ntmps17
  go_wp2
  go_ret
  exact ⟨rfl, 0, rfl⟩

set_option maxRecDepth 100000 in
set_option maxHeartbeats 1000000 in
theorem sameRecords_zero (p p' : Option Addr) (c c' : Nat) (w : World) :
    Calls Tryz.prog 17 #[.slice p 0 c, .slice p' 0 c'] w fun e w' => e = .returned (.bool true) ∧ ∃ k, w' = w.drewN k := by
  go_enter Tryz.func17, Tryz.ntmps17
  go_wp2
  go_loopw [5] (fun i wr => i = .int .i64 0 ∧ wr = w) (fun _ _ => 0)
  case atStart => exact ⟨rfl, rfl⟩
  case round =>
    obtain ⟨rfl, rfl⟩ := hrel
    go_wp2
    go_ret
    exact ⟨rfl, 0, rfl⟩

/-- sameRecords of two lists that can be read: some answer, which hangs on the memory alone; it is true of two that are alike. -/
theorem sameRecords_any (w : World) (a b : Value) (m n : Nat) {B B' : Nat} (ha : RecSlice B w a m) (hb : RecSlice B' w b n) : ∃ r, ∀ k, Calls Tryz.prog 17 #[a, b] (w.drewN k) fun e w' => e = .returned (.bool r) ∧ ∃ j, w' = (w.drewN k).drewN j := by
  obtain ⟨hm, p, c, rfl, h1⟩ := ha
  obtain ⟨hn, p', c', rfl, h2⟩ := hb
  by_cases e : m = n
  · subst e
    by_cases z : m = 0
    · subst z
      exact ⟨true, fun k => sameRecords_zero p p' c c' _⟩
    · obtain ⟨g, rfl, -, i1⟩ := h1.resolve_left z
      obtain ⟨g', rfl, -, i2⟩ := h2.resolve_left z
      obtain ⟨X, hX⟩ : ∃ X : Nat → Int, ∀ j, j < 7 * m → w.cell? ⟨g, j, none⟩ = some (.int .i64 (X j)) := ⟨fun j => if h : j < 7 * m then Classical.choose (i1.cell j h) else 0, fun j h => by simp only [dif_pos h]; exact Classical.choose_spec (i1.cell j h)⟩
      obtain ⟨Y, hY⟩ : ∃ Y : Nat → Int, ∀ j, j < 7 * m → w.cell? ⟨g', j, none⟩ = some (.int .i64 (Y j)) := ⟨fun j => if h : j < 7 * m then Classical.choose (i2.cell j h) else 0, fun j h => by simp only [dif_pos h]; exact Classical.choose_spec (i2.cell j h)⟩
      exact ⟨_, fun k => sameRecords_eq g g' c c' m X Y (w.drewN k) hm hX hY⟩
  · exact ⟨false, fun k => sameRecords_len p p' c c' m n _ e hm hn⟩

set_option maxRecDepth 100000 in
set_option maxHeartbeats 1000000 in
theorem sameStates_len (p p' : Option Addr) (c c' m n : Nat) (w : World) (h : m ≠ n) (hm : m ≤ 1000000000) (hn : n ≤ 1000000000) :
    Calls Tryz.prog 18 #[.slice p m c, .slice p' n c'] w fun e w' => e = .returned (.bool false) ∧ ∃ k, w' = w.drewN k := by
  have hne : ((m : Int) == (n : Int)) = false := beq_eq_false_iff_ne.2 (by omega)
  go_enter Tryz.func18, Tryz.ntmps18
  go_wp2
  go_ret
  exact ⟨rfl, 0, rfl⟩

set_option maxRecDepth 100000 in
set_option maxHeartbeats 1000000 in
theorem sameStates_zero (p p' : Option Addr) (c c' : Nat) (w : World) :
    Calls Tryz.prog 18 #[.slice p 0 c, .slice p' 0 c'] w fun e w' => e = .returned (.bool true) ∧ ∃ k, w' = w.drewN k := by
  go_enter Tryz.func18, Tryz.ntmps18
  go_wp2
  go_loopw [5] (fun i wr => i = .int .i64 0 ∧ wr = w) (fun _ _ => 0)
  case atStart => exact ⟨rfl, rfl⟩
  case round =>
    obtain ⟨rfl, rfl⟩ := hrel
    go_wp2
    go_ret
    exact ⟨rfl, 0, rfl⟩
theorem sameStates_any (w : World) (p p' : Option Addr) (c c' n : Nat) (hn : n ≤ 1000000000) : ∃ r, ∀ k, Calls Tryz.prog 18 #[.slice p 0 c, .slice p' n c'] (w.drewN k) fun e w' => e = .returned (.bool r) ∧ ∃ j, w' = (w.drewN k).drewN j := by
  by_cases e : 0 = n
  · subst e; exact ⟨true, fun k => sameStates_zero p p' c c' _⟩
  · exact ⟨false, fun k => sameStates_len p p' c c' 0 n _ e (by omega) hn⟩
end Go.Proofs.YtcajmohgjojhhaaGreatDoor
