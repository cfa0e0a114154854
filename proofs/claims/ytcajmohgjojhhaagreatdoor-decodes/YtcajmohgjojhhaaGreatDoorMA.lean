import Derived.WalkKit
import Derived.Test.YtcajmohgjojhhaaGreatDoorProg
import Derived.Below
import Derived.Laws.BitsLemmas
import Derived.Laws.IdiomStrings
set_option linter.unusedVariables false
set_option linter.unusedSimpArgs false
namespace Go.Proofs.YtcajmohgjojhhaaGreatDoor
open Go

/-! numbers in bytes, plainly -/
def byteOf (v : Int) : UInt8 := UInt8.ofNat (v % 256).toNat
def be : Nat → Int → List UInt8
  | 0, _ => []
  | n + 1, v => be n (v / 256) ++ [byteOf v]
theorem be_length (n : Nat) : ∀ v, (be n v).length = n := by
  induction n with
  | zero => intro v; rfl
  | succ n ih => intro v; simp [be, ih]
theorem be_cons (n : Nat) : ∀ v, be (n + 1) v = byteOf (v / 256 ^ n) :: be n v := by
  induction n with
  | zero => intro v; simp [be]
  | succ n ih =>
    intro v
    have h : v / 256 / 256 ^ n = v / 256 ^ (n + 1) := by
      rw [Int.ediv_ediv_of_nonneg (by omega), Int.pow_succ, Int.mul_comm]
    rw [be, ih, h, be]
    rfl
def val : List UInt8 → Int := List.foldl (fun v b => 256 * v + (b.toNat : Int)) 0
theorem val_snoc (l : List UInt8) (b : UInt8) : val (l ++ [b]) = 256 * val l + b.toNat := by simp [val, List.foldl_append]
theorem foldl_nonneg (l : List UInt8) : ∀ v : Int, 0 ≤ v → 0 ≤ l.foldl (fun v b => 256 * v + (b.toNat : Int)) v := by
  induction l with
  | nil => intro v h; exact h
  | cons a l ih => intro v h; exact ih (256 * v + (a.toNat : Int)) (by omega)
theorem val_nonneg (l : List UInt8) : 0 ≤ val l := foldl_nonneg l 0 (by omega)
theorem foldl_lt (l : List UInt8) : ∀ (v : Int) (k : Nat), v < 256 ^ k → l.foldl (fun v b => 256 * v + (b.toNat : Int)) v < 256 ^ (k + l.length) := by
  induction l with
  | nil => intro v k h; exact h
  | cons a l ih =>
    intro v k h
    have := ih (256 * v + a.toNat) (k + 1) (by have := a.toNat_lt; rw [Int.pow_succ]; omega)
    simpa [Nat.add_comm, Nat.add_left_comm, Nat.add_assoc] using this
theorem val_lt (l : List UInt8) : val l < 256 ^ l.length := by
  have := foldl_lt l 0 0 (by omega)
  simpa [val] using this
theorem val_lt4 (l : List UInt8) (h : l.length ≤ 4) : val l < 4294967296 := by
  have h1 := val_lt l
  have h2 : l.length = 0 ∨ l.length = 1 ∨ l.length = 2 ∨ l.length = 3 ∨ l.length = 4 := by omega
  rcases h2 with e | e | e | e | e <;> rw [e] at h1 <;> omega
theorem take_snoc' (s : ByteArray) (k : Nat) (h : k < s.size) : s.data.toList.take (k + 1) = s.data.toList.take k ++ [s[k]] := by
  rw [List.take_succ_eq_append_getElem (by simpa using h)]; rfl
theorem ba_append (l m : List UInt8) : (⟨l.toArray⟩ : ByteArray) ++ ⟨m.toArray⟩ = ⟨(l ++ m).toArray⟩ := by
  apply ByteArray.ext
  simp
theorem byteOf_add (v m : Int) : byteOf (v + 256 * m) = byteOf v := by
  unfold byteOf
  rw [Int.add_mul_emod_self_left]
theorem be_add (n : Nat) : ∀ v m : Int, be n (v + m * 256 ^ n) = be n v := by
  induction n with
  | zero => intro v m; rfl
  | succ n ih =>
    intro v m
    have e : v + m * 256 ^ (n + 1) = v + 256 * (m * 256 ^ n) := by rw [Int.pow_succ]; rw [← Int.mul_assoc, Int.mul_comm (m * 256 ^ n) 256]
    rw [be, be, e, byteOf_add, Int.add_mul_ediv_left _ _ (by omega), ih]
theorem pow_div (v : Int) (k : Nat) : v / 256 ^ k / 256 = v / 256 ^ (k + 1) := by
  rw [Int.ediv_ediv_of_nonneg (Int.pow_nonneg (by omega)), Int.pow_succ]
end Go.Proofs.YtcajmohgjojhhaaGreatDoor

namespace Go.Proofs.YtcajmohgjojhhaaGreatDoor
open Go.RowKit Go.Extern

theorem ret_int {k : IntKind} {a b : Int} (h : a = b) : Ending.returned (.int k a) = .returned (.int k b) := by rw [h]
theorem int_eq {k : IntKind} {a b : Int} (h : a = b) : Value.int k a = .int k b := by rw [h]
theorem ret_bool {a b : Bool} (h : a = b) : Ending.returned (.bool a) = .returned (.bool b) := by rw [h]

/-- pick: which of n. -/
def pickN (c n : Int) : Int := (if c < 0 then -(c + 1) else c) % n
theorem pick_bd (c n : Int) (h : 0 < n) : 0 ≤ pickN c n ∧ pickN c n < n := by
  unfold pickN; exact ⟨Int.emod_nonneg _ (by omega), Int.emod_lt_of_pos _ h⟩
set_option maxHeartbeats 400000 in
theorem pick_any (c n : Int) (w : World) (h1 : -9223372036854775808 ≤ c) (h2 : c ≤ 9223372036854775807) (h3 : 0 < n) (h4 : n ≤ 9223372036854775807) :
    Calls Tryz.prog 15 #[.int .i64 c, .int .i64 n] w fun e w' => e = .returned (.int .i64 (pickN c n)) ∧ w' = w := by
  by_cases hc : c < 0
  · go_enter Tryz.func15, Tryz.ntmps15
    go_wp2
    go_ret
    refine ⟨ret_int ?_, rfl⟩
    simp only [pickN, hc, if_true]
    rw [Int.neg_add] at *
    rw [← Int.neg_tmod, Int.tmod_eq_emod_of_nonneg (by omega)]
    congr 1; omega
  · go_enter Tryz.func15, Tryz.ntmps15
    go_wp2
    go_ret
    refine ⟨ret_int ?_, rfl⟩
    rw [pickN, if_neg (by omega)]

set_option maxHeartbeats 400000 in
theorem value_any (s : ByteArray) (w : World) (hs : s.size ≤ 4) :
    Calls Tryz.prog 44 #[.string s] w fun e w' => e = .returned (.int .i64 (val s.data.toList)) ∧ w' = w := by
  go_enter Tryz.func44, Tryz.ntmps44
  go_wp2
  go_loop [3, 4] (fun n i => ∃ k : Nat, k ≤ s.size ∧ i = .int .i64 k ∧ n = .int .i64 (val (s.data.toList.take k))) (fun _ i => s.size - (intOf i).toNat)
  case atStart => exact ⟨0, Nat.zero_le _, rfl, rfl⟩
  case round =>
    obtain ⟨k, hk, rfl, rfl⟩ := hrel
    have hl : (s.data.toList.take k).length ≤ k := List.length_take_le _ _
    have h0 := val_nonneg (s.data.toList.take k)
    have h1 := val_lt4 (s.data.toList.take k) (by omega)
    by_cases hlt : k < s.size
    · have hts := val_snoc (s.data.toList.take k) s[k]
      rw [← take_snoc' s k hlt] at hts
      have HS : Hid (val (s.data.toList.take (k + 1)) = 256 * val (s.data.toList.take k) + s[k].toNat) := hts
      clear hts
      go_wp2
      go_round
      case rel => exact ⟨k + 1, by omega, by go_num, int_eq (by rw [HS.out]; have := s[k].toNat_lt; unfold wrap64; omega)⟩
      case measure => simp [intOf]; omega
    · go_wp2
      go_ret
      exact ⟨ret_int (by rw [List.take_of_length_le (by simp; omega)]), rfl⟩

theorem or_byte (a b : Int) (h0 : 0 ≤ a) (h1 : a < 4294967296) (h2 : 0 ≤ b) (h3 : b < 256) : bits .or .i64 (a * 256) b = 256 * a + b := by
  rw [bits_join .i64 40 (by decide) (fun n h0 h1 => by simp only [IntKind.wrap, IntKind.bits, IntKind.signed]; simp; omega) 8 (a * 256) b (by omega) (by omega) (by omega) h2 (by omega) (by omega)]
  omega
theorem sub_snoc (s : ByteArray) (a k : Nat) (h : a + k < s.size) : (s.data.toList.drop a).take (k + 1) = (s.data.toList.drop a).take k ++ [s[a + k]] := by
  rw [List.take_succ_eq_append_getElem (by simp; show k < s.size - a; omega), List.getElem_drop]
  rfl

set_option maxHeartbeats 400000 in
theorem numberAt_any (s : ByteArray) (at_ width : Nat) (w : World) (hw : width ≤ 4) (ha : at_ + width ≤ s.size) (hm : s.size ≤ 1000000000) :
    Calls Tryz.prog 96 #[.string s, .int .i64 at_, .int .i64 width] w fun e w' => e = .returned (.int .i64 (val ((s.data.toList.drop at_).take width))) ∧ w' = w := by
  go_enter Tryz.func96, Tryz.ntmps96
  go_wp2
  go_loop [7, 10] (fun n i => ∃ k : Nat, k ≤ width ∧ i = .int .i64 k ∧ n = .int .i64 (val ((s.data.toList.drop at_).take k))) (fun _ i => width - (intOf i).toNat)
  case atStart => exact ⟨0, Nat.zero_le _, rfl, rfl⟩
  case round =>
    obtain ⟨k, hk, rfl, rfl⟩ := hrel
    have hl : ((s.data.toList.drop at_).take k).length ≤ k := List.length_take_le _ _
    have h0 := val_nonneg ((s.data.toList.drop at_).take k)
    have h1 := val_lt4 ((s.data.toList.drop at_).take k) (by omega)
    by_cases hlt : k < width
    · have hi : at_ + k < s.size := by omega
      go_wp2
      go_round
      case rel =>
        refine ⟨k + 1, by omega, by go_num, int_eq ?_⟩
        have hb := s[at_ + k].toNat_lt
        rw [sub_snoc s at_ k hi, val_snoc, show wrap64 (s[at_ + k].toNat : Int) = (s[at_ + k].toNat : Int) by unfold wrap64; omega]
        exact or_byte _ _ h0 h1 (by omega) (by omega)
      case measure => simp [intOf]; omega
    · go_wp2
      go_ret
      have : k = width := by omega
      subst this
      exact ⟨rfl, rfl⟩

theorem hasRoom_any (n : Int) (width : Nat) (w : World) (hw : width ≤ 4) (h1 : -9223372036854775808 ≤ n) (h2 : n ≤ 9223372036854775807) :
    Calls Tryz.prog 104 #[.int .i64 n, .int .i64 width] w fun e w' => e = .returned (.bool (decide (0 ≤ n ∧ n < 256 ^ width))) ∧ w' = w := by
  go_enter Tryz.func104, Tryz.ntmps104
  go_wp2
  go_ret
  refine ⟨ret_bool ?_, rfl⟩
  have h3 : width = 0 ∨ width = 1 ∨ width = 2 ∨ width = 3 ∨ width = 4 := by omega
  rcases h3 with rfl | rfl | rfl | rfl | rfl <;> (rw [Bool.eq_iff_iff]; simp; omega)

theorem hasSignedRoom_any (n : Int) (w : World) (h1 : -9223372036854775808 ≤ n) (h2 : n ≤ 9223372036854775807) :
    Calls Tryz.prog 103 #[.int .i64 n] w fun e w' => e = .returned (.bool (decide (-2147483648 ≤ n ∧ n < 2147483648))) ∧ w' = w := by
  go_enter Tryz.func103, Tryz.ntmps103
  go_wp2
  go_ret
  refine ⟨ret_bool ?_, rfl⟩
  rw [Bool.eq_iff_iff]
  simp only [beq_iff_eq, decide_eq_true_eq, wrap64, wrap32]
  omega
end Go.Proofs.YtcajmohgjojhhaaGreatDoor

namespace Go.Proofs.YtcajmohgjojhhaaGreatDoor
open Go.RowKit Go.Extern

/-- A text of one byte. -/
theorem conv1 (w : World) (x : Int) (h0 : 0 ≤ x) (h1 : x < 256) :
    (convert 82 9 (.slice (some ⟨w.heap.size, 0, none⟩) 1 1)).run Tryz.prog (w.alloc (.cells #[.int .u8 x] 5)) = .ok (.string ⟨#[UInt8.ofNat x.toNat]⟩) (w.alloc (.cells #[.int .u8 x] 5)) := by
  refine run_convert_bytes_back _ 82 9 5 ⟨w.heap.size, 0, none⟩ 1 [UInt8.ofNat x.toNat] Tryz.underlying82 Tryz.underlying5 Tryz.underlying9 ?_
  intro j hj
  have : j = 0 := by simpa using hj
  subst this
  simp [Addr.add]
  omega

set_option maxRecDepth 100000 in
set_option maxHeartbeats 400000 in
theorem number_any (v : Int) (n : Nat) (w : World) (hn : n ≤ 4) (h0 : 0 ≤ v) (h1 : v ≤ 9223372036854775807) :
    Calls Tryz.prog 59 #[.int .i64 v, .int .i64 n] w fun e w' => e = .returned (.string ⟨(be n v).toArray⟩) ∧ Below w.heap.size w w' := by
  go_enter Tryz.func59, Tryz.ntmps59
  go_wp2
  go_loopw [0, 5, 6] (fun x t i wr => ∃ k : Nat, k ≤ n ∧ i = .int .i64 k ∧ x = .int .i64 (v / 256 ^ k) ∧ t = .string ⟨(be k v).toArray⟩ ∧ Below w.heap.size w wr) (fun _ _ i _ => n - (intOf i).toNat)
  case atStart => exact ⟨0, Nat.zero_le _, rfl, by simp, rfl, Below.refl _ _⟩
  case round =>
    obtain ⟨k, hk, rfl, rfl, rfl, hb⟩ := hrel
    have hv0 : 0 ≤ v / 256 ^ k := Int.ediv_nonneg (by omega) (Int.pow_nonneg (by omega))
    have hv1 : v / 256 ^ k ≤ 9223372036854775807 := Int.le_trans (Int.ediv_le_self _ (by omega)) (by omega)
    have hl : (be k v).length ≤ 4 := by rw [be_length]; omega
    by_cases hlt : k < n
    · generalize hq : v / 256 ^ k = q at *
      have HQ : Hid (v / 256 ^ k = q) := hq
      clear hq
      generalize hg : be k v = l at *
      have HG : Hid (be k v = l) := hg
      clear hg
      have hcv := conv1 wr (q % 256) (by omega) (by omega)
      go_wp2
      go_roundw
      case rel =>
        refine ⟨k + 1, by omega, by go_num, int_eq ?_, ?_, hb.alloc hb.size _⟩
        · rw [← HQ.out]; exact pow_div _ _
        · rw [be_cons, HQ.out, HG.out]; exact congrArg Value.string (ba_append [_] _)
      case measure => simp [intOf]; omega
    · have : k = n := by omega
      subst this
      go_wp2
      go_ret
      exact ⟨rfl, hb⟩

set_option maxRecDepth 100000 in
set_option maxHeartbeats 400000 in
theorem number_neg (v : Int) (n : Nat) (w : World) (hn : n ≤ 4) (h0 : v < 0) (h1 : -4294967296 ≤ v) :
    Calls Tryz.prog 59 #[.int .i64 v, .int .i64 n] w fun e w' => e = .returned (.string ⟨(be n (v + 4294967296)).toArray⟩) ∧ Below w.heap.size w w' := by
  go_enter Tryz.func59, Tryz.ntmps59
  go_wp2
  go_loopw [0, 5, 6] (fun x t i wr => ∃ k : Nat, k ≤ n ∧ i = .int .i64 k ∧ x = .int .i64 ((v + 4294967296) / 256 ^ k) ∧ t = .string ⟨(be k (v + 4294967296)).toArray⟩ ∧ Below w.heap.size w wr) (fun _ _ i _ => n - (intOf i).toNat)
  case atStart => exact ⟨0, Nat.zero_le _, rfl, by simp, rfl, Below.refl _ _⟩
  case round =>
    obtain ⟨k, hk, rfl, rfl, rfl, hb⟩ := hrel
    have hv0 : 0 ≤ (v + 4294967296) / 256 ^ k := Int.ediv_nonneg (by omega) (Int.pow_nonneg (by omega))
    have hv1 : (v + 4294967296) / 256 ^ k ≤ 9223372036854775807 := Int.le_trans (Int.ediv_le_self _ (by omega)) (by omega)
    have hl : (be k (v + 4294967296)).length ≤ 4 := by rw [be_length]; omega
    by_cases hlt : k < n
    · generalize hq : (v + 4294967296) / 256 ^ k = q at *
      have HQ : Hid ((v + 4294967296) / 256 ^ k = q) := hq
      clear hq
      generalize hg : be k (v + 4294967296) = l at *
      have HG : Hid (be k (v + 4294967296) = l) := hg
      clear hg
      have hcv := conv1 wr (q % 256) (by omega) (by omega)
      go_wp2
      go_roundw
      case rel =>
        refine ⟨k + 1, by omega, by go_num, int_eq ?_, ?_, hb.alloc hb.size _⟩
        · rw [← HQ.out]; exact pow_div _ _
        · rw [be_cons, HQ.out, HG.out]; exact congrArg Value.string (ba_append [_] _)
      case measure => simp [intOf]; omega
    · have : k = n := by omega
      subst this
      go_wp2
      go_ret
      exact ⟨rfl, hb⟩

/-- A number that may be below 0, in four bytes. -/
theorem number_off (v : Int) (w : World) (h0 : -4294967296 ≤ v) (h1 : v ≤ 9223372036854775807) :
    Calls Tryz.prog 59 #[.int .i64 v, .int .i64 4] w fun e w' => e = .returned (.string ⟨(be 4 v).toArray⟩) ∧ Below w.heap.size w w' := by
  by_cases h : v < 0
  · have := number_neg v 4 w (by omega) h h0
    rw [show v + 4294967296 = v + 1 * 256 ^ 4 by omega, be_add] at this
    exact this
  · exact number_any v 4 w (by omega) (by omega) h1
end Go.Proofs.YtcajmohgjojhhaaGreatDoor

namespace Go.Proofs.YtcajmohgjojhhaaGreatDoor
open Go.RowKit Go.Extern

/-! P3, plainly -/
def terms (kind : Int) : List (Nat × Nat) :=
  if kind = 1 then [(0, 4), (1, 1), (2, 1), (3, 4), (4, 4), (5, 4), (6, 4), (7, 1), (8, 4)]
  else if kind = 2 then [(0, 4)] else if kind = 3 then [(0, 4), (3, 4), (4, 4)] else if kind = 4 then [(8, 4)] else []
theorem terms_ok (kind : Int) : ∀ p ∈ terms kind, p.1 < 9 ∧ (p.2 = 1 ∨ p.2 = 4) ∧ (p.1 = 6 → p.2 = 4) := by
  intro p hp
  unfold terms at hp
  split at hp
  · simp at hp; rcases hp with rfl | rfl | rfl | rfl | rfl | rfl | rfl | rfl | rfl <;> decide
  split at hp
  · simp at hp; rcases hp with rfl; decide
  split at hp
  · simp at hp; rcases hp with rfl | rfl | rfl <;> decide
  split at hp
  · simp at hp; rcases hp with rfl; decide
  · simp at hp
theorem terms_len (kind : Int) : (terms kind).length ≤ 9 := by
  unfold terms
  repeat' split
  all_goals decide
def fit (p : Nat × Nat) (x : Int) : Bool := if p.1 = 6 then decide (-2147483648 ≤ x ∧ x < 2147483648) else decide (0 ≤ x ∧ x < 256 ^ p.2)
def body (l : List (Nat × Nat)) (v : Nat → Int) : List UInt8 := l.flatMap fun p => be p.2 (v p.1)
theorem body_snoc (l : List (Nat × Nat)) (p : Nat × Nat) (v : Nat → Int) : body (l ++ [p]) v = body l v ++ be p.2 (v p.1) := by simp [body, List.flatMap_append]
theorem body_length (l : List (Nat × Nat)) (v : Nat → Int) (h : ∀ p ∈ l, p.2 ≤ 4) : (body l v).length ≤ 4 * l.length := by
  induction l with
  | nil => simp [body]
  | cons a l ih =>
    have h1 := ih (fun p hp => h p (List.mem_cons_of_mem _ hp))
    have h2 := h a (List.mem_cons_self ..)
    simp only [body, List.flatMap_cons, List.length_append, List.length_cons, be_length] at h1 ⊢
    omega
/-- The first that has no room. -/
def bad : List (Nat × Nat) → (Nat → Int) → Option Nat
  | [], _ => none
  | p :: l, v => if fit p (v p.1) then (bad l v).map (· + 1) else some 0
theorem bad_append (l m : List (Nat × Nat)) (v : Nat → Int) (h : bad l v = none) : bad (l ++ m) v = (bad m v).map (· + l.length) := by
  induction l with
  | nil => simp
  | cons a l ih =>
    simp only [bad] at h
    split at h
    · rename_i hf
      have h' : bad l v = none := by simpa using h
      rw [List.cons_append, bad, if_pos hf, ih h', Option.map_map]
      congr 1
    · cases h
def encRes (kind : Int) (v : Nat → Int) : List UInt8 × Int × Int :=
  if 1 ≤ kind ∧ kind ≤ 5 then
    match bad (terms kind) v with
    | some i => ([], 3, i)
    | none => (byteOf ((body (terms kind) v).length + 1) :: byteOf kind :: body (terms kind) v, 0, -1)
  else ([], 2, -1)

/-- A list of ints, in a row of its own. -/
def IntsAt (w : World) (v : Value) (l : List Int) : Prop :=
  (v = .slice none 0 0 ∧ l = []) ∨ ∃ b, v = .slice (some ⟨b, 0, none⟩) l.length l.length ∧ l ≠ [] ∧ ∀ i (h : i < l.length), w.cell? ⟨b, i, none⟩ = some (.int .i64 l[i])
theorem IntsAt.below {w w' : World} {v : Value} {l : List Int} (h : IntsAt w v l) (hb : Below w.heap.size w w') : IntsAt w' v l := by
  rcases h with h | ⟨b, h1, h2, h3⟩
  · exact .inl h
  · exact .inr ⟨b, h1, h2, fun i hi => (hb.cell (p := ⟨b, i, none⟩) (by have := h3 i hi; rcases Nat.lt_or_ge b w.heap.size with q | q; exact q; simp [World.cell?, Array.getElem?_eq_none q] at this)).trans (h3 i hi)⟩

def whichs (kind : Int) : List Int := (terms kind).map fun p => (p.1 : Int)
def widths (kind : Int) : List Int := (terms kind).map fun p => (p.2 : Int)

theorem ints_cells (w : World) (t : TypeId) (l : List Int) (c : Array Value) (hc : c = (l.map (Value.int .i64)).toArray) (i : Nat) (h : i < l.length) : (w.alloc (.cells c t)).cell? ⟨w.heap.size, i, none⟩ = some (.int .i64 l[i]) := by
  subst hc
  rw [World.cell?_alloc_new]
  simp [h]
theorem ints_cells2 (w : World) (t : TypeId) (l : List Int) (c : Array Value) (o : Obj) (hc : c = (l.map (Value.int .i64)).toArray) (i : Nat) (h : i < l.length) : ((w.alloc (.cells c t)).alloc o).cell? ⟨w.heap.size, i, none⟩ = some (.int .i64 l[i]) := by
  rw [World.cell?_alloc_lt _ _ _ (by simp)]
  exact ints_cells w t l c hc i h
theorem ints_cells3 (w : World) (t : TypeId) (l : List Int) (c : Array Value) (o : Obj) (hc : c = (l.map (Value.int .i64)).toArray) (i : Nat) (h : i < l.length) : ((w.alloc o).alloc (.cells c t)).cell? ⟨w.heap.size + 1, i, none⟩ = some (.int .i64 l[i]) := by
  have := ints_cells (w.alloc o) t l c hc i h
  simpa using this

/-- A row of one's own, from a block on. -/
def Fresh (B : Nat) (v : Value) : Prop := ∀ b o l c, v = .slice (some ⟨b, o, none⟩) l c → B ≤ b
theorem fresh_at {B b o l c : Nat} (h : B ≤ b) : Fresh B (.slice (some ⟨b, o, none⟩) l c) := fun b' o' l' c' e => by
  injection e with e1
  injection e1 with e2
  injection e2 with e3
  omega
theorem fresh_nil {B l c : Nat} : Fresh B (.slice none l c) := fun b' o' l' c' e => by
  injection e with e1
  cases e1

set_option maxHeartbeats 1000000 in
theorem layout_any' (kind : Int) (w : World) :
    Calls Tryz.prog 43 #[.int .i64 kind] w fun e w' => ∃ a b, e = .returned (.tuple #[a, b]) ∧ IntsAt w' a (whichs kind) ∧ IntsAt w' b (widths kind) ∧ Below w.heap.size w w' ∧ Fresh w.heap.size a ∧ Fresh w.heap.size b := by
  by_cases h1 : kind = 1
  · subst h1
    go_enter Tryz.func43, Tryz.ntmps43
    go_wp2
    go_ret2
    exact ⟨_, _, rfl, .inr ⟨_, rfl, by decide, fun i hi => ints_cells2 _ _ _ _ _ rfl i hi⟩, .inr ⟨_, rfl, by decide, fun i hi => ints_cells3 _ _ _ _ _ rfl i hi⟩, ((Below.refl _ _).alloc (Nat.le_refl _) _).alloc (by simp) _, fresh_at (Nat.le_refl _), fresh_at (by simp)⟩
  by_cases h2 : kind = 2
  · subst h2
    go_enter Tryz.func43, Tryz.ntmps43
    go_wp2
    go_ret2
    exact ⟨_, _, rfl, .inr ⟨_, rfl, by decide, fun i hi => ints_cells2 _ _ _ _ _ rfl i hi⟩, .inr ⟨_, rfl, by decide, fun i hi => ints_cells3 _ _ _ _ _ rfl i hi⟩, ((Below.refl _ _).alloc (Nat.le_refl _) _).alloc (by simp) _, fresh_at (Nat.le_refl _), fresh_at (by simp)⟩
  by_cases h3 : kind = 3
  · subst h3
    go_enter Tryz.func43, Tryz.ntmps43
    go_wp2
    go_ret2
    exact ⟨_, _, rfl, .inr ⟨_, rfl, by decide, fun i hi => ints_cells2 _ _ _ _ _ rfl i hi⟩, .inr ⟨_, rfl, by decide, fun i hi => ints_cells3 _ _ _ _ _ rfl i hi⟩, ((Below.refl _ _).alloc (Nat.le_refl _) _).alloc (by simp) _, fresh_at (Nat.le_refl _), fresh_at (by simp)⟩
  by_cases h4 : kind = 4
  · subst h4
    go_enter Tryz.func43, Tryz.ntmps43
    go_wp2
    go_ret2
    exact ⟨_, _, rfl, .inr ⟨_, rfl, by decide, fun i hi => ints_cells2 _ _ _ _ _ rfl i hi⟩, .inr ⟨_, rfl, by decide, fun i hi => ints_cells3 _ _ _ _ _ rfl i hi⟩, ((Below.refl _ _).alloc (Nat.le_refl _) _).alloc (by simp) _, fresh_at (Nat.le_refl _), fresh_at (by simp)⟩
  have g1 : (kind == 1) = false := beq_eq_false_iff_ne.2 h1
  have g2 : (kind == 2) = false := beq_eq_false_iff_ne.2 h2
  have g3 : (kind == 3) = false := beq_eq_false_iff_ne.2 h3
  have g4 : (kind == 4) = false := beq_eq_false_iff_ne.2 h4
  have e : terms kind = [] := by simp [terms, h1, h2, h3, h4]
  have HE : Hid (terms kind = []) := e
  clear e h1 h2 h3 h4
  go_enter Tryz.func43, Tryz.ntmps43
  go_wp2
  go_ret2
  exact ⟨_, _, rfl, .inl ⟨rfl, by rw [whichs, HE.out]; rfl⟩, .inl ⟨rfl, by rw [widths, HE.out]; rfl⟩, Below.refl _ _, fresh_nil, fresh_nil⟩
theorem layout_any (kind : Int) (w : World) :
    Calls Tryz.prog 43 #[.int .i64 kind] w fun e w' => ∃ a b, e = .returned (.tuple #[a, b]) ∧ IntsAt w' a (whichs kind) ∧ IntsAt w' b (widths kind) ∧ Below w.heap.size w w' := by
  refine (layout_any' kind w).mono ?_
  rintro e w' ⟨a, b, h1, h2, h3, h4, -⟩
  exact ⟨a, b, h1, h2, h3, h4⟩
end Go.Proofs.YtcajmohgjojhhaaGreatDoor

namespace Go.Proofs.YtcajmohgjojhhaaGreatDoor
open Go.RowKit Go.Extern

/-- The cells of nine numbers. -/
abbrev nine9 (v : Nat → Int) : List Value := [.int .i64 (v 0), .int .i64 (v 1), .int .i64 (v 2), .int .i64 (v 3), .int .i64 (v 4), .int .i64 (v 5), .int .i64 (v 6), .int .i64 (v 7), .int .i64 (v 8)]
theorem cmd_cell (w : World) (t : TypeId) (kind : Int) (v : Nat → Int) (j : Nat) (hj : j < 9) :
    (w.alloc (.cells #[.int .i64 kind, .int .i64 (v 0), .int .i64 (v 1), .int .i64 (v 2), .int .i64 (v 3), .int .i64 (v 4), .int .i64 (v 5), .int .i64 (v 6), .int .i64 (v 7), .int .i64 (v 8)] t)).cell? ⟨w.heap.size, 1 + j, none⟩ = some (.int .i64 (v j)) := by
  have h : j = 0 ∨ j = 1 ∨ j = 2 ∨ j = 3 ∨ j = 4 ∨ j = 5 ∨ j = 6 ∨ j = 7 ∨ j = 8 := by omega
  rcases h with rfl | rfl | rfl | rfl | rfl | rfl | rfl | rfl | rfl <;> simp
theorem lt_of_cell' {w : World} {a : Addr} {v : Value} (h : w.cell? a = some v) : a.block < w.heap.size := by
  rcases Nat.lt_or_ge a.block w.heap.size with h' | h'
  · exact h'
  · simp [World.cell?, Array.getElem?_eq_none h'] at h
theorem pow1 : (256 : Int) ^ 1 = 256 := rfl
theorem pow4 : (256 : Int) ^ 4 = 4294967296 := rfl
theorem fit1 (pa : Nat) (h : pa ≠ 6) (x : Int) : fit (pa, 1) x = decide (0 ≤ x ∧ x < 256) := by unfold fit; rw [if_neg h]; exact decide_eq_decide.2 Iff.rfl
theorem fit4 (pa : Nat) (h : pa ≠ 6) (x : Int) : fit (pa, 4) x = decide (0 ≤ x ∧ x < 4294967296) := by unfold fit; rw [if_neg h]; exact decide_eq_decide.2 Iff.rfl
theorem ret3 {a a' : ByteArray} {b b' c c' : Int} (h1 : a = a') (h2 : b = b') (h3 : c = c') : Ending.returned (.tuple #[.string a, .int .i64 b, .int .i64 c]) = .returned (.tuple #[.string a', .int .i64 b', .int .i64 c']) := by subst h1 h2 h3; rfl
theorem bad_take (l : List (Nat × Nat)) (k : Nat) (h : k < l.length) (v : Nat → Int) (hb : bad (l.take k) v = none) : (fit l[k] (v l[k].1) = true → bad (l.take (k + 1)) v = none) ∧ (fit l[k] (v l[k].1) = false → bad l v = some k) := by
  constructor
  · intro hf
    rw [List.take_succ_eq_append_getElem h, bad_append _ _ _ hb]
    simp [bad, hf]
  · intro hf
    have e : l = l.take k ++ l[k] :: l.drop (k + 1) := by rw [← List.drop_eq_getElem_cons h, List.take_append_drop]
    rw [e, bad_append _ _ _ hb]
    simp [bad, hf]
    omega

set_option maxRecDepth 100000 in
set_option maxHeartbeats 4000000 in
theorem refEncode_any (kind : Int) (v : Nat → Int) (w : World) (hv : ∀ i, i < 9 → -9223372036854775808 ≤ v i ∧ v i ≤ 9223372036854775807) :
    Calls Tryz.prog 39 #[.agg #[.int .i64 kind, .int .i64 (v 0), .int .i64 (v 1), .int .i64 (v 2), .int .i64 (v 3), .int .i64 (v 4), .int .i64 (v 5), .int .i64 (v 6), .int .i64 (v 7), .int .i64 (v 8)]] w fun e w' =>
      e = .returned (.tuple #[.string ⟨(encRes kind v).1.toArray⟩, .int .i64 (encRes kind v).2.1, .int .i64 (encRes kind v).2.2]) ∧ Below w.heap.size w w' := by
  have HV : Hid (∀ i, i < 9 → -9223372036854775808 ≤ v i ∧ v i ≤ 9223372036854775807) := hv
  clear hv
  by_cases hk : 1 ≤ kind ∧ kind ≤ 5
  · have hcmd := cmd_cell w 57 kind v
    have HC : Hid (∀ j, j < 9 → (w.alloc (.cells #[.int .i64 kind, .int .i64 (v 0), .int .i64 (v 1), .int .i64 (v 2), .int .i64 (v 3), .int .i64 (v 4), .int .i64 (v 5), .int .i64 (v 6), .int .i64 (v 7), .int .i64 (v 8)] 57)).cell? ⟨w.heap.size, 1 + j, none⟩ = some (.int .i64 (v j))) := hcmd
    clear hcmd
    have hk0 : (w.alloc (.cells #[.int .i64 kind, .int .i64 (v 0), .int .i64 (v 1), .int .i64 (v 2), .int .i64 (v 3), .int .i64 (v 4), .int .i64 (v 5), .int .i64 (v 6), .int .i64 (v 7), .int .i64 (v 8)] 57)).cell? ⟨w.heap.size, 0, none⟩ = some (.int .i64 kind) := by simp
    have hB1 : Below w.heap.size w (w.alloc (.cells #[.int .i64 kind, .int .i64 (v 0), .int .i64 (v 1), .int .i64 (v 2), .int .i64 (v 3), .int .i64 (v 4), .int .i64 (v 5), .int .i64 (v 6), .int .i64 (v 7), .int .i64 (v 8)] 57)) := (Below.refl _ _).alloc (Nat.le_refl _) _
    obtain ⟨hk1, hk2⟩ := hk
    go_enter Tryz.func39, Tryz.ntmps39
    go_wp2_with fail
    refine (layout_any kind _).mono ?_
    rintro e w2 ⟨a, b, rfl, hia, hib, hb2⟩
    have hk02 := (hb2.cell (p := ⟨w.heap.size, 0, none⟩) (by simp)).trans hk0
    go_wp2_with fail
    refine (number_any kind 1 _ (by omega) (by omega) (by omega)).mono ?_
    rintro e w3 ⟨rfl, hb3⟩
    have hia3 := hia.below hb3
    have hib3 := hib.below hb3
    have HC3 : Hid (∀ j, j < 9 → w3.cell? ⟨w.heap.size, 1 + j, none⟩ = some (.int .i64 (v j))) := fun j hj => (hb3.cell (p := ⟨w.heap.size, 1 + j, none⟩) (by have := hb2.size; simp at this; show w.heap.size < w2.heap.size; omega)).trans ((hb2.cell (p := ⟨w.heap.size, 1 + j, none⟩) (by simp)).trans (HC.out j hj))
    have hs3 : w.heap.size < w3.heap.size := by have := hb2.size; have := hb3.size; simp at *; omega
    have HB3 : Hid (Below w.heap.size w w3) := (hB1.trans (hb2.mono (by simp))).trans (hb3.mono (by have := hb2.size; simp at this; omega))
    clear hk0 hk02 hB1 hb2 hb3 hia hib HC
    have hlen : (whichs kind).length = (terms kind).length := by simp [whichs]
    have hlen' : (widths kind).length = (terms kind).length := by simp [widths]
    have hn9 := terms_len kind
    rcases hia3 with ⟨rfl, hnil⟩ | ⟨ba, rfl, hne, hca⟩
    · have ht : terms kind = [] := by simpa [whichs] using hnil
      have HT : Hid (encRes kind v = ([1, byteOf kind], 0, -1)) := by
        show encRes kind v = _
        rw [encRes, if_pos ⟨hk1, hk2⟩, ht]; rfl
      clear hnil ht hlen hlen' hn9
      go_wp2_with fail
      refine wp_loop_rounds 1 ?_
      rw [rounds_succ]
      go_wp2_with fail
      refine (number_any 1 1 _ (by omega) (by omega) (by omega)).mono ?_
      rintro e w4 ⟨rfl, hb4⟩
      go_wp2
      go_ret3
      refine ⟨?_, HB3.out.trans (hb4.mono (Nat.le_of_lt hs3))⟩
      rw [HT.out]
      exact ret3 (ba_append [_] [_]) rfl rfl
    · rcases hib3 with ⟨rfl, hnil⟩ | ⟨bb, rfl, -, hcb⟩
      · exact absurd (by have : terms kind = [] := by simpa [widths] using hnil
                         simp [whichs, this]) hne
      rw [hlen, hlen']
      have HA : Hid (∀ i (h : i < (whichs kind).length), w3.cell? ⟨ba, i, none⟩ = some (.int .i64 (whichs kind)[i])) := hca
      have HBB : Hid (∀ i (h : i < (widths kind).length), w3.cell? ⟨bb, i, none⟩ = some (.int .i64 (widths kind)[i])) := hcb
      clear hca hcb hne
      have HL : Hid ((whichs kind).length = (terms kind).length) := hlen
      have HL' : Hid ((widths kind).length = (terms kind).length) := hlen'
      clear hlen hlen'
      generalize hN : (terms kind).length = n at *
      have HN : Hid ((terms kind).length = n) := hN
      clear hN
      go_wp2_with fail
      go_loopw [7, 8] (fun t i wr => ∃ k : Nat, k ≤ n ∧ i = .int .i64 k ∧ t = .string ⟨(byteOf kind :: body ((terms kind).take k) v).toArray⟩ ∧ bad ((terms kind).take k) v = none ∧ Below w3.heap.size w3 wr) (fun _ i _ => n - (intOf i).toNat)
      case atStart => exact ⟨0, Nat.zero_le _, rfl, rfl, rfl, Below.refl _ _⟩
      case round =>
        obtain ⟨k, hkn, rfl, rfl, hbad, hb⟩ := hrel
        have hbl : (body ((terms kind).take k) v).length ≤ 36 := by
          have h1 := body_length ((terms kind).take k) v (fun p hp => by have := terms_ok kind p (List.mem_of_mem_take hp); omega)
          have h2 : ((terms kind).take k).length ≤ 9 := by rw [List.length_take]; omega
          omega
        have HBAD : Hid (bad ((terms kind).take k) v = none) := hbad
        clear hbad
        by_cases hlt : k < n
        · have hkt : k < (terms kind).length := by rw [HN.out]; exact hlt
          have hok := terms_ok kind _ (List.getElem_mem hkt)
          have hbt := bad_take (terms kind) k hkt v HBAD.out
          have hts : body ((terms kind).take (k + 1)) v = body ((terms kind).take k) v ++ be (terms kind)[k].2 (v (terms kind)[k].1) := by
            rw [List.take_succ_eq_append_getElem hkt, body_snoc]
          have hca := (hb.cell (p := ⟨ba, k, none⟩) (lt_of_cell' (HA.out k (by rw [HL.out]; exact hlt)))).trans (HA.out k (by rw [HL.out]; exact hlt))
          have hcb := (hb.cell (p := ⟨bb, k, none⟩) (lt_of_cell' (HBB.out k (by rw [HL'.out]; exact hlt)))).trans (HBB.out k (by rw [HL'.out]; exact hlt))
          simp only [whichs, widths, List.getElem_map] at hca hcb
          generalize hp : (terms kind)[k] = p at *
          obtain ⟨pa, pb⟩ := p
          obtain ⟨hp1, hp2, hp3⟩ := hok
          simp only at hp1 hp2 hp3 hca hcb hbt hts
          have hx := (hb.cell (p := ⟨w.heap.size, 1 + pa, none⟩) hs3).trans (HC3.out pa hp1)
          have hr := HV.out pa hp1
          have HTS : Hid (body ((terms kind).take (k + 1)) v = body ((terms kind).take k) v ++ be pb (v pa)) := hts
          have HBT : Hid ((fit (pa, pb) (v pa) = true → bad ((terms kind).take (k + 1)) v = none) ∧ (fit (pa, pb) (v pa) = false → bad (terms kind) v = some k)) := hbt
          clear hts hbt hp hkt
          generalize hgl : body ((terms kind).take k) v = l at *
          have HGL : Hid (body ((terms kind).take k) v = l) := hgl
          clear hgl
          generalize hgx : v pa = x at *
          have hpz : (0 : Int) ≤ (pa : Int) ∧ (pa : Int) < 9 := by omega
          obtain ⟨hr1, hr2⟩ := hr
          have HGX : Hid (v pa = x) := hgx
          clear hgx
          by_cases h6 : pa = 6
          · have h4 : pb = 4 := hp3 h6
            subst h6 h4
            clear hp2 hp3
            by_cases hlo : x < (-2147483648)
            · have hf := HBT.out.2 (by simp [fit]; omega)
              have HR : Hid (encRes kind v = ([], 3, (k : Int))) := by
                show encRes kind v = _
                rw [encRes, if_pos ⟨hk1, hk2⟩, hf]
              clear hf
              go_wp2
              go_ret3
              refine ⟨?_, HB3.out.trans (hb.mono (Nat.le_of_lt hs3))⟩
              rw [HR.out]
              exact ret3 rfl rfl rfl
            by_cases hhi : 2147483647 < x
            · have hf := HBT.out.2 (by simp [fit]; omega)
              have HR : Hid (encRes kind v = ([], 3, (k : Int))) := by
                show encRes kind v = _
                rw [encRes, if_pos ⟨hk1, hk2⟩, hf]
              clear hf
              go_wp2
              go_ret3
              refine ⟨?_, HB3.out.trans (hb.mono (Nat.le_of_lt hs3))⟩
              rw [HR.out]
              exact ret3 rfl rfl rfl
            have hf := HBT.out.1 (by simp [fit]; omega)
            have HF : Hid (bad ((terms kind).take (k + 1)) v = none) := hf
            clear hf
            go_wp2_with fail
            refine (number_off x _ (by omega) (by omega)).mono ?_
            rintro e w4 ⟨rfl, hb4⟩
            have hl4 : (be 4 x).length ≤ 4 := by rw [be_length]; omega
            generalize hg4 : be 4 x = l4 at *
            have HG4 : Hid (be 4 x = l4) := hg4
            clear hg4
            go_wp2
            go_roundw
            case rel =>
              refine ⟨k + 1, by omega, by go_num, ?_, HF.out, hb.trans (hb4.mono hb.size)⟩
              rw [HTS.out]
              exact congrArg Value.string (ba_append (_ :: _) _)
            case measure => simp [intOf]; omega
          · have g6 : ((pa : Int) == 6) = false := beq_eq_false_iff_ne.2 (by omega)
            rcases hp2 with h4 | h4
            · subst h4
              clear hp3
              by_cases hlo : x < 0
              · have hf := HBT.out.2 (by rw [fit1 _ h6]; simp; omega)
                have HR : Hid (encRes kind v = ([], 3, (k : Int))) := by
                  show encRes kind v = _
                  rw [encRes, if_pos ⟨hk1, hk2⟩, hf]
                clear hf
                go_wp2
                go_ret3
                refine ⟨?_, HB3.out.trans (hb.mono (Nat.le_of_lt hs3))⟩
                rw [HR.out]
                exact ret3 rfl rfl rfl
              by_cases hhi : 255 < x
              · have hf := HBT.out.2 (by rw [fit1 _ h6]; simp; omega)
                have HR : Hid (encRes kind v = ([], 3, (k : Int))) := by
                  show encRes kind v = _
                  rw [encRes, if_pos ⟨hk1, hk2⟩, hf]
                clear hf
                go_wp2
                go_ret3
                refine ⟨?_, HB3.out.trans (hb.mono (Nat.le_of_lt hs3))⟩
                rw [HR.out]
                exact ret3 rfl rfl rfl
              have hf := HBT.out.1 (by rw [fit1 _ h6]; simp; omega)
              have HF : Hid (bad ((terms kind).take (k + 1)) v = none) := hf
              clear hf
              go_wp2_with fail
              refine (number_any x 1 _ (by omega) (by omega) (by omega)).mono ?_
              rintro e w4 ⟨rfl, hb4⟩
              have hl4 : (be 1 x).length ≤ 4 := by rw [be_length]; omega
              generalize hg4 : be 1 x = l4 at *
              have HG4 : Hid (be 1 x = l4) := hg4
              clear hg4
              go_wp2
              go_roundw
              case rel =>
                refine ⟨k + 1, by omega, by go_num, ?_, HF.out, hb.trans (hb4.mono hb.size)⟩
                rw [HTS.out]
                exact congrArg Value.string (ba_append (_ :: _) _)
              case measure => simp [intOf]; omega
            · subst h4
              clear hp3
              by_cases hlo : x < 0
              · have hf := HBT.out.2 (by rw [fit4 _ h6]; simp; omega)
                have HR : Hid (encRes kind v = ([], 3, (k : Int))) := by
                  show encRes kind v = _
                  rw [encRes, if_pos ⟨hk1, hk2⟩, hf]
                clear hf
                go_wp2
                go_ret3
                refine ⟨?_, HB3.out.trans (hb.mono (Nat.le_of_lt hs3))⟩
                rw [HR.out]
                exact ret3 rfl rfl rfl
              by_cases hhi : 4294967295 < x
              · have hf := HBT.out.2 (by rw [fit4 _ h6]; simp; omega)
                have HR : Hid (encRes kind v = ([], 3, (k : Int))) := by
                  show encRes kind v = _
                  rw [encRes, if_pos ⟨hk1, hk2⟩, hf]
                clear hf
                go_wp2
                go_ret3
                refine ⟨?_, HB3.out.trans (hb.mono (Nat.le_of_lt hs3))⟩
                rw [HR.out]
                exact ret3 rfl rfl rfl
              have hf := HBT.out.1 (by rw [fit4 _ h6]; simp; omega)
              have HF : Hid (bad ((terms kind).take (k + 1)) v = none) := hf
              clear hf
              go_wp2_with fail
              refine (number_any x 4 _ (by omega) (by omega) (by omega)).mono ?_
              rintro e w4 ⟨rfl, hb4⟩
              have hl4 : (be 4 x).length ≤ 4 := by rw [be_length]; omega
              generalize hg4 : be 4 x = l4 at *
              have HG4 : Hid (be 4 x = l4) := hg4
              clear hg4
              go_wp2
              go_roundw
              case rel =>
                refine ⟨k + 1, by omega, by go_num, ?_, HF.out, hb.trans (hb4.mono hb.size)⟩
                rw [HTS.out]
                exact congrArg Value.string (ba_append (_ :: _) _)
              case measure => simp [intOf]; omega
        · have hkn' : k = n := by omega
          subst hkn'
          have htk : (terms kind).take k = terms kind := List.take_of_length_le (by rw [HN.out]; omega)
          have HR : Hid (encRes kind v = (byteOf ((body (terms kind) v).length + 1) :: byteOf kind :: body (terms kind) v, 0, -1)) := by
            show encRes kind v = _
            have := HBAD.out
            rw [htk] at this
            rw [encRes, if_pos ⟨hk1, hk2⟩, this]
          rw [htk] at hbl ⊢
          clear htk
          generalize hgl : body (terms kind) v = l at *
          clear hgl
          go_wp2_with fail
          refine (number_any ((l.length : Int) + 1) 1 _ (by omega) (by omega) (by omega)).mono ?_
          rintro e w4 ⟨rfl, hb4⟩
          have hl4 : (be 1 ((l.length : Int) + 1)).length ≤ 4 := by rw [be_length]; omega
          generalize hg4 : be 1 ((l.length : Int) + 1) = l4 at *
          have HG4 : Hid (be 1 ((l.length : Int) + 1) = l4) := hg4
          clear hg4
          go_wp2
          go_ret3
          refine ⟨?_, HB3.out.trans ((hb.trans (hb4.mono hb.size)).mono (Nat.le_of_lt hs3))⟩
          rw [HR.out]
          refine ret3 ?_ rfl rfl
          rw [← HG4.out]
          exact ba_append [_] (_ :: _)
  · have HT : Hid (encRes kind v = ([], 2, -1)) := by
      show encRes kind v = _
      rw [encRes, if_neg hk]
    have hk' : kind < 1 ∨ 5 < kind := by omega
    clear hk
    rcases hk' with hk' | hk'
    all_goals
      go_enter Tryz.func39, Tryz.ntmps39
      go_wp2
      go_ret3
      refine ⟨?_, (Below.refl _ _).alloc (Nat.le_refl _) _⟩
      rw [HT.out]
      exact ret3 rfl rfl rfl
end Go.Proofs.YtcajmohgjojhhaaGreatDoor
