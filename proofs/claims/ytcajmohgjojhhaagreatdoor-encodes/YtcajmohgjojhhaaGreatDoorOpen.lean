import Derived.Test.YtcajmohgjojhhaaGreatDoorPlays
import Derived.Deep.Slices
import Derived.ChangeSame
import Derived.OpenShut
import Derived.SizedLaws
set_option linter.unusedVariables false
set_option linter.unusedSimpArgs false
namespace Go.Proofs.YtcajmohgjojhhaaGreatDoor
open Go.ChangeShapes Go.WideShapes Go.RowKit Go.Deep

section
variable {H : Type} {enc : TypeId × Value → H} {w : World} {base : Nat} {spare : Nat → Bool} {held : Bool}

theorem Tryz.opFields : (Tryz.prog.fieldsOf 28).toList.map (fun f => (f.type, f.offset)) = [(3, 0), (3, 1), (3, 2), (3, 3), (9, 4), (26, 5)] := by kernel_rfl
theorem Tryz.opStruct : Tryz.prog.underlying 28 = some (.struct (Tryz.prog.fieldsOf 28)) := by kernel_rfl
theorem Tryz.cells3 : Tryz.prog.cellsOf 3 = 1 := by kernel_rfl
theorem Tryz.cellsS : Tryz.prog.cellsOf 9 = 1 := by kernel_rfl
theorem Tryz.cells9 : Tryz.prog.cellsOf 26 = 9 := by kernel_rfl
theorem Tryz.cellsOp : Tryz.prog.cellsOf 28 = 14 := by kernel_rfl
theorem Tryz.und9 : Tryz.prog.underlying 26 = some (.array 9 3) := by kernel_rfl

theorem wf_i64 {n : Int} (h : (Lit.int .i64 n).wf = true) : -9223372036854775808 ≤ n ∧ n ≤ 9223372036854775807 := by
  simp [Lit.wf, IntKind.min, IntKind.max, IntKind.bits, IntKind.signed] at h
  exact h

/-- One cell that reads as a number. -/
theorem int_at {n : Nat} {cs : List Value} {o : Nat} {y : Option (DataW H × List MemPlace)} (h : DataW.trod enc Tryz.prog w base spare held n 3 ((cs.drop o).take 1) = y) (hy : y.isSome = true) : ∃ x, cs[o]? = some (.int .i64 x) ∧ I64 x := by
  obtain ⟨y', rfl⟩ := Option.isSome_iff_exists.1 hy
  obtain ⟨x, h1, _, h2⟩ := DataW.trod_int Tryz.underlying3 h
  exact ⟨x, cell_of_cut h1, wf_i64 h2⟩

/-- A step, out of its fourteen cells. -/
theorem op_open {n : Nat} {cs : List Value} {y : DataW H × List MemPlace} (h : DataW.trod enc Tryz.prog w base spare held n 28 cs = some y) :
    ∃ (k a b d : Int) (s : ByteArray) (v : Nat → Int), cs[0]? = some (.int .i64 k) ∧ cs[1]? = some (.int .i64 a) ∧ cs[2]? = some (.int .i64 b) ∧ cs[3]? = some (.int .i64 d) ∧ cs[4]? = some (.string s) ∧ (∀ j, j < 9 → cs[5 + j]? = some (.int .i64 (v j)) ∧ I64 (v j)) ∧ I64 a ∧ I64 b ∧ s.size ≤ maxLen ∧ ∃ ds, y.1 = .agg ds ∧ ds[4]? = some (.lit (.string s.data.toList)) := by
  obtain ⟨xs, m, -, hy, hlen, hxl, hf⟩ := DataW.trod_struct Tryz.opStruct h
  have hfs := Tryz.opFields
  generalize Tryz.prog.fieldsOf 28 = fs at *
  have hsz : fs.size = 6 := by
    have := congrArg List.length hfs
    simpa using this
  have hget : ∀ j, j < 6 → ∃ f, fs[j]? = some f ∧ (fs.toList.map (fun f => (f.type, f.offset)))[j]? = some (f.type, f.offset) := fun j hj => by
    have hj' : j < fs.size := by omega
    exact ⟨fs[j], Array.getElem?_eq_getElem hj', by simp [hj']⟩
  have hx : ∀ j, j < 6 → (xs[j]?).isSome = true := fun j hj => by
    rw [List.getElem?_eq_getElem (by omega)]
    rfl
  obtain ⟨f0, p0, q0⟩ := hget 0 (by omega)
  obtain ⟨f1, p1, q1⟩ := hget 1 (by omega)
  obtain ⟨f2, p2, q2⟩ := hget 2 (by omega)
  obtain ⟨f3, p3, q3⟩ := hget 3 (by omega)
  obtain ⟨f4, p4, q4⟩ := hget 4 (by omega)
  obtain ⟨f5, p5, q5⟩ := hget 5 (by omega)
  rw [hfs] at q0 q1 q2 q3 q4 q5
  simp only [List.getElem?_cons_zero, List.getElem?_cons_succ, Option.some.injEq, Prod.mk.injEq] at q0 q1 q2 q3 q4 q5
  have g0 := hf 0 f0 p0
  have g1 := hf 1 f1 p1
  have g2 := hf 2 f2 p2
  have g3 := hf 3 f3 p3
  have g4 := hf 4 f4 p4
  have g5 := hf 5 f5 p5
  rw [← q0.1, ← q0.2, Tryz.cells3] at g0
  rw [← q1.1, ← q1.2, Tryz.cells3] at g1
  rw [← q2.1, ← q2.2, Tryz.cells3] at g2
  rw [← q3.1, ← q3.2, Tryz.cells3] at g3
  rw [← q4.1, ← q4.2, Tryz.cellsS] at g4
  rw [← q5.1, ← q5.2, Tryz.cells9] at g5
  obtain ⟨k, k1, _⟩ := int_at g0 (hx 0 (by omega))
  obtain ⟨a, a1, a2⟩ := int_at g1 (hx 1 (by omega))
  obtain ⟨b, b1, b2⟩ := int_at g2 (hx 2 (by omega))
  obtain ⟨d, d1, _⟩ := int_at g3 (hx 3 (by omega))
  obtain ⟨y4, e4⟩ := Option.isSome_iff_exists.1 (hx 4 (by omega))
  rw [e4] at g4
  obtain ⟨s, s1, s3, s2⟩ := DataW.trod_string Tryz.underlying9 g4
  obtain ⟨y5, e5⟩ := Option.isSome_iff_exists.1 (hx 5 (by omega))
  rw [e5] at g5
  obtain ⟨zs, m2, -, -, hzc, hzl, hz⟩ := DataW.trod_array Tryz.und9 g5
  rw [Tryz.cells3] at hz
  have each : ∀ j, j < 9 → ∃ x, cs[5 + j]? = some (.int .i64 x) ∧ I64 x := fun j hj => by
    have hzj := hz j hj
    rw [Nat.mul_one] at hzj
    obtain ⟨x, x1, x2⟩ := int_at hzj (by rw [List.getElem?_eq_getElem (by omega)]; rfl)
    refine ⟨x, ?_, x2⟩
    rw [List.getElem?_take_of_lt hj, List.getElem?_drop] at x1
    exact x1
  obtain ⟨v, hv⟩ := choose_lt each
  exact ⟨k, a, b, d, s, v, k1, a1, b1, d1, cell_of_cut s1, hv, a2, b2, s2, xs.map (·.1), by rw [hy], by rw [List.getElem?_map, e4, s3]; rfl⟩

theorem weightsAll_mem {P : Program} {e : TypeId} : ∀ {l : List (DataW H)} {d : DataW H}, d ∈ l → ∀ n ∈ d.weights P e, n ∈ DataW.weightsAll P e l
  | x :: r, d, h, n, hn => by
    rw [DataW.weightsAll]
    rcases List.mem_cons.1 h with rfl | h
    · exact List.mem_append_left _ hn
    · exact List.mem_append_right _ (weightsAll_mem h n hn)
theorem Tryz.opTypes : ((Tryz.prog.fieldsOf 28).toList.map (·.type))[4]? = some 9 := by kernel_rfl
theorem Tryz.opBytes' : decide (0 < Tryz.prog.bytesOf 28) = true := by kernel_rfl
theorem Tryz.opBytes : 0 < Tryz.prog.bytesOf 28 := of_decide_eq_true Tryz.opBytes'
theorem string_weight {s : ByteArray} {ds : List (DataW H)} (h : ds[4]? = some (.lit (.string s.data.toList))) : s.size ∈ (DataW.agg ds : DataW H).weights Tryz.prog 28 := by
  have h1 : (DataW.agg ds : DataW H).weights Tryz.prog 28 = DataW.weightsEach Tryz.prog ((Tryz.prog.fieldsOf 28).toList.map (·.type)) ds := by
    rw [DataW.weights, Tryz.opStruct]
  rw [h1]
  refine DataW.weights_mem_each Tryz.opTypes h s.size ?_
  rw [DataW.weights]
  simp
set_option maxRecDepth 100000 in
/-- A script that was handed in, out of how the row reads it. -/
theorem script_open {fuel : Nat} {cs : List Value} {x : DataW H × List MemPlace} (h : DataW.trod enc Tryz.prog w base spare held fuel 22 cs = some x) (hw : ∀ n ∈ x.1.weights Tryz.prog 22, n ≤ reachBytes) :
    ∃ v, cs = [v] ∧ Script w v := by
  rcases open_slice Tryz.underlying22 h with ⟨h0, _⟩ | ⟨ad, L, c, m, n, Dt, Pl, rfl, hb, hl, hm, hmm, rfl, hx⟩
  · exact ⟨_, h0, .inl ⟨_, _, rfl⟩⟩
  have hlm : L ≤ m := by rw [hmm]; split <;> omega
  rw [Tryz.cellsOp] at hx
  rcases Nat.eq_zero_or_pos L with rfl | hL0
  · exact ⟨_, rfl, .inl ⟨_, _, rfl⟩⟩
  have hws : ∀ n, n ∈ (((List.range L).map Dt).length * Tryz.prog.bytesOf 28 + ((List.range (m - L)).map fun j => Dt (L + j)).length * Tryz.prog.bytesOf 28) :: DataW.weightsAll Tryz.prog 28 ((List.range L).map Dt) → n ≤ reachBytes := fun n hn => by
    apply hw n
    rw [DataW.weights, Tryz.underlying22]
    rcases List.mem_cons.1 hn with rfl | hn
    · rw [← Nat.add_mul]
      exact List.mem_cons_self
    · exact List.mem_cons_of_mem _ (List.mem_append_left _ hn)
  have hLr : L ≤ reachBytes := by
    have h1 := hws (((List.range L).map Dt).length * Tryz.prog.bytesOf 28 + ((List.range (m - L)).map fun j => Dt (L + j)).length * Tryz.prog.bytesOf 28) List.mem_cons_self
    have h2 := Tryz.opBytes
    simp only [List.length_map, List.length_range] at h1
    exact Nat.le_trans (Nat.le_trans (Nat.le_mul_of_pos_right L h2) (Nat.le_add_right _ _)) h1
  obtain ⟨g, o, sp⟩ := ad
  have each : ∀ i, i < L → ∃ q : (Int × Int × Int × Int) × ByteArray × (Nat → Int), w.cell? ((⟨g, o, sp⟩ : Addr).add (i * 14)) = some (.int .i64 q.1.1) ∧ w.cell? ((⟨g, o, sp⟩ : Addr).add (i * 14 + 1)) = some (.int .i64 q.1.2.1) ∧ w.cell? ((⟨g, o, sp⟩ : Addr).add (i * 14 + 2)) = some (.int .i64 q.1.2.2.1) ∧ w.cell? ((⟨g, o, sp⟩ : Addr).add (i * 14 + 3)) = some (.int .i64 q.1.2.2.2) ∧ w.cell? ((⟨g, o, sp⟩ : Addr).add (i * 14 + 4)) = some (.string q.2.1) ∧ (∀ j, j < 9 → w.cell? ((⟨g, o, sp⟩ : Addr).add (i * 14 + (5 + j))) = some (.int .i64 (q.2.2 j)) ∧ I64 (q.2.2 j)) ∧ I64 q.1.2.1 ∧ I64 q.1.2.2.1 ∧ q.2.1.size ≤ reachBytes := fun i hi => by
    obtain ⟨cs', h1, h2⟩ := hx i (by omega)
    obtain ⟨_, hlen, hcell⟩ := World.cells?_some h1
    obtain ⟨k, a, b, d, s, v, e0, e1, e2, e3, e4, e5, r1, r2, -, ds, y1, y2⟩ := op_open h2
    have r3 : s.size ≤ reachBytes := hws _ (List.mem_cons_of_mem _ (weightsAll_mem (d := Dt i) (List.mem_map.2 ⟨i, List.mem_range.2 hi, rfl⟩) _ (by
      have y1' : Dt i = .agg ds := y1
      rw [y1']
      exact string_weight y2)))
    have at' : ∀ j, j < 14 → w.cell? ((⟨g, o, sp⟩ : Addr).add (i * 14 + j)) = cs'[j]? := fun j hj => by
      have := hcell j hj
      rw [add_add] at this
      exact this
    refine ⟨((k, a, b, d), s, v), ?_, (at' 1 (by omega)).trans e1, (at' 2 (by omega)).trans e2, (at' 3 (by omega)).trans e3, (at' 4 (by omega)).trans e4, fun j hj => ⟨(at' (5 + j) (by omega)).trans (e5 j hj).1, (e5 j hj).2⟩, r1, r2, r3⟩
    have := (at' 0 (by omega)).trans e0
    rwa [Nat.add_zero] at this
  obtain ⟨q, hq⟩ := choose_lt each
  obtain rfl : sp = none := by
    have h0 := (hq 0 hL0).1
    cases sp with
    | none => rfl
    | some z =>
      exfalso
      simp [World.cell?, Addr.add] at h0
      split at h0 <;> simp_all
  have hadd : ∀ j, (⟨g, o, none⟩ : Addr).add j = ⟨g, o + j, none⟩ := fun j => add_plain g o j
  refine ⟨_, rfl, .inr ?_⟩
  refine ⟨g, o, L, c, fun i => (q i).1.1, fun i => (q i).1.2.1, fun i => (q i).1.2.2.1, fun i => (q i).1.2.2.2, fun i => (q i).2.1, fun i => (q i).2.2, rfl, ⟨?_, ?_, ?_, ?_, ?_, ?_, fun i hi => (hq i hi).2.2.2.2.2.2.1, fun i hi => (hq i hi).2.2.2.2.2.2.2.1, fun i j hi hj => ((hq i hi).2.2.2.2.2.1 j hj).2, ?_⟩, Nat.le_trans hLr (by unfold reachBytes; decide), fun i hi => Nat.le_trans (hq i hi).2.2.2.2.2.2.2.2 (by unfold reachBytes; decide)⟩
  · intro i hi
    have := (hq i hi).1
    rwa [hadd] at this
  · intro i hi
    have := (hq i hi).2.1
    rwa [hadd, ← Nat.add_assoc] at this
  · intro i hi
    have := (hq i hi).2.2.1
    rwa [hadd, ← Nat.add_assoc] at this
  · intro i hi
    have := (hq i hi).2.2.2.1
    rwa [hadd, ← Nat.add_assoc] at this
  · intro i hi
    have := (hq i hi).2.2.2.2.1
    rwa [hadd, ← Nat.add_assoc] at this
  · intro i j hi hj
    have := ((hq i hi).2.2.2.2.2.1 j hj).1
    rwa [hadd, ← Nat.add_assoc] at this
  · have h0 := (hq 0 hL0).1
    rw [hadd] at h0
    rcases Nat.lt_or_ge g w.heap.size with z | z
    · exact z
    · simp [World.cell?, Array.getElem?_eq_none z] at h0
end
end Go.Proofs.YtcajmohgjojhhaaGreatDoor
