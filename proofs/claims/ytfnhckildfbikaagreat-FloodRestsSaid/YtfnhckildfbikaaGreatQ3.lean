/- Structs of data: built, in rows, looked at, stored; Arguments that are structs, or slices of such, whose fields hold slices, opened.  but the kernel's look at the types; Parts of structs of data that hold plain values; Families: memory of one's own with a symbolic number of blocks: a row joins a family; rows of a family measured, looked into, written; Families, looked into and written; rows of names; appends of what is one's own; Structs of data that stay: boxed; arrays in them, looked into and cut; Variables of a family: looked into, written, told apart by their addresses; a variable joins a family; Maps from numbers to data with addresses: made, looked up, a new key set; Maps of data with addresses, gone through in whatever order; A nil slice in a cell of a variable, taken over as a row of one's own that holds data; What is known of a value, told otherwise: nil slices as rows of nothin. No condition. -/
import Derived.Test.YtfnhckildfbikaaGreatQ2
import Derived.Test.YtfnhckildfbikaaGreatRows
import Derived.LaidEqlPtr
import Derived.Maps.RangeRun
import Derived.ArgAppend
import Derived.Shelf.SlSortCmp.WholeK
import Derived.Shelf.SlIterI.Sorted
namespace Go.Proofs.YtfnhckildfbikaaGreat
set_option linter.unusedVariables false
set_option linter.unusedSimpArgs false
open Go.RowKit
/-- the cells of data -/
def D.cs : D → List D
  | .agg l => l
  | .val v => v.cells.toList.map .val
  | d => [d]
/-- what has cells of its own -/
def D.c1 : D → Bool
  | .opt _ _ => false
  | .tup _ => false
  | .junk => false
  | .hnd _ => false
  | _ => true
/-- what stands in one cell -/
def D.oc2 : D → Bool
  | .slf _ _ _ => true
  | .slm _ _ _ => true
  | .arr _ => true
  | .farr _ _ => true
  | .floc _ _ _ => true
  | .pin _ _ => true
  | .dpf _ => true
  | .dpm _ => true
  | .fn _ _ _ => true
  | .val u => u.oneCell'
  | _ => false
theorem oc2_one {s : St} {d : D} {v : Value} (h : Rep s d v) (hd : d.oc2 = true) : v.oneCell' = true := by
  cases h with
  | val v => exact hd
  | slf => rfl
  | slm => rfl
  | arr => rfl
  | fn => rfl
  | farr => rfl
  | floc => rfl
  | pin => rfl
  | dpf => rfl
  | dpm => rfl
  | _ => cases hd
theorem cs_rep {s : St} {d : D} {v : Value} (h : Rep s d v) (hd : d.c1 = true) : Reps s d.cs v.cells.toList := by
  have h0 := h
  cases h with
  | val v =>
    refine ⟨by simp [D.cs], fun j e u h1 h2 => ?_⟩
    simp only [D.cs, List.getElem?_map, h2, Option.map_some] at h1
    cases h1
    exact .val u
  | agg hl h => exact ⟨hl, h⟩
  | opt => cases hd
  | tup => cases hd
  | junk => cases hd
  | hnd => cases hd
  | _ =>
    refine ⟨rfl, fun j e u h1 h2 => ?_⟩
    cases j with
    | zero => simp [D.cs, Value.cells] at h1 h2; subst h1 h2; exact h0
    | succ j => simp [D.cs, Value.cells] at h1
def setD : List D → Nat → List D → List D
  | Z, _, [] => Z
  | Z, p, d :: r => setD (Z.set p d) (p + 1) r
def fillD (offs : List (Nat × Nat)) : List D → List (Nat × List D) → List D
  | Z, [] => Z
  | Z, (i, C) :: r => fillD offs (setD Z ((offs.getD i (0, 0)).1) C) r
def fillBD (offs : List (Nat × Nat)) (n : Nat) : List (Nat × List D) → Bool
  | [] => true
  | (i, C) :: r => (match offs[i]? with | some (o, s) => C.length == s && Nat.ble (o + s) n | none => false) && fillBD offs n r
theorem reps_set {s : St} {Z : List D} {vz : List Value} (h : Reps s Z vz) {d : D} {v : Value} (hd : Rep s d v) (p : Nat) : Reps s (Z.set p d) (vz.set p v) := by
  refine ⟨by simp [h.1], fun j e u h1 h2 => ?_⟩
  by_cases e1 : p = j
  · subst e1
    by_cases hp : p < Z.length
    · rw [List.getElem?_set_self hp] at h1
      rw [List.getElem?_set_self (by rw [h.1]; exact hp)] at h2
      cases h1; cases h2; exact hd
    · rw [List.getElem?_eq_none (by simp; omega)] at h1; cases h1
  · rw [List.getElem?_set_ne e1] at h1 h2
    exact h.2 j e u h1 h2
theorem reps_setD {s : St} : ∀ (C : List D) (vc : List Value) (Z : List D) (vz : List Value) (p : Nat), Reps s C vc → Reps s Z vz → Reps s (setD Z p C) (setL vz p vc)
  | [], [], Z, vz, p, _, hz => by rw [setL_nil]; exact hz
  | d :: C, v :: vc, Z, vz, p, hc, hz => by
    rw [setD, setL]
    exact reps_setD C vc _ _ _ ⟨by simpa using hc.1, fun j e u h1 h2 => hc.2 (j + 1) e u (by simpa using h1) (by simpa using h2)⟩ (reps_set hz (hc.2 0 d v rfl rfl) p)
  | [], v :: vc, _, _, _, hc, _ => by have := hc.1; simp at this
  | d :: C, [], _, _, _, hc, _ => by have := hc.1; simp at this
theorem reps_fill {s : St} (offs : List (Nat × Nat)) (n : Nat) : ∀ (is : List Nat) (Cs : List (List D)) (vs : List (List Value)) (Z : List D) (vz : List Value), (∀ (j : Nat) C v, Cs[j]? = some C → vs[j]? = some v → Reps s C v) → Cs.length = vs.length → Reps s Z vz → fillBD offs n (is.zip Cs) = true →
    Reps s (fillD offs Z (is.zip Cs)) (fillL offs vz (is.zip vs)) ∧ fillB offs n (is.zip vs) = true
  | [], Cs, vs, Z, vz, _, _, hz, _ => by simpa [fillD, fillL, fillB] using hz
  | i :: is, [], vs, Z, vz, _, hl, hz, _ => by
    have : vs = [] := by cases vs with | nil => rfl | cons => simp at hl
    subst this
    simpa [fillD, fillL, fillB] using hz
  | i :: is, C :: Cs, [], Z, vz, _, hl, _, _ => by simp at hl
  | i :: is, C :: Cs, v :: vs, Z, vz, hc, hl, hz, hb => by
    simp only [List.zip_cons_cons, fillBD, Bool.and_eq_true] at hb
    simp only [List.zip_cons_cons, fillD, fillL, fillB, Bool.and_eq_true]
    have h0 := hc 0 C v rfl rfl
    obtain ⟨r1, r2⟩ := reps_fill offs n is Cs vs _ _ (fun j C v h1 h2 => hc (j + 1) C v (by simpa using h1) (by simpa using h2)) (by simpa using hl) (reps_setD C v Z vz _ h0 hz) hb.2
    refine ⟨r1, ?_, r2⟩
    rw [h0.1]
    exact hb.1
theorem reps_vals {s : St} (L : List Value) : Reps s (L.map .val) L := by
  refine ⟨by simp, fun j e u h1 h2 => ?_⟩
  rw [List.getElem?_map, h2] at h1
  cases h1
  exact .val u
theorem reps_app3 {s : St} {d1 d2 : List D} {v1 v2 : List Value} (h1 : Reps s d1 v1) (h2 : Reps s d2 v2) : Reps s (d1 ++ d2) (v1 ++ v2) := by
  refine ⟨by simp [h1.1, h2.1], fun j d v hd hv => ?_⟩
  by_cases hj : j < d1.length
  · rw [List.getElem?_append_left hj] at hd
    rw [List.getElem?_append_left (by rw [h1.1]; exact hj)] at hv
    exact h1.2 j d v hd hv
  · rw [List.getElem?_append_right (by omega)] at hd
    rw [List.getElem?_append_right (by rw [h1.1]; omega), h1.1] at hv
    exact h2.2 _ d v hd hv
theorem reps_cs {s : St} : ∀ (ds : List D) (vs : List Value), Reps s ds vs → ds.all D.c1 = true → Reps s (ds.flatMap D.cs) (vs.flatMap fun v => v.cells.toList)
  | [], [], _, _ => ⟨rfl, fun j e u h1 h2 => by simp at h1⟩
  | d :: ds, v :: vs, h, hc => by
    rw [List.all_cons, Bool.and_eq_true] at hc
    rw [List.flatMap_cons, List.flatMap_cons]
    exact reps_app3 (cs_rep (h.2 0 d v rfl rfl) hc.1) (reps_cs ds vs ⟨by simpa using h.1, fun j e u h1 h2 => h.2 (j + 1) e u (by simpa using h1) (by simpa using h2)⟩ hc.2)
  | [], v :: vs, h, _ => by have := h.1; simp at this
  | d :: ds, [], h, _ => by have := h.1; simp at this
theorem flatM_len' {α β : Type} {en : α → List β} {sz : Nat} (hen : ∀ a, (en a).length = sz) : ∀ l : List α, (l.flatMap en).length = l.length * sz
  | [] => by simp
  | a :: l => by rw [List.flatMap_cons, List.length_append, hen, flatM_len' hen l, List.length_cons, Nat.succ_mul]; omega
section
variable {P : Program} {pc : Bool} {o : Oper} {F : Fr} {M : List Blk}
theorem op_bldD {T : TypeId} {ps : List (Nat × Operand)} {ds R : List D} {offs : List (Nat × Nat)} {Z : List Value} (ho : o.op = .build T ps.toArray) (hT : fdL P T = some offs) (hZ : zrC P T = some Z) (hv : EvL pc F (ps.map (·.2)) ds) (hc : ds.all D.c1 = true)
    (hB : fillBD offs Z.length ((ps.map (·.1)).zip (ds.map D.cs)) = true) (hR : fillD offs (Z.map .val) ((ps.map (·.1)).zip (ds.map D.cs)) = R) : DOp P pc o F M [] (.agg R) [] := by
  intro hp a s hok hops _
  obtain ⟨r1, r2⟩ := evL_reps (a := a) (s := s) hp _ _ hv (fun x hx => hops x (by rw [ho]; simpa [Op.operands] using hx))
  have hf := reps_fill (s := s) offs Z.length (ps.map (·.1)) (ds.map D.cs) (((ps.map (·.2)).map a.eval).map fun v => v.cells.toList) (Z.map .val) Z (fun j C v h1 h2 => by
      rw [List.getElem?_map] at h1 h2
      simp only [Option.map_eq_some_iff] at h1 h2
      obtain ⟨d, h1, rfl⟩ := h1
      obtain ⟨u, h2, rfl⟩ := h2
      exact cs_rep (r2 j d u h1 h2) (List.all_eq_true.1 hc _ (List.mem_of_getElem? h1))) (by rw [List.length_map, List.length_map]; exact r1.symm) (reps_vals Z) hB
  rw [hR] at hf
  exact dg_val hok (run_build (P := P) (a := a) (w := s.w) ho hT hZ rfl hf.2 rfl) (.agg hf.1.1 hf.1.2)
/-- an array of listed parts -/
theorem op_bldaD {T : TypeId} {ps : List (Nat × Operand)} {ds R : List D} {q : Nat × Nat} {Z : List Value} (ho : o.op = .build T ps.toArray) (hT : arE P T = some q) (hZ : zrC P T = some Z) (hv : EvL pc F (ps.map (·.2)) ds) (hc : ds.all D.c1 = true) (hi : (ps.map (·.1)).all (fun i => Nat.blt i q.1) = true)
    (hB : fillBD ((List.range q.1).map fun i => (i * q.2, q.2)) Z.length ((ps.map (·.1)).zip (ds.map D.cs)) = true) (hR : fillD ((List.range q.1).map fun i => (i * q.2, q.2)) (Z.map .val) ((ps.map (·.1)).zip (ds.map D.cs)) = R) : DOp P pc o F M [] (.agg R) [] := by
  intro hp a s hok hops _
  obtain ⟨r1, r2⟩ := evL_reps (a := a) (s := s) hp _ _ hv (fun x hx => hops x (by rw [ho]; simpa [Op.operands] using hx))
  obtain ⟨i, z, e1, e2, e3⟩ := zrC_spec hZ
  obtain ⟨el, i', g1, g2, g3⟩ := arE_spec (n := q.1) (sz := q.2) hT
  have hf := reps_fill (s := s) ((List.range q.1).map fun i => (i * q.2, q.2)) Z.length (ps.map (·.1)) (ds.map D.cs) (((ps.map (·.2)).map a.eval).map fun v => v.cells.toList) (Z.map .val) Z (fun j C v h1 h2 => by
      rw [List.getElem?_map] at h1 h2
      simp only [Option.map_eq_some_iff] at h1 h2
      obtain ⟨d, h1, rfl⟩ := h1
      obtain ⟨u, h2, rfl⟩ := h2
      exact cs_rep (r2 j d u h1 h2) (List.all_eq_true.1 hc _ (List.mem_of_getElem? h1))) (by rw [List.length_map, List.length_map]; exact r1.symm) (reps_vals Z) hB
  rw [hR] at hf
  obtain ⟨vs, hvs⟩ : ∃ vs, vs = (ps.map (·.2)).map a.eval := ⟨_, rfl⟩
  rw [← hvs] at hf
  obtain ⟨W, hW⟩ : ∃ W, fillL ((List.range q.1).map fun i => (i * q.2, q.2)) Z ((ps.map (·.1)).zip (vs.map fun v => v.cells.toList)) = W := ⟨_, rfl⟩
  rw [hW] at hf
  refine dg_val (v := .agg W.toArray) hok ?_ (.agg hf.1.1 hf.1.2)
  have hparts : (ps.toArray.map fun (i, x) => (i, a.eval x)).toList = (ps.map (·.1)).zip vs := by
    rw [hvs]
    simp only [List.map_toArray]
    clear hv hB hR hvs ho hi hf hW r1 r2
    induction ps with
    | nil => rfl
    | cons p ps ih => simp only [List.map_cons, List.zip_cons_cons]; rw [← ih]
  have hz : ((ps.map (·.1)).zip vs).map (fun p => (p.1, p.2.cells.toList)) = (ps.map (·.1)).zip (vs.map fun v => v.cells.toList) := by
    rw [List.zip_map_right]
    rfl
  have hf2 := fill_struct (offs := (List.range q.1).map fun i => (i * q.2, q.2)) ((ps.map (·.1)).zip vs) z.cells (by rw [hz, ← Array.length_toList, e3]; exact hf.2)
  rw [hz, e3, hW] at hf2
  have hcg : Instr.fill (fun i => some (i * i'.size, i'.size)) z.cells ((ps.map (·.1)).zip vs) = some W.toArray := by
    rw [← hf2]
    refine fill_congr _ _ fun x hx => ?_
    have hm : x.1 ∈ ps.map (·.1) := (List.of_mem_zip (show (x.1, x.2) ∈ _ from hx)).1
    have := Nat.blt_eq.mp (List.all_eq_true.1 hi _ hm)
    rw [g3]
    simp [this]
  unfold execOp
  simp only [ho]
  refine run_v ?_
  have hz0 : (zeroValue T).run P s.w = .ok z s.w := by simp [zeroValue, typeInfo, e1, e2]
  simp only [Instr.build, Sem.run_bind, hz0, run_underlying g1, Result.andThen_ok, sizeOf, typeInfo, hparts]
  simp [g2, hcg]
/-- a slice of structs of data, that stays as it is made -/
theorem op_bsr {T e : TypeId} {n sz by' : Nat} {ps : List (Nat × Operand)} {ds R : List D} {Z : List Value} (ho : o.op = .buildSlice T n ps.toArray) (hT : slE P T = some (e, sz, by')) (hZ : zrC P e = some Z) (hi : ps.map (·.1) = List.range' 0 n) (hv : EvL pc F (ps.map (·.2)) ds) (hc : ds.all D.c1 = true) (hs : ds.all (fun d => d.cs.length == sz) = true)
    (hR : ds.flatMap D.cs = R) (hnl : D.nlL R = true) (hl : R.length = n * sz) (hn : n ≤ 16777216) (hn2 : n * sz ≤ 16777216) : DOp P pc o F M [] (.slm sz n R) [] := by
  intro hp a s hok hops _
  have hr := evL_reps (a := a) (s := s) hp _ _ hv (fun x hx => hops x (by rw [ho]; simpa [Op.operands] using hx))
  obtain ⟨vs, hvs⟩ : ∃ vs, vs = (ps.map (·.2)).map a.eval := ⟨_, rfl⟩
  rw [← hvs] at hr
  have hcs := reps_cs ds vs hr hc
  rw [hR] at hcs
  have hcell : ∀ v ∈ vs, v.cells.size = sz := fun v hv' => by
    obtain ⟨j, hj, rfl⟩ := List.getElem_of_mem hv'
    have hj2 : j < ds.length := by have := hr.1; omega
    have h1 := (cs_rep (hr.2 j _ _ (List.getElem?_eq_getElem hj2) (List.getElem?_eq_getElem hj)) (List.all_eq_true.1 hc _ (List.getElem_mem hj2))).1
    have h2 := List.all_eq_true.1 hs _ (List.getElem_mem hj2)
    simp only [beq_iff_eq] at h2
    rw [h2] at h1
    simpa using h1
  have hrun := run_buildSlice (P := P) (w := s.w) ho hT hZ hi hvs.symm hcell hn2
  have ht := step_imm hok (.cells (vs.flatMap fun v => v.cells.toList).toArray e)
  refine dg_step (s' := ⟨s.β, fun b => s.I b ∨ b = s.w.heap.size, s.M, _⟩) hrun ht rfl (.slm hnl hl (Nat.le_refl _) (by unfold maxLen; omega) (fun e => by cases e) hcs.1 (fun j d v h1 h2 => (hcs.2 j d v h1 h2).mono hok ht) (.inr ⟨_, 0, rfl, .inr rfl, ?_⟩))
  simpa using cellsAt_block (heap_alloc_new s.w _) 0
/-- a struct, whole, in memory that stays -/
theorem op_lddr {T : TypeId} {x : Operand} {k : Nat} {ld R : List D} (ho : o.op = .load T x) (hT : tyB P T = some (true, k)) (hx : Ev pc F x (.dpm ld)) (hR : ld.take k = R) (hl : R.length = k) : DOp P pc o F M [] (.agg R) [] := by
  intro hp a s hok hops hfp
  have hr := ev_at hp hx (by simp [ho, Op.operands]) hops
  generalize hv : a.eval x = vx at hr
  cases hr with
  | @dpm b q _ vs hnl hI hc hvl h =>
    subst hR
    have hr := cellsAt_range hc 0 k (R := vs.take k) (by simp)
    have hlv : (vs.take k).length = k := by rw [List.length_take] at hl ⊢; omega
    refine dg_val hok (run_load_row ho hT hv (by simpa using hr) hlv) (.agg (by rw [hlv, hl]) (fun j d v h1 h2 => ?_))
    rw [List.getElem?_take] at h1 h2
    split at h1
    · rename_i hi
      rw [if_pos hi] at h2
      exact h j d v h1 h2
    · cases h1
/-- append onto a row of one's own that holds structs of data -/
theorem op_appr {T e : TypeId} {by' sz n m i j : Nat} {x y : Operand} {l l2 : List D} {Z : List Value} (ho : o.op = .call { callee := .builtin .append, args := #[x, y], argTypes := #[T, T] }) (hT : slE P T = some (e, sz, by')) (hZ : zrC P e = some Z) (hZl : Z.length = sz)
    (hx : Ev pc F x (.arr i)) (hy : Ev pc F y (.slm sz m l2)) (hM : M[i]? = some (.arx e sz n l)) (hj : M[j]? = some .hole) (h1 : l2.all D.oc2 = true) (hbd : pc = true → (n + m) * by' ≤ 140737488355328 ∧ n + m ≤ 140737488355328) :
    DOp P pc o F M [i, j] (.arr j) [(i, .gone), (j, .arx e sz (n + m) (l ++ l2))] := by
  intro hp a s hok hops hfp
  obtain ⟨e1, ti, e2, e3, e4⟩ := slE_spec hT
  obtain ⟨ti', z, q1, q2, q3⟩ := zrC_spec hZ
  rw [e2] at q1
  obtain rfl := Option.some.inj q1
  obtain ⟨b1, b2⟩ := hbd hp
  have hM' : s.M[i]? = some (.arx e sz n l) := by rw [hfp i (by simp)]; exact hM
  have hj' : s.M[j]? = some .hole := by rw [hfp j (by simp)]; exact hj
  have hij : i ≠ j := fun h => by subst h; rw [hM'] at hj'; cases hj'
  have hjl : j < s.β.length := by rw [hok.len]; exact (List.getElem?_eq_some_iff.1 hj').1
  have hrx := ev_at hp hx (by simp [ho, Op.operands, Call.operands]) hops
  have hry := ev_at hp hy (by simp [ho, Op.operands, Call.operands]) hops
  generalize hv : a.eval x = vx at hrx
  generalize hvy : a.eval y = vy at hry
  cases hry with
  | @slm _ _ cap2 a2 _ vs2 hnl2 hl2 hn2 hc2 ha2 hvl2 hel2 hm2 =>
  have hso : SrcOk s (.slice a2 m cap2) m vs2 := by
    refine ⟨a2, cap2, rfl, ?_⟩
    cases a2 with
    | none =>
      have := ha2 rfl
      exact .inl ⟨rfl, by omega, this, List.eq_nil_of_length_eq_zero (by rw [hvl2, hl2, show m = 0 by omega, Nat.zero_mul])⟩
    | some ad =>
      refine .inr ⟨ad, rfl, fun k u hk => ?_⟩
      rcases hm2 with e | ⟨b, q, e, hI, hcl⟩
      · rw [e] at hvl2
        rw [List.eq_nil_of_length_eq_zero hvl2] at hk
        simp at hk
      · cases e
        rw [Addr.add_mid]
        exact hcl k u hk
  have hone : ∀ u ∈ vs2, u.oneCell' = true := fun u hu => by
    obtain ⟨k, hk, rfl⟩ := List.getElem_of_mem hu
    have hk2 : k < l2.length := by omega
    exact oc2_one (hel2 k _ _ (List.getElem?_eq_getElem hk2) (List.getElem?_eq_getElem hk)) (List.all_eq_true.1 h1 _ (List.getElem_mem hk2))
  cases hrx with
  | @arr _ ad n' c hβ =>
    obtain ⟨vs, hk, hvl, hel⟩ := hok.blk i _ _ hM' hβ
    obtain ⟨h', w', r1, r2, r3, r4⟩ := run_append_D (P := P) (ty := o.type) (m := m) e1 e2 e3 e4 q2 (by rw [← hZl, ← q3]; simp) hk (by rw [hvl2]; exact hl2) hso hone (by unfold maxLen; omega) b1
    have hs' : (h' = .slice none 0 0) ∨ ∃ a n c, h' = .slice (some a) n c := by
      rcases r2.2 with ⟨q, _⟩ | ⟨g, cap, cur, q, _⟩
      · exact .inl q
      · exact .inr ⟨_, _, _, q⟩
    have hs0 : (Value.slice ad n' c = .slice none 0 0) ∨ ∃ a n k, Value.slice ad n' c = .slice (some a) n k := by
      rcases hk.2 with ⟨q, _⟩ | ⟨g, cap, cur, q, _⟩
      · exact .inl q
      · exact .inr ⟨_, _, _, q⟩
    have o1 := hb_own hs'
    have o0 := hb_own hs0
    have hblk : s.w.heap.size ≤ w'.heap.size := r3.size
    have hβj : s.β[j]? = some .nilFunc := by
      have q : s.β[j]? = some s.β[j] := List.getElem?_eq_getElem hjl
      have : s.β[j] = .nilFunc := hok.blk j .hole _ hj' q
      rw [q, this]
    have from_ : ∀ b, hb h' = some b → s.w.heap.size ≤ b ∨ (hb (Value.slice ad n' c) = some b) := by
      intro b hbb
      rw [o1] at hbb
      rcases r4 b hbb with h | h
      · exact .inr (by rw [o0]; exact h)
      · exact .inl h
    have hnd' : ∀ (k : Nat) h, s.β[k]? = some h → h ≠ .nilFunc → (s.β.set j h')[k]? = some h := fun k h hk' hne => by
      by_cases e : j = k
      · subst e; rw [hβj] at hk'; exact absurd (Option.some.inj hk').symm hne
      · rw [List.getElem?_set_ne e]; exact hk'
    have imm' : ∀ b, s.I b → w'.heap[b]? = s.w.heap[b]? := fun b hI => r3.block b (hok.il b hI) fun h => by
      rw [← o0] at h
      exact (hok.lt b (live_of hM' rfl hβ h.symm)).2 hI
    have hblkx : BlkOk ⟨s.β.set j h', s.I, (s.M.set i .gone).set j (.arx e sz (n + m) (l ++ l2)), w'⟩ h' (.arx e sz (n + m) (l ++ l2)) := by
      refine ⟨vs ++ vs2, r2, by simp [hvl, hvl2], fun k d v hk1 hk2 => ?_⟩
      by_cases hlt : k < l.length
      · rw [List.getElem?_append_left hlt] at hk1
        rw [List.getElem?_append_left (by omega)] at hk2
        exact Rep.mono' (s' := ⟨s.β.set j h', s.I, (s.M.set i .gone).set j (.arx e sz (n + m) (l ++ l2)), w'⟩) hnd' (fun _ h => h) imm' (hel k d v hk1 hk2)
      · rw [List.getElem?_append_right (by omega)] at hk1 hk2
        rw [hvl] at hk2
        exact Rep.mono' (s' := ⟨s.β.set j h', s.I, (s.M.set i .gone).set j (.arx e sz (n + m) (l ++ l2)), w'⟩) hnd' (fun _ h => h) imm' (hel2 _ d v hk1 hk2)
    have ht : Tr s ⟨s.β.set j h', s.I, (s.M.set i .gone).set j (.arx e sz (n + m) (l ++ l2)), w'⟩ := by
      refine step_set hok j (s.M.set i .gone) h' _ w' (by simp) (fun k kb hkb => ?_) (by rw [← hok.len]; exact hjl) (.inl hβj) (by rcases hs' with rfl | ⟨_, _, _, rfl⟩ <;> simp) hblkx (fun b hbb k kb hh hne q1 q2 q3 q4 => ?_) (fun b hbb => (from_ b hbb).imp id fun h => live_of hM' rfl hβ h) (fun b hbb => ?_) (fun b => hb (Value.slice ad n' c) = some b) (fun b hdr => ⟨live_of hM' rfl hβ hdr, fun k kb hh hne q1 q2 q3 q4 => ?_⟩) (fun b hlt hne hnd => ?_) r3.os r3.tape r3.output hblk
      · by_cases hki : i = k
        · subst hki
          have hlt : i < s.M.length := (List.getElem?_eq_some_iff.1 hM').1
          rw [List.getElem?_set_self hlt] at hkb
          exact .inr (Option.some.inj hkb).symm
        · rw [List.getElem?_set_ne hki] at hkb; exact .inl hkb
      · have hki : i ≠ k := fun h => by
          subst h
          have hlt : i < s.M.length := (List.getElem?_eq_some_iff.1 hM').1
          rw [List.getElem?_set_self hlt] at q1
          cases q1; cases q2
        rw [List.getElem?_set_ne hki] at q1
        rcases from_ b hbb with h | h
        · exact absurd (hok.lt b (live_of q1 q2 q3 q4)).1 (Nat.not_lt.2 h)
        · exact hki (hok.inj i k _ kb _ hh b hM' rfl hβ h q1 q2 q3 q4)
      · replace hbb : hb h' = some b := hbb
        rw [o1] at hbb
        exact (r2.lt b hbb).2
      · have hki : i ≠ k := fun h => by
          subst h
          have hlt : i < s.M.length := (List.getElem?_eq_some_iff.1 hM').1
          rw [List.getElem?_set_self hlt] at q1
          cases q1; cases q2
        rw [List.getElem?_set_ne hki] at q1
        exact hki (hok.inj i k _ kb _ hh b hM' rfl hβ hdr q1 q2 q3 q4)
      · exact r3.block b hlt fun h => hnd (by rw [o0]; exact h.symm)
    refine dg_step (s' := ⟨s.β.set j h', s.I, (s.M.set i .gone).set j (.arx e sz (n + m) (l ++ l2)), w'⟩) (run_builtin ho (fun cs => by rfl) (by simpa [hv, hvy] using r1)) ht rfl ?_
    rcases hs' with rfl | ⟨_, _, _, rfl⟩
    · exact .arr (by simp [hjl])
    · exact .arr (by simp [hjl])
end
section
variable {P : Program} {s0 : St} {n : Cx}
theorem inv_givem {F : Fr} {M : List Blk} {a : Act} {w : World} {T e : TypeId} {p q i sz m : Nat} {l ds : List D} (h : Inv s0 n F M a w) (hM : M[p]? = some (.mix T l)) (hq : l[q]? = some (.arr i)) (hi : M[i]? = some (.arx e sz m ds)) (hnl : D.nlL ds = true) : Inv s0 n F ((M.set i .gone).set p (.mix T (l.set q (.slm sz m ds)))) a w := by
  obtain ⟨h0, s, rfl, rfl, h3, h4, h5, h6⟩ := h
  have hpl : p < s.M.length := (List.getElem?_eq_some_iff.1 hM).1
  have hil : i < s.M.length := (List.getElem?_eq_some_iff.1 hi).1
  have hpi : p ≠ i := fun e => by subst e; rw [hM] at hi; cases hi
  have hpl' : p < s.β.length := by rw [h3.ok.len]; exact hpl
  have hil' : i < s.β.length := by rw [h3.ok.len]; exact hil
  have hβi : s.β[i]? = some s.β[i] := List.getElem?_eq_getElem (by rw [h3.ok.len]; exact hil)
  have hβp : s.β[p]? = some s.β[p] := List.getElem?_eq_getElem (by rw [h3.ok.len]; exact hpl)
  obtain ⟨b, vs, e1, e2, e3, e4⟩ := h3.ok.blk p _ _ hM hβp
  obtain ⟨us, hk, q3, q4⟩ := h3.ok.blk i _ _ hi hβi
  have hql : q < l.length := (List.getElem?_eq_some_iff.1 hq).1
  -- the value in that cell is the handle
  have hcell : vs[q]? = some s.β[i] := by
    have hv : vs[q]? = some vs[q] := List.getElem?_eq_getElem (by omega)
    have := e4 q _ _ hq hv
    rw [hv]
    generalize vs[q] = x at this
    cases this with
    | arr h => exact h.symm.trans hβi
  -- the row stays from now on, or is nil
  have main : ∃ I' : Nat → Prop, Tr s ⟨s.β, I', s.M.set i .gone, s.w⟩ ∧ Rep ⟨s.β, I', s.M.set i .gone, s.w⟩ (.slm sz m ds) s.β[i] := by
    rcases hk.2 with ⟨g1, g2⟩ | ⟨g, cap, cur, g1, g2, g3', g4, g5, g6, g7⟩
    · subst g2
      have hl0 : ds = [] := List.eq_nil_of_length_eq_zero (by rw [← q3, hk.1, Nat.zero_mul])
      refine ⟨s.I, ?_, ?_⟩
      · have hnd : ∀ (i : Nat) h, s.β[i]? = some h → h ≠ .nilFunc → s.β[i]? = some h := fun _ _ h _ => h
        have old : ∀ (j : Nat) k, (s.M.set i .gone)[j]? = some k → k = .gone ∨ s.M[j]? = some k := fun j k hj => by
          by_cases e : i = j
          · subst e
            rw [List.getElem?_set_self hil] at hj
            exact .inl (Option.some.inj hj).symm
          · rw [List.getElem?_set_ne e] at hj; exact .inr hj
        have lv : ∀ b, Live ⟨s.β, s.I, s.M.set i .gone, s.w⟩ b → Live s b := by
          rintro b ⟨j, k, h, h1, h2, h3, h4⟩
          rcases old j k h1 with rfl | h1
          · cases h2
          · exact live_of h1 h2 h3 h4
        refine ⟨⟨by simp [h3.ok.len], fun j k h h1 h2 => ?_, fun b hb => h3.ok.lt b (lv b hb), ?_, h3.ok.il⟩, hkeep_of hnd, fun _ h => h, fun _ h => .inl h, fun _ _ _ => rfl, fun b h => .inr (lv b h), rfl, rfl, rfl, Nat.le_refl _⟩
        · rcases old j k h1 with rfl | h1
          · trivial
          · exact BlkOk.mono (s := s) (s' := ⟨s.β, s.I, s.M.set i .gone, s.w⟩) hnd (fun _ h => h) (fun _ _ => rfl) (h3.ok.blk j k h h1 h2) (fun _ _ _ => rfl)
        · intro j j2 k k2 x x2 b a1 a2 a3 a4 c1 c2 c3 c4
          rcases old j k a1 with rfl | a1
          · cases a2
          · rcases old j2 k2 c1 with rfl | c1
            · cases c2
            · exact h3.ok.inj j j2 k k2 x x2 b a1 a2 a3 a4 c1 c2 c3 c4
      · rw [g1, hl0]
        exact .slm (vs := []) rfl (by simp) (Nat.le_refl _) (Nat.zero_le _) (fun _ => rfl) rfl (fun j d v h => by simp at h) (.inl rfl)
    · have tt := tr_give h3.ok hi rfl hβi (show hb s.β[i] = some g by rw [g1]; rfl) s.w (fun _ _ => rfl) rfl rfl rfl rfl
      refine ⟨_, tt, ?_⟩
      rw [g1]
      refine .slm (vs := us) hnl (by rw [← q3]; exact hk.1) g4 g5 (fun e => by cases e) q3 (fun j d v hj hv => (q4 j d v hj hv).mono h3.ok tt) (.inr ⟨g, 0, rfl, .inr rfl, ?_⟩)
      have hc := cellsAt_sub (cellsAt_block g3' 0) 0 (m * sz)
      show cellsAt s.w g 0 us
      simpa [g7] using hc
  obtain ⟨I', tt, hrep⟩ := main
  have hM2 : (s.M.set i .gone)[p]? = some (.mix T l) := by rw [List.getElem?_set_ne (Ne.symm hpi)]; exact hM
  have hset : s.β.set p s.β[p] = s.β := List.set_getElem_self ..
  have t2 : Tr ⟨s.β, I', s.M.set i .gone, s.w⟩ ⟨s.β, I', (s.M.set i .gone).set p (.mix T (l.set q (.slm sz m ds))), s.w⟩ := by
    have hst := step_set tt.ok p (s.M.set i .gone) s.β[p] (.mix T (l.set q (.slm sz m ds))) s.w rfl (fun i k h => .inl h) (by simpa using hpl) (.inr (.inl hβp)) (by rw [e1]; simp) ?_ (fun b' hb' j kj hj hne h1 h2 h3' h4' => ?_) (fun b' hb' => .inr (live_of hM2 rfl hβp hb')) (fun b' hb' => (tt.ok.lt b' (live_of hM2 rfl hβp hb')).1) (fun _ => False) (fun _ h => h.elim) (fun b' hlt hne _ => rfl) rfl rfl rfl (Nat.le_refl _)
    · have hst' := hst
      simp only [hset] at hst'
      exact hst'
    · refine ⟨b, vs, e1, e2, by simp [e3], fun j d v g1 g2 => ?_⟩
      have lift : ∀ {d v}, Rep s d v → Rep ⟨s.β.set p s.β[p], I', (s.M.set i .gone).set p (.mix T (l.set q (.slm sz m ds))), s.w⟩ d v := fun hr => by
        rw [hset]
        exact Rep.mono' (s := ⟨s.β, I', s.M.set i .gone, s.w⟩) (s' := ⟨s.β, I', (s.M.set i .gone).set p (.mix T (l.set q (.slm sz m ds))), s.w⟩) (fun _ _ h _ => h) (fun _ h => h) (fun _ _ => rfl) (hr.mono h3.ok tt)
      by_cases e : q = j
      · subst e
        rw [List.getElem?_set_self hql] at g1
        cases g1
        rw [hcell] at g2
        cases g2
        rw [hset]
        exact Rep.mono' (s := ⟨s.β, I', s.M.set i .gone, s.w⟩) (s' := ⟨s.β, I', (s.M.set i .gone).set p (.mix T (l.set q (.slm sz m ds))), s.w⟩) (fun _ _ h _ => h) (fun _ h => h) (fun _ _ => rfl) hrep
      · rw [List.getElem?_set_ne e] at g1
        exact lift (e4 j d v g1 g2)
    · exact hne (tt.ok.inj j p kj _ hj _ b' h1 h2 h3' h4' hM2 rfl hβp hb')
  exact ⟨h0, ⟨s.β, I', (s.M.set i .gone).set p (.mix T (l.set q (.slm sz m ds))), s.w⟩, rfl, rfl, (h3.trans tt).trans t2, fun x d hd => ((h4 x d hd).mono h3.ok tt).mono tt.ok t2, h5, (h6.mono h3.ok tt).mono tt.ok t2⟩
/-- a row of one's own in a struct's cell is given up: it stays from now on -/
theorem dwp_givem {c : Code} {F : Fr} {M M' : List Blk} {K : Cont} (p q : Nat) {T e : TypeId} {i sz m : Nat} {l ds : List D} (hnl : D.nlL ds = true) (hM : M[p]? = some (.mix T l)) (hq : l[q]? = some (.arr i)) (hi : M[i]? = some (.arx e sz m ds)) (hM' : (M.set i .gone).set p (.mix T (l.set q (.slm sz m ds))) = M') (h : dwp P s0 n c F M' K) : dwp P s0 n c F M K := by
  subst hM'
  exact fun a w hj => h a w (inv_givem hj hM hq hi hnl)
end
mutual
/-- data that names no block is the same everywhere -/
theorem vw_nl (σ : List Nat) (V : Nat → Bool) (M : List Blk) : ∀ d : D, d.nl = true → vw σ V M d = some d
  | .val v, _ => rfl
  | .loc i o, h => by cases h
  | .arr i, h => by cases h
  | .aloc i o, h => by cases h
  | .own i sz o n, h => by cases h
  | .part i sz o n c, h => by cases h
  | .dpf L, _ => rfl
  | .pin b L, _ => rfl
  | .slf sz n L, _ => rfl
  | .slc sz n L, _ => rfl
  | .tup l, h => by rw [vw, vwL_nl σ V M l (by simpa [D.nl] using h)]; rfl
  | .agg l, h => by rw [vw, vwL_nl σ V M l (by simpa [D.nl] using h)]; rfl
  | .dpm l, _ => rfl
  | .slm sz n l, _ => rfl
  | .fn f a b, h => by
    rw [D.nl, Bool.and_eq_true] at h
    rw [vw, vwL_nl σ V M a h.1, vwL_nl σ V M b h.2]
  | .ifc t d, h => by rw [vw, vw_nl σ V M d (by simpa [D.nl] using h)]; rfl
  | .opt b d, h => by rw [vw, vw_nl σ V M d (by simpa [D.nl] using h)]; rfl
  | .hnd i, h => by cases h
  | .yld i, h => by cases h
  | .junk, _ => rfl
theorem vwL_nl (σ : List Nat) (V : Nat → Bool) (M : List Blk) : ∀ l : List D, D.nlL l = true → vwL σ V M l = some l
  | [], _ => rfl
  | d :: l, h => by
    rw [D.nlL, Bool.and_eq_true] at h
    rw [vwL, vw_nl σ V M d h.1, vwL_nl σ V M l h.2]
end
mutual
theorem sb_nl (τ : List Nat) : ∀ d : D, d.nl = true → sb τ d = some d
  | .val v, _ => rfl
  | .loc i o, h => by cases h
  | .arr i, h => by cases h
  | .aloc i o, h => by cases h
  | .own i sz o n, h => by cases h
  | .part i sz o n c, h => by cases h
  | .dpf L, _ => rfl
  | .pin b L, _ => rfl
  | .slf sz n L, _ => rfl
  | .slc sz n L, _ => rfl
  | .tup l, h => by rw [sb, sbL_nl τ l (by simpa [D.nl] using h)]; rfl
  | .agg l, h => by rw [sb, sbL_nl τ l (by simpa [D.nl] using h)]; rfl
  | .dpm l, _ => rfl
  | .slm sz n l, _ => rfl
  | .fn f a b, h => by
    rw [D.nl, Bool.and_eq_true] at h
    rw [sb, sbL_nl τ a h.1, sbL_nl τ b h.2]
  | .ifc t d, h => by rw [sb, sb_nl τ d (by simpa [D.nl] using h)]; rfl
  | .opt b d, h => by rw [sb, sb_nl τ d (by simpa [D.nl] using h)]; rfl
  | .hnd i, h => by cases h
  | .yld i, h => by cases h
  | .junk, _ => rfl
theorem sbL_nl (τ : List Nat) : ∀ l : List D, D.nlL l = true → sbL τ l = some l
  | [], _ => rfl
  | d :: l, h => by
    rw [D.nlL, Bool.and_eq_true] at h
    rw [sbL, sb_nl τ d h.1, sbL_nl τ l h.2]
end
section
variable {P : Program} {pc : Bool} {o : Oper} {F : Fr} {M : List Blk} {T : TypeId} {x y : Operand} {n : Nat} {k : IntKind} {z : Int} {j : Nat}
/-- an array whose elements have one cell -/
def arW (P : Program) (T : TypeId) : Option Nat := match P.underlying T with
  | some (.array n e) => match tyB P e with
    | some (false, 1) => some n
    | _ => none
  | _ => none
theorem arW_spec (h : arW P T = some n) : ∃ e, P.underlying T = some (.array n e) ∧ tyB P e = some (false, 1) := by
  unfold arW at h
  split at h
  · rename_i m e hu
    split at h
    · rename_i hs; cases h; exact ⟨e, hu, hs⟩
    · cases h
  · cases h
theorem op_ixw {ds : List D} {d : D} (j : Nat) (ho : o.op = .index T x y) (hT : arW P T = some n) (hx : Ev pc F x (.agg ds)) (hy : Ev pc F y (.val (.int k z))) (hz : pc = true → z = (j : Int)) (hj : j < n) (hd : ds[j]? = some d) : DOp P pc o F M [] d [] := by
  intro hp a s hok hops _
  have hr := ev_at hp hx (by simp [ho, Op.operands]) hops
  have e2 := (ev_at hp hy (by simp [ho, Op.operands]) hops).val_eq
  rw [hz hp] at e2
  obtain ⟨e, hu, he⟩ := arW_spec hT
  obtain ⟨dd, i, h1, h2, h3, h4⟩ := tyB_spec he
  generalize hv : a.eval x = vx at hr
  cases hr with
  | @agg _ vs hvl hel =>
    have hjl : j < vs.length := by rw [hvl]; exact (List.getElem?_eq_some_iff.1 hd).1
    refine dg_val (v := vs[j]) hok ?_ (hel j _ _ hd (List.getElem?_eq_getElem hjl))
    unfold execOp
    simp only [ho, hv, e2]
    refine run_v ?_
    have hagg : (isAgg e).run P s.w = .ok false s.w := by
      unfold isAgg
      rw [Sem.run_bind, run_underlying h1]
      cases dd <;> first | rfl | cases h3
    have hsz : (sizeOf e).run P s.w = .ok 1 s.w := by simp [sizeOf, typeInfo, h2, h4]
    have hb : (0 : Int) ≤ (j : Int) ∧ (j : Int) < (n : Int) := by omega
    unfold Instr.index
    simp only [Sem.run_bind, asIntOf, Sem.run_pure, Result.andThen_ok, run_underlying hu, hb, and_self, if_true, hsz, part, hagg, Int.toNat_natCast, Nat.mul_one]
    simp [hjl]
end
end Go.Proofs.YtfnhckildfbikaaGreat
namespace Go.Proofs.YtfnhckildfbikaaGreat
set_option linter.unusedVariables false
set_option linter.unusedSimpArgs false
open Go.ChangeShapes Go.WideShapes Go.ChangeAt Go.RowKit Go.Joins Go.Deep
/-- fields that read as data, from cell o on -/
def OpensF (P : Program) (w : World) {α : Type} (fs : List Field) (o tot : Nat) (mk : α → List D) (ok : α → Prop) : Prop :=
  ∀ (H : Type) (enc : TypeId × Value → H) (base : Nat) (spare : Nat → Bool) (held : Bool) (n : Nat) (cs : List Value), cs.length = tot → (∀ f, f ∈ fs → ∃ x, DataW.trod enc P w base spare held n f.type ((cs.drop f.offset).take (P.cellsOf f.type)) = some x) → ∃ a, ok a ∧ Reps (st0 w) (mk a) (cs.drop o)
section
variable {P : Program} {w : World}
theorem opensF_nil {tot : Nat} : OpensF P w ([] : List Field) tot tot (fun _ : Unit => []) (fun _ => True) := fun H enc base spare held n cs hl _ =>
  ⟨(), trivial, by rw [List.drop_eq_nil_of_le (by omega)]; exact ⟨rfl, fun j d v h => by simp at h⟩⟩
theorem opensF_cons {α β : Type} {f : Field} {fs : List Field} {o k tot : Nat} {mk : α → List D} {mk' : β → List D} {ok : α → Prop} {ok' : β → Prop} (ho : f.offset = o) (hk : P.cellsOf f.type = k) (h : Opens P w f.type mk ok) (h' : OpensF P w fs (o + k) tot mk' ok') :
    OpensF P w (f :: fs) o tot (fun a : α × β => mk a.1 ++ mk' a.2) (fun a => ok a.1 ∧ ok' a.2) := by
  intro H enc base spare held n cs hl hall
  obtain ⟨x, hx⟩ := hall f (List.mem_cons_self ..)
  rw [ho, hk] at hx
  obtain ⟨a, h1, h2⟩ := h H enc base spare held n _ x hx
  obtain ⟨b, h3, h4⟩ := h' H enc base spare held n cs hl fun g hg => hall g (List.mem_cons_of_mem _ hg)
  refine ⟨(a, b), ⟨h1, h3⟩, ?_⟩
  have e : cs.drop o = (cs.drop o).take k ++ cs.drop (o + k) := by rw [← List.drop_drop, List.take_append_drop]
  rw [e]
  exact reps_app2 h2 h4
theorem opens_struct {α : Type} {t : TypeId} {fs : Array Field} {tot : Nat} {mk : α → List D} {ok : α → Prop} (hu : P.underlying t = some (.struct fs)) (ht : P.cellsOf t = tot) (h : OpensF P w fs.toList 0 tot mk ok) : Opens P w t mk ok := by
  intro H enc base spare held n cs x hx
  obtain ⟨xs, m, _, _, hl, hlen, hf⟩ := DataW.trod_struct hu hx
  obtain ⟨a, h1, h2⟩ := h H enc base spare held m cs (by rw [hl, ht]) fun f hfm => by
    obtain ⟨i, hi, rfl⟩ := List.getElem_of_mem hfm
    have hi' : i < fs.size := by simpa using hi
    have h3 := hf i fs[i] (Array.getElem?_eq_getElem hi')
    rw [List.getElem?_eq_getElem (by omega)] at h3
    exact ⟨_, by simpa using h3⟩
  exact ⟨a, h1, by simpa using h2⟩
theorem opens_map {α β : Type} {t : TypeId} {mk : α → List D} {ok : α → Prop} {mk' : β → List D} {ok' : β → Prop} (g : α → β) (h : Opens P w t mk ok) (hm : ∀ a, mk a = mk' (g a)) (ho : ∀ a, ok a → ok' (g a)) : Opens P w t mk' ok' := by
  intro H enc base spare held n cs x hx
  obtain ⟨a, h1, h2⟩ := h H enc base spare held n cs x hx
  exact ⟨g a, ho a h1, by rw [← hm]; exact h2⟩
end
set_option maxRecDepth 100000
/-- a struct among the arguments that opens -/
theorem open_agg {H : Type} {enc : TypeId × Value → H} {w : World} {base : Nat} {spare : Nat → Bool} {held : Bool} {α : Type} {t : TypeId} {fs : Array Field} {mk : α → List D} {ok : α → Prop} {v : Value} {d : DataW H} {p : List MemPlace} {r : Reach} {b0 : Nat} (hu : Tryz.prog.underlying t = some (.struct fs)) (ho : Opens Tryz.prog w t mk ok) (hv : Value.okWide Tryz.prog w r b0 t v) (h : DataW.Trod enc Tryz.prog w base spare held t v d p) :
    ∃ a, ok a ∧ Rep (st0 w) (.agg (mk a)) v := by
  obtain ⟨cs, rfl, hsz⟩ := okWide_struct hu hv
  obtain ⟨fuel, hfu⟩ := h
  obtain ⟨a, hok, hr⟩ := ho H enc base spare held _ _ _ hfu
  have h5 := Rep.agg (s := st0 w) (l := mk a) (vs := cs.toList) hr.1 hr.2
  rw [Array.toArray_toList] at h5
  exact ⟨a, hok, h5⟩
end Go.Proofs.YtfnhckildfbikaaGreat
namespace Go.Proofs.YtfnhckildfbikaaGreat
set_option linter.unusedVariables false
set_option linter.unusedSimpArgs false
open Go.RowKit
section
variable {P : Program} {pc : Bool} {o : Oper} {F : Fr} {M : List Blk}
/-- a part of a struct's variable, all of whose cells are plain -/
theorem op_ldmv {T T' : TypeId} {x : Operand} {i p k : Nat} {l : List D} {R : List Value} (ho : o.op = .load T x) (hT : tyB P T = some (true, k)) (hx : Ev pc F x (.loc i p)) (hM : M[i]? = some (.mix T' l)) (hR : (l.drop p).take k = R.map .val) (hl : R.length = k) : DOp P pc o F M [i] (.val (.agg R.toArray)) [] := by
  intro hp a s hok hops hfp
  have hr := ev_at hp hx (by simp [ho, Op.operands]) hops
  generalize hv : a.eval x = vx at hr
  cases hr with
  | @loc _ _ b h =>
    obtain ⟨b', vs, e1, e2, e3, e4⟩ := hok.blk i _ _ (by rw [hfp i (by simp)]; exact hM) h
    cases e1
    have hvs : (vs.drop p).take k = R := by
      have hlen : ((vs.drop p).take k).length = R.length := by
        have h1 := congrArg List.length hR
        rw [List.length_take, List.length_drop, List.length_map] at h1
        rw [List.length_take, List.length_drop, e3, h1]
      refine List.ext_getElem hlen fun j h1 h2 => ?_
      have h3 : ((l.drop p).take k)[j]? = some (.val R[j]) := by rw [hR, List.getElem?_map, List.getElem?_eq_getElem h2]; rfl
      have hjk : j < k := by omega
      rw [List.getElem?_take, if_pos hjk, List.getElem?_drop] at h3
      have h5 : vs[p + j]? = some ((vs.drop p).take k)[j] := by
        have := List.getElem?_eq_getElem h1
        rw [List.getElem?_take, if_pos hjk, List.getElem?_drop] at this
        exact this
      exact (e4 _ _ _ h3 h5).val_eq
    have hc : cellsAt s.w b 0 vs := cellsAt_block e2 0
    have hr := cellsAt_range hc p k hvs
    rw [Nat.zero_add] at hr
    exact dg_val hok (run_load_row ho hT hv hr hl) (.val _)
end
end Go.Proofs.YtfnhckildfbikaaGreat
namespace Go.Proofs.YtfnhckildfbikaaGreat
set_option linter.unusedVariables false
set_option linter.unusedSimpArgs false
open Go.RowKit
def Mem.blk : Mem → Blk
  | .gone => .gone
  | .flat T L => .flat T L
  | .arr T sz n L => .arr T sz n L
  | .que T sz n L => .que T sz n L
theorem mem_blk {s : St} {h : Value} {B : Mem} (hk : BlkOk s h B.blk) : MemOk s.w h B := by cases B <;> exact hk
theorem blk_live (B : Mem) : B.blk.live = B.live := by cases B <;> rfl
theorem blk_owns {B : Mem} {h : Value} {b : Nat} : owns B.blk h b ↔ hb h = some b := by cases B <;> exact Iff.rfl
/-- a block joins a family -/
theorem tr_abs {s : St} (ho : Ok s) {i j : Nat} {Bs : List Mem} {B : Mem} {hs : List Value} {h : Value} (hi : s.M[i]? = some (.fam Bs)) (hj : s.M[j]? = some B.blk) (hl : B.live = true) (hβi : s.β[i]? = some (.tuple hs.toArray)) (hβj : s.β[j]? = some h) :
    Tr s ⟨s.β.set i (.tuple (hs ++ [h]).toArray), s.I, (s.M.set j .gone).set i (.fam (Bs ++ [B])), s.w⟩ := by
  have hne : i ≠ j := fun e => by subst e; rw [hi] at hj; cases B <;> cases hj
  have hil := (List.getElem?_eq_some_iff.1 hi).1
  have hjl := (List.getElem?_eq_some_iff.1 hj).1
  have hf := fam_at (k := 0) ho hi hβi
  have hlen := hf.len
  have hm : MemOk s.w h B := mem_blk (ho.blk j _ h hj hβj)
  have other : ∀ b, owns (.fam (Bs ++ [B])) (.tuple (hs ++ [h]).toArray) b → owns (.fam Bs) (.tuple hs.toArray) b ∨ hb h = some b := by
    rintro b ⟨hs', k, B', u, e1, e2, e3, e4, e5⟩
    have e1 : hs ++ [h] = hs' := by simpa using e1
    subst e1
    by_cases hk : k < Bs.length
    · rw [List.getElem?_append_left hk] at e2
      rw [List.getElem?_append_left (by omega)] at e4
      exact .inl ⟨hs, k, B', u, rfl, e2, e3, e4, e5⟩
    · rw [List.getElem?_append_right (by omega)] at e2 e4
      have hk0 : k - hs.length = 0 := by have := (List.getElem?_eq_some_iff.1 e4).1; simp at this; omega
      rw [hk0] at e4
      simp at e4
      subst e4
      exact .inr e5
  have lvi : ∀ b, owns (.fam Bs) (.tuple hs.toArray) b → Live s b := fun b hb => live_of hi rfl hβi hb
  have lvj : ∀ b, hb h = some b → Live s b := fun b hb => live_of hj (by rw [blk_live]; exact hl) hβj (blk_owns.2 hb)
  have ne : ∀ (k : Nat) kb, (s.M.set j .gone)[k]? = some kb → kb.live = true → j ≠ k ∧ s.M[k]? = some kb := fun k kb hkb hlv => by
    by_cases hk : j = k
    · subst hk
      rw [List.getElem?_set_self hjl] at hkb
      cases hkb; cases hlv
    · rw [List.getElem?_set_ne hk] at hkb; exact ⟨hk, hkb⟩
  refine step_set ho i (s.M.set j .gone) _ _ s.w (by simp) (fun k kb hkb => ?_) hil (.inr (.inr ⟨hs, hs ++ [h], hβi, rfl, fun k u hu => ?_⟩)) (by simp) ⟨_, rfl, ?_⟩ (fun b hb k kb hh hne' q1 q2 q3 q4 => ?_) (fun b hb => .inr ((other b hb).elim (lvi b) (lvj b))) (fun b hb => (ho.lt b ((other b hb).elim (lvi b) (lvj b))).1) (fun _ => False) (fun _ h => h.elim) (fun _ _ _ _ => rfl) rfl rfl rfl (Nat.le_refl _)
  · by_cases hk : j = k
    · subst hk
      rw [List.getElem?_set_self hjl] at hkb
      exact .inr (Option.some.inj hkb).symm
    · rw [List.getElem?_set_ne hk] at hkb; exact .inl hkb
  · rw [List.getElem?_append_left (List.getElem?_eq_some_iff.1 hu).1]; exact hu
  · have split : ∀ (k : Nat) B' u, (Bs ++ [B])[k]? = some B' → (hs ++ [h])[k]? = some u → (Bs[k]? = some B' ∧ hs[k]? = some u) ∨ (k = Bs.length ∧ B' = B ∧ u = h) := by
      intro k B' u e2 e4
      by_cases hk : k < Bs.length
      · rw [List.getElem?_append_left hk] at e2
        rw [List.getElem?_append_left (by omega)] at e4
        exact .inl ⟨e2, e4⟩
      · rw [List.getElem?_append_right (by omega)] at e2 e4
        have hk0 : k - Bs.length = 0 := by have := (List.getElem?_eq_some_iff.1 e2).1; simp at this; omega
        rw [show k - hs.length = 0 by omega] at e4
        rw [hk0] at e2
        simp at e2 e4
        exact .inr ⟨by omega, e2.symm, e4.symm⟩
    refine ⟨by simp [hlen], fun k B' u e2 e4 => ?_, fun k k' B1 B2 u1 u2 b e1 l1 e2 e3 f1 l2 f2 f3 => ?_⟩
    · rcases split k B' u e2 e4 with ⟨a, c⟩ | ⟨_, rfl, rfl⟩
      · exact hf.ok k B' u a c
      · exact hm
    · rcases split k B1 u1 e1 e2 with ⟨a, c⟩ | ⟨rfl, rfl, rfl⟩ <;> rcases split k' B2 u2 f1 f2 with ⟨a', c'⟩ | ⟨rfl, rfl, rfl⟩
      · exact hf.inj k k' B1 B2 u1 u2 b a l1 c e3 a' l2 c' f3
      · exact absurd (ho.inj i j _ _ _ _ b hi rfl hβi ⟨hs, k, B1, u1, rfl, a, l1, c, e3⟩ hj (by rw [blk_live]; exact hl) hβj (blk_owns.2 f3)) hne
      · exact absurd (ho.inj i j _ _ _ _ b hi rfl hβi ⟨hs, k', B2, u2, rfl, a', l2, c', f3⟩ hj (by rw [blk_live]; exact hl) hβj (blk_owns.2 e3)) hne
      · rfl
  · obtain ⟨hjk, q1⟩ := ne k kb q1 q2
    rcases other b hb with h1 | h1
    · exact hne' (ho.inj i k _ kb _ hh b hi rfl hβi h1 q1 q2 q3 q4).symm
    · exact hjk (ho.inj j k _ kb _ hh b hj (by rw [blk_live]; exact hl) hβj (blk_owns.2 h1) q1 q2 q3 q4)
/-- an empty family -/
theorem tr_fam {s : St} (ho : Ok s) {j : Nat} (hj : s.M[j]? = some .hole) : Tr s ⟨s.β.set j (.tuple #[]), s.I, s.M.set j (.fam []), s.w⟩ := by
  have hjl : j < s.M.length := (List.getElem?_eq_some_iff.1 hj).1
  have hβ : s.β[j]? = some .nilFunc := by
    have hjb : j < s.β.length := by rw [ho.len]; exact hjl
    have e : s.β[j]? = some s.β[j] := List.getElem?_eq_getElem hjb
    have : s.β[j] = .nilFunc := ho.blk j .hole _ hj e
    rw [e, this]
  have no : ∀ b, ¬ owns (.fam []) (.tuple #[]) b := by
    rintro b ⟨hs, k, B, u, e1, e2, _⟩
    simp at e2
  exact step_set ho j s.M (.tuple #[]) (.fam []) s.w rfl (fun i k h => .inl h) hjl (.inl hβ) (by simp) ⟨[], rfl, rfl, fun k B u h => by simp at h, fun k k' B B' u u' b h => by simp at h⟩ (fun b hb => (no b hb).elim) (fun b hb => (no b hb).elim) (fun b hb => (no b hb).elim) (fun _ => False) (fun _ h => h.elim) (fun _ _ _ _ => rfl) rfl rfl rfl (Nat.le_refl _)
section
variable {P : Program} {s0 : St} {n : Cx}
theorem inv_fam {F : Fr} {M : List Blk} {a : Act} {w : World} {j : Nat} (h : Inv s0 n F M a w) (hj : M[j]? = some .hole) : Inv s0 n F (M.set j (.fam [])) a w := by
  obtain ⟨h0, s, rfl, rfl, h3, h4, h5, h6⟩ := h
  have tt := tr_fam h3.ok hj
  exact ⟨h0, ⟨s.β.set j (.tuple #[]), s.I, s.M.set j (.fam []), s.w⟩, rfl, rfl, h3.trans tt, fun x d hd => (h4 x d hd).mono h3.ok tt, h5, h6.mono h3.ok tt⟩
/-- an empty family is laid -/
theorem dwp_fam {c : Code} {F : Fr} {M M' : List Blk} {K : Cont} (j : Nat) (hj : M[j]? = some .hole) (hM' : M.set j (.fam []) = M') (h : dwp P s0 n c F M' K) : dwp P s0 n c F M K := by
  subst hM'
  exact fun a w hi => h a w (inv_fam hi hj)
end
end Go.Proofs.YtfnhckildfbikaaGreat
namespace Go.Proofs.YtfnhckildfbikaaGreat
set_option linter.unusedVariables false
set_option linter.unusedSimpArgs false
open Go.RowKit
/-- a store into a family's member -/
theorem tr_stf {s : St} (ho : Ok s) {i k : Nat} {Bs : List Mem} {hs : List Value} {B B' : Mem} {u : Value} {b : Nat} (hi : s.M[i]? = some (.fam Bs)) (hβ : s.β[i]? = some (.tuple hs.toArray)) (hB : Bs[k]? = some B) (hl : B.live = true) (hl' : B'.live = true) (hu : hs[k]? = some u) (hub : hb u = some b) (p : Nat) (C : List Value)
    (hm : MemOk (s.w.setCells b p C) u B') : Tr s ⟨s.β.set i (.tuple hs.toArray), s.I, s.M.set i (.fam (Bs.set k B')), s.w.setCells b p C⟩ := by
  have hil := (List.getElem?_eq_some_iff.1 hi).1
  have hf := fam_at (k := k) ho hi hβ
  obtain ⟨r1, r2, r3, r4⟩ := setCells_rest b C p s.w
  have hkl := (List.getElem?_eq_some_iff.1 hB).1
  have old : ∀ (q : Nat) X, (Bs.set k B')[q]? = some X → X.live = true → ∃ Y, Bs[q]? = some Y ∧ Y.live = true := by
    intro q X h1 h2
    by_cases e : k = q
    · subst e; exact ⟨B, hB, hl⟩
    · rw [List.getElem?_set_ne e] at h1; exact ⟨X, h1, h2⟩
  have tw : ∀ b', owns (.fam (Bs.set k B')) (.tuple hs.toArray) b' → owns (.fam Bs) (.tuple hs.toArray) b' := by
    rintro b' ⟨hs', q, X, y, e1, e2, e3, e4, e5⟩
    have e1 : hs = hs' := by simpa using e1
    subst e1
    obtain ⟨Y, f1, f2⟩ := old q X e2 e3
    exact ⟨hs, q, Y, y, rfl, f1, f2, e4, e5⟩
  refine step_set ho i s.M _ _ _ rfl (fun _ _ h => .inl h) hil (.inr (.inl hβ)) (by simp) ⟨hs, rfl, by rw [List.length_set]; exact hf.len, fun q X y h1 h2 => ?_, fun q q' X X' y y' b' h1 l1 h2 h3 g1 m1 g2 g3 => ?_⟩ (fun b' hb' j kj hj hne h1 h2 h3 h4 => ?_) (fun b' hb' => .inr (live_of hi rfl hβ (tw b' hb'))) (fun b' hb' => ?_) (fun _ => False) (fun _ h => h.elim) (fun b' hlt hne _ => ?_) r2 r3 r4 (by rw [r1]; exact Nat.le_refl _)
  · by_cases e : k = q
    · subst e
      rw [List.getElem?_set_self hkl] at h1
      cases h1
      rw [hu] at h2; cases h2
      exact hm
    · rw [List.getElem?_set_ne e] at h1
      refine (hf.ok q X y h1 h2).mono fun b' hlv hbb => setCells_other b C p s.w b' fun e2 => ?_
      subst e2
      exact e (hf.inj k q B X u y b' hB hl hu hub h1 hlv h2 hbb)
  · obtain ⟨Y, f1, f2⟩ := old q X h1 l1
    obtain ⟨Y', f1', f2'⟩ := old q' X' g1 m1
    exact hf.inj q q' Y Y' y y' b' f1 f2 h2 h3 f1' f2' g2 g3
  · exact hne (ho.inj j i kj _ hj _ b' h1 h2 h3 h4 hi rfl hβ (tw b' hb'))
  · rw [r1]; exact (ho.lt b' (live_of hi rfl hβ (tw b' hb'))).1
  · refine setCells_other b C p s.w b' fun e => hne ?_
    rw [e]
    exact ⟨hs, k, B', u, rfl, by rw [List.getElem?_set_self hkl], hl', hu, hub⟩
section
variable {P : Program} {pc : Bool} {o : Oper} {F : Fr} {M : List Blk}
theorem op_appxx {T e T2 : TypeId} {by' n m i j q : Nat} {x y : Operand} {l l2 : List D} {Z : List Value} (ho : o.op = .call { callee := .builtin .append, args := #[x, y], argTypes := #[T, T] }) (hT : slE P T = some (e, 1, by')) (hZ : zrC P e = some Z) (hZl : Z.length = 1)
    (hx : Ev pc F x (.arr i)) (hy : Ev pc F y (.arr q)) (hMq : M[q]? = some (.arx T2 1 m l2)) (hM : M[i]? = some (.arx e 1 n l)) (hj : M[j]? = some .hole) (h1 : l2.all D.oc2 = true) (hbd : pc = true → (n + m) * by' ≤ 140737488355328 ∧ n + m ≤ 140737488355328) :
    DOp P pc o F M [i, j, q] (.arr j) [(i, .gone), (j, .arx e 1 (n + m) (l ++ l2))] := by
  intro hp a s hok hops hfp
  obtain ⟨e1, ti, e2, e3, e4⟩ := slE_spec hT
  obtain ⟨ti', z, q1, q2, q3⟩ := zrC_spec hZ
  rw [e2] at q1
  obtain rfl := Option.some.inj q1
  obtain ⟨b1, b2⟩ := hbd hp
  have hM' : s.M[i]? = some (.arx e 1 n l) := by rw [hfp i (by simp)]; exact hM
  have hj' : s.M[j]? = some .hole := by rw [hfp j (by simp)]; exact hj
  have hij : i ≠ j := fun h => by subst h; rw [hM'] at hj'; cases hj'
  have hjl : j < s.β.length := by rw [hok.len]; exact (List.getElem?_eq_some_iff.1 hj').1
  have hrx := ev_at hp hx (by simp [ho, Op.operands, Call.operands]) hops
  have hry := ev_at hp hy (by simp [ho, Op.operands, Call.operands]) hops
  generalize hv : a.eval x = vx at hrx
  generalize hvy : a.eval y = vy at hry
  cases hry with
  | @arr _ a2 m2 cap2 hβq =>
  have hMq' : s.M[q]? = some (.arx T2 1 m l2) := by rw [hfp q (by simp)]; exact hMq
  obtain ⟨vs2, hk2, hvl2, hel2⟩ := hok.blk q _ _ hMq' hβq
  have hl2 : l2.length = m * 1 := by rw [← hvl2]; exact hk2.1
  have hso : SrcOk s (.slice a2 m2 cap2) m vs2 := by
    rcases hk2.2 with ⟨e1, e2⟩ | ⟨g, cap, cur, e1, e2, e3, e4, e5, e6, e7⟩
    · cases e1
      exact ⟨none, 0, by rw [e2], .inl ⟨rfl, e2, rfl, List.eq_nil_of_length_eq_zero (by rw [hvl2, hl2, e2])⟩⟩
    · cases e1
      refine ⟨_, _, rfl, .inr ⟨_, rfl, fun k u hk => ?_⟩⟩
      rw [Addr.add_mid]
      have hc0 := cellsAt_sub (cellsAt_block e3 0) 0 (m * 1)
      rw [Nat.mul_one] at e7
      have hc1 : cellsAt s.w g 0 vs2 := by simpa [e7] using hc0
      exact hc1 k u hk
  have hone : ∀ u ∈ vs2, u.oneCell' = true := fun u hu => by
    obtain ⟨k, hk, rfl⟩ := List.getElem_of_mem hu
    have hk2 : k < l2.length := by omega
    exact oc2_one (hel2 k _ _ (List.getElem?_eq_getElem hk2) (List.getElem?_eq_getElem hk)) (List.all_eq_true.1 h1 _ (List.getElem_mem hk2))
  cases hrx with
  | @arr _ ad n' c hβ =>
    obtain ⟨vs, hk, hvl, hel⟩ := hok.blk i _ _ hM' hβ
    obtain ⟨h', w', r1, r2, r3, r4⟩ := run_append_D (P := P) (ty := o.type) (m := m) e1 e2 e3 e4 q2 (by rw [← hZl, ← q3]; simp) hk (by rw [hvl2]; exact hl2) hso hone (by unfold maxLen; omega) b1
    have hs' : (h' = .slice none 0 0) ∨ ∃ a n c, h' = .slice (some a) n c := by
      rcases r2.2 with ⟨q, _⟩ | ⟨g, cap, cur, q, _⟩
      · exact .inl q
      · exact .inr ⟨_, _, _, q⟩
    have hs0 : (Value.slice ad n' c = .slice none 0 0) ∨ ∃ a n k, Value.slice ad n' c = .slice (some a) n k := by
      rcases hk.2 with ⟨q, _⟩ | ⟨g, cap, cur, q, _⟩
      · exact .inl q
      · exact .inr ⟨_, _, _, q⟩
    have o1 := hb_own hs'
    have o0 := hb_own hs0
    have hblk : s.w.heap.size ≤ w'.heap.size := r3.size
    have hβj : s.β[j]? = some .nilFunc := by
      have q : s.β[j]? = some s.β[j] := List.getElem?_eq_getElem hjl
      have : s.β[j] = .nilFunc := hok.blk j .hole _ hj' q
      rw [q, this]
    have from_ : ∀ b, hb h' = some b → s.w.heap.size ≤ b ∨ (hb (Value.slice ad n' c) = some b) := by
      intro b hbb
      rw [o1] at hbb
      rcases r4 b hbb with h | h
      · exact .inr (by rw [o0]; exact h)
      · exact .inl h
    have hnd' : ∀ (k : Nat) h, s.β[k]? = some h → h ≠ .nilFunc → (s.β.set j h')[k]? = some h := fun k h hk' hne => by
      by_cases e : j = k
      · subst e; rw [hβj] at hk'; exact absurd (Option.some.inj hk').symm hne
      · rw [List.getElem?_set_ne e]; exact hk'
    have imm' : ∀ b, s.I b → w'.heap[b]? = s.w.heap[b]? := fun b hI => r3.block b (hok.il b hI) fun h => by
      rw [← o0] at h
      exact (hok.lt b (live_of hM' rfl hβ h.symm)).2 hI
    have hblkx : BlkOk ⟨s.β.set j h', s.I, (s.M.set i .gone).set j (.arx e 1 (n + m) (l ++ l2)), w'⟩ h' (.arx e 1 (n + m) (l ++ l2)) := by
      refine ⟨vs ++ vs2, r2, by simp [hvl, hvl2], fun k d v hk1 hk2 => ?_⟩
      by_cases hlt : k < l.length
      · rw [List.getElem?_append_left hlt] at hk1
        rw [List.getElem?_append_left (by omega)] at hk2
        exact Rep.mono' (s' := ⟨s.β.set j h', s.I, (s.M.set i .gone).set j (.arx e 1 (n + m) (l ++ l2)), w'⟩) hnd' (fun _ h => h) imm' (hel k d v hk1 hk2)
      · rw [List.getElem?_append_right (by omega)] at hk1 hk2
        rw [hvl] at hk2
        exact Rep.mono' (s' := ⟨s.β.set j h', s.I, (s.M.set i .gone).set j (.arx e 1 (n + m) (l ++ l2)), w'⟩) hnd' (fun _ h => h) imm' (hel2 _ d v hk1 hk2)
    have ht : Tr s ⟨s.β.set j h', s.I, (s.M.set i .gone).set j (.arx e 1 (n + m) (l ++ l2)), w'⟩ := by
      refine step_set hok j (s.M.set i .gone) h' _ w' (by simp) (fun k kb hkb => ?_) (by rw [← hok.len]; exact hjl) (.inl hβj) (by rcases hs' with rfl | ⟨_, _, _, rfl⟩ <;> simp) hblkx (fun b hbb k kb hh hne q1 q2 q3 q4 => ?_) (fun b hbb => (from_ b hbb).imp id fun h => live_of hM' rfl hβ h) (fun b hbb => ?_) (fun b => hb (Value.slice ad n' c) = some b) (fun b hdr => ⟨live_of hM' rfl hβ hdr, fun k kb hh hne q1 q2 q3 q4 => ?_⟩) (fun b hlt hne hnd => ?_) r3.os r3.tape r3.output hblk
      · by_cases hki : i = k
        · subst hki
          have hlt : i < s.M.length := (List.getElem?_eq_some_iff.1 hM').1
          rw [List.getElem?_set_self hlt] at hkb
          exact .inr (Option.some.inj hkb).symm
        · rw [List.getElem?_set_ne hki] at hkb; exact .inl hkb
      · have hki : i ≠ k := fun h => by
          subst h
          have hlt : i < s.M.length := (List.getElem?_eq_some_iff.1 hM').1
          rw [List.getElem?_set_self hlt] at q1
          cases q1; cases q2
        rw [List.getElem?_set_ne hki] at q1
        rcases from_ b hbb with h | h
        · exact absurd (hok.lt b (live_of q1 q2 q3 q4)).1 (Nat.not_lt.2 h)
        · exact hki (hok.inj i k _ kb _ hh b hM' rfl hβ h q1 q2 q3 q4)
      · replace hbb : hb h' = some b := hbb
        rw [o1] at hbb
        exact (r2.lt b hbb).2
      · have hki : i ≠ k := fun h => by
          subst h
          have hlt : i < s.M.length := (List.getElem?_eq_some_iff.1 hM').1
          rw [List.getElem?_set_self hlt] at q1
          cases q1; cases q2
        rw [List.getElem?_set_ne hki] at q1
        exact hki (hok.inj i k _ kb _ hh b hM' rfl hβ hdr q1 q2 q3 q4)
      · exact r3.block b hlt fun h => hnd (by rw [o0]; exact h.symm)
    refine dg_step (s' := ⟨s.β.set j h', s.I, (s.M.set i .gone).set j (.arx e 1 (n + m) (l ++ l2)), w'⟩) (run_builtin ho (fun cs => by rfl) (by simpa [hv, hvy] using r1)) ht rfl ?_
    rcases hs' with rfl | ⟨_, _, _, rfl⟩
    · exact .arr (by simp [hjl])
    · exact .arr (by simp [hjl])
end
/-- rows whose cells have other names elsewhere -/
theorem vwL_flatG {α : Type} {σ : List Nat} {V : Nat → Bool} {M : List Blk} {f g : α → D} (h : ∀ a, vw σ V M (f a) = some (g a)) : ∀ l : List α, vwL σ V M (l.flatMap fun a => [f a]) = some (l.flatMap fun a => [g a])
  | [] => rfl
  | a :: l => by
    rw [List.flatMap_cons, List.flatMap_cons]
    show vwL σ V M (f a :: l.flatMap fun a => [f a]) = some (g a :: l.flatMap fun a => [g a])
    rw [vwL, h a, vwL_flatG h l]
theorem sbL_flatG {α : Type} {τ : List Nat} {f g : α → D} (h : ∀ a, sb τ (f a) = some (g a)) : ∀ l : List α, sbL τ (l.flatMap fun a => [f a]) = some (l.flatMap fun a => [g a])
  | [] => rfl
  | a :: l => by
    rw [List.flatMap_cons, List.flatMap_cons]
    show sbL τ (f a :: l.flatMap fun a => [f a]) = some (g a :: l.flatMap fun a => [g a])
    rw [sbL, h a, sbL_flatG h l]
theorem flat_map1 {α β : Type} (f : α → β) : ∀ l : List α, (l.flatMap fun a => [f a]) = l.map f
  | [] => rfl
  | a :: l => by rw [List.flatMap_cons, flat_map1 f l]; rfl
section
variable {P : Program} {pc : Bool} {o : Oper} {F : Fr} {M : List Blk}
end
end Go.Proofs.YtfnhckildfbikaaGreat
namespace Go.Proofs.YtfnhckildfbikaaGreat
set_option linter.unusedVariables false
set_option linter.unusedSimpArgs false
open Go.RowKit
section
variable {P : Program} {pc : Bool} {o : Oper} {F : Fr} {M : List Blk}
/-- a struct of data that names no block, boxed: it stays -/
theorem op_boxf {T : TypeId} {x : Operand} {ds : List D} (hnl : D.nlL ds = true) (ho : o.op = .box T x) (hx : Ev pc F x (.agg ds)) : DOp P pc o F M [] (.dpm ds) [] := by
  intro hp a s hok hops hfp
  have hr := ev_at hp hx (by simp [ho, Op.operands]) hops
  generalize hv : a.eval x = vx at hr
  cases hr with
  | @agg _ vs hvl h =>
    have ht := step_imm hok (.cells vs.toArray T)
    have hrun : (execOp a.eval o).run P s.w = .ok (.value (.pointer (some ⟨s.w.heap.size, 0, none⟩))) (s.w.alloc (.cells vs.toArray T)) := by
      unfold execOp
      simp only [ho, hv]
      exact run_v (by simp only [Instr.box, Sem.run_bind, run_newVar, Result.andThen_ok, Sem.run_pure]; rfl)
    refine dg_step (s' := ⟨s.β, fun b => s.I b ∨ b = s.w.heap.size, s.M, s.w.alloc (.cells vs.toArray T)⟩) hrun ht rfl (.dpm hnl (.inr rfl) ?_ hvl fun j d v h1 h2 => (h j d v h1 h2).mono hok ht)
    simpa using cellsAt_block (heap_alloc_new s.w _) 0
end
/-- a block is forgotten -/
theorem tr_gone {s : St} (ho : Ok s) (i : Nat) : Tr s ⟨s.β, s.I, s.M.set i .gone, s.w⟩ := by
  have hnd : ∀ (i : Nat) h, s.β[i]? = some h → h ≠ .nilFunc → s.β[i]? = some h := fun _ _ h _ => h
  have old : ∀ (j : Nat) k, (s.M.set i .gone)[j]? = some k → k = .gone ∨ s.M[j]? = some k := fun j k hj => by
    by_cases e : i = j
    · subst e
      by_cases hl : i < s.M.length
      · rw [List.getElem?_set_self hl] at hj
        exact .inl (Option.some.inj hj).symm
      · rw [List.getElem?_eq_none (by simp; omega)] at hj; cases hj
    · rw [List.getElem?_set_ne e] at hj; exact .inr hj
  have lv : ∀ b, Live ⟨s.β, s.I, s.M.set i .gone, s.w⟩ b → Live s b := by
    rintro b ⟨j, k, h, h1, h2, h3, h4⟩
    rcases old j k h1 with rfl | h1
    · cases h2
    · exact live_of h1 h2 h3 h4
  refine ⟨⟨by simp [ho.len], fun j k h h1 h2 => ?_, fun b hb => ho.lt b (lv b hb), ?_, ho.il⟩, hkeep_of hnd, fun _ h => h, fun _ h => .inl h, fun _ _ _ => rfl, fun b h => .inr (lv b h), rfl, rfl, rfl, Nat.le_refl _⟩
  · rcases old j k h1 with rfl | h1
    · trivial
    · exact BlkOk.mono (s := s) (s' := ⟨s.β, s.I, s.M.set i .gone, s.w⟩) hnd (fun _ h => h) (fun _ _ => rfl) (ho.blk j k h h1 h2) (fun _ _ _ => rfl)
  · intro j j2 k k2 x x2 b a1 a2 a3 a4 c1 c2 c3 c4
    rcases old j k a1 with rfl | a1
    · cases a2
    · rcases old j2 k2 c1 with rfl | c1
      · cases c2
      · exact ho.inj j j2 k k2 x x2 b a1 a2 a3 a4 c1 c2 c3 c4
/-- a row of one's own is given up: it stays from now on -/
theorem tr_giveA {s : St} (ho : Ok s) {j sz n : Nat} {T : TypeId} {L : List Value} {v : Value} (hM : s.M[j]? = some (.arr T sz n L)) (hr : Rep s (.arr j) v) : ∃ I' : Nat → Prop, Tr s ⟨s.β, I', s.M.set j .gone, s.w⟩ ∧ Rep ⟨s.β, I', s.M.set j .gone, s.w⟩ (.slf sz n L) v := by
  cases hr with
  | @arr _ ad n' c hβ =>
    have hk : s.w.ownsRow 0 T sz _ n L := ho.blk j _ _ hM hβ
    rcases hk.2 with ⟨e1, e2⟩ | ⟨g, cap, cur, e1, e2, e3, e4, e5, e6, e7⟩
    · cases e1; subst e2
      exact ⟨s.I, tr_gone ho j, .slf hk.1 (Nat.le_refl _) (Nat.zero_le _) (fun _ => rfl) (.inl (List.eq_nil_of_length_eq_zero (by simpa using hk.1)))⟩
    · cases e1
      refine ⟨fun b => s.I b ∨ b = g, tr_give ho hM rfl hβ rfl s.w (fun _ _ => rfl) rfl rfl rfl rfl, .slf hk.1 e4 e5 (fun e => by cases e) (.inr ⟨g, 0, rfl, .inr rfl, ?_⟩)⟩
      have hc := cellsAt_sub (cellsAt_block e3 0) 0 (n * sz)
      show cellsAt s.w g 0 L
      simpa [e7] using hc
theorem DGives.map {P : Program} {s : St} {post post' : St → Value → Prop} {r : Result Next} (h : DGives P s post r) (f : ∀ s' v, Ok s' → post s' v → ∃ s'', s''.w = s'.w ∧ Tr s' s'' ∧ post' s'' v) : DGives P s post' r := by
  have key : ∀ {w' : World} {v : Value}, (∃ s', s'.w = w' ∧ Tr s s' ∧ post s' v) → ∃ s', s'.w = w' ∧ Tr s s' ∧ post' s' v := by
    rintro w' v ⟨s', rfl, a2, a3⟩
    obtain ⟨s'', b1, b2, b3⟩ := f s' v a2.ok a3
    exact ⟨s'', b1, a2.trans b2, b3⟩
  cases r with
  | halt x w' => exact h
  | ok nx w' =>
    cases nx with
    | value v => exact key h
    | skip => exact key h
    | enter g args =>
      refine ⟨h.1, h.2.mono ?_⟩
      rintro e w'' ⟨s', v, b1, b2, b3, b4⟩
      obtain ⟨s'', c1, c2, c3⟩ := key ⟨s', b2, b3, b4⟩
      exact ⟨s'', v, b1, c1, c2, c3⟩
    | round l f tmps asg body =>
      refine ⟨h.1, h.2.mono ?_⟩
      rintro e w'' ⟨s', v, b1, b2, b3, b4⟩
      obtain ⟨s'', c1, c2, c3⟩ := key ⟨s', b2, b3, b4⟩
      exact ⟨s'', v, b1, c1, c2, c3⟩
    | _ => exact h
section
variable {P : Program} {s0 : St} {n : Cx}
theorem inv_giveA {F : Fr} {M : List Blk} {a : Act} {w : World} {t i : Nat} {e : TypeId} {sz m : Nat} {L : List Value} (h : Inv s0 n F M a w) (ht : lk F t = some (.arr i)) (hM : M[i]? = some (.arr e sz m L)) : Inv s0 n ((t, .slf sz m L) :: F) (M.set i .gone) a w := by
  obtain ⟨h0, s, rfl, rfl, h3, h4, h5, h6⟩ := h
  obtain ⟨I', tt, r1⟩ := tr_giveA h3.ok hM (h4 t _ ht)
  refine ⟨h0, ⟨s.β, I', s.M.set i .gone, s.w⟩, rfl, rfl, h3.trans tt, fun x d hd => ?_, h5, h6.mono h3.ok tt⟩
  rw [lk_cons] at hd
  split at hd
  · rename_i e'
    subst e'
    obtain rfl := Option.some.inj hd
    exact r1
  · exact (h4 x d hd).mono h3.ok tt
theorem dwp_giveA {c : Code} {F : Fr} {M M' : List Blk} {K : Cont} (t : Nat) {i : Nat} {e : TypeId} {sz m : Nat} {L : List Value} (ht : lk F t = some (.arr i)) (hM : M[i]? = some (.arr e sz m L)) (hM' : M.set i .gone = M') (h : dwp P s0 n c ((t, .slf sz m L) :: F) M' K) : dwp P s0 n c F M K := by
  subst hM'
  exact fun a w hi => h a w (inv_giveA hi ht hM)
/-- a row of one's own joins a family: the slot that held it names it there -/
theorem inv_abs {F : Fr} {M : List Blk} {a : Act} {w : World} {t j f : Nat} {e : TypeId} {sz m : Nat} {L : List Value} {Bs : List Mem} (h : Inv s0 n F M a w) (ht : lk F t = some (.arr j)) (hj : M[j]? = some (.arr e sz m L)) (hf : M[f]? = some (.fam Bs)) : Inv s0 n ((t, .farr f Bs.length) :: F) ((M.set j .gone).set f (.fam (Bs ++ [.arr e sz m L]))) a w := by
  obtain ⟨h0, s, rfl, rfl, h3, h4, h5, h6⟩ := h
  have hlen := h3.ok.len
  have hfl := (List.getElem?_eq_some_iff.1 hf).1
  have hjl := (List.getElem?_eq_some_iff.1 hj).1
  obtain ⟨x, hx⟩ : ∃ x, s.β[f]? = some x := ⟨_, List.getElem?_eq_getElem (by omega)⟩
  obtain ⟨y, hy⟩ : ∃ y, s.β[j]? = some y := ⟨_, List.getElem?_eq_getElem (by omega)⟩
  obtain ⟨hs, rfl, hfo⟩ := h3.ok.blk f _ x hf hx
  have tt := tr_abs (B := .arr e sz m L) h3.ok hf hj rfl hx hy
  refine ⟨h0, ⟨s.β.set f (.tuple (hs ++ [y]).toArray), s.I, (s.M.set j .gone).set f (.fam (Bs ++ [.arr e sz m L])), s.w⟩, rfl, rfl, h3.trans tt, fun z d hd => ?_, h5, h6.mono h3.ok tt⟩
  rw [lk_cons] at hd
  split at hd
  · rename_i e'
    subst e'
    obtain rfl := Option.some.inj hd
    have hr := h4 t _ ht
    generalize hv : slot a t = v at hr
    cases hr with
    | @arr _ ad n' c hβ =>
      rw [hy] at hβ
      obtain rfl := Option.some.inj hβ
      refine .farr (hs := hs ++ [.slice ad n' c]) (by show (s.β.set f _)[f]? = _; rw [List.getElem?_set_self (by rw [hlen]; exact hfl)]) ?_
      rw [List.getElem?_append_right (by rw [hfo.len]; exact Nat.le_refl _), hfo.len, Nat.sub_self]
      rfl
  · exact (h4 z d hd).mono h3.ok tt
theorem dwp_abs {c : Code} {F : Fr} {M M' : List Blk} {K : Cont} (t f : Nat) {j : Nat} {e : TypeId} {sz m : Nat} {L : List Value} {Bs : List Mem} (ht : lk F t = some (.arr j)) (hj : M[j]? = some (.arr e sz m L)) (hf : M[f]? = some (.fam Bs)) (hM' : (M.set j .gone).set f (.fam (Bs ++ [.arr e sz m L])) = M') (h : dwp P s0 n c ((t, .farr f Bs.length) :: F) M' K) : dwp P s0 n c F M K := by
  subst hM'
  exact fun a w hi => h a w (inv_abs hi ht hj hf)
end
/-- a row of a family is taken out of it again -/
theorem tr_rel {s : St} (ho : Ok s) {i j k : Nat} {Bs : List Mem} {B : Mem} {hs : List Value} {u : Value} (hi : s.M[i]? = some (.fam Bs)) (hj : s.M[j]? = some .hole) (hB : Bs[k]? = some B) (hl : B.live = true) (hβi : s.β[i]? = some (.tuple hs.toArray)) (hu : hs[k]? = some u) :
    Tr s ⟨s.β.set j u, s.I, (s.M.set i (.fam (Bs.set k .gone))).set j B.blk, s.w⟩ := by
  have hne : i ≠ j := fun e => by subst e; rw [hi] at hj; cases hj
  have hil := (List.getElem?_eq_some_iff.1 hi).1
  have hjl := (List.getElem?_eq_some_iff.1 hj).1
  have hkl := (List.getElem?_eq_some_iff.1 hB).1
  have hf := fam_at (k := 0) ho hi hβi
  have hβj : s.β[j]? = some .nilFunc := by
    have hjb : j < s.β.length := by rw [ho.len]; exact hjl
    have e : s.β[j]? = some s.β[j] := List.getElem?_eq_getElem hjb
    have : s.β[j] = .nilFunc := ho.blk j .hole _ hj e
    rw [e, this]
  have hnd : ∀ (x : Nat) h, s.β[x]? = some h → h ≠ .nilFunc → (s.β.set j u)[x]? = some h := fun x h hx hn => by
    by_cases e : j = x
    · subst e; rw [hβj] at hx; exact absurd (Option.some.inj hx).symm hn
    · rw [List.getElem?_set_ne e]; exact hx
  have oldM : ∀ (x : Nat) kk, ((s.M.set i (.fam (Bs.set k .gone))).set j B.blk)[x]? = some kk → (x = j ∧ kk = B.blk) ∨ (x = i ∧ kk = .fam (Bs.set k .gone)) ∨ (x ≠ j ∧ x ≠ i ∧ s.M[x]? = some kk) := fun x kk h => by
    by_cases e : j = x
    · subst e
      rw [List.getElem?_set_self (by simpa using hjl)] at h
      exact .inl ⟨rfl, (Option.some.inj h).symm⟩
    · rw [List.getElem?_set_ne e] at h
      by_cases e2 : i = x
      · subst e2
        rw [List.getElem?_set_self hil] at h
        exact .inr (.inl ⟨rfl, (Option.some.inj h).symm⟩)
      · rw [List.getElem?_set_ne e2] at h
        exact .inr (.inr ⟨Ne.symm e, Ne.symm e2, h⟩)
  have oldβ : ∀ (x : Nat) hh, (s.β.set j u)[x]? = some hh → (x = j ∧ hh = u) ∨ (x ≠ j ∧ s.β[x]? = some hh) := fun x hh h => by
    by_cases e : j = x
    · subst e
      rw [List.getElem?_set_self (by rw [ho.len]; exact hjl)] at h
      exact .inl ⟨rfl, (Option.some.inj h).symm⟩
    · rw [List.getElem?_set_ne e] at h
      exact .inr ⟨Ne.symm e, h⟩
  have cls : ∀ (x : Nat) kk hh b, ((s.M.set i (.fam (Bs.set k .gone))).set j B.blk)[x]? = some kk → kk.live = true → (s.β.set j u)[x]? = some hh → owns kk hh b →
      (x = j ∧ hb u = some b) ∨ (x = i ∧ ∃ (k' : Nat) (B' : Mem) (u' : Value), k' ≠ k ∧ Bs[k']? = some B' ∧ B'.live = true ∧ hs[k']? = some u' ∧ hb u' = some b) ∨ (x ≠ j ∧ x ≠ i ∧ s.M[x]? = some kk ∧ s.β[x]? = some hh) := by
    intro x kk hh b a1 a2 a3 a4
    rcases oldM x kk a1 with ⟨rfl, rfl⟩ | ⟨rfl, rfl⟩ | ⟨n1, n2, a1⟩
    · rcases oldβ _ hh a3 with ⟨_, rfl⟩ | ⟨n, _⟩
      · exact .inl ⟨rfl, blk_owns.1 a4⟩
      · exact absurd rfl n
    · rcases oldβ _ hh a3 with ⟨e, _⟩ | ⟨_, a3⟩
      · exact absurd e hne
      · rw [hβi] at a3
        obtain rfl := Option.some.inj a3
        obtain ⟨hs', k', B', u', e1, e2, e3, e4, e5⟩ := a4
        have e1 : hs = hs' := by simpa using e1
        subst e1
        by_cases e : k = k'
        · subst e
          rw [List.getElem?_set_self hkl] at e2
          obtain rfl := Option.some.inj e2
          cases e3
        · rw [List.getElem?_set_ne e] at e2
          exact .inr (.inl ⟨rfl, k', B', u', Ne.symm e, e2, e3, e4, e5⟩)
    · rcases oldβ _ hh a3 with ⟨e, _⟩ | ⟨_, a3⟩
      · exact absurd e n1
      · exact .inr (.inr ⟨n1, n2, a1, a3⟩)
  have fo : ∀ (k' : Nat) (B' : Mem) (u' : Value) (b : Nat), Bs[k']? = some B' → B'.live = true → hs[k']? = some u' → hb u' = some b → owns (.fam Bs) (.tuple hs.toArray) b := fun k' B' u' b e2 e3 e4 e5 => ⟨hs, k', B', u', rfl, e2, e3, e4, e5⟩
  have lv : ∀ b, Live ⟨s.β.set j u, s.I, (s.M.set i (.fam (Bs.set k .gone))).set j B.blk, s.w⟩ b → Live s b := by
    rintro b ⟨x, kk, hh, a1, a2, a3, a4⟩
    rcases cls x kk hh b a1 a2 a3 a4 with ⟨_, e⟩ | ⟨_, k', B', u', _, e2, e3, e4, e5⟩ | ⟨_, _, a1, a3⟩
    · exact live_of hi rfl hβi (fo k B u b hB hl hu e)
    · exact live_of hi rfl hβi (fo k' B' u' b e2 e3 e4 e5)
    · exact live_of a1 a2 a3 a4
  refine ⟨⟨by simp [ho.len], fun x kk hh h1 h2 => ?_, fun b hb => ho.lt b (lv b hb), ?_, ho.il⟩, hkeep_of hnd, fun _ h => h, fun _ h => .inl h, fun _ _ _ => rfl, fun b h => .inr (lv b h), rfl, rfl, rfl, Nat.le_refl _⟩
  · rcases oldM x kk h1 with ⟨rfl, rfl⟩ | ⟨rfl, rfl⟩ | ⟨n1, n2, h1⟩
    · rcases oldβ _ hh h2 with ⟨_, rfl⟩ | ⟨n, _⟩
      · have hm := hf.ok k B hh hB hu
        cases B <;> exact hm
      · exact absurd rfl n
    · rcases oldβ _ hh h2 with ⟨e, _⟩ | ⟨_, h2⟩
      · exact absurd e hne
      · rw [hβi] at h2
        obtain rfl := Option.some.inj h2
        refine ⟨hs, rfl, ⟨by rw [List.length_set]; exact hf.len, fun k' B' u' e2 e4 => ?_, fun k1 k2 B1 B2 u1 u2 b e1 l1 e2 e3 f1 l2 f2 f3 => ?_⟩⟩
        · by_cases e : k = k'
          · subst e
            rw [List.getElem?_set_self hkl] at e2
            obtain rfl := Option.some.inj e2
            trivial
          · rw [List.getElem?_set_ne e] at e2
            exact hf.ok k' B' u' e2 e4
        · have un : ∀ (q : Nat) Q, (Bs.set k .gone)[q]? = some Q → Q.live = true → Bs[q]? = some Q := fun q Q g1 g2 => by
            by_cases e : k = q
            · subst e
              rw [List.getElem?_set_self hkl] at g1
              obtain rfl := Option.some.inj g1
              cases g2
            · rw [List.getElem?_set_ne e] at g1; exact g1
          exact hf.inj k1 k2 B1 B2 u1 u2 b (un k1 B1 e1 l1) l1 e2 e3 (un k2 B2 f1 l2) l2 f2 f3
    · rcases oldβ _ hh h2 with ⟨e, _⟩ | ⟨_, h2⟩
      · exact absurd e n1
      · exact BlkOk.mono (s := s) (s' := ⟨s.β.set j u, s.I, (s.M.set i (.fam (Bs.set k .gone))).set j B.blk, s.w⟩) hnd (fun _ h => h) (fun _ _ => rfl) (ho.blk x kk hh h1 h2) (fun _ _ _ => rfl)
  · intro x x2 kk kk2 y y2 b a1 a2 a3 a4 c1 c2 c3 c4
    rcases cls x kk y b a1 a2 a3 a4 with ⟨ex, e⟩ | ⟨ex, k', B', u', n', e2, e3, e4, e5⟩ | ⟨m1, m2, a1, a3⟩ <;> rcases cls x2 kk2 y2 b c1 c2 c3 c4 with ⟨fx, f⟩ | ⟨fx, k2, B2, u2, n2, f2, f3, f4, f5⟩ | ⟨p1, p2, c1, c3⟩
    · exact ex.trans fx.symm
    · exact absurd (hf.inj k k2 B B2 u u2 b hB hl hu e f2 f3 f4 f5).symm n2
    · exact absurd (ho.inj i x2 _ kk2 _ y2 b hi rfl hβi (fo k B u b hB hl hu e) c1 c2 c3 c4).symm p2
    · exact absurd (hf.inj k k' B B' u u' b hB hl hu f e2 e3 e4 e5).symm n'
    · exact ex.trans fx.symm
    · exact absurd (ho.inj i x2 _ kk2 _ y2 b hi rfl hβi (fo k' B' u' b e2 e3 e4 e5) c1 c2 c3 c4).symm p2
    · exact absurd (ho.inj i x _ kk _ y b hi rfl hβi (fo k B u b hB hl hu f) a1 a2 a3 a4).symm m2
    · exact absurd (ho.inj i x _ kk _ y b hi rfl hβi (fo k2 B2 u2 b f2 f3 f4 f5) a1 a2 a3 a4).symm m2
    · exact ho.inj x x2 kk kk2 y y2 b a1 a2 a3 a4 c1 c2 c3 c4
section
variable {P : Program} {s0 : St} {n : Cx}
theorem inv_rel {F : Fr} {M : List Blk} {a : Act} {w : World} {t i j k : Nat} {e : TypeId} {sz m : Nat} {L : List Value} {Bs : List Mem} (h : Inv s0 n F M a w) (ht : lk F t = some (.farr i k)) (hi : M[i]? = some (.fam Bs)) (hB : Bs[k]? = some (.arr e sz m L)) (hj : M[j]? = some .hole) : Inv s0 n ((t, .arr j) :: F) ((M.set i (.fam (Bs.set k .gone))).set j (.arr e sz m L)) a w := by
  obtain ⟨h0, s, rfl, rfl, h3, h4, h5, h6⟩ := h
  have hlen := h3.ok.len
  have hil := (List.getElem?_eq_some_iff.1 hi).1
  have hjl := (List.getElem?_eq_some_iff.1 hj).1
  obtain ⟨x, hx⟩ : ∃ x, s.β[i]? = some x := ⟨_, List.getElem?_eq_getElem (by omega)⟩
  obtain ⟨hs, rfl, hfo⟩ := h3.ok.blk i _ x hi hx
  have hkl := (List.getElem?_eq_some_iff.1 hB).1
  obtain ⟨u, hu⟩ : ∃ u, hs[k]? = some u := ⟨_, List.getElem?_eq_getElem (by rw [hfo.len]; exact hkl)⟩
  have tt := tr_rel (B := .arr e sz m L) h3.ok hi hj hB rfl hx hu
  refine ⟨h0, ⟨s.β.set j u, s.I, (s.M.set i (.fam (Bs.set k .gone))).set j (.arr e sz m L), s.w⟩, rfl, rfl, h3.trans tt, fun z d hd => ?_, h5, h6.mono h3.ok tt⟩
  rw [lk_cons] at hd
  split at hd
  · rename_i e'
    subst e'
    obtain rfl := Option.some.inj hd
    have hr := h4 t _ ht
    show Rep _ _ (slot a t)
    generalize hv : slot a t = v at hr
    cases hr with
    | @farr _ _ ad n' c hs' g1 g2 =>
      rw [hx] at g1
      have e1 : hs = hs' := by simpa using g1
      subst e1
      rw [hu] at g2
      obtain rfl := Option.some.inj g2
      exact .arr (by show (s.β.set j _)[j]? = _; rw [List.getElem?_set_self (by rw [hlen]; exact hjl)])
  · exact (h4 z d hd).mono h3.ok tt
/-- a slot takes its row out of a family -/
theorem dwp_rel {c : Code} {F : Fr} {M M' : List Blk} {K : Cont} (t i : Nat) {j k : Nat} {e : TypeId} {sz m : Nat} {L : List Value} {Bs : List Mem} (ht : lk F t = some (.farr i k)) (hi : M[i]? = some (.fam Bs)) (hB : Bs[k]? = some (.arr e sz m L)) (hj : M[j]? = some .hole) (hM' : (M.set i (.fam (Bs.set k .gone))).set j (.arr e sz m L) = M') (h : dwp P s0 n c ((t, .arr j) :: F) M' K) : dwp P s0 n c F M K := by
  subst hM'
  exact fun a w hh => h a w (inv_rel hh ht hi hB hj)
end
end Go.Proofs.YtfnhckildfbikaaGreat
namespace Go.Proofs.YtfnhckildfbikaaGreat
set_option linter.unusedVariables false
set_option linter.unusedSimpArgs false
open Go.RowKit
theorem fam_flat {s : St} (hok : Ok s) {i k b : Nat} {T : TypeId} {Bs : List Mem} {L : List Value} {hs : List Value} (hM : s.M[i]? = some (.fam Bs)) (h : s.β[i]? = some (.tuple hs.toArray)) (hB : Bs[k]? = some (.flat T L)) (hk : hs[k]? = some (.pointer (some ⟨b, 0, none⟩))) : s.w.heap[b]? = some (.cells L.toArray T (0, 0)) := by
  obtain ⟨b', e, h2⟩ := (fam_at (k := k) hok hM h).ok k _ _ hB hk
  cases e
  exact h2
section
variable {P : Program} {pc : Bool} {o : Oper} {F : Fr} {M : List Blk}
/-- a part of it -/
theorem op_ldfp {T T' : TypeId} {x : Operand} {i m p k : Nat} {Bs : List Mem} {L R : List Value} (ho : o.op = .load T x) (hT : tyB P T = some (true, k)) (hx : Ev pc F x (.floc i m p)) (hM : M[i]? = some (.fam Bs)) (hB : Bs[m]? = some (.flat T' L)) (hR : (L.drop p).take k = R) (hl : R.length = k) : DOp P pc o F M [i] (.val (.agg R.toArray)) [] := by
  intro hp a s hok hops hfp
  have hr := ev_at hp hx (by simp [ho, Op.operands]) hops
  have hM' : s.M[i]? = some (.fam Bs) := by rw [hfp i (by simp)]; exact hM
  generalize hv : a.eval x = vx at hr
  cases hr with
  | @floc _ _ _ b hs h hkk =>
    have hc := fam_flat hok hM' h hB hkk
    have hR' := cellsAt_range (cellsAt_block hc 0) p k (R := R) (by simpa using hR)
    exact dg_val hok (run_load_row ho hT hv (by simpa using hR') hl) (.val _)
/-- .. written over -/
theorem op_stfp {T T' : TypeId} {x y : Operand} {i m p k : Nat} {rw' : Bool} {v : Value} {Bs : List Mem} {L C L' : List Value} (ho : o.op = .store T x y) (hT : tyB P T = some (rw', k)) (hx : Ev pc F x (.floc i m p)) (hy : Ev pc F y (.val v)) (hM : M[i]? = some (.fam Bs)) (hB : Bs[m]? = some (.flat T' L)) (hC : v.cells.toList = C) (hk : C.length = k) (h1 : C.all (·.oneCell') = true)
    (hfit : p + C.length ≤ L.length) (hL : setL L p C = L') : DOp P pc o F M [i] .junk [(i, .fam (Bs.set m (.flat T' L')))] := by
  intro hp a s hok hops hfp
  have hr := ev_at hp hx (by simp [ho, Op.operands]) hops
  have h2 := (ev_at hp hy (by simp [ho, Op.operands]) hops).val_eq
  have hM' : s.M[i]? = some (.fam Bs) := by rw [hfp i (by simp)]; exact hM
  subst hL
  generalize hv : a.eval x = vx at hr
  cases hr with
  | @floc _ _ _ b hs h hkk =>
    have hc := fam_flat hok hM' h hB hkk
    have hcell := cellsAt_block hc 0
    have hrun := run_store (P := P) (w := s.w) ho hT hv h2 hC hk (fun j hj => by
        have := hcell (p + j) _ (by simpa using List.getElem?_eq_getElem (by omega : p + j < L.length))
        rw [Nat.zero_add] at this
        rw [this]; rfl) (fun j hj => by simp [World.frozen?, hc]) (fun u hu => List.all_eq_true.1 h1 u hu)
    exact dg_skip (s' := ⟨s.β.set i (.tuple hs.toArray), s.I, s.M.set i (.fam (Bs.set m (.flat T' (setL L p C)))), s.w.setCells b p C⟩) hrun (tr_stf hok hM' h hB rfl rfl hkk rfl p C ⟨b, rfl, setCells_block b C p s.w L T' hc⟩) rfl
/-- a place in an array that a pointer names -/
theorem op_ixfl {T : TypeId} {x y : Operand} {i m p n sz : Nat} {k : IntKind} {z : Int} (ho : o.op = .indexAddr T x y) (hT : arE P T = some (n, sz)) (hx : Ev pc F x (.floc i m p)) (hy : Ev pc F y (.val (.int k z))) (h : pc = true → 0 ≤ z ∧ z < n) : DOp P pc o F M [] (.floc i m (p + z.toNat * sz)) [] := by
  intro hp a s hok hops hfp
  have hr := ev_at hp hx (by simp [ho, Op.operands]) hops
  have h2 := (ev_at hp hy (by simp [ho, Op.operands]) hops).val_eq
  generalize hv : a.eval x = vx at hr
  cases hr with
  | @floc _ _ _ b hs hb hkk => exact dg_val hok (run_index_arr ho hT hv h2 (h hp).1 (h hp).2) (.floc hb hkk)
/-- it is not nil -/
theorem op_pnilf {T T' e : TypeId} {x : Operand} {i m q : Nat} (ho : o.op = .binOp .eql T x (.const (.pointer none)) T') (hT : ptT P T = some e) (hx : Ev pc F x (.floc i m q)) : DOp P pc o F M [] (.val (.bool false)) [] := by
  intro hp a s hok hops _
  have hr := ev_at hp hx (by simp [ho, Op.operands]) hops
  generalize hv : a.eval x = vx at hr
  cases hr with
  | @floc _ _ _ b hs h hkk =>
    refine dg_val (v := .bool false) hok ?_ (.val _)
    unfold execOp
    simp only [ho, hv]
    refine run_v ?_
    have hc : a.eval (.const (.pointer none)) = .pointer none := rfl
    rw [hc]
    have hg : (eqGuard .eql T x (.const (.pointer none)) (.pointer (some ⟨b, q, none⟩)) (.pointer none)).run P s.w = .ok () s.w := by unfold eqGuard; rfl
    rw [Sem.run_bind, hg]
    have he := run_equal_pointer_nil (P := P) s.w T (some ⟨b, q, none⟩) (by rw [show P.pointee T = e by simp [Program.pointee, ptT_spec hT]]; exact ptT_spec hT)
    simp only [Result.andThen, binOp, Sem.run_bind, he]
    rfl
/-- one datum of one cell stored into a row of one's own -/
theorem op_stx1 {α : Type} {g : α → D} {l : List α} {q : α} {T T' : TypeId} {x y : Operand} {i j n : Nat} {rw' : Bool} (ho : o.op = .store T x y) (hT : tyB P T = some (rw', 1)) (hx : Ev pc F x (.aloc i (j * 1))) (hy : Ev pc F y (g q)) (hM : M[i]? = some (.arx T' 1 n (l.flatMap fun a => [g a]))) (hj : j < l.length) (h1 : ∀ (s : St) v, Rep s (g q) v → v.cells = #[v] ∧ v.oneCell' = true) :
    DOp P pc o F M [i] .junk [(i, .arx T' 1 n ((l.set j q).flatMap fun a => [g a]))] := by
  have hmk : ∀ a, ((fun a => [g a]) a).length = 1 := fun _ => rfl
  have hmq0 : (fun a => [g a]) q = [g q] := rfl
  generalize hsz : (1 : Nat) = sz at hT hx hM hmk ⊢
  generalize (fun a => [g a]) = mk at hM hmk hmq0 ⊢
  intro hp a s hok hops hfp
  have hr := ev_at hp hx (by simp [ho, Op.operands]) hops
  have hry := ev_at hp hy (by simp [ho, Op.operands]) hops
  have hM' : s.M[i]? = some (.arx T' sz n (l.flatMap mk)) := by rw [hfp i (by simp)]; exact hM
  generalize hv : a.eval x = vx at hr
  generalize hvy : a.eval y = vy at hry
  cases hr with
  | @aloc _ _ n' c b h =>
    obtain ⟨hcel, hone⟩ := h1 s vy hry
    obtain ⟨us, hus⟩ : ∃ us, us = [vy] := ⟨_, rfl⟩
    have hul : us.length = (mk q).length := by rw [hus, hmq0]; rfl
    have hu : ∀ (p : Nat) d v, (mk q)[p]? = some d → us[p]? = some v → Rep s d v := fun p d v g1 g2 => by
      rw [hmq0] at g1
      rw [hus] at g2
      match p, g1, g2 with
      | 0, g1, g2 => cases g1; cases g2; exact hry
    have hC : vy.cells.toList = us := by rw [hcel, hus]
    have hoc0 : ∀ u ∈ us, u.oneCell' = true := fun u hu' => by
      rw [hus] at hu'
      obtain rfl := List.mem_singleton.1 hu'
      exact hone
    · skip
      obtain ⟨vs, hk, q3, q4⟩ := hok.blk i _ _ hM' h
      rcases hk.2 with ⟨e1, e2⟩ | ⟨g, cap, cur, e1, e2, e3, e4, e5, e6, e7⟩
      · cases e1
      · cases e1
        have hflat : (l.flatMap mk).length = l.length * sz := flatM_len' hmk l
        have hle := Nat.mul_le_mul_right sz e4
        have hjs : (j + 1) * sz ≤ l.length * sz := Nat.mul_le_mul_right _ hj
        rw [Nat.succ_mul] at hjs
        have hlV := hk.1
        have husz : us.length = sz := by rw [hul, hmk]
        have hcell := cellsAt_block e3 0
        have hoc := hoc0
        have hcurlen : cur.toList.length = c * sz := by simpa using e6
        have hrun := run_store (P := P) (w := s.w) (C := us) ho hT hv hvy hC husz (fun p hp' => by
            have := hcell (j * sz + p) _ (by simpa using List.getElem?_eq_getElem (by simp at hcurlen ⊢; omega : j * sz + p < cur.toList.length))
            rw [Nat.zero_add] at this
            rw [this]; rfl) (fun p hp' => by simp [World.frozen?, e3]) hoc
        have hβ : s.β.set i (.slice (some ⟨b, 0, none⟩) n c) = s.β := by
          apply List.ext_getElem?
          intro k
          by_cases e : i = k
          · subst e; rw [List.getElem?_set_self (List.getElem?_eq_some_iff.1 h).1, h]
          · rw [List.getElem?_set_ne e]
        have lift : ∀ {e : D} {v : Value}, Rep s e v → Rep ⟨s.β.set i (.slice (some ⟨b, 0, none⟩) n c), s.I, s.M.set i (.arx T' sz n ((l.set j q).flatMap mk)), s.w.setCells b (j * sz) us⟩ e v := by
          intro e v hr
          refine Rep.mono' (s := s) (s' := ⟨s.β.set i (.slice (some ⟨b, 0, none⟩) n c), s.I, s.M.set i (.arx T' sz n ((l.set j q).flatMap mk)), s.w.setCells b (j * sz) us⟩) (fun k x hk _ => by show (s.β.set i _)[k]? = _; rw [hβ]; exact hk) (fun _ h => h) (fun b' hI => setCells_other b _ _ s.w b' fun e => ?_) hr
          subst e
          exact (hok.lt b' (live_of hM' rfl h rfl)).2 hI
        refine dg_skip (s' := ⟨s.β.set i (.slice (some ⟨b, 0, none⟩) n c), s.I, s.M.set i (.arx T' sz n ((l.set j q).flatMap mk)), s.w.setCells b (j * sz) us⟩) hrun (tr_store hok hM' rfl h rfl _ us ?_) rfl
        have hsl := setL_len us cur.toList (j * sz)
        refine ⟨setL vs (j * sz) us, ⟨by rw [setL_len]; exact hlV, .inr ⟨b, c, (setL cur.toList (j * sz) us).toArray, rfl, e2, setCells_block b us _ s.w cur.toList T' (by simpa using e3), e4, e5, by simp [hsl]; simpa using e6, ?_⟩⟩, ?_, ?_⟩
        · rw [setL_eq us cur.toList _ (by omega), setL_eq us vs _ (by omega)]
          have hcut : cur.toList = vs ++ cur.toList.drop vs.length := by
            have := List.take_append_drop (n * sz) cur.toList
            rw [e7, ← hlV] at this
            exact this.symm
          generalize cur.toList.drop vs.length = R at hcut
          rw [hcut]
          have t1 : (vs ++ R).take (j * sz) = vs.take (j * sz) := List.take_append_of_le_length (by omega)
          have t2 : (vs ++ R).drop (j * sz + us.length) = vs.drop (j * sz + us.length) ++ R := List.drop_append_of_le_length (by omega)
          rw [t1, t2, ← hlV, ← List.append_assoc]
          refine List.take_left' ?_
          simp; omega
        · rw [setL_len, q3, hflat, flatM_len' hmk, List.length_set]
        · have key : ((l.set j q).flatMap mk) = (l.flatMap mk).take (j * sz) ++ mk q ++ (l.flatMap mk).drop (j * sz + sz) := by
            rw [flatM_take hmk, show j * sz + sz = (j + 1) * sz by rw [Nat.succ_mul], flatM_drop hmk, List.set_eq_take_append_cons_drop, if_pos hj, List.flatMap_append, List.flatMap_cons, List.append_assoc]
          rw [key, setL_eq us vs _ (by omega), husz]
          have hA : Reps ⟨s.β.set i (.slice (some ⟨b, 0, none⟩) n c), s.I, s.M.set i (.arx T' sz n ((l.flatMap mk).take (j * sz) ++ mk q ++ (l.flatMap mk).drop (j * sz + sz))), s.w.setCells b (j * sz) us⟩ ((l.flatMap mk).take (j * sz) ++ mk q ++ (l.flatMap mk).drop (j * sz + sz)) (vs.take (j * sz) ++ us ++ vs.drop (j * sz + sz)) := by
            rw [key] at lift
            refine reps_app3 (reps_app3 ⟨by simp [q3], fun p d v g1 g2 => ?_⟩ ⟨hul, fun p d v g1 g2 => lift (hu p d v g1 g2)⟩) ⟨by simp [q3], fun p d v g1 g2 => ?_⟩
            · rw [List.getElem?_take] at g1 g2
              split at g1
              · rename_i hp'
                rw [if_pos hp'] at g2
                exact lift (q4 p d v g1 g2)
              · cases g1
            · rw [List.getElem?_drop] at g1 g2
              exact lift (q4 _ d v g1 g2)
          exact hA.2
end
section
variable {P : Program} {s0 : St} {n : Cx}
theorem inv_absl {F : Fr} {M : List Blk} {a : Act} {w : World} {t j f : Nat} {T : TypeId} {L : List Value} {Bs : List Mem} (h : Inv s0 n F M a w) (ht : lk F t = some (.loc j 0)) (hj : M[j]? = some (.flat T L)) (hf : M[f]? = some (.fam Bs)) : Inv s0 n ((t, .floc f Bs.length 0) :: F) ((M.set j .gone).set f (.fam (Bs ++ [.flat T L]))) a w := by
  obtain ⟨h0, s, rfl, rfl, h3, h4, h5, h6⟩ := h
  have hlen := h3.ok.len
  have hfl := (List.getElem?_eq_some_iff.1 hf).1
  have hjl := (List.getElem?_eq_some_iff.1 hj).1
  obtain ⟨x, hx⟩ : ∃ x, s.β[f]? = some x := ⟨_, List.getElem?_eq_getElem (by omega)⟩
  obtain ⟨y, hy⟩ : ∃ y, s.β[j]? = some y := ⟨_, List.getElem?_eq_getElem (by omega)⟩
  obtain ⟨hs, rfl, hfo⟩ := h3.ok.blk f _ x hf hx
  have tt := tr_abs (B := .flat T L) h3.ok hf hj rfl hx hy
  refine ⟨h0, ⟨s.β.set f (.tuple (hs ++ [y]).toArray), s.I, (s.M.set j .gone).set f (.fam (Bs ++ [.flat T L])), s.w⟩, rfl, rfl, h3.trans tt, fun z d hd => ?_, h5, h6.mono h3.ok tt⟩
  rw [lk_cons] at hd
  split at hd
  · rename_i e'
    subst e'
    obtain rfl := Option.some.inj hd
    have hr := h4 t _ ht
    generalize hv : slot a t = v at hr
    cases hr with
    | @loc _ _ b hβ =>
      rw [hy] at hβ
      obtain rfl := Option.some.inj hβ
      refine .floc (hs := hs ++ [.pointer (some ⟨b, 0, none⟩)]) (by show (s.β.set f _)[f]? = _; rw [List.getElem?_set_self (by rw [hlen]; exact hfl)]) ?_
      rw [List.getElem?_append_right (by rw [hfo.len]; exact Nat.le_refl _), hfo.len, Nat.sub_self]
      rfl
  · exact (h4 z d hd).mono h3.ok tt
/-- the variable that a slot names joins a family -/
theorem dwp_absl {c : Code} {F : Fr} {M M' : List Blk} {K : Cont} (t f : Nat) {j : Nat} {T : TypeId} {L : List Value} {Bs : List Mem} (ht : lk F t = some (.loc j 0)) (hj : M[j]? = some (.flat T L)) (hf : M[f]? = some (.fam Bs)) (hM' : (M.set j .gone).set f (.fam (Bs ++ [.flat T L])) = M') (h : dwp P s0 n c ((t, .floc f Bs.length 0) :: F) M' K) : dwp P s0 n c F M K := by
  subst hM'
  exact fun a w hi => h a w (inv_absl hi ht hj hf)
end
end Go.Proofs.YtfnhckildfbikaaGreat
namespace Go.Proofs.YtfnhckildfbikaaGreat
set_option linter.unusedVariables false
set_option linter.unusedSimpArgs false
open Go.RowKit
theorem entsI_app : ∀ (ks : List Int) (vs : List Value) (o : Nat) (k : Int) (v : Value), vs.length = ks.length → entsI o (ks ++ [k]) (vs ++ [v]) = entsI o ks vs ++ [{ key := .int .i64 k, val := v, born := o + ks.length }]
  | [], [], o, k, v, _ => rfl
  | [], _ :: _, o, k, v, h => by simp at h
  | _ :: _, [], o, k, v, h => by simp at h
  | a :: ks, b :: vs, o, k, v, h => by
    rw [List.cons_append, List.cons_append, entsI, entsI, entsI_app ks vs (o + 1) k v (by simpa using h), List.length_cons, List.cons_append, show o + 1 + ks.length = o + (ks.length + 1) by omega]
theorem findI_no {kd : IntKind} {k : Int} : ∀ (ks : List Int) (vs : List Value) (o i : Nat), k ∉ ks → Instr.findNow (.int kd) (.int .i64 k) (entsI o ks vs) i = some none
  | [], _, o, i, _ => by simp [entsI, Instr.findNow]
  | _ :: _, [], o, i, _ => by simp [entsI, Instr.findNow]
  | a :: ks, b :: vs, o, i, h => by
    have h1 : k ≠ a := fun e => h (by simp [e])
    rw [entsI, Instr.findNow]
    have : Instr.sameNow (.int kd) (.int .i64 k) (.int .i64 a) = some false := by simp [Instr.sameNow, h1]
    rw [this]
    exact findI_no ks vs (o + 1) (i + 1) fun e => h (List.mem_cons_of_mem _ e)
theorem findI_yes {kd : IntKind} {k : Int} : ∀ (ks : List Int) (vs : List Value) (o i j : Nat) (v : Value), ks.Nodup → ks[j]? = some k → vs[j]? = some v → Instr.findNow (.int kd) (.int .i64 k) (entsI o ks vs) i = some (some (i + j, v))
  | [], _, o, i, j, v, _, h, _ => by simp at h
  | _ :: _, [], o, i, j, v, _, _, h => by simp at h
  | a :: ks, b :: vs, o, i, j, v, hn, h, hv => by
    rw [entsI, Instr.findNow]
    cases j with
    | zero =>
      simp at h hv
      subst h
      subst hv
      have : Instr.sameNow (.int kd) (.int .i64 a) (.int .i64 a) = some true := by simp [Instr.sameNow]
      rw [this]
      rfl
    | succ j =>
      simp at h hv
      obtain ⟨n1, n2⟩ := List.nodup_cons.1 hn
      have h1 : k ≠ a := fun e => n1 (e ▸ List.mem_of_getElem? h)
      have : Instr.sameNow (.int kd) (.int .i64 k) (.int .i64 a) = some false := by simp [Instr.sameNow, h1]
      rw [this]
      have := findI_yes (kd := kd) ks vs (o + 1) (i + 1) j v n2 h hv
      rw [show i + 1 + j = i + (j + 1) by omega] at this
      exact this
theorem mpd_fits {α : Type} {σ : List Nat} {V : Nat → Bool} {M : List Blk} {ks ks' : List Int} {f g : α → D} {l l' : List α} (hn : ks = ks') (hl : l = l') (h : ∀ a, vw σ V M (f a) = some (g a)) : (vwL σ V M (l.flatMap fun a => [f a])).map (Blk.mpd ks) = some (Blk.mpd ks' (l'.flatMap fun a => [g a])) := by
  subst hn hl
  rw [vwL_flatG h]
  rfl
/-- keys are numbers -/
def intT (P : Program) (K : TypeId) : Option IntKind := match P.underlying K with
  | some (.int k) => some k
  | _ => none
theorem intT_spec {P : Program} {K : TypeId} {kd : IntKind} (h : intT P K = some kd) : P.underlying K = some (.int kd) := by
  unfold intT at h
  split at h
  · rename_i e h1; cases h; exact h1
  · cases h
theorem chkI {P : Program} {K : TypeId} {kd : IntKind} (hK : intT P K = some kd) (e : Bool) (k : Int) (w : World) : ∀ n : Nat, (Instr.checkKey e (n + 1) K (.int .i64 k)).run P w = .ok () w := fun n => by
  simp [Instr.checkKey, run_underlying (intT_spec hK)]
section
variable {P : Program} {K E T : TypeId} {pc : Bool} {o : Oper} {F : Fr} {M : List Blk} {x y z : Operand}
theorem tr_mpd {s : St} (ho : Ok s) {i b : Nat} {ks ks' : List Int} {l l' : List D} {vs' : List Value} (hM : s.M[i]? = some (.mpd ks l)) (hβ : s.β[i]? = some (.map (some b))) (hl : vs'.length = l'.length ∧ ks'.length = l'.length) (hr : ∀ (j : Nat) d v, l'[j]? = some d → vs'[j]? = some v → Rep s d v) :
    Tr s ⟨s.β, s.I, s.M.set i (.mpd ks' l'), s.w.putObj b (.map (entsI 0 ks' vs').toArray ks'.length)⟩ := by
  have hil : i < s.M.length := (List.getElem?_eq_some_iff.1 hM).1
  have hlv : Live s b := live_of hM rfl hβ rfl
  have hbl := (ho.lt b hlv).1
  have e : s.β.set i (.map (some b)) = s.β := by
    have : s.β[i]'((List.getElem?_eq_some_iff.1 hβ).1) = .map (some b) := (List.getElem?_eq_some_iff.1 hβ).2
    rw [← this, List.set_getElem_self]
  have := step_set ho i s.M (.map (some b)) (.mpd ks' l') (s.w.putObj b (.map (entsI 0 ks' vs').toArray ks'.length)) rfl (fun _ _ h => .inl h) hil (.inr (.inl hβ)) (by simp)
    ⟨b, vs', rfl, World.putObj_heap_same hbl, hl, fun j d v g1 g2 => Rep.mono' (s := s) (s' := ⟨s.β.set i (.map (some b)), s.I, s.M.set i (.mpd ks' l'), s.w.putObj b (.map (entsI 0 ks' vs').toArray ks'.length)⟩) (fun k x hk _ => by show (s.β.set i _)[k]? = _; rw [e]; exact hk) (fun _ h => h) (fun b' hI => World.putObj_heap_other (fun e => (ho.lt b hlv).2 (e ▸ hI))) (hr j d v g1 g2)⟩
    (fun c hc j k h hne h1 h2 h3 h4 => by
      cases hc
      exact hne (ho.inj j i k _ h _ b h1 h2 h3 h4 hM rfl hβ rfl))
    (fun c hc => by cases hc; exact .inr hlv) (fun c hc => by cases hc; simpa using hbl) (fun _ => False) (fun _ h => h.elim)
    (fun c hc hne _ => World.putObj_heap_other (fun e => hne (by rw [e]; rfl))) rfl rfl rfl (by simp)
  rwa [e] at this
theorem mpd_at {s : St} (hok : Ok s) {i : Nat} {ks : List Int} {l : List D} {v : Value} (hM : s.M[i]? = some (.mpd ks l)) (hr : Rep s (.hnd i) v) : ∃ b vs, v = .map (some b) ∧ s.β[i]? = some (.map (some b)) ∧ s.w.heap[b]? = some (.map (entsI 0 ks vs).toArray ks.length) ∧ (vs.length = l.length ∧ ks.length = l.length) ∧ ∀ (j : Nat) d v, l[j]? = some d → vs[j]? = some v → Rep s d v := by
  cases hr with
  | hnd hβ hn =>
    obtain ⟨b, vs, rfl, e2, e3, e4⟩ := hok.blk i _ _ hM hβ
    exact ⟨b, vs, rfl, hβ, e2, e3, e4⟩
/-- a new map -/
theorem op_mkd (j : Nat) (ho : o.op = .makeMap T none) (hj : M[j]? = some .hole) : DOp P pc o F M [j] (.hnd j) [(j, .mpd [] [])] := by
  intro hp a s hok hops hfp
  have hj' : s.M[j]? = some .hole := by rw [hfp j (by simp)]; exact hj
  have hjl : j < s.β.length := by rw [hok.len]; exact (List.getElem?_eq_some_iff.1 hj').1
  have ht : Tr s ⟨s.β.set j (.map (some s.w.heap.size)), s.I, s.M.set j (.mpd [] []), s.w.alloc (.map #[] 0)⟩ := by
    refine tr_new hok hj' _ _ _ (by simp) (fun b hb => by simpa [hb] using (Option.some.inj hb).symm) (fun b h => Below.heap_alloc _ _ _ h) (fun b hb => ?_) (by simp) rfl rfl rfl ⟨_, [], rfl, by simpa [entsI] using heap_alloc_new s.w _, ⟨rfl, rfl⟩, fun p d v g1 g2 => by simp at g1⟩
    cases hb; simp
  refine dg_step (v := .map (some s.w.heap.size)) ?_ ht rfl (.hnd (by simp [hjl]) (by simp) (by simp))
  unfold execOp
  simp only [ho]
  refine run_v ?_
  simp [Instr.makeMap]
/-- a key that is not there -/
theorem op_lkdn {i : Nat} {k : Int} {ks : List Int} {l : List D} {kd : IntKind} {z0 : Value} (hT : mpT P T = some (K, E)) (hK : intT P K = some kd) (hE : zrV P E = some z0) (ho : o.op = .lookup T x y false) (hx : Ev pc F x (.hnd i)) (hy : Ev pc F y (.val (.int .i64 k))) (hM : M[i]? = some (.mpd ks l)) (hn : pc = true → k ∉ ks) : DOp P pc o F M [i] (.val z0) [] := by
  intro hp a s hok hops hfp
  have hM' : s.M[i]? = some (.mpd ks l) := by rw [hfp i (by simp)]; exact hM
  obtain ⟨b, vs, hv, hβ, hob, hl, hr⟩ := mpd_at hok hM' (ev_at hp hx (by simp [ho, Op.operands]) hops)
  have hry := (ev_at hp hy (by simp [ho, Op.operands]) hops).val_eq
  refine dg_val hok ?_ (.val _)
  unfold execOp
  simp only [ho, hv, hry]
  refine run_v ?_
  have hz : (zeroValue E).run P s.w = .ok z0 s.w := by
    unfold zrV at hE
    rw [Option.bind_eq_some_iff] at hE
    obtain ⟨inf, h1, h2⟩ := hE
    simp [zeroValue, typeInfo, h1, h2]
  have hf := findI_no (kd := kd) ks vs 0 0 (hn hp)
  unfold Instr.lookup
  rw [Sem.run_bind, run_underlying (mpT_spec hT), Result.andThen_ok]
  simp only [Sem.run_bind, getObj, Sem.run, hob, Result.andThen]
  have hc : ∀ e, (Instr.checkKey e 10000 K (.int .i64 k)).run P s.w = .ok () s.w := fun e => chkI hK e k s.w 9999
  simp [hc, Instr.findKey, run_underlying (intT_spec hK), hf, hz]
/-- a key that is there -/
theorem op_lkdy {i j : Nat} {k : Int} {ks : List Int} {l : List D} {kd : IntKind} {d : D} (hT : mpT P T = some (K, E)) (hK : intT P K = some kd) (ho : o.op = .lookup T x y false) (hx : Ev pc F x (.hnd i)) (hy : Ev pc F y (.val (.int .i64 k))) (hM : M[i]? = some (.mpd ks l)) (hn : pc = true → ks.Nodup) (hk : pc = true → ks[j]? = some k) (hd : l[j]? = some d) : DOp P pc o F M [i] d [] := by
  intro hp a s hok hops hfp
  have hM' : s.M[i]? = some (.mpd ks l) := by rw [hfp i (by simp)]; exact hM
  obtain ⟨b, vs, hv, hβ, hob, hl, hr⟩ := mpd_at hok hM' (ev_at hp hx (by simp [ho, Op.operands]) hops)
  have hry := (ev_at hp hy (by simp [ho, Op.operands]) hops).val_eq
  have hj : j < vs.length := by rw [hl.1]; exact (List.getElem?_eq_some_iff.1 hd).1
  have hvj : vs[j]? = some vs[j] := List.getElem?_eq_getElem hj
  refine dg_val hok ?_ (hr j d _ hd hvj)
  unfold execOp
  simp only [ho, hv, hry]
  refine run_v ?_
  have hf := findI_yes (kd := kd) ks vs 0 0 j _ (hn hp) (hk hp) hvj
  unfold Instr.lookup
  rw [Sem.run_bind, run_underlying (mpT_spec hT), Result.andThen_ok]
  simp only [Sem.run_bind, getObj, Sem.run, hob, Result.andThen]
  have hc : ∀ e, (Instr.checkKey e 10000 K (.int .i64 k)).run P s.w = .ok () s.w := fun e => chkI hK e k s.w 9999
  simp [hc, Instr.findKey, run_underlying (intT_spec hK), hf]
/-- a new key is set -/
theorem op_mud {i : Nat} {k : Int} {ks : List Int} {l : List D} {kd : IntKind} {d : D} (hT : mpT P T = some (K, E)) (hK : intT P K = some kd) (ho : o.op = .mapUpdate T x y z) (hx : Ev pc F x (.hnd i)) (hy : Ev pc F y (.val (.int .i64 k))) (hz : Ev pc F z d) (hM : M[i]? = some (.mpd ks l)) (hn : pc = true → k ∉ ks) : DOp P pc o F M [i] .junk [(i, .mpd (ks ++ [k]) (l ++ [d]))] := by
  intro hp a s hok hops hfp
  have hM' : s.M[i]? = some (.mpd ks l) := by rw [hfp i (by simp)]; exact hM
  obtain ⟨b, vs, hv, hβ, hob, hl, hr⟩ := mpd_at hok hM' (ev_at hp hx (by simp [ho, Op.operands]) hops)
  have hry := (ev_at hp hy (by simp [ho, Op.operands]) hops).val_eq
  have hrz := ev_at hp hz (by simp [ho, Op.operands]) hops
  have ht := tr_mpd (ks' := ks ++ [k]) (l' := l ++ [d]) (vs' := vs ++ [a.eval z]) hok hM' hβ ⟨by simp [hl.1], by simp [hl.2]⟩ (fun j e v g1 g2 => by
    by_cases hj : j < l.length
    · rw [List.getElem?_append_left hj] at g1
      rw [List.getElem?_append_left (by omega)] at g2
      exact hr j e v g1 g2
    · rw [List.getElem?_append_right (by omega)] at g1 g2
      have : j - l.length = 0 := by
        have := (List.getElem?_eq_some_iff.1 g1).1
        simp at this; omega
      rw [this] at g1
      rw [show j - vs.length = 0 by omega] at g2
      simp at g1 g2
      subst g1
      subst g2
      exact hrz)
  refine dg_skip ?_ ht rfl
  have hf := findI_no (kd := kd) ks vs 0 0 (hn hp)
  have he := entsI_app ks vs 0 k (a.eval z) (by omega)
  unfold execOp
  simp only [ho, hv, hry]
  refine run_u ?_
  unfold Instr.mapUpdate
  rw [Sem.run_bind, run_underlying (mpT_spec hT), Result.andThen_ok]
  simp only [Sem.run_bind, getObj, Sem.run, hob, Result.andThen]
  have hc : ∀ e, (Instr.checkKey e 10000 K (.int .i64 k)).run P s.w = .ok () s.w := fun e => chkI hK e k s.w 9999
  simp [hc, Instr.findKey, run_underlying (intT_spec hK), hf, setObj, Sem.run, World.putObj, he, hob]
end
end Go.Proofs.YtfnhckildfbikaaGreat
namespace Go.Proofs.YtfnhckildfbikaaGreat
set_option linter.unusedVariables false
set_option linter.unusedSimpArgs false
open Go.RowKit
theorem entsI_mem : ∀ (ks : List Int) (vs : List Value) (o : Nat) (e : MapEntry), e ∈ entsI o ks vs → ∃ p k v, ks[p]? = some k ∧ vs[p]? = some v ∧ e = { key := .int .i64 k, val := v, born := o + p }
  | [], _, o, e, h => by simp [entsI] at h
  | _ :: _, [], o, e, h => by simp [entsI] at h
  | a :: ks, b :: vs, o, e, h => by
    rw [entsI] at h
    rcases List.mem_cons.1 h with rfl | h
    · exact ⟨0, a, b, rfl, rfl, rfl⟩
    · obtain ⟨p, k, v, h1, h2, rfl⟩ := entsI_mem ks vs (o + 1) e h
      exact ⟨p + 1, k, v, h1, h2, by rw [show o + 1 + p = o + (p + 1) by omega]⟩
theorem entsI_at : ∀ (ks : List Int) (vs : List Value) (o p : Nat) (k : Int) (v : Value), ks[p]? = some k → vs[p]? = some v → ({ key := .int .i64 k, val := v, born := o + p } : MapEntry) ∈ entsI o ks vs
  | [], _, o, p, k, v, h, _ => by simp at h
  | _ :: _, [], o, p, k, v, _, h => by simp at h
  | a :: ks, b :: vs, o, p, k, v, h, hv => by
    rw [entsI]
    cases p with
    | zero => simp at h hv; subst h; subst hv; exact List.mem_cons_self ..
    | succ p =>
      have := entsI_at ks vs (o + 1) p k v (by simpa using h) (by simpa using hv)
      rw [show o + 1 + p = o + (p + 1) by omega] at this
      exact List.mem_cons_of_mem _ this
theorem entsI_born : ∀ (ks : List Int) (vs : List Value) (o : Nat), (∀ b ∈ (entsI o ks vs).map (·.born), o ≤ b) ∧ ((entsI o ks vs).map (·.born)).Nodup
  | [], _, o => by simp [entsI]
  | _ :: _, [], o => by simp [entsI]
  | a :: ks, b :: vs, o => by
    obtain ⟨h1, h2⟩ := entsI_born ks vs (o + 1)
    rw [entsI, List.map_cons]
    refine ⟨fun c hc => ?_, List.nodup_cons.2 ⟨fun hm => ?_, h2⟩⟩
    · rcases List.mem_cons.1 hc with rfl | hc
      · exact Nat.le_refl _
      · have := h1 c hc; omega
    · have := h1 o hm; omega
section
variable {P : Program} {pc : Bool} {o : Oper} {F : Fr} {M : List Blk} {x : Operand}
/-- what an operation may give -/
def DOpE (P : Program) (o : Oper) (F : Fr) (M : List Blk) (fp : List Nat) (post : D → List (Nat × Blk) → Prop) : Prop :=
  ∀ (a : Act) (s : St), Ok s → (∀ x ∈ o.op.operands, ∀ d, ev F x = some d → Rep s d (a.eval x)) → (∀ i ∈ fp, s.M[i]? = M[i]?) →
    ∃ d wr, post d wr ∧ DGives P s (fun s' v => s'.M = upd s.M wr ∧ Rep s' d v) ((execOp a.eval o).run P s.w)
theorem walk_e {s0 : St} {n : Cx} {ops : Array Oper} {rest : List Oper} {K : Cont} {fp : List Nat} {t : Nat} {post : D → List (Nat × Blk) → Prop} (hg : o.guard = none) (hd : o.dst = some t) (ht : Nat.blt t n.n = true) (h : DOpE P o F M fp post)
    (hk : ∀ d wr, post d wr → Walk P s0 n ops rest ((t, d) :: F) (upd M wr) K) (hnd : noDef o.op = true := by rfl) : Walk P s0 n ops (o :: rest) F M K := by
  intro a w hi
  obtain ⟨h0, s, h1, h2, h3, h4, h5, h6⟩ := hi
  subst h1 h2
  show if Region.wanted o (yielded ops a.tmps) then _ else _
  have hw : Region.wanted o (yielded ops a.tmps) = true := by unfold Region.wanted; rw [hg]
  rw [if_pos hw]
  obtain ⟨d, wr, hp, hgv⟩ := h a s h3.ok (fun x _ d hd => ev_rep h4 hd) (fun _ _ => rfl)
  have hd' : dstB n.n o.dst = true := by rw [hd]; exact ht
  refine dgives_in hnd hgv fun s' v ht' ⟨e1, e2⟩ => ?_
  have hF : putF o.dst d F = (t, d) :: F := by rw [hd]; rfl
  exact hk d wr hp _ _ ⟨h0, s', e1, rfl, h3.trans ht', by rw [← hF]; exact (h4.mono h3.ok ht').putF h5 hd' e2, by rw [put_size]; exact h5, by rw [put_def]; exact h6.mono h3.ok ht'⟩
/-- a walk through it begins -/
theorem op_rgd {T K E : TypeId} {i : Nat} {ks : List Int} {l : List D} (j : Nat) (ho : o.op = .range T x) (hT : mpT P T = some (K, E)) (hx : Ev pc F x (.hnd i)) (hM : M[i]? = some (.mpd ks l)) (hj : M[j]? = some .hole) : DOp P pc o F M [i, j] (.loc j 0) [(j, .mit (.hnd i) ks.length [])] := by
  intro hp a s hok hops hfp
  have hM' : s.M[i]? = some (.mpd ks l) := by rw [hfp i (by simp)]; exact hM
  have hj' : s.M[j]? = some .hole := by rw [hfp j (by simp)]; exact hj
  have hjl : j < s.β.length := by rw [hok.len]; exact (List.getElem?_eq_some_iff.1 hj').1
  have hrx := ev_at hp hx (by simp [ho, Op.operands]) hops
  obtain ⟨b, vs, hv, hβ, hob, hl, hr⟩ := mpd_at hok hM' hrx
  have hij : j ≠ i := fun e => by subst e; rw [hM'] at hj'; cases hj'
  have ht : Tr s ⟨s.β.set j (.pointer (some ⟨s.w.heap.size, 0, none⟩)), s.I, s.M.set j (.mit (.hnd i) ks.length []), s.w.alloc (.mapIter (some b) ks.length #[] ks.length)⟩ := by
    refine tr_new hok hj' _ _ _ (by simp) (fun c hc => by cases hc; rfl) (fun c h => Below.heap_alloc _ _ _ h) (fun c hc => by cases hc; simp) (by simp) rfl rfl rfl ⟨_, b, rfl, by simpa using heap_alloc_new s.w _, .hnd (by show (s.β.set j _)[i]? = _; rw [List.getElem?_set_ne hij]; exact hβ) (by simp) (by simp)⟩
  refine dg_step (v := .pointer (some ⟨s.w.heap.size, 0, none⟩)) ?_ ht rfl (.loc (by simp [hjl]))
  have hrun := run_range_map (P := P) s.w T K E b (entsI 0 ks vs).toArray ks.length (mpT_spec hT) hob
  unfold execOp
  simp only [ho, hv]
  exact run_v hrun
theorem mit_at {s : St} (hok : Ok s) {i j n : Nat} {seen : List Nat} {ks : List Int} {l : List D} {v : Value} (hMj : s.M[j]? = some (.mit (.hnd i) n seen)) (hM : s.M[i]? = some (.mpd ks l)) (hr : Rep s (.loc j 0) v) : ∃ r b vs, v = .pointer (some ⟨r, 0, none⟩) ∧ s.β[j]? = some (.pointer (some ⟨r, 0, none⟩)) ∧ s.β[i]? = some (.map (some b)) ∧ s.w.heap[r]? = some (.mapIter (some b) n seen.toArray n) ∧ s.w.heap[b]? = some (.map (entsI 0 ks vs).toArray ks.length) ∧ (vs.length = l.length ∧ ks.length = l.length) ∧ ∀ (j : Nat) d v, l[j]? = some d → vs[j]? = some v → Rep s d v := by
  cases hr with
  | @loc _ _ r hβ =>
    obtain ⟨r', b, e1, e2, e3⟩ := hok.blk j _ _ hMj hβ
    cases e1
    obtain ⟨b', vs, q1, q2, q3, q4, q5⟩ := mpd_at hok hM e3
    cases q1
    exact ⟨r, b, vs, rfl, hβ, q2, e2, q3, q4, q5⟩
/-- the next entry, whichever -/
theorem op_nxd {i j : Nat} {seen : List Nat} {ks : List Int} {l : List D} (ho : o.op = .next x false) (hx : Ev true F x (.loc j 0)) (hMj : M[j]? = some (.mit (.hnd i) ks.length seen)) (hM : M[i]? = some (.mpd ks l)) :
    DOpE P o F M [i, j] (fun d wr => (wr = [] ∧ d = .tup [.val (.bool false)] ∧ ∀ p, p < ks.length → p ∈ seen) ∨ ∃ p k e, ks[p]? = some k ∧ l[p]? = some e ∧ p ∉ seen ∧ d = .tup [.val (.bool true), .val (.int .i64 k), e] ∧ wr = [(j, .mit (.hnd i) ks.length (seen ++ [p]))]) := by
  intro a s hok hops hfp
  have hM' : s.M[i]? = some (.mpd ks l) := by rw [hfp i (by simp)]; exact hM
  have hMj' : s.M[j]? = some (.mit (.hnd i) ks.length seen) := by rw [hfp j (by simp)]; exact hMj
  obtain ⟨r, b, vs, hv, hβj, hβi, hit, hob, hl, hr⟩ := mit_at hok hMj' hM' (ev_at rfl hx (by simp [ho, Op.operands]) hops)
  have hold : ∀ y ∈ ((entsI 0 ks vs).toArray).toList, y.born < ks.length := fun y hy => by
    obtain ⟨p, k, v, h1, h2, rfl⟩ := entsI_mem ks vs 0 y (by simpa using hy)
    have := (List.getElem?_eq_some_iff.1 h1).1
    show 0 + p < _
    omega
  have hjl : j < s.M.length := (List.getElem?_eq_some_iff.1 hMj').1
  have hlv : Live s r := live_of hMj' rfl hβj rfl
  have hrl := (hok.lt r hlv).1
  rcases run_next_at (P := P) s.w o.type r b ks.length ks.length seen.toArray (entsI 0 ks vs).toArray ks.length hit hob hold (Nat.le_refl _) with ⟨h0, hrun⟩ | ⟨e, he, w1, hw, hrun⟩
  · refine ⟨_, [], .inl ⟨rfl, rfl, fun p hp => ?_⟩, dg_val hok (by unfold execOp; simp only [ho, hv]; exact run_v hrun) (.tup rfl fun q d v g1 g2 => ?_)⟩
    · have hpv : p < vs.length := by omega
      have := all_seen (entsI 0 ks vs).toArray seen.toArray h0 _ (by simpa using entsI_at ks vs 0 p _ _ (List.getElem?_eq_getElem hp) (List.getElem?_eq_getElem hpv))
      simpa using this
    · match q, g1, g2 with
      | 0, g1, g2 => cases g1; cases g2; exact .val _
  · obtain ⟨hm, hns⟩ := mem_left he
    obtain ⟨p, k, v, h1, h2, rfl⟩ := entsI_mem ks vs 0 e (by simpa using hm)
    have hpl : p < l.length := by have := (List.getElem?_eq_some_iff.1 h1).1; omega
    have hlp : l[p]? = some l[p] := List.getElem?_eq_getElem hpl
    have hβe : s.β.set j (.pointer (some ⟨r, 0, none⟩)) = s.β := by
      have : s.β[j]'((List.getElem?_eq_some_iff.1 hβj).1) = .pointer (some ⟨r, 0, none⟩) := (List.getElem?_eq_some_iff.1 hβj).2
      rw [← this, List.set_getElem_self]
    have hji : j ≠ i := fun e => by subst e; rw [hM'] at hMj'; cases hMj'
    have hw1 : w1.heap = s.w.heap ∧ w1.os = s.w.os ∧ w1.tape = s.w.tape ∧ w1.output = s.w.output := by rcases hw with rfl | rfl <;> exact ⟨rfl, rfl, rfl, rfl⟩
    obtain ⟨hwh, hwo, hwt, hwp⟩ := hw1
    have hseen : (seen.toArray.push (0 + p)) = (seen ++ [p]).toArray := by simp
    have hsame : (Go.ChangeMaps.setBlock w1 r (.mapIter (some b) ks.length (seen.toArray.push (0 + p)) ks.length)).heap[r]? = some (.mapIter (some b) ks.length (seen ++ [p]).toArray ks.length) := by
      unfold Go.ChangeMaps.setBlock
      rw [← hseen]
      simp [hwh, hrl]
    have hother : ∀ c, c ≠ r → (Go.ChangeMaps.setBlock w1 r (.mapIter (some b) ks.length (seen.toArray.push (0 + p)) ks.length)).heap[c]? = s.w.heap[c]? := fun c hc => by
      unfold Go.ChangeMaps.setBlock
      simp only [hwh]
      rw [Array.getElem?_setIfInBounds_ne (Ne.symm hc)]
    have ht := step_set hok j s.M (.pointer (some ⟨r, 0, none⟩)) (.mit (.hnd i) ks.length (seen ++ [p])) (Go.ChangeMaps.setBlock w1 r (.mapIter (some b) ks.length (seen.toArray.push (0 + p)) ks.length)) rfl (fun _ _ h => .inl h) hjl (.inr (.inl hβj)) (by simp)
      ⟨r, b, rfl, hsame, .hnd (by show (s.β.set j _)[i]? = _; rw [hβe]; exact hβi) (by simp) (by simp)⟩
      (fun c hc q k h hne h1 h2 h3 h4 => by
        cases hc
        exact hne (hok.inj q j k _ h _ r h1 h2 h3 h4 hMj' rfl hβj rfl))
      (fun c hc => by cases hc; exact .inr hlv) (fun c hc => by cases hc; unfold Go.ChangeMaps.setBlock; simpa [hwh] using hrl) (fun _ => False) (fun _ h => h.elim)
      (fun c hc hne _ => hother c (fun e => hne (by rw [e]; rfl))) hwo hwt hwp (by unfold Go.ChangeMaps.setBlock; simp [hwh])
    rw [hβe] at ht
    refine ⟨_, [(j, .mit (.hnd i) ks.length (seen ++ [p]))], .inr ⟨p, k, l[p], h1, hlp, by simpa using hns, rfl, rfl⟩, dg_step (v := .tuple #[.bool true, .int .i64 k, v]) (by unfold execOp; simp only [ho, hv]; exact run_v hrun) ht rfl (.tup rfl fun q d v' g1 g2 => ?_)⟩
    match q, g1, g2 with
    | 0, g1, g2 => cases g1; cases g2; exact .val _
    | 1, g1, g2 => cases g1; cases g2; exact .val _
    | 2, g1, g2 =>
      cases g1; cases g2
      exact (hr p _ v hlp h2).mono hok ht
/-- the entry that the step handed out -/
theorem op_ent {i j p : Nat} {k : Int} {seen : List Nat} {ks : List Int} {l : List D} {e : D} (ho : o.op = .entry x) (hx : Ev pc F x (.loc j 0)) (hMj : M[j]? = some (.mit (.hnd i) ks.length (seen ++ [p]))) (hM : M[i]? = some (.mpd ks l)) (hk : ks[p]? = some k) (he : l[p]? = some e) : DOp P pc o F M [i, j] (.tup [.val (.int .i64 k), e]) [] := by
  intro hp a s hok hops hfp
  have hM' : s.M[i]? = some (.mpd ks l) := by rw [hfp i (by simp)]; exact hM
  have hMj' : s.M[j]? = some (.mit (.hnd i) ks.length (seen ++ [p])) := by rw [hfp j (by simp)]; exact hMj
  obtain ⟨r, b, vs, hv, hβj, hβi, hit, hob, hl, hr⟩ := mit_at hok hMj' hM' (ev_at hp hx (by simp [ho, Op.operands]) hops)
  have hpv : p < vs.length := by have := (List.getElem?_eq_some_iff.1 he).1; omega
  have hvp : vs[p]? = some vs[p] := List.getElem?_eq_getElem hpv
  have hseen : (seen ++ [p]).toArray = seen.toArray.push (0 + p) := by simp
  rw [hseen] at hit
  have hrun := run_entry_at (P := P) s.w r b ks.length seen.toArray (entsI 0 ks vs).toArray ks.length { key := .int .i64 k, val := vs[p], born := 0 + p } hit hob (by simpa using entsI_at ks vs 0 p k _ hk hvp) (by simpa using (entsI_born ks vs 0).2)
  refine dg_val (v := .tuple #[.int .i64 k, vs[p]]) hok (by unfold execOp; simp only [ho, hv]; exact run_v hrun) (.tup rfl fun q d v' g1 g2 => ?_)
  match q, g1, g2 with
  | 0, g1, g2 => cases g1; cases g2; exact .val _
  | 1, g1, g2 => cases g1; cases g2; exact hr p _ _ he hvp
end
end Go.Proofs.YtfnhckildfbikaaGreat
namespace Go.Proofs.YtfnhckildfbikaaGreat
set_option linter.unusedVariables false
set_option linter.unusedSimpArgs false
open Go.RowKit
section
variable {P : Program} {s0 : St} {n : Cx}
theorem inv_adoptc {F : Fr} {M : List Blk} {a : Act} {w : World} {i q : Nat} {T : TypeId} {l : List D} (e : TypeId) (sz : Nat) (h : Inv s0 n F M a w) (hi : M[i]? = some (.mix T l)) (hq : l[q]? = some (.val (.slice none 0 0))) : Inv s0 n F ((M ++ [Blk.arx e sz 0 []]).set i (.mix T (l.set q (.arr M.length)))) a w := by
  obtain ⟨h0, s, rfl, rfl, h3, h4, h5, h6⟩ := h
  have t1 := step_hole h3.ok
  have hlen := h3.ok.len
  have hn : (s.M ++ [Blk.hole])[s.M.length]? = some .hole := by simp
  have t2 : Tr ⟨s.β ++ [Value.nilFunc], s.I, s.M ++ [Blk.hole], s.w⟩ ⟨(s.β ++ [Value.nilFunc]).set s.M.length (.slice none 0 0), s.I, (s.M ++ [Blk.hole]).set s.M.length (.arx e sz 0 []), s.w⟩ :=
    tr_new (s := ⟨s.β ++ [Value.nilFunc], s.I, s.M ++ [Blk.hole], s.w⟩) t1.ok (j := s.M.length) hn (.slice none 0 0) (.arx e sz 0 []) s.w (by simp) (fun b hb => by cases hb) (fun b _ => rfl) (fun b hb => by cases hb) (Nat.le_refl _) rfl rfl rfl ⟨[], World.ownsRow_nil s.w 0 e sz, rfl, fun j d v h => by simp at h⟩
  have tt := t1.trans t2
  have hil : i < s.M.length := (List.getElem?_eq_some_iff.1 hi).1
  have eM : (s.M ++ [Blk.hole]).set s.M.length (.arx e sz 0 []) = s.M ++ [.arx e sz 0 []] := by simp
  rw [eM] at tt
  generalize hS : (⟨(s.β ++ [Value.nilFunc]).set s.M.length (.slice none 0 0), s.I, s.M ++ [.arx e sz 0 []], s.w⟩ : St) = S at tt
  have hSM : S.M = s.M ++ [.arx e sz 0 []] := by rw [← hS]
  have hSw : S.w = s.w := by rw [← hS]
  have hMi : S.M[i]? = some (.mix T l) := by rw [hSM, List.getElem?_append_left hil]; exact hi
  have hβlen : s.M.length < S.β.length := by rw [← hS]; simp [hlen]
  have hβn : S.β[s.M.length]? = some (.slice none 0 0) := by rw [← hS]; simp [hlen]
  obtain ⟨hd, hβi⟩ : ∃ hd, S.β[i]? = some hd := ⟨_, List.getElem?_eq_getElem (by omega)⟩
  obtain ⟨b, vs, rfl, hb, hl, hr⟩ := tt.ok.blk i _ _ hMi hβi
  have hβe : S.β.set i (.pointer (some ⟨b, 0, none⟩)) = S.β := by
    refine List.ext_getElem? fun k => ?_
    by_cases hk : i = k
    · subst hk; rw [List.getElem?_set_self (by omega), hβi]
    · rw [List.getElem?_set_ne hk]
  have t3 : Tr S ⟨S.β.set i (.pointer (some ⟨b, 0, none⟩)), S.I, S.M.set i (.mix T (l.set q (.arr s.M.length))), S.w⟩ := by
    have hlv : Live S b := live_of hMi rfl hβi rfl
    refine step_set tt.ok i S.M (.pointer (some ⟨b, 0, none⟩)) (.mix T (l.set q (.arr s.M.length))) S.w rfl (fun _ _ h => .inl h) (List.getElem?_eq_some_iff.1 hMi).1 (.inr (.inl hβi)) (by simp) ?_ (fun c hc j k h hne h1 h2 h3 h4 => ?_) (fun c hc => by cases hc; exact .inr hlv) (fun c hc => by cases hc; exact (tt.ok.lt b hlv).1) (fun _ => False) (fun _ h => h.elim) (fun _ _ _ _ => rfl) rfl rfl rfl (Nat.le_refl _)
    · refine ⟨b, vs, rfl, hb, by rw [List.length_set]; exact hl, fun j d v h1 h2 => ?_⟩
      have up : ∀ {d : D} {v : Value}, Rep S d v → Rep ⟨S.β.set i (.pointer (some ⟨b, 0, none⟩)), S.I, S.M.set i (.mix T (l.set q (.arr s.M.length))), S.w⟩ d v := fun h =>
        Rep.monoK (s := S) (s' := ⟨S.β.set i (.pointer (some ⟨b, 0, none⟩)), S.I, S.M.set i (.mix T (l.set q (.arr s.M.length))), S.w⟩) (by show hkeep S.β (S.β.set i _); rw [hβe]; exact hkeep.refl _) (fun _ h => h) (fun _ _ => rfl) h
      by_cases e : q = j
      · subst e
        rw [List.getElem?_set_self (List.getElem?_eq_some_iff.1 hq).1] at h1
        obtain rfl := Option.some.inj h1
        have hv := (hr q _ v hq h2).val_eq
        subst hv
        exact .arr (by show (S.β.set i _)[_]? = _; rw [hβe]; exact hβn)
      · rw [List.getElem?_set_ne e] at h1
        exact up (hr j d v h1 h2)
    · cases hc
      exact hne (tt.ok.inj j i k _ h _ b h1 h2 h3 h4 hMi rfl hβi rfl)
  have ttt := tt.trans t3
  refine ⟨h0, ⟨S.β.set i (.pointer (some ⟨b, 0, none⟩)), S.I, S.M.set i (.mix T (l.set q (.arr s.M.length))), S.w⟩, by simp only [hSM], hSw, h3.trans ttt, fun x d hd => (h4 x d hd).mono h3.ok ttt, h5, h6.mono h3.ok ttt⟩
theorem dwp_adoptc {c : Code} {F : Fr} {M M' : List Blk} {K : Cont} {T : TypeId} {l l' : List D} (i q : Nat) (e : TypeId) (sz : Nat) {m : Nat} (hi : M[i]? = some (.mix T l)) (hq : l[q]? = some (.val (.slice none 0 0))) (hm : M.length = m) (hl : l.set q (.arr m) = l') (hM : (M ++ [Blk.arx e sz 0 []]).set i (.mix T l') = M') (h : dwp P s0 n c F M' K) : dwp P s0 n c F M K := by
  subst hm hl hM
  exact fun a w hv => h a w (inv_adoptc e sz hv hi hq)
end
/-- what is known of a result's value, told otherwise -/
theorem DFun.wk {P : Program} {f : FuncId} {args : List D} {d d' : D} {Min Mout : List Blk} (h : DFun P f args Min d Mout) (hd : ∀ s v, Rep s d v → Rep s d' v) : DFun P f args Min d' Mout := by
  refine ⟨h.1, fun s vs hok hM hr => (h.2 s vs hok hM hr).mono ?_⟩
  rintro e w' ⟨s', rfl, ht, hor⟩
  rcases hor with ⟨d0, v, rfl, hrep, rfl, hMo⟩ | ⟨d0, v, _, _, hf⟩
  · exact ⟨s', rfl, ht, .inl ⟨d', v, rfl, hd s' v hrep, rfl, hMo⟩⟩
  · exact hf.elim
end Go.Proofs.YtfnhckildfbikaaGreat
namespace Go.Proofs.YtfnhckildfbikaaGreat
set_option linter.unusedVariables false
set_option linter.unusedSimpArgs false
open Go.RowKit
/-- what reads as d reads as d', too -/
def Wk (d d' : D) : Prop := ∀ s v, Rep s d v → Rep s d' v
def WkL (l l' : List D) : Prop := l.length = l'.length ∧ ∀ (j : Nat) d d', l[j]? = some d → l'[j]? = some d' → Wk d d'
theorem Wk.refl (d : D) : Wk d d := fun _ _ h => h
theorem Wk.of_eq {d d' : D} (h : d = d') : Wk d d' := h ▸ Wk.refl d
theorem WkL.nil : WkL [] [] := ⟨rfl, fun j d d' h => by simp at h⟩
theorem WkL.cons {d d' : D} {l l' : List D} (h : Wk d d') (hl : WkL l l') : WkL (d :: l) (d' :: l') := by
  refine ⟨by simp [hl.1], fun j e e' h1 h2 => ?_⟩
  cases j with
  | zero => simp at h1 h2; subst h1 h2; exact h
  | succ j => exact hl.2 j e e' (by simpa using h1) (by simpa using h2)
theorem WkL.refl (l : List D) : WkL l l := ⟨rfl, fun j d d' h1 h2 => by rw [h1] at h2; cases h2; exact Wk.refl d⟩
theorem WkL.rep {s : St} {l l' : List D} {vs : List Value} (h : WkL l l') (hr : ∀ (j : Nat) d v, l[j]? = some d → vs[j]? = some v → Rep s d v) : ∀ (j : Nat) d v, l'[j]? = some d → vs[j]? = some v → Rep s d v := fun j d v h1 h2 => by
  have hj : j < l.length := by rw [h.1]; exact (List.getElem?_eq_some_iff.1 h1).1
  exact h.2 j l[j] d (List.getElem?_eq_getElem hj) h1 s v (hr j _ v (List.getElem?_eq_getElem hj) h2)
theorem Wk.tup {l l' : List D} (h : WkL l l') : Wk (.tup l) (.tup l') := fun s v hr => by
  cases hr with
  | tup hl hr => exact .tup (hl.trans h.1) (h.rep hr)
theorem Wk.agg {l l' : List D} (h : WkL l l') : Wk (.agg l) (.agg l') := fun s v hr => by
  cases hr with
  | agg hl hr => exact .agg (hl.trans h.1) (h.rep hr)
theorem Wk.slf0 (sz : Nat) : Wk (.val (.slice none 0 0)) (.slf sz 0 []) := fun s v hr => by
  cases hr with
  | val => exact .slf (by simp) (Nat.le_refl _) (Nat.zero_le _) (fun _ => rfl) (.inl rfl)
theorem Wk.vagg (l : List Value) : Wk (.val (.agg l.toArray)) (.agg (l.map D.val)) := fun s v hr => by
  cases hr with
  | val =>
    refine .agg (by simp) fun j d v h1 h2 => ?_
    rw [List.getElem?_map, h2] at h1
    cases h1
    exact .val v
theorem Wk.trans {d d' d'' : D} (h : Wk d d') (k : Wk d' d'') : Wk d d'' := fun s v hr => k s v (h s v hr)
/-- .. of what an operation hands back -/
theorem DOp.wk {P : Program} {pc : Bool} {o : Oper} {F : Fr} {M : List Blk} {fp : List Nat} {d d' : D} {wr : List (Nat × Blk)} (h : DOp P pc o F M fp d wr) (hw : Wk d d') : DOp P pc o F M fp d' wr := by
  intro hp a s hok hops hfp
  exact (h hp a s hok hops hfp).map fun s' v ho' ⟨e1, e2⟩ => ⟨s', rfl, Tr.refl ho', e1, hw s' v e2⟩
section
variable {P : Program} {s0 : St} {n : Cx}
/-- .. of what a slot holds -/
theorem dwp_wk {c : Code} {F : Fr} {M : List Blk} {K : Cont} {d d' : D} (t : Nat) (ht : lk F t = some d) (hw : Wk d d') (h : dwp P s0 n c ((t, d') :: F) M K) : dwp P s0 n c F M K := by
  intro a w hi
  refine h a w ?_
  obtain ⟨h0, s, h1, h2, h3, h4, h5, h6⟩ := hi
  refine ⟨h0, s, h1, h2, h3, fun x e he => ?_, h5, h6⟩
  rw [lk_cons] at he
  split at he
  · rename_i e'
    subst e'
    obtain rfl := Option.some.inj he
    exact hw s _ (h4 t _ ht)
  · exact h4 x e he
end
section
variable {P : Program} {pc : Bool} {o : Oper} {F : Fr} {M : List Blk} {T : TypeId} {x : Operand}
end
end Go.Proofs.YtfnhckildfbikaaGreat
namespace Go.Proofs.YtfnhckildfbikaaGreat
set_option linter.unusedVariables false
set_option linter.unusedSimpArgs false
open Go.RowKit
section
variable {P : Program} {s0 : St} {n : Cx}
theorem inv_gone {F : Fr} {M : List Blk} {a : Act} {w : World} (i : Nat) (h : Inv s0 n F M a w) : Inv s0 n F (M.set i .gone) a w := by
  obtain ⟨h0, s, rfl, rfl, h3, h4, h5, h6⟩ := h
  have tt := tr_gone h3.ok i
  exact ⟨h0, ⟨s.β, s.I, s.M.set i .gone, s.w⟩, rfl, rfl, h3.trans tt, fun x d hd => (h4 x d hd).mono h3.ok tt, h5, h6.mono h3.ok tt⟩
/-- a block that nobody asks for any more -/
theorem dwp_gone {c : Code} {F : Fr} {M M' : List Blk} {K : Cont} (i : Nat) (hM' : M.set i .gone = M') (h : dwp P s0 n c F M' K) : dwp P s0 n c F M K := by
  subst hM'
  exact fun a w hi => h a w (inv_gone i hi)
end
end Go.Proofs.YtfnhckildfbikaaGreat
namespace Go.Proofs.YtfnhckildfbikaaGreat
set_option linter.unusedVariables false
set_option linter.unusedSimpArgs false
open Go.RowKit
section
variable {P : Program} {pc : Bool} {o : Oper} {F : Fr} {M : List Blk} {T : TypeId} {x y : Operand} {k : IntKind} {z : Int} {n : Nat}
end
/-- behind a guard that does not hold nothing is done -/
theorem dop_never {P : Program} {o : Oper} {F : Fr} {M : List Blk} {d : D} : DOp P false o F M [] d [] := fun h => by cases h
/-- behind a guard that is known to hold -/
theorem walk_k {P : Program} {s0 : St} {n : Cx} {ops : Array Oper} {o : Oper} {rest : List Oper} {F : Fr} {M M' : List Blk} {K : Cont} {fp : List Nat} {d : D} {t : Nat} {wr : List (Nat × Blk)} (hg : Gd ops o F true) (hng : o.guard.isSome = true) (hd : o.dst = some t) (ht : Nat.blt t n.n = true) (h : DOp P true o F M fp d wr) (hM : upd M wr = M')
    (hk : Walk P s0 n ops rest ((t, .opt true d) :: F) M' K) (hnd : noDef o.op = true := by rfl) : Walk P s0 n ops (o :: rest) F M K := by
  subst hM
  have hb : dstB n.n o.dst = true := by rw [hd]; exact ht
  have hk : Walk P s0 n ops rest (putF o.dst (.opt true d) F) (upd M wr) K := by rw [hd]; exact hk
  intro a w hi
  obtain ⟨h0, s, h1, h2, h3, h4, h5, h6⟩ := hi
  subst h1 h2
  show if Region.wanted o (yielded ops a.tmps) then _ else _
  rw [gd_wanted hg (fun t d _ hd => h4 t d hd)]
  rw [if_pos rfl]
  refine dgives_in hnd (h rfl a s h3.ok (fun x _ d hd => ev_rep h4 hd) (fun _ _ => rfl)) fun s' v ht ⟨e1, e2⟩ => ?_
  exact hk _ _ ⟨h0, s', e1, rfl, h3.trans ht, (h4.mono h3.ok ht).putF h5 hb (.opt (fun _ => e2) (fun h => by cases h)), by rw [put_size]; exact h5, by rw [put_def]; exact h6.mono h3.ok ht⟩
end Go.Proofs.YtfnhckildfbikaaGreat
namespace Go.Proofs.YtfnhckildfbikaaGreat
set_option linter.unusedVariables false
set_option linter.unusedSimpArgs false
open Go.RowKit
theorem DGives.of_tr {P : Program} {s s1 : St} {post : St → Value → Prop} {r : Result Next} (t : Tr s s1) (hw : s1.w = s.w) (h : DGives P s1 post r) : DGives P s post r := by
  have key : ∀ {w' : World} {v : Value}, (∃ s', s'.w = w' ∧ Tr s1 s' ∧ post s' v) → ∃ s', s'.w = w' ∧ Tr s s' ∧ post s' v := by
    rintro w' v ⟨s', rfl, a2, a3⟩
    exact ⟨s', rfl, t.trans a2, a3⟩
  cases r with
  | halt x w => exact h.elim
  | ok x w =>
    cases x with
    | value v => exact key h
    | skip => exact key h
    | enter f args =>
      obtain ⟨h1, h2⟩ := h
      refine ⟨h1.trans hw, ?_⟩
      rw [← hw]
      refine h2.mono ?_
      rintro e w'' ⟨s', v, e1, e2, e3, e4⟩
      exact ⟨s', v, e1, e2, t.trans e3, e4⟩
    | round l f tmps asg body =>
      obtain ⟨h1, h2⟩ := h
      refine ⟨h1.trans hw, ?_⟩
      rw [← hw]
      refine RoundIn.mono h2 ?_
      rintro e w'' ⟨s', v, e1, e2, e3, e4⟩
      exact ⟨s', v, e1, e2, t.trans e3, e4⟩
    | _ => exact h.elim
section
variable {P : Program} {pc : Bool} {o : Oper} {F : Fr} {M : List Blk}
/-- a row of a family, appended to: the row that comes is a new member -/
theorem op_appF {T e : TypeId} {sz by' n m f j1 j2 k t t2 : Nat} {Bs : List Mem} {L L2 Z : List Value} (ho : o.op = .call { callee := .builtin .append, args := #[.tmp t, .tmp t2], argTypes := #[T, T] }) (ht : (t == t2) = false) (hT : slE P T = some (e, sz, by')) (hZ : zrC P e = some Z) (hZl : Z.length = sz)
    (hx : Ev pc F (.tmp t) (.farr f k)) (hy : Ev pc F (.tmp t2) (.slf sz m L2)) (hM : M[f]? = some (.fam Bs)) (hB : Bs[k]? = some (.arr e sz n L)) (hj1 : M[j1]? = some .hole) (hj2 : M[j2]? = some .hole) (hne : (j1 == j2) = false) (h1 : pc = true → L2.all (·.oneCell') = true) (hbd : pc = true → (n + m) * by' ≤ 140737488355328 ∧ n + m ≤ 140737488355328) :
    DOp P pc o F M [f, j1, j2] (.farr f Bs.length) [(f, .fam (Bs.set k .gone ++ [.arr e sz (n + m) (L ++ L2)])), (j1, .gone), (j2, .gone)] := by
  intro hp a s hok hops hfp
  have ht : t ≠ t2 := by simpa using ht
  have hne : j1 ≠ j2 := by simpa using hne
  have hmem : o.op.operands = #[.tmp t, .tmp t2] := by rw [ho]; rfl
  have rx := ev_at hp hx (by rw [hmem]; simp) hops
  have ry := ev_at hp hy (by rw [hmem]; simp) hops
  have hM' : s.M[f]? = some (.fam Bs) := by rw [hfp f (by simp)]; exact hM
  have g1 : s.M[j1]? = some .hole := by rw [hfp j1 (by simp)]; exact hj1
  have g2 : s.M[j2]? = some .hole := by rw [hfp j2 (by simp)]; exact hj2
  have hf1 : f ≠ j1 := fun e => by subst e; rw [hM'] at g1; cases g1
  have hf2 : f ≠ j2 := fun e => by subst e; rw [hM'] at g2; cases g2
  have hfl := (List.getElem?_eq_some_iff.1 hM').1
  have hl1 := (List.getElem?_eq_some_iff.1 g1).1
  have hl2 := (List.getElem?_eq_some_iff.1 g2).1
  generalize hvx : a.eval (.tmp t) = vx at rx
  cases rx with
  | @farr _ _ ad n' c hs q1 q2 =>
    have tt := tr_rel (B := .arr e sz n L) hok hM' g1 hB rfl q1 q2
    obtain ⟨s1, e1⟩ : ∃ s1 : St, s1 = ⟨s.β.set j1 (.slice ad n' c), s.I, (s.M.set f (.fam (Bs.set k .gone))).set j1 (.arr e sz n L), s.w⟩ := ⟨_, rfl⟩
    have tt : Tr s s1 := by rw [e1]; exact tt
    have hM1 : s1.M = (s.M.set f (.fam (Bs.set k .gone))).set j1 (.arr e sz n L) := by rw [e1]
    have hw1 : s1.w = s.w := by rw [e1]
    have hβ1 : s1.β[j1]? = some (.slice ad n' c) := by rw [e1]; show (s.β.set j1 _)[j1]? = _; rw [List.getElem?_set_self (by rw [hok.len]; exact hl1)]
    have m1 : s1.M[j1]? = some (.arr e sz n L) := by rw [hM1, List.getElem?_set_self (by simpa using hl1)]
    have m2 : s1.M[j2]? = some .hole := by rw [hM1, List.getElem?_set_ne hne, List.getElem?_set_ne hf2]; exact g2
    have m3 : s1.M[f]? = some (.fam (Bs.set k .gone)) := by rw [hM1, List.getElem?_set_ne (Ne.symm hf1), List.getElem?_set_self hfl]
    have ra : Rep s1 (.arr j1) (a.eval (.tmp t)) := by rw [hvx]; exact .arr hβ1
    have hl : ∀ x ∈ o.op.operands, ∀ d, ev [(t, D.arr j1), (t2, .slf sz m L2)] x = some d → Rep s1 d (a.eval x) := by
      intro x hx' d hd
      rw [hmem] at hx'
      simp at hx'
      rcases hx' with rfl | rfl
      · simp only [ev, lk, Nat.beq_refl, cond_true] at hd
        cases hd
        exact ra
      · have hb : Nat.beq t t2 = false := by
          cases hbb : Nat.beq t t2
          · rfl
          · exact absurd (Nat.eq_of_beq_eq_true hbb) ht
        simp only [ev, lk, hb, Nat.beq_refl, cond_true, cond_false] at hd
        cases hd
        exact ry.mono hok tt
    have hb : Nat.beq t t2 = false := by
      cases hbb : Nat.beq t t2
      · rfl
      · exact absurd (Nat.eq_of_beq_eq_true hbb) ht
    have hD := op_app (P := P) (pc := true) (F := [(t, D.arr j1), (t2, .slf sz m L2)]) (M := s1.M) (i := j1) (j := j2) (d := .slf sz m L2) (fp := []) ho hT hZ hZl (ev1 (by simp only [ev, lk, Nat.beq_refl, cond_true])) (ev1 (by simp only [ev, lk, hb, Nat.beq_refl, cond_true, cond_false])) src_slf m1 m2 (fun _ => h1 hp) (fun _ => hbd hp) rfl a s1 tt.ok hl (fun _ _ => rfl)
    rw [hw1] at hD
    refine (DGives.of_tr tt hw1 hD).map fun s' v ho' ⟨u1, u2⟩ => ?_
    have hs'M : s'.M = (s1.M.set j1 .gone).set j2 (.arr e sz (n + m) (L ++ L2)) := u1
    have k2 : s'.M[j2]? = some (.arr e sz (n + m) (L ++ L2)) := by rw [hs'M, List.getElem?_set_self (by rw [List.length_set, hM1]; simpa using hl2)]
    have k3 : s'.M[f]? = some (.fam (Bs.set k .gone)) := by rw [hs'M, List.getElem?_set_ne (Ne.symm hf2), List.getElem?_set_ne (Ne.symm hf1)]; exact m3
    have hlen' := ho'.len
    have kf := (List.getElem?_eq_some_iff.1 k3).1
    have kj := (List.getElem?_eq_some_iff.1 k2).1
    obtain ⟨x, hx2⟩ : ∃ x, s'.β[f]? = some x := ⟨_, List.getElem?_eq_getElem (by omega)⟩
    obtain ⟨y, hy2⟩ : ∃ y, s'.β[j2]? = some y := ⟨_, List.getElem?_eq_getElem (by omega)⟩
    obtain ⟨hs2, rfl, hfo⟩ := ho'.blk f _ x k3 hx2
    have t3 := tr_abs (B := .arr e sz (n + m) (L ++ L2)) ho' k3 k2 rfl hx2 hy2
    refine ⟨⟨s'.β.set f (.tuple (hs2 ++ [y]).toArray), s'.I, (s'.M.set j2 .gone).set f (.fam (Bs.set k .gone ++ [.arr e sz (n + m) (L ++ L2)])), s'.w⟩, rfl, t3, ?_, ?_⟩
    · show (s'.M.set j2 .gone).set f _ = ((s.M.set f _).set j1 .gone).set j2 .gone
      rw [hs'M, hM1]
      apply List.ext_getElem?
      intro i
      simp only [List.getElem?_set, List.length_set]
      by_cases a1 : f = i
      · subst a1
        simp [hf1.symm, hf2.symm, hfl]
      · by_cases a2 : j1 = i
        · subst a2
          simp [a1, hne.symm, hl1]
        · by_cases a3 : j2 = i
          · subst a3
            simp [a1, a2, hl2]
          · simp [a1, a2, a3]
    · cases u2 with
      | @arr _ ad' n'' c' hβ =>
        rw [hy2] at hβ
        obtain rfl := Option.some.inj hβ
        refine .farr (hs := hs2 ++ [.slice ad' n'' c']) (by show (s'.β.set f _)[f]? = _; rw [List.getElem?_set_self (by omega)]) ?_
        have : hs2.length = Bs.length := by rw [hfo.len]; simp
        rw [List.getElem?_append_right (by omega), show Bs.length - hs2.length = 0 by omega]
        rfl
end
section
variable {P : Program} {s0 : St} {n : Cx}
end
section
variable {P : Program} {pc : Bool} {o : Oper} {F : Fr} {M : List Blk} {T : TypeId} {x y : Operand} {k : IntKind} {z : Int} {n sz : Nat}
end
/-- plain cells, told as a plain struct -/
theorem Wk.aggv (l : List Value) : Wk (.agg (l.map D.val)) (.val (.agg l.toArray)) := fun s v hr => by
  cases hr with
  | @agg _ vs hl h =>
    have : vs = l := by
      apply List.ext_getElem
      · simpa using hl
      · intro j h1 h2
        exact (h j (.val l[j]) vs[j] (by rw [List.getElem?_map, List.getElem?_eq_getElem h2]; rfl) (List.getElem?_eq_getElem h1)).val_eq
    subst this
    exact .val _
/-- a plain struct behind a pointer into memory that stays -/
theorem op_lddv {P : Program} {pc : Bool} {o : Oper} {F : Fr} {M : List Blk} {T : TypeId} {x : Operand} {k : Nat} {l : List D} (L : List Value) (ho : o.op = .load T x) (hT : tyB P T = some (true, k)) (hx : Ev pc F x (.dpm l)) (hL : l.take k = L.map D.val) (hk : L.length = k) : DOp P pc o F M [] (.val (.agg L.toArray)) [] :=
  (op_lddr (R := L.map D.val) ho hT hx hL (by simpa using hk)).wk (Wk.aggv L)
end Go.Proofs.YtfnhckildfbikaaGreat
namespace Go.Proofs.YtfnhckildfbikaaGreat
set_option linter.unusedVariables false
set_option linter.unusedSimpArgs false
open Go.RowKit
section
variable {P : Program} {pc : Bool} {o : Oper} {F : Fr} {M : List Blk} {T e : TypeId} {by' sz : Nat} {x y : Operand}
/-- make, of length 0 -/
theorem op_mk0x (j n : Nat) {k k' : IntKind} {z z' : Int} {Z : List Value} (ho : o.op = .makeSlice T x y) (hT : slE P T = some (e, sz, by')) (hZ : zrC P e = some Z) (hx : Ev pc F x (.val (.int k z))) (hy : Ev pc F y (.val (.int k' z'))) (hz : pc = true → z = 0) (hz' : pc = true → z' = (n : Int)) (hj : M[j]? = some .hole) (hb : pc = true → by' * n ≤ 281474976710656 ∧ n ≤ 9223372036854775807) :
    DOp P pc o F M [j] (.arr j) [(j, .arx e sz 0 [])] := by
  intro hp a s hok hops hfp
  obtain ⟨e1, ti, e2, e3, e4⟩ := slE_spec hT
  obtain ⟨ti', zv, q1, q2, q3⟩ := zrC_spec hZ
  rw [e2] at q1
  obtain rfl := Option.some.inj q1
  have h1 := (ev_at hp hx (by simp [ho, Op.operands]) hops).val_eq
  have h2 := (ev_at hp hy (by simp [ho, Op.operands]) hops).val_eq
  rw [hz hp] at h1
  rw [hz' hp] at h2
  obtain ⟨b1, b2⟩ := hb hp
  have hj' : s.M[j]? = some .hole := by rw [hfp j (by simp)]; exact hj
  have hjl : j < s.β.length := by rw [hok.len]; exact (List.getElem?_eq_some_iff.1 hj').1
  have hb3 : (ti.bytes : Int) * (n : Int) ≤ 281474976710656 := by
    have h : ((ti.bytes * n : Nat) : Int) ≤ 281474976710656 := by rw [e4]; omega
    rwa [Int.natCast_mul] at h
  have hrun := run_make (P := P) s.w T e ti zv e1 e2 q2 k k' 0 n (Int.le_refl _) (by omega) hb3 (by omega)
  simp only [Int.toNat_natCast, Int.toNat_zero] at hrun
  have hrow := World.ownsRow_made (base := 0) (e := e) (size := ti.size) s.w (madeCells zv.cells (n * ti.size)) n (Nat.zero_le _) (by unfold maxLen; omega) (size_madeCells _ _)
  rw [e3] at hrow hrun
  refine dg_step (s' := ⟨s.β.set j (.slice (some ⟨s.w.heap.size, 0, none⟩) 0 n), s.I, s.M.set j (.arx e sz 0 []), _⟩) (v := .slice (some ⟨s.w.heap.size, 0, none⟩) 0 n) ?_ (tr_new hok hj' _ _ _ (by simp) (fun b hb => by cases hb; rfl) (fun b h => Below.heap_alloc _ _ _ h) (fun b hb => by cases hb; simp) (by simp) rfl rfl rfl ⟨[], hrow, rfl, fun p d v g1 g2 => by simp at g1⟩) rfl (.arr (by simp [hjl]))
  unfold execOp
  simp only [ho, h1, h2]
  exact run_v hrun
theorem op_stmq {T T' : TypeId} {x y : Operand} {i p : Nat} {rw' : Bool} {d : D} {l l' : List D} (ho : o.op = .store T x y) (hT : tyB P T = some (rw', 1)) (hx : Ev pc F x (.loc i p)) (hy : Ev pc F y d) (h1 : ∀ (s : St) v, Rep s d v → v.cells = #[v] ∧ v.oneCell' = true) (hM : M[i]? = some (.mix T' l)) (hfit : p < l.length) (h : l.set p d = l') : DOp P pc o F M [i] .junk [(i, .mix T' l')] := by
  subst h
  exact op_stm ho hT hx hy h1 hM hfit
end
end Go.Proofs.YtfnhckildfbikaaGreat
namespace Go.Proofs.YtfnhckildfbikaaGreat
set_option linter.unusedVariables false
set_option linter.unusedSimpArgs false
open Go.RowKit
mutual
/-- the addresses that data names -/
def D.pins : D → List Nat
  | .pin b _ => [b]
  | .tup l => D.pinsL l
  | .agg l => D.pinsL l
  | .dpm l => D.pinsL l
  | .slm _ _ l => D.pinsL l
  | _ => []
def D.pinsL : List D → List Nat
  | [] => []
  | d :: l => d.pins ++ D.pinsL l
end
theorem pinsL_mem : ∀ (l : List D) (b : Nat), b ∈ D.pinsL l → ∃ (j : Nat) (d : D), l[j]? = some d ∧ b ∈ d.pins
  | [], b, h => by simp [D.pinsL] at h
  | d :: l, b, h => by
    rw [D.pinsL] at h
    rcases List.mem_append.1 h with h | h
    · exact ⟨0, d, rfl, h⟩
    · obtain ⟨j, e, h1, h2⟩ := pinsL_mem l b h
      exact ⟨j + 1, e, by simpa using h1, h2⟩
/-- what is named by its address stays -/
theorem rep_pins {s : St} {d : D} {v : Value} (h : Rep s d v) : ∀ b ∈ d.pins, s.I b := by
  have key : ∀ {l : List D} {vs : List Value}, vs.length = l.length → (∀ (j : Nat) d v, l[j]? = some d → vs[j]? = some v → ∀ b ∈ d.pins, s.I b) → ∀ b ∈ D.pinsL l, s.I b := by
    intro l vs hl ih b hb
    obtain ⟨j, d, h1, h2⟩ := pinsL_mem l b hb
    have hj : j < vs.length := by rw [hl]; exact (List.getElem?_eq_some_iff.1 h1).1
    exact ih j d _ h1 (List.getElem?_eq_getElem hj) b h2
  induction h with
  | pin hI h ho => intro b hb; simp only [D.pins, List.mem_singleton] at hb; subst hb; exact hI
  | tup hl _ ih => intro b hb; exact key hl ih b (by simpa [D.pins] using hb)
  | agg hl _ ih => intro b hb; exact key hl ih b (by simpa [D.pins] using hb)
  | dpm hnl hI hc hl _ ih => intro b hb; exact key hl ih b (by simpa [D.pins] using hb)
  | slm hnl hl hn hc ha hv _ hm ih => intro b hb; exact key hv ih b (by simpa [D.pins] using hb)
  | _ => intro b hb; simp [D.pins] at hb
section
variable {P : Program} {s0 : St} {n : Cx}
/-- a contract: what comes back is one of several things, told by what stays already -/
def DCallsI (P : Program) (f : FuncId) (args : List D) (Min : List Blk) (post : (Nat → Prop) → D → List Blk → Prop) : Prop :=
  callB P f = true ∧ ∀ (s : St) (vs : List Value), Ok s → s.M = Min → Reps s args vs → Calls P f vs.toArray s.w fun e w' =>
    ∃ s', s'.w = w' ∧ Tr s s' ∧ ∃ d v, e = .returned v ∧ Rep s' d v ∧ post s.I d s'.M
def DFunI (P : Program) (f : FuncId) (args : List D) (Min : List Blk) (post : (Nat → Prop) → D → Prop) (Mout : List Blk) : Prop :=
  DCallsI P f args Min fun I d M => post I d ∧ M = Mout
theorem dcallsI_go {f : FuncId} {fn : Func} {c : Code} {args : List D} {F0 : Fr} {Min : List Blk} {post : (Nat → Prop) → D → List Blk → Prop} {N : Nat} (m : Nat) (hcb : callB P f = true) (hf : P.funcs[f]? = some fn) (hc : fn.body = some c) (hn : fn.ntmps = N) (hle : Nat.ble args.length N = true) (hF : fr0 0 args = F0) (hm : Min.length = m)
    (h : ∀ s0 : St, s0.M.length ≤ m → dwp P s0 ⟨N, none, m, [], true⟩ c F0 Min (Kret P fn m [] (post s0.I) fun _ _ => False)) : DCallsI P f args Min post := by
  subst hF hm
  refine ⟨hcb, ?_⟩
  intro s vs ho hM hr
  obtain ⟨hl, hr⟩ := hr
  have hle := Nat.le_of_ble_eq_true hle
  have hslot : ∀ t d, lk (fr0 0 args) t = some d → Rep s d (slot { tmps := vs.toArray ++ Array.replicate (fn.ntmps - vs.toArray.size) undef, defers := [] } t) := by
    intro t d hd
    obtain ⟨_, h2⟩ := fr0_lk args 0 t d hd
    simp only [Nat.sub_zero] at h2
    have hlt : t < args.length := (List.getElem?_eq_some_iff.1 h2).1
    have hv : vs[t]? = some vs[t] := List.getElem?_eq_getElem (by omega)
    have : slot { tmps := vs.toArray ++ Array.replicate (fn.ntmps - vs.toArray.size) undef, defers := [] } t = vs[t] := by
      unfold slot
      simp only [Array.getD_eq_getD_getElem?]
      rw [Array.getElem?_append_left (by simp; omega)]
      simp [show t < vs.length by omega]
    rw [this]
    exact hr t d _ h2 hv
  have hs : s.M.length ≤ Min.length := by rw [hM]; exact Nat.le_refl _
  have hb : dbody P s ⟨N, none, Min.length, [], true⟩ fn Min.length (post s.I) (fun _ _ => False) c (fr0 0 args) Min := dbody_end rfl hs (h s hs)
  have hcalls := callsIn_wide.1 (callsIn_of_wp_marks (F := Fence.wide) (n := 0) hf hc trivial (hb _ _ ⟨ho, s, hM, rfl, Tr.refl ho, hslot, by simp; omega, .nil⟩))
  refine Calls.mono hcalls ?_
  rintro e w' ⟨s', h1, h2, (⟨d, v, h3, h4, h5⟩ | ⟨_, _, _, _, h5⟩)⟩
  · exact ⟨s', h1, h2, d, v, h3, h4, h5⟩
  · exact h5.elim
theorem DFunI.fun {f : FuncId} {args : List D} {Min Mout : List Blk} {post : (Nat → Prop) → D → Prop} {d0 : D} (h : DFunI P f args Min post Mout) (hd : ∀ I d, post I d → Wk d d0) : DFun P f args Min d0 Mout := by
  refine ⟨h.1, fun s vs ho hM hr => Calls.mono (h.2 s vs ho hM hr) ?_⟩
  rintro e w' ⟨s', h1, h2, d, v, h3, h4, h5, h6⟩
  exact ⟨s', h1, h2, .inl ⟨d0, v, h3, hd _ _ h5 s' v h4, rfl, h6⟩⟩
theorem DFunI.of {f : FuncId} {args : List D} {Min Mout : List Blk} {post post' : (Nat → Prop) → D → Prop} (h : DFunI P f args Min post Mout) (hd : ∀ I d, post I d → post' I d) : DFunI P f args Min post' Mout := by
  refine ⟨h.1, fun s vs ho hM hr => Calls.mono (h.2 s vs ho hM hr) ?_⟩
  rintro e w' ⟨s', h1, h2, d, v, h3, h4, h5, h6⟩
  exact ⟨s', h1, h2, d, v, h3, h4, hd _ _ h5, h6⟩
theorem kendI {fn : Func} {F : Fr} {M Mo : List Blk} {d d' : D} {m : Nat} {post : (Nat → Prop) → D → Prop} {I : Nat → Prop} {pan : D → List Blk → Prop} (σ : List Nat) (hr : ResD P fn F M d) (hσ : okσ m σ = true) (hv : vw σ allv M d = some d') (h : post I d') (hM : MFits σ allv M σ Mo) : DEnd P fn m ((fun I d M => post I d ∧ M = Mo) I) pan [] none F M := .ret hr hσ hv hM ⟨h, rfl⟩
/-- an operation that gives one of several things -/
def DOpI (P : Program) (o : Oper) (F : Fr) (M : List Blk) (post : (Nat → Prop) → D → Prop) (wr : List (Nat × Blk)) : Prop :=
  ∀ (a : Act) (s : St), Ok s → (∀ x ∈ o.op.operands, ∀ d, ev F x = some d → Rep s d (a.eval x)) → s.M = M →
    ∃ I : Nat → Prop, (∀ b, s.I b → I b) ∧ DGives P s (fun s' v => ∃ d, post I d ∧ s'.M = upd s.M wr ∧ Rep s' d v) ((execOp a.eval o).run P s.w)
end
section
variable {P : Program} {pc : Bool} {o : Oper} {F : Fr} {M : List Blk}
theorem dop_callI {x : Operand} {xs : List Operand} {tys : Array TypeId} {g : FuncId} {d1 d2 ds cargs : List D} (σ ν : List Nat) {Min Mout : List Blk} {post : (Nat → Prop) → D → Prop} {wr : List (Nat × Blk)}
    (ho : o.op = .call { callee := .value x, args := xs.toArray, argTypes := tys }) (hx : Ev true F x (.fn (.func g) d1 d2)) (hds : EvL true F xs ds)
    (hc : vwL σ (fun i => ([] : List Nat).contains i) M (d1 ++ ds ++ d2) = some cargs) (hMin : vwMs σ (fun i => ([] : List Nat).contains i) M σ = some Min) (hf : DFunI P g cargs Min post Mout)
    (hlive : Min.all (·.live) = true) (hn : decide (σ ++ ν).Nodup = true) (hν : ν.all (fun i => match M[i]? with | some .hole => true | _ => false) = true)
    (hwr : wrOf (σ ++ ν) (σ ++ ν) Mout = some wr) (hnl : ∀ I d, post I d → d.nl = true) : DOpI P o F M post wr := by
  intro a s hok hops hMM
  have hn' : (σ ++ ν).Nodup := of_decide_eq_true hn
  have hnσ := (List.nodup_append.1 hn').1
  rw [← hMM] at hMin hc hν
  have hopx : x ∈ o.op.operands ∧ ∀ y ∈ xs, y ∈ o.op.operands := by rw [ho]; simp [Op.operands, Call.operands]; intro y hy; exact .inr hy
  obtain ⟨dx, ex1, ex2⟩ := hx
  have hrx := ex2 s _ rfl (hops x hopx.1 dx ex1)
  have hrx' := hrx
  generalize hvx : a.eval x = vx at hrx
  cases hrx with
  | @fn _ _ _ vs us hl1 hl2 hr1 hr2 =>
    have hrun := run_call (P := P) (w := s.w) ho hvx hf.1
    rw [hvx] at hrx'
    have hcr := call_pre (Min := Min) hds hc rfl hok hops hopx.2 (fun i hi => by simp at hi) hrx'
    rw [hrun]
    have hcall := hf.2 (vst s σ (fun i => ([] : List Nat).contains i) Min) (vs ++ xs.map a.eval ++ us) (ok_vst hok hMin hnσ) rfl hcr
    have e : (vs.toArray ++ (xs.map a.eval).toArray ++ us.toArray : Array Value) = (vs ++ xs.map a.eval ++ us).toArray := by simp
    rw [e]
    refine ⟨(vst s σ (fun i => ([] : List Nat).contains i) Min).I, fun b hI => .inl hI, rfl, Calls.mono hcall ?_⟩
    rintro e' w' ⟨s2, rfl, ht, d, v, rfl, hr, hp, hM2⟩
    have hν' : ∀ i ∈ ν, s.M[i]? = some .hole := fun i hi => by
      have h1 := List.all_eq_true.1 hν i hi
      split at h1
      · rename_i h2; exact h2
      · cases h1
    obtain ⟨q1, q2⟩ := call_back (M3 := upd s.M wr) hok hMin hlive hn' hν' ht hM2 hwr rfl (fun ⟨i, hi⟩ => by simp at hi)
    exact ⟨back s s2 σ (fun i => ([] : List Nat).contains i) ν (upd s.M wr), v, rfl, rfl, q1, d, hp, rfl, q2 d v d hr (fun ⟨i, hi⟩ => by simp at hi) (sb_nl _ d (hnl _ d hp))⟩
/-- a walk goes on for each of the things; what was named by its address ahead of it was there -/
theorem walk_i {s0 : St} {n : Cx} {ops : Array Oper} {rest : List Oper} {K : Cont} {M' : List Blk} {t : Nat} {post : (Nat → Prop) → D → Prop} {wr : List (Nat × Blk)} (hg : o.guard = none) (hd : o.dst = some t) (ht : Nat.blt t n.n = true) (h : DOpI P o F M post wr) (hM' : upd M wr = M')
    (hk : ∀ (I : Nat → Prop) d, (∀ b, s0.I b → I b) → (∀ x e, lk F x = some e → ∀ b ∈ e.pins, I b) → post I d → Walk P s0 n ops rest ((t, d) :: F) M' K) (hnd : noDef o.op = true := by rfl) : Walk P s0 n ops (o :: rest) F M K := by
  intro a w hi
  obtain ⟨h0, s, h1, h2, h3, h4, h5, h6⟩ := hi
  subst h1 h2
  show if Region.wanted o (yielded ops a.tmps) then _ else _
  have hw : Region.wanted o (yielded ops a.tmps) = true := by unfold Region.wanted; rw [hg]
  rw [if_pos hw]
  obtain ⟨I, hI, hgv⟩ := h a s h3.ok (fun x _ d hd => ev_rep h4 hd) rfl
  have hd' : dstB n.n o.dst = true := by rw [hd]; exact ht
  refine dgives_in hnd hgv fun s' v ht' ⟨d, hp, e1, e2⟩ => ?_
  have hF : putF o.dst d F = (t, d) :: F := by rw [hd]; rfl
  exact hk I d (fun b hb => hI b (h3.up b hb)) (fun x e hx b hb => hI b (rep_pins (h4 x e hx) b hb)) hp _ _ ⟨h0, s', e1.trans hM', rfl, h3.trans ht', by rw [← hF]; exact (h4.mono h3.ok ht').putF h5 hd' e2, by rw [put_size]; exact h5, by rw [put_def]; exact h6.mono h3.ok ht'⟩
end
/-- a block of one's own is given up: it stays from now on -/
theorem tr_giveO {s : St} (ho : Ok s) {j : Nat} {k : Blk} {h : Value} (hM : s.M[j]? = some k) (hl : k.live = true) (hh : s.β[j]? = some h) : Tr s ⟨s.β, fun b => s.I b ∨ owns k h b, s.M.set j .gone, s.w⟩ := by
  have hnd : ∀ (i : Nat) h, s.β[i]? = some h → h ≠ .nilFunc → s.β[i]? = some h := fun _ _ h _ => h
  have old : ∀ (i : Nat) k', (s.M.set j .gone)[i]? = some k' → k'.live = true → i ≠ j ∧ s.M[i]? = some k' := by
    intro i k' h1 h2
    by_cases e : i = j
    · subst e
      rw [List.getElem?_set_self (by have := (List.getElem?_eq_some_iff.1 hM).1; exact this)] at h1
      cases h1; cases h2
    · rw [List.getElem?_set_ne (Ne.symm e)] at h1
      exact ⟨e, h1⟩
  have ne : ∀ (i : Nat) k' h' b, i ≠ j → s.M[i]? = some k' → k'.live = true → s.β[i]? = some h' → owns k' h' b → ¬ owns k h b := by
    intro i k' h' b e h1 h2 h3 h4 e2
    exact e (ho.inj i j k' k h' h b h1 h2 h3 h4 hM hl hh e2)
  have lv : ∀ b, Live ⟨s.β, fun b => s.I b ∨ owns k h b, s.M.set j .gone, s.w⟩ b → Live s b ∧ ¬ owns k h b := by
    rintro b ⟨i, k', h', h1, h2, h3, h4⟩
    obtain ⟨e, a⟩ := old i k' h1 h2
    exact ⟨live_of a h2 h3 h4, ne i k' h' b e a h2 h3 h4⟩
  refine ⟨⟨by simp [ho.len], fun i k' h' h1 h2 => ?_, fun b hb => ?_, ?_, fun b hI => ?_⟩, hkeep_of hnd, fun _ h => .inl h, fun b h => ?_, fun b hb hn => rfl, fun b h => .inr (lv b h).1, rfl, rfl, rfl, Nat.le_refl _⟩
  · cases hk : k'.live with
    | false =>
      cases k' with
      | gone => trivial
      | hole =>
        by_cases e : i = j
        · subst e
          rw [List.getElem?_set_self (by have := (List.getElem?_eq_some_iff.1 hM).1; exact this)] at h1
          cases h1
        · rw [List.getElem?_set_ne (Ne.symm e)] at h1
          exact ho.blk i _ h' h1 h2
      | _ => cases hk
    | true =>
      obtain ⟨e, a⟩ := old i k' h1 hk
      exact BlkOk.mono (s := s) (s' := ⟨s.β, fun b => s.I b ∨ owns k h b, s.M.set j .gone, s.w⟩) hnd (fun _ h => .inl h) (fun _ _ => rfl) (ho.blk i k' h' a h2) fun b hl' hb' => rfl
  · obtain ⟨h1, h2⟩ := lv b hb
    exact ⟨(ho.lt b h1).1, fun hI => hI.elim (ho.lt b h1).2 h2⟩
  · intro i i2 k1 k2 x x2 b a1 a2 a3 a4 c1 c2 c3 c4
    obtain ⟨_, a1⟩ := old i k1 a1 a2
    obtain ⟨_, c1⟩ := old i2 k2 c1 c2
    exact ho.inj i i2 k1 k2 x x2 b a1 a2 a3 a4 c1 c2 c3 c4
  · rcases hI with hI | hI
    · exact ho.il b hI
    · exact (ho.lt b (live_of hM hl hh hI)).1
  · rcases h with h | h
    · exact .inl h
    · exact .inr (.inr (live_of hM hl hh h))
/-- a block told otherwise, the memory being the same -/
theorem tr_tell {s : St} (ho : Ok s) {j : Nat} {k k' : Blk} {h : Value} (hM : s.M[j]? = some k) (hl : k.live = true) (hl' : k'.live = true) (hh : s.β[j]? = some h) (hw : ∀ b, owns k' h b → owns k h b) (hk : BlkOk s h k') : Tr s ⟨s.β, s.I, s.M.set j k', s.w⟩ := by
  have hjl := (List.getElem?_eq_some_iff.1 hM).1
  have hset : s.β.set j h = s.β := by
    have : s.β[j]'((List.getElem?_eq_some_iff.1 hh).1) = h := (List.getElem?_eq_some_iff.1 hh).2
    rw [← this, List.set_getElem_self]
  have hst := step_set ho j s.M h k' s.w rfl (fun i k h => .inl h) hjl (.inr (.inl hh)) ((ho.blk j k h hM hh).live_ne hl) (by
      rw [hset]
      exact BlkOk.mono (s := s) (s' := ⟨s.β, s.I, s.M.set j k', s.w⟩) (fun _ _ h _ => h) (fun _ h => h) (fun _ _ => rfl) hk (fun _ _ _ => rfl))
    (fun b' hb' i ki hi hne h1 h2 h3' h4' => hne (ho.inj i j ki k hi h b' h1 h2 h3' h4' hM hl hh (hw b' hb'))) (fun b' hb' => .inr (live_of hM hl hh (hw b' hb'))) (fun b' hb' => (ho.lt b' (live_of hM hl hh (hw b' hb'))).1) (fun _ => False) (fun _ h => h.elim) (fun b' hlt hne _ => rfl) rfl rfl rfl (Nat.le_refl _)
  simpa only [hset] using hst
section
variable {P : Program} {s0 : St} {n : Cx}
theorem Tr.live_new {s s' : St} (ho : Ok s) (t : Tr s s') {b : Nat} (h : Live s' b) : ¬ s.I b := fun hI => (t.lv b h).elim (fun e => absurd (ho.il b hI) (Nat.not_lt.2 e)) fun e => (ho.lt b e).2 hI
theorem inv_pin {F : Fr} {M : List Blk} {a : Act} {w : World} {t j : Nat} {T : TypeId} {L : List Value} (h : Inv s0 n F M a w) (ht : lk F t = some (.loc j 0)) (hj : M[j]? = some (.flat T L)) : ∃ b, ¬ s0.I b ∧ Inv s0 n ((t, .pin b L) :: F) (M.set j .gone) a w := by
  obtain ⟨h0, s, rfl, rfl, h3, h4, h5, h6⟩ := h
  have hjl := (List.getElem?_eq_some_iff.1 hj).1
  obtain ⟨y, hy⟩ : ∃ y, s.β[j]? = some y := ⟨_, List.getElem?_eq_getElem (by rw [h3.ok.len]; exact hjl)⟩
  obtain ⟨b, rfl, hc⟩ := h3.ok.blk j _ y hj hy
  have tt := tr_giveO h3.ok hj rfl hy
  have hlv : Live s b := live_of hj rfl hy rfl
  refine ⟨b, h3.live_new h0 hlv, h0, ⟨s.β, fun c => s.I c ∨ owns (.flat T L) (.pointer (some ⟨b, 0, none⟩)) c, s.M.set j .gone, s.w⟩, rfl, rfl, h3.trans tt, fun z d hd => ?_, h5, h6.mono h3.ok tt⟩
  rw [lk_cons] at hd
  split at hd
  · rename_i e'
    subst e'
    obtain rfl := Option.some.inj hd
    have hr := h4 t _ ht
    generalize hv : slot a t = v at hr
    cases hr with
    | @loc _ _ b' hβ =>
      rw [hy] at hβ
      cases hβ
      exact .pin (.inr rfl) (by simpa using cellsAt_block hc 0) hc
  · exact (h4 z d hd).mono h3.ok tt
theorem dwp_pin {c : Code} {F : Fr} {M M' : List Blk} {K : Cont} (t : Nat) {j : Nat} {T : TypeId} {L : List Value} (ht : lk F t = some (.loc j 0)) (hj : M[j]? = some (.flat T L)) (hM' : M.set j .gone = M') (h : ∀ b, ¬ s0.I b → dwp P s0 n c ((t, .pin b L) :: F) M' K) : dwp P s0 n c F M K := by
  subst hM'
  intro a w hi
  obtain ⟨b, hb, hi'⟩ := inv_pin hi ht hj
  exact h b hb a w hi'
/-- the variable that an operation just made joins a family -/
theorem walk_absl {ops : Array Oper} {l : List Oper} {F : Fr} {M M' : List Blk} {K : Cont} (t f : Nat) {j : Nat} {T : TypeId} {L : List Value} {Bs : List Mem} (ht : lk F t = some (.loc j 0)) (hj : M[j]? = some (.flat T L)) (hf : M[f]? = some (.fam Bs)) (hM' : (M.set j .gone).set f (.fam (Bs ++ [.flat T L])) = M') (h : Walk P s0 n ops l ((t, .floc f Bs.length 0) :: F) M' K) : Walk P s0 n ops l F M K := by
  subst hM'
  exact fun a w hi => h a w (inv_absl hi ht hj hf)
/-- names of a family's members turned to addresses -/
def frz (f : Nat) (ad : Nat → Nat) (Bs : List Mem) : D → D
  | .floc i k 0 => if i = f then (match Bs[k]? with | some (.flat _ L) => .pin (ad k) L | _ => .junk) else .floc i k 0
  | d => d
theorem inv_frz {F : Fr} {M : List Blk} {a : Act} {w : World} {f r sz m : Nat} {T : TypeId} {Bs : List Mem} {l : List D} (h : Inv s0 n F M a w) (hf : M[f]? = some (.fam Bs)) (hr : M[r]? = some (.arx T sz m l)) (hl : ∀ (k : Nat) B, Bs[k]? = some B → ∃ T L, B = Mem.flat T L) : ∃ ad : Nat → Nat, (∀ k, k < Bs.length → ¬ s0.I (ad k)) ∧ Inv s0 n F ((M.set f .gone).set r (.arx T sz m (l.map (frz f ad Bs)))) a w := by
  obtain ⟨h0, s, rfl, rfl, h3, h4, h5, h6⟩ := h
  have hlen := h3.ok.len
  have hfl := (List.getElem?_eq_some_iff.1 hf).1
  have hrl := (List.getElem?_eq_some_iff.1 hr).1
  have hfr : f ≠ r := fun e => by subst e; rw [hf] at hr; cases hr
  obtain ⟨x, hx⟩ : ∃ x, s.β[f]? = some x := ⟨_, List.getElem?_eq_getElem (by omega)⟩
  obtain ⟨y, hy⟩ : ∃ y, s.β[r]? = some y := ⟨_, List.getElem?_eq_getElem (by omega)⟩
  obtain ⟨hs, rfl, hfo⟩ := h3.ok.blk f _ x hf hx
  have tt := tr_giveO h3.ok hf rfl hx
  obtain ⟨ad, had⟩ : ∃ ad : Nat → Nat, ∀ k, ad k = match hs[k]? with | some u => (hb u).getD 0 | none => 0 := ⟨_, fun _ => rfl⟩
  have hmem : ∀ (k : Nat) T L, Bs[k]? = some (.flat T L) → hs[k]? = some (.pointer (some ⟨ad k, 0, none⟩)) ∧ s.w.heap[ad k]? = some (.cells L.toArray T (0, 0)) ∧ owns (.fam Bs) (.tuple hs.toArray) (ad k) := by
    intro k T L hB
    have hkl := (List.getElem?_eq_some_iff.1 hB).1
    have hu : hs[k]? = some (hs[k]'(by rw [hfo.len]; exact hkl)) := List.getElem?_eq_getElem _
    obtain ⟨b, e1, e2⟩ := hfo.ok k _ _ hB hu
    have ea : ad k = b := by rw [had, hu, e1]; rfl
    rw [ea]
    exact ⟨by rw [hu, e1], e2, ⟨hs, k, _, _, rfl, hB, rfl, hu, by rw [e1]; rfl⟩⟩
  have hr2 : (s.M.set f .gone)[r]? = some (.arx T sz m l) := by rw [List.getElem?_set_ne hfr]; exact hr
  obtain ⟨vs, k1, k2, k3⟩ := tt.ok.blk r _ y hr2 hy
  obtain ⟨vs0, g1, g2, g3⟩ := h3.ok.blk r _ y hr hy
  have hvv : vs = vs0 := by
    rcases k1.2 with ⟨e1, e2⟩ | ⟨g, cap, cur, e1, e2, e3, e4, e5, e6, e7⟩
    · rcases g1.2 with ⟨q1, q2⟩ | ⟨_, _, _, q1, _⟩
      · have h1 := k1.1; have h2 := g1.1; subst e2; simp at h1 h2; rw [h1, h2]
      · rw [e1] at q1; cases q1
    · rcases g1.2 with ⟨q1, q2⟩ | ⟨g', cap', cur', q1, q2, q3, q4, q5, q6, q7⟩
      · rw [q1] at e1; cases e1
      · rw [e1] at q1
        cases q1
        have hh : s.w.heap[g]? = _ := e3
        rw [q3] at hh
        cases hh
        rw [← e7, ← q7]
  subst hvv
  have t2 := tr_tell (k' := .arx T sz m (l.map (frz f ad Bs))) tt.ok hr2 rfl rfl hy (fun _ h => h) ⟨vs, k1, by simp [k2], fun j d v h1 h2 => by
    rw [List.getElem?_map] at h1
    cases e : l[j]? with
    | none => rw [e] at h1; cases h1
    | some e0 =>
      rw [e] at h1
      simp only [Option.map_some, Option.some.injEq] at h1
      subst h1
      have hq := g3 j e0 v e h2
      unfold frz
      split
      · rename_i i k
        split
        · rename_i ei
          subst ei
          cases hB : Bs[k]? with
          | none => exact .junk v
          | some B =>
            obtain ⟨T', L, rfl⟩ := hl k B hB
            obtain ⟨e1, e2, e3⟩ := hmem k T' L hB
            cases hq with
            | @floc _ _ _ b hs' q1 q2 =>
              rw [hx] at q1
              have e4 : hs = hs' := by simpa using q1
              subst e4
              rw [e1] at q2
              cases q2
              exact .pin (.inr e3) (by simpa using cellsAt_block e2 0) e2
        · exact hq.mono h3.ok tt
      · exact hq.mono h3.ok tt⟩
  refine ⟨ad, fun k hk => ?_, h0, ⟨s.β, fun b => s.I b ∨ owns (.fam Bs) (.tuple hs.toArray) b, (s.M.set f .gone).set r (.arx T sz m (l.map (frz f ad Bs))), s.w⟩, rfl, rfl, (h3.trans tt).trans t2, fun z d hd => ((h4 z d hd).mono h3.ok tt).mono tt.ok t2, h5, (h6.mono h3.ok tt).mono tt.ok t2⟩
  obtain ⟨B, hB⟩ : ∃ B, Bs[k]? = some B := ⟨_, List.getElem?_eq_getElem hk⟩
  obtain ⟨T', L, rfl⟩ := hl k B hB
  exact h3.live_new h0 (live_of hf rfl hx (hmem k T' L hB).2.2)
/-- a family stays from now on; a row that names its members names them by their addresses, which are new -/
theorem dwp_frz {c : Code} {F : Fr} {M : List Blk} {K : Cont} (f r : Nat) {sz m : Nat} {T : TypeId} {Bs : List Mem} {l : List D} (hf : M[f]? = some (.fam Bs)) (hr : M[r]? = some (.arx T sz m l)) (hl : ∀ (k : Nat) B, Bs[k]? = some B → ∃ T L, B = Mem.flat T L) (h : ∀ ad : Nat → Nat, (∀ k, k < Bs.length → ¬ s0.I (ad k)) → dwp P s0 n c F ((M.set f .gone).set r (.arx T sz m (l.map (frz f ad Bs)))) K) : dwp P s0 n c F M K := by
  intro a w hi
  obtain ⟨ad, had, hi'⟩ := inv_frz hi hf hr hl
  exact h ad had a w hi'
end
section
variable {P : Program} {pc : Bool} {o : Oper} {F : Fr} {M : List Blk}
/-- a row of data that names no block -/
theorem arxn_fits {σ : List Nat} {V : Nat → Bool} {M : List Blk} {T : TypeId} {sz n n' : Nat} {l l' : List D} (hnl : D.nlL l = true) (hn : n = n') (hl : l = l') : (vwL σ V M l).map (Blk.arx T sz n) = some (Blk.arx T sz n' l') := by
  subst hn hl
  rw [vwL_nl σ V M l hnl]; rfl
theorem sb_arxn {τ : List Nat} {T : TypeId} {sz n : Nat} {l : List D} (hnl : D.nlL l = true) : sbB τ (.arx T sz n l) = some (.arx T sz n l) := by
  show (sbL τ _).map _ = _
  rw [sbL_nl τ l hnl]; rfl
theorem Wk.pin (b : Nat) (L : List Value) : Wk (.pin b L) (.dpf L) := fun s v hr => by cases hr with | pin hI h ho => exact .dpf hI h
theorem Wk.dpm {l l' : List D} (hw : WkL l l') (hn : D.nlL l' = true) : Wk (.dpm l) (.dpm l') := fun s v hr => by
  cases hr with
  | dpm hnl hI hc hl h => exact .dpm hn hI hc (by rw [← hw.1]; exact hl) (hw.rep h)
theorem Wk.slm {sz n : Nat} {l l' : List D} (hw : WkL l l') (hn : D.nlL l' = true) : Wk (.slm sz n l) (.slm sz n l') := fun s v hr => by
  cases hr with
  | slm hnl hl hn' hc ha hv h hm => exact .slm hn (by rw [← hw.1]; exact hl) hn' hc ha (by rw [← hw.1]; exact hv) (hw.rep h) (hm.imp (fun e => by subst e; exact List.eq_nil_of_length_eq_zero hw.1.symm) id)
def D.c1h (i : Nat) : D → Bool
  | .hnd j => j == i
  | d => d.c1
/-- a struct with a map among its parts -/
theorem op_bldDh {T : TypeId} {ps : List (Nat × Operand)} {ds R : List D} {offs : List (Nat × Nat)} {Z : List Value} (i : Nat) {ks : List Int} {l : List D} (ho : o.op = .build T ps.toArray) (hT : fdL P T = some offs) (hZ : zrC P T = some Z) (hv : EvL pc F (ps.map (·.2)) ds) (hM : M[i]? = some (.mpd ks l)) (hc : ds.all (D.c1h i) = true)
    (hB : fillBD offs Z.length ((ps.map (·.1)).zip (ds.map D.cs)) = true) (hR : fillD offs (Z.map .val) ((ps.map (·.1)).zip (ds.map D.cs)) = R) : DOp P pc o F M [i] (.agg R) [] := by
  intro hp a s hok hops hfp
  have hM' : s.M[i]? = some (.mpd ks l) := by rw [hfp i (by simp)]; exact hM
  obtain ⟨r1, r2⟩ := evL_reps (a := a) (s := s) hp _ _ hv (fun x hx => hops x (by rw [ho]; simpa [Op.operands] using hx))
  have hf := reps_fill (s := s) offs Z.length (ps.map (·.1)) (ds.map D.cs) (((ps.map (·.2)).map a.eval).map fun v => v.cells.toList) (Z.map .val) Z (fun j C v h1 h2 => by
      rw [List.getElem?_map] at h1 h2
      simp only [Option.map_eq_some_iff] at h1 h2
      obtain ⟨d, h1, rfl⟩ := h1
      obtain ⟨u, h2, rfl⟩ := h2
      have hr := r2 j d u h1 h2
      have hd := List.all_eq_true.1 hc _ (List.mem_of_getElem? h1)
      have key : d.c1 = true ∨ d = .hnd i := by
        cases d with
        | hnd k => simp only [D.c1h, beq_iff_eq] at hd; exact .inr (by rw [hd])
        | _ => exact .inl hd
      rcases key with hd | rfl
      · exact cs_rep hr hd
      · obtain ⟨b, vs, rfl, _⟩ := mpd_at hok hM' hr
        refine ⟨rfl, fun q e w g1 g2 => ?_⟩
        cases q with
        | zero => simp [D.cs, Value.cells] at g1 g2; subst g1 g2; exact hr
        | succ q => simp [D.cs, Value.cells] at g1) (by rw [List.length_map, List.length_map]; exact r1.symm) (reps_vals Z) hB
  rw [hR] at hf
  exact dg_val hok (run_build (P := P) (a := a) (w := s.w) ho hT hZ rfl hf.2 rfl) (.agg hf.1.1 hf.1.2)
/-- nil is nil -/
theorem op_pnil0 {T T' e : TypeId} {x : Operand} (ho : o.op = .binOp .eql T x (.const (.pointer none)) T') (hT : ptT P T = some e) (hx : Ev pc F x (.val (.pointer none))) : DOp P pc o F M [] (.val (.bool true)) [] := by
  intro hp a s hok hops hfp
  have hr := (ev_at hp hx (by simp [ho, Op.operands]) hops).val_eq
  refine dg_val (v := .bool true) hok ?_ (.val _)
  unfold execOp
  simp only [ho, hr]
  refine run_v ?_
  have hc : a.eval (.const (.pointer none)) = .pointer none := rfl
  rw [hc]
  have hg : (eqGuard .eql T x (.const (.pointer none)) (.pointer none) (.pointer none)).run P s.w = .ok () s.w := by unfold eqGuard; rfl
  rw [Sem.run_bind, hg]
  have he := run_equal_pointer_nil (P := P) s.w T none (by rw [show P.pointee T = e by simp [Program.pointee, ptT_spec hT]]; exact ptT_spec hT)
  simp only [Result.andThen, binOp, Sem.run_bind, he]
  rfl
theorem op_pnilmn {T T' e : TypeId} {x : Operand} {l : List D} (ho : o.op = .binOp .neq T x (.const (.pointer none)) T') (hT : ptT P T = some e) (hx : Ev pc F x (.dpm l)) : DOp P pc o F M [] (.val (.bool true)) [] := by
  intro hp a s hok hops hfp
  have hr := ev_at hp hx (by simp [ho, Op.operands]) hops
  generalize hv : a.eval x = vx at hr
  cases hr with
  | @dpm b q _ vs hnl hI hc hl h =>
    refine dg_val (v := .bool true) hok ?_ (.val _)
    unfold execOp
    simp only [ho, hv]
    refine run_v ?_
    have hc : a.eval (.const (.pointer none)) = .pointer none := rfl
    rw [hc]
    have hg : (eqGuard .neq T x (.const (.pointer none)) (.pointer (some ⟨b, q, none⟩)) (.pointer none)).run P s.w = .ok () s.w := by unfold eqGuard; rfl
    rw [Sem.run_bind, hg]
    have he := run_equal_pointer_nil (P := P) s.w T (some ⟨b, q, none⟩) (by rw [show P.pointee T = e by simp [Program.pointee, ptT_spec hT]]; exact ptT_spec hT)
    simp only [Result.andThen, binOp, Sem.run_bind, he]
    rfl
/-- one datum stored into a row of one's own -/
theorem op_stx0 {l : List D} {q : D} {T T' : TypeId} {x y : Operand} {i j n : Nat} {rw' : Bool} (ho : o.op = .store T x y) (hT : tyB P T = some (rw', 1)) (hx : Ev pc F x (.aloc i (j * 1))) (hy : Ev pc F y q) (hM : M[i]? = some (.arx T' 1 n l)) (hj : j < l.length) (h1 : ∀ (s : St) v, Rep s q v → v.cells = #[v] ∧ v.oneCell' = true) :
    DOp P pc o F M [i] .junk [(i, .arx T' 1 n (l.set j q))] := by
  have e : ∀ r : List D, (r.flatMap fun a => [id a]) = r := fun r => by induction r with | nil => rfl | cons a r ih => rw [List.flatMap_cons, ih]; rfl
  have := op_stx1 (P := P) (pc := pc) (o := o) (F := F) (M := M) (g := id) (l := l) (q := q) ho hT hx hy (by rw [e]; exact hM) hj h1
  rwa [e] at this
end
end Go.Proofs.YtfnhckildfbikaaGreat
namespace Go.Proofs.YtfnhckildfbikaaGreat
set_option linter.unusedVariables false
set_option linter.unusedSimpArgs false
open Go.RowKit
section
variable {P : Program} {s0 : St} {n : Cx}
variable {ops : Array Oper}
/-- is a row of structs with rows nil? -/
theorem walk_nilm? {o : Oper} {rest : List Oper} {F : Fr} {M : List Blk} {K : Cont} {T T' e : TypeId} {sz by' m t : Nat} {L : List D} {x : Operand} (hg : o.guard = none) (hd : o.dst = some t) (ht : Nat.blt t n.n = true) (ho : o.op = .binOp .eql T x (.const (.slice none 0 0)) T') (hT : slE P T = some (e, sz, by')) (hx : Ev true F x (.slm sz m L))
    (hk : ∀ b, (b = true → m = 0 ∧ L = []) → Walk P s0 n ops rest ((t, .val (.bool b)) :: F) M K) : Walk P s0 n ops (o :: rest) F M K := by
  intro a w hi
  have hi' := hi
  obtain ⟨h0, s, h1, h2, h3, h4, h5, h6⟩ := hi
  obtain ⟨dx, ex1, ex2⟩ := hx
  have hrx := ex2 s _ rfl (ev_rep h4 ex1)
  generalize hvx : a.eval x = vx at hrx
  cases hrx with
  | @slm _ _ cap ad _ vs hnl hl hn hc ha hvl hel hm =>
    obtain ⟨hu, _⟩ := slE_spec hT
    have hrun : (execOp a.eval o).run P w = .ok (.value (.bool ad.isNone)) w := by
      unfold execOp
      simp only [ho]
      have hv : a.eval (.const (.slice none 0 0)) = .slice none 0 0 := rfl
      rw [hv, hvx]
      refine run_v ?_
      simp only [eqGuard, binOp, Sem.run_bind]
      have heq : ∀ d, (Op.equalIn (d + 1) T (.slice ad m cap) (.slice none 0 0)).run P w = .ok ad.isNone w := fun d => by
        unfold Op.equalIn
        rw [Sem.run_bind, run_underlying hu]
        cases ad <;> simp
      have heq' : (Op.equalIn Op.maxDepth T (.slice ad m cap) (.slice none 0 0)).run P w = .ok ad.isNone w := heq 9999
      simp [Op.equal, heq', Sem.run_bind, go_sem]
    have hfin := hk ad.isNone (fun hb => by
      cases ad with
      | none => have := ha rfl; exact ⟨by omega, List.eq_nil_of_length_eq_zero (by rw [hl, show m = 0 by omega]; simp)⟩
      | some q => cases hb) (a.put o.dst (.bool ad.isNone)) w (by
        obtain ⟨h0, s, h1, h2, h3, h4, h5, h6⟩ := hi'
        refine ⟨h0, s, h1, h2, h3, ?_, by rw [put_size]; exact h5, by rw [put_def]; exact h6⟩
        rw [hd]
        exact h4.put (by rw [h5]; exact Nat.blt_eq.mp ht) (.val _))
    show if Region.wanted o (yielded ops a.tmps) then _ else _
    have hw : Region.wanted o (yielded ops a.tmps) = true := by unfold Region.wanted; rw [hg]
    rw [if_pos hw]
    refine ⟨fun _ _ => trivial, ?_⟩
    rw [semAt_noDef (by rw [ho]; rfl), hrun]
    exact hfin
end
end Go.Proofs.YtfnhckildfbikaaGreat
namespace Go.Proofs.YtfnhckildfbikaaGreat
set_option linter.unusedVariables false
set_option linter.unusedSimpArgs false
open Go.RowKit
section
variable {P : Program} {pc : Bool} {o : Oper} {F : Fr} {M : List Blk}
theorem op_lenp {T : TypeId} {x : Operand} {q : TypeId × Nat × Nat} {i sz p n c : Nat} (ho : o.op = .call { callee := .builtin .len, args := #[x], argTypes := #[T] }) (hT : slE P T = some q) (hx : Ev pc F x (.part i sz p n c)) : DOp P pc o F M [] (.val (.int .i64 n)) [] := by
  intro hp a s hok hops hfp
  obtain ⟨e1, _⟩ := slE_spec hT
  have hr := ev_at hp hx (by simp [ho, Op.operands, Call.operands]) hops
  generalize hv : a.eval x = vx at hr
  cases hr with
  | part h ha hN hn hc => exact dg_val hok (run_builtin ho (fun cs => rfl) (by simp [Builtin.len_, hv, run_underlying e1, goInt])) (.val _)
  | partnil h => exact dg_val hok (run_builtin ho (fun cs => rfl) (by simp [Builtin.len_, hv, run_underlying e1, goInt])) (.val _)
theorem op_capp {T : TypeId} {x : Operand} {q : TypeId × Nat × Nat} {i sz p n c : Nat} (ho : o.op = .call { callee := .builtin .cap, args := #[x], argTypes := #[T] }) (hT : slE P T = some q) (hx : Ev pc F x (.part i sz p n c)) : DOp P pc o F M [] (.val (.int .i64 c)) [] := by
  intro hp a s hok hops hfp
  obtain ⟨e1, _⟩ := slE_spec hT
  have hr := ev_at hp hx (by simp [ho, Op.operands, Call.operands]) hops
  generalize hv : a.eval x = vx at hr
  cases hr with
  | part h ha hN hn hc => exact dg_val hok (run_builtin ho (fun cs => rfl) (by simp [Builtin.cap_, hv, run_underlying e1, goInt])) (.val _)
  | partnil h => exact dg_val hok (run_builtin ho (fun cs => rfl) (by simp [Builtin.cap_, hv, run_underlying e1, goInt])) (.val _)
theorem op_ixp {T e : TypeId} {x y : Operand} {i sz by' p n c : Nat} {k : IntKind} {z : Int} (j : Nat) (ho : o.op = .indexAddr T x y) (hT : slE P T = some (e, sz, by')) (hx : Ev pc F x (.part i sz p n c)) (hy : Ev pc F y (.val (.int k z))) (hz : pc = true → z = (j : Int)) (hj : pc = true → j < n) : DOp P pc o F M [] (.aloc i ((p + j) * sz)) [] := by
  intro hp a s hok hops hfp
  have hr := ev_at hp hx (by simp [ho, Op.operands]) hops
  have h2 := (ev_at hp hy (by simp [ho, Op.operands]) hops).val_eq
  have hz := hz hp
  have hj := hj hp
  subst hz
  generalize hv : a.eval x = vx at hr
  cases hr with
  | part h ha hN hn hc =>
    have hb := ha.resolve_left (by omega)
    subst hb
    refine dg_val hok (run_index_sl ho hT hv h2 (by omega) (by omega)) ?_
    rw [Addr.add_mid, Int.toNat_natCast, ← Nat.add_mul]
    exact .aloc h
  | partnil h => omega
/-- cut from the front, up to its end and its room -/
theorem op_slp3 {T e : TypeId} {sz by' i p n c : Nat} {x lo hi mx : Operand} {k k' k'' : IntKind} {h h' h'' : Int} (q : Nat) (ho : o.op = .slice T x (some lo) (some hi) (some mx)) (hT : slE P T = some (e, sz, by')) (hx : Ev pc F x (.part i sz p n c)) (hlo : Ev pc F lo (.val (.int k'' h''))) (hhi : Ev pc F hi (.val (.int k h))) (hmx : Ev pc F mx (.val (.int k' h')))
    (hl : pc = true → h'' = (q : Int)) (hh : pc = true → h = (n : Int)) (hm : pc = true → h' = (c : Int)) (hi : pc = true → q ≤ n) : DOp P pc o F M [] (.part i sz (p + q) (n - q) (c - q)) [] := by
  intro hp a s hok hops hfp
  have hr := ev_at hp hx (by simp [ho, Op.operands]) hops
  have e0 := (ev_at hp hlo (by simp [ho, Op.operands]) hops).val_eq
  have e1 := (ev_at hp hhi (by simp [ho, Op.operands]) hops).val_eq
  have e2 := (ev_at hp hmx (by simp [ho, Op.operands]) hops).val_eq
  rw [hl hp] at e0
  rw [hh hp] at e1
  rw [hm hp] at e2
  have hqn := hi hp
  obtain ⟨q1, ti, q2, q3, q4⟩ := slE_spec hT
  generalize hv : a.eval x = vx at hr
  cases hr with
  | @part _ _ _ _ _ N cap b ad hβ ha hN hn hc =>
    have hqc : q ≤ c := by omega
    have hrun : (execOp a.eval o).run P s.w = .ok (.value (.slice (if c - q = 0 then some ⟨b, ad, none⟩ else (some (⟨b, ad, none⟩ : Addr)).map (·.add (q * sz))) (n - q) (c - q))) s.w := by
      unfold execOp
      simp only [ho, hv, Option.map_some, e0, e1, e2]
      refine run_v ?_
      simp [Instr.sliceAt, Instr.slice, run_underlying q1, Sem.run_bind, Instr.sliceBounds, Instr.sliceBound, asIntOf, hqc, hn, hqn, sizeOf, typeInfo, q2, q3]
      congr 1
      exact propext ⟨fun h => by omega, fun h => by omega⟩
    rw [Option.map_some, Addr.add_mid] at hrun
    by_cases hcq : c - q = 0
    · rw [if_pos hcq] at hrun
      exact dg_val hok hrun (.part hβ (.inl hcq) (by omega) (by omega) (by omega))
    · rw [if_neg hcq] at hrun
      exact dg_val hok hrun (.part hβ (.inr (by rw [ha.resolve_left (by omega), Nat.add_mul])) (by omega) (by omega) (by omega))
  | partnil hβ =>
    obtain rfl : q = 0 := by omega
    have hrun : (execOp a.eval o).run P s.w = .ok (.value (.slice none 0 0)) s.w := by
      unfold execOp
      simp only [ho, hv, Option.map_some, e0, e1, e2]
      refine run_v ?_
      simp [Instr.sliceAt, Instr.slice, run_underlying q1, Sem.run_bind, Instr.sliceBounds, Instr.sliceBound, asIntOf, sizeOf, typeInfo, q2, q3]
    exact dg_val hok hrun (.partnil hβ)
theorem setL_mid {X C : List Value} {a b : Nat} (h : a + b + C.length ≤ X.length) : ((setL X (a + b) C).drop a).take (b + C.length) = (X.drop a).take b ++ C := by
  rw [setL_eq C X (a + b) h, List.append_assoc, List.drop_append, List.drop_take, show a + b - a = b by omega, show a - (X.take (a + b)).length = 0 by rw [List.length_take]; omega, List.drop_zero]
  have hl : ((X.drop a).take b).length = b := by rw [List.length_take, List.length_drop]; omega
  rw [List.take_append, List.take_of_length_le (by omega), hl, show b + C.length - b = C.length by omega, List.take_append_of_le_length (Nat.le_refl _), List.take_length]
/-- an append onto a row whose front may have been cut off -/
theorem run_append_que {T e : TypeId} {sz by' n m : Nat} {ti : TypeInfo} {z v2 h : Value} {ty : TypeId} {s : St} {L L2 : List Value} (hT : P.underlying T = some (.slice e)) (hi : P.info? e = some ti) (hsz : ti.size = sz) (hby : ti.bytes = by') (hz : ti.zero = some z) (hzs : z.cells.size = sz)
    (hown : queRow s.w e sz h n L) (hl : L2.length = m * sz) (hsrc : SrcOk s v2 m L2) (h1 : ∀ u ∈ L2, u.oneCell' = true) (hm : 0 < m) (h63 : n + m ≤ maxLen) (hbytes : (n + m) * by' ≤ 140737488355328) :
    ∃ h' w', (Builtin.append_ #[T, T] ty #[h, v2]).run P s.w = .ok h' w' ∧ queRow w' e sz h' (n + m) (L ++ L2) ∧ s.w.grownBy w' h.ownBlock ∧ (∀ b, hb h' = some b → h.ownBlock = some b ∨ s.w.heap.size ≤ b) ∧ (∃ a n c, h' = .slice (some a) n c) ∧ ∀ b, hb h' = some b → b < w'.heap.size := by
  subst hsz hby
  obtain ⟨a2, c2, rfl, hsrc⟩ := hsrc
  obtain ⟨ad2, rfl, hcells⟩ : ∃ ad, a2 = some ad ∧ ∀ (j : Nat) u, L2[j]? = some u → s.w.cell? (ad.add j) = some u := by
    rcases hsrc with ⟨_, h, _⟩ | h
    · omega
    · exact h
  have h63' : ((n + m : Nat) : Int) ≤ 9223372036854775807 := by simp only [maxLen] at h63; omega
  have hll : (L ++ L2).length = (n + m) * ti.size := by rw [List.length_append, hown.1, hl, Nat.add_mul]
  have grown : ∀ (old : Nat), queRow (s.w.drew.alloc (.cells (L.toArray ++ L2.toArray ++ Builtin.zeroCells z.cells (grownCap s.w (n + m) old e - (n + m))) e)) e ti.size (.slice (some ⟨s.w.heap.size, 0, none⟩) (n + m) (grownCap s.w (n + m) old e)) (n + m) (L ++ L2) := by
    intro old
    have hge := grownCap_ge s.w (n + m) old e
    refine ⟨hll, .inr ⟨s.w.heap.size, 0, _, 0, grownCap s.w (n + m) old e, _, rfl, heap_alloc_new s.w.drew _, hge, by omega, grownCap_le_maxLen s.w _ _ _ h63, ?_, .inr (by simp), ?_⟩⟩
    · simp only [Array.size_append, List.size_toArray, size_zeroCells, hzs, hown.1, hl, ← Nat.add_mul]
      congr 1
      omega
    · rw [Nat.zero_mul, List.drop_zero]
      simp only [Array.toList_append, List.append_assoc]
      rw [← List.append_assoc, ← hll]
      exact List.take_left
  rcases hown.2 with ⟨rfl, rfl⟩ | ⟨g, q, c, p, cap, cur, rfl, g2, g3, g4, g5, g6, g7, g8⟩
  · have hL : L = [] := List.eq_nil_of_length_eq_zero (by simpa using hown.1)
    subst hL
    have hr := run_append_nil (P := P) s.w T ty e ti z hT hi hz ad2 m c2 L2 hl hcells hm (by omega) (by rw [Nat.zero_add] at hbytes; omega)
    have hg := grown 0
    simp only [Nat.zero_add, List.nil_append, Array.empty_append] at hg hr ⊢
    exact ⟨_, _, hr, hg, ⟨rfl, rfl, rfl, by simp, fun k hk _ => Below.heap_alloc _ _ _ hk⟩, fun b hb => .inr (by cases hb; exact Nat.le_refl _), ⟨_, _, _, rfl⟩, fun b hb => by cases hb; simp⟩
  · by_cases hroom : n + m ≤ c
    · obtain rfl := g7.resolve_left (by omega)
      have hcurlen : cur.toList.length = cap * ti.size := by simpa using g6
      have hcapm : (p + (n + m)) * ti.size ≤ cap * ti.size := Nat.mul_le_mul_right _ (by omega)
      rw [Nat.add_mul, Nat.add_mul, ← hl] at hcapm
      have hcell : ∀ j, j < L2.length → (s.w.cell? ⟨g, p * ti.size + n * ti.size + j, none⟩).isSome = true := fun j hj => by
        rw [cell_of_row s.w g (p * ti.size + n * ti.size + j) cur e (0, 0) g2]
        rw [Array.getElem?_eq_getElem (by rw [g6]; omega)]; rfl
      have hrun := run_append_room_cells (P := P) s.w T ty e ti hT hi g (p * ti.size) n c ad2 m c2 L2 hl hcells h1 hroom hcell (fun j hj => by simp [World.frozen?, g2])
      obtain ⟨r1, r2, r3, r4⟩ := setCells_rest g L2 (p * ti.size + n * ti.size) s.w
      refine ⟨_, _, hrun, ⟨hll, .inr ⟨g, p * ti.size, c, p, cap, (setL cur.toList (p * ti.size + n * ti.size) L2).toArray, rfl, setCells_block g L2 _ s.w cur.toList e (by simpa using g2), hroom, g4, g5, by simp [setL_len, g6], .inr rfl, ?_⟩⟩, ⟨r2, r3, r4, by rw [r1]; exact Nat.le_refl _, fun k hk hne => setCells_other g L2 _ s.w k (fun e => hne (by simp [Value.ownBlock, e]))⟩, fun b hb => .inl (by cases hb; rfl), ⟨_, _, _, rfl⟩, fun b hb => by cases hb; rw [r1]; exact (Array.getElem?_eq_some_iff.1 g2).1⟩
      show ((setL cur.toList (p * ti.size + n * ti.size) L2).drop (p * ti.size)).take ((n + m) * ti.size) = _
      rw [Nat.add_mul n m, ← hl, setL_mid (by omega), g8]
    · have hgo : c < n + m := by omega
      have holds : ∀ (j : Nat) u, L[j]? = some u → s.w.cell? ((⟨g, q, none⟩ : Addr).add j) = some u := fun j u hj => by
        rcases g7 with h0 | rfl
        · have : n = 0 := by omega
          have hL0 := hown.1
          rw [this, Nat.zero_mul] at hL0
          rw [List.eq_nil_of_length_eq_zero hL0] at hj
          simp at hj
        · rw [Addr.add_mid, cell_of_row s.w g (p * ti.size + j) cur e (0, 0) g2]
          rw [← g8, List.getElem?_take] at hj
          split at hj
          · rw [List.getElem?_drop] at hj; simpa using hj
          · cases hj
      have hr := run_append_grow (P := P) s.w T ty e ti z hT hi hz ⟨g, q, none⟩ n c L hown.1 holds ad2 m c2 L2 hl hcells hgo h63' (growslice_fits hgo hbytes)
      exact ⟨_, _, hr, grown c, ⟨rfl, rfl, rfl, by simp, fun k hk _ => Below.heap_alloc _ _ _ hk⟩, fun b hb => .inr (by cases hb; exact Nat.le_refl _), ⟨_, _, _, rfl⟩, fun b hb => by cases hb; simp⟩
theorem que_shape {w : World} {e : TypeId} {sz n : Nat} {h : Value} {L : List Value} (hk : queRow w e sz h n L) : (h = .slice none 0 0) ∨ ∃ a n c, h = .slice (some a) n c := by
  rcases hk.2 with ⟨q, _⟩ | ⟨g, q, c, p, cap, cur, e, _⟩
  · exact .inl q
  · exact .inr ⟨_, _, _, e⟩
/-- an append onto it -/
theorem op_appu {T e : TypeId} {sz by' n m i j : Nat} {x y : Operand} {d : D} {L L2 Z : List Value} {fp : List Nat} (ho : o.op = .call { callee := .builtin .append, args := #[x, y], argTypes := #[T, T] }) (hT : slE P T = some (e, sz, by')) (hZ : zrC P e = some Z) (hZl : Z.length = sz)
    (hx : Ev pc F x (.arr i)) (hy : Ev pc F y d) (hsrc : SrcD M fp d m sz L2) (hM : M[i]? = some (.que e sz n L)) (hj : M[j]? = some .hole) (h1 : pc = true → L2.all (·.oneCell') = true) (hbd : pc = true → (n + m) * by' ≤ 140737488355328 ∧ n + m ≤ 140737488355328) (hm : 0 < m) :
    DOp P pc o F M (i :: j :: fp) (.arr j) [(i, .gone), (j, .que e sz (n + m) (L ++ L2))] := by
  intro hp a s hok hops hfp
  obtain ⟨e1, ti, e2, e3, e4⟩ := slE_spec hT
  obtain ⟨ti', z, q1, q2, q3⟩ := zrC_spec hZ
  rw [e2] at q1
  obtain rfl := Option.some.inj q1
  obtain ⟨b1, b2⟩ := hbd hp
  have hM' : s.M[i]? = some (.que e sz n L) := by rw [hfp i (by simp)]; exact hM
  have hj' : s.M[j]? = some .hole := by rw [hfp j (by simp)]; exact hj
  have hij : i ≠ j := fun h => by subst h; rw [hM'] at hj'; cases hj'
  have hjl : j < s.β.length := by rw [hok.len]; exact (List.getElem?_eq_some_iff.1 hj').1
  have hrx := ev_at hp hx (by simp [ho, Op.operands, Call.operands]) hops
  have hry := ev_at hp hy (by simp [ho, Op.operands, Call.operands]) hops
  obtain ⟨hl2, hso⟩ := hsrc s _ hok (fun k hk => hfp k (by simp [hk])) hry
  generalize hv : a.eval x = vx at hrx
  cases hrx with
  | @arr _ ad n' c hβ =>
    have hk : queRow s.w e sz _ n L := hok.blk i _ _ hM' hβ
    obtain ⟨h', w', r1, r2, r3, r4, ⟨a', n2, c', rfl⟩, r5⟩ := run_append_que (P := P) (ty := o.type) (m := m) e1 e2 e3 e4 q2 (by rw [← hZl, ← q3]; simp) hk hl2 hso (fun u hu => List.all_eq_true.1 (h1 hp) u hu) hm (by unfold maxLen; omega) b1
    have o0 := hb_own (que_shape hk)
    have hβj : s.β[j]? = some .nilFunc := by
      have q : s.β[j]? = some s.β[j] := List.getElem?_eq_getElem hjl
      have : s.β[j] = .nilFunc := hok.blk j .hole _ hj' q
      rw [q, this]
    have from_ : ∀ b, hb (Value.slice (some a') n2 c') = some b → s.w.heap.size ≤ b ∨ (hb (Value.slice ad n' c) = some b) := by
      intro b hbb
      rcases r4 b hbb with h | h
      · exact .inr (by rw [o0]; exact h)
      · exact .inl h
    have ht : Tr s ⟨s.β.set j (.slice (some a') n2 c'), s.I, (s.M.set i .gone).set j (.que e sz (n + m) (L ++ L2)), w'⟩ := by
      refine step_set hok j (s.M.set i .gone) _ _ w' (by simp) (fun k kb hkb => ?_) (by rw [← hok.len]; exact hjl) (.inl hβj) (by simp) r2 (fun b hbb k kb hh hne q1 q2 q3 q4 => ?_) (fun b hbb => (from_ b hbb).imp id fun h => live_of hM' rfl hβ h) (fun b hbb => r5 b hbb) (fun b => hb (Value.slice ad n' c) = some b) (fun b hdr => ⟨live_of hM' rfl hβ hdr, fun k kb hh hne q1 q2 q3 q4 => ?_⟩) (fun b hlt hne hnd => ?_) r3.os r3.tape r3.output r3.size
      · by_cases hki : i = k
        · subst hki
          have hlt : i < s.M.length := (List.getElem?_eq_some_iff.1 hM').1
          rw [List.getElem?_set_self hlt] at hkb
          exact .inr (Option.some.inj hkb).symm
        · rw [List.getElem?_set_ne hki] at hkb; exact .inl hkb
      · have hki : i ≠ k := fun h => by
          subst h
          have hlt : i < s.M.length := (List.getElem?_eq_some_iff.1 hM').1
          rw [List.getElem?_set_self hlt] at q1
          cases q1; cases q2
        rw [List.getElem?_set_ne hki] at q1
        rcases from_ b hbb with h | h
        · exact absurd (hok.lt b (live_of q1 q2 q3 q4)).1 (Nat.not_lt.2 h)
        · exact hki (hok.inj i k _ kb _ hh b hM' rfl hβ h q1 q2 q3 q4)
      · have hki : i ≠ k := fun h => by
          subst h
          have hlt : i < s.M.length := (List.getElem?_eq_some_iff.1 hM').1
          rw [List.getElem?_set_self hlt] at q1
          cases q1; cases q2
        rw [List.getElem?_set_ne hki] at q1
        exact hki (hok.inj i k _ kb _ hh b hM' rfl hβ hdr q1 q2 q3 q4)
      · exact r3.block b hlt fun h => hnd (by rw [o0]; exact h.symm)
    exact dg_step (s' := ⟨s.β.set j _, s.I, (s.M.set i .gone).set j (.que e sz (n + m) (L ++ L2)), w'⟩) (run_builtin ho (fun cs => by rfl) (by simpa [hv] using r1)) ht rfl (.arr (by simp [hjl]))
end
/-- a block of one's own, told by another handle, in a new place -/
theorem tr_move {s : St} (ho : Ok s) {k j : Nat} {B B' : Blk} {h h' : Value} (hM : s.M[k]? = some B) (hlv : B.live = true) (hβ : s.β[k]? = some h) (hj : s.M[j]? = some .hole) (hn : h' ≠ .nilFunc) (hB : BlkOk ⟨s.β.set j h', s.I, (s.M.set k .gone).set j B', s.w⟩ h' B') (hown : ∀ b, owns B' h' b → owns B h b) :
    Tr s ⟨s.β.set j h', s.I, (s.M.set k .gone).set j B', s.w⟩ := by
  have hij : k ≠ j := fun e => by subst e; rw [hM] at hj; cases hj; cases hlv
  have hjl : j < s.β.length := by rw [ho.len]; exact (List.getElem?_eq_some_iff.1 hj).1
  have hβj : s.β[j]? = some .nilFunc := by
    have q : s.β[j]? = some s.β[j] := List.getElem?_eq_getElem hjl
    have : s.β[j] = .nilFunc := ho.blk j .hole _ hj q
    rw [q, this]
  have hkl : k < s.M.length := (List.getElem?_eq_some_iff.1 hM).1
  refine step_set ho j (s.M.set k .gone) h' B' s.w (by simp) (fun i kb hkb => ?_) (by rw [← ho.len]; exact hjl) (.inl hβj) hn hB (fun b hbb i kb hh hne q1 q2 q3 q4 => ?_) (fun b hbb => .inr (live_of hM hlv hβ (hown b hbb))) (fun b hbb => (ho.lt b (live_of hM hlv hβ (hown b hbb))).1) (fun _ => False) (fun _ h => h.elim) (fun _ _ _ _ => rfl) rfl rfl rfl (Nat.le_refl _)
  · by_cases hki : k = i
    · subst hki
      rw [List.getElem?_set_self hkl] at hkb
      exact .inr (Option.some.inj hkb).symm
    · rw [List.getElem?_set_ne hki] at hkb; exact .inl hkb
  · have hki : k ≠ i := fun h => by
      subst h
      rw [List.getElem?_set_self hkl] at q1
      cases q1; cases q2
    rw [List.getElem?_set_ne hki] at q1
    exact hki (ho.inj k i _ kb _ hh b hM hlv hβ (hown b hbb) q1 q2 q3 q4)
/-- a variable's cell, told otherwise -/
theorem tr_cell {s : St} (ho : Ok s) {i q : Nat} {T : TypeId} {l : List D} {d' : D} (hM : s.M[i]? = some (.mix T l)) (hq : q < l.length) (hd : ∀ (b : Nat) (vs : List Value) v, s.β[i]? = some (.pointer (some ⟨b, 0, none⟩)) → s.w.heap[b]? = some (.cells vs.toArray T (0, 0)) → vs[q]? = some v → Rep s d' v) : Tr s ⟨s.β, s.I, s.M.set i (.mix T (l.set q d')), s.w⟩ := by
  have hil := (List.getElem?_eq_some_iff.1 hM).1
  obtain ⟨hd', hβi⟩ : ∃ hd, s.β[i]? = some hd := ⟨_, List.getElem?_eq_getElem (by rw [ho.len]; exact hil)⟩
  obtain ⟨b, vs, rfl, hb, hl, hr⟩ := ho.blk i _ _ hM hβi
  have hβe : s.β.set i (.pointer (some ⟨b, 0, none⟩)) = s.β := by
    refine List.ext_getElem? fun k => ?_
    by_cases hk : i = k
    · subst hk; rw [List.getElem?_set_self (List.getElem?_eq_some_iff.1 hβi).1, hβi]
    · rw [List.getElem?_set_ne hk]
  have hlv : Live s b := live_of hM rfl hβi rfl
  have t := step_set ho i s.M (.pointer (some ⟨b, 0, none⟩)) (.mix T (l.set q d')) s.w rfl (fun _ _ h => .inl h) hil (.inr (.inl hβi)) (by simp) ?_ (fun c hc j k h hne h1 h2 h3 h4 => ?_) (fun c hc => by cases hc; exact .inr hlv) (fun c hc => by cases hc; exact (ho.lt b hlv).1) (fun _ => False) (fun _ h => h.elim) (fun _ _ _ _ => rfl) rfl rfl rfl (Nat.le_refl _)
  · rwa [hβe] at t
  · refine ⟨b, vs, rfl, hb, by rw [List.length_set]; exact hl, fun j d1 v h1 h2 => ?_⟩
    have up : ∀ {d : D} {v : Value}, Rep s d v → Rep ⟨s.β.set i (.pointer (some ⟨b, 0, none⟩)), s.I, s.M.set i (.mix T (l.set q d')), s.w⟩ d v := fun h =>
      Rep.monoK (s := s) (s' := ⟨s.β.set i (.pointer (some ⟨b, 0, none⟩)), s.I, s.M.set i (.mix T (l.set q d')), s.w⟩) (by show hkeep s.β (s.β.set i _); rw [hβe]; exact hkeep.refl _) (fun _ h => h) (fun _ _ => rfl) h
    by_cases e : q = j
    · subst e
      rw [List.getElem?_set_self hq] at h1
      obtain rfl := Option.some.inj h1
      exact up (hd b vs v hβi hb h2)
    · rw [List.getElem?_set_ne e] at h1
      exact up (hr j d1 v h1 h2)
  · cases hc
    exact hne (ho.inj j i k _ h _ b h1 h2 h3 h4 hM rfl hβi rfl)
section
variable {P : Program} {s0 : St} {n : Cx}
/-- a row that a cell names, moved to a new place, and the cell with it -/
theorem inv_movec {F : Fr} {M : List Blk} {a : Act} {w : World} {i q k : Nat} {T : TypeId} {l : List D} {B : Blk} {d : D} (hB : B.live = true) (hBm : ∀ T l, B ≠ .mix T l) (h : Inv s0 n F M a w) (hi : M[i]? = some (.mix T l)) (hq : l[q]? = some d) (hk : M[k]? = some B) {R : List Blk → Prop}
    (hf : ∀ (s : St) (h v : Value), Ok s → s.β[k]? = some h → BlkOk s h B → Rep s d v → ∃ (h' : Value) (B' : Blk) (d' : D), h' ≠ .nilFunc ∧ (∀ b, owns B' h' b → owns B h b) ∧ (∀ s' : St, s'.w = s.w → BlkOk s' h' B') ∧ (∀ s' : St, s'.β[M.length]? = some h' → Rep s' d' v) ∧ R (((M.set k .gone) ++ [B']).set i (.mix T (l.set q d')))) : ∃ M', R M' ∧ Inv s0 n F M' a w := by
  obtain ⟨h0, s, rfl, rfl, h3, h4, h5, h6⟩ := h
  have t1 := step_hole h3.ok
  have hlen := h3.ok.len
  have hkl := (List.getElem?_eq_some_iff.1 hk).1
  have hil := (List.getElem?_eq_some_iff.1 hi).1
  have hql := (List.getElem?_eq_some_iff.1 hq).1
  have hik : k ≠ i := fun e => by
    subst e
    rw [hi] at hk
    exact hBm _ _ (Option.some.inj hk).symm
  obtain ⟨h, hβk⟩ : ∃ h, s.β[k]? = some h := ⟨_, List.getElem?_eq_getElem (by omega)⟩
  obtain ⟨x, hx⟩ : ∃ x, s.β[i]? = some x := ⟨_, List.getElem?_eq_getElem (by omega)⟩
  obtain ⟨b, vs, rfl, hb, hl, hr⟩ := h3.ok.blk i _ _ hi hx
  obtain ⟨v, hv⟩ : ∃ v, vs[q]? = some v := ⟨_, List.getElem?_eq_getElem (by rw [hl]; exact hql)⟩
  have hrv := hr q d v hq hv
  have hβk1 : (s.β ++ [Value.nilFunc])[k]? = some h := by rw [List.getElem?_append_left (by omega)]; exact hβk
  have hβi1 : (s.β ++ [Value.nilFunc])[i]? = some (.pointer (some ⟨b, 0, none⟩)) := by rw [List.getElem?_append_left (by omega)]; exact hx
  have hMk1 : (s.M ++ [Blk.hole])[k]? = some B := by rw [List.getElem?_append_left hkl]; exact hk
  obtain ⟨h', B', d', g1, g2, g3, g4, g5⟩ := hf s h v h3.ok hβk (h3.ok.blk k _ _ hk hβk) hrv
  have t2 := tr_move (s := ⟨s.β ++ [Value.nilFunc], s.I, s.M ++ [Blk.hole], s.w⟩) t1.ok (j := s.M.length) hMk1 hB hβk1 (by simp) g1 (g3 _ rfl) g2
  have tt := t1.trans t2
  have eM : ((s.M ++ [Blk.hole]).set k .gone).set s.M.length B' = s.M.set k .gone ++ [B'] := by
    rw [List.set_append_left _ _ hkl, List.set_append_right _ _ (by simp)]
    simp
  rw [eM] at tt
  have hMi : (s.M.set k .gone ++ [B'])[i]? = some (.mix T l) := by rw [List.getElem?_append_left (by simpa using hil), List.getElem?_set_ne hik]; exact hi
  have hβn : ((s.β ++ [Value.nilFunc]).set s.M.length h')[s.M.length]? = some h' := by rw [List.getElem?_set_self (by simp [hlen])]
  have hβi2 : ((s.β ++ [Value.nilFunc]).set s.M.length h')[i]? = some (.pointer (some ⟨b, 0, none⟩)) := by rw [List.getElem?_set_ne (by omega)]; exact hβi1
  have t3 := tr_cell (s := ⟨(s.β ++ [Value.nilFunc]).set s.M.length h', s.I, s.M.set k .gone ++ [B'], s.w⟩) tt.ok (d' := d') hMi hql fun b2 vs2 v2 e1 e2 e3 => by
    rw [hβi2] at e1
    cases e1
    have e4 : some (Obj.cells vs.toArray T (0, 0)) = some (Obj.cells vs2.toArray T (0, 0)) := hb.symm.trans e2
    simp at e4
    subst e4
    rw [hv] at e3
    obtain rfl := Option.some.inj e3
    exact g4 _ hβn
  have ttt := tt.trans t3
  exact ⟨_, g5, h0, ⟨_, _, _, _⟩, rfl, rfl, h3.trans ttt, fun x d hd => (h4 x d hd).mono h3.ok ttt, h5, h6.mono h3.ok ttt⟩
/-- a row whose front may have been cut off, looked at as a part of a row -/
theorem dwp_openu {c : Code} {F : Fr} {M : List Blk} {K : Cont} {T e : TypeId} {l : List D} {sz m k : Nat} {L : List Value} (i q : Nat) (hi : M[i]? = some (.mix T l)) (hq : l[q]? = some (.arr k)) (hk : M[k]? = some (.que e sz m L)) 
    (h : ∀ (p r : Nat) (G : List Value), G.length = p * sz → dwp P s0 n c F (((M.set k .gone) ++ [Blk.arr e sz (p + m) (G ++ L)]).set i (.mix T (l.set q (.part M.length sz p m r)))) K) : dwp P s0 n c F M K := by
  intro a w hv
  obtain ⟨M', ⟨p, r, G, hG, rfl⟩, hI⟩ := inv_movec (R := fun M' => ∃ (p r : Nat) (G : List Value), G.length = p * sz ∧ M' = ((M.set k .gone) ++ [Blk.arr e sz (p + m) (G ++ L)]).set i (.mix T (l.set q (.part M.length sz p m r)))) rfl (fun _ _ => by simp) hv hi hq hk fun s x v hok hβ hB hrv => by
    have hB : queRow s.w e sz x m L := hB
    cases hrv with
    | @arr _ a0 n0 c0 hβ2 =>
      rw [hβ2] at hβ
      obtain rfl := Option.some.inj hβ
      rcases hB.2 with ⟨e1, rfl⟩ | ⟨g, o, r, p, cap, cur, e1, g2, g3, g4, g5, g6, g7, g8⟩
      · have hL : L = [] := List.eq_nil_of_length_eq_zero (by simpa using hB.1)
        subst hL
        cases e1
        exact ⟨.slice none 0 0, .arr e sz (0 + 0) ([] ++ []), .part M.length sz 0 0 0, by simp, (fun b hb => by cases hb), fun s' h2 => (by show World.ownsRow _ _ _ _ _ 0 []; exact World.ownsRow_nil s'.w 0 e sz), fun s' h1 => .partnil h1, 0, 0, [], by simp, rfl⟩
      · obtain ⟨rfl, rfl, rfl⟩ : some ⟨g, o, none⟩ = a0 ∧ m = n0 ∧ r = c0 := by simpa using e1.symm
        have hcl : cur.toList.length = cap * sz := by simpa using g6
        have hle : (p + m) * sz ≤ cap * sz := Nat.mul_le_mul_right _ (by omega)
        have hGl : (cur.toList.take (p * sz)).length = p * sz := by rw [List.length_take]; rw [Nat.add_mul] at hle; omega
        have hcat : cur.toList.take ((p + m) * sz) = cur.toList.take (p * sz) ++ L := by rw [Nat.add_mul, List.take_add, g8]
        refine ⟨.slice (some ⟨g, 0, none⟩) (p + m) cap, .arr e sz (p + m) (cur.toList.take (p * sz) ++ L), .part M.length sz p m r, by simp, fun b hb => by cases hb; rfl, fun s' h2 => ⟨?_, .inr ⟨g, cap, cur, rfl, Nat.zero_le _, by rw [h2]; exact g2, by omega, g5, g6, hcat⟩⟩, fun s' h1 => .part h1 g7 rfl g3 g4, p, r, _, hGl, rfl⟩
        rw [List.length_append, hGl, hB.1, Nat.add_mul]
  exact h p r G hG a w hI
/-- a part of a row, as a row whose front has been cut off -/
theorem dwp_closeu {c : Code} {F : Fr} {M M' : List Blk} {K : Cont} {T e : TypeId} {l l' : List D} {sz m k p r N j : Nat} {L L' : List Value} (i q : Nat) (hi : M[i]? = some (.mix T l)) (hq : l[q]? = some (.part k sz p m r)) (hk : M[k]? = some (.arr e sz N L)) (hL : L.drop (p * sz) = L') (hj : M.length = j) (hl : l.set q (.arr j) = l') (hM : ((M.set k .gone) ++ [Blk.que e sz m L']).set i (.mix T l') = M')
    (h : dwp P s0 n c F M' K) : dwp P s0 n c F M K := by
  subst hL hj hl hM
  intro a w hv
  obtain ⟨M', rfl, hI⟩ := inv_movec (R := fun M' => M' = ((M.set k .gone) ++ [Blk.que e sz m (L.drop (p * sz))]).set i (.mix T (l.set q (.arr M.length)))) rfl (fun _ _ => by simp) hv hi hq hk fun s x v hok hβ hB hrv => by
    have hrow : s.w.ownsRow 0 e sz x N L := hB
    cases hrv with
    | @part _ _ _ _ _ N' cap b ad hβ2 ha hN hn hc =>
      rw [hβ2] at hβ
      obtain rfl := Option.some.inj hβ
      rcases hrow.2 with ⟨g1, g2⟩ | ⟨g, cap2, cur2, g1, g2, g3, g4, g5, g6, g7⟩
      · cases g1
      · cases g1
        have hNm : N * sz = p * sz + m * sz := by rw [← hN, Nat.add_mul]
        have hLl : (L.drop (p * sz)).length = m * sz := by rw [List.length_drop, hrow.1]; omega
        refine ⟨_, .que e sz m (L.drop (p * sz)), .arr M.length, by simp, fun b hb => by cases hb; rfl, fun s' h2 => ⟨hLl, .inr ⟨b, ad, r, p, cap, cur2, rfl, by rw [h2]; exact g3, hn, hc, g5, g6, ha, ?_⟩⟩, fun s' h1 => .arr h1, rfl⟩
        rw [← g7, List.drop_take]
        congr 1
        omega
    | partnil hβ2 =>
      rw [hβ2] at hβ
      obtain rfl := Option.some.inj hβ
      rcases hrow.2 with ⟨g1, g2⟩ | ⟨g, cap2, cur2, g1, _⟩
      · subst g2
        refine ⟨.slice none 0 0, .que e sz 0 (L.drop (0 * sz)), .arr M.length, by simp, (fun b hb => by cases hb), fun s' h2 => ⟨?_, .inl ⟨rfl, rfl⟩⟩, fun s' h1 => .arr h1, rfl⟩
        rw [Nat.zero_mul, List.drop_zero, hrow.1, Nat.zero_mul]
      · cases g1
  exact h a w hI
/-- a nil slice in a cell of a variable, taken over as a row whose front may be cut off -/
theorem inv_adoptu {F : Fr} {M : List Blk} {a : Act} {w : World} {i q : Nat} {T : TypeId} {l : List D} (e : TypeId) (sz : Nat) (h : Inv s0 n F M a w) (hi : M[i]? = some (.mix T l)) (hq : l[q]? = some (.val (.slice none 0 0))) : Inv s0 n F ((M ++ [Blk.que e sz 0 []]).set i (.mix T (l.set q (.arr M.length)))) a w := by
  obtain ⟨h0, s, rfl, rfl, h3, h4, h5, h6⟩ := h
  have t1 := step_hole h3.ok
  have hlen := h3.ok.len
  have hn : (s.M ++ [Blk.hole])[s.M.length]? = some .hole := by simp
  have t2 : Tr ⟨s.β ++ [Value.nilFunc], s.I, s.M ++ [Blk.hole], s.w⟩ ⟨(s.β ++ [Value.nilFunc]).set s.M.length (.slice none 0 0), s.I, (s.M ++ [Blk.hole]).set s.M.length (.que e sz 0 []), s.w⟩ :=
    tr_new (s := ⟨s.β ++ [Value.nilFunc], s.I, s.M ++ [Blk.hole], s.w⟩) t1.ok (j := s.M.length) hn (.slice none 0 0) (.que e sz 0 []) s.w (by simp) (fun b hb => by cases hb) (fun b _ => rfl) (fun b hb => by cases hb) (Nat.le_refl _) rfl rfl rfl ⟨by simp, .inl ⟨rfl, rfl⟩⟩
  have tt := t1.trans t2
  have hil : i < s.M.length := (List.getElem?_eq_some_iff.1 hi).1
  have eM : (s.M ++ [Blk.hole]).set s.M.length (.que e sz 0 []) = s.M ++ [.que e sz 0 []] := by simp
  rw [eM] at tt
  generalize hS : (⟨(s.β ++ [Value.nilFunc]).set s.M.length (.slice none 0 0), s.I, s.M ++ [.que e sz 0 []], s.w⟩ : St) = S at tt
  have hSM : S.M = s.M ++ [.que e sz 0 []] := by rw [← hS]
  have hSw : S.w = s.w := by rw [← hS]
  have hMi : S.M[i]? = some (.mix T l) := by rw [hSM, List.getElem?_append_left hil]; exact hi
  have hβlen : s.M.length < S.β.length := by rw [← hS]; simp [hlen]
  have hβn : S.β[s.M.length]? = some (.slice none 0 0) := by rw [← hS]; simp [hlen]
  obtain ⟨hd, hβi⟩ : ∃ hd, S.β[i]? = some hd := ⟨_, List.getElem?_eq_getElem (by omega)⟩
  obtain ⟨b, vs, rfl, hb, hl, hr⟩ := tt.ok.blk i _ _ hMi hβi
  have hβe : S.β.set i (.pointer (some ⟨b, 0, none⟩)) = S.β := by
    refine List.ext_getElem? fun k => ?_
    by_cases hk : i = k
    · subst hk; rw [List.getElem?_set_self (by omega), hβi]
    · rw [List.getElem?_set_ne hk]
  have t3 : Tr S ⟨S.β.set i (.pointer (some ⟨b, 0, none⟩)), S.I, S.M.set i (.mix T (l.set q (.arr s.M.length))), S.w⟩ := by
    have hlv : Live S b := live_of hMi rfl hβi rfl
    refine step_set tt.ok i S.M (.pointer (some ⟨b, 0, none⟩)) (.mix T (l.set q (.arr s.M.length))) S.w rfl (fun _ _ h => .inl h) (List.getElem?_eq_some_iff.1 hMi).1 (.inr (.inl hβi)) (by simp) ?_ (fun c hc j k h hne h1 h2 h3 h4 => ?_) (fun c hc => by cases hc; exact .inr hlv) (fun c hc => by cases hc; exact (tt.ok.lt b hlv).1) (fun _ => False) (fun _ h => h.elim) (fun _ _ _ _ => rfl) rfl rfl rfl (Nat.le_refl _)
    · refine ⟨b, vs, rfl, hb, by rw [List.length_set]; exact hl, fun j d v h1 h2 => ?_⟩
      have up : ∀ {d : D} {v : Value}, Rep S d v → Rep ⟨S.β.set i (.pointer (some ⟨b, 0, none⟩)), S.I, S.M.set i (.mix T (l.set q (.arr s.M.length))), S.w⟩ d v := fun h =>
        Rep.monoK (s := S) (s' := ⟨S.β.set i (.pointer (some ⟨b, 0, none⟩)), S.I, S.M.set i (.mix T (l.set q (.arr s.M.length))), S.w⟩) (by show hkeep S.β (S.β.set i _); rw [hβe]; exact hkeep.refl _) (fun _ h => h) (fun _ _ => rfl) h
      by_cases e : q = j
      · subst e
        rw [List.getElem?_set_self (List.getElem?_eq_some_iff.1 hq).1] at h1
        obtain rfl := Option.some.inj h1
        have hv := (hr q _ v hq h2).val_eq
        subst hv
        exact .arr (by show (S.β.set i _)[_]? = _; rw [hβe]; exact hβn)
      · rw [List.getElem?_set_ne e] at h1
        exact up (hr j d v h1 h2)
    · cases hc
      exact hne (tt.ok.inj j i k _ h _ b h1 h2 h3 h4 hMi rfl hβi rfl)
  have ttt := tt.trans t3
  refine ⟨h0, ⟨S.β.set i (.pointer (some ⟨b, 0, none⟩)), S.I, S.M.set i (.mix T (l.set q (.arr s.M.length))), S.w⟩, by simp only [hSM], hSw, h3.trans ttt, fun x d hd => (h4 x d hd).mono h3.ok ttt, h5, h6.mono h3.ok ttt⟩
theorem dwp_adoptu {c : Code} {F : Fr} {M M' : List Blk} {K : Cont} {T : TypeId} {l l' : List D} (i q : Nat) (e : TypeId) (sz : Nat) {m : Nat} (hi : M[i]? = some (.mix T l)) (hq : l[q]? = some (.val (.slice none 0 0))) (hm : M.length = m) (hl : l.set q (.arr m) = l') (hM : (M ++ [Blk.que e sz 0 []]).set i (.mix T l') = M') (h : dwp P s0 n c F M' K) : dwp P s0 n c F M K := by
  subst hm hl hM
  exact fun a w hv => h a w (inv_adoptu e sz hv hi hq)
end
end Go.Proofs.YtfnhckildfbikaaGreat
namespace Go.Proofs.YtfnhckildfbikaaGreat
set_option linter.unusedVariables false
set_option linter.unusedSimpArgs false
open Go.RowKit
theorem flatK_list {α : Type} [Inhabited α] {en : α → List Value} {k : Nat} (hk : ∀ x, (en x).length = k) (hpos : 0 < k) (l : List α) : (Sort.flatK en k l.toArray).toList = l.flatMap en := by
  apply List.ext_getElem?
  intro t
  have hsz : (Sort.flatK en k l.toArray).toList.length = l.length * k := by simp [Sort.size_flatK]
  have hfl := flat_len hk l
  by_cases ht : t < l.length * k
  · have hd : t / k < l.length := (Nat.div_lt_iff_lt_mul hpos).2 ht
    have hm : t % k < k := Nat.mod_lt _ hpos
    have e : t = t / k * k + t % k := by rw [Nat.mul_comm]; exact (Nat.div_add_mod t k).symm
    have e1 := Sort.get_flatK en k l.toArray t (by simpa using ht)
    have e2 : (l.flatMap en)[t]? = (en l[t / k])[t % k]? := by
      conv => lhs; rw [e]
      exact flat_cell hk hd hm
    have hmm : t % k < (en l[t / k]).length := by rw [hk]; exact hm
    rw [e2, List.getElem?_eq_getElem hmm]
    have h3 : t < (Sort.flatK en k l.toArray).size := by simpa [Sort.size_flatK] using ht
    have e4 : (Sort.flatK en k l.toArray)[t]! = (Sort.flatK en k l.toArray)[t] := getElem!_pos _ t h3
    rw [Array.getElem?_toList, Array.getElem?_eq_getElem h3, ← e4, e1]
    congr 1
    have e5 : l.toArray[t / k]! = l[t / k] := by rw [getElem!_pos l.toArray (t / k) (by simpa using hd)]; simp
    rw [e5, getElem!_pos (en l[t / k]) (t % k) (by rw [hk]; exact hm)]
  · rw [List.getElem?_eq_none (by omega), List.getElem?_eq_none (by omega)]
theorem putCells_list {F cur : Array Value} (h : F.size ≤ cur.size) : (Sort.putCells id 0 F cur).size = cur.size ∧ (Sort.putCells id 0 F cur).toList.take F.size = F.toList := by
  refine ⟨by simp [Sort.putCells], ?_⟩
  apply List.ext_getElem?
  intro t
  by_cases ht : t < F.size
  · rw [List.getElem?_take, if_pos ht, Array.getElem?_toList, Array.getElem?_toList]
    simp only [Sort.putCells, Array.getElem?_mapIdx]
    rw [Array.getElem?_eq_getElem (show t < cur.size by omega), Option.map_some, if_pos ⟨Nat.zero_le _, by omega⟩, Array.getElem?_eq_getElem ht]
    simp [getElem!_pos F t ht]
  · rw [List.getElem?_eq_none (by simp [Sort.putCells]; omega), List.getElem?_eq_none (by simpa using ht)]
/-- the world in which a row of one's own has been written over -/
theorem tr_sorted {α : Type} [Inhabited α] {s : St} (hok : Ok s) {i k n m cap b : Nat} {T : TypeId} {en : α → List Value} (hk : ∀ x, (en x).length = k) (hpos : 0 < k) {l l' : List α} {L : List Value} (hL : l.flatMap en = L) (hM : s.M[i]? = some (.arr T k n L)) (hβ : s.β[i]? = some (.slice (some ⟨b, 0, none⟩) m cap)) (hl : l'.length = l.length) (q : Nat) (os : Array Obj) :
    Tr s ⟨s.β, s.I, s.M.set i (.arr T k n (l'.flatMap en)), sortWorldK en k s.w b 0 q l'.toArray os⟩ := by
  subst hL
  have hr : s.w.ownsRow 0 T k _ n _ := hok.blk i _ _ hM hβ
  rcases hr.2 with ⟨e1, _⟩ | ⟨g, c, cur, e1, e2, e3, e4, e5, e6, e7⟩
  · cases e1
  · cases e1
    have hll := hr.1
    rw [flat_len hk] at hll
    have hnl : l.length = n := Nat.eq_of_mul_eq_mul_right hpos hll
    have hil := (List.getElem?_eq_some_iff.1 hM).1
    have hlv : Live s b := live_of hM rfl hβ rfl
    have hbl := (hok.lt b hlv).1
    have eβ : s.β.set i (.slice (some ⟨b, 0, none⟩) n cap) = s.β := by
      have : s.β[i]'((List.getElem?_eq_some_iff.1 hβ).1) = .slice (some ⟨b, 0, none⟩) n cap := (List.getElem?_eq_some_iff.1 hβ).2
      rw [← this, List.set_getElem_self]
    have hF : (Sort.flatK en k l'.toArray).size = n * k := by simp [Sort.size_flatK, hl, hnl]
    have hcur : (Sort.flatK en k l'.toArray).size ≤ cur.size := by rw [hF, e6]; exact Nat.mul_le_mul_right k e4
    have hw : (sortWorldK en k s.w b 0 q l'.toArray os).heap = (s.w.heap.modify b (Sort.onCells (Sort.putCells id 0 (Sort.flatK en k l'.toArray)))) ++ os := rfl
    have hself : (sortWorldK en k s.w b 0 q l'.toArray os).heap[b]? = some (.cells (Sort.putCells id 0 (Sort.flatK en k l'.toArray) cur) T (0, 0)) := by
      rw [hw, Array.getElem?_append_left (by simpa using hbl), Array.getElem?_modify, if_pos rfl, e3]
      rfl
    have hoth : ∀ c, c < s.w.heap.size → c ≠ b → (sortWorldK en k s.w b 0 q l'.toArray os).heap[c]? = s.w.heap[c]? := fun c hc hne => by
      rw [hw, Array.getElem?_append_left (by simpa using hc), Array.getElem?_modify, if_neg (Ne.symm hne)]
    have hsz : s.w.heap.size ≤ (sortWorldK en k s.w b 0 q l'.toArray os).heap.size := by rw [hw]; simp
    have := step_set hok i s.M (.slice (some ⟨b, 0, none⟩) n cap) (.arr T k n (l'.flatMap en)) (sortWorldK en k s.w b 0 q l'.toArray os) rfl (fun _ _ h => .inl h) hil (.inr (.inl hβ)) (by simp)
      ⟨by rw [flat_len hk, hl, hnl], .inr ⟨b, cap, _, rfl, Nat.zero_le _, hself, e4, e5, by rw [(putCells_list hcur).1, e6], by rw [← hF, (putCells_list hcur).2, flatK_list hk hpos]⟩⟩
      (fun c hc j k' h hne h1 h2 h3 h4 => by
        cases hc
        exact hne (hok.inj j i k' _ h _ b h1 h2 h3 h4 hM rfl hβ rfl))
      (fun c hc => by cases hc; exact .inr hlv) (fun c hc => by cases hc; exact Nat.lt_of_lt_of_le hbl hsz) (fun _ => False) (fun _ h => h.elim)
      (fun c hc hne _ => hoth c hc fun e => hne (by rw [e]; rfl)) rfl rfl rfl hsz
    rwa [eβ] at this
/-- slices.SortFunc, of a row of one's own -/
theorem sortFunc_d {P : Program} {f g : FuncId} {α : Type} [Inhabited α] {k : Nat} {T : TypeId} {en : α → List Value} {cf : α → α → Int} {l : List α} (hk : ∀ x, (en x).length = k) (hpos : 0 < k) (h1 : ∀ x, (en x).all (·.oneCell') = true) (hcb : callB P f = true)
    (hc : ∀ (b cap : Nat) (w : World), Sort.HoldsK en k w b 0 l.toArray → b < w.heap.size → Calls P f #[.slice (some ⟨b, 0, none⟩) l.length cap, .func (.func g) #[] #[]] w fun e w' => e = .returned (.tuple #[]) ∧ ∃ q os, w' = sortWorldK en k w b 0 q (Sort.pdq (ltOf cf) l.toArray 0 l.length (Lib.bitLen l.length) true true) os)
    (hO : Sort.SWO (ltOf cf)) (hne : l ≠ []) : DFun P f [.arr 0, .fn (.func g) [] []] [.arr T k l.length (l.flatMap en)] (.tup []) [.arr T k l.length ((Sort.pdq (ltOf cf) l.toArray 0 l.length (Lib.bitLen l.length) true true).toList.flatMap en)] := by
  refine ⟨hcb, fun s vs hok hM hr => ?_⟩
  have hM0 : s.M[0]? = some (.arr T k l.length (l.flatMap en)) := by rw [hM]; rfl
  obtain ⟨hvl, hr⟩ := hr
  match vs, hvl, hr with
  | [v0, v1], _, hr =>
    have r0 := hr 0 _ v0 rfl rfl
    have r1 := hr 1 _ v1 rfl rfl
    cases r0 with
    | @arr _ a n c hβ =>
      cases r1 with
      | @fn _ _ _ fs us e1 e2 e3 e4 =>
        have z1 : fs = [] := List.eq_nil_of_length_eq_zero (by simpa using e1)
        have z2 : us = [] := List.eq_nil_of_length_eq_zero (by simpa using e2)
        subst z1 z2
        have hrow : s.w.ownsRow 0 T k _ _ _ := hok.blk 0 _ _ hM0 hβ
        rcases hrow.2 with ⟨_, h0⟩ | ⟨b, cap, cur, h2, h3, h4, h5, h6, h7, h8⟩
        · exact absurd (List.eq_nil_of_length_eq_zero h0) hne
        · cases h2
          have hlv : Live s b := live_of hM0 rfl hβ rfl
          have hbl := (hok.lt b hlv).1
          have hH : Sort.HoldsK en k s.w b 0 l.toArray := by
            intro j hj
            have hj' : j < l.length * k := by simpa [Sort.size_flatK] using hj
            have hcur : j < cur.size := by rw [h7]; exact Nat.lt_of_lt_of_le hj' (Nat.mul_le_mul_right k h5)
            have e5 : cur[j]? = some (Sort.flatK en k l.toArray)[j]! := by
              have q1 : (l.flatMap en)[j]? = cur.toList[j]? := by rw [← h8, List.getElem?_take, if_pos hj']
              rw [← Array.getElem?_toList, ← q1, ← flatK_list hk hpos, Array.getElem?_toList, Array.getElem?_eq_getElem hj, getElem!_pos _ j hj]
            refine ⟨?_, ?_⟩
            · simp [World.cell?, h4, e5]
            · simp [World.frozen?, h4]
          have hlen : (Sort.pdq (ltOf cf) l.toArray 0 l.length (Lib.bitLen l.length) true true).size = l.length := by
            have := (Sort.pdq_sorts (ltOf cf) hO l.toArray 0 l.length (Lib.bitLen l.length) true true (Nat.zero_le _) (by simp) (Or.inl rfl)).1.1
            simpa using this
          refine (hc b _ s.w hH hbl).mono ?_
          rintro e w' ⟨rfl, q, os, rfl⟩
          have hl' : (Sort.pdq (ltOf cf) l.toArray 0 l.length (Lib.bitLen l.length) true true).toList.length = l.length := by simpa using hlen
          have tt := tr_sorted (l' := (Sort.pdq (ltOf cf) l.toArray 0 l.length (Lib.bitLen l.length) true true).toList) hok hk hpos rfl hM0 hβ hl' q os
          refine ⟨_, ?_, tt, .inl ⟨_, _, rfl, .tup (vs := []) rfl fun j d v hj => by simp at hj, rfl, by rw [hM]; rfl⟩⟩
          simp
theorem entsI_mod : ∀ (ks : List Int) (vs : List Value) (o j : Nat) (k : Int) (v : Value), vs.length = ks.length → ks[j]? = some k → (entsI o ks vs).modify j (fun e => { e with key := .int .i64 k, val := v }) = entsI o ks (vs.set j v)
  | [], [], o, j, k, v, _, h => by simp at h
  | [], _ :: _, o, j, k, v, h, _ => by simp at h
  | _ :: _, [], o, j, k, v, h, _ => by simp at h
  | a :: ks, b :: vs, o, 0, k, v, _, h => by
    simp at h
    subst h
    rfl
  | a :: ks, b :: vs, o, j + 1, k, v, hl, h => by
    rw [entsI, za, entsI, List.modify_succ_cons, entsI_mod ks vs (o + 1) j k v (by simpa using hl) (by simpa using h)]
theorem entsI_key : ∀ (ks : List Int) (vs : List Value) (o j : Nat) (k : Int), vs.length = ks.length → ks[j]? = some k → ((entsI o ks vs)[j]?).map (·.key) = some (.int .i64 k)
  | [], [], o, j, k, _, h => by simp at h
  | [], _ :: _, o, j, k, h, _ => by simp at h
  | _ :: _, [], o, j, k, h, _ => by simp at h
  | a :: ks, b :: vs, o, 0, k, _, h => by simp at h; subst h; rfl
  | a :: ks, b :: vs, o, j + 1, k, hl, h => by
    rw [entsI, List.getElem?_cons_succ]
    exact entsI_key ks vs (o + 1) j k (by simpa using hl) (by simpa using h)
section
variable {P : Program} {K E T : TypeId} {pc : Bool} {o : Oper} {F : Fr} {M : List Blk} {x y z : Operand}
/-- a key that is there is set anew -/
theorem op_muy {i j : Nat} {k : Int} {ks : List Int} {l : List D} {kd : IntKind} {d : D} (hT : mpT P T = some (K, E)) (hK : intT P K = some kd) (ho : o.op = .mapUpdate T x y z) (hx : Ev pc F x (.hnd i)) (hy : Ev pc F y (.val (.int .i64 k))) (hz : Ev pc F z d) (hM : M[i]? = some (.mpd ks l)) (hn : pc = true → ks.Nodup) (hk : pc = true → ks[j]? = some k) : DOp P pc o F M [i] .junk [(i, .mpd ks (l.set j d))] := by
  intro hp a s hok hops hfp
  have hM' : s.M[i]? = some (.mpd ks l) := by rw [hfp i (by simp)]; exact hM
  obtain ⟨b, vs, hv, hβ, hob, hl, hr⟩ := mpd_at hok hM' (ev_at hp hx (by simp [ho, Op.operands]) hops)
  have hry := (ev_at hp hy (by simp [ho, Op.operands]) hops).val_eq
  have hrz := ev_at hp hz (by simp [ho, Op.operands]) hops
  have hj : j < ks.length := (List.getElem?_eq_some_iff.1 (hk hp)).1
  have ht := tr_mpd (ks' := ks) (l' := l.set j d) (vs' := vs.set j (a.eval z)) hok hM' hβ ⟨by simp [hl.1], by simp [hl.2]⟩ (fun q e v g1 g2 => by
    by_cases hq : j = q
    · subst hq
      rw [List.getElem?_set_self (by omega)] at g1 g2
      cases g1
      cases g2
      exact hrz
    · rw [List.getElem?_set_ne hq] at g1 g2
      exact hr q e v g1 g2)
  refine dg_skip ?_ ht rfl
  have hvj : vs[j]? = some vs[j] := List.getElem?_eq_getElem (by omega)
  have hf := findI_yes (kd := kd) ks vs 0 0 j _ (hn hp) (hk hp) hvj
  have hm := entsI_mod ks vs 0 j k (a.eval z) (by omega) (hk hp)
  have hkey := entsI_key ks vs 0 j k (by omega) (hk hp)
  unfold execOp
  simp only [ho, hv, hry]
  refine run_u ?_
  unfold Instr.mapUpdate
  rw [Sem.run_bind, run_underlying (mpT_spec hT), Result.andThen_ok]
  simp only [Sem.run_bind, getObj, Sem.run, hob, Result.andThen]
  have hc : ∀ e, (Instr.checkKey e 10000 K (.int .i64 k)).run P s.w = .ok () s.w := fun e => chkI hK e k s.w 9999
  simp [hc, Instr.findKey, run_underlying (intT_spec hK), hf, setObj, Sem.run, World.putObj, hob, hkey, Instr.keyThatStays, Instr.sameBits, hm]
/-- a map, boxed -/
theorem op_boxh {T : TypeId} {x : Operand} {i0 : Nat} {ks0 : List Int} {l0 : List D} (j : Nat) (ho : o.op = .box T x) (hx : Ev pc F x (.hnd i0)) (hM0 : M[i0]? = some (.mpd ks0 l0)) (hj : M[j]? = some .hole) : DOp P pc o F M [i0, j] (.loc j 0) [(j, .mix T [.hnd i0])] := by
  intro hp a s hok hops hfp
  have hr := ev_at hp hx (by simp [ho, Op.operands]) hops
  have hc : (a.eval x).cells = #[a.eval x] := by
    obtain ⟨b, vs, hv, _⟩ := mpd_at hok (by rw [hfp i0 (by simp)]; exact hM0) hr
    rw [hv]; rfl
  have hj' : s.M[j]? = some .hole := by rw [hfp j (by simp)]; exact hj
  have hjl : j < s.β.length := by rw [hok.len]; exact (List.getElem?_eq_some_iff.1 hj').1
  have hβ : s.β[j]? = some .nilFunc := by
    have e : s.β[j]? = some s.β[j] := List.getElem?_eq_getElem hjl
    have : s.β[j] = .nilFunc := hok.blk j .hole _ hj' e
    rw [e, this]
  have ht : Tr s ⟨s.β.set j (.pointer (some ⟨s.w.heap.size, 0, none⟩)), s.I, s.M.set j (.mix T [.hnd i0]), s.w.alloc (.cells #[a.eval x] T)⟩ := by
    refine tr_new hok hj' _ _ _ (by simp) (fun b hb => by simpa [hb] using (Option.some.inj hb).symm) (fun b h => Below.heap_alloc _ _ _ h) (fun b hb => ?_) (by simp) rfl rfl rfl ⟨_, [a.eval x], rfl, heap_alloc_new s.w _, rfl, fun k e v hk hv => ?_⟩
    · cases hb; simp
    · cases k with
      | zero =>
        simp at hk hv
        subst hk; subst hv
        refine Rep.mono' (s := s) (s' := ⟨s.β.set j (.pointer (some ⟨s.w.heap.size, 0, none⟩)), s.I, s.M.set j (.mix T [.hnd i0]), s.w.alloc (.cells #[a.eval x] T)⟩) (fun i h hi hne => ?_) (fun _ h => h) (fun b hI => Below.heap_alloc _ _ _ (hok.il b hI)) hr
        show (s.β.set j _)[i]? = some h
        by_cases e : j = i
        · subst e; rw [hi] at hβ; exact absurd (Option.some.inj hβ) hne
        · rw [List.getElem?_set_ne e]; exact hi
      | succ k => simp at hk
  refine dg_step (v := .pointer (some ⟨s.w.heap.size, 0, none⟩)) ?_ ht rfl (rep_new hjl rfl)
  unfold execOp
  simp only [ho]
  exact run_v (by simp only [Instr.box, Sem.run_bind, run_newVar, Result.andThen_ok, Sem.run_pure, hc])
end
section
variable {P : Program} {s0 : St} {n : Cx}
/-- the row that a map names joins a family -/
theorem inv_absd {F : Fr} {M : List Blk} {a : Act} {w : World} {p q j f : Nat} {ks : List Int} {e : TypeId} {l : List D} {sz m : Nat} {L : List Value} {Bs : List Mem} (h : Inv s0 n F M a w) (hM : M[p]? = some (.mpd ks l)) (hq : l[q]? = some (.arr j)) (hj : M[j]? = some (.arr e sz m L)) (hf : M[f]? = some (.fam Bs)) : Inv s0 n F (((M.set j .gone).set f (.fam (Bs ++ [.arr e sz m L]))).set p (.mpd ks (l.set q (.farr f Bs.length)))) a w := by
  obtain ⟨h0, s, rfl, rfl, h3, h4, h5, h6⟩ := h
  have hlen := h3.ok.len
  have hfl := (List.getElem?_eq_some_iff.1 hf).1
  have hjl := (List.getElem?_eq_some_iff.1 hj).1
  have hpl := (List.getElem?_eq_some_iff.1 hM).1
  have hpj : p ≠ j := fun e => by subst e; rw [hM] at hj; cases hj
  have hpf : p ≠ f := fun e => by subst e; rw [hM] at hf; cases hf
  obtain ⟨x, hx⟩ : ∃ x, s.β[f]? = some x := ⟨_, List.getElem?_eq_getElem (by omega)⟩
  obtain ⟨y, hy⟩ : ∃ y, s.β[j]? = some y := ⟨_, List.getElem?_eq_getElem (by omega)⟩
  obtain ⟨z, hz⟩ : ∃ z, s.β[p]? = some z := ⟨_, List.getElem?_eq_getElem (by omega)⟩
  obtain ⟨hs, rfl, hfo⟩ := h3.ok.blk f _ x hf hx
  have tt := tr_abs (B := .arr e sz m L) h3.ok hf hj rfl hx hy
  obtain ⟨s1, e1⟩ : ∃ s1 : St, s1 = ⟨s.β.set f (.tuple (hs ++ [y]).toArray), s.I, (s.M.set j .gone).set f (.fam (Bs ++ [.arr e sz m L])), s.w⟩ := ⟨_, rfl⟩
  have tt : Tr s s1 := by rw [e1]; exact tt
  have hM1 : s1.M = (s.M.set j .gone).set f (.fam (Bs ++ [.arr e sz m L])) := by rw [e1]
  have hw1 : s1.w = s.w := by rw [e1]
  have hp1 : s1.M[p]? = some (.mpd ks l) := by rw [hM1, List.getElem?_set_ne (Ne.symm hpf), List.getElem?_set_ne (Ne.symm hpj)]; exact hM
  have hz1 : s1.β[p]? = some z := by rw [e1]; show (s.β.set f _)[p]? = _; rw [List.getElem?_set_ne (Ne.symm hpf)]; exact hz
  have hpl1 : p < s1.M.length := (List.getElem?_eq_some_iff.1 hp1).1
  have hset : s1.β.set p z = s1.β := by
    have h1 : p < s1.β.length := by rw [tt.ok.len]; exact hpl1
    have h2 : s1.β[p] = z := by
      have := List.getElem?_eq_getElem h1
      rw [hz1] at this
      exact (Option.some.inj this).symm
    rw [← h2]
    exact List.set_getElem_self ..
  obtain ⟨b, vs, k1, k2, k3, k4⟩ := tt.ok.blk p _ z hp1 hz1
  have hql := (List.getElem?_eq_some_iff.1 hq).1
  have t2 : Tr s1 ⟨s1.β, s1.I, s1.M.set p (.mpd ks (l.set q (.farr f Bs.length))), s1.w⟩ := by
    have hst := step_set tt.ok p s1.M z (.mpd ks (l.set q (.farr f Bs.length))) s1.w rfl (fun i k h => .inl h) hpl1 (.inr (.inl hz1)) (by rw [k1]; simp) ?_ (fun b' hb' j' kj hj' hne h1 h2 h3' h4' => ?_) (fun b' hb' => .inr (live_of hp1 rfl hz1 hb')) (fun b' hb' => (tt.ok.lt b' (live_of hp1 rfl hz1 hb')).1) (fun _ => False) (fun _ h => h.elim) (fun b' hlt hne _ => rfl) rfl rfl rfl (Nat.le_refl _)
    · rw [hset] at hst
      exact hst
    · refine ⟨b, vs, k1, k2, ⟨by simp [k3.1], by simp [k3.2]⟩, fun j' d v g1 g2 => ?_⟩
      rw [hset]
      have lift : ∀ {d v}, Rep s1 d v → Rep ⟨s1.β, s1.I, s1.M.set p (.mpd ks (l.set q (.farr f Bs.length))), s1.w⟩ d v := fun hr =>
        Rep.mono' (s := s1) (s' := ⟨s1.β, s1.I, s1.M.set p (.mpd ks (l.set q (.farr f Bs.length))), s1.w⟩) (fun _ _ h _ => h) (fun _ h => h) (fun _ _ => rfl) hr
      by_cases e : q = j'
      · subst e
        rw [List.getElem?_set_self hql] at g1
        cases g1
        refine lift ?_
        have hr := k4 q _ v hq g2
        have hy1 : s1.β[j]? = some y := by
          have hjf : f ≠ j := fun e => by subst e; rw [hf] at hj; cases hj
          rw [e1]; show (s.β.set f _)[j]? = _; rw [List.getElem?_set_ne hjf]; exact hy
        cases hr with
        | @arr _ ad n' c hβ =>
          rw [hy1] at hβ
          obtain rfl := Option.some.inj hβ
          refine .farr (hs := hs ++ [.slice ad n' c]) (by rw [e1]; show (s.β.set f _)[f]? = _; rw [List.getElem?_set_self (by omega)]) ?_
          rw [List.getElem?_append_right (by rw [hfo.len]; exact Nat.le_refl _), hfo.len, Nat.sub_self]
          rfl
      · rw [List.getElem?_set_ne e] at g1
        exact lift (k4 j' d v g1 g2)
    · exact hne (tt.ok.inj j' p kj _ hj' _ b' h1 h2 h3' h4' hp1 rfl hz1 hb')
  refine ⟨h0, ⟨s1.β, s1.I, s1.M.set p (.mpd ks (l.set q (.farr f Bs.length))), s1.w⟩, by rw [hM1], hw1, (h3.trans tt).trans t2, fun x d hd => ((h4 x d hd).mono h3.ok tt).mono tt.ok t2, h5, (h6.mono h3.ok tt).mono tt.ok t2⟩
theorem dwp_absd {c : Code} {F : Fr} {M M' : List Blk} {K : Cont} (p q f : Nat) {j : Nat} {ks : List Int} {e : TypeId} {l l' : List D} {sz m : Nat} {L : List Value} {Bs : List Mem} (hM : M[p]? = some (.mpd ks l)) (hq : l[q]? = some (.arr j)) (hj : M[j]? = some (.arr e sz m L)) (hf : M[f]? = some (.fam Bs)) (hl : l.set q (.farr f Bs.length) = l') (hM' : ((M.set j .gone).set f (.fam (Bs ++ [.arr e sz m L]))).set p (.mpd ks l') = M') (h : dwp P s0 n c F M' K) : dwp P s0 n c F M K := by
  subst hM' hl
  exact fun a w hh => h a w (inv_absd hh hM hq hj hf)
end
theorem sb_mpd {α : Type} {τ : List Nat} {ks : List Int} {f g : α → D} {l : List α} (h : ∀ a, sb τ (f a) = some (g a)) : sbB τ (.mpd ks (l.flatMap fun a => [f a])) = some (.mpd ks (l.flatMap fun a => [g a])) := by
  show (sbL τ _).map _ = _
  rw [sbL_flatG h]; rfl
theorem names_at {f : Nat} {nn : List Nat} {j k : Nat} (h : nn[j]? = some k) : (nn.flatMap fun k => [D.farr f k])[j]? = some (.farr f k) := by rw [flat_map1, List.getElem?_map, h]; rfl
theorem names_set {f : Nat} {nn : List Nat} {j k : Nat} : (nn.flatMap fun k => [D.farr f k]).set j (.farr f k) = (nn.set j k).flatMap fun k => [D.farr f k] := by rw [flat_map1, flat_map1, List.map_set]
theorem names_new {f i : Nat} {nn : List Nat} : ((nn.flatMap fun k => [D.farr f k]) ++ [D.arr i])[nn.length]? = some (.arr i) := by rw [flat_map1, List.getElem?_append_right (by simp)]; simp
theorem names_add {f i k : Nat} {nn : List Nat} : ((nn.flatMap fun k => [D.farr f k]) ++ [D.arr i]).set nn.length (.farr f k) = (nn ++ [k]).flatMap fun k => [D.farr f k] := by
  rw [flat_map1, flat_map1, List.set_append_right _ _ (by simp)]
  simp
theorem Wk.slc0 (sz : Nat) : Wk (.val (.slice none 0 0)) (.slc sz 0 []) := fun s v hr => by
  cases hr with
  | val => exact .slc (by simp) (Nat.zero_le _) (fun _ => rfl) (.inl rfl)
end Go.Proofs.YtfnhckildfbikaaGreat
namespace Go.Proofs.YtfnhckildfbikaaGreat
set_option linter.unusedVariables false
set_option linter.unusedSimpArgs false
open Go.RowKit
/-- the number of a key -/
def intOf' : Value → Int
  | .int _ a => a
  | _ => 0
/-- whatever an element is, it reads as one thing -/
def anyR (v : Value) : Option (DataW Unit × List MemPlace) := some (.lit (.bool true), [])
theorem entsI_keys : ∀ (ks : List Int) (vs : List Value) (o : Nat), vs.length = ks.length → (entsI o ks vs).map (·.key) = ks.map (Value.int .i64)
  | [], [], o, _ => rfl
  | [], _ :: _, o, h => by simp at h
  | _ :: _, [], o, h => by simp at h
  | a :: ks, b :: vs, o, h => by rw [entsI, List.map_cons, List.map_cons, entsI_keys ks vs (o + 1) (by simpa using h)]
theorem entsI_born_lt : ∀ (ks : List Int) (vs : List Value) (o : Nat) (e : MapEntry), e ∈ entsI o ks vs → e.born < o + ks.length := fun ks vs o e h => by
  obtain ⟨p, k, v, h1, h2, rfl⟩ := entsI_mem ks vs o e h
  have := (List.getElem?_eq_some_iff.1 h1).1
  show o + p < _
  omega
theorem owns_keys {P : Program} {K : TypeId} (hK : P.underlying K = some (.int .i64)) {w : World} {b : Nat} {ks : List Int} {vs : List Value} (hl : vs.length = ks.length) (hn : ks.Nodup) (hmax : ks.length ≤ maxLen) (hr : ∀ k ∈ ks, (Lit.int .i64 k).wf = true) (h : w.heap[b]? = some (.map (entsI 0 ks vs).toArray ks.length)) :
    ∃ D0 : DataW Unit, w.ownsMap P K anyR b ks.length D0 ∧ (intKeys D0).Perm ks ∧ Maps.size D0 = ks.length := by
  have hlen : (entsI 0 ks vs).length = ks.length := by have := congrArg List.length (entsI_keys ks vs 0 hl); simpa using this
  have hrd : ∀ x ∈ entsI 0 ks vs, Go.WideElems.rd P K anyR x = some (.int .i64 (intOf' x.key), .lit (.bool true)) := fun x hx => by
    obtain ⟨p, k, v, h1, h2, rfl⟩ := entsI_mem ks vs 0 x hx
    have hk : keyOf P K (.int .i64 k) = some (.int .i64 k) := Maps.keyOf_int_mk hK (hr k (List.mem_of_getElem? h1))
    unfold Go.WideElems.rd
    rw [hk]
    rfl
  refine ⟨_, ⟨_, _, h, ⟨by simpa [hlen] using hmax, ⟨fun x hx => ?_, (entsI_born ks vs 0).2, ?_⟩, fun x hx => ⟨_, hrd x (by simpa using hx)⟩⟩, by simp [hlen], rfl⟩, ?_, ?_⟩
  · have := entsI_born_lt ks vs 0 x (by simpa using hx)
    omega
  · show ((entsI 0 ks vs).map (·.key)).Nodup
    rw [entsI_keys ks vs 0 hl]
    exact List.pairwise_map.2 (hn.imp fun hne e => hne (by simpa using e))
  · show ((((entsI 0 ks vs).toArray.toList.map (Go.WideElems.rg P K anyR)).foldr DataW.insert []).map fun p => Go.intOf p.1).Perm ks
    refine ((Go.WideShapes.sorted_perm _).map _).trans ?_
    rw [List.map_map]
    refine List.Perm.of_eq ?_
    have e1 : ∀ x ∈ entsI 0 ks vs, Go.intOf (Go.WideElems.rg P K anyR x).1 = intOf' x.key := fun x hx => by rw [Go.WideElems.rg, hrd x hx]; rfl
    show List.map _ (entsI 0 ks vs) = ks
    rw [List.map_congr_left (g := fun x => intOf' x.key) e1]
    have e2 := congrArg (List.map intOf') (entsI_keys ks vs 0 hl)
    rw [List.map_map, List.map_map] at e2
    refine e2.trans ?_
    show ks.map (fun k => k) = ks
    simp
  · show (((entsI 0 ks vs).toArray.toList.map (Go.WideElems.rg P K anyR)).foldr DataW.insert []).length = _
    rw [(Go.WideShapes.sorted_perm _).length_eq]
    simp [hlen]
/-- slices.Sorted of maps.Keys of a map -/
theorem sortedKeys_d {P : Program} {f g : FuncId} {Tm T : TypeId} {ks : List Int} {l : List D} (B : Blk) (hcb : callB P f = true)
    (hS : ∀ (Bm b : Nat) (vs : List Value) (w : World), w.cell? ⟨Bm, 0, none⟩ = some (.map (some b)) → Bm < w.heap.size → vs.length = ks.length → w.heap[b]? = some (.map (entsI 0 ks vs).toArray ks.length) → Calls P f #[.func (.func g) #[] #[.pointer (some ⟨Bm, 0, none⟩)]] w fun e w' =>
      ∃ (v : Value) (ss : List Int), e = .returned v ∧ ss.Perm ks ∧ w'.ownsRow w.heap.size T 1 v ss.length ((ss.mergeSort leI).map encZ) ∧ Below w.heap.size w w') :
    DFun P f [.fn (.func g) [] [.loc 0 0]] [.mix Tm [.hnd 1], .mpd ks l, B] (.arr 3) [.mix Tm [.hnd 1], .mpd ks l, B, .arr T 1 ks.length ((ks.mergeSort leI).map encZ)] := by
  refine ⟨hcb, fun s vs hok hM hr => ?_⟩
  have hM0 : s.M[0]? = some (.mix Tm [.hnd 1]) := by rw [hM]; rfl
  have hM1 : s.M[1]? = some (.mpd ks l) := by rw [hM]; rfl
  obtain ⟨hvl, hr⟩ := hr
  match vs, hvl, hr with
  | [v0], _, hr =>
    have r0 := hr 0 _ v0 rfl rfl
    cases r0 with
    | @fn _ _ _ fs us e1 e2 e3 e4 =>
      have z1 : fs = [] := List.eq_nil_of_length_eq_zero (by simpa using e1)
      subst z1
      match us, e2, e4 with
      | [u], _, e4 =>
        have ru := e4 0 _ u rfl rfl
        cases ru with
        | @loc _ _ Bm hβ =>
          obtain ⟨b', us, q1, q2, q3, q4⟩ := hok.blk 0 _ _ hM0 hβ
          cases q1
          match us, q3, q4 with
          | [m], _, q4 =>
            have rm := q4 0 _ m rfl rfl
            obtain ⟨b, vs, rfl, hβ1, hob, hl, _⟩ := mpd_at hok hM1 rm
            have hlv : Live s Bm := live_of hM0 rfl hβ rfl
            refine (hS Bm b vs s.w (by simp [World.cell?, q2]) (hok.lt Bm hlv).1 (by omega) hob).mono ?_
            rintro e w' ⟨v, ss, rfl, hp, hrow, hbel⟩
            have t1 := step_hole hok
            obtain ⟨s1, hs1⟩ : ∃ s1 : St, s1 = ⟨s.β ++ [.nilFunc], s.I, s.M ++ [.hole], s.w⟩ := ⟨_, rfl⟩
            rw [← hs1] at t1
            have m1 : s1.M = [.mix Tm [.hnd 1], .mpd ks l, B, .hole] := by rw [hs1, hM]; rfl
            have hlb : s.β.length = 3 := by rw [hok.len, hM]; rfl
            have b2 : s1.β[3]? = some .nilFunc := by rw [hs1]; show (s.β ++ [_])[3]? = _; rw [List.getElem?_append_right (by omega), hlb]; rfl
            have w1 : s1.w = s.w := by rw [hs1]
            have hms : (ss.mergeSort leI) = ks.mergeSort leI := mergeSort_of_perm_i hp
            have hln : ss.length = ks.length := hp.length_eq
            rw [hms, hln] at hrow
            have hvn : v ≠ .nilFunc := by rcases hrow.2 with ⟨rfl, _⟩ | ⟨g, cap, cur, rfl, _⟩ <;> simp
            have hvb : ∀ c, owns (.arr T 1 ks.length ((ks.mergeSort leI).map encZ)) v c → s.w.heap.size ≤ c ∧ c < w'.heap.size := fun c hc => by
              have hc : hb v = some c := hc
              rcases hrow.2 with ⟨rfl, _⟩ | ⟨g, cap, cur, rfl, h2, h3, _⟩
              · cases hc
              · cases hc; exact ⟨h2, (Array.getElem?_eq_some_iff.1 h3).1⟩
            have t2 := step_set t1.ok 3 s1.M v (.arr T 1 ks.length ((ks.mergeSort leI).map encZ)) w' rfl (fun _ _ h => .inl h) (by rw [m1]; exact Nat.lt_succ_self 3) (.inl b2) hvn
              (by
                show w'.ownsRow 0 T 1 v ks.length _
                refine ⟨hrow.1, hrow.2.imp id ?_⟩
                rintro ⟨g, cap, cur, h1, h2, h3⟩
                exact ⟨g, cap, cur, h1, Nat.zero_le _, h3⟩)
              (fun c hc i k h hne h1 h2 h3 h4 => by
                have hlt := (t1.ok.lt c (live_of h1 h2 h3 h4)).1
                rw [w1] at hlt
                exact absurd (hvb c hc).1 (Nat.not_le.2 hlt))
              (fun c hc => .inl (by rw [w1]; exact (hvb c hc).1)) (fun c hc => (hvb c hc).2) (fun _ => False) (fun _ h => h.elim)
              (fun c hc _ _ => by rw [w1] at hc ⊢; exact hbel.block c hc) (by rw [w1]; exact hbel.os) (by rw [w1]; exact hbel.tape) (by rw [w1]; exact hbel.output) (by rw [w1]; exact hbel.size)
            refine ⟨_, rfl, t1.trans t2, .inl ⟨_, v, rfl, ?_, rfl, by show s1.M.set 3 _ = _; rw [m1]; rfl⟩⟩
            rcases hrow.2 with ⟨rfl, h0⟩ | ⟨g, cap, cur, rfl, _⟩
            · exact .arr (a := none) (n := 0) (c := 0) (by show (s1.β.set 3 _)[3]? = _; rw [List.getElem?_set_self (by rw [hs1]; simp [hlb])])
            · exact .arr (by show (s1.β.set 3 _)[3]? = _; rw [List.getElem?_set_self (by rw [hs1]; simp [hlb])])
end Go.Proofs.YtfnhckildfbikaaGreat
