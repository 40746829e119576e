/- Structs of data: built, in rows, looked at, stored; Arguments that are structs, or slices of such, whose fields hold slices, opened.  but the kernel's look at the types; Parts of structs of data that hold plain values; Families: memory of one's own with a symbolic number of blocks: a row joins a family; rows of a family measured, looked into, written; Families, looked into and written; rows of names; appends of what is one's own; Structs of data that stay: boxed; arrays in them, looked into and cut; A nil slice in a cell of a variable, taken over as a row of one's own that holds data; What is known of a value, told otherwise: nil slices as rows of nothing, plain structs as lists of cells; Memory that nobody asks for any more; a row of data that is given up by the operation that makes it; Arrays of words that are values, read at a place; cells at a place that is not known; Rows of familie. No condition. -/
import Derived.Test.YtbcnaacgillhcaaGreatQ2
import Derived.Test.YtbcnaacgillhcaaGreatRows
namespace Go.Proofs.YtbcnaacgillhcaaGreat
set_option linter.unusedVariables false
set_option linter.unusedSimpArgs false
open Go.RowKit
/-- the cells of data -/
def D.cs : D → List D
  | .agg l => l
  | .val v => v.cells.toList.map .val
  | d => [d]
/-- what has cells of its own -/
def D.c1 : D → Bool
  | .opt _ _ => false
  | .tup _ => false
  | .junk => false
  | .hnd _ => false
  | _ => true
/-- what stands in one cell -/
def D.oc2 : D → Bool
  | .slf _ _ _ => true
  | .slm _ _ _ => true
  | .arr _ => true
  | .farr _ _ => true
  | .floc _ _ _ => true
  | .fn _ _ _ => true
  | .val u => u.oneCell'
  | _ => false
theorem oc2_one {s : St} {d : D} {v : Value} (h : Rep s d v) (hd : d.oc2 = true) : v.oneCell' = true := by
  cases h with
  | val v => exact hd
  | slf => rfl
  | slm => rfl
  | arr => rfl
  | fn => rfl
  | farr => rfl
  | floc => rfl
  | _ => cases hd
theorem cs_rep {s : St} {d : D} {v : Value} (h : Rep s d v) (hd : d.c1 = true) : Reps s d.cs v.cells.toList := by
  have h0 := h
  cases h with
  | val v =>
    refine ⟨by simp [D.cs], fun j e u h1 h2 => ?_⟩
    simp only [D.cs, List.getElem?_map, h2, Option.map_some] at h1
    cases h1
    exact .val u
  | agg hl h => exact ⟨hl, h⟩
  | opt => cases hd
  | tup => cases hd
  | junk => cases hd
  | hnd => cases hd
  | _ =>
    refine ⟨rfl, fun j e u h1 h2 => ?_⟩
    cases j with
    | zero => simp [D.cs, Value.cells] at h1 h2; subst h1 h2; exact h0
    | succ j => simp [D.cs, Value.cells] at h1
def setD : List D → Nat → List D → List D
  | Z, _, [] => Z
  | Z, p, d :: r => setD (Z.set p d) (p + 1) r
def fillD (offs : List (Nat × Nat)) : List D → List (Nat × List D) → List D
  | Z, [] => Z
  | Z, (i, C) :: r => fillD offs (setD Z ((offs.getD i (0, 0)).1) C) r
def fillBD (offs : List (Nat × Nat)) (n : Nat) : List (Nat × List D) → Bool
  | [] => true
  | (i, C) :: r => (match offs[i]? with | some (o, s) => C.length == s && Nat.ble (o + s) n | none => false) && fillBD offs n r
theorem reps_set {s : St} {Z : List D} {vz : List Value} (h : Reps s Z vz) {d : D} {v : Value} (hd : Rep s d v) (p : Nat) : Reps s (Z.set p d) (vz.set p v) := by
  refine ⟨by simp [h.1], fun j e u h1 h2 => ?_⟩
  by_cases e1 : p = j
  · subst e1
    by_cases hp : p < Z.length
    · rw [List.getElem?_set_self hp] at h1
      rw [List.getElem?_set_self (by rw [h.1]; exact hp)] at h2
      cases h1; cases h2; exact hd
    · rw [List.getElem?_eq_none (by simp; omega)] at h1; cases h1
  · rw [List.getElem?_set_ne e1] at h1 h2
    exact h.2 j e u h1 h2
theorem reps_setD {s : St} : ∀ (C : List D) (vc : List Value) (Z : List D) (vz : List Value) (p : Nat), Reps s C vc → Reps s Z vz → Reps s (setD Z p C) (setL vz p vc)
  | [], [], Z, vz, p, _, hz => by rw [setL_nil]; exact hz
  | d :: C, v :: vc, Z, vz, p, hc, hz => by
    rw [setD, setL]
    exact reps_setD C vc _ _ _ ⟨by simpa using hc.1, fun j e u h1 h2 => hc.2 (j + 1) e u (by simpa using h1) (by simpa using h2)⟩ (reps_set hz (hc.2 0 d v rfl rfl) p)
  | [], v :: vc, _, _, _, hc, _ => by have := hc.1; simp at this
  | d :: C, [], _, _, _, hc, _ => by have := hc.1; simp at this
theorem reps_fill {s : St} (offs : List (Nat × Nat)) (n : Nat) : ∀ (is : List Nat) (Cs : List (List D)) (vs : List (List Value)) (Z : List D) (vz : List Value), (∀ (j : Nat) C v, Cs[j]? = some C → vs[j]? = some v → Reps s C v) → Cs.length = vs.length → Reps s Z vz → fillBD offs n (is.zip Cs) = true →
    Reps s (fillD offs Z (is.zip Cs)) (fillL offs vz (is.zip vs)) ∧ fillB offs n (is.zip vs) = true
  | [], Cs, vs, Z, vz, _, _, hz, _ => by simpa [fillD, fillL, fillB] using hz
  | i :: is, [], vs, Z, vz, _, hl, hz, _ => by
    have : vs = [] := by cases vs with | nil => rfl | cons => simp at hl
    subst this
    simpa [fillD, fillL, fillB] using hz
  | i :: is, C :: Cs, [], Z, vz, _, hl, _, _ => by simp at hl
  | i :: is, C :: Cs, v :: vs, Z, vz, hc, hl, hz, hb => by
    simp only [List.zip_cons_cons, fillBD, Bool.and_eq_true] at hb
    simp only [List.zip_cons_cons, fillD, fillL, fillB, Bool.and_eq_true]
    have h0 := hc 0 C v rfl rfl
    obtain ⟨r1, r2⟩ := reps_fill offs n is Cs vs _ _ (fun j C v h1 h2 => hc (j + 1) C v (by simpa using h1) (by simpa using h2)) (by simpa using hl) (reps_setD C v Z vz _ h0 hz) hb.2
    refine ⟨r1, ?_, r2⟩
    rw [h0.1]
    exact hb.1
theorem reps_vals {s : St} (L : List Value) : Reps s (L.map .val) L := by
  refine ⟨by simp, fun j e u h1 h2 => ?_⟩
  rw [List.getElem?_map, h2] at h1
  cases h1
  exact .val u
theorem reps_app3 {s : St} {d1 d2 : List D} {v1 v2 : List Value} (h1 : Reps s d1 v1) (h2 : Reps s d2 v2) : Reps s (d1 ++ d2) (v1 ++ v2) := by
  refine ⟨by simp [h1.1, h2.1], fun j d v hd hv => ?_⟩
  by_cases hj : j < d1.length
  · rw [List.getElem?_append_left hj] at hd
    rw [List.getElem?_append_left (by rw [h1.1]; exact hj)] at hv
    exact h1.2 j d v hd hv
  · rw [List.getElem?_append_right (by omega)] at hd
    rw [List.getElem?_append_right (by rw [h1.1]; omega), h1.1] at hv
    exact h2.2 _ d v hd hv
theorem reps_cs {s : St} : ∀ (ds : List D) (vs : List Value), Reps s ds vs → ds.all D.c1 = true → Reps s (ds.flatMap D.cs) (vs.flatMap fun v => v.cells.toList)
  | [], [], _, _ => ⟨rfl, fun j e u h1 h2 => by simp at h1⟩
  | d :: ds, v :: vs, h, hc => by
    rw [List.all_cons, Bool.and_eq_true] at hc
    rw [List.flatMap_cons, List.flatMap_cons]
    exact reps_app3 (cs_rep (h.2 0 d v rfl rfl) hc.1) (reps_cs ds vs ⟨by simpa using h.1, fun j e u h1 h2 => h.2 (j + 1) e u (by simpa using h1) (by simpa using h2)⟩ hc.2)
  | [], v :: vs, h, _ => by have := h.1; simp at this
  | d :: ds, [], h, _ => by have := h.1; simp at this
theorem flatM_len' {α β : Type} {en : α → List β} {sz : Nat} (hen : ∀ a, (en a).length = sz) : ∀ l : List α, (l.flatMap en).length = l.length * sz
  | [] => by simp
  | a :: l => by rw [List.flatMap_cons, List.length_append, hen, flatM_len' hen l, List.length_cons, Nat.succ_mul]; omega
section
variable {P : Program} {pc : Bool} {o : Oper} {F : Fr} {M : List Blk}
theorem op_bldD {T : TypeId} {ps : List (Nat × Operand)} {ds R : List D} {offs : List (Nat × Nat)} {Z : List Value} (ho : o.op = .build T ps.toArray) (hT : fdL P T = some offs) (hZ : zrC P T = some Z) (hv : EvL pc F (ps.map (·.2)) ds) (hc : ds.all D.c1 = true)
    (hB : fillBD offs Z.length ((ps.map (·.1)).zip (ds.map D.cs)) = true) (hR : fillD offs (Z.map .val) ((ps.map (·.1)).zip (ds.map D.cs)) = R) : DOp P pc o F M [] (.agg R) [] := by
  intro hp a s hok hops _
  obtain ⟨r1, r2⟩ := evL_reps (a := a) (s := s) hp _ _ hv (fun x hx => hops x (by rw [ho]; simpa [Op.operands] using hx))
  have hf := reps_fill (s := s) offs Z.length (ps.map (·.1)) (ds.map D.cs) (((ps.map (·.2)).map a.eval).map fun v => v.cells.toList) (Z.map .val) Z (fun j C v h1 h2 => by
      rw [List.getElem?_map] at h1 h2
      simp only [Option.map_eq_some_iff] at h1 h2
      obtain ⟨d, h1, rfl⟩ := h1
      obtain ⟨u, h2, rfl⟩ := h2
      exact cs_rep (r2 j d u h1 h2) (List.all_eq_true.1 hc _ (List.mem_of_getElem? h1))) (by rw [List.length_map, List.length_map]; exact r1.symm) (reps_vals Z) hB
  rw [hR] at hf
  exact dg_val hok (run_build (P := P) (a := a) (w := s.w) ho hT hZ rfl hf.2 rfl) (.agg hf.1.1 hf.1.2)
/-- an array of listed parts -/
theorem op_bldaD {T : TypeId} {ps : List (Nat × Operand)} {ds R : List D} {q : Nat × Nat} {Z : List Value} (ho : o.op = .build T ps.toArray) (hT : arE P T = some q) (hZ : zrC P T = some Z) (hv : EvL pc F (ps.map (·.2)) ds) (hc : ds.all D.c1 = true) (hi : (ps.map (·.1)).all (fun i => Nat.blt i q.1) = true)
    (hB : fillBD ((List.range q.1).map fun i => (i * q.2, q.2)) Z.length ((ps.map (·.1)).zip (ds.map D.cs)) = true) (hR : fillD ((List.range q.1).map fun i => (i * q.2, q.2)) (Z.map .val) ((ps.map (·.1)).zip (ds.map D.cs)) = R) : DOp P pc o F M [] (.agg R) [] := by
  intro hp a s hok hops _
  obtain ⟨r1, r2⟩ := evL_reps (a := a) (s := s) hp _ _ hv (fun x hx => hops x (by rw [ho]; simpa [Op.operands] using hx))
  obtain ⟨i, z, e1, e2, e3⟩ := zrC_spec hZ
  obtain ⟨el, i', g1, g2, g3⟩ := arE_spec (n := q.1) (sz := q.2) hT
  have hf := reps_fill (s := s) ((List.range q.1).map fun i => (i * q.2, q.2)) Z.length (ps.map (·.1)) (ds.map D.cs) (((ps.map (·.2)).map a.eval).map fun v => v.cells.toList) (Z.map .val) Z (fun j C v h1 h2 => by
      rw [List.getElem?_map] at h1 h2
      simp only [Option.map_eq_some_iff] at h1 h2
      obtain ⟨d, h1, rfl⟩ := h1
      obtain ⟨u, h2, rfl⟩ := h2
      exact cs_rep (r2 j d u h1 h2) (List.all_eq_true.1 hc _ (List.mem_of_getElem? h1))) (by rw [List.length_map, List.length_map]; exact r1.symm) (reps_vals Z) hB
  rw [hR] at hf
  obtain ⟨vs, hvs⟩ : ∃ vs, vs = (ps.map (·.2)).map a.eval := ⟨_, rfl⟩
  rw [← hvs] at hf
  obtain ⟨W, hW⟩ : ∃ W, fillL ((List.range q.1).map fun i => (i * q.2, q.2)) Z ((ps.map (·.1)).zip (vs.map fun v => v.cells.toList)) = W := ⟨_, rfl⟩
  rw [hW] at hf
  refine dg_val (v := .agg W.toArray) hok ?_ (.agg hf.1.1 hf.1.2)
  have hparts : (ps.toArray.map fun (i, x) => (i, a.eval x)).toList = (ps.map (·.1)).zip vs := by
    rw [hvs]
    simp only [List.map_toArray]
    clear hv hB hR hvs ho hi hf hW r1 r2
    induction ps with
    | nil => rfl
    | cons p ps ih => simp only [List.map_cons, List.zip_cons_cons]; rw [← ih]
  have hz : ((ps.map (·.1)).zip vs).map (fun p => (p.1, p.2.cells.toList)) = (ps.map (·.1)).zip (vs.map fun v => v.cells.toList) := by
    rw [List.zip_map_right]
    rfl
  have hf2 := fill_struct (offs := (List.range q.1).map fun i => (i * q.2, q.2)) ((ps.map (·.1)).zip vs) z.cells (by rw [hz, ← Array.length_toList, e3]; exact hf.2)
  rw [hz, e3, hW] at hf2
  have hcg : Instr.fill (fun i => some (i * i'.size, i'.size)) z.cells ((ps.map (·.1)).zip vs) = some W.toArray := by
    rw [← hf2]
    refine fill_congr _ _ fun x hx => ?_
    have hm : x.1 ∈ ps.map (·.1) := (List.of_mem_zip (show (x.1, x.2) ∈ _ from hx)).1
    have := Nat.blt_eq.mp (List.all_eq_true.1 hi _ hm)
    rw [g3]
    simp [this]
  unfold execOp
  simp only [ho]
  refine run_v ?_
  have hz0 : (zeroValue T).run P s.w = .ok z s.w := by simp [zeroValue, typeInfo, e1, e2]
  simp only [Instr.build, Sem.run_bind, hz0, run_underlying g1, Result.andThen_ok, sizeOf, typeInfo, hparts]
  simp [g2, hcg]
/-- a slice of structs of data, that stays as it is made -/
theorem op_bsr {T e : TypeId} {n sz by' : Nat} {ps : List (Nat × Operand)} {ds R : List D} {Z : List Value} (ho : o.op = .buildSlice T n ps.toArray) (hT : slE P T = some (e, sz, by')) (hZ : zrC P e = some Z) (hi : ps.map (·.1) = List.range' 0 n) (hv : EvL pc F (ps.map (·.2)) ds) (hc : ds.all D.c1 = true) (hs : ds.all (fun d => d.cs.length == sz) = true)
    (hR : ds.flatMap D.cs = R) (hnl : D.nlL R = true) (hl : R.length = n * sz) (hn : n ≤ 16777216) (hn2 : n * sz ≤ 16777216) : DOp P pc o F M [] (.slm sz n R) [] := by
  intro hp a s hok hops _
  have hr := evL_reps (a := a) (s := s) hp _ _ hv (fun x hx => hops x (by rw [ho]; simpa [Op.operands] using hx))
  obtain ⟨vs, hvs⟩ : ∃ vs, vs = (ps.map (·.2)).map a.eval := ⟨_, rfl⟩
  rw [← hvs] at hr
  have hcs := reps_cs ds vs hr hc
  rw [hR] at hcs
  have hcell : ∀ v ∈ vs, v.cells.size = sz := fun v hv' => by
    obtain ⟨j, hj, rfl⟩ := List.getElem_of_mem hv'
    have hj2 : j < ds.length := by have := hr.1; omega
    have h1 := (cs_rep (hr.2 j _ _ (List.getElem?_eq_getElem hj2) (List.getElem?_eq_getElem hj)) (List.all_eq_true.1 hc _ (List.getElem_mem hj2))).1
    have h2 := List.all_eq_true.1 hs _ (List.getElem_mem hj2)
    simp only [beq_iff_eq] at h2
    rw [h2] at h1
    simpa using h1
  have hrun := run_buildSlice (P := P) (w := s.w) ho hT hZ hi hvs.symm hcell hn2
  have ht := step_imm hok (.cells (vs.flatMap fun v => v.cells.toList).toArray e)
  refine dg_step (s' := ⟨s.β, fun b => s.I b ∨ b = s.w.heap.size, s.M, _⟩) hrun ht rfl (.slm hnl hl (Nat.le_refl _) (by unfold maxLen; omega) (fun e => by cases e) hcs.1 (fun j d v h1 h2 => (hcs.2 j d v h1 h2).mono hok ht) (.inr ⟨_, 0, rfl, .inr rfl, ?_⟩))
  simpa using cellsAt_block (heap_alloc_new s.w _) 0
/-- an element of a slice of structs -/
theorem op_ixmd {T e : TypeId} {x y : Operand} {k : IntKind} {z : Int} {n sz by' : Nat} {ds R : List D} (j : Nat) (hpos : 0 < sz) (ho : o.op = .indexAddr T x y) (hT : slE P T = some (e, sz, by')) (hx : Ev pc F x (.slm sz n ds)) (hy : Ev pc F y (.val (.int k z))) (hz : pc = true → z = (j : Int)) (hj : pc = true → j < n) (hR : (ds.drop (j * sz)).take sz = R) : DOp P pc o F M [] (.dpm R) [] := by
  intro hp a s hok hops _
  have hr := ev_at hp hx (by simp [ho, Op.operands]) hops
  have h2 := (ev_at hp hy (by simp [ho, Op.operands]) hops).val_eq
  have hj := hj hp
  rw [hz hp] at h2
  generalize hv : a.eval x = vx at hr
  cases hr with
  | @slm _ _ cap ad _ vs hnl hl hn hc ha hvl h hm =>
    rcases hm with hm | ⟨b, q, rfl, hI, hcl⟩
    · rw [hm] at hl
      have : 0 < n * sz := Nat.mul_pos (by omega) hpos
      simp at hl
      omega
    · have hrun := run_index_sl (P := P) (w := s.w) ho hT hv h2 (by omega) (by omega)
      rw [Addr.add_mid, Int.toNat_natCast] at hrun
      subst hR
      refine dg_val hok hrun (.dpm (vs := (vs.drop (j * sz)).take sz) (nlL_take _ (nlL_drop _ hnl)) hI (cellsAt_sub hcl _ _) (by rw [List.length_take, List.length_drop, List.length_take, List.length_drop, hvl]) (fun i d' v h1 h2 => ?_))
      rw [List.getElem?_take] at h1 h2
      split at h1
      · rename_i hi
        rw [if_pos hi] at h2
        rw [List.getElem?_drop] at h1 h2
        exact h _ d' v h1 h2
      · cases h1
theorem op_ixmr {α : Type} {mk : α → List D} {l : List α} {T e : TypeId} {x y : Operand} {k : IntKind} {z : Int} {sz by' : Nat} (j : Nat) (hpos : 0 < sz) (ho : o.op = .indexAddr T x y) (hT : slE P T = some (e, sz, by')) (hx : Ev pc F x (.slm sz l.length (l.flatMap mk))) (hy : Ev pc F y (.val (.int k z))) (hz : pc = true → z = (j : Int)) (hj : j < l.length) (hmk : ∀ a, (mk a).length = sz) : DOp P pc o F M [] (.dpm (mk l[j])) [] :=
  op_ixmd j hpos ho hT hx hy hz (fun _ => hj) (by rw [flatM_drop hmk, List.drop_eq_getElem_cons hj, List.flatMap_cons, List.take_left' (hmk _)])
/-- a struct, whole, in memory that stays -/
theorem op_lddr {T : TypeId} {x : Operand} {k : Nat} {ld R : List D} (ho : o.op = .load T x) (hT : tyB P T = some (true, k)) (hx : Ev pc F x (.dpm ld)) (hR : ld.take k = R) (hl : R.length = k) : DOp P pc o F M [] (.agg R) [] := by
  intro hp a s hok hops hfp
  have hr := ev_at hp hx (by simp [ho, Op.operands]) hops
  generalize hv : a.eval x = vx at hr
  cases hr with
  | @dpm b q _ vs hnl hI hc hvl h =>
    subst hR
    have hr := cellsAt_range hc 0 k (R := vs.take k) (by simp)
    have hlv : (vs.take k).length = k := by rw [List.length_take] at hl ⊢; omega
    refine dg_val hok (run_load_row ho hT hv (by simpa using hr) hlv) (.agg (by rw [hlv, hl]) (fun j d v h1 h2 => ?_))
    rw [List.getElem?_take] at h1 h2
    split at h1
    · rename_i hi
      rw [if_pos hi] at h2
      exact h j d v h1 h2
    · cases h1
/-- .. in a row of one's own -/
theorem op_ldxr {α : Type} {mk : α → List D} {l : List α} {T T' : TypeId} {x : Operand} {i j sz n : Nat} (ho : o.op = .load T x) (hT : tyB P T = some (true, sz)) (hx : Ev pc F x (.aloc i (j * sz))) (hM : M[i]? = some (.arx T' sz n (l.flatMap mk))) (hmk : ∀ a, (mk a).length = sz) (hj : j < l.length) : DOp P pc o F M [i] (.agg (mk l[j])) [] := by
  intro hp a s hok hops hfp
  have hr := ev_at hp hx (by simp [ho, Op.operands]) hops
  generalize hv : a.eval x = vx at hr
  cases hr with
  | @aloc _ _ n' c b h =>
    obtain ⟨_, hl, _, _, vs, q3, hc, q4⟩ := arx_cells hok (by rw [hfp i (by simp)]; exact hM) h
    have hR := cellsAt_range hc (j * sz) sz (R := (vs.drop (j * sz)).take sz) rfl
    have hm : ((l.flatMap mk).drop (j * sz)).take sz = mk l[j] := by rw [flatM_drop hmk, List.drop_eq_getElem_cons hj, List.flatMap_cons, List.take_left' (hmk _)]
    have hlen : ((vs.drop (j * sz)).take sz).length = sz := by
      have h8 := congrArg List.length hm
      rw [hmk, List.length_take, List.length_drop] at h8
      rw [List.length_take, List.length_drop, q3]
      exact h8
    rw [Nat.zero_add] at hR
    refine dg_val hok (run_load_row ho hT hv hR hlen) (.agg (by rw [hlen, hmk]) fun p d v h1 h2 => ?_)
    rw [← hm] at h1
    rw [List.getElem?_take] at h1 h2
    split at h1
    · rename_i hi
      rw [if_pos hi] at h2
      rw [List.getElem?_drop] at h1 h2
      exact q4 _ d v h1 h2
    · cases h1
/-- .. stored there -/
theorem op_stxr {α : Type} {mk : α → List D} {l : List α} {q : α} {T T' : TypeId} {x y : Operand} {i j sz n : Nat} {rw' : Bool} (ho : o.op = .store T x y) (hT : tyB P T = some (rw', sz)) (hx : Ev pc F x (.aloc i (j * sz))) (hy : Ev pc F y (.agg (mk q))) (hM : M[i]? = some (.arx T' sz n (l.flatMap mk))) (hmk : ∀ a, (mk a).length = sz) (hj : j < l.length) (h1 : (mk q).all D.oc2 = true) :
    DOp P pc o F M [i] .junk [(i, .arx T' sz n ((l.set j q).flatMap mk))] := by
  intro hp a s hok hops hfp
  have hr := ev_at hp hx (by simp [ho, Op.operands]) hops
  have hry := ev_at hp hy (by simp [ho, Op.operands]) hops
  have hM' : s.M[i]? = some (.arx T' sz n (l.flatMap mk)) := by rw [hfp i (by simp)]; exact hM
  generalize hv : a.eval x = vx at hr
  generalize hvy : a.eval y = vy at hry
  cases hr with
  | @aloc _ _ n' c b h =>
    cases hry with
    | @agg _ us hul hu =>
      obtain ⟨vs, hk, q3, q4⟩ := hok.blk i _ _ hM' h
      rcases hk.2 with ⟨e1, e2⟩ | ⟨g, cap, cur, e1, e2, e3, e4, e5, e6, e7⟩
      · cases e1
      · cases e1
        have hflat : (l.flatMap mk).length = l.length * sz := flatM_len' hmk l
        have hle := Nat.mul_le_mul_right sz e4
        have hjs : (j + 1) * sz ≤ l.length * sz := Nat.mul_le_mul_right _ hj
        rw [Nat.succ_mul] at hjs
        have hlV := hk.1
        have husz : us.length = sz := by rw [hul, hmk]
        have hcell := cellsAt_block e3 0
        have hoc : ∀ u ∈ us, u.oneCell' = true := fun u hu' => by
          obtain ⟨p, hp', rfl⟩ := List.getElem_of_mem hu'
          have hp2 : p < (mk q).length := by omega
          exact oc2_one (hu p _ _ (List.getElem?_eq_getElem hp2) (List.getElem?_eq_getElem hp')) (List.all_eq_true.1 h1 _ (List.getElem_mem hp2))
        have hcurlen : cur.toList.length = c * sz := by simpa using e6
        have hrun := run_store (P := P) (w := s.w) (C := us) ho hT hv hvy rfl husz (fun p hp' => by
            have := hcell (j * sz + p) _ (by simpa using List.getElem?_eq_getElem (by simp at hcurlen ⊢; omega : j * sz + p < cur.toList.length))
            rw [Nat.zero_add] at this
            rw [this]; rfl) (fun p hp' => by simp [World.frozen?, e3]) hoc
        have hβ : s.β.set i (.slice (some ⟨b, 0, none⟩) n c) = s.β := by
          apply List.ext_getElem?
          intro k
          by_cases e : i = k
          · subst e; rw [List.getElem?_set_self (List.getElem?_eq_some_iff.1 h).1, h]
          · rw [List.getElem?_set_ne e]
        have lift : ∀ {e : D} {v : Value}, Rep s e v → Rep ⟨s.β.set i (.slice (some ⟨b, 0, none⟩) n c), s.I, s.M.set i (.arx T' sz n ((l.set j q).flatMap mk)), s.w.setCells b (j * sz) us⟩ e v := by
          intro e v hr
          refine Rep.mono' (s := s) (s' := ⟨s.β.set i (.slice (some ⟨b, 0, none⟩) n c), s.I, s.M.set i (.arx T' sz n ((l.set j q).flatMap mk)), s.w.setCells b (j * sz) us⟩) (fun k x hk _ => by show (s.β.set i _)[k]? = _; rw [hβ]; exact hk) (fun _ h => h) (fun b' hI => setCells_other b _ _ s.w b' fun e => ?_) hr
          subst e
          exact (hok.lt b' (live_of hM' rfl h rfl)).2 hI
        refine dg_skip (s' := ⟨s.β.set i (.slice (some ⟨b, 0, none⟩) n c), s.I, s.M.set i (.arx T' sz n ((l.set j q).flatMap mk)), s.w.setCells b (j * sz) us⟩) hrun (tr_store hok hM' rfl h rfl _ us ?_) rfl
        have hsl := setL_len us cur.toList (j * sz)
        refine ⟨setL vs (j * sz) us, ⟨by rw [setL_len]; exact hlV, .inr ⟨b, c, (setL cur.toList (j * sz) us).toArray, rfl, e2, setCells_block b us _ s.w cur.toList T' (by simpa using e3), e4, e5, by simp [hsl]; simpa using e6, ?_⟩⟩, ?_, ?_⟩
        · rw [setL_eq us cur.toList _ (by omega), setL_eq us vs _ (by omega)]
          have hcut : cur.toList = vs ++ cur.toList.drop vs.length := by
            have := List.take_append_drop (n * sz) cur.toList
            rw [e7, ← hlV] at this
            exact this.symm
          generalize cur.toList.drop vs.length = R at hcut
          rw [hcut]
          have t1 : (vs ++ R).take (j * sz) = vs.take (j * sz) := List.take_append_of_le_length (by omega)
          have t2 : (vs ++ R).drop (j * sz + us.length) = vs.drop (j * sz + us.length) ++ R := List.drop_append_of_le_length (by omega)
          rw [t1, t2, ← hlV, ← List.append_assoc]
          refine List.take_left' ?_
          simp; omega
        · rw [setL_len, q3, hflat, flatM_len' hmk, List.length_set]
        · have key : ((l.set j q).flatMap mk) = (l.flatMap mk).take (j * sz) ++ mk q ++ (l.flatMap mk).drop (j * sz + sz) := by
            rw [flatM_take hmk, show j * sz + sz = (j + 1) * sz by rw [Nat.succ_mul], flatM_drop hmk, List.set_eq_take_append_cons_drop, if_pos hj, List.flatMap_append, List.flatMap_cons, List.append_assoc]
          rw [key, setL_eq us vs _ (by omega), husz]
          have hA : Reps ⟨s.β.set i (.slice (some ⟨b, 0, none⟩) n c), s.I, s.M.set i (.arx T' sz n ((l.flatMap mk).take (j * sz) ++ mk q ++ (l.flatMap mk).drop (j * sz + sz))), s.w.setCells b (j * sz) us⟩ ((l.flatMap mk).take (j * sz) ++ mk q ++ (l.flatMap mk).drop (j * sz + sz)) (vs.take (j * sz) ++ us ++ vs.drop (j * sz + sz)) := by
            rw [key] at lift
            refine reps_app3 (reps_app3 ⟨by simp [q3], fun p d v g1 g2 => ?_⟩ ⟨hul, fun p d v g1 g2 => lift (hu p d v g1 g2)⟩) ⟨by simp [q3], fun p d v g1 g2 => ?_⟩
            · rw [List.getElem?_take] at g1 g2
              split at g1
              · rename_i hp'
                rw [if_pos hp'] at g2
                exact lift (q4 p d v g1 g2)
              · cases g1
            · rw [List.getElem?_drop] at g1 g2
              exact lift (q4 _ d v g1 g2)
          exact hA.2
/-- the first structs of a row that stays, with no room behind them -/
theorem op_sl3m {α : Type} {mk : α → List D} {r : List α} {T e : TypeId} {sz by' : Nat} {x hi mx : Operand} {k k' : IntKind} {h h' : Int} {j : Nat} (ho : o.op = .slice T x none (some hi) (some mx)) (hT : slE P T = some (e, sz, by')) (hx : Ev pc F x (.slm sz r.length (r.flatMap mk))) (hhi : Ev pc F hi (.val (.int k h))) (hmx : Ev pc F mx (.val (.int k' h')))
    (hh : pc = true → h = (j : Int)) (hm : pc = true → h' = (j : Int)) (hj : pc = true → j ≤ r.length) (hmk : ∀ a, (mk a).length = sz) : DOp P pc o F M [] (.slm sz (r.take j).length ((r.take j).flatMap mk)) [] := by
  intro hp a s hok hops _
  have hr := ev_at hp hx (by simp [ho, Op.operands]) hops
  have e1 := (ev_at hp hhi (by simp [ho, Op.operands]) hops).val_eq
  have e2 := (ev_at hp hmx (by simp [ho, Op.operands]) hops).val_eq
  rw [hh hp] at e1
  rw [hm hp] at e2
  have hjl := hj hp
  obtain ⟨q1, ti, q2, q3, q4⟩ := slE_spec hT
  have hlen : (r.take j).length = j := by rw [List.length_take]; omega
  have hfl : (r.take j).flatMap mk = (r.flatMap mk).take (j * sz) := by rw [flatM_take hmk]
  generalize hv : a.eval x = vx at hr
  cases hr with
  | @slm _ _ cap ad _ vs hnl hl hn hc ha hvl hel hL =>
    have hjc : j ≤ cap := by omega
    have hrun : (execOp a.eval o).run P s.w = .ok (.value (.slice ad j j)) s.w := by
      unfold execOp
      simp only [ho, hv, Option.map_some, Option.map_none, e1, e2]
      refine run_v ?_
      have hj0 : (0 : Int) ≤ (j : Int) ∧ (j : Int) ≤ (cap : Int) := by omega
      simp [Instr.sliceAt, Instr.slice, run_underlying q1, Sem.run_bind, Instr.sliceBounds, Instr.sliceBound, asIntOf, hjc, sizeOf, typeInfo, q2, Addr.add_zero']
    refine dg_val hok hrun ?_
    rw [hlen, hfl]
    refine .slm (vs := vs.take (j * sz)) (nlL_take _ hnl) (by rw [← hfl, flatM_len' hmk, hlen]) (Nat.le_refl _) (by omega) (fun e => by have := ha e; omega) (by simp [hvl]) (fun p d v g1 g2 => ?_) ?_
    · rw [List.getElem?_take] at g1 g2
      split at g1
      · rename_i hp'
        rw [if_pos hp'] at g2
        exact hel p d v g1 g2
      · cases g1
    · rcases hL with hL | ⟨b, q, e, hI, hcl⟩
      · left; rw [hL]; simp
      · right
        refine ⟨b, q, e, hI, ?_⟩
        have h5 := cellsAt_sub hcl 0 (j * sz)
        simpa using h5
/-- append onto a row of one's own that holds structs of data -/
theorem op_appr {T e : TypeId} {by' sz n m i j : Nat} {x y : Operand} {l l2 : List D} {Z : List Value} (ho : o.op = .call { callee := .builtin .append, args := #[x, y], argTypes := #[T, T] }) (hT : slE P T = some (e, sz, by')) (hZ : zrC P e = some Z) (hZl : Z.length = sz)
    (hx : Ev pc F x (.arr i)) (hy : Ev pc F y (.slm sz m l2)) (hM : M[i]? = some (.arx e sz n l)) (hj : M[j]? = some .hole) (h1 : l2.all D.oc2 = true) (hbd : pc = true → (n + m) * by' ≤ 140737488355328 ∧ n + m ≤ 140737488355328) :
    DOp P pc o F M [i, j] (.arr j) [(i, .gone), (j, .arx e sz (n + m) (l ++ l2))] := by
  intro hp a s hok hops hfp
  obtain ⟨e1, ti, e2, e3, e4⟩ := slE_spec hT
  obtain ⟨ti', z, q1, q2, q3⟩ := zrC_spec hZ
  rw [e2] at q1
  obtain rfl := Option.some.inj q1
  obtain ⟨b1, b2⟩ := hbd hp
  have hM' : s.M[i]? = some (.arx e sz n l) := by rw [hfp i (by simp)]; exact hM
  have hj' : s.M[j]? = some .hole := by rw [hfp j (by simp)]; exact hj
  have hij : i ≠ j := fun h => by subst h; rw [hM'] at hj'; cases hj'
  have hjl : j < s.β.length := by rw [hok.len]; exact (List.getElem?_eq_some_iff.1 hj').1
  have hrx := ev_at hp hx (by simp [ho, Op.operands, Call.operands]) hops
  have hry := ev_at hp hy (by simp [ho, Op.operands, Call.operands]) hops
  generalize hv : a.eval x = vx at hrx
  generalize hvy : a.eval y = vy at hry
  cases hry with
  | @slm _ _ cap2 a2 _ vs2 hnl2 hl2 hn2 hc2 ha2 hvl2 hel2 hm2 =>
  have hso : SrcOk s (.slice a2 m cap2) m vs2 := by
    refine ⟨a2, cap2, rfl, ?_⟩
    cases a2 with
    | none =>
      have := ha2 rfl
      exact .inl ⟨rfl, by omega, this, List.eq_nil_of_length_eq_zero (by rw [hvl2, hl2, show m = 0 by omega, Nat.zero_mul])⟩
    | some ad =>
      refine .inr ⟨ad, rfl, fun k u hk => ?_⟩
      rcases hm2 with e | ⟨b, q, e, hI, hcl⟩
      · rw [e] at hvl2
        rw [List.eq_nil_of_length_eq_zero hvl2] at hk
        simp at hk
      · cases e
        rw [Addr.add_mid]
        exact hcl k u hk
  have hone : ∀ u ∈ vs2, u.oneCell' = true := fun u hu => by
    obtain ⟨k, hk, rfl⟩ := List.getElem_of_mem hu
    have hk2 : k < l2.length := by omega
    exact oc2_one (hel2 k _ _ (List.getElem?_eq_getElem hk2) (List.getElem?_eq_getElem hk)) (List.all_eq_true.1 h1 _ (List.getElem_mem hk2))
  cases hrx with
  | @arr _ ad n' c hβ =>
    obtain ⟨vs, hk, hvl, hel⟩ := hok.blk i _ _ hM' hβ
    obtain ⟨h', w', r1, r2, r3, r4⟩ := run_append_D (P := P) (ty := o.type) (m := m) e1 e2 e3 e4 q2 (by rw [← hZl, ← q3]; simp) hk (by rw [hvl2]; exact hl2) hso hone (by unfold maxLen; omega) b1
    have hs' : (h' = .slice none 0 0) ∨ ∃ a n c, h' = .slice (some a) n c := by
      rcases r2.2 with ⟨q, _⟩ | ⟨g, cap, cur, q, _⟩
      · exact .inl q
      · exact .inr ⟨_, _, _, q⟩
    have hs0 : (Value.slice ad n' c = .slice none 0 0) ∨ ∃ a n k, Value.slice ad n' c = .slice (some a) n k := by
      rcases hk.2 with ⟨q, _⟩ | ⟨g, cap, cur, q, _⟩
      · exact .inl q
      · exact .inr ⟨_, _, _, q⟩
    have o1 := hb_own hs'
    have o0 := hb_own hs0
    have hblk : s.w.heap.size ≤ w'.heap.size := r3.size
    have hβj : s.β[j]? = some .nilFunc := by
      have q : s.β[j]? = some s.β[j] := List.getElem?_eq_getElem hjl
      have : s.β[j] = .nilFunc := hok.blk j .hole _ hj' q
      rw [q, this]
    have from_ : ∀ b, hb h' = some b → s.w.heap.size ≤ b ∨ (hb (Value.slice ad n' c) = some b) := by
      intro b hbb
      rw [o1] at hbb
      rcases r4 b hbb with h | h
      · exact .inr (by rw [o0]; exact h)
      · exact .inl h
    have hnd' : ∀ (k : Nat) h, s.β[k]? = some h → h ≠ .nilFunc → (s.β.set j h')[k]? = some h := fun k h hk' hne => by
      by_cases e : j = k
      · subst e; rw [hβj] at hk'; exact absurd (Option.some.inj hk').symm hne
      · rw [List.getElem?_set_ne e]; exact hk'
    have imm' : ∀ b, s.I b → w'.heap[b]? = s.w.heap[b]? := fun b hI => r3.block b (hok.il b hI) fun h => by
      rw [← o0] at h
      exact (hok.lt b (live_of hM' rfl hβ h.symm)).2 hI
    have hblkx : BlkOk ⟨s.β.set j h', s.I, (s.M.set i .gone).set j (.arx e sz (n + m) (l ++ l2)), w'⟩ h' (.arx e sz (n + m) (l ++ l2)) := by
      refine ⟨vs ++ vs2, r2, by simp [hvl, hvl2], fun k d v hk1 hk2 => ?_⟩
      by_cases hlt : k < l.length
      · rw [List.getElem?_append_left hlt] at hk1
        rw [List.getElem?_append_left (by omega)] at hk2
        exact Rep.mono' (s' := ⟨s.β.set j h', s.I, (s.M.set i .gone).set j (.arx e sz (n + m) (l ++ l2)), w'⟩) hnd' (fun _ h => h) imm' (hel k d v hk1 hk2)
      · rw [List.getElem?_append_right (by omega)] at hk1 hk2
        rw [hvl] at hk2
        exact Rep.mono' (s' := ⟨s.β.set j h', s.I, (s.M.set i .gone).set j (.arx e sz (n + m) (l ++ l2)), w'⟩) hnd' (fun _ h => h) imm' (hel2 _ d v hk1 hk2)
    have ht : Tr s ⟨s.β.set j h', s.I, (s.M.set i .gone).set j (.arx e sz (n + m) (l ++ l2)), w'⟩ := by
      refine step_set hok j (s.M.set i .gone) h' _ w' (by simp) (fun k kb hkb => ?_) (by rw [← hok.len]; exact hjl) (.inl hβj) (by rcases hs' with rfl | ⟨_, _, _, rfl⟩ <;> simp) hblkx (fun b hbb k kb hh hne q1 q2 q3 q4 => ?_) (fun b hbb => (from_ b hbb).imp id fun h => live_of hM' rfl hβ h) (fun b hbb => ?_) (fun b => hb (Value.slice ad n' c) = some b) (fun b hdr => ⟨live_of hM' rfl hβ hdr, fun k kb hh hne q1 q2 q3 q4 => ?_⟩) (fun b hlt hne hnd => ?_) r3.os r3.tape r3.output hblk
      · by_cases hki : i = k
        · subst hki
          have hlt : i < s.M.length := (List.getElem?_eq_some_iff.1 hM').1
          rw [List.getElem?_set_self hlt] at hkb
          exact .inr (Option.some.inj hkb).symm
        · rw [List.getElem?_set_ne hki] at hkb; exact .inl hkb
      · have hki : i ≠ k := fun h => by
          subst h
          have hlt : i < s.M.length := (List.getElem?_eq_some_iff.1 hM').1
          rw [List.getElem?_set_self hlt] at q1
          cases q1; cases q2
        rw [List.getElem?_set_ne hki] at q1
        rcases from_ b hbb with h | h
        · exact absurd (hok.lt b (live_of q1 q2 q3 q4)).1 (Nat.not_lt.2 h)
        · exact hki (hok.inj i k _ kb _ hh b hM' rfl hβ h q1 q2 q3 q4)
      · replace hbb : hb h' = some b := hbb
        rw [o1] at hbb
        exact (r2.lt b hbb).2
      · have hki : i ≠ k := fun h => by
          subst h
          have hlt : i < s.M.length := (List.getElem?_eq_some_iff.1 hM').1
          rw [List.getElem?_set_self hlt] at q1
          cases q1; cases q2
        rw [List.getElem?_set_ne hki] at q1
        exact hki (hok.inj i k _ kb _ hh b hM' rfl hβ hdr q1 q2 q3 q4)
      · exact r3.block b hlt fun h => hnd (by rw [o0]; exact h.symm)
    refine dg_step (s' := ⟨s.β.set j h', s.I, (s.M.set i .gone).set j (.arx e sz (n + m) (l ++ l2)), w'⟩) (run_builtin ho (fun cs => by rfl) (by simpa [hv, hvy] using r1)) ht rfl ?_
    rcases hs' with rfl | ⟨_, _, _, rfl⟩
    · exact .arr (by simp [hjl])
    · exact .arr (by simp [hjl])
end
section
variable {P : Program} {s0 : St} {n : Cx}
theorem inv_givem {F : Fr} {M : List Blk} {a : Act} {w : World} {T e : TypeId} {p q i sz m : Nat} {l ds : List D} (h : Inv s0 n F M a w) (hM : M[p]? = some (.mix T l)) (hq : l[q]? = some (.arr i)) (hi : M[i]? = some (.arx e sz m ds)) (hnl : D.nlL ds = true) : Inv s0 n F ((M.set i .gone).set p (.mix T (l.set q (.slm sz m ds)))) a w := by
  obtain ⟨h0, s, rfl, rfl, h3, h4, h5, h6⟩ := h
  have hpl : p < s.M.length := (List.getElem?_eq_some_iff.1 hM).1
  have hil : i < s.M.length := (List.getElem?_eq_some_iff.1 hi).1
  have hpi : p ≠ i := fun e => by subst e; rw [hM] at hi; cases hi
  have hpl' : p < s.β.length := by rw [h3.ok.len]; exact hpl
  have hil' : i < s.β.length := by rw [h3.ok.len]; exact hil
  have hβi : s.β[i]? = some s.β[i] := List.getElem?_eq_getElem (by rw [h3.ok.len]; exact hil)
  have hβp : s.β[p]? = some s.β[p] := List.getElem?_eq_getElem (by rw [h3.ok.len]; exact hpl)
  obtain ⟨b, vs, e1, e2, e3, e4⟩ := h3.ok.blk p _ _ hM hβp
  obtain ⟨us, hk, q3, q4⟩ := h3.ok.blk i _ _ hi hβi
  have hql : q < l.length := (List.getElem?_eq_some_iff.1 hq).1
  -- the value in that cell is the handle
  have hcell : vs[q]? = some s.β[i] := by
    have hv : vs[q]? = some vs[q] := List.getElem?_eq_getElem (by omega)
    have := e4 q _ _ hq hv
    rw [hv]
    generalize vs[q] = x at this
    cases this with
    | arr h => exact h.symm.trans hβi
  -- the row stays from now on, or is nil
  have main : ∃ I' : Nat → Prop, Tr s ⟨s.β, I', s.M.set i .gone, s.w⟩ ∧ Rep ⟨s.β, I', s.M.set i .gone, s.w⟩ (.slm sz m ds) s.β[i] := by
    rcases hk.2 with ⟨g1, g2⟩ | ⟨g, cap, cur, g1, g2, g3', g4, g5, g6, g7⟩
    · subst g2
      have hl0 : ds = [] := List.eq_nil_of_length_eq_zero (by rw [← q3, hk.1, Nat.zero_mul])
      refine ⟨s.I, ?_, ?_⟩
      · have hnd : ∀ (i : Nat) h, s.β[i]? = some h → h ≠ .nilFunc → s.β[i]? = some h := fun _ _ h _ => h
        have old : ∀ (j : Nat) k, (s.M.set i .gone)[j]? = some k → k = .gone ∨ s.M[j]? = some k := fun j k hj => by
          by_cases e : i = j
          · subst e
            rw [List.getElem?_set_self hil] at hj
            exact .inl (Option.some.inj hj).symm
          · rw [List.getElem?_set_ne e] at hj; exact .inr hj
        have lv : ∀ b, Live ⟨s.β, s.I, s.M.set i .gone, s.w⟩ b → Live s b := by
          rintro b ⟨j, k, h, h1, h2, h3, h4⟩
          rcases old j k h1 with rfl | h1
          · cases h2
          · exact live_of h1 h2 h3 h4
        refine ⟨⟨by simp [h3.ok.len], fun j k h h1 h2 => ?_, fun b hb => h3.ok.lt b (lv b hb), ?_, h3.ok.il⟩, hkeep_of hnd, fun _ h => h, fun _ h => .inl h, fun _ _ _ => rfl, fun b h => .inr (lv b h), rfl, rfl, rfl, Nat.le_refl _⟩
        · rcases old j k h1 with rfl | h1
          · trivial
          · exact BlkOk.mono (s := s) (s' := ⟨s.β, s.I, s.M.set i .gone, s.w⟩) hnd (fun _ h => h) (fun _ _ => rfl) (h3.ok.blk j k h h1 h2) (fun _ _ _ => rfl)
        · intro j j2 k k2 x x2 b a1 a2 a3 a4 c1 c2 c3 c4
          rcases old j k a1 with rfl | a1
          · cases a2
          · rcases old j2 k2 c1 with rfl | c1
            · cases c2
            · exact h3.ok.inj j j2 k k2 x x2 b a1 a2 a3 a4 c1 c2 c3 c4
      · rw [g1, hl0]
        exact .slm (vs := []) rfl (by simp) (Nat.le_refl _) (Nat.zero_le _) (fun _ => rfl) rfl (fun j d v h => by simp at h) (.inl rfl)
    · have tt := tr_give h3.ok hi rfl hβi (show hb s.β[i] = some g by rw [g1]; rfl) s.w (fun _ _ => rfl) rfl rfl rfl rfl
      refine ⟨_, tt, ?_⟩
      rw [g1]
      refine .slm (vs := us) hnl (by rw [← q3]; exact hk.1) g4 g5 (fun e => by cases e) q3 (fun j d v hj hv => (q4 j d v hj hv).mono h3.ok tt) (.inr ⟨g, 0, rfl, .inr rfl, ?_⟩)
      have hc := cellsAt_sub (cellsAt_block g3' 0) 0 (m * sz)
      show cellsAt s.w g 0 us
      simpa [g7] using hc
  obtain ⟨I', tt, hrep⟩ := main
  have hM2 : (s.M.set i .gone)[p]? = some (.mix T l) := by rw [List.getElem?_set_ne (Ne.symm hpi)]; exact hM
  have hset : s.β.set p s.β[p] = s.β := List.set_getElem_self ..
  have t2 : Tr ⟨s.β, I', s.M.set i .gone, s.w⟩ ⟨s.β, I', (s.M.set i .gone).set p (.mix T (l.set q (.slm sz m ds))), s.w⟩ := by
    have hst := step_set tt.ok p (s.M.set i .gone) s.β[p] (.mix T (l.set q (.slm sz m ds))) s.w rfl (fun i k h => .inl h) (by simpa using hpl) (.inr (.inl hβp)) (by rw [e1]; simp) ?_ (fun b' hb' j kj hj hne h1 h2 h3' h4' => ?_) (fun b' hb' => .inr (live_of hM2 rfl hβp hb')) (fun b' hb' => (tt.ok.lt b' (live_of hM2 rfl hβp hb')).1) (fun _ => False) (fun _ h => h.elim) (fun b' hlt hne _ => rfl) rfl rfl rfl (Nat.le_refl _)
    · have hst' := hst
      simp only [hset] at hst'
      exact hst'
    · refine ⟨b, vs, e1, e2, by simp [e3], fun j d v g1 g2 => ?_⟩
      have lift : ∀ {d v}, Rep s d v → Rep ⟨s.β.set p s.β[p], I', (s.M.set i .gone).set p (.mix T (l.set q (.slm sz m ds))), s.w⟩ d v := fun hr => by
        rw [hset]
        exact Rep.mono' (s := ⟨s.β, I', s.M.set i .gone, s.w⟩) (s' := ⟨s.β, I', (s.M.set i .gone).set p (.mix T (l.set q (.slm sz m ds))), s.w⟩) (fun _ _ h _ => h) (fun _ h => h) (fun _ _ => rfl) (hr.mono h3.ok tt)
      by_cases e : q = j
      · subst e
        rw [List.getElem?_set_self hql] at g1
        cases g1
        rw [hcell] at g2
        cases g2
        rw [hset]
        exact Rep.mono' (s := ⟨s.β, I', s.M.set i .gone, s.w⟩) (s' := ⟨s.β, I', (s.M.set i .gone).set p (.mix T (l.set q (.slm sz m ds))), s.w⟩) (fun _ _ h _ => h) (fun _ h => h) (fun _ _ => rfl) hrep
      · rw [List.getElem?_set_ne e] at g1
        exact lift (e4 j d v g1 g2)
    · exact hne (tt.ok.inj j p kj _ hj _ b' h1 h2 h3' h4' hM2 rfl hβp hb')
  exact ⟨h0, ⟨s.β, I', (s.M.set i .gone).set p (.mix T (l.set q (.slm sz m ds))), s.w⟩, rfl, rfl, (h3.trans tt).trans t2, fun x d hd => ((h4 x d hd).mono h3.ok tt).mono tt.ok t2, h5, (h6.mono h3.ok tt).mono tt.ok t2⟩
/-- a row of one's own in a struct's cell is given up: it stays from now on -/
theorem dwp_givem {c : Code} {F : Fr} {M M' : List Blk} {K : Cont} (p q : Nat) {T e : TypeId} {i sz m : Nat} {l ds : List D} (hnl : D.nlL ds = true) (hM : M[p]? = some (.mix T l)) (hq : l[q]? = some (.arr i)) (hi : M[i]? = some (.arx e sz m ds)) (hM' : (M.set i .gone).set p (.mix T (l.set q (.slm sz m ds))) = M') (h : dwp P s0 n c F M' K) : dwp P s0 n c F M K := by
  subst hM'
  exact fun a w hj => h a w (inv_givem hj hM hq hi hnl)
end
mutual
/-- data that names no block is the same everywhere -/
theorem vw_nl (σ : List Nat) (V : Nat → Bool) (M : List Blk) : ∀ d : D, d.nl = true → vw σ V M d = some d
  | .val v, _ => rfl
  | .loc i o, h => by cases h
  | .arr i, h => by cases h
  | .aloc i o, h => by cases h
  | .own i sz o n, h => by cases h
  | .dpf L, _ => rfl
  | .slf sz n L, _ => rfl
  | .slc sz n L, _ => rfl
  | .tup l, h => by rw [vw, vwL_nl σ V M l (by simpa [D.nl] using h)]; rfl
  | .agg l, h => by rw [vw, vwL_nl σ V M l (by simpa [D.nl] using h)]; rfl
  | .dpm l, _ => rfl
  | .slm sz n l, _ => rfl
  | .fn f a b, h => by
    rw [D.nl, Bool.and_eq_true] at h
    rw [vw, vwL_nl σ V M a h.1, vwL_nl σ V M b h.2]
  | .ifc t d, h => by rw [vw, vw_nl σ V M d (by simpa [D.nl] using h)]; rfl
  | .opt b d, h => by rw [vw, vw_nl σ V M d (by simpa [D.nl] using h)]; rfl
  | .hnd i, h => by cases h
  | .yld i, h => by cases h
  | .junk, _ => rfl
theorem vwL_nl (σ : List Nat) (V : Nat → Bool) (M : List Blk) : ∀ l : List D, D.nlL l = true → vwL σ V M l = some l
  | [], _ => rfl
  | d :: l, h => by
    rw [D.nlL, Bool.and_eq_true] at h
    rw [vwL, vw_nl σ V M d h.1, vwL_nl σ V M l h.2]
end
mutual
theorem sb_nl (τ : List Nat) : ∀ d : D, d.nl = true → sb τ d = some d
  | .val v, _ => rfl
  | .loc i o, h => by cases h
  | .arr i, h => by cases h
  | .aloc i o, h => by cases h
  | .own i sz o n, h => by cases h
  | .dpf L, _ => rfl
  | .slf sz n L, _ => rfl
  | .slc sz n L, _ => rfl
  | .tup l, h => by rw [sb, sbL_nl τ l (by simpa [D.nl] using h)]; rfl
  | .agg l, h => by rw [sb, sbL_nl τ l (by simpa [D.nl] using h)]; rfl
  | .dpm l, _ => rfl
  | .slm sz n l, _ => rfl
  | .fn f a b, h => by
    rw [D.nl, Bool.and_eq_true] at h
    rw [sb, sbL_nl τ a h.1, sbL_nl τ b h.2]
  | .ifc t d, h => by rw [sb, sb_nl τ d (by simpa [D.nl] using h)]; rfl
  | .opt b d, h => by rw [sb, sb_nl τ d (by simpa [D.nl] using h)]; rfl
  | .hnd i, h => by cases h
  | .yld i, h => by cases h
  | .junk, _ => rfl
theorem sbL_nl (τ : List Nat) : ∀ l : List D, D.nlL l = true → sbL τ l = some l
  | [], _ => rfl
  | d :: l, h => by
    rw [D.nlL, Bool.and_eq_true] at h
    rw [sbL, sb_nl τ d h.1, sbL_nl τ l h.2]
end
theorem nlL_app' : ∀ {a b : List D}, D.nlL a = true → D.nlL b = true → D.nlL (a ++ b) = true
  | [], _, _, h => h
  | d :: a, b, h, h' => by
    rw [D.nlL, Bool.and_eq_true] at h
    rw [List.cons_append, D.nlL, h.1, nlL_app' h.2 h']
    rfl
theorem nlL_flatR {α : Type} {mk : α → List D} (h : ∀ a, D.nlL (mk a) = true) : ∀ l : List α, D.nlL (l.flatMap mk) = true
  | [] => rfl
  | a :: l => by rw [List.flatMap_cons]; exact nlL_app' (h a) (nlL_flatR h l)
theorem arxr_fits {σ : List Nat} {V : Nat → Bool} {M : List Blk} {T : TypeId} {sz n n' : Nat} {l l' : List D} (hn : n = n') (h : l = l') (hv : D.nlL l' = true) : (vwL σ V M l).map (Blk.arx T sz n) = some (Blk.arx T sz n' l') := by
  subst hn h
  rw [vwL_nl σ V M l hv]
  rfl
theorem sb_arxr {τ : List Nat} {T : TypeId} {sz n : Nat} {l : List D} (h : D.nlL l = true) : sbB τ (.arx T sz n l) = some (.arx T sz n l) := by
  show (sbL τ l).map _ = _
  rw [sbL_nl τ l h]; rfl
section
variable {P : Program} {pc : Bool} {o : Oper} {F : Fr} {M : List Blk} {T : TypeId} {x y : Operand} {n : Nat} {k : IntKind} {z : Int} {j : Nat}
/-- an array whose elements have one cell -/
def arW (P : Program) (T : TypeId) : Option Nat := match P.underlying T with
  | some (.array n e) => match tyB P e with
    | some (false, 1) => some n
    | _ => none
  | _ => none
theorem arW_spec (h : arW P T = some n) : ∃ e, P.underlying T = some (.array n e) ∧ tyB P e = some (false, 1) := by
  unfold arW at h
  split at h
  · rename_i m e hu
    split at h
    · rename_i hs; cases h; exact ⟨e, hu, hs⟩
    · cases h
  · cases h
theorem op_ixw {ds : List D} {d : D} (j : Nat) (ho : o.op = .index T x y) (hT : arW P T = some n) (hx : Ev pc F x (.agg ds)) (hy : Ev pc F y (.val (.int k z))) (hz : pc = true → z = (j : Int)) (hj : j < n) (hd : ds[j]? = some d) : DOp P pc o F M [] d [] := by
  intro hp a s hok hops _
  have hr := ev_at hp hx (by simp [ho, Op.operands]) hops
  have e2 := (ev_at hp hy (by simp [ho, Op.operands]) hops).val_eq
  rw [hz hp] at e2
  obtain ⟨e, hu, he⟩ := arW_spec hT
  obtain ⟨dd, i, h1, h2, h3, h4⟩ := tyB_spec he
  generalize hv : a.eval x = vx at hr
  cases hr with
  | @agg _ vs hvl hel =>
    have hjl : j < vs.length := by rw [hvl]; exact (List.getElem?_eq_some_iff.1 hd).1
    refine dg_val (v := vs[j]) hok ?_ (hel j _ _ hd (List.getElem?_eq_getElem hjl))
    unfold execOp
    simp only [ho, hv, e2]
    refine run_v ?_
    have hagg : (isAgg e).run P s.w = .ok false s.w := by
      unfold isAgg
      rw [Sem.run_bind, run_underlying h1]
      cases dd <;> first | rfl | cases h3
    have hsz : (sizeOf e).run P s.w = .ok 1 s.w := by simp [sizeOf, typeInfo, h2, h4]
    have hb : (0 : Int) ≤ (j : Int) ∧ (j : Int) < (n : Int) := by omega
    unfold Instr.index
    simp only [Sem.run_bind, asIntOf, Sem.run_pure, Result.andThen_ok, run_underlying hu, hb, and_self, if_true, hsz, part, hagg, Int.toNat_natCast, Nat.mul_one]
    simp [hjl]
end
end Go.Proofs.YtbcnaacgillhcaaGreat
namespace Go.Proofs.YtbcnaacgillhcaaGreat
set_option linter.unusedVariables false
set_option linter.unusedSimpArgs false
open Go.ChangeShapes Go.WideShapes Go.ChangeAt Go.RowKit Go.Joins Go.Deep
/-- fields that read as data, from cell o on -/
def OpensF (P : Program) (w : World) {α : Type} (fs : List Field) (o tot : Nat) (mk : α → List D) (ok : α → Prop) : Prop :=
  ∀ (H : Type) (enc : TypeId × Value → H) (base : Nat) (spare : Nat → Bool) (held : Bool) (n : Nat) (cs : List Value), cs.length = tot → (∀ f, f ∈ fs → ∃ x, DataW.trod enc P w base spare held n f.type ((cs.drop f.offset).take (P.cellsOf f.type)) = some x) → ∃ a, ok a ∧ Reps (st0 w) (mk a) (cs.drop o)
section
variable {P : Program} {w : World}
theorem opensF_nil {tot : Nat} : OpensF P w ([] : List Field) tot tot (fun _ : Unit => []) (fun _ => True) := fun H enc base spare held n cs hl _ =>
  ⟨(), trivial, by rw [List.drop_eq_nil_of_le (by omega)]; exact ⟨rfl, fun j d v h => by simp at h⟩⟩
theorem opensF_cons {α β : Type} {f : Field} {fs : List Field} {o k tot : Nat} {mk : α → List D} {mk' : β → List D} {ok : α → Prop} {ok' : β → Prop} (ho : f.offset = o) (hk : P.cellsOf f.type = k) (h : Opens P w f.type mk ok) (h' : OpensF P w fs (o + k) tot mk' ok') :
    OpensF P w (f :: fs) o tot (fun a : α × β => mk a.1 ++ mk' a.2) (fun a => ok a.1 ∧ ok' a.2) := by
  intro H enc base spare held n cs hl hall
  obtain ⟨x, hx⟩ := hall f (List.mem_cons_self ..)
  rw [ho, hk] at hx
  obtain ⟨a, h1, h2⟩ := h H enc base spare held n _ x hx
  obtain ⟨b, h3, h4⟩ := h' H enc base spare held n cs hl fun g hg => hall g (List.mem_cons_of_mem _ hg)
  refine ⟨(a, b), ⟨h1, h3⟩, ?_⟩
  have e : cs.drop o = (cs.drop o).take k ++ cs.drop (o + k) := by rw [← List.drop_drop, List.take_append_drop]
  rw [e]
  exact reps_app2 h2 h4
theorem opens_struct {α : Type} {t : TypeId} {fs : Array Field} {tot : Nat} {mk : α → List D} {ok : α → Prop} (hu : P.underlying t = some (.struct fs)) (ht : P.cellsOf t = tot) (h : OpensF P w fs.toList 0 tot mk ok) : Opens P w t mk ok := by
  intro H enc base spare held n cs x hx
  obtain ⟨xs, m, _, _, hl, hlen, hf⟩ := DataW.trod_struct hu hx
  obtain ⟨a, h1, h2⟩ := h H enc base spare held m cs (by rw [hl, ht]) fun f hfm => by
    obtain ⟨i, hi, rfl⟩ := List.getElem_of_mem hfm
    have hi' : i < fs.size := by simpa using hi
    have h3 := hf i fs[i] (Array.getElem?_eq_getElem hi')
    rw [List.getElem?_eq_getElem (by omega)] at h3
    exact ⟨_, by simpa using h3⟩
  exact ⟨a, h1, by simpa using h2⟩
theorem opens_map {α β : Type} {t : TypeId} {mk : α → List D} {ok : α → Prop} {mk' : β → List D} {ok' : β → Prop} (g : α → β) (h : Opens P w t mk ok) (hm : ∀ a, mk a = mk' (g a)) (ho : ∀ a, ok a → ok' (g a)) : Opens P w t mk' ok' := by
  intro H enc base spare held n cs x hx
  obtain ⟨a, h1, h2⟩ := h H enc base spare held n cs x hx
  exact ⟨g a, ho a h1, by rw [← hm]; exact h2⟩
end
set_option maxRecDepth 100000
/-- a struct among the arguments that opens -/
theorem open_agg {H : Type} {enc : TypeId × Value → H} {w : World} {base : Nat} {spare : Nat → Bool} {held : Bool} {α : Type} {t : TypeId} {fs : Array Field} {mk : α → List D} {ok : α → Prop} {v : Value} {d : DataW H} {p : List MemPlace} {r : Reach} {b0 : Nat} (hu : Tryz.prog.underlying t = some (.struct fs)) (ho : Opens Tryz.prog w t mk ok) (hv : Value.okWide Tryz.prog w r b0 t v) (h : DataW.Trod enc Tryz.prog w base spare held t v d p) :
    ∃ a, ok a ∧ Rep (st0 w) (.agg (mk a)) v := by
  obtain ⟨cs, rfl, hsz⟩ := okWide_struct hu hv
  obtain ⟨fuel, hfu⟩ := h
  obtain ⟨a, hok, hr⟩ := ho H enc base spare held _ _ _ hfu
  have h5 := Rep.agg (s := st0 w) (l := mk a) (vs := cs.toList) hr.1 hr.2
  rw [Array.toArray_toList] at h5
  exact ⟨a, hok, h5⟩
end Go.Proofs.YtbcnaacgillhcaaGreat
namespace Go.Proofs.YtbcnaacgillhcaaGreat
set_option linter.unusedVariables false
set_option linter.unusedSimpArgs false
open Go.RowKit
section
variable {P : Program} {pc : Bool} {o : Oper} {F : Fr} {M : List Blk}
/-- a part of a struct's variable, all of whose cells are plain -/
theorem op_ldmv {T T' : TypeId} {x : Operand} {i p k : Nat} {l : List D} {R : List Value} (ho : o.op = .load T x) (hT : tyB P T = some (true, k)) (hx : Ev pc F x (.loc i p)) (hM : M[i]? = some (.mix T' l)) (hR : (l.drop p).take k = R.map .val) (hl : R.length = k) : DOp P pc o F M [i] (.val (.agg R.toArray)) [] := by
  intro hp a s hok hops hfp
  have hr := ev_at hp hx (by simp [ho, Op.operands]) hops
  generalize hv : a.eval x = vx at hr
  cases hr with
  | @loc _ _ b h =>
    obtain ⟨b', vs, e1, e2, e3, e4⟩ := hok.blk i _ _ (by rw [hfp i (by simp)]; exact hM) h
    cases e1
    have hvs : (vs.drop p).take k = R := by
      have hlen : ((vs.drop p).take k).length = R.length := by
        have h1 := congrArg List.length hR
        rw [List.length_take, List.length_drop, List.length_map] at h1
        rw [List.length_take, List.length_drop, e3, h1]
      refine List.ext_getElem hlen fun j h1 h2 => ?_
      have h3 : ((l.drop p).take k)[j]? = some (.val R[j]) := by rw [hR, List.getElem?_map, List.getElem?_eq_getElem h2]; rfl
      have hjk : j < k := by omega
      rw [List.getElem?_take, if_pos hjk, List.getElem?_drop] at h3
      have h5 : vs[p + j]? = some ((vs.drop p).take k)[j] := by
        have := List.getElem?_eq_getElem h1
        rw [List.getElem?_take, if_pos hjk, List.getElem?_drop] at this
        exact this
      exact (e4 _ _ _ h3 h5).val_eq
    have hc : cellsAt s.w b 0 vs := cellsAt_block e2 0
    have hr := cellsAt_range hc p k hvs
    rw [Nat.zero_add] at hr
    exact dg_val hok (run_load_row ho hT hv hr hl) (.val _)
end
end Go.Proofs.YtbcnaacgillhcaaGreat
namespace Go.Proofs.YtbcnaacgillhcaaGreat
set_option linter.unusedVariables false
set_option linter.unusedSimpArgs false
open Go.RowKit
def Mem.blk : Mem → Blk
  | .gone => .gone
  | .flat T L => .flat T L
  | .arr T sz n L => .arr T sz n L
theorem mem_blk {s : St} {h : Value} {B : Mem} (hk : BlkOk s h B.blk) : MemOk s.w h B := by cases B <;> exact hk
theorem blk_live (B : Mem) : B.blk.live = B.live := by cases B <;> rfl
theorem blk_owns {B : Mem} {h : Value} {b : Nat} : owns B.blk h b ↔ hb h = some b := by cases B <;> exact Iff.rfl
/-- a block joins a family -/
theorem tr_abs {s : St} (ho : Ok s) {i j : Nat} {Bs : List Mem} {B : Mem} {hs : List Value} {h : Value} (hi : s.M[i]? = some (.fam Bs)) (hj : s.M[j]? = some B.blk) (hl : B.live = true) (hβi : s.β[i]? = some (.tuple hs.toArray)) (hβj : s.β[j]? = some h) :
    Tr s ⟨s.β.set i (.tuple (hs ++ [h]).toArray), s.I, (s.M.set j .gone).set i (.fam (Bs ++ [B])), s.w⟩ := by
  have hne : i ≠ j := fun e => by subst e; rw [hi] at hj; cases B <;> cases hj
  have hil := (List.getElem?_eq_some_iff.1 hi).1
  have hjl := (List.getElem?_eq_some_iff.1 hj).1
  have hf := fam_at (k := 0) ho hi hβi
  have hlen := hf.len
  have hm : MemOk s.w h B := mem_blk (ho.blk j _ h hj hβj)
  have other : ∀ b, owns (.fam (Bs ++ [B])) (.tuple (hs ++ [h]).toArray) b → owns (.fam Bs) (.tuple hs.toArray) b ∨ hb h = some b := by
    rintro b ⟨hs', k, B', u, e1, e2, e3, e4, e5⟩
    have e1 : hs ++ [h] = hs' := by simpa using e1
    subst e1
    by_cases hk : k < Bs.length
    · rw [List.getElem?_append_left hk] at e2
      rw [List.getElem?_append_left (by omega)] at e4
      exact .inl ⟨hs, k, B', u, rfl, e2, e3, e4, e5⟩
    · rw [List.getElem?_append_right (by omega)] at e2 e4
      have hk0 : k - hs.length = 0 := by have := (List.getElem?_eq_some_iff.1 e4).1; simp at this; omega
      rw [hk0] at e4
      simp at e4
      subst e4
      exact .inr e5
  have lvi : ∀ b, owns (.fam Bs) (.tuple hs.toArray) b → Live s b := fun b hb => live_of hi rfl hβi hb
  have lvj : ∀ b, hb h = some b → Live s b := fun b hb => live_of hj (by rw [blk_live]; exact hl) hβj (blk_owns.2 hb)
  have ne : ∀ (k : Nat) kb, (s.M.set j .gone)[k]? = some kb → kb.live = true → j ≠ k ∧ s.M[k]? = some kb := fun k kb hkb hlv => by
    by_cases hk : j = k
    · subst hk
      rw [List.getElem?_set_self hjl] at hkb
      cases hkb; cases hlv
    · rw [List.getElem?_set_ne hk] at hkb; exact ⟨hk, hkb⟩
  refine step_set ho i (s.M.set j .gone) _ _ s.w (by simp) (fun k kb hkb => ?_) hil (.inr (.inr ⟨hs, hs ++ [h], hβi, rfl, fun k u hu => ?_⟩)) (by simp) ⟨_, rfl, ?_⟩ (fun b hb k kb hh hne' q1 q2 q3 q4 => ?_) (fun b hb => .inr ((other b hb).elim (lvi b) (lvj b))) (fun b hb => (ho.lt b ((other b hb).elim (lvi b) (lvj b))).1) (fun _ => False) (fun _ h => h.elim) (fun _ _ _ _ => rfl) rfl rfl rfl (Nat.le_refl _)
  · by_cases hk : j = k
    · subst hk
      rw [List.getElem?_set_self hjl] at hkb
      exact .inr (Option.some.inj hkb).symm
    · rw [List.getElem?_set_ne hk] at hkb; exact .inl hkb
  · rw [List.getElem?_append_left (List.getElem?_eq_some_iff.1 hu).1]; exact hu
  · have split : ∀ (k : Nat) B' u, (Bs ++ [B])[k]? = some B' → (hs ++ [h])[k]? = some u → (Bs[k]? = some B' ∧ hs[k]? = some u) ∨ (k = Bs.length ∧ B' = B ∧ u = h) := by
      intro k B' u e2 e4
      by_cases hk : k < Bs.length
      · rw [List.getElem?_append_left hk] at e2
        rw [List.getElem?_append_left (by omega)] at e4
        exact .inl ⟨e2, e4⟩
      · rw [List.getElem?_append_right (by omega)] at e2 e4
        have hk0 : k - Bs.length = 0 := by have := (List.getElem?_eq_some_iff.1 e2).1; simp at this; omega
        rw [show k - hs.length = 0 by omega] at e4
        rw [hk0] at e2
        simp at e2 e4
        exact .inr ⟨by omega, e2.symm, e4.symm⟩
    refine ⟨by simp [hlen], fun k B' u e2 e4 => ?_, fun k k' B1 B2 u1 u2 b e1 l1 e2 e3 f1 l2 f2 f3 => ?_⟩
    · rcases split k B' u e2 e4 with ⟨a, c⟩ | ⟨_, rfl, rfl⟩
      · exact hf.ok k B' u a c
      · exact hm
    · rcases split k B1 u1 e1 e2 with ⟨a, c⟩ | ⟨rfl, rfl, rfl⟩ <;> rcases split k' B2 u2 f1 f2 with ⟨a', c'⟩ | ⟨rfl, rfl, rfl⟩
      · exact hf.inj k k' B1 B2 u1 u2 b a l1 c e3 a' l2 c' f3
      · exact absurd (ho.inj i j _ _ _ _ b hi rfl hβi ⟨hs, k, B1, u1, rfl, a, l1, c, e3⟩ hj (by rw [blk_live]; exact hl) hβj (blk_owns.2 f3)) hne
      · exact absurd (ho.inj i j _ _ _ _ b hi rfl hβi ⟨hs, k', B2, u2, rfl, a', l2, c', f3⟩ hj (by rw [blk_live]; exact hl) hβj (blk_owns.2 e3)) hne
      · rfl
  · obtain ⟨hjk, q1⟩ := ne k kb q1 q2
    rcases other b hb with h1 | h1
    · exact hne' (ho.inj i k _ kb _ hh b hi rfl hβi h1 q1 q2 q3 q4).symm
    · exact hjk (ho.inj j k _ kb _ hh b hj (by rw [blk_live]; exact hl) hβj (blk_owns.2 h1) q1 q2 q3 q4)
/-- an empty family -/
theorem tr_fam {s : St} (ho : Ok s) {j : Nat} (hj : s.M[j]? = some .hole) : Tr s ⟨s.β.set j (.tuple #[]), s.I, s.M.set j (.fam []), s.w⟩ := by
  have hjl : j < s.M.length := (List.getElem?_eq_some_iff.1 hj).1
  have hβ : s.β[j]? = some .nilFunc := by
    have hjb : j < s.β.length := by rw [ho.len]; exact hjl
    have e : s.β[j]? = some s.β[j] := List.getElem?_eq_getElem hjb
    have : s.β[j] = .nilFunc := ho.blk j .hole _ hj e
    rw [e, this]
  have no : ∀ b, ¬ owns (.fam []) (.tuple #[]) b := by
    rintro b ⟨hs, k, B, u, e1, e2, _⟩
    simp at e2
  exact step_set ho j s.M (.tuple #[]) (.fam []) s.w rfl (fun i k h => .inl h) hjl (.inl hβ) (by simp) ⟨[], rfl, rfl, fun k B u h => by simp at h, fun k k' B B' u u' b h => by simp at h⟩ (fun b hb => (no b hb).elim) (fun b hb => (no b hb).elim) (fun b hb => (no b hb).elim) (fun _ => False) (fun _ h => h.elim) (fun _ _ _ _ => rfl) rfl rfl rfl (Nat.le_refl _)
section
variable {P : Program} {s0 : St} {n : Cx}
theorem inv_fam {F : Fr} {M : List Blk} {a : Act} {w : World} {j : Nat} (h : Inv s0 n F M a w) (hj : M[j]? = some .hole) : Inv s0 n F (M.set j (.fam [])) a w := by
  obtain ⟨h0, s, rfl, rfl, h3, h4, h5, h6⟩ := h
  have tt := tr_fam h3.ok hj
  exact ⟨h0, ⟨s.β.set j (.tuple #[]), s.I, s.M.set j (.fam []), s.w⟩, rfl, rfl, h3.trans tt, fun x d hd => (h4 x d hd).mono h3.ok tt, h5, h6.mono h3.ok tt⟩
/-- an empty family is laid -/
theorem dwp_fam {c : Code} {F : Fr} {M M' : List Blk} {K : Cont} (j : Nat) (hj : M[j]? = some .hole) (hM' : M.set j (.fam []) = M') (h : dwp P s0 n c F M' K) : dwp P s0 n c F M K := by
  subst hM'
  exact fun a w hi => h a w (inv_fam hi hj)
end
end Go.Proofs.YtbcnaacgillhcaaGreat
namespace Go.Proofs.YtbcnaacgillhcaaGreat
set_option linter.unusedVariables false
set_option linter.unusedSimpArgs false
open Go.RowKit
section
variable {P : Program} {pc : Bool} {o : Oper} {F : Fr} {M : List Blk}
end
/-- rows whose cells have other names elsewhere -/
theorem vwL_flatG {α : Type} {σ : List Nat} {V : Nat → Bool} {M : List Blk} {f g : α → D} (h : ∀ a, vw σ V M (f a) = some (g a)) : ∀ l : List α, vwL σ V M (l.flatMap fun a => [f a]) = some (l.flatMap fun a => [g a])
  | [] => rfl
  | a :: l => by
    rw [List.flatMap_cons, List.flatMap_cons]
    show vwL σ V M (f a :: l.flatMap fun a => [f a]) = some (g a :: l.flatMap fun a => [g a])
    rw [vwL, h a, vwL_flatG h l]
theorem sbL_flatG {α : Type} {τ : List Nat} {f g : α → D} (h : ∀ a, sb τ (f a) = some (g a)) : ∀ l : List α, sbL τ (l.flatMap fun a => [f a]) = some (l.flatMap fun a => [g a])
  | [] => rfl
  | a :: l => by
    rw [List.flatMap_cons, List.flatMap_cons]
    show sbL τ (f a :: l.flatMap fun a => [f a]) = some (g a :: l.flatMap fun a => [g a])
    rw [sbL, h a, sbL_flatG h l]
theorem arxg_fits {α : Type} {σ : List Nat} {V : Nat → Bool} {M : List Blk} {T : TypeId} {n n' : Nat} {f g : α → D} {l l' : List α} (hn : n = n') (hl : l = l') (h : ∀ a, vw σ V M (f a) = some (g a)) : (vwL σ V M (l.flatMap fun a => [f a])).map (Blk.arx T 1 n) = some (Blk.arx T 1 n' (l'.flatMap fun a => [g a])) := by
  subst hn hl
  rw [vwL_flatG h]
  rfl
theorem sb_arxg {α : Type} {τ : List Nat} {T : TypeId} {n : Nat} {f g : α → D} {l : List α} (h : ∀ a, sb τ (f a) = some (g a)) : sbB τ (.arx T 1 n (l.flatMap fun a => [f a])) = some (.arx T 1 n (l.flatMap fun a => [g a])) := by
  show (sbL τ _).map _ = _
  rw [sbL_flatG h]; rfl
theorem vwL_flatMk {α : Type} {σ : List Nat} {V : Nat → Bool} {M : List Blk} {f g : α → List D} (h : ∀ a, vwL σ V M (f a) = some (g a)) : ∀ l : List α, vwL σ V M (l.flatMap f) = some (l.flatMap g)
  | [] => rfl
  | a :: l => by
    have app : ∀ (a b a' b' : List D), vwL σ V M a = some a' → vwL σ V M b = some b' → vwL σ V M (a ++ b) = some (a' ++ b') := by
      intro a
      induction a with
      | nil => intro b a' b' h1 h2; rw [vwL] at h1; cases h1; exact h2
      | cons d a ih =>
        intro b a' b' h1 h2
        rw [vwL] at h1
        cases e1 : vw σ V M d with
        | none => rw [e1] at h1; simp at h1
        | some d1 =>
          cases e2 : vwL σ V M a with
          | none => rw [e1, e2] at h1; simp at h1
          | some a1 =>
            rw [e1, e2] at h1
            obtain rfl := Option.some.inj h1
            rw [List.cons_append, vwL, e1, ih b a1 b' e2 h2]
            rfl
    rw [List.flatMap_cons, List.flatMap_cons]
    exact app _ _ _ _ (h a) (vwL_flatMk h l)
theorem sbL_flatMk {α : Type} {τ : List Nat} {f g : α → List D} (h : ∀ a, sbL τ (f a) = some (g a)) : ∀ l : List α, sbL τ (l.flatMap f) = some (l.flatMap g)
  | [] => rfl
  | a :: l => by
    have app : ∀ (a b a' b' : List D), sbL τ a = some a' → sbL τ b = some b' → sbL τ (a ++ b) = some (a' ++ b') := by
      intro a
      induction a with
      | nil => intro b a' b' h1 h2; rw [sbL] at h1; cases h1; exact h2
      | cons d a ih =>
        intro b a' b' h1 h2
        rw [sbL] at h1
        cases e1 : sb τ d with
        | none => rw [e1] at h1; simp at h1
        | some d1 =>
          cases e2 : sbL τ a with
          | none => rw [e1, e2] at h1; simp at h1
          | some a1 =>
            rw [e1, e2] at h1
            obtain rfl := Option.some.inj h1
            rw [List.cons_append, sbL, e1, ih b a1 b' e2 h2]
            rfl
    rw [List.flatMap_cons, List.flatMap_cons]
    exact app _ _ _ _ (h a) (sbL_flatMk h l)
theorem arxs_fits {α : Type} {σ : List Nat} {V : Nat → Bool} {M : List Blk} {T : TypeId} {sz n n' : Nat} {f g : α → List D} {l l' : List α} (hn : n = n') (hl : l = l') (h : ∀ a, vwL σ V M (f a) = some (g a)) : (vwL σ V M (l.flatMap f)).map (Blk.arx T sz n) = some (Blk.arx T sz n' (l'.flatMap g)) := by
  subst hn hl
  rw [vwL_flatMk h]; rfl
theorem sb_arxs {α : Type} {τ : List Nat} {T : TypeId} {sz n : Nat} {f g : α → List D} {l : List α} (h : ∀ a, sbL τ (f a) = some (g a)) : sbB τ (.arx T sz n (l.flatMap f)) = some (.arx T sz n (l.flatMap g)) := by
  show (sbL τ _).map _ = _
  rw [sbL_flatMk h]; rfl
section
variable {P : Program} {pc : Bool} {o : Oper} {F : Fr} {M : List Blk}
end
end Go.Proofs.YtbcnaacgillhcaaGreat
namespace Go.Proofs.YtbcnaacgillhcaaGreat
set_option linter.unusedVariables false
set_option linter.unusedSimpArgs false
open Go.RowKit
section
variable {P : Program} {pc : Bool} {o : Oper} {F : Fr} {M : List Blk}
/-- a struct with addresses, out of a longer block -/
theorem op_ldmp {T T' : TypeId} {x : Operand} {i p k : Nat} {l R : List D} (ho : o.op = .load T x) (hT : tyB P T = some (true, k)) (hx : Ev pc F x (.loc i p)) (hM : M[i]? = some (.mix T' l)) (hR : (l.drop p).take k = R) (hl : R.length = k) : DOp P pc o F M [i] (.agg R) [] := by
  intro hp a s hok hops hfp
  have hr := ev_at hp hx (by simp [ho, Op.operands]) hops
  generalize hv : a.eval x = vx at hr
  cases hr with
  | @loc _ _ b h =>
    obtain ⟨b', vs, e1, e2, e3, e4⟩ := hok.blk i _ _ (by rw [hfp i (by simp)]; exact hM) h
    cases e1
    have hlen : ((vs.drop p).take k).length = R.length := by
      rw [← hR, List.length_take, List.length_drop, List.length_take, List.length_drop, e3]
    have hc : cellsAt s.w b 0 vs := cellsAt_block e2 0
    have hr := cellsAt_range hc p k rfl
    rw [Nat.zero_add] at hr
    refine dg_val hok (run_load_row ho hT hv hr (by omega)) (.agg hlen fun j d v h1 h2 => ?_)
    rw [← hR] at h1
    rcases Nat.lt_or_ge j k with hjk | hjk
    · rw [List.getElem?_take, if_pos hjk, List.getElem?_drop] at h1 h2
      exact e4 _ _ _ h1 h2
    · rw [List.getElem?_take, if_neg (by omega)] at h1
      cases h1
end
/-- a block is forgotten -/
theorem tr_gone {s : St} (ho : Ok s) (i : Nat) : Tr s ⟨s.β, s.I, s.M.set i .gone, s.w⟩ := by
  have hnd : ∀ (i : Nat) h, s.β[i]? = some h → h ≠ .nilFunc → s.β[i]? = some h := fun _ _ h _ => h
  have old : ∀ (j : Nat) k, (s.M.set i .gone)[j]? = some k → k = .gone ∨ s.M[j]? = some k := fun j k hj => by
    by_cases e : i = j
    · subst e
      by_cases hl : i < s.M.length
      · rw [List.getElem?_set_self hl] at hj
        exact .inl (Option.some.inj hj).symm
      · rw [List.getElem?_eq_none (by simp; omega)] at hj; cases hj
    · rw [List.getElem?_set_ne e] at hj; exact .inr hj
  have lv : ∀ b, Live ⟨s.β, s.I, s.M.set i .gone, s.w⟩ b → Live s b := by
    rintro b ⟨j, k, h, h1, h2, h3, h4⟩
    rcases old j k h1 with rfl | h1
    · cases h2
    · exact live_of h1 h2 h3 h4
  refine ⟨⟨by simp [ho.len], fun j k h h1 h2 => ?_, fun b hb => ho.lt b (lv b hb), ?_, ho.il⟩, hkeep_of hnd, fun _ h => h, fun _ h => .inl h, fun _ _ _ => rfl, fun b h => .inr (lv b h), rfl, rfl, rfl, Nat.le_refl _⟩
  · rcases old j k h1 with rfl | h1
    · trivial
    · exact BlkOk.mono (s := s) (s' := ⟨s.β, s.I, s.M.set i .gone, s.w⟩) hnd (fun _ h => h) (fun _ _ => rfl) (ho.blk j k h h1 h2) (fun _ _ _ => rfl)
  · intro j j2 k k2 x x2 b a1 a2 a3 a4 c1 c2 c3 c4
    rcases old j k a1 with rfl | a1
    · cases a2
    · rcases old j2 k2 c1 with rfl | c1
      · cases c2
      · exact ho.inj j j2 k k2 x x2 b a1 a2 a3 a4 c1 c2 c3 c4
/-- a row of one's own is given up: it stays from now on -/
theorem tr_giveA {s : St} (ho : Ok s) {j sz n : Nat} {T : TypeId} {L : List Value} {v : Value} (hM : s.M[j]? = some (.arr T sz n L)) (hr : Rep s (.arr j) v) : ∃ I' : Nat → Prop, Tr s ⟨s.β, I', s.M.set j .gone, s.w⟩ ∧ Rep ⟨s.β, I', s.M.set j .gone, s.w⟩ (.slf sz n L) v := by
  cases hr with
  | @arr _ ad n' c hβ =>
    have hk : s.w.ownsRow 0 T sz _ n L := ho.blk j _ _ hM hβ
    rcases hk.2 with ⟨e1, e2⟩ | ⟨g, cap, cur, e1, e2, e3, e4, e5, e6, e7⟩
    · cases e1; subst e2
      exact ⟨s.I, tr_gone ho j, .slf hk.1 (Nat.le_refl _) (Nat.zero_le _) (fun _ => rfl) (.inl (List.eq_nil_of_length_eq_zero (by simpa using hk.1)))⟩
    · cases e1
      refine ⟨fun b => s.I b ∨ b = g, tr_give ho hM rfl hβ rfl s.w (fun _ _ => rfl) rfl rfl rfl rfl, .slf hk.1 e4 e5 (fun e => by cases e) (.inr ⟨g, 0, rfl, .inr rfl, ?_⟩)⟩
      have hc := cellsAt_sub (cellsAt_block e3 0) 0 (n * sz)
      show cellsAt s.w g 0 L
      simpa [e7] using hc
theorem DGives.map {P : Program} {s : St} {post post' : St → Value → Prop} {r : Result Next} (h : DGives P s post r) (f : ∀ s' v, Ok s' → post s' v → ∃ s'', s''.w = s'.w ∧ Tr s' s'' ∧ post' s'' v) : DGives P s post' r := by
  have key : ∀ {w' : World} {v : Value}, (∃ s', s'.w = w' ∧ Tr s s' ∧ post s' v) → ∃ s', s'.w = w' ∧ Tr s s' ∧ post' s' v := by
    rintro w' v ⟨s', rfl, a2, a3⟩
    obtain ⟨s'', b1, b2, b3⟩ := f s' v a2.ok a3
    exact ⟨s'', b1, a2.trans b2, b3⟩
  cases r with
  | halt x w' => exact h
  | ok nx w' =>
    cases nx with
    | value v => exact key h
    | skip => exact key h
    | enter g args =>
      refine ⟨h.1, h.2.mono ?_⟩
      rintro e w'' ⟨s', v, b1, b2, b3, b4⟩
      obtain ⟨s'', c1, c2, c3⟩ := key ⟨s', b2, b3, b4⟩
      exact ⟨s'', v, b1, c1, c2, c3⟩
    | round l f tmps asg body =>
      refine ⟨h.1, h.2.mono ?_⟩
      rintro e w'' ⟨s', v, b1, b2, b3, b4⟩
      obtain ⟨s'', c1, c2, c3⟩ := key ⟨s', b2, b3, b4⟩
      exact ⟨s'', v, b1, c1, c2, c3⟩
    | _ => exact h
theorem upd_app : ∀ (a b : List (Nat × Blk)) (M : List Blk), upd M (a ++ b) = upd (upd M a) b
  | [], _, _ => rfl
  | (i, k) :: a, b, M => by rw [List.cons_append, upd, upd, upd_app a b]
section
variable {P : Program} {s0 : St} {n : Cx}
theorem inv_giveA {F : Fr} {M : List Blk} {a : Act} {w : World} {t i : Nat} {e : TypeId} {sz m : Nat} {L : List Value} (h : Inv s0 n F M a w) (ht : lk F t = some (.arr i)) (hM : M[i]? = some (.arr e sz m L)) : Inv s0 n ((t, .slf sz m L) :: F) (M.set i .gone) a w := by
  obtain ⟨h0, s, rfl, rfl, h3, h4, h5, h6⟩ := h
  obtain ⟨I', tt, r1⟩ := tr_giveA h3.ok hM (h4 t _ ht)
  refine ⟨h0, ⟨s.β, I', s.M.set i .gone, s.w⟩, rfl, rfl, h3.trans tt, fun x d hd => ?_, h5, h6.mono h3.ok tt⟩
  rw [lk_cons] at hd
  split at hd
  · rename_i e'
    subst e'
    obtain rfl := Option.some.inj hd
    exact r1
  · exact (h4 x d hd).mono h3.ok tt
theorem dwp_giveA {c : Code} {F : Fr} {M M' : List Blk} {K : Cont} (t : Nat) {i : Nat} {e : TypeId} {sz m : Nat} {L : List Value} (ht : lk F t = some (.arr i)) (hM : M[i]? = some (.arr e sz m L)) (hM' : M.set i .gone = M') (h : dwp P s0 n c ((t, .slf sz m L) :: F) M' K) : dwp P s0 n c F M K := by
  subst hM'
  exact fun a w hi => h a w (inv_giveA hi ht hM)
end
/-- a row of a family is taken out of it again -/
theorem tr_rel {s : St} (ho : Ok s) {i j k : Nat} {Bs : List Mem} {B : Mem} {hs : List Value} {u : Value} (hi : s.M[i]? = some (.fam Bs)) (hj : s.M[j]? = some .hole) (hB : Bs[k]? = some B) (hl : B.live = true) (hβi : s.β[i]? = some (.tuple hs.toArray)) (hu : hs[k]? = some u) :
    Tr s ⟨s.β.set j u, s.I, (s.M.set i (.fam (Bs.set k .gone))).set j B.blk, s.w⟩ := by
  have hne : i ≠ j := fun e => by subst e; rw [hi] at hj; cases hj
  have hil := (List.getElem?_eq_some_iff.1 hi).1
  have hjl := (List.getElem?_eq_some_iff.1 hj).1
  have hkl := (List.getElem?_eq_some_iff.1 hB).1
  have hf := fam_at (k := 0) ho hi hβi
  have hβj : s.β[j]? = some .nilFunc := by
    have hjb : j < s.β.length := by rw [ho.len]; exact hjl
    have e : s.β[j]? = some s.β[j] := List.getElem?_eq_getElem hjb
    have : s.β[j] = .nilFunc := ho.blk j .hole _ hj e
    rw [e, this]
  have hnd : ∀ (x : Nat) h, s.β[x]? = some h → h ≠ .nilFunc → (s.β.set j u)[x]? = some h := fun x h hx hn => by
    by_cases e : j = x
    · subst e; rw [hβj] at hx; exact absurd (Option.some.inj hx).symm hn
    · rw [List.getElem?_set_ne e]; exact hx
  have oldM : ∀ (x : Nat) kk, ((s.M.set i (.fam (Bs.set k .gone))).set j B.blk)[x]? = some kk → (x = j ∧ kk = B.blk) ∨ (x = i ∧ kk = .fam (Bs.set k .gone)) ∨ (x ≠ j ∧ x ≠ i ∧ s.M[x]? = some kk) := fun x kk h => by
    by_cases e : j = x
    · subst e
      rw [List.getElem?_set_self (by simpa using hjl)] at h
      exact .inl ⟨rfl, (Option.some.inj h).symm⟩
    · rw [List.getElem?_set_ne e] at h
      by_cases e2 : i = x
      · subst e2
        rw [List.getElem?_set_self hil] at h
        exact .inr (.inl ⟨rfl, (Option.some.inj h).symm⟩)
      · rw [List.getElem?_set_ne e2] at h
        exact .inr (.inr ⟨Ne.symm e, Ne.symm e2, h⟩)
  have oldβ : ∀ (x : Nat) hh, (s.β.set j u)[x]? = some hh → (x = j ∧ hh = u) ∨ (x ≠ j ∧ s.β[x]? = some hh) := fun x hh h => by
    by_cases e : j = x
    · subst e
      rw [List.getElem?_set_self (by rw [ho.len]; exact hjl)] at h
      exact .inl ⟨rfl, (Option.some.inj h).symm⟩
    · rw [List.getElem?_set_ne e] at h
      exact .inr ⟨Ne.symm e, h⟩
  have cls : ∀ (x : Nat) kk hh b, ((s.M.set i (.fam (Bs.set k .gone))).set j B.blk)[x]? = some kk → kk.live = true → (s.β.set j u)[x]? = some hh → owns kk hh b →
      (x = j ∧ hb u = some b) ∨ (x = i ∧ ∃ (k' : Nat) (B' : Mem) (u' : Value), k' ≠ k ∧ Bs[k']? = some B' ∧ B'.live = true ∧ hs[k']? = some u' ∧ hb u' = some b) ∨ (x ≠ j ∧ x ≠ i ∧ s.M[x]? = some kk ∧ s.β[x]? = some hh) := by
    intro x kk hh b a1 a2 a3 a4
    rcases oldM x kk a1 with ⟨rfl, rfl⟩ | ⟨rfl, rfl⟩ | ⟨n1, n2, a1⟩
    · rcases oldβ _ hh a3 with ⟨_, rfl⟩ | ⟨n, _⟩
      · exact .inl ⟨rfl, blk_owns.1 a4⟩
      · exact absurd rfl n
    · rcases oldβ _ hh a3 with ⟨e, _⟩ | ⟨_, a3⟩
      · exact absurd e hne
      · rw [hβi] at a3
        obtain rfl := Option.some.inj a3
        obtain ⟨hs', k', B', u', e1, e2, e3, e4, e5⟩ := a4
        have e1 : hs = hs' := by simpa using e1
        subst e1
        by_cases e : k = k'
        · subst e
          rw [List.getElem?_set_self hkl] at e2
          obtain rfl := Option.some.inj e2
          cases e3
        · rw [List.getElem?_set_ne e] at e2
          exact .inr (.inl ⟨rfl, k', B', u', Ne.symm e, e2, e3, e4, e5⟩)
    · rcases oldβ _ hh a3 with ⟨e, _⟩ | ⟨_, a3⟩
      · exact absurd e n1
      · exact .inr (.inr ⟨n1, n2, a1, a3⟩)
  have fo : ∀ (k' : Nat) (B' : Mem) (u' : Value) (b : Nat), Bs[k']? = some B' → B'.live = true → hs[k']? = some u' → hb u' = some b → owns (.fam Bs) (.tuple hs.toArray) b := fun k' B' u' b e2 e3 e4 e5 => ⟨hs, k', B', u', rfl, e2, e3, e4, e5⟩
  have lv : ∀ b, Live ⟨s.β.set j u, s.I, (s.M.set i (.fam (Bs.set k .gone))).set j B.blk, s.w⟩ b → Live s b := by
    rintro b ⟨x, kk, hh, a1, a2, a3, a4⟩
    rcases cls x kk hh b a1 a2 a3 a4 with ⟨_, e⟩ | ⟨_, k', B', u', _, e2, e3, e4, e5⟩ | ⟨_, _, a1, a3⟩
    · exact live_of hi rfl hβi (fo k B u b hB hl hu e)
    · exact live_of hi rfl hβi (fo k' B' u' b e2 e3 e4 e5)
    · exact live_of a1 a2 a3 a4
  refine ⟨⟨by simp [ho.len], fun x kk hh h1 h2 => ?_, fun b hb => ho.lt b (lv b hb), ?_, ho.il⟩, hkeep_of hnd, fun _ h => h, fun _ h => .inl h, fun _ _ _ => rfl, fun b h => .inr (lv b h), rfl, rfl, rfl, Nat.le_refl _⟩
  · rcases oldM x kk h1 with ⟨rfl, rfl⟩ | ⟨rfl, rfl⟩ | ⟨n1, n2, h1⟩
    · rcases oldβ _ hh h2 with ⟨_, rfl⟩ | ⟨n, _⟩
      · have hm := hf.ok k B hh hB hu
        cases B <;> exact hm
      · exact absurd rfl n
    · rcases oldβ _ hh h2 with ⟨e, _⟩ | ⟨_, h2⟩
      · exact absurd e hne
      · rw [hβi] at h2
        obtain rfl := Option.some.inj h2
        refine ⟨hs, rfl, ⟨by rw [List.length_set]; exact hf.len, fun k' B' u' e2 e4 => ?_, fun k1 k2 B1 B2 u1 u2 b e1 l1 e2 e3 f1 l2 f2 f3 => ?_⟩⟩
        · by_cases e : k = k'
          · subst e
            rw [List.getElem?_set_self hkl] at e2
            obtain rfl := Option.some.inj e2
            trivial
          · rw [List.getElem?_set_ne e] at e2
            exact hf.ok k' B' u' e2 e4
        · have un : ∀ (q : Nat) Q, (Bs.set k .gone)[q]? = some Q → Q.live = true → Bs[q]? = some Q := fun q Q g1 g2 => by
            by_cases e : k = q
            · subst e
              rw [List.getElem?_set_self hkl] at g1
              obtain rfl := Option.some.inj g1
              cases g2
            · rw [List.getElem?_set_ne e] at g1; exact g1
          exact hf.inj k1 k2 B1 B2 u1 u2 b (un k1 B1 e1 l1) l1 e2 e3 (un k2 B2 f1 l2) l2 f2 f3
    · rcases oldβ _ hh h2 with ⟨e, _⟩ | ⟨_, h2⟩
      · exact absurd e n1
      · exact BlkOk.mono (s := s) (s' := ⟨s.β.set j u, s.I, (s.M.set i (.fam (Bs.set k .gone))).set j B.blk, s.w⟩) hnd (fun _ h => h) (fun _ _ => rfl) (ho.blk x kk hh h1 h2) (fun _ _ _ => rfl)
  · intro x x2 kk kk2 y y2 b a1 a2 a3 a4 c1 c2 c3 c4
    rcases cls x kk y b a1 a2 a3 a4 with ⟨ex, e⟩ | ⟨ex, k', B', u', n', e2, e3, e4, e5⟩ | ⟨m1, m2, a1, a3⟩ <;> rcases cls x2 kk2 y2 b c1 c2 c3 c4 with ⟨fx, f⟩ | ⟨fx, k2, B2, u2, n2, f2, f3, f4, f5⟩ | ⟨p1, p2, c1, c3⟩
    · exact ex.trans fx.symm
    · exact absurd (hf.inj k k2 B B2 u u2 b hB hl hu e f2 f3 f4 f5).symm n2
    · exact absurd (ho.inj i x2 _ kk2 _ y2 b hi rfl hβi (fo k B u b hB hl hu e) c1 c2 c3 c4).symm p2
    · exact absurd (hf.inj k k' B B' u u' b hB hl hu f e2 e3 e4 e5).symm n'
    · exact ex.trans fx.symm
    · exact absurd (ho.inj i x2 _ kk2 _ y2 b hi rfl hβi (fo k' B' u' b e2 e3 e4 e5) c1 c2 c3 c4).symm p2
    · exact absurd (ho.inj i x _ kk _ y b hi rfl hβi (fo k B u b hB hl hu f) a1 a2 a3 a4).symm m2
    · exact absurd (ho.inj i x _ kk _ y b hi rfl hβi (fo k2 B2 u2 b f2 f3 f4 f5) a1 a2 a3 a4).symm m2
    · exact ho.inj x x2 kk kk2 y y2 b a1 a2 a3 a4 c1 c2 c3 c4
section
variable {P : Program} {s0 : St} {n : Cx}
end
end Go.Proofs.YtbcnaacgillhcaaGreat
namespace Go.Proofs.YtbcnaacgillhcaaGreat
set_option linter.unusedVariables false
set_option linter.unusedSimpArgs false
open Go.RowKit
section
variable {P : Program} {s0 : St} {n : Cx}
end
/-- what is known of a result's value, told otherwise -/
theorem DFun.wk {P : Program} {f : FuncId} {args : List D} {d d' : D} {Min Mout : List Blk} (h : DFun P f args Min d Mout) (hd : ∀ s v, Rep s d v → Rep s d' v) : DFun P f args Min d' Mout := by
  refine ⟨h.1, fun s vs hok hM hr => (h.2 s vs hok hM hr).mono ?_⟩
  rintro e w' ⟨s', rfl, ht, hor⟩
  rcases hor with ⟨d0, v, rfl, hrep, rfl, hMo⟩ | ⟨d0, v, _, _, hf⟩
  · exact ⟨s', rfl, ht, .inl ⟨d', v, rfl, hd s' v hrep, rfl, hMo⟩⟩
  · exact hf.elim
end Go.Proofs.YtbcnaacgillhcaaGreat
namespace Go.Proofs.YtbcnaacgillhcaaGreat
set_option linter.unusedVariables false
set_option linter.unusedSimpArgs false
open Go.RowKit
/-- what reads as d reads as d', too -/
def Wk (d d' : D) : Prop := ∀ s v, Rep s d v → Rep s d' v
def WkL (l l' : List D) : Prop := l.length = l'.length ∧ ∀ (j : Nat) d d', l[j]? = some d → l'[j]? = some d' → Wk d d'
theorem Wk.refl (d : D) : Wk d d := fun _ _ h => h
theorem WkL.nil : WkL [] [] := ⟨rfl, fun j d d' h => by simp at h⟩
theorem WkL.cons {d d' : D} {l l' : List D} (h : Wk d d') (hl : WkL l l') : WkL (d :: l) (d' :: l') := by
  refine ⟨by simp [hl.1], fun j e e' h1 h2 => ?_⟩
  cases j with
  | zero => simp at h1 h2; subst h1 h2; exact h
  | succ j => exact hl.2 j e e' (by simpa using h1) (by simpa using h2)
theorem WkL.refl (l : List D) : WkL l l := ⟨rfl, fun j d d' h1 h2 => by rw [h1] at h2; cases h2; exact Wk.refl d⟩
theorem WkL.rep {s : St} {l l' : List D} {vs : List Value} (h : WkL l l') (hr : ∀ (j : Nat) d v, l[j]? = some d → vs[j]? = some v → Rep s d v) : ∀ (j : Nat) d v, l'[j]? = some d → vs[j]? = some v → Rep s d v := fun j d v h1 h2 => by
  have hj : j < l.length := by rw [h.1]; exact (List.getElem?_eq_some_iff.1 h1).1
  exact h.2 j l[j] d (List.getElem?_eq_getElem hj) h1 s v (hr j _ v (List.getElem?_eq_getElem hj) h2)
theorem Wk.tup {l l' : List D} (h : WkL l l') : Wk (.tup l) (.tup l') := fun s v hr => by
  cases hr with
  | tup hl hr => exact .tup (hl.trans h.1) (h.rep hr)
theorem Wk.agg {l l' : List D} (h : WkL l l') : Wk (.agg l) (.agg l') := fun s v hr => by
  cases hr with
  | agg hl hr => exact .agg (hl.trans h.1) (h.rep hr)
theorem Wk.slm0 (sz : Nat) : Wk (.val (.slice none 0 0)) (.slm sz 0 []) := fun s v hr => by
  cases hr with
  | val => exact .slm (vs := []) rfl (by simp) (Nat.le_refl _) (Nat.zero_le _) (fun _ => rfl) rfl (fun j d v h => by simp at h) (.inl rfl)
theorem Wk.slf0 (sz : Nat) : Wk (.val (.slice none 0 0)) (.slf sz 0 []) := fun s v hr => by
  cases hr with
  | val => exact .slf (by simp) (Nat.le_refl _) (Nat.zero_le _) (fun _ => rfl) (.inl rfl)
theorem Wk.vagg (l : List Value) : Wk (.val (.agg l.toArray)) (.agg (l.map D.val)) := fun s v hr => by
  cases hr with
  | val =>
    refine .agg (by simp) fun j d v h1 h2 => ?_
    rw [List.getElem?_map, h2] at h1
    cases h1
    exact .val v
theorem Wk.trans {d d' d'' : D} (h : Wk d d') (k : Wk d' d'') : Wk d d'' := fun s v hr => k s v (h s v hr)
/-- .. of what an operation hands back -/
theorem DOp.wk {P : Program} {pc : Bool} {o : Oper} {F : Fr} {M : List Blk} {fp : List Nat} {d d' : D} {wr : List (Nat × Blk)} (h : DOp P pc o F M fp d wr) (hw : Wk d d') : DOp P pc o F M fp d' wr := by
  intro hp a s hok hops hfp
  exact (h hp a s hok hops hfp).map fun s' v ho' ⟨e1, e2⟩ => ⟨s', rfl, Tr.refl ho', e1, hw s' v e2⟩
/-- .. of an operand -/
theorem evwk {pc : Bool} {F : Fr} {x : Operand} {d d' : D} (h : Ev pc F x d) (hw : Wk d d') : Ev pc F x d' := by
  obtain ⟨d0, e1, e2⟩ := h
  exact ⟨d0, e1, fun s v hp hr => hw _ _ (e2 s v hp hr)⟩
section
variable {P : Program} {s0 : St} {n : Cx}
end
section
variable {P : Program} {pc : Bool} {o : Oper} {F : Fr} {M : List Blk} {T : TypeId} {x : Operand}
end
end Go.Proofs.YtbcnaacgillhcaaGreat
namespace Go.Proofs.YtbcnaacgillhcaaGreat
set_option linter.unusedVariables false
set_option linter.unusedSimpArgs false
open Go.RowKit
section
variable {P : Program} {s0 : St} {n : Cx}
end
theorem tr_giveX {s : St} (ho : Ok s) {j sz n : Nat} {T : TypeId} {l : List D} {v : Value} (hM : s.M[j]? = some (.arx T sz n l)) (hnl : D.nlL l = true) (hr : Rep s (.arr j) v) : ∃ I' : Nat → Prop, Tr s ⟨s.β, I', s.M.set j .gone, s.w⟩ ∧ Rep ⟨s.β, I', s.M.set j .gone, s.w⟩ (.slm sz n l) v := by
  cases hr with
  | @arr _ ad n' c hβ =>
    obtain ⟨vs, hk, q3, q4⟩ := ho.blk j _ _ hM hβ
    rcases hk.2 with ⟨e1, e2⟩ | ⟨g, cap, cur, e1, e2, e3, e4, e5, e6, e7⟩
    · cases e1; subst e2
      have hl0 : l = [] := List.eq_nil_of_length_eq_zero (by rw [← q3, hk.1, Nat.zero_mul])
      subst hl0
      exact ⟨s.I, tr_gone ho j, .slm (vs := []) rfl (by simp) (Nat.le_refl _) (Nat.zero_le _) (fun _ => rfl) rfl (fun j d v h => by simp at h) (.inl rfl)⟩
    · cases e1
      have tt := tr_give ho hM rfl hβ rfl s.w (fun _ _ => rfl) rfl rfl rfl rfl
      refine ⟨fun b => s.I b ∨ b = g, tt, .slm (vs := vs) hnl (by rw [← q3]; exact hk.1) e4 e5 (fun e => by cases e) q3 (fun i d v h1 h2 => (q4 i d v h1 h2).mono ho tt) (.inr ⟨g, 0, rfl, .inr rfl, ?_⟩)⟩
      have hc0 := cellsAt_sub (cellsAt_block e3 0) 0 (n * sz)
      simpa [e7] using hc0
/-- a row of data that an operation makes is given up at once: it stays -/
theorem DOp.giveX {P : Program} {pc : Bool} {o : Oper} {F : Fr} {M : List Blk} {fp : List Nat} {j sz n : Nat} {T : TypeId} {l : List D} (wr : List (Nat × Blk)) (h : DOp P pc o F M fp (.arr j) (wr ++ [(j, .arx T sz n l)])) (hnl : D.nlL l = true) (hj : M[j]? = some .hole) (hf : fp.contains j = true) : DOp P pc o F M fp (.slm sz n l) (wr ++ [(j, .gone)]) := by
  intro hp a s hok hops hfp
  refine (h hp a s hok hops hfp).map fun s' v ho' ⟨e1, e2⟩ => ?_
  have hjl : j < s.M.length := by
    have h1 := hfp j (by simpa using hf)
    rw [hj] at h1
    exact (List.getElem?_eq_some_iff.1 h1).1
  have hM : s'.M[j]? = some (.arx T sz n l) := by
    rw [e1, upd_app]
    show ((upd s.M wr).set j _)[j]? = _
    rw [List.getElem?_set_self (by rw [upd_len]; exact hjl)]
  obtain ⟨I', t1, r1⟩ := tr_giveX ho' hM hnl e2
  refine ⟨⟨s'.β, I', s'.M.set j .gone, s'.w⟩, rfl, t1, ?_, r1⟩
  show s'.M.set j .gone = _
  rw [e1, upd_app, upd_app]
  show ((upd s.M wr).set j _).set j .gone = (upd s.M wr).set j .gone
  rw [List.set_set]
theorem DOp.giveX2 {P : Program} {pc : Bool} {o : Oper} {F : Fr} {M : List Blk} {fp : List Nat} {i j sz n : Nat} {T : TypeId} {l : List D} (h : DOp P pc o F M fp (.arr j) [(i, .gone), (j, .arx T sz n l)]) (hnl : D.nlL l = true) (hj : M[j]? = some .hole) (hf : fp.contains j = true) : DOp P pc o F M fp (.slm sz n l) [(i, .gone), (j, .gone)] := DOp.giveX [(i, .gone)] h hnl hj hf
end Go.Proofs.YtbcnaacgillhcaaGreat
namespace Go.Proofs.YtbcnaacgillhcaaGreat
set_option linter.unusedVariables false
set_option linter.unusedSimpArgs false
open Go.RowKit
section
variable {P : Program} {pc : Bool} {o : Oper} {F : Fr} {M : List Blk} {T : TypeId} {x y : Operand} {k : IntKind} {z : Int} {n : Nat}
/-- an array of single cells, at a place -/
theorem op_ixu {L : List Value} {v : Value} (j : Nat) (ho : o.op = .index T x y) (hT : arW P T = some n) (hx : Ev pc F x (.val (.agg L.toArray))) (hy : Ev pc F y (.val (.int k z))) (hz : pc = true → z = (j : Int)) (hj : j < n) (hd : L[j]? = some v) : DOp P pc o F M [] (.val v) [] :=
  op_ixw (ds := L.map D.val) j ho hT (evwk hx (Wk.vagg L)) hy hz hj (by rw [List.getElem?_map, hd]; rfl)
end
/-- behind a guard that does not hold nothing is done -/
theorem dop_never {P : Program} {o : Oper} {F : Fr} {M : List Blk} {d : D} : DOp P false o F M [] d [] := fun h => by cases h
/-- behind a guard that is known to hold -/
theorem walk_k {P : Program} {s0 : St} {n : Cx} {ops : Array Oper} {o : Oper} {rest : List Oper} {F : Fr} {M M' : List Blk} {K : Cont} {fp : List Nat} {d : D} {t : Nat} {wr : List (Nat × Blk)} (hg : Gd ops o F true) (hng : o.guard.isSome = true) (hd : o.dst = some t) (ht : Nat.blt t n.n = true) (h : DOp P true o F M fp d wr) (hM : upd M wr = M')
    (hk : Walk P s0 n ops rest ((t, .opt true d) :: F) M' K) (hnd : noDef o.op = true := by rfl) : Walk P s0 n ops (o :: rest) F M K := by
  subst hM
  have hb : dstB n.n o.dst = true := by rw [hd]; exact ht
  have hk : Walk P s0 n ops rest (putF o.dst (.opt true d) F) (upd M wr) K := by rw [hd]; exact hk
  intro a w hi
  obtain ⟨h0, s, h1, h2, h3, h4, h5, h6⟩ := hi
  subst h1 h2
  show if Region.wanted o (yielded ops a.tmps) then _ else _
  rw [gd_wanted hg (fun t d _ hd => h4 t d hd)]
  rw [if_pos rfl]
  refine dgives_in hnd (h rfl a s h3.ok (fun x _ d hd => ev_rep h4 hd) (fun _ _ => rfl)) fun s' v ht ⟨e1, e2⟩ => ?_
  exact hk _ _ ⟨h0, s', e1, rfl, h3.trans ht, (h4.mono h3.ok ht).putF h5 hb (.opt (fun _ => e2) (fun h => by cases h)), by rw [put_size]; exact h5, by rw [put_def]; exact h6.mono h3.ok ht⟩
end Go.Proofs.YtbcnaacgillhcaaGreat
namespace Go.Proofs.YtbcnaacgillhcaaGreat
set_option linter.unusedVariables false
set_option linter.unusedSimpArgs false
open Go.RowKit
theorem DGives.of_tr {P : Program} {s s1 : St} {post : St → Value → Prop} {r : Result Next} (t : Tr s s1) (hw : s1.w = s.w) (h : DGives P s1 post r) : DGives P s post r := by
  have key : ∀ {w' : World} {v : Value}, (∃ s', s'.w = w' ∧ Tr s1 s' ∧ post s' v) → ∃ s', s'.w = w' ∧ Tr s s' ∧ post s' v := by
    rintro w' v ⟨s', rfl, a2, a3⟩
    exact ⟨s', rfl, t.trans a2, a3⟩
  cases r with
  | halt x w => exact h.elim
  | ok x w =>
    cases x with
    | value v => exact key h
    | skip => exact key h
    | enter f args =>
      obtain ⟨h1, h2⟩ := h
      refine ⟨h1.trans hw, ?_⟩
      rw [← hw]
      refine h2.mono ?_
      rintro e w'' ⟨s', v, e1, e2, e3, e4⟩
      exact ⟨s', v, e1, e2, t.trans e3, e4⟩
    | round l f tmps asg body =>
      obtain ⟨h1, h2⟩ := h
      refine ⟨h1.trans hw, ?_⟩
      rw [← hw]
      refine RoundIn.mono h2 ?_
      rintro e w'' ⟨s', v, e1, e2, e3, e4⟩
      exact ⟨s', v, e1, e2, t.trans e3, e4⟩
    | _ => exact h.elim
section
variable {P : Program} {pc : Bool} {o : Oper} {F : Fr} {M : List Blk}
/-- a row of a family, appended to: the row that comes is a new member -/
theorem op_appF {T e : TypeId} {sz by' n m f j1 j2 k t t2 : Nat} {Bs : List Mem} {L L2 Z : List Value} (ho : o.op = .call { callee := .builtin .append, args := #[.tmp t, .tmp t2], argTypes := #[T, T] }) (ht : (t == t2) = false) (hT : slE P T = some (e, sz, by')) (hZ : zrC P e = some Z) (hZl : Z.length = sz)
    (hx : Ev pc F (.tmp t) (.farr f k)) (hy : Ev pc F (.tmp t2) (.slf sz m L2)) (hM : M[f]? = some (.fam Bs)) (hB : Bs[k]? = some (.arr e sz n L)) (hj1 : M[j1]? = some .hole) (hj2 : M[j2]? = some .hole) (hne : (j1 == j2) = false) (h1 : pc = true → L2.all (·.oneCell') = true) (hbd : pc = true → (n + m) * by' ≤ 140737488355328 ∧ n + m ≤ 140737488355328) :
    DOp P pc o F M [f, j1, j2] (.farr f Bs.length) [(f, .fam (Bs.set k .gone ++ [.arr e sz (n + m) (L ++ L2)])), (j1, .gone), (j2, .gone)] := by
  intro hp a s hok hops hfp
  have ht : t ≠ t2 := by simpa using ht
  have hne : j1 ≠ j2 := by simpa using hne
  have hmem : o.op.operands = #[.tmp t, .tmp t2] := by rw [ho]; rfl
  have rx := ev_at hp hx (by rw [hmem]; simp) hops
  have ry := ev_at hp hy (by rw [hmem]; simp) hops
  have hM' : s.M[f]? = some (.fam Bs) := by rw [hfp f (by simp)]; exact hM
  have g1 : s.M[j1]? = some .hole := by rw [hfp j1 (by simp)]; exact hj1
  have g2 : s.M[j2]? = some .hole := by rw [hfp j2 (by simp)]; exact hj2
  have hf1 : f ≠ j1 := fun e => by subst e; rw [hM'] at g1; cases g1
  have hf2 : f ≠ j2 := fun e => by subst e; rw [hM'] at g2; cases g2
  have hfl := (List.getElem?_eq_some_iff.1 hM').1
  have hl1 := (List.getElem?_eq_some_iff.1 g1).1
  have hl2 := (List.getElem?_eq_some_iff.1 g2).1
  generalize hvx : a.eval (.tmp t) = vx at rx
  cases rx with
  | @farr _ _ ad n' c hs q1 q2 =>
    have tt := tr_rel (B := .arr e sz n L) hok hM' g1 hB rfl q1 q2
    obtain ⟨s1, e1⟩ : ∃ s1 : St, s1 = ⟨s.β.set j1 (.slice ad n' c), s.I, (s.M.set f (.fam (Bs.set k .gone))).set j1 (.arr e sz n L), s.w⟩ := ⟨_, rfl⟩
    have tt : Tr s s1 := by rw [e1]; exact tt
    have hM1 : s1.M = (s.M.set f (.fam (Bs.set k .gone))).set j1 (.arr e sz n L) := by rw [e1]
    have hw1 : s1.w = s.w := by rw [e1]
    have hβ1 : s1.β[j1]? = some (.slice ad n' c) := by rw [e1]; show (s.β.set j1 _)[j1]? = _; rw [List.getElem?_set_self (by rw [hok.len]; exact hl1)]
    have m1 : s1.M[j1]? = some (.arr e sz n L) := by rw [hM1, List.getElem?_set_self (by simpa using hl1)]
    have m2 : s1.M[j2]? = some .hole := by rw [hM1, List.getElem?_set_ne hne, List.getElem?_set_ne hf2]; exact g2
    have m3 : s1.M[f]? = some (.fam (Bs.set k .gone)) := by rw [hM1, List.getElem?_set_ne (Ne.symm hf1), List.getElem?_set_self hfl]
    have ra : Rep s1 (.arr j1) (a.eval (.tmp t)) := by rw [hvx]; exact .arr hβ1
    have hl : ∀ x ∈ o.op.operands, ∀ d, ev [(t, D.arr j1), (t2, .slf sz m L2)] x = some d → Rep s1 d (a.eval x) := by
      intro x hx' d hd
      rw [hmem] at hx'
      simp at hx'
      rcases hx' with rfl | rfl
      · simp only [ev, lk, Nat.beq_refl, cond_true] at hd
        cases hd
        exact ra
      · have hb : Nat.beq t t2 = false := by
          cases hbb : Nat.beq t t2
          · rfl
          · exact absurd (Nat.eq_of_beq_eq_true hbb) ht
        simp only [ev, lk, hb, Nat.beq_refl, cond_true, cond_false] at hd
        cases hd
        exact ry.mono hok tt
    have hb : Nat.beq t t2 = false := by
      cases hbb : Nat.beq t t2
      · rfl
      · exact absurd (Nat.eq_of_beq_eq_true hbb) ht
    have hD := op_app (P := P) (pc := true) (F := [(t, D.arr j1), (t2, .slf sz m L2)]) (M := s1.M) (i := j1) (j := j2) (d := .slf sz m L2) (fp := []) ho hT hZ hZl (ev1 (by simp only [ev, lk, Nat.beq_refl, cond_true])) (ev1 (by simp only [ev, lk, hb, Nat.beq_refl, cond_true, cond_false])) src_slf m1 m2 (fun _ => h1 hp) (fun _ => hbd hp) rfl a s1 tt.ok hl (fun _ _ => rfl)
    rw [hw1] at hD
    refine (DGives.of_tr tt hw1 hD).map fun s' v ho' ⟨u1, u2⟩ => ?_
    have hs'M : s'.M = (s1.M.set j1 .gone).set j2 (.arr e sz (n + m) (L ++ L2)) := u1
    have k2 : s'.M[j2]? = some (.arr e sz (n + m) (L ++ L2)) := by rw [hs'M, List.getElem?_set_self (by rw [List.length_set, hM1]; simpa using hl2)]
    have k3 : s'.M[f]? = some (.fam (Bs.set k .gone)) := by rw [hs'M, List.getElem?_set_ne (Ne.symm hf2), List.getElem?_set_ne (Ne.symm hf1)]; exact m3
    have hlen' := ho'.len
    have kf := (List.getElem?_eq_some_iff.1 k3).1
    have kj := (List.getElem?_eq_some_iff.1 k2).1
    obtain ⟨x, hx2⟩ : ∃ x, s'.β[f]? = some x := ⟨_, List.getElem?_eq_getElem (by omega)⟩
    obtain ⟨y, hy2⟩ : ∃ y, s'.β[j2]? = some y := ⟨_, List.getElem?_eq_getElem (by omega)⟩
    obtain ⟨hs2, rfl, hfo⟩ := ho'.blk f _ x k3 hx2
    have t3 := tr_abs (B := .arr e sz (n + m) (L ++ L2)) ho' k3 k2 rfl hx2 hy2
    refine ⟨⟨s'.β.set f (.tuple (hs2 ++ [y]).toArray), s'.I, (s'.M.set j2 .gone).set f (.fam (Bs.set k .gone ++ [.arr e sz (n + m) (L ++ L2)])), s'.w⟩, rfl, t3, ?_, ?_⟩
    · show (s'.M.set j2 .gone).set f _ = ((s.M.set f _).set j1 .gone).set j2 .gone
      rw [hs'M, hM1]
      apply List.ext_getElem?
      intro i
      simp only [List.getElem?_set, List.length_set]
      by_cases a1 : f = i
      · subst a1
        simp [hf1.symm, hf2.symm, hfl]
      · by_cases a2 : j1 = i
        · subst a2
          simp [a1, hne.symm, hl1]
        · by_cases a3 : j2 = i
          · subst a3
            simp [a1, a2, hl2]
          · simp [a1, a2, a3]
    · cases u2 with
      | @arr _ ad' n'' c' hβ =>
        rw [hy2] at hβ
        obtain rfl := Option.some.inj hβ
        refine .farr (hs := hs2 ++ [.slice ad' n'' c']) (by show (s'.β.set f _)[f]? = _; rw [List.getElem?_set_self (by omega)]) ?_
        have : hs2.length = Bs.length := by rw [hfo.len]; simp
        rw [List.getElem?_append_right (by omega), show Bs.length - hs2.length = 0 by omega]
        rfl
end
section
variable {P : Program} {s0 : St} {n : Cx}
/-- a row of one's own that a variable's cell names joins a family -/
theorem inv_absc {F : Fr} {M : List Blk} {a : Act} {w : World} {p q j f : Nat} {T e : TypeId} {l : List D} {sz m : Nat} {L : List Value} {Bs : List Mem} (h : Inv s0 n F M a w) (hM : M[p]? = some (.mix T l)) (hq : l[q]? = some (.arr j)) (hj : M[j]? = some (.arr e sz m L)) (hf : M[f]? = some (.fam Bs)) : Inv s0 n F (((M.set j .gone).set f (.fam (Bs ++ [.arr e sz m L]))).set p (.mix T (l.set q (.farr f Bs.length)))) a w := by
  obtain ⟨h0, s, rfl, rfl, h3, h4, h5, h6⟩ := h
  have hlen := h3.ok.len
  have hfl := (List.getElem?_eq_some_iff.1 hf).1
  have hjl := (List.getElem?_eq_some_iff.1 hj).1
  have hpl := (List.getElem?_eq_some_iff.1 hM).1
  have hpj : p ≠ j := fun e => by subst e; rw [hM] at hj; cases hj
  have hpf : p ≠ f := fun e => by subst e; rw [hM] at hf; cases hf
  obtain ⟨x, hx⟩ : ∃ x, s.β[f]? = some x := ⟨_, List.getElem?_eq_getElem (by omega)⟩
  obtain ⟨y, hy⟩ : ∃ y, s.β[j]? = some y := ⟨_, List.getElem?_eq_getElem (by omega)⟩
  obtain ⟨z, hz⟩ : ∃ z, s.β[p]? = some z := ⟨_, List.getElem?_eq_getElem (by omega)⟩
  obtain ⟨hs, rfl, hfo⟩ := h3.ok.blk f _ x hf hx
  have tt := tr_abs (B := .arr e sz m L) h3.ok hf hj rfl hx hy
  obtain ⟨s1, e1⟩ : ∃ s1 : St, s1 = ⟨s.β.set f (.tuple (hs ++ [y]).toArray), s.I, (s.M.set j .gone).set f (.fam (Bs ++ [.arr e sz m L])), s.w⟩ := ⟨_, rfl⟩
  have tt : Tr s s1 := by rw [e1]; exact tt
  have hM1 : s1.M = (s.M.set j .gone).set f (.fam (Bs ++ [.arr e sz m L])) := by rw [e1]
  have hw1 : s1.w = s.w := by rw [e1]
  have hp1 : s1.M[p]? = some (.mix T l) := by rw [hM1, List.getElem?_set_ne (Ne.symm hpf), List.getElem?_set_ne (Ne.symm hpj)]; exact hM
  have hz1 : s1.β[p]? = some z := by rw [e1]; show (s.β.set f _)[p]? = _; rw [List.getElem?_set_ne (Ne.symm hpf)]; exact hz
  have hpl1 : p < s1.M.length := (List.getElem?_eq_some_iff.1 hp1).1
  have hset : s1.β.set p z = s1.β := by
    have h1 : p < s1.β.length := by rw [tt.ok.len]; exact hpl1
    have h2 : s1.β[p] = z := by
      have := List.getElem?_eq_getElem h1
      rw [hz1] at this
      exact (Option.some.inj this).symm
    rw [← h2]
    exact List.set_getElem_self ..
  obtain ⟨b, vs, k1, k2, k3, k4⟩ := tt.ok.blk p _ z hp1 hz1
  have hql := (List.getElem?_eq_some_iff.1 hq).1
  have t2 : Tr s1 ⟨s1.β, s1.I, s1.M.set p (.mix T (l.set q (.farr f Bs.length))), s1.w⟩ := by
    have hst := step_set tt.ok p s1.M z (.mix T (l.set q (.farr f Bs.length))) s1.w rfl (fun i k h => .inl h) hpl1 (.inr (.inl hz1)) (by rw [k1]; simp) ?_ (fun b' hb' j' kj hj' hne h1 h2 h3' h4' => ?_) (fun b' hb' => .inr (live_of hp1 rfl hz1 hb')) (fun b' hb' => (tt.ok.lt b' (live_of hp1 rfl hz1 hb')).1) (fun _ => False) (fun _ h => h.elim) (fun b' hlt hne _ => rfl) rfl rfl rfl (Nat.le_refl _)
    · rw [hset] at hst
      exact hst
    · refine ⟨b, vs, k1, k2, by simp [k3], fun j' d v g1 g2 => ?_⟩
      rw [hset]
      have lift : ∀ {d v}, Rep s1 d v → Rep ⟨s1.β, s1.I, s1.M.set p (.mix T (l.set q (.farr f Bs.length))), s1.w⟩ d v := fun hr =>
        Rep.mono' (s := s1) (s' := ⟨s1.β, s1.I, s1.M.set p (.mix T (l.set q (.farr f Bs.length))), s1.w⟩) (fun _ _ h _ => h) (fun _ h => h) (fun _ _ => rfl) hr
      by_cases e : q = j'
      · subst e
        rw [List.getElem?_set_self hql] at g1
        cases g1
        refine lift ?_
        have hr := k4 q _ v hq g2
        have hy1 : s1.β[j]? = some y := by
          have hjf : f ≠ j := fun e => by subst e; rw [hf] at hj; cases hj
          rw [e1]; show (s.β.set f _)[j]? = _; rw [List.getElem?_set_ne hjf]; exact hy
        cases hr with
        | @arr _ ad n' c hβ =>
          rw [hy1] at hβ
          obtain rfl := Option.some.inj hβ
          refine .farr (hs := hs ++ [.slice ad n' c]) (by rw [e1]; show (s.β.set f _)[f]? = _; rw [List.getElem?_set_self (by omega)]) ?_
          rw [List.getElem?_append_right (by rw [hfo.len]; exact Nat.le_refl _), hfo.len, Nat.sub_self]
          rfl
      · rw [List.getElem?_set_ne e] at g1
        exact lift (k4 j' d v g1 g2)
    · exact hne (tt.ok.inj j' p kj _ hj' _ b' h1 h2 h3' h4' hp1 rfl hz1 hb')
  refine ⟨h0, ⟨s1.β, s1.I, s1.M.set p (.mix T (l.set q (.farr f Bs.length))), s1.w⟩, by rw [hM1], hw1, (h3.trans tt).trans t2, fun x d hd => ((h4 x d hd).mono h3.ok tt).mono tt.ok t2, h5, (h6.mono h3.ok tt).mono tt.ok t2⟩
theorem dwp_absc {c : Code} {F : Fr} {M M' : List Blk} {K : Cont} (p q f : Nat) {j : Nat} {T e : TypeId} {l : List D} {sz m : Nat} {L : List Value} {Bs : List Mem} (hM : M[p]? = some (.mix T l)) (hq : l[q]? = some (.arr j)) (hj : M[j]? = some (.arr e sz m L)) (hf : M[f]? = some (.fam Bs)) (hM' : ((M.set j .gone).set f (.fam (Bs ++ [.arr e sz m L]))).set p (.mix T (l.set q (.farr f Bs.length))) = M') (h : dwp P s0 n c F M' K) : dwp P s0 n c F M K := by
  subst hM'
  exact fun a w hh => h a w (inv_absc hh hM hq hj hf)
end
section
variable {P : Program} {pc : Bool} {o : Oper} {F : Fr} {M : List Blk} {T : TypeId} {x y : Operand} {k : IntKind} {z : Int} {n sz : Nat}
/-- an array of structs that is a value with addresses, at a place -/
theorem op_ixwr {ds : List D} (j : Nat) (ho : o.op = .index T x y) (hT : arV P T = some (n, sz)) (hx : Ev pc F x (.agg ds)) (hy : Ev pc F y (.val (.int k z))) (hz : pc = true → z = (j : Int)) (hj : pc = true → j < n) (hl : j * sz + sz ≤ ds.length) : DOp P pc o F M [] (.agg ((ds.drop (j * sz)).take sz)) [] := by
  intro hp a s hok hops _
  have hr := ev_at hp hx (by simp [ho, Op.operands]) hops
  have e2 := (ev_at hp hy (by simp [ho, Op.operands]) hops).val_eq
  rw [hz hp] at e2
  obtain ⟨e, hu, he⟩ := arV_spec hT
  obtain ⟨dd, i, h1, h2, h3, h4⟩ := tyB_spec he
  have hj := hj hp
  generalize hv : a.eval x = vx at hr
  cases hr with
  | @agg _ vs hvl hel =>
    refine dg_val (v := .agg ((vs.drop (j * sz)).take sz).toArray) hok ?_ (.agg (by simp [hvl]) fun j' d v g1 g2 => ?_)
    · unfold execOp
      simp only [ho, hv, e2]
      refine run_v ?_
      have hagg : (isAgg e).run P s.w = .ok true s.w := by
        unfold isAgg
        rw [Sem.run_bind, run_underlying h1]
        cases dd <;> first | rfl | cases h3
      have hsz : (sizeOf e).run P s.w = .ok sz s.w := by simp [sizeOf, typeInfo, h2, h4]
      have hb : (0 : Int) ≤ (j : Int) ∧ (j : Int) < (n : Int) := by omega
      unfold Instr.index
      simp only [Sem.run_bind, asIntOf, Sem.run_pure, Result.andThen_ok, run_underlying hu, hb, and_self, if_true, hsz, part, hagg, Int.toNat_natCast]
      simp only [List.extract_toArray, List.extract_eq_take_drop, Nat.add_sub_cancel_left]
    · have hj' : j' < sz := by
        have := (List.getElem?_eq_some_iff.1 g1).1
        rw [List.length_take] at this
        omega
      rw [List.getElem?_take_of_lt hj', List.getElem?_drop] at g1 g2
      exact hel _ _ _ g1 g2
end
/-- plain cells, told as a plain struct -/
theorem Wk.aggv (l : List Value) : Wk (.agg (l.map D.val)) (.val (.agg l.toArray)) := fun s v hr => by
  cases hr with
  | @agg _ vs hl h =>
    have : vs = l := by
      apply List.ext_getElem
      · simpa using hl
      · intro j h1 h2
        exact (h j (.val l[j]) vs[j] (by rw [List.getElem?_map, List.getElem?_eq_getElem h2]; rfl) (List.getElem?_eq_getElem h1)).val_eq
    subst this
    exact .val _
/-- a plain struct behind a pointer into memory that stays -/
theorem op_lddv {P : Program} {pc : Bool} {o : Oper} {F : Fr} {M : List Blk} {T : TypeId} {x : Operand} {k : Nat} {l : List D} (L : List Value) (ho : o.op = .load T x) (hT : tyB P T = some (true, k)) (hx : Ev pc F x (.dpm l)) (hL : l.take k = L.map D.val) (hk : L.length = k) : DOp P pc o F M [] (.val (.agg L.toArray)) [] :=
  (op_lddr (R := L.map D.val) ho hT hx hL (by simpa using hk)).wk (Wk.aggv L)
end Go.Proofs.YtbcnaacgillhcaaGreat
namespace Go.Proofs.YtbcnaacgillhcaaGreat
set_option linter.unusedVariables false
set_option linter.unusedSimpArgs false
open Go.RowKit
theorem mixed : Tryz.prog.follows .mixedOrders = true := by kernel_rfl
structure I3 where
  t : Int
  s : Int
  q : Int
deriving DecidableEq
def idc (i : I3) : List Value := [.int .u64 i.t, .int .i64 i.s, .int .u64 i.q]
def isNum (n : Int) : Bool := decide (1 ≤ n) && decide (n ≤ 4611686018427387904)
def isSt (n : Int) : Bool := decide (1 ≤ n) && decide (n ≤ 8)
def mayR (i : I3) : Bool := isNum i.t && (isSt i.s && isNum i.q)
def errOr (b : Bool) (n : Int) : Int := match b with | true => 0 | false => n
def lessR (a b : I3) : Bool := if a.t ≠ b.t then decide (a.t < b.t) else if a.s ≠ b.s then decide (a.s < b.s) else decide (a.q < b.q)
def cmpI (x y : Int) : Int := if x < y then -1 else if y < x then 1 else 0
def orL : List Int → Int
  | [] => 0
  | a :: l => if a ≠ 0 then a else orL l
theorem orL_drop {l : List Int} {k : Nat} (h : k < l.length) : orL (l.drop k) = if l[k] ≠ 0 then l[k] else orL (l.drop (k + 1)) := by
  rw [List.drop_eq_getElem_cons h, orL]
def eqI (a b : I3) : Bool := (a.t == b.t) && ((a.s == b.s) && ((a.q == b.q) && true))
theorem eqI_iff {a b : I3} : eqI a b = true ↔ a = b := by
  obtain ⟨t, s, q⟩ := a
  obtain ⟨t', s', q'⟩ := b
  simp [eqI]
def cmpR (a b : I3) : Int := if eqI a b then 0 else orL [cmpI a.t b.t, cmpI a.s b.s, cmpI a.q b.q]
def lessC (a b : I3) : Bool := decide (cmpR a b < 0)
theorem lessC_R (a b : I3) : lessC a b = lessR a b := by
  obtain ⟨t, s, q⟩ := a
  obtain ⟨t', s', q'⟩ := b
  unfold lessC lessR cmpR
  simp only [eqI, orL, cmpI]
  by_cases h1 : t = t' <;> by_cases h2 : s = s' <;> by_cases h3 : q = q' <;> simp_all <;> (repeat' split) <;> simp_all <;> omega
def inI (n : Int) : List Value := [.int .i64 n]
structure C4 where
  r : Int
  g : Int
  b : Int
  a : Int
deriving DecidableEq
def c4 (c : C4) : List Value := [.int .u8 c.r, .int .u8 c.g, .int .u8 c.b, .int .u8 c.a]
def zC4 : C4 := ⟨0, 0, 0, 0⟩
def zI3 : I3 := ⟨0, 0, 0⟩
def eqC (u v : C4) : Bool := (u.r == v.r) && ((u.g == v.g) && ((u.b == v.b) && ((u.a == v.a) && true)))
theorem eqC_iff {u v : C4} : eqC u v = decide (u = v) := by
  obtain ⟨r, g, b, a⟩ := u
  obtain ⟨r', g', b', a'⟩ := v
  rw [Bool.eq_iff_iff]
  simp [eqC]
/-- an operation -/
structure OpM where
  id : I3
  kd : Int
  x : Int
  y : Int
  x2 : Int
  y2 : Int
  sz : Int
  co : C4
  sw : Int
  sh : Int
  px : List C4
  tg : I3
deriving DecidableEq
def iD (n : Int) : D := .val (.int .i64 n)
abbrev pxD (l : List C4) : D := .slf 4 l.length (l.flatMap c4)
def opD (o : OpM) : List D := [.val (.int .u64 o.id.t), .val (.int .i64 o.id.s), .val (.int .u64 o.id.q), .val (.int .i64 o.kd), .val (.int .i64 o.x), .val (.int .i64 o.y), .val (.int .i64 o.x2), .val (.int .i64 o.y2), .val (.int .i64 o.sz),
  .val (.int .u8 o.co.r), .val (.int .u8 o.co.g), .val (.int .u8 o.co.b), .val (.int .u8 o.co.a), .val (.int .i64 o.sw), .val (.int .i64 o.sh), pxD o.px, .val (.int .u64 o.tg.t), .val (.int .i64 o.tg.s), .val (.int .u64 o.tg.q)]
def drB (n : Int) : Bool := decide (-64 ≤ n) && decide (n ≤ 127)
def siD (n : Int) : Bool := decide (1 ≤ n) && decide (n ≤ 8)
def stB (w h : Int) (l : List C4) : Bool := siD w && siD h && decide ((l.length : Int) = w * h)
def mostK (k : Int) : Int := if k = 5 then 1020 else if k = 1 ∨ k = 2 then 15 else 0
def opB (o : OpM) : Bool :=
  (decide (1 ≤ o.kd) && decide (o.kd ≤ 8)) && mayR o.id
  && (if o.kd ≤ 6 then drB o.x && drB o.y else decide (o.x = 0) && decide (o.y = 0))
  && (if o.kd ≤ 4 then drB o.x2 && drB o.y2 else decide (o.x2 = 0) && decide (o.y2 = 0))
  && (if o.kd = 1 ∨ o.kd = 2 ∨ o.kd = 5 then decide (0 ≤ o.sz) && decide (o.sz ≤ mostK o.kd) else decide (o.sz = 0))
  && (decide (o.kd ≤ 5) || decide (o.co = zC4))
  && (if o.kd = 6 then stB o.sw o.sh o.px else decide (o.sw = 0) && decide (o.sh = 0) && decide (o.px = []))
  && (if 7 ≤ o.kd then mayR o.tg && lessR o.tg o.id else decide (o.tg = zI3))
/-- numbers of sites, by their numbers -/
abbrev Vec := Nat → Nat
def c9 (v : Vec) : List Value := [.int .u64 (v 0), .int .u64 (v 1), .int .u64 (v 2), .int .u64 (v 3), .int .u64 (v 4), .int .u64 (v 5), .int .u64 (v 6), .int .u64 (v 7), .int .u64 (v 8)]
def upV {α : Type} (v : Nat → α) (j : Nat) (x : α) : Nat → α := fun i => if i = j then x else v i
theorem lt9 {P : Nat → Prop} (h0 : P 0) (h1 : P 1) (h2 : P 2) (h3 : P 3) (h4 : P 4) (h5 : P 5) (h6 : P 6) (h7 : P 7) (h8 : P 8) : ∀ j, j < 9 → P j
  | 0, _ => h0 | 1, _ => h1 | 2, _ => h2 | 3, _ => h3 | 4, _ => h4 | 5, _ => h5 | 6, _ => h6 | 7, _ => h7 | 8, _ => h8
  | n + 9, h => absurd h (by omega)
theorem c9_len (v : Vec) : (c9 v).length = 9 := rfl
theorem c9_at (v : Vec) : ∀ j, j < 9 → (c9 v)[j]? = some (.int .u64 (v j)) := lt9 rfl rfl rfl rfl rfl rfl rfl rfl rfl
theorem c9_set (v : Vec) (x : Nat) : ∀ j, j < 9 → (c9 v).set j (.int .u64 x) = c9 (upV v j x) := lt9 rfl rfl rfl rfl rfl rfl rfl rfl rfl
def z9 : Vec := fun _ => 0
/-- a pledge -/
structure Pl where
  inn : Bool
  fl : Nat
  fs : Nat
  has : Vec
/-- a frontier -/
structure FrM where
  fo : Nat
  bv : Vec
  pr : Nat
  st : Nat → Pl
def FrM.sw (f : FrM) (j : Nat) (p : Pl) : FrM := { f with st := upV f.st j p }
def eqV (v w : Vec) : Bool := (List.range 9).all fun i => v i == w i
theorem eqV_iff {v w : Vec} : eqV v w = true ↔ c9 v = c9 w := by
  unfold eqV c9
  simp [List.range, List.range.loop]
  omega
theorem all9 {P : Nat → Bool} : (List.range 9).all P = true ↔ ∀ i, i < 9 → P i = true := by
  simp
theorem eqV_refl (f : Vec) : eqV f f = true := eqV_iff.2 rfl
abbrev LAST : Nat := 4611686018427387904
def vB (v : Vec) : Bool := decide (v 0 = 0) && (List.range 9).all fun i => decide (v i ≤ LAST)
def coB (a b : Vec) : Bool := vB a && vB b && (List.range 9).all fun i => decide (b i ≤ a i)
theorem vB_iff {v : Vec} : vB v = true ↔ v 0 = 0 ∧ ∀ i, i < 9 → v i ≤ LAST := by
  unfold vB
  rw [Bool.and_eq_true, all9]
  simp
def flL (n : Nat) (l : List Pl) : Nat := l.foldl (fun m q => max m q.fl) n
def vOne (v : Vec) (i : Nat) : Prop := v i ≤ 4611686018427387904 ∧ (i = 0 → v i = 0)
theorem vB_all {v : Vec} : vB v = true ↔ ∀ i, i < 9 → vOne v i := by
  rw [vB_iff]
  constructor
  · intro h i hi
    exact ⟨h.2 i hi, fun e => by rw [e]; exact h.1⟩
  · intro h
    exact ⟨(h 0 (by omega)).2 rfl, fun i hi => (h i hi).1⟩
theorem vB_no {v : Vec} {i : Nat} (hi : i < 9) (h : ¬ vOne v i) : vB v = false := by
  rw [← Bool.not_eq_true, vB_all]
  exact fun e => h (e i hi)
theorem vOne_step {v : Vec} {k : Nat} (h : ∀ i, i < k → vOne v i) (hk : vOne v k) : ∀ i, i < k + 1 → vOne v i := fun i hi => by
  by_cases e : i = k
  · rw [e]; exact hk
  · exact h i (by omega)
theorem vB_eq0 {v : Vec} (h : ∀ i, i < 9 → v i = 0) : vB v = true := vB_all.2 fun i hi => ⟨by rw [h i hi]; omega, fun _ => h i hi⟩
theorem coB_iff {a b : Vec} : coB a b = true ↔ vB a = true ∧ vB b = true ∧ ∀ i, i < 9 → b i ≤ a i := by
  unfold coB
  rw [Bool.and_eq_true, Bool.and_eq_true, all9]
  simp [and_assoc]
theorem badE {b : Bool} {n : Int} (h : ¬ errOr b n = 0) : b = false := by
  cases b
  · rfl
  · exact absurd rfl h
theorem okE {b : Bool} {n : Int} (hn : n ≠ 0) (h : errOr b n = 0) : b = true := by
  cases b
  · exact absurd h hn
  · rfl
theorem c9_atp {v : Vec} {p j : Nat} (hp : p = j) (hj : j < 9) : (c9 v)[p]? = some (.int .u64 (v j)) := by rw [hp]; exact c9_at v j hj
theorem c9_setp {v : Vec} {x p j : Nat} (hp : p = j) (hj : j < 9) : (c9 v).set p (.int .u64 x) = c9 (upV v j x) := by rw [hp]; exact c9_set v x j hj
theorem vB_0 {v : Vec} (h : vB v = true) : v 0 = 0 := (vB_iff.1 h).1
def cvF (v w : Vec) (k : Nat) : Bool := (List.range' k (9 - k)).all fun i => decide (w i ≤ v i)
theorem cvF_step (v w : Vec) {k : Nat} (hk : k < 9) : cvF v w k = (decide (w k ≤ v k) && cvF v w (k + 1)) := by
  unfold cvF
  rw [show 9 - k = (9 - (k + 1)) + 1 by omega, List.range'_succ, List.all_cons]
theorem cvF_end (v w : Vec) : cvF v w 9 = true := by
  unfold cvF
  rfl
theorem cvF_iff {v w : Vec} {k : Nat} : cvF v w k = true ↔ ∀ i, k ≤ i → i < 9 → w i ≤ v i := by
  unfold cvF
  rw [List.all_eq_true]
  constructor
  · intro h i h1 h2
    exact of_decide_eq_true (h i (List.mem_range'_1.2 ⟨h1, by omega⟩))
  · intro h i hi
    have := List.mem_range'_1.1 hi
    exact decide_eq_true (h i this.1 (by omega))
theorem coB_cv {v w : Vec} : ((vB v && (vB w && true)) && cvF v w 1) = coB v w := by
  rw [Bool.eq_iff_iff, coB_iff]
  simp only [Bool.and_eq_true, Bool.and_true, cvF_iff]
  constructor
  · rintro ⟨⟨h1, h2⟩, h3⟩
    refine ⟨h1, h2, fun i hi => ?_⟩
    by_cases e : i = 0
    · subst e
      rw [vB_0 h2]
      exact Nat.zero_le _
    · exact h3 i (by omega) hi
  · rintro ⟨h1, h2, h3⟩
    exact ⟨⟨h1, h2⟩, fun i _ hi => h3 i hi⟩
def eqn (a b : Nat) : Bool := (a : Int) == (b : Int)
theorem eqn_eq (a b : Nat) : eqn a b = (a == b) := by
  unfold eqn
  rw [Bool.eq_iff_iff]
  simp
  omega
def eqVx (v w : Vec) : Bool := eqn (v 0) (w 0) && (eqn (v 1) (w 1) && (eqn (v 2) (w 2) && (eqn (v 3) (w 3) && (eqn (v 4) (w 4) && (eqn (v 5) (w 5) && (eqn (v 6) (w 6) && (eqn (v 7) (w 7) && (eqn (v 8) (w 8) && true))))))))
theorem eqVx_eq (v w : Vec) : eqVx v w = eqV v w := by
  unfold eqVx eqV
  simp only [eqn_eq, List.range, List.range.loop, List.all_cons, List.all_nil]
theorem eqV_z9 {v : Vec} (h : eqV v z9 = true) : vB v = true := vB_eq0 fun i hi => by
  unfold eqV at h
  rw [all9] at h
  simpa [z9] using h i hi
theorem errz (b : Bool) {n : Int} (hn : n ≠ 0) : (errOr b n == 0) = b := by
  cases b
  · exact beq_eq_false_iff_ne.2 hn
  · rfl
theorem errnz (b : Bool) {n : Int} (hn : n ≠ 0) : (errOr b n != 0) = !b := by
  cases b
  · exact bne_iff_ne.2 hn
  · rfl
theorem natover (a : Nat) : decide ((4611686018427387904 : Int) < (a : Int)) = !decide (a ≤ LAST) := by
  rw [show LAST = 4611686018427387904 from rfl, Bool.eq_iff_iff]; simp; omega
theorem notT {b : Bool} (h : (!b) = true) : b = false := by cases b <;> simp_all
theorem notF {b : Bool} (h : (!b) = false) : b = true := by cases b <;> simp_all
theorem eq24 {v w : Vec} : eqT Tryz.prog 9 24 (c9 v) (c9 w) = some (eqV v w) := by
  rw [← eqVx_eq]; kernel_rfl
theorem gd24 : Tryz.prog.eqGuardType Tryz.prog.depth 24 = false := by kernel_rfl
theorem zr24 : zrC Tryz.prog 24 = some (c9 z9) := by kernel_rfl
end Go.Proofs.YtbcnaacgillhcaaGreat
namespace Go.Proofs.YtbcnaacgillhcaaGreat
set_option linter.unusedVariables false
set_option linter.unusedSimpArgs false
open Go.RowKit
theorem ar24 : arE Tryz.prog 24 = some (9, 1) := by kernel_rfl
theorem aw24 : arW Tryz.prog 24 = some 9 := by kernel_rfl
theorem tb24 : tyB Tryz.prog 24 = some (true, 9) := by kernel_rfl
set_option maxRecDepth 4000 in
set_option maxHeartbeats 1000000 in
theorem vCheck_d (v : Vec) : DFun Tryz.prog 36 [.val (.agg (c9 v).toArray)] [] (.val (.int .i64 (errOr (vB v) 230))) [] := by
  refine dcalls_go (N := 24) 0 (by kernel_rfl) Tryz.func36 rfl rfl rfl (by simp only [fr0, Nat.zero_add, Nat.reduceAdd]; exact rfl) rfl fun s0 hs0 => ?_
  refine zaf ?_
  refine zah 1 (by simp only [holes, List.cons_append, List.nil_append]; exact rfl) ?_
  refine zac ?_
  refine walk_w rfl rfl rfl (op_boxa 0 rfl (ev1 rfl) rfl) (by simp only [upd, za, zaa]; exact rfl) ?_
  refine zab rfl rfl rfl (zad (.inr rfl) (ev1 rfl)) ?_
  refine zae ?_
  refine zaf ?_
  refine zaf ?_
  refine zac ?_
  refine zab rfl rfl rfl (op_ldw rfl tb24 (ev1 rfl) rfl rfl) ?_
  refine zab rfl rfl rfl (op_build0a rfl ar24 zr24) ?_
  refine zab rfl rfl rfl (op_eqr eq24 rfl gd24 tb24 (ev1 rfl) (ev1 rfl)) ?_
  refine zae ?_
  refine dwp_cond rfl (fun c1 => ?_) (fun c1 => ?_)
  · refine zaf ?_
    refine zac ?_
    refine zab rfl rfl rfl (zad (.inr rfl) (ev1 rfl)) ?_
    refine zae ?_
    refine dwp_ret ?_
    refine kend0 (rs1 rfl (rv_t rfl)) rfl ?_
    rw [eqV_z9 c1]
    rfl
  · refine dwp_skip ?_
    refine zaf ?_
    refine zaf ?_
    refine zac ?_
    refine zab rfl rfl rfl (op_ldw rfl tb24 (ev1 rfl) rfl rfl) ?_
    refine zab rfl rfl rfl (zad (.inl rfl) (ev1 rfl)) ?_
    refine zae ?_
    refine dwp_block ?_
    refine dwp_loopS ⟨hs0, rfl⟩ (α := Nat) (fun k => [(9, .val (.int .i64 (k : Int)))]) [(8, _)] (fun k => []) [_] (fun k => k ≤ 9 ∧ ∀ i, i < k → vOne v i) (fun k => 9 - k) 0 [0] (⟨by omega, fun i hi => absurd hi (by omega)⟩) rfl ⟨rfl, trivial⟩ ⟨rfl, trivial⟩ ⟨rfl, trivial⟩ ?_
    intro k hx
    simp only [upd, za, zaa, List.cons_append, List.nil_append]
    obtain ⟨hk, he⟩ := hx
    refine zaf ?_
    refine zac ?_
    refine zab rfl rfl rfl (op_lss rfl (ev1 rfl) (ev1 rfl)) ?_
    refine zae ?_
    refine zaf ?_
    refine dwp_cond rfl (fun c2 => ?_) (fun c2 => ?_)
    · try simp only [decide_eq_true_eq, decide_eq_false_iff_not, beq_iff_eq, bne_iff_ne, beq_eq_false_iff_ne, bne_eq_false_iff_eq, Bool.not_eq_true', Bool.not_eq_false', Bool.and_eq_true, Bool.or_eq_true, Bool.or_eq_false_iff, ne_eq, Decidable.not_not, Int.not_lt, Int.not_le] at c2
      refine dwp_skip ?_
      refine zaf ?_
      refine dwp_block ?_
      refine zaf ?_
      refine zac ?_
      refine zab rfl rfl rfl (zad (.inl rfl) (ev1 rfl)) ?_
      refine zab rfl rfl rfl (op_ixu (k) rfl aw24 (ev1 rfl) (ev1 rfl) (fun _ => rfl) (by omega) (c9_at v _ (by omega))) ?_
      refine zab rfl rfl rfl (zad (.inr rfl) (ev1 rfl)) ?_
      refine zab rfl rfl rfl (zad (.inr rfl) (ev1 rfl)) ?_
      refine zae ?_
      refine zaf ?_
      refine zac ?_
      refine zab rfl rfl rfl (zad (.inl rfl) (ev1 rfl)) ?_
      refine zab rfl rfl rfl (op_gtr rfl (ev1 rfl) (ev1 rfl)) ?_
      refine zab rfl rfl rfl (zad (.inl rfl) (ev1 rfl)) ?_
      refine zag (gd_f rfl rfl rfl) rfl rfl rfl (zad (.inl rfl) (ev1 rfl)) ?_
      refine zag (gd_f rfl rfl rfl) rfl rfl rfl (op_eql rfl (ev2 rfl) (ev1 rfl)) ?_
      refine zag (gd_f rfl rfl rfl) rfl rfl rfl (zad (.inl rfl) (ev2 rfl)) ?_
      refine zag (gd_tt rfl rfl rfl) rfl rfl rfl (zad (.inl rfl) (ev1 rfl)) ?_
      refine zag (gd_tt rfl rfl rfl) rfl rfl rfl (op_gtr rfl (ev2 rfl) (ev1 rfl)) ?_
      refine zag (gd_f rfl rfl rfl) rfl rfl rfl (op_and rfl (ev2 rfl) (ev2 rfl)) ?_
      refine zab rfl rfl rfl (op_or rfl (ev1 rfl) (ev3 rfl id)) ?_
      refine zae ?_
      refine dwp_cond rfl (fun c2 => ?_) (fun c2 => ?_)
      · try simp only [decide_eq_true_eq, decide_eq_false_iff_not, beq_iff_eq, bne_iff_ne, beq_eq_false_iff_ne, bne_eq_false_iff_eq, Bool.not_eq_true', Bool.not_eq_false', Bool.and_eq_true, Bool.or_eq_true, Bool.or_eq_false_iff, ne_eq, Decidable.not_not, Int.not_lt, Int.not_le] at c2
        refine zaf ?_
        refine zac ?_
        refine zab rfl rfl rfl (zad (.inr rfl) (ev1 rfl)) ?_
        refine zae ?_
        refine dwp_ret ?_
        refine kend0 (rs1 rfl (rv_t rfl)) rfl ?_
        rw [vB_no (i := k) (by omega) (fun h => by unfold vOne at h; omega)]
        rfl
      · try simp only [decide_eq_true_eq, decide_eq_false_iff_not, beq_iff_eq, bne_iff_ne, beq_eq_false_iff_ne, bne_eq_false_iff_eq, Bool.not_eq_true', Bool.not_eq_false', Bool.and_eq_true, Bool.or_eq_true, Bool.or_eq_false_iff, ne_eq, Decidable.not_not, Int.not_lt, Int.not_le] at c2
        have hov : vOne v k := ⟨by simp at c2; omega, fun e => by simp at c2; omega⟩
        refine dwp_skip ?_
        refine zac ?_
        refine zab rfl rfl rfl (op_add' rfl (ev1 rfl) (ev1 rfl) (fun _ => IntWalk.i64_in _ (by omega))) ?_
        refine zab rfl rfl rfl (zad (.inl rfl) (ev1 rfl)) ?_
        refine zae ?_
        refine ⟨k + 1, [0], ⟨by omega, vOne_step he hov⟩, by simp only []; omega, rfl, ⟨rfl, rfl, trivial⟩, ⟨rfl, trivial⟩⟩
    · try simp only [decide_eq_true_eq, decide_eq_false_iff_not, beq_iff_eq, bne_iff_ne, beq_eq_false_iff_ne, bne_eq_false_iff_eq, Bool.not_eq_true', Bool.not_eq_false', Bool.and_eq_true, Bool.or_eq_true, Bool.or_eq_false_iff, ne_eq, Decidable.not_not, Int.not_lt, Int.not_le] at c2
      refine dwp_exit ?_
      refine zaf ?_
      refine zac ?_
      refine zab rfl rfl rfl (zad (.inr rfl) (ev1 rfl)) ?_
      refine zae ?_
      refine dwp_ret ?_
      refine kend0 (rs1 rfl (rv_t rfl)) rfl ?_
      rw [vB_all.2 fun i hi => he i (by omega)]
      rfl
end Go.Proofs.YtbcnaacgillhcaaGreat
namespace Go.Proofs.YtbcnaacgillhcaaGreat
set_option linter.unusedVariables false
set_option linter.unusedSimpArgs false
open Go.RowKit
theorem sl101 : slE Tryz.prog 101 = some (24, 9, 72) := by kernel_rfl
theorem tb22 : tyB Tryz.prog 22 = some (false, 1) := by kernel_rfl
theorem tb4 : tyB Tryz.prog 4 = some (false, 1) := by kernel_rfl
theorem zr4 : zrC Tryz.prog 4 = some [.bool false] := by kernel_rfl
set_option maxRecDepth 4000 in
set_option maxHeartbeats 1000000 in
theorem are_d (l : List Vec) : DFun Tryz.prog 31 [.slf 9 (l).length ((l).flatMap c9)] [] (.val (.bool (l.all vB))) [] := by
  refine dcalls_go (N := 15) 0 (by kernel_rfl) Tryz.func31 rfl rfl rfl (by simp only [fr0, Nat.zero_add, Nat.reduceAdd]; exact rfl) rfl fun s0 hs0 => ?_
  refine dwp_len (t := 0) rfl fun hl0 hL0 => ?_
  refine zaf ?_
  refine zac ?_
  refine zab rfl rfl rfl (zad (.inr rfl) (ev1 rfl)) ?_
  refine zae ?_
  refine zaf ?_
  refine zaf ?_
  refine zac ?_
  refine zab rfl rfl rfl (zad (.inl rfl) (ev1 rfl)) ?_
  refine zab rfl rfl rfl (op_len rfl sl101 (ev1 rfl)) ?_
  refine zab rfl rfl rfl (zad (.inl rfl) (ev1 rfl)) ?_
  refine zae ?_
  refine dwp_block ?_
  refine dwp_loopS ⟨hs0, rfl⟩ (α := Nat) (fun k => [(7, .val (.int .i64 (k : Int)))]) [(5, _), (6, _)] (fun k => []) [] (fun k => k ≤ l.length ∧ (l.take k).all vB = true) (fun k => l.length - k) 0 [] (by simp) rfl ⟨rfl, rfl, trivial⟩ ⟨rfl, trivial⟩ trivial ?_
  intro k hx
  simp only [upd, za, zaa, List.cons_append, List.nil_append]
  obtain ⟨hk, he⟩ := hx
  refine zaf ?_
  refine zac ?_
  refine zab rfl rfl rfl (op_lss rfl (ev1 rfl) (ev1 rfl)) ?_
  refine zae ?_
  refine zaf ?_
  refine dwp_cond rfl (fun c1 => ?_) (fun c1 => ?_)
  · try simp only [decide_eq_true_eq, decide_eq_false_iff_not, beq_iff_eq, bne_iff_ne, beq_eq_false_iff_ne, bne_eq_false_iff_eq, Bool.not_eq_true', Bool.not_eq_false', Bool.and_eq_true, Bool.or_eq_true, Bool.or_eq_false_iff, ne_eq, Decidable.not_not, Int.not_lt, Int.not_le] at c1
    refine dwp_skip ?_
    refine zaf ?_
    refine dwp_block ?_
    refine zaf ?_
    refine zah 1 (by simp only [holes, List.cons_append, List.nil_append]; exact rfl) ?_
    refine zac ?_
    refine zab rfl rfl rfl (op_ixsr (j := k) rfl sl101 (ev1 rfl) (ev1 rfl) (fun _ => rfl) (by decide) (by omega) (by omega)) ?_
    refine zab rfl rfl rfl (op_ldwd rfl tb24 (ev1 rfl) rfl) ?_
    refine walk_w rfl rfl rfl (op_alloc 0 rfl zr24 rfl) (by simp only [upd, za, zaa]; exact rfl) ?_
    refine walk_s rfl rfl (op_stwa rfl tb24 (ev1 rfl) (ev1 rfl) rfl rfl rfl rfl) (by simp only [upd, za, zaa]; exact rfl) ?_
    refine zae ?_
    refine zaf ?_
    refine zac ?_
    refine zab rfl rfl rfl (op_ldw rfl tb24 (ev1 rfl) rfl rfl) ?_
    refine zab rfl rfl rfl (zai [] [] [] rfl (ev1 rfl) (ec (ev1 rfl) en) rfl rfl (vCheck_d _) rfl rfl rfl rfl rfl rfl) ?_
    refine zab rfl rfl rfl (op_neq rfl (ev1 rfl) (ev1 rfl)) ?_
    refine zae ?_
    refine dwp_cond rfl (fun c2 => ?_) (fun c2 => ?_)
    · try simp only [decide_eq_true_eq, decide_eq_false_iff_not, beq_iff_eq, bne_iff_ne, beq_eq_false_iff_ne, bne_eq_false_iff_eq, Bool.not_eq_true', Bool.not_eq_false', Bool.and_eq_true, Bool.or_eq_true, Bool.or_eq_false_iff, ne_eq, Decidable.not_not, Int.not_lt, Int.not_le] at c2
      refine zaf ?_
      refine zac ?_
      refine zab rfl rfl rfl (zad (.inr rfl) (ev1 rfl)) ?_
      refine zae ?_
      refine dwp_ret ?_
      refine kend0 (rs1 rfl (rv_t rfl)) rfl ?_
      rw [show l.all vB = false from List.all_eq_false.2 ⟨l[k], List.getElem_mem _, by rw [badE c2]; decide⟩]
    · try simp only [decide_eq_true_eq, decide_eq_false_iff_not, beq_iff_eq, bne_iff_ne, beq_eq_false_iff_ne, bne_eq_false_iff_eq, Bool.not_eq_true', Bool.not_eq_false', Bool.and_eq_true, Bool.or_eq_true, Bool.or_eq_false_iff, ne_eq, Decidable.not_not, Int.not_lt, Int.not_le] at c2
      refine dwp_skip ?_
      refine zac ?_
      refine zab rfl rfl rfl (op_add' rfl (ev1 rfl) (ev1 rfl) (fun _ => IntWalk.i64_in _ (by omega))) ?_
      refine zab rfl rfl rfl (zad (.inl rfl) (ev1 rfl)) ?_
      refine zae ?_
      refine ⟨k + 1, [], ⟨by omega, by rw [List.take_succ_eq_append_getElem (by omega), List.all_append, he]; simp [okE (by decide) c2]⟩, by simp only []; omega, rfl, ⟨rfl, rfl, rfl, trivial⟩, trivial⟩
  · try simp only [decide_eq_true_eq, decide_eq_false_iff_not, beq_iff_eq, bne_iff_ne, beq_eq_false_iff_ne, bne_eq_false_iff_eq, Bool.not_eq_true', Bool.not_eq_false', Bool.and_eq_true, Bool.or_eq_true, Bool.or_eq_false_iff, ne_eq, Decidable.not_not, Int.not_lt, Int.not_le] at c1
    refine dwp_exit ?_
    refine zaf ?_
    refine zac ?_
    refine zab rfl rfl rfl (zad (.inr rfl) (ev1 rfl)) ?_
    refine zae ?_
    refine dwp_ret ?_
    refine kend0 (rs1 rfl (rv_t rfl)) rfl ?_
    rw [List.take_of_length_le (by omega)] at he
    rw [he]
set_option maxRecDepth 4000 in
set_option maxHeartbeats 1000000 in
theorem vsites_d : DFun Tryz.prog 53 [] [] (.fn (.func 64) [] []) [] := by
  refine dcalls_go (N := 1) 0 (by kernel_rfl) Tryz.func53 rfl rfl rfl (by simp only [fr0, Nat.zero_add, Nat.reduceAdd]; exact rfl) rfl fun s0 hs0 => ?_
  refine zaf ?_
  refine zac ?_
  refine zab rfl rfl rfl (zad (.inr rfl) (ev1 rfl)) ?_
  refine zae ?_
  refine zaf ?_
  refine zac ?_
  refine zab rfl rfl rfl (zad (.inr rfl) (ev1 rfl)) ?_
  refine zae ?_
  refine dwp_ret ?_
  refine kend0 (rs1 rfl (rv_t rfl)) rfl ?_
  rfl
noncomputable def covA : Code := rfA (pth [1, 0, 1, 1, 0, 1, 0] (bodyOf Tryz.f37))
noncomputable def covB : Code := rfB (pth [1, 0, 1, 1, 0, 1, 0] (bodyOf Tryz.f37))
set_option maxRecDepth 4000 in
set_option maxHeartbeats 1000000 in
theorem covRound_true (v w : Vec) (j : Nat) (hj : j < 9) (b : Bool) (h : w j ≤ v j) : DRound Tryz.prog 0 [.val (.int .i64 (j : Int))] [.lp 21 [(2, .loc 1 0), (3, .loc 2 0), (5, .loc 3 0)] #[12] covA covB .ready none, .flat 24 (c9 v), .flat 24 (c9 w), .flat 4 [.bool b]] true [.lp 21 [(2, .loc 1 0), (3, .loc 2 0), (5, .loc 3 0)] #[12] covA covB .ready none, .flat 24 (c9 v), .flat 24 (c9 w), .flat 4 [.bool b]] := by
  refine dround_go 4 rfl rfl (by simp) rfl rfl fun s0 hs0 => ?_
  refine zac ?_
  refine zab rfl rfl rfl (zad (.inr rfl) (ev1 rfl)) ?_
  refine zae ?_
  refine ⟨rfl, ?_⟩
  simp only [za, zaa]
  refine dwp_block ?_
  refine zaf ?_
  refine dwp_draw [([], []), ([], []), ([1], []), ([], []), ([], []), ([2], []), ([], [])] mixed (by kernel_rfl) ?_
  refine lex_r rfl rfl (zad (.inl rfl) (ev1 rfl)) ?_
  refine lex_r rfl rfl (op_ixl rfl ar24 (ev1 rfl) (ev1 rfl) (fun _ => by omega)) ?_
  refine lex_r rfl rfl (op_ldo rfl tb22 (ev1 rfl) rfl (c9_atp (j := j) (by simp) hj)) ?_
  refine lex_r rfl rfl (zad (.inl rfl) (ev1 rfl)) ?_
  refine lex_r rfl rfl (op_ixl rfl ar24 (ev1 rfl) (ev1 rfl) (fun _ => by omega)) ?_
  refine lex_r rfl rfl (op_ldo rfl tb22 (ev1 rfl) rfl (c9_atp (j := j) (by simp) hj)) ?_
  refine lex_r rfl rfl (op_lss rfl (ev1 rfl) (ev1 rfl)) ?_
  refine lex_nil ?_
  refine dwp_cond rfl (fun c1 => ?_) (fun c1 => ?_)
  · exact absurd c1 (by simp; omega)
  · try simp only [decide_eq_true_eq, decide_eq_false_iff_not, beq_iff_eq, bne_iff_ne, beq_eq_false_iff_ne, bne_eq_false_iff_eq, Bool.not_eq_true', Bool.not_eq_false', Bool.and_eq_true, Bool.or_eq_true, Bool.or_eq_false_iff, ne_eq, Decidable.not_not, Int.not_lt, Int.not_le] at c1
    refine dwp_skip ?_
    refine ⟨by first | rfl | assumption | simp_all, rfl, [0, 1, 2, 3], rfl, ⟨rfl, rfl, rfl, rfl, trivial⟩⟩
set_option maxRecDepth 4000 in
set_option maxHeartbeats 1000000 in
theorem covRound_false (v w : Vec) (j : Nat) (hj : j < 9) (b : Bool) (h : ¬ w j ≤ v j) : DRound Tryz.prog 0 [.val (.int .i64 (j : Int))] [.lp 21 [(2, .loc 1 0), (3, .loc 2 0), (5, .loc 3 0)] #[12] covA covB .ready none, .flat 24 (c9 v), .flat 24 (c9 w), .flat 4 [.bool b]] false [.lp 21 [(2, .loc 1 0), (3, .loc 2 0), (5, .loc 3 0)] #[12] covA covB .done (some (.exit 0)), .flat 24 (c9 v), .flat 24 (c9 w), .flat 4 [.bool false]] := by
  refine dround_go 4 rfl rfl (by simp) rfl rfl fun s0 hs0 => ?_
  refine zac ?_
  refine zab rfl rfl rfl (zad (.inr rfl) (ev1 rfl)) ?_
  refine zae ?_
  refine ⟨rfl, ?_⟩
  simp only [za, zaa]
  refine dwp_block ?_
  refine zaf ?_
  refine dwp_draw [([], []), ([], []), ([1], []), ([], []), ([], []), ([2], []), ([], [])] mixed (by kernel_rfl) ?_
  refine lex_r rfl rfl (zad (.inl rfl) (ev1 rfl)) ?_
  refine lex_r rfl rfl (op_ixl rfl ar24 (ev1 rfl) (ev1 rfl) (fun _ => by omega)) ?_
  refine lex_r rfl rfl (op_ldo rfl tb22 (ev1 rfl) rfl (c9_atp (j := j) (by simp) hj)) ?_
  refine lex_r rfl rfl (zad (.inl rfl) (ev1 rfl)) ?_
  refine lex_r rfl rfl (op_ixl rfl ar24 (ev1 rfl) (ev1 rfl) (fun _ => by omega)) ?_
  refine lex_r rfl rfl (op_ldo rfl tb22 (ev1 rfl) rfl (c9_atp (j := j) (by simp) hj)) ?_
  refine lex_r rfl rfl (op_lss rfl (ev1 rfl) (ev1 rfl)) ?_
  refine lex_nil ?_
  refine dwp_cond rfl (fun c1 => ?_) (fun c1 => ?_)
  · try simp only [decide_eq_true_eq, decide_eq_false_iff_not, beq_iff_eq, bne_iff_ne, beq_eq_false_iff_ne, bne_eq_false_iff_eq, Bool.not_eq_true', Bool.not_eq_false', Bool.and_eq_true, Bool.or_eq_true, Bool.or_eq_false_iff, ne_eq, Decidable.not_not, Int.not_lt, Int.not_le] at c1
    refine zaf ?_
    refine zac ?_
    refine walk_s rfl rfl (op_stwb rfl tb4 (ev1 rfl) (ev1 rfl) rfl) (by simp only [upd, za, zaa]; exact rfl) ?_
    refine zae ?_
    refine dwp_exit ?_
    refine ⟨by first | rfl | assumption | simp_all, rfl, [0, 1, 2, 3], rfl, ⟨rfl, rfl, rfl, rfl, trivial⟩⟩
  · exact absurd c1 (by simp; omega)
theorem covRound (v w : Vec) (j : Nat) (hj : j < 9) (b : Bool) : DRound Tryz.prog 0 [.val (.int .i64 (j : Int))] [.lp 21 [(2, .loc 1 0), (3, .loc 2 0), (5, .loc 3 0)] #[12] covA covB .ready none, .flat 24 (c9 v), .flat 24 (c9 w), .flat 4 [.bool b]] (decide (w j ≤ v j)) [.lp 21 [(2, .loc 1 0), (3, .loc 2 0), (5, .loc 3 0)] #[12] covA covB (rst (decide (w j ≤ v j))) (rpe (.exit 0) (decide (w j ≤ v j))), .flat 24 (c9 v), .flat 24 (c9 w), .flat 4 [.bool (b && decide (w j ≤ v j))]] := by
  by_cases h : w j ≤ v j
  · rw [decide_eq_true h, Bool.and_true]
    exact covRound_true v w j hj b h
  · rw [decide_eq_false h, Bool.and_false]
    exact covRound_false v w j hj b h
set_option maxRecDepth 4000 in
set_option maxHeartbeats 1000000 in
theorem vs1_cov (v w : Vec) (b : Bool) : DFun Tryz.prog 64 [.yld 0] [.lp 21 [(2, .loc 1 0), (3, .loc 2 0), (5, .loc 3 0)] #[12] covA covB .ready none, .flat 24 (c9 v), .flat 24 (c9 w), .flat 4 [.bool b]] (.tup []) [.lp 21 [(2, .loc 1 0), (3, .loc 2 0), (5, .loc 3 0)] #[12] covA covB (rst (cvF v w 1)) (rpe (.exit 0) (cvF v w 1)), .flat 24 (c9 v), .flat 24 (c9 w), .flat 4 [.bool (b && cvF v w 1)]] := by
  refine dcalls_go (N := 11) 4 (by kernel_rfl) Tryz.func64 rfl rfl rfl (by simp only [fr0, Nat.zero_add, Nat.reduceAdd]; exact rfl) rfl fun s0 hs0 => ?_
  refine zaf ?_
  refine zac ?_
  refine zab rfl rfl rfl (zad (.inr rfl) (ev1 rfl)) ?_
  refine zae ?_
  refine dwp_block ?_
  refine dwp_loopS ⟨hs0, rfl⟩ (α := Nat) (fun k => [(2, .val (.int .i64 (k : Int)))]) [(0, _)] (fun k => []) [_, _, _, _] (fun k => 1 ≤ k ∧ k ≤ 9 ∧ cvF v w 1 = cvF v w k) (fun k => 9 - k) 1 [0, 1, 2, 3] (by simp) rfl ⟨rfl, trivial⟩ ⟨rfl, trivial⟩ ⟨rfl, rfl, rfl, rfl, trivial⟩ ?_
  intro k hx
  simp only [upd, za, zaa, List.cons_append, List.nil_append]
  obtain ⟨hk1, hk, he⟩ := hx
  refine zaf ?_
  refine zaf ?_
  refine zac ?_
  refine zab rfl rfl rfl (zad (.inl rfl) (ev1 rfl)) ?_
  refine zab rfl rfl rfl (op_leq rfl (ev1 rfl) (ev1 rfl)) ?_
  refine zae ?_
  refine dwp_cond rfl (fun c1 => ?_) (fun c1 => ?_)
  · try simp only [decide_eq_true_eq, decide_eq_false_iff_not, beq_iff_eq, bne_iff_ne, beq_eq_false_iff_ne, bne_eq_false_iff_eq, Bool.not_eq_true', Bool.not_eq_false', Bool.and_eq_true, Bool.or_eq_true, Bool.or_eq_false_iff, ne_eq, Decidable.not_not, Int.not_lt, Int.not_le] at c1
    refine dwp_skip ?_
    refine zaf ?_
    refine dwp_block ?_
    refine zaf ?_
    refine zac ?_
    refine zab rfl rfl rfl (zad (.inl rfl) (ev1 rfl)) ?_
    refine zab rfl rfl rfl (zad (.inl rfl) (ev1 rfl)) ?_
    refine walk_w rfl rfl rfl (op_y (i := 0) [0, 1, 2, 3] [] [] rfl (ev1 rfl) (ec (ev1 rfl) en) rfl rfl rfl (covRound v w k (by omega) b) rfl rfl rfl rfl rfl) (by simp only [upd, za, zaa]; exact rfl) ?_
    refine zab rfl rfl rfl (op_not rfl (ev1 rfl)) ?_
    refine zae ?_
    refine dwp_cond rfl (fun c2 => ?_) (fun c2 => ?_)
    · have c2 : decide (w k ≤ v k) = false := by simpa using c2
      refine dwp_ret ?_
      have e2 : cvF v w 1 = false := by rw [he, cvF_step v w (by omega), c2]; rfl
      rw [e2, c2]
      refine kend [0, 1, 2, 3] (res_none rfl) rfl rfl ?_ ⟨rfl, rfl, rfl, rfl, trivial⟩
      rfl
    · have c2 : decide (w k ≤ v k) = true := by simpa using c2
      refine dwp_skip ?_
      refine zac ?_
      refine zab rfl rfl rfl (zad (.inl rfl) (ev1 rfl)) ?_
      refine zab rfl rfl rfl (op_add' rfl (ev1 rfl) (ev1 rfl) (fun _ => IntWalk.i64_in _ (by omega))) ?_
      refine zab rfl rfl rfl (zad (.inr rfl) (ev1 rfl)) ?_
      refine zae ?_
      rw [c2, Bool.and_true]
      refine ⟨k + 1, [0, 1, 2, 3], ⟨by omega, by omega, by rw [he, cvF_step v w (by omega), c2, Bool.true_and]⟩, by simp only []; omega, rfl, ⟨rfl, rfl, trivial⟩, ⟨rfl, rfl, rfl, rfl, trivial⟩⟩
  · try simp only [decide_eq_true_eq, decide_eq_false_iff_not, beq_iff_eq, bne_iff_ne, beq_eq_false_iff_ne, bne_eq_false_iff_eq, Bool.not_eq_true', Bool.not_eq_false', Bool.and_eq_true, Bool.or_eq_true, Bool.or_eq_false_iff, ne_eq, Decidable.not_not, Int.not_lt, Int.not_le] at c1
    refine dwp_exit ?_
    have e2 : cvF v w 1 = true := by rw [he, show k = 9 by omega, cvF_end]
    rw [e2, Bool.and_true]
    refine kend [0, 1, 2, 3] (res_none rfl) rfl rfl ?_ ⟨rfl, rfl, rfl, rfl, trivial⟩
    rfl
set_option maxRecDepth 4000 in
set_option maxHeartbeats 1000000 in
theorem covers_d (v w : Vec) : DFun Tryz.prog 37 [.val (.agg (c9 v).toArray), .val (.agg (c9 w).toArray)] [] (.val (.bool (coB v w))) [] := by
  refine dcalls_go (N := 21) 0 (by kernel_rfl) Tryz.func37 rfl rfl rfl (by simp only [fr0, Nat.zero_add, Nat.reduceAdd]; exact rfl) rfl fun s0 hs0 => ?_
  refine zaf ?_
  refine zah 2 (by simp only [holes, List.cons_append, List.nil_append]; exact rfl) ?_
  refine zac ?_
  refine walk_w rfl rfl rfl (op_boxa 0 rfl (ev1 rfl) rfl) (by simp only [upd, za, zaa]; exact rfl) ?_
  refine walk_w rfl rfl rfl (op_boxa 1 rfl (ev1 rfl) rfl) (by simp only [upd, za, zaa]; exact rfl) ?_
  refine zab rfl rfl rfl (zad (.inr rfl) (ev1 rfl)) ?_
  refine zae ?_
  refine dwp_scope ?_
  refine zaf ?_
  refine zah 1 (by simp only [holes, List.cons_append, List.nil_append]; exact rfl) ?_
  refine zac ?_
  refine zab rfl rfl rfl (op_ldw rfl tb24 (ev1 rfl) rfl rfl) ?_
  refine zab rfl rfl rfl (op_ldw rfl tb24 (ev1 rfl) rfl rfl) ?_
  refine zab rfl rfl rfl (op_bs (ps := [(0, .tmp 7), (1, .tmp 8)]) rfl sl101 zr24 rfl (vc (ev1 rfl) (vc (ev1 rfl) vn)) rfl (by decide) (by decide)) ?_
  refine zab rfl rfl rfl (zai [] [] [] rfl (ev1 rfl) (ec (ev1 rfl) en) rfl rfl (are_d [v, w]) rfl rfl rfl rfl rfl rfl) ?_
  refine walk_w rfl rfl rfl (op_alloc 2 rfl zr4 rfl) (by simp only [upd, za, zaa]; exact rfl) ?_
  refine walk_s rfl rfl (op_stwb rfl tb4 (ev1 rfl) (ev1 rfl) rfl) (by simp only [upd, za, zaa]; exact rfl) ?_
  refine zae ?_
  refine zaf ?_
  refine dwp_label ?_
  refine zaf ?_
  refine zaf ?_
  refine zac ?_
  refine zab rfl rfl rfl (zai [] [] [] rfl (ev1 rfl) en rfl rfl (vsites_d) rfl rfl rfl rfl rfl rfl) ?_
  refine zae ?_
  refine dwp_block ?_
  refine dwp_hole ?_
  simp only [List.cons_append, List.nil_append]
  refine dwp_rf (FL := [(2, _), (3, _), (5, _)]) (st := (rst (cvF v w 1))) (pe := (rpe (.exit 0) (cvF v w 1))) [3, 0, 1, 2] [] [] 3 rfl rfl (ev1 rfl) rfl (subF_lk ⟨rfl, rfl, rfl, trivial⟩) rfl rfl rfl (vs1_cov v w _) rfl rfl rfl rfl rfl rfl rfl (rst_busy _) (fun e => ?_) (fun c e => ?_)
  · simp only [upd, za, zaa]
    refine zaf ?_
    refine zac ?_
    refine zab rfl rfl rfl (op_ldo rfl tb4 (ev1 rfl) rfl rfl) ?_
    refine zab rfl rfl rfl (zad (.inr rfl) (ev1 rfl)) ?_
    refine zae ?_
    refine dwp_ret ?_
    refine kend0 (rs1 rfl (rv_t rfl)) rfl ?_
    rw [← coB_cv]
    rfl
  · obtain ⟨e1, rfl⟩ : cvF v w 1 = false ∧ c = .exit 0 := by
      cases h : cvF v w 1 <;> simp_all [rpe]
    simp only [upd, za, zaa]
    refine dwp_exit ?_
    refine zaf ?_
    refine zac ?_
    refine zab rfl rfl rfl (op_ldo rfl tb4 (ev1 rfl) rfl rfl) ?_
    refine zab rfl rfl rfl (zad (.inr rfl) (ev1 rfl)) ?_
    refine zae ?_
    refine dwp_ret ?_
    refine kend0 (rs1 rfl (rv_t rfl)) rfl ?_
    rw [← coB_cv]
    rfl
end Go.Proofs.YtbcnaacgillhcaaGreat
namespace Go.Proofs.YtbcnaacgillhcaaGreat
set_option linter.unusedVariables false
set_option linter.unusedSimpArgs false
open Go.RowKit
theorem eq37 {a b : I3} : eqT Tryz.prog 9 37 (idc a) (idc b) = some (eqI a b) := by kernel_rfl
theorem fo37_0 : fdO Tryz.prog 37 0 = some 0 := by kernel_rfl
theorem fo37_1 : fdO Tryz.prog 37 1 = some 1 := by kernel_rfl
theorem fo37_2 : fdO Tryz.prog 37 2 = some 2 := by kernel_rfl
theorem gd37 : Tryz.prog.eqGuardType Tryz.prog.depth 37 = false := by kernel_rfl
theorem sl124 : slE Tryz.prog 124 = some (3, 1, 8) := by kernel_rfl
theorem tb3 : tyB Tryz.prog 3 = some (false, 1) := by kernel_rfl
theorem tb37 : tyB Tryz.prog 37 = some (true, 3) := by kernel_rfl
theorem zr3 : zrC Tryz.prog 3 = some [.int .i64 0] := by kernel_rfl
set_option maxRecDepth 4000 in
set_option maxHeartbeats 1000000 in
theorem isNaN_u64 (n : Int) : DFun Tryz.prog 62 [.val (.int .u64 n)] [] (.val (.bool false)) [] := by
  refine dcalls_go (N := 6) 0 (by kernel_rfl) Tryz.func62 rfl rfl rfl (by simp only [fr0, Nat.zero_add, Nat.reduceAdd]; exact rfl) rfl fun s0 hs0 => ?_
  refine zaf ?_
  refine zac ?_
  refine zab rfl rfl rfl (zad (.inr rfl) (ev1 rfl)) ?_
  refine zae ?_
  refine zaf ?_
  refine zac ?_
  refine zab rfl rfl rfl (zad (.inl rfl) (ev1 rfl)) ?_
  refine zab rfl rfl rfl (zad (.inl rfl) (ev1 rfl)) ?_
  refine zab rfl rfl rfl (op_neq rfl (ev1 rfl) (ev1 rfl)) ?_
  refine zab rfl rfl rfl (zad (.inr rfl) (ev1 rfl)) ?_
  refine zae ?_
  refine dwp_ret ?_
  refine kend0 (rs1 rfl (rv_t rfl)) rfl ?_
  simp
set_option maxRecDepth 4000 in
set_option maxHeartbeats 1000000 in
theorem cmp_u64 (x y : Int) : DFun Tryz.prog 49 [.val (.int .u64 x), .val (.int .u64 y)] [] (.val (.int .i64 (cmpI x y))) [] := by
  refine dcalls_go (N := 20) 0 (by kernel_rfl) Tryz.func49 rfl rfl rfl (by simp only [fr0, Nat.zero_add, Nat.reduceAdd]; exact rfl) rfl fun s0 hs0 => ?_
  refine zaf ?_
  refine zac ?_
  refine zab rfl rfl rfl (zad (.inr rfl) (ev1 rfl)) ?_
  refine zae ?_
  refine zaf ?_
  refine zac ?_
  refine zab rfl rfl rfl (zad (.inl rfl) (ev1 rfl)) ?_
  refine zab rfl rfl rfl (zai [] [] [] rfl (ev1 rfl) (ec (ev1 rfl) en) rfl rfl (isNaN_u64 _) rfl rfl rfl rfl rfl rfl) ?_
  refine zab rfl rfl rfl (zad (.inr rfl) (ev1 rfl)) ?_
  refine zae ?_
  refine zaf ?_
  refine zac ?_
  refine zab rfl rfl rfl (zad (.inl rfl) (ev1 rfl)) ?_
  refine zab rfl rfl rfl (zai [] [] [] rfl (ev1 rfl) (ec (ev1 rfl) en) rfl rfl (isNaN_u64 _) rfl rfl rfl rfl rfl rfl) ?_
  refine zab rfl rfl rfl (zad (.inr rfl) (ev1 rfl)) ?_
  refine zae ?_
  refine zaf ?_
  refine zaf ?_
  refine zac ?_
  refine zab rfl rfl rfl (zad (.inl rfl) (ev1 rfl)) ?_
  refine zae ?_
  refine dwp_if_f rfl (rfl) ?_
  refine dwp_skip ?_
  refine zaf ?_
  refine zaf ?_
  refine zac ?_
  refine zab rfl rfl rfl (zad (.inl rfl) (ev1 rfl)) ?_
  refine zae ?_
  refine dwp_if_f rfl (rfl) ?_
  refine dwp_skip ?_
  refine zaf ?_
  refine zaf ?_
  refine zac ?_
  refine zab rfl rfl rfl (zad (.inl rfl) (ev1 rfl)) ?_
  refine zab rfl rfl rfl (zad (.inl rfl) (ev1 rfl)) ?_
  refine zab rfl rfl rfl (op_lss rfl (ev1 rfl) (ev1 rfl)) ?_
  refine zae ?_
  refine dwp_cond rfl (fun c3 => ?_) (fun c3 => ?_)
  · try simp only [decide_eq_true_eq, decide_eq_false_iff_not, beq_iff_eq, bne_iff_ne, beq_eq_false_iff_ne, bne_eq_false_iff_eq, Bool.not_eq_true', Bool.not_eq_false', Bool.and_eq_true, Bool.or_eq_true, Bool.or_eq_false_iff, ne_eq, Decidable.not_not, Int.not_lt, Int.not_le] at c3
    refine zaf ?_
    refine zac ?_
    refine zab rfl rfl rfl (zad (.inr rfl) (ev1 rfl)) ?_
    refine zae ?_
    refine dwp_ret ?_
    refine kend0 (rs1 rfl (rv_t rfl)) rfl ?_
    simp_all [cmpI]; try omega
  · try simp only [decide_eq_true_eq, decide_eq_false_iff_not, beq_iff_eq, bne_iff_ne, beq_eq_false_iff_ne, bne_eq_false_iff_eq, Bool.not_eq_true', Bool.not_eq_false', Bool.and_eq_true, Bool.or_eq_true, Bool.or_eq_false_iff, ne_eq, Decidable.not_not, Int.not_lt, Int.not_le] at c3
    refine dwp_skip ?_
    refine zaf ?_
    refine zaf ?_
    refine zac ?_
    refine zab rfl rfl rfl (zad (.inl rfl) (ev1 rfl)) ?_
    refine zab rfl rfl rfl (zad (.inl rfl) (ev1 rfl)) ?_
    refine zab rfl rfl rfl (op_gtr rfl (ev1 rfl) (ev1 rfl)) ?_
    refine zae ?_
    refine dwp_cond rfl (fun c4 => ?_) (fun c4 => ?_)
    · try simp only [decide_eq_true_eq, decide_eq_false_iff_not, beq_iff_eq, bne_iff_ne, beq_eq_false_iff_ne, bne_eq_false_iff_eq, Bool.not_eq_true', Bool.not_eq_false', Bool.and_eq_true, Bool.or_eq_true, Bool.or_eq_false_iff, ne_eq, Decidable.not_not, Int.not_lt, Int.not_le] at c4
      refine zaf ?_
      refine zac ?_
      refine zab rfl rfl rfl (zad (.inr rfl) (ev1 rfl)) ?_
      refine zae ?_
      refine dwp_ret ?_
      refine kend0 (rs1 rfl (rv_t rfl)) rfl ?_
      simp_all [cmpI]; try omega
    · try simp only [decide_eq_true_eq, decide_eq_false_iff_not, beq_iff_eq, bne_iff_ne, beq_eq_false_iff_ne, bne_eq_false_iff_eq, Bool.not_eq_true', Bool.not_eq_false', Bool.and_eq_true, Bool.or_eq_true, Bool.or_eq_false_iff, ne_eq, Decidable.not_not, Int.not_lt, Int.not_le] at c4
      refine dwp_skip ?_
      refine zaf ?_
      refine zac ?_
      refine zab rfl rfl rfl (zad (.inr rfl) (ev1 rfl)) ?_
      refine zae ?_
      refine dwp_ret ?_
      refine kend0 (rs1 rfl (rv_t rfl)) rfl ?_
      simp_all [cmpI]; try omega
set_option maxRecDepth 4000 in
set_option maxHeartbeats 1000000 in
theorem isNaN_i64 (n : Int) : DFun Tryz.prog 63 [.val (.int .i64 n)] [] (.val (.bool false)) [] := by
  refine dcalls_go (N := 6) 0 (by kernel_rfl) Tryz.func63 rfl rfl rfl (by simp only [fr0, Nat.zero_add, Nat.reduceAdd]; exact rfl) rfl fun s0 hs0 => ?_
  refine zaf ?_
  refine zac ?_
  refine zab rfl rfl rfl (zad (.inr rfl) (ev1 rfl)) ?_
  refine zae ?_
  refine zaf ?_
  refine zac ?_
  refine zab rfl rfl rfl (zad (.inl rfl) (ev1 rfl)) ?_
  refine zab rfl rfl rfl (zad (.inl rfl) (ev1 rfl)) ?_
  refine zab rfl rfl rfl (op_neq rfl (ev1 rfl) (ev1 rfl)) ?_
  refine zab rfl rfl rfl (zad (.inr rfl) (ev1 rfl)) ?_
  refine zae ?_
  refine dwp_ret ?_
  refine kend0 (rs1 rfl (rv_t rfl)) rfl ?_
  simp
set_option maxRecDepth 4000 in
set_option maxHeartbeats 1000000 in
theorem cmp_i64 (x y : Int) : DFun Tryz.prog 50 [.val (.int .i64 x), .val (.int .i64 y)] [] (.val (.int .i64 (cmpI x y))) [] := by
  refine dcalls_go (N := 20) 0 (by kernel_rfl) Tryz.func50 rfl rfl rfl (by simp only [fr0, Nat.zero_add, Nat.reduceAdd]; exact rfl) rfl fun s0 hs0 => ?_
  refine zaf ?_
  refine zac ?_
  refine zab rfl rfl rfl (zad (.inr rfl) (ev1 rfl)) ?_
  refine zae ?_
  refine zaf ?_
  refine zac ?_
  refine zab rfl rfl rfl (zad (.inl rfl) (ev1 rfl)) ?_
  refine zab rfl rfl rfl (zai [] [] [] rfl (ev1 rfl) (ec (ev1 rfl) en) rfl rfl (isNaN_i64 _) rfl rfl rfl rfl rfl rfl) ?_
  refine zab rfl rfl rfl (zad (.inr rfl) (ev1 rfl)) ?_
  refine zae ?_
  refine zaf ?_
  refine zac ?_
  refine zab rfl rfl rfl (zad (.inl rfl) (ev1 rfl)) ?_
  refine zab rfl rfl rfl (zai [] [] [] rfl (ev1 rfl) (ec (ev1 rfl) en) rfl rfl (isNaN_i64 _) rfl rfl rfl rfl rfl rfl) ?_
  refine zab rfl rfl rfl (zad (.inr rfl) (ev1 rfl)) ?_
  refine zae ?_
  refine zaf ?_
  refine zaf ?_
  refine zac ?_
  refine zab rfl rfl rfl (zad (.inl rfl) (ev1 rfl)) ?_
  refine zae ?_
  refine dwp_if_f rfl (rfl) ?_
  refine dwp_skip ?_
  refine zaf ?_
  refine zaf ?_
  refine zac ?_
  refine zab rfl rfl rfl (zad (.inl rfl) (ev1 rfl)) ?_
  refine zae ?_
  refine dwp_if_f rfl (rfl) ?_
  refine dwp_skip ?_
  refine zaf ?_
  refine zaf ?_
  refine zac ?_
  refine zab rfl rfl rfl (zad (.inl rfl) (ev1 rfl)) ?_
  refine zab rfl rfl rfl (zad (.inl rfl) (ev1 rfl)) ?_
  refine zab rfl rfl rfl (op_lss rfl (ev1 rfl) (ev1 rfl)) ?_
  refine zae ?_
  refine dwp_cond rfl (fun c3 => ?_) (fun c3 => ?_)
  · try simp only [decide_eq_true_eq, decide_eq_false_iff_not, beq_iff_eq, bne_iff_ne, beq_eq_false_iff_ne, bne_eq_false_iff_eq, Bool.not_eq_true', Bool.not_eq_false', Bool.and_eq_true, Bool.or_eq_true, Bool.or_eq_false_iff, ne_eq, Decidable.not_not, Int.not_lt, Int.not_le] at c3
    refine zaf ?_
    refine zac ?_
    refine zab rfl rfl rfl (zad (.inr rfl) (ev1 rfl)) ?_
    refine zae ?_
    refine dwp_ret ?_
    refine kend0 (rs1 rfl (rv_t rfl)) rfl ?_
    simp_all [cmpI]; try omega
  · try simp only [decide_eq_true_eq, decide_eq_false_iff_not, beq_iff_eq, bne_iff_ne, beq_eq_false_iff_ne, bne_eq_false_iff_eq, Bool.not_eq_true', Bool.not_eq_false', Bool.and_eq_true, Bool.or_eq_true, Bool.or_eq_false_iff, ne_eq, Decidable.not_not, Int.not_lt, Int.not_le] at c3
    refine dwp_skip ?_
    refine zaf ?_
    refine zaf ?_
    refine zac ?_
    refine zab rfl rfl rfl (zad (.inl rfl) (ev1 rfl)) ?_
    refine zab rfl rfl rfl (zad (.inl rfl) (ev1 rfl)) ?_
    refine zab rfl rfl rfl (op_gtr rfl (ev1 rfl) (ev1 rfl)) ?_
    refine zae ?_
    refine dwp_cond rfl (fun c4 => ?_) (fun c4 => ?_)
    · try simp only [decide_eq_true_eq, decide_eq_false_iff_not, beq_iff_eq, bne_iff_ne, beq_eq_false_iff_ne, bne_eq_false_iff_eq, Bool.not_eq_true', Bool.not_eq_false', Bool.and_eq_true, Bool.or_eq_true, Bool.or_eq_false_iff, ne_eq, Decidable.not_not, Int.not_lt, Int.not_le] at c4
      refine zaf ?_
      refine zac ?_
      refine zab rfl rfl rfl (zad (.inr rfl) (ev1 rfl)) ?_
      refine zae ?_
      refine dwp_ret ?_
      refine kend0 (rs1 rfl (rv_t rfl)) rfl ?_
      simp_all [cmpI]; try omega
    · try simp only [decide_eq_true_eq, decide_eq_false_iff_not, beq_iff_eq, bne_iff_ne, beq_eq_false_iff_ne, bne_eq_false_iff_eq, Bool.not_eq_true', Bool.not_eq_false', Bool.and_eq_true, Bool.or_eq_true, Bool.or_eq_false_iff, ne_eq, Decidable.not_not, Int.not_lt, Int.not_le] at c4
      refine dwp_skip ?_
      refine zaf ?_
      refine zac ?_
      refine zab rfl rfl rfl (zad (.inr rfl) (ev1 rfl)) ?_
      refine zae ?_
      refine dwp_ret ?_
      refine kend0 (rs1 rfl (rv_t rfl)) rfl ?_
      simp_all [cmpI]; try omega
set_option maxRecDepth 4000 in
set_option maxHeartbeats 1000000 in
theorem or_d (l : List Int) : DFun Tryz.prog 48 [.slf 1 (l).length ((l).flatMap inI)] [] (.val (.int .i64 (orL l))) [] := by
  refine dcalls_go (N := 18) 0 (by kernel_rfl) Tryz.func48 rfl rfl rfl (by simp only [fr0, Nat.zero_add, Nat.reduceAdd]; exact rfl) rfl fun s0 hs0 => ?_
  refine dwp_len (t := 0) rfl fun hl0 hL0 => ?_
  refine zaf ?_
  refine zac ?_
  refine zab rfl rfl rfl (zad (.inr rfl) (ev1 rfl)) ?_
  refine zae ?_
  refine zaf ?_
  refine zac ?_
  refine zab rfl rfl rfl (zad (.inr rfl) (ev1 rfl)) ?_
  refine zae ?_
  refine zaf ?_
  refine zaf ?_
  refine zac ?_
  refine zab rfl rfl rfl (zad (.inl rfl) (ev1 rfl)) ?_
  refine zab rfl rfl rfl (op_len rfl sl124 (ev1 rfl)) ?_
  refine zab rfl rfl rfl (zad (.inl rfl) (ev1 rfl)) ?_
  refine zae ?_
  refine dwp_block ?_
  refine dwp_loopS ⟨hs0, rfl⟩ (α := Nat) (fun k => [(8, .val (.int .i64 (k : Int)))]) [(3, _), (6, _), (7, _)] (fun k => []) [] (fun k => k ≤ l.length ∧ orL l = orL (l.drop k)) (fun k => l.length - k) 0 [] (by simp) rfl ⟨rfl, rfl, rfl, trivial⟩ ⟨rfl, trivial⟩ trivial ?_
  intro k hx
  simp only [upd, za, zaa, List.cons_append, List.nil_append]
  obtain ⟨hk, he⟩ := hx
  refine zaf ?_
  refine zac ?_
  refine zab rfl rfl rfl (op_lss rfl (ev1 rfl) (ev1 rfl)) ?_
  refine zae ?_
  refine zaf ?_
  refine dwp_cond rfl (fun c1 => ?_) (fun c1 => ?_)
  · try simp only [decide_eq_true_eq, decide_eq_false_iff_not, beq_iff_eq, bne_iff_ne, beq_eq_false_iff_ne, bne_eq_false_iff_eq, Bool.not_eq_true', Bool.not_eq_false', Bool.and_eq_true, Bool.or_eq_true, Bool.or_eq_false_iff, ne_eq, Decidable.not_not, Int.not_lt, Int.not_le] at c1
    refine dwp_skip ?_
    refine zaf ?_
    refine dwp_block ?_
    refine zaf ?_
    refine zac ?_
    refine zab rfl rfl rfl (op_ixsr rfl sl124 (ev1 rfl) (ev1 rfl) (fun _ => rfl) (by decide) rfl (by omega)) ?_
    refine zab rfl rfl rfl (op_ldod rfl tb3 (ev1 rfl) rfl) ?_
    refine zab rfl rfl rfl (zad (.inr rfl) (ev1 rfl)) ?_
    refine zae ?_
    refine zaf ?_
    refine zac ?_
    refine zab rfl rfl rfl (zad (.inl rfl) (ev1 rfl)) ?_
    refine zab rfl rfl rfl (zad (.inl rfl) (ev1 rfl)) ?_
    refine zab rfl rfl rfl (op_neq rfl (ev1 rfl) (ev1 rfl)) ?_
    refine zae ?_
    refine dwp_cond rfl (fun c2 => ?_) (fun c2 => ?_)
    · try simp only [decide_eq_true_eq, decide_eq_false_iff_not, beq_iff_eq, bne_iff_ne, beq_eq_false_iff_ne, bne_eq_false_iff_eq, Bool.not_eq_true', Bool.not_eq_false', Bool.and_eq_true, Bool.or_eq_true, Bool.or_eq_false_iff, ne_eq, Decidable.not_not, Int.not_lt, Int.not_le] at c2
      refine zaf ?_
      refine zac ?_
      refine zab rfl rfl rfl (zad (.inl rfl) (ev1 rfl)) ?_
      refine zab rfl rfl rfl (zad (.inr rfl) (ev1 rfl)) ?_
      refine zae ?_
      refine dwp_ret ?_
      refine kend0 (rs1 rfl (rv_t rfl)) rfl ?_
      rw [he, orL_drop (by omega)]; simp_all
    · try simp only [decide_eq_true_eq, decide_eq_false_iff_not, beq_iff_eq, bne_iff_ne, beq_eq_false_iff_ne, bne_eq_false_iff_eq, Bool.not_eq_true', Bool.not_eq_false', Bool.and_eq_true, Bool.or_eq_true, Bool.or_eq_false_iff, ne_eq, Decidable.not_not, Int.not_lt, Int.not_le] at c2
      refine dwp_skip ?_
      refine zac ?_
      refine zab rfl rfl rfl (op_add' rfl (ev1 rfl) (ev1 rfl) (fun _ => IntWalk.i64_in _ (by omega))) ?_
      refine zab rfl rfl rfl (zad (.inl rfl) (ev1 rfl)) ?_
      refine zae ?_
      refine ⟨k + 1, [], ⟨by omega, by rw [he, orL_drop (by omega)]; simp_all⟩, by simp only []; omega, rfl, ⟨rfl, rfl, rfl, rfl, trivial⟩, trivial⟩
  · try simp only [decide_eq_true_eq, decide_eq_false_iff_not, beq_iff_eq, bne_iff_ne, beq_eq_false_iff_ne, bne_eq_false_iff_eq, Bool.not_eq_true', Bool.not_eq_false', Bool.and_eq_true, Bool.or_eq_true, Bool.or_eq_false_iff, ne_eq, Decidable.not_not, Int.not_lt, Int.not_le] at c1
    refine dwp_exit ?_
    refine zaf ?_
    refine zac ?_
    refine zab rfl rfl rfl (zad (.inl rfl) (ev1 rfl)) ?_
    refine zab rfl rfl rfl (zad (.inr rfl) (ev1 rfl)) ?_
    refine zae ?_
    refine dwp_ret ?_
    refine kend0 (rs1 rfl (rv_t rfl)) rfl ?_
    rw [he, List.drop_of_length_le (by omega)]; rfl
set_option maxRecDepth 4000 in
set_option maxHeartbeats 1000000 in
theorem isNumber_d (n : Int) : DFun Tryz.prog 51 [.val (.int .u64 n)] [] (.val (.bool (isNum n))) [] := by
  refine dcalls_go (N := 9) 0 (by kernel_rfl) Tryz.func51 rfl rfl rfl (by simp only [fr0, Nat.zero_add, Nat.reduceAdd]; exact rfl) rfl fun s0 hs0 => ?_
  refine zaf ?_
  refine zac ?_
  refine zab rfl rfl rfl (zad (.inr rfl) (ev1 rfl)) ?_
  refine zae ?_
  refine zaf ?_
  refine zac ?_
  refine zab rfl rfl rfl (zad (.inl rfl) (ev1 rfl)) ?_
  refine zab rfl rfl rfl (op_geq rfl (ev1 rfl) (ev1 rfl)) ?_
  refine zab rfl rfl rfl (zad (.inl rfl) (ev1 rfl)) ?_
  refine zag (gd_t rfl rfl rfl) rfl rfl rfl (zad (.inl rfl) (ev1 rfl)) ?_
  refine zag (gd_t rfl rfl rfl) rfl rfl rfl (op_leq rfl (ev2 rfl) (ev1 rfl)) ?_
  refine zab rfl rfl rfl (op_and rfl (ev1 rfl) (ev3 rfl id)) ?_
  refine zab rfl rfl rfl (zad (.inr rfl) (ev1 rfl)) ?_
  refine zae ?_
  refine dwp_ret ?_
  refine kend0 (rs1 rfl (rv_t rfl)) rfl ?_
  rfl
set_option maxRecDepth 4000 in
set_option maxHeartbeats 1000000 in
theorem idSite_d (n : Int) : DFun Tryz.prog 52 [.val (.int .i64 n)] [] (.val (.bool (isSt n))) [] := by
  refine dcalls_go (N := 9) 0 (by kernel_rfl) Tryz.func52 rfl rfl rfl (by simp only [fr0, Nat.zero_add, Nat.reduceAdd]; exact rfl) rfl fun s0 hs0 => ?_
  refine zaf ?_
  refine zac ?_
  refine zab rfl rfl rfl (zad (.inr rfl) (ev1 rfl)) ?_
  refine zae ?_
  refine zaf ?_
  refine zac ?_
  refine zab rfl rfl rfl (zad (.inl rfl) (ev1 rfl)) ?_
  refine zab rfl rfl rfl (op_geq rfl (ev1 rfl) (ev1 rfl)) ?_
  refine zab rfl rfl rfl (zad (.inl rfl) (ev1 rfl)) ?_
  refine zag (gd_t rfl rfl rfl) rfl rfl rfl (zad (.inl rfl) (ev1 rfl)) ?_
  refine zag (gd_t rfl rfl rfl) rfl rfl rfl (op_leq rfl (ev2 rfl) (ev1 rfl)) ?_
  refine zab rfl rfl rfl (op_and rfl (ev1 rfl) (ev3 rfl id)) ?_
  refine zab rfl rfl rfl (zad (.inr rfl) (ev1 rfl)) ?_
  refine zae ?_
  refine dwp_ret ?_
  refine kend0 (rs1 rfl (rv_t rfl)) rfl ?_
  rfl
set_option maxRecDepth 4000 in
set_option maxHeartbeats 1000000 in
theorem idCheck_d (i : I3) : DFun Tryz.prog 32 [.val (.agg (idc i).toArray)] [] (.val (.int .i64 (errOr (mayR i) 210))) [] := by
  refine dcalls_go (N := 19) 0 (by kernel_rfl) Tryz.func32 rfl rfl rfl (by simp only [fr0, Nat.zero_add, Nat.reduceAdd]; exact rfl) rfl fun s0 hs0 => ?_
  refine zaf ?_
  refine zah 1 (by simp only [holes, List.cons_append, List.nil_append]; exact rfl) ?_
  refine zac ?_
  refine walk_w rfl rfl rfl (op_boxa 0 rfl (ev1 rfl) rfl) (by simp only [upd, za, zaa]; exact rfl) ?_
  refine zab rfl rfl rfl (zad (.inr rfl) (ev1 rfl)) ?_
  refine zae ?_
  refine zaf ?_
  refine zaf ?_
  refine zac ?_
  refine zab rfl rfl rfl (op_fa rfl fo37_0 (ev1 rfl)) ?_
  refine zab rfl rfl rfl (op_ldo rfl tb22 (ev1 rfl) rfl rfl) ?_
  refine zab rfl rfl rfl (zai [] [] [] rfl (ev1 rfl) (ec (ev1 rfl) en) rfl rfl (isNumber_d _) rfl rfl rfl rfl rfl rfl) ?_
  refine zab rfl rfl rfl (op_not rfl (ev1 rfl)) ?_
  refine zab rfl rfl rfl (zad (.inl rfl) (ev1 rfl)) ?_
  refine zag (gd_f rfl rfl rfl) rfl rfl rfl (op_fa rfl fo37_1 (ev1 rfl)) ?_
  refine zag (gd_f rfl rfl rfl) rfl rfl rfl (op_ldo rfl tb3 (ev2 rfl) rfl rfl) ?_
  refine zag (gd_f rfl rfl rfl) rfl rfl rfl (zai [] [] [] rfl (ev1 rfl) (ec (ev2 rfl) en) rfl rfl (idSite_d _) rfl rfl rfl rfl rfl rfl) ?_
  refine zag (gd_f rfl rfl rfl) rfl rfl rfl (op_not rfl (ev2 rfl)) ?_
  refine zab rfl rfl rfl (op_or rfl (ev1 rfl) (ev3 rfl id)) ?_
  refine zab rfl rfl rfl (zad (.inl rfl) (ev1 rfl)) ?_
  refine zag (gd_f rfl rfl rfl) rfl rfl rfl (op_fa rfl fo37_2 (ev1 rfl)) ?_
  refine zag (gd_f rfl rfl rfl) rfl rfl rfl (op_ldo rfl tb22 (ev2 rfl) rfl rfl) ?_
  refine zag (gd_f rfl rfl rfl) rfl rfl rfl (zai [] [] [] rfl (ev1 rfl) (ec (ev2 rfl) en) rfl rfl (isNumber_d _) rfl rfl rfl rfl rfl rfl) ?_
  refine zag (gd_f rfl rfl rfl) rfl rfl rfl (op_not rfl (ev2 rfl)) ?_
  refine zab rfl rfl rfl (op_or rfl (ev1 rfl) (ev3 rfl id)) ?_
  refine zae ?_
  refine dwp_cond rfl (fun c1 => ?_) (fun c1 => ?_)
  · try simp only [decide_eq_true_eq, decide_eq_false_iff_not, beq_iff_eq, bne_iff_ne, beq_eq_false_iff_ne, bne_eq_false_iff_eq, Bool.not_eq_true', Bool.not_eq_false', Bool.and_eq_true, Bool.or_eq_true, Bool.or_eq_false_iff, ne_eq, Decidable.not_not, Int.not_lt, Int.not_le] at c1
    refine zaf ?_
    refine zac ?_
    refine zab rfl rfl rfl (zad (.inr rfl) (ev1 rfl)) ?_
    refine zae ?_
    refine dwp_ret ?_
    refine kend0 (rs1 rfl (rv_t rfl)) rfl ?_
    cases h1 : isNum i.t <;> cases h2 : isSt i.s <;> cases h3 : isNum i.q <;> simp_all [mayR, errOr]
  · try simp only [decide_eq_true_eq, decide_eq_false_iff_not, beq_iff_eq, bne_iff_ne, beq_eq_false_iff_ne, bne_eq_false_iff_eq, Bool.not_eq_true', Bool.not_eq_false', Bool.and_eq_true, Bool.or_eq_true, Bool.or_eq_false_iff, ne_eq, Decidable.not_not, Int.not_lt, Int.not_le] at c1
    refine dwp_skip ?_
    refine zaf ?_
    refine zac ?_
    refine zab rfl rfl rfl (zad (.inr rfl) (ev1 rfl)) ?_
    refine zae ?_
    refine dwp_ret ?_
    refine kend0 (rs1 rfl (rv_t rfl)) rfl ?_
    cases h1 : isNum i.t <;> cases h2 : isSt i.s <;> cases h3 : isNum i.q <;> simp_all [mayR, errOr]
set_option maxRecDepth 4000 in
set_option maxHeartbeats 1000000 in
theorem compare_d (a b : I3) : DFun Tryz.prog 30 [.val (.agg (idc a).toArray), .val (.agg (idc b).toArray)] [] (.val (.int .i64 (cmpR a b))) [] := by
  refine dcalls_go (N := 25) 0 (by kernel_rfl) Tryz.func30 rfl rfl rfl (by simp only [fr0, Nat.zero_add, Nat.reduceAdd]; exact rfl) rfl fun s0 hs0 => ?_
  refine zaf ?_
  refine zah 2 (by simp only [holes, List.cons_append, List.nil_append]; exact rfl) ?_
  refine zac ?_
  refine walk_w rfl rfl rfl (op_boxa 0 rfl (ev1 rfl) rfl) (by simp only [upd, za, zaa]; exact rfl) ?_
  refine walk_w rfl rfl rfl (op_boxa 1 rfl (ev1 rfl) rfl) (by simp only [upd, za, zaa]; exact rfl) ?_
  refine zab rfl rfl rfl (zad (.inr rfl) (ev1 rfl)) ?_
  refine zae ?_
  refine zaf ?_
  refine zaf ?_
  refine zac ?_
  refine zab rfl rfl rfl (op_ldw rfl tb37 (ev1 rfl) rfl rfl) ?_
  refine zab rfl rfl rfl (op_ldw rfl tb37 (ev1 rfl) rfl rfl) ?_
  refine zab rfl rfl rfl (op_eqr eq37 rfl gd37 tb37 (ev1 rfl) (ev1 rfl)) ?_
  refine zae ?_
  refine dwp_cond rfl (fun c1 => ?_) (fun c1 => ?_)
  · try simp only [decide_eq_true_eq, decide_eq_false_iff_not, beq_iff_eq, bne_iff_ne, beq_eq_false_iff_ne, bne_eq_false_iff_eq, Bool.not_eq_true', Bool.not_eq_false', Bool.and_eq_true, Bool.or_eq_true, Bool.or_eq_false_iff, ne_eq, Decidable.not_not, Int.not_lt, Int.not_le] at c1
    refine zaf ?_
    refine zac ?_
    refine zab rfl rfl rfl (zad (.inr rfl) (ev1 rfl)) ?_
    refine zae ?_
    refine dwp_ret ?_
    refine kend0 (rs1 rfl (rv_t rfl)) rfl ?_
    simp_all [cmpR, eqI]
  · try simp only [decide_eq_true_eq, decide_eq_false_iff_not, beq_iff_eq, bne_iff_ne, beq_eq_false_iff_ne, bne_eq_false_iff_eq, Bool.not_eq_true', Bool.not_eq_false', Bool.and_eq_true, Bool.or_eq_true, Bool.or_eq_false_iff, ne_eq, Decidable.not_not, Int.not_lt, Int.not_le] at c1
    refine dwp_skip ?_
    refine zaf ?_
    refine dwp_draw [([], []), ([0], []), ([], []), ([1], []), ([], []), ([], []), ([0], []), ([], []), ([1], []), ([], []), ([], []), ([0], []), ([], []), ([1], []), ([], []), ([], []), ([], []), ([], [])] mixed (by kernel_rfl) ?_
    refine lex_r rfl rfl (op_fa rfl fo37_0 (ev1 rfl)) ?_
    refine lex_r rfl rfl (op_ldo rfl tb22 (ev1 rfl) rfl rfl) ?_
    refine lex_r rfl rfl (op_fa rfl fo37_0 (ev1 rfl)) ?_
    refine lex_r rfl rfl (op_ldo rfl tb22 (ev1 rfl) rfl rfl) ?_
    refine lex_r rfl rfl (zai [] [] [] rfl (ev1 rfl) (ec (ev1 rfl) (ec (ev1 rfl) en)) rfl rfl (cmp_u64 _ _) rfl rfl rfl rfl rfl rfl) ?_
    refine lex_r rfl rfl (op_fa rfl fo37_1 (ev1 rfl)) ?_
    refine lex_r rfl rfl (op_ldo rfl tb3 (ev1 rfl) rfl rfl) ?_
    refine lex_r rfl rfl (op_fa rfl fo37_1 (ev1 rfl)) ?_
    refine lex_r rfl rfl (op_ldo rfl tb3 (ev1 rfl) rfl rfl) ?_
    refine lex_r rfl rfl (zai [] [] [] rfl (ev1 rfl) (ec (ev1 rfl) (ec (ev1 rfl) en)) rfl rfl (cmp_i64 _ _) rfl rfl rfl rfl rfl rfl) ?_
    refine lex_r rfl rfl (op_fa rfl fo37_2 (ev1 rfl)) ?_
    refine lex_r rfl rfl (op_ldo rfl tb22 (ev1 rfl) rfl rfl) ?_
    refine lex_r rfl rfl (op_fa rfl fo37_2 (ev1 rfl)) ?_
    refine lex_r rfl rfl (op_ldo rfl tb22 (ev1 rfl) rfl rfl) ?_
    refine lex_r rfl rfl (zai [] [] [] rfl (ev1 rfl) (ec (ev1 rfl) (ec (ev1 rfl) en)) rfl rfl (cmp_u64 _ _) rfl rfl rfl rfl rfl rfl) ?_
    refine lex_r rfl rfl (op_bs (ps := [(0, .tmp 12), (1, .tmp 17), (2, .tmp 22)]) rfl sl124 zr3 rfl (vc (ev1 rfl) (vc (ev1 rfl) (vc (ev1 rfl) vn))) rfl (by decide) (by decide)) ?_
    refine lex_r rfl rfl (zai [] [] [] rfl (ev1 rfl) (ec (ev1 rfl) en) rfl rfl (or_d [_, _, _]) rfl rfl rfl rfl rfl rfl) ?_
    refine lex_r rfl rfl (zad (.inr rfl) (ev1 rfl)) ?_
    refine lex_nil ?_
    refine dwp_ret ?_
    refine kend0 (rs1 rfl (rv_t rfl)) rfl ?_
    simp_all [cmpR, eqI]
set_option maxRecDepth 4000 in
set_option maxHeartbeats 1000000 in
theorem idLess_d (a b : I3) : DFun Tryz.prog 11 [.val (.agg (idc a).toArray), .val (.agg (idc b).toArray)] [] (.val (.bool (lessR a b))) [] := by
  refine dcalls_go (N := 9) 0 (by kernel_rfl) Tryz.func11 rfl rfl rfl (by simp only [fr0, Nat.zero_add, Nat.reduceAdd]; exact rfl) rfl fun s0 hs0 => ?_
  refine zaf ?_
  refine zah 2 (by simp only [holes, List.cons_append, List.nil_append]; exact rfl) ?_
  refine zac ?_
  refine walk_w rfl rfl rfl (op_boxa 0 rfl (ev1 rfl) rfl) (by simp only [upd, za, zaa]; exact rfl) ?_
  refine walk_w rfl rfl rfl (op_boxa 1 rfl (ev1 rfl) rfl) (by simp only [upd, za, zaa]; exact rfl) ?_
  refine zab rfl rfl rfl (zad (.inr rfl) (ev1 rfl)) ?_
  refine zae ?_
  refine zaf ?_
  refine zac ?_
  refine zab rfl rfl rfl (op_ldw rfl tb37 (ev1 rfl) rfl rfl) ?_
  refine zab rfl rfl rfl (op_ldw rfl tb37 (ev1 rfl) rfl rfl) ?_
  refine zab rfl rfl rfl (zai [] [] [] rfl (ev1 rfl) (ec (ev1 rfl) (ec (ev1 rfl) en)) rfl rfl (compare_d _ _) rfl rfl rfl rfl rfl rfl) ?_
  refine zab rfl rfl rfl (op_lss rfl (ev1 rfl) (ev1 rfl)) ?_
  refine zab rfl rfl rfl (zad (.inr rfl) (ev1 rfl)) ?_
  refine zae ?_
  refine dwp_ret ?_
  refine kend0 (rs1 rfl (rv_t rfl)) rfl ?_
  rw [← lessC_R]
  rfl
end Go.Proofs.YtbcnaacgillhcaaGreat
namespace Go.Proofs.YtbcnaacgillhcaaGreat
set_option linter.unusedVariables false
set_option linter.unusedSimpArgs false
open Go.RowKit
theorem eq39 {a b : C4} : eqT Tryz.prog 9 39 (c4 a) (c4 b) = some (decide (a = b)) := by
  rw [← eqC_iff]; kernel_rfl
theorem fo42_0 : fdO Tryz.prog 42 0 = some 0 := by kernel_rfl
theorem fo42_1 : fdO Tryz.prog 42 1 = some 1 := by kernel_rfl
theorem fo42_2 : fdO Tryz.prog 42 2 = some 2 := by kernel_rfl
theorem gd39 : Tryz.prog.eqGuardType Tryz.prog.depth 39 = false := by kernel_rfl
theorem sl40 : slE Tryz.prog 40 = some (39, 4, 4) := by kernel_rfl
theorem tb39 : tyB Tryz.prog 39 = some (true, 4) := by kernel_rfl
theorem tb40 : tyB Tryz.prog 40 = some (false, 1) := by kernel_rfl
set_option maxRecDepth 4000 in
set_option maxHeartbeats 1000000 in
theorem side_d (n : Int) : DFun Tryz.prog 104 [.val (.int .i64 n)] [] (.val (.bool (siD n))) [] := by
  refine dcalls_go (N := 9) 0 (by kernel_rfl) Tryz.func104 rfl rfl rfl (by simp only [fr0, Nat.zero_add, Nat.reduceAdd]; exact rfl) rfl fun s0 hs0 => ?_
  refine zaf ?_
  refine zac ?_
  refine zab rfl rfl rfl (zad (.inr rfl) (ev1 rfl)) ?_
  refine zae ?_
  refine zaf ?_
  refine zac ?_
  refine zab rfl rfl rfl (zad (.inl rfl) (ev1 rfl)) ?_
  refine zab rfl rfl rfl (op_geq rfl (ev1 rfl) (ev1 rfl)) ?_
  refine zab rfl rfl rfl (zad (.inl rfl) (ev1 rfl)) ?_
  refine zag (gd_t rfl rfl rfl) rfl rfl rfl (zad (.inl rfl) (ev1 rfl)) ?_
  refine zag (gd_t rfl rfl rfl) rfl rfl rfl (op_leq rfl (ev2 rfl) (ev1 rfl)) ?_
  refine zab rfl rfl rfl (op_and rfl (ev1 rfl) (ev3 rfl id)) ?_
  refine zab rfl rfl rfl (zad (.inr rfl) (ev1 rfl)) ?_
  refine zae ?_
  refine dwp_ret ?_
  refine kend0 (rs1 rfl (rv_t rfl)) rfl ?_
  rfl
set_option maxRecDepth 4000 in
set_option maxHeartbeats 1000000 in
theorem drawn_d (n : Int) : DFun Tryz.prog 69 [.val (.int .i64 n)] [] (.val (.bool (drB n))) [] := by
  refine dcalls_go (N := 9) 0 (by kernel_rfl) Tryz.func69 rfl rfl rfl (by simp only [fr0, Nat.zero_add, Nat.reduceAdd]; exact rfl) rfl fun s0 hs0 => ?_
  refine zaf ?_
  refine zac ?_
  refine zab rfl rfl rfl (zad (.inr rfl) (ev1 rfl)) ?_
  refine zae ?_
  refine zaf ?_
  refine zac ?_
  refine zab rfl rfl rfl (zad (.inl rfl) (ev1 rfl)) ?_
  refine zab rfl rfl rfl (op_geq rfl (ev1 rfl) (ev1 rfl)) ?_
  refine zab rfl rfl rfl (zad (.inl rfl) (ev1 rfl)) ?_
  refine zag (gd_t rfl rfl rfl) rfl rfl rfl (zad (.inl rfl) (ev1 rfl)) ?_
  refine zag (gd_t rfl rfl rfl) rfl rfl rfl (op_leq rfl (ev2 rfl) (ev1 rfl)) ?_
  refine zab rfl rfl rfl (op_and rfl (ev1 rfl) (ev3 rfl id)) ?_
  refine zab rfl rfl rfl (zad (.inr rfl) (ev1 rfl)) ?_
  refine zae ?_
  refine dwp_ret ?_
  refine kend0 (rs1 rfl (rv_t rfl)) rfl ?_
  rfl
theorem eqI_dec (a b : I3) : eqI a b = decide (a = b) := by
  rw [Bool.eq_iff_iff, eqI_iff]; simp
set_option maxRecDepth 4000 in
set_option maxHeartbeats 1000000 in
theorem equalC (l r : List C4) : DFun Tryz.prog 59 [.slf 4 l.length (l.flatMap c4), .slf 4 r.length (r.flatMap c4)] [] (.val (.bool (decide (l = r)))) [] := by
  refine dcalls_go (N := 26) 0 (by kernel_rfl) Tryz.func59 rfl rfl rfl (by simp only [fr0, Nat.zero_add, Nat.reduceAdd]; exact rfl) rfl fun s0 hs0 => ?_
  refine dwp_len (t := 0) rfl fun hl0 hL0 => ?_
  refine dwp_len (t := 1) rfl fun hl1 hL1 => ?_
  refine zaf ?_
  refine zac ?_
  refine zab rfl rfl rfl (zad (.inr rfl) (ev1 rfl)) ?_
  refine zae ?_
  refine zaf ?_
  refine zaf ?_
  refine zac ?_
  refine zab rfl rfl rfl (zad (.inl rfl) (ev1 rfl)) ?_
  refine zab rfl rfl rfl (op_len rfl sl40 (ev1 rfl)) ?_
  refine zab rfl rfl rfl (zad (.inl rfl) (ev1 rfl)) ?_
  refine zab rfl rfl rfl (op_len rfl sl40 (ev1 rfl)) ?_
  refine zab rfl rfl rfl (op_neq rfl (ev1 rfl) (ev1 rfl)) ?_
  refine zae ?_
  refine dwp_cond rfl (fun c1 => ?_) (fun c1 => ?_)
  · try simp only [decide_eq_true_eq, decide_eq_false_iff_not, beq_iff_eq, bne_iff_ne, beq_eq_false_iff_ne, bne_eq_false_iff_eq, Bool.not_eq_true', Bool.not_eq_false', Bool.and_eq_true, Bool.or_eq_true, Bool.or_eq_false_iff, ne_eq, Decidable.not_not, Int.not_lt, Int.not_le] at c1
    refine zaf ?_
    refine zac ?_
    refine zab rfl rfl rfl (zad (.inr rfl) (ev1 rfl)) ?_
    refine zae ?_
    refine dwp_ret ?_
    refine kend0 (rs1 rfl (rv_t rfl)) rfl ?_
    have hne : l ≠ r := fun e => by subst e; exact c1 rfl
    rw [decide_eq_false hne]
  · try simp only [decide_eq_true_eq, decide_eq_false_iff_not, beq_iff_eq, bne_iff_ne, beq_eq_false_iff_ne, bne_eq_false_iff_eq, Bool.not_eq_true', Bool.not_eq_false', Bool.and_eq_true, Bool.or_eq_true, Bool.or_eq_false_iff, ne_eq, Decidable.not_not, Int.not_lt, Int.not_le] at c1
    have hlen : l.length = r.length := by omega
    refine dwp_skip ?_
    refine zaf ?_
    refine zaf ?_
    refine zac ?_
    refine zab rfl rfl rfl (zad (.inl rfl) (ev1 rfl)) ?_
    refine zab rfl rfl rfl (op_len rfl sl40 (ev1 rfl)) ?_
    refine zab rfl rfl rfl (zad (.inl rfl) (ev1 rfl)) ?_
    refine zae ?_
    refine dwp_block ?_
    refine dwp_loopS ⟨hs0, rfl⟩ (α := Nat) (fun k => [(13, .val (.int .i64 (k : Int)))]) [(0, _), (1, _), (12, _)] (fun k => []) [] (fun k => k ≤ l.length ∧ l.take k = r.take k) (fun k => l.length - k) 0 [] (by simp) rfl ⟨rfl, rfl, rfl, trivial⟩ ⟨rfl, trivial⟩ trivial ?_
    intro k hx
    simp only [upd, za, zaa, List.cons_append, List.nil_append]
    obtain ⟨hk, he⟩ := hx
    refine zaf ?_
    refine zac ?_
    refine zab rfl rfl rfl (op_lss rfl (ev1 rfl) (ev1 rfl)) ?_
    refine zae ?_
    refine zaf ?_
    refine dwp_cond rfl (fun c2 => ?_) (fun c2 => ?_)
    · try simp only [decide_eq_true_eq, decide_eq_false_iff_not, beq_iff_eq, bne_iff_ne, beq_eq_false_iff_ne, bne_eq_false_iff_eq, Bool.not_eq_true', Bool.not_eq_false', Bool.and_eq_true, Bool.or_eq_true, Bool.or_eq_false_iff, ne_eq, Decidable.not_not, Int.not_lt, Int.not_le] at c2
      refine dwp_skip ?_
      refine zaf ?_
      refine dwp_block ?_
      refine zaf ?_
      refine zac ?_
      refine zab rfl rfl rfl (zad (.inl rfl) (ev1 rfl)) ?_
      refine zab rfl rfl rfl (zad (.inr rfl) (ev1 rfl)) ?_
      refine zae ?_
      refine zaf ?_
      refine dwp_draw [([], []), ([], []), ([], []), ([], []), ([], []), ([], []), ([], []), ([], []), ([], [])] mixed (by kernel_rfl) ?_
      refine lex_r rfl rfl (zad (.inl rfl) (ev1 rfl)) ?_
      refine lex_r rfl rfl (zad (.inl rfl) (ev1 rfl)) ?_
      refine lex_r rfl rfl (op_ixsr (j := k) rfl sl40 (ev1 rfl) (ev1 rfl) (fun _ => rfl) (by decide) (by omega) (by omega)) ?_
      refine lex_r rfl rfl (op_ldwd rfl tb39 (ev1 rfl) rfl) ?_
      refine lex_r rfl rfl (zad (.inl rfl) (ev1 rfl)) ?_
      refine lex_r rfl rfl (zad (.inl rfl) (ev1 rfl)) ?_
      refine lex_r rfl rfl (op_ixsr (j := k) rfl sl40 (ev1 rfl) (ev1 rfl) (fun _ => rfl) (by decide) (by omega) (by omega)) ?_
      refine lex_r rfl rfl (op_ldwd rfl tb39 (ev1 rfl) rfl) ?_
      refine lex_r rfl rfl (op_ner eq39 rfl gd39 tb39 (ev1 rfl) (ev1 rfl)) ?_
      refine lex_nil ?_
      refine dwp_cond rfl (fun c2 => ?_) (fun c2 => ?_)
      · have c3 : l[k] ≠ r[k] := by simpa using c2
        refine zaf ?_
        refine zac ?_
        refine zab rfl rfl rfl (zad (.inr rfl) (ev1 rfl)) ?_
        refine zae ?_
        refine dwp_ret ?_
        refine kend0 (rs1 rfl (rv_t rfl)) rfl ?_
        have hne : l ≠ r := fun e => by subst e; exact c3 rfl
        rw [decide_eq_false hne]
      · have c3 : l[k] = r[k] := by simpa using c2
        refine dwp_skip ?_
        refine zac ?_
        refine zab rfl rfl rfl (op_add' rfl (ev1 rfl) (ev1 rfl) (fun _ => IntWalk.i64_in _ (by omega))) ?_
        refine zab rfl rfl rfl (zad (.inl rfl) (ev1 rfl)) ?_
        refine zae ?_
        refine ⟨k + 1, [], ⟨by omega, by rw [List.take_succ_eq_append_getElem (by omega), List.take_succ_eq_append_getElem (by omega), he, c3]⟩, by simp only []; omega, rfl, ⟨rfl, rfl, rfl, rfl, trivial⟩, trivial⟩
    · try simp only [decide_eq_true_eq, decide_eq_false_iff_not, beq_iff_eq, bne_iff_ne, beq_eq_false_iff_ne, bne_eq_false_iff_eq, Bool.not_eq_true', Bool.not_eq_false', Bool.and_eq_true, Bool.or_eq_true, Bool.or_eq_false_iff, ne_eq, Decidable.not_not, Int.not_lt, Int.not_le] at c2
      refine dwp_exit ?_
      refine zaf ?_
      refine zac ?_
      refine zab rfl rfl rfl (zad (.inr rfl) (ev1 rfl)) ?_
      refine zae ?_
      refine dwp_ret ?_
      refine kend0 (rs1 rfl (rv_t rfl)) rfl ?_
      have e : l = r := by
        have h := he
        rw [List.take_of_length_le (by omega), List.take_of_length_le (by omega)] at h
        exact h
      rw [decide_eq_true e]
theorem stCk {w h : Int} {l : List C4} : (((!siD w) || (!siD h)) || !((l.length : Int) == IntKind.i64.wrap (w * h))) = !stB w h l := by
  unfold stB
  cases h1 : siD w
  · rfl
  · cases h2 : siD h
    · rfl
    · have e : IntKind.i64.wrap (w * h) = w * h := IntWalk.i64_in _ (by
        unfold siD at h1 h2
        simp at h1 h2
        have a1 : 0 ≤ w * h := Int.mul_nonneg (by omega) (by omega)
        have a2 : w * h ≤ 8 * 8 := Int.mul_le_mul h1.2 h2.2 (by omega) (by omega)
        omega)
      rw [e]
      rw [Bool.eq_iff_iff]
      simp
set_option maxRecDepth 4000 in
set_option maxHeartbeats 1000000 in
theorem stCheck_d (w h : Int) (l : List C4) : DFun Tryz.prog 88 [.agg [iD w, iD h, pxD l]] [] (.val (.int .i64 (errOr (stB w h l) 190))) [] := by
  refine dcalls_go (N := 24) 0 (by kernel_rfl) Tryz.func88 rfl rfl rfl (by simp only [fr0, Nat.zero_add, Nat.reduceAdd]; exact rfl) rfl fun s0 hs0 => ?_
  refine zaf ?_
  refine zah 1 (by simp only [holes, List.cons_append, List.nil_append]; exact rfl) ?_
  refine zac ?_
  refine walk_w rfl rfl rfl (op_boxam 0 rfl (ev1 rfl) rfl) (by simp only [upd, za, zaa]; exact rfl) ?_
  refine zab rfl rfl rfl (zad (.inr rfl) (ev1 rfl)) ?_
  refine zae ?_
  refine zaf ?_
  refine zaf ?_
  refine zac ?_
  refine zab rfl rfl rfl (op_fa rfl fo42_0 (ev1 rfl)) ?_
  refine zab rfl rfl rfl (op_ldm rfl tb3 (ev1 rfl) rfl rfl) ?_
  refine zab rfl rfl rfl (zai [] [] [] rfl (ev1 rfl) (ec (ev1 rfl) en) rfl rfl (side_d _) rfl rfl rfl rfl rfl rfl) ?_
  refine zab rfl rfl rfl (op_not rfl (ev1 rfl)) ?_
  refine zab rfl rfl rfl (zad (.inl rfl) (ev1 rfl)) ?_
  refine zag (gd_f rfl rfl rfl) rfl rfl rfl (op_fa rfl fo42_1 (ev1 rfl)) ?_
  refine zag (gd_f rfl rfl rfl) rfl rfl rfl (op_ldm rfl tb3 (ev2 rfl) rfl rfl) ?_
  refine zag (gd_f rfl rfl rfl) rfl rfl rfl (zai [] [] [] rfl (ev1 rfl) (ec (ev2 rfl) en) rfl rfl (side_d _) rfl rfl rfl rfl rfl rfl) ?_
  refine zag (gd_f rfl rfl rfl) rfl rfl rfl (op_not rfl (ev2 rfl)) ?_
  refine zab rfl rfl rfl (op_or rfl (ev1 rfl) (ev3 rfl id)) ?_
  refine zab rfl rfl rfl (zad (.inl rfl) (ev1 rfl)) ?_
  refine zag (gd_f rfl rfl rfl) rfl rfl rfl (op_fa rfl fo42_2 (ev1 rfl)) ?_
  refine zag (gd_f rfl rfl rfl) rfl rfl rfl (op_ldm rfl tb40 (ev2 rfl) rfl rfl) ?_
  refine zag (gd_f rfl rfl rfl) rfl rfl rfl (op_len rfl sl40 (ev2 rfl)) ?_
  refine zag (gd_f rfl rfl rfl) rfl rfl rfl (op_fa rfl fo42_0 (ev1 rfl)) ?_
  refine zag (gd_f rfl rfl rfl) rfl rfl rfl (op_ldm rfl tb3 (ev2 rfl) rfl rfl) ?_
  refine zag (gd_f rfl rfl rfl) rfl rfl rfl (op_fa rfl fo42_1 (ev1 rfl)) ?_
  refine zag (gd_f rfl rfl rfl) rfl rfl rfl (op_ldm rfl tb3 (ev2 rfl) rfl rfl) ?_
  refine zag (gd_f rfl rfl rfl) rfl rfl rfl (op_mul rfl (ev2 rfl) (ev2 rfl)) ?_
  refine zag (gd_f rfl rfl rfl) rfl rfl rfl (op_neq rfl (ev2 rfl) (ev2 rfl)) ?_
  refine zab rfl rfl rfl (op_or rfl (ev1 rfl) (ev3 rfl id)) ?_
  refine zae ?_
  refine dwp_cond rfl (fun c1 => ?_) (fun c1 => ?_)
  · have hb : stB w h l = false := notT (stCk.symm.trans c1)
    refine zaf ?_
    refine zac ?_
    refine zab rfl rfl rfl (zad (.inr rfl) (ev1 rfl)) ?_
    refine zae ?_
    refine dwp_ret ?_
    refine kend0 (rs1 rfl (rv_t rfl)) rfl ?_
    rw [hb]
    rfl
  · have hb : stB w h l = true := notF (stCk.symm.trans c1)
    refine dwp_skip ?_
    refine zaf ?_
    refine zac ?_
    refine zab rfl rfl rfl (zad (.inr rfl) (ev1 rfl)) ?_
    refine zae ?_
    refine dwp_ret ?_
    refine kend0 (rs1 rfl (rv_t rfl)) rfl ?_
    rw [hb]
    rfl
set_option maxRecDepth 4000 in
set_option maxHeartbeats 1000000 in
theorem stSame_d (w h w2 h2 : Int) (l r : List C4) : DFun Tryz.prog 45 [.agg [iD w, iD h, pxD l], .agg [iD w2, iD h2, pxD r]] [] (.val (.bool (((w == w2) && (h == h2)) && decide (l = r)))) [] := by
  refine dcalls_go (N := 24) 0 (by kernel_rfl) Tryz.func45 rfl rfl rfl (by simp only [fr0, Nat.zero_add, Nat.reduceAdd]; exact rfl) rfl fun s0 hs0 => ?_
  refine zaf ?_
  refine zah 2 (by simp only [holes, List.cons_append, List.nil_append]; exact rfl) ?_
  refine zac ?_
  refine walk_w rfl rfl rfl (op_boxam 0 rfl (ev1 rfl) rfl) (by simp only [upd, za, zaa]; exact rfl) ?_
  refine walk_w rfl rfl rfl (op_boxam 1 rfl (ev1 rfl) rfl) (by simp only [upd, za, zaa]; exact rfl) ?_
  refine zab rfl rfl rfl (zad (.inr rfl) (ev1 rfl)) ?_
  refine zae ?_
  refine zaf ?_
  refine zac ?_
  refine zab rfl rfl rfl (op_fa rfl fo42_0 (ev1 rfl)) ?_
  refine zab rfl rfl rfl (op_ldm rfl tb3 (ev1 rfl) rfl rfl) ?_
  refine zab rfl rfl rfl (op_fa rfl fo42_0 (ev1 rfl)) ?_
  refine zab rfl rfl rfl (op_ldm rfl tb3 (ev1 rfl) rfl rfl) ?_
  refine zab rfl rfl rfl (op_eql rfl (ev1 rfl) (ev1 rfl)) ?_
  refine zab rfl rfl rfl (zad (.inl rfl) (ev1 rfl)) ?_
  refine zag (gd_t rfl rfl rfl) rfl rfl rfl (op_fa rfl fo42_1 (ev1 rfl)) ?_
  refine zag (gd_t rfl rfl rfl) rfl rfl rfl (op_ldm rfl tb3 (ev2 rfl) rfl rfl) ?_
  refine zag (gd_t rfl rfl rfl) rfl rfl rfl (op_fa rfl fo42_1 (ev1 rfl)) ?_
  refine zag (gd_t rfl rfl rfl) rfl rfl rfl (op_ldm rfl tb3 (ev2 rfl) rfl rfl) ?_
  refine zag (gd_t rfl rfl rfl) rfl rfl rfl (op_eql rfl (ev2 rfl) (ev2 rfl)) ?_
  refine zab rfl rfl rfl (op_and rfl (ev1 rfl) (ev3 rfl id)) ?_
  refine zab rfl rfl rfl (zad (.inl rfl) (ev1 rfl)) ?_
  refine zag (gd_t rfl rfl rfl) rfl rfl rfl (op_fa rfl fo42_2 (ev1 rfl)) ?_
  refine zag (gd_t rfl rfl rfl) rfl rfl rfl (op_ldm rfl tb40 (ev2 rfl) rfl rfl) ?_
  refine zag (gd_t rfl rfl rfl) rfl rfl rfl (op_fa rfl fo42_2 (ev1 rfl)) ?_
  refine zag (gd_t rfl rfl rfl) rfl rfl rfl (op_ldm rfl tb40 (ev2 rfl) rfl rfl) ?_
  refine zag (gd_t rfl rfl rfl) rfl rfl rfl (zai [] [] [] rfl (ev1 rfl) (ec (ev2 rfl) (ec (ev2 rfl) en)) rfl rfl (equalC _ _) rfl rfl rfl rfl rfl rfl) ?_
  refine zab rfl rfl rfl (op_and rfl (ev1 rfl) (ev3 rfl id)) ?_
  refine zab rfl rfl rfl (zad (.inr rfl) (ev1 rfl)) ?_
  refine zae ?_
  refine dwp_ret ?_
  refine kend0 (rs1 rfl (rv_t rfl)) rfl ?_
  rfl
end Go.Proofs.YtbcnaacgillhcaaGreat
namespace Go.Proofs.YtbcnaacgillhcaaGreat
set_option linter.unusedVariables false
set_option linter.unusedSimpArgs false
open Go.RowKit
theorem ar122 : arE Tryz.prog 122 = some (8, 4) := by kernel_rfl
theorem ar130 : arE Tryz.prog 130 = some (9, 4) := by kernel_rfl
theorem av130 : arV Tryz.prog 130 = some (9, 4) := by kernel_rfl
theorem fl115 : fdL Tryz.prog 115 = some [(0, 1), (1, 1), (2, 1), (3, 1)] := by kernel_rfl
theorem fl121 : fdL Tryz.prog 121 = some [(0, 1), (1, 1), (2, 1), (3, 1)] := by kernel_rfl
theorem fl37 : fdL Tryz.prog 37 = some [(0, 1), (1, 1), (2, 1)] := by kernel_rfl
theorem fl39 : fdL Tryz.prog 39 = some [(0, 1), (1, 1), (2, 1), (3, 1)] := by kernel_rfl
theorem fl42 : fdL Tryz.prog 42 = some [(0, 1), (1, 1), (2, 1)] := by kernel_rfl
theorem fo115_1 : fdO Tryz.prog 115 1 = some 1 := by kernel_rfl
theorem fo44_0 : fdO Tryz.prog 44 0 = some 0 := by kernel_rfl
theorem fo44_2 : fdO Tryz.prog 44 2 = some 4 := by kernel_rfl
theorem fo44_3 : fdO Tryz.prog 44 3 = some 5 := by kernel_rfl
theorem fo44_4 : fdO Tryz.prog 44 4 = some 6 := by kernel_rfl
theorem fo44_5 : fdO Tryz.prog 44 5 = some 7 := by kernel_rfl
theorem fo44_6 : fdO Tryz.prog 44 6 = some 8 := by kernel_rfl
theorem fo44_7 : fdO Tryz.prog 44 7 = some 9 := by kernel_rfl
theorem fo44_8 : fdO Tryz.prog 44 8 = some 13 := by kernel_rfl
theorem fo44_9 : fdO Tryz.prog 44 9 = some 16 := by kernel_rfl
theorem tb115 : tyB Tryz.prog 115 = some (true, 4) := by kernel_rfl
theorem tb122 : tyB Tryz.prog 122 = some (true, 32) := by kernel_rfl
theorem tb130 : tyB Tryz.prog 130 = some (true, 36) := by kernel_rfl
theorem tb42 : tyB Tryz.prog 42 = some (true, 3) := by kernel_rfl
theorem zr115 : zrC Tryz.prog 115 = some [.int .i64 0, .int .i64 0, .nilFunc, .nilFunc] := by kernel_rfl
theorem zr121 : zrC Tryz.prog 121 = some [.string ⟨#[]⟩, .nilFunc, .nilFunc, .nilFunc] := by kernel_rfl
theorem zr122 : zrC Tryz.prog 122 = some [.string ⟨#[]⟩, .nilFunc, .nilFunc, .nilFunc, .string ⟨#[]⟩, .nilFunc, .nilFunc, .nilFunc, .string ⟨#[]⟩, .nilFunc, .nilFunc, .nilFunc, .string ⟨#[]⟩, .nilFunc, .nilFunc, .nilFunc, .string ⟨#[]⟩, .nilFunc, .nilFunc, .nilFunc, .string ⟨#[]⟩, .nilFunc, .nilFunc, .nilFunc, .string ⟨#[]⟩, .nilFunc, .nilFunc, .nilFunc, .string ⟨#[]⟩, .nilFunc, .nilFunc, .nilFunc] := by kernel_rfl
theorem zr130 : zrC Tryz.prog 130 = some [.int .i64 0, .int .i64 0, .nilFunc, .nilFunc, .int .i64 0, .int .i64 0, .nilFunc, .nilFunc, .int .i64 0, .int .i64 0, .nilFunc, .nilFunc, .int .i64 0, .int .i64 0, .nilFunc, .nilFunc, .int .i64 0, .int .i64 0, .nilFunc, .nilFunc, .int .i64 0, .int .i64 0, .nilFunc, .nilFunc, .int .i64 0, .int .i64 0, .nilFunc, .nilFunc, .int .i64 0, .int .i64 0, .nilFunc, .nilFunc, .int .i64 0, .int .i64 0, .nilFunc, .nilFunc] := by kernel_rfl
theorem zr37 : zrC Tryz.prog 37 = some (idc zI3) := by kernel_rfl
theorem zr39 : zrC Tryz.prog 39 = some (c4 zC4) := by kernel_rfl
theorem zr42 : zrC Tryz.prog 42 = some [.int .i64 0, .int .i64 0, .slice none 0 0] := by kernel_rfl
def kndL : List D := [iD 0, iD 0, .val .nilFunc, .val .nilFunc, iD 63, iD 15, .fn (.func 95) [] [], .fn (.func 96) [] [], iD 63, iD 15, .fn (.func 95) [] [], .fn (.func 96) [] [], iD 47, iD 0, .fn (.func 97) [] [], .fn (.func 98) [] [], iD 47, iD 0, .fn (.func 99) [] [], .fn (.func 98) [] [], iD 51, iD 1020, .fn (.func 100) [] [], .fn (.func 101) [] [], iD 67, iD 0, .fn (.func 102) [] [], .fn (.func 103) [] [], iD 128, iD 0, .val .nilFunc, .val .nilFunc, iD 128, iD 0, .val .nilFunc, .val .nilFunc]
def fldL : List D := [.val (.string ⟨#[88]⟩), .fn (.func 68) [] [], .fn (.func 70) [] [], .fn (.func 71) [] [], .val (.string ⟨#[89]⟩), .fn (.func 72) [] [], .fn (.func 73) [] [], .fn (.func 74) [] [], .val (.string ⟨#[88, 50]⟩), .fn (.func 75) [] [], .fn (.func 76) [] [], .fn (.func 77) [] [], .val (.string ⟨#[89, 50]⟩), .fn (.func 78) [] [], .fn (.func 79) [] [], .fn (.func 80) [] [], .val (.string ⟨#[83, 105, 122, 101]⟩), .fn (.func 81) [] [], .fn (.func 82) [] [], .fn (.func 83) [] [], .val (.string ⟨#[67, 111, 108, 111, 114]⟩), .fn (.func 84) [] [], .fn (.func 85) [] [], .fn (.func 86) [] [], .val (.string ⟨#[83, 116, 97, 109, 112]⟩), .fn (.func 87) [] [], .fn (.func 89) [] [], .fn (.func 90) [] [], .val (.string ⟨#[84, 97, 114, 103, 101, 116]⟩), .fn (.func 92) [] [], .fn (.func 93) [] [], .fn (.func 94) [] []]
theorem wkSt0 : Wk (.val (.agg #[.int .i64 0, .int .i64 0, .slice none 0 0])) (.agg [iD 0, iD 0, pxD []]) := (Wk.vagg [.int .i64 0, .int .i64 0, .slice none 0 0]).trans (Wk.agg (WkL.cons (Wk.refl _) (WkL.cons (Wk.refl _) (WkL.cons (Wk.slf0 4) WkL.nil))))
set_option maxRecDepth 4000 in
set_option maxHeartbeats 1000000 in
theorem kinds_d : DFun Tryz.prog 67 [] [] (.agg kndL) [] := by
  refine dcalls_go (N := 10) 0 (by kernel_rfl) Tryz.func67 rfl rfl rfl (by simp only [fr0, Nat.zero_add, Nat.reduceAdd]; exact rfl) rfl fun s0 hs0 => ?_
  refine zaf ?_
  refine zah 1 (by simp only [holes, List.cons_append, List.nil_append]; exact rfl) ?_
  refine zac ?_
  refine walk_w rfl rfl rfl (op_alloc 0 rfl zr130 rfl) (by simp only [upd, za, zaa]; exact rfl) ?_
  refine zae ?_
  refine zaf ?_
  refine zac ?_
  refine zab rfl rfl rfl (op_bldD (ps := [(0, .const (.int .i64 63)), (1, .const (.int .i64 15)), (2, .func 95), (3, .func 96)]) rfl fl115 zr115 (ec (ev1 rfl) (ec (ev1 rfl) (ec (ev1 rfl) (ec (ev1 rfl) en)))) rfl rfl rfl) ?_
  refine zab rfl rfl rfl (op_bldD (ps := [(0, .const (.int .i64 63)), (1, .const (.int .i64 15)), (2, .func 95), (3, .func 96)]) rfl fl115 zr115 (ec (ev1 rfl) (ec (ev1 rfl) (ec (ev1 rfl) (ec (ev1 rfl) en)))) rfl rfl rfl) ?_
  refine zab rfl rfl rfl (op_bldD (ps := [(0, .const (.int .i64 47)), (1, .const (.int .i64 0)), (2, .func 97), (3, .func 98)]) rfl fl115 zr115 (ec (ev1 rfl) (ec (ev1 rfl) (ec (ev1 rfl) (ec (ev1 rfl) en)))) rfl rfl rfl) ?_
  refine zab rfl rfl rfl (op_bldD (ps := [(0, .const (.int .i64 47)), (1, .const (.int .i64 0)), (2, .func 99), (3, .func 98)]) rfl fl115 zr115 (ec (ev1 rfl) (ec (ev1 rfl) (ec (ev1 rfl) (ec (ev1 rfl) en)))) rfl rfl rfl) ?_
  refine zab rfl rfl rfl (op_bldD (ps := [(0, .const (.int .i64 51)), (1, .const (.int .i64 1020)), (2, .func 100), (3, .func 101)]) rfl fl115 zr115 (ec (ev1 rfl) (ec (ev1 rfl) (ec (ev1 rfl) (ec (ev1 rfl) en)))) rfl rfl rfl) ?_
  refine zab rfl rfl rfl (op_bldD (ps := [(0, .const (.int .i64 67)), (1, .const (.int .i64 0)), (2, .func 102), (3, .func 103)]) rfl fl115 zr115 (ec (ev1 rfl) (ec (ev1 rfl) (ec (ev1 rfl) (ec (ev1 rfl) en)))) rfl rfl rfl) ?_
  refine zab rfl rfl rfl (op_build (ps := [(0, .const (.int .i64 128))]) rfl fl115 zr115 (vc (ev1 rfl) vn) rfl rfl) ?_
  refine zab rfl rfl rfl (op_build (ps := [(0, .const (.int .i64 128))]) rfl fl115 zr115 (vc (ev1 rfl) vn) rfl rfl) ?_
  refine zab rfl rfl rfl (op_bldaD (ps := [(1, .tmp 1), (2, .tmp 2), (3, .tmp 3), (4, .tmp 4), (5, .tmp 5), (6, .tmp 6), (7, .tmp 7), (8, .tmp 8)]) rfl ar130 zr130 (ec (ev1 rfl) (ec (ev1 rfl) (ec (ev1 rfl) (ec (ev1 rfl) (ec (ev1 rfl) (ec (ev1 rfl) (ec (ev1 rfl) (ec (ev1 rfl) en)))))))) rfl rfl rfl rfl) ?_
  refine walk_s rfl rfl (op_stam rfl tb130 (ev1 rfl) (ev1 rfl) rfl rfl rfl rfl) (by simp only [upd, za, zaa]; exact rfl) ?_
  refine zae ?_
  refine dwp_ret ?_
  refine kend0 (rs1 rfl (rv_mw tb130 rfl rfl rfl)) rfl ?_
  rfl
set_option maxRecDepth 4000 in
set_option maxHeartbeats 1000000 in
theorem fields_d : DFun Tryz.prog 61 [] [] (.agg fldL) [] := by
  refine dcalls_go (N := 10) 0 (by kernel_rfl) Tryz.func61 rfl rfl rfl (by simp only [fr0, Nat.zero_add, Nat.reduceAdd]; exact rfl) rfl fun s0 hs0 => ?_
  refine zaf ?_
  refine zah 1 (by simp only [holes, List.cons_append, List.nil_append]; exact rfl) ?_
  refine zac ?_
  refine walk_w rfl rfl rfl (op_alloc 0 rfl zr122 rfl) (by simp only [upd, za, zaa]; exact rfl) ?_
  refine zae ?_
  refine zaf ?_
  refine zac ?_
  refine zab rfl rfl rfl (op_bldD (ps := [(0, .const (.string ⟨#[88]⟩)), (1, .func 68), (2, .func 70), (3, .func 71)]) rfl fl121 zr121 (ec (ev1 rfl) (ec (ev1 rfl) (ec (ev1 rfl) (ec (ev1 rfl) en)))) rfl rfl rfl) ?_
  refine zab rfl rfl rfl (op_bldD (ps := [(0, .const (.string ⟨#[89]⟩)), (1, .func 72), (2, .func 73), (3, .func 74)]) rfl fl121 zr121 (ec (ev1 rfl) (ec (ev1 rfl) (ec (ev1 rfl) (ec (ev1 rfl) en)))) rfl rfl rfl) ?_
  refine zab rfl rfl rfl (op_bldD (ps := [(0, .const (.string ⟨#[88, 50]⟩)), (1, .func 75), (2, .func 76), (3, .func 77)]) rfl fl121 zr121 (ec (ev1 rfl) (ec (ev1 rfl) (ec (ev1 rfl) (ec (ev1 rfl) en)))) rfl rfl rfl) ?_
  refine zab rfl rfl rfl (op_bldD (ps := [(0, .const (.string ⟨#[89, 50]⟩)), (1, .func 78), (2, .func 79), (3, .func 80)]) rfl fl121 zr121 (ec (ev1 rfl) (ec (ev1 rfl) (ec (ev1 rfl) (ec (ev1 rfl) en)))) rfl rfl rfl) ?_
  refine zab rfl rfl rfl (op_bldD (ps := [(0, .const (.string ⟨#[83, 105, 122, 101]⟩)), (1, .func 81), (2, .func 82), (3, .func 83)]) rfl fl121 zr121 (ec (ev1 rfl) (ec (ev1 rfl) (ec (ev1 rfl) (ec (ev1 rfl) en)))) rfl rfl rfl) ?_
  refine zab rfl rfl rfl (op_bldD (ps := [(0, .const (.string ⟨#[67, 111, 108, 111, 114]⟩)), (1, .func 84), (2, .func 85), (3, .func 86)]) rfl fl121 zr121 (ec (ev1 rfl) (ec (ev1 rfl) (ec (ev1 rfl) (ec (ev1 rfl) en)))) rfl rfl rfl) ?_
  refine zab rfl rfl rfl (op_bldD (ps := [(0, .const (.string ⟨#[83, 116, 97, 109, 112]⟩)), (1, .func 87), (2, .func 89), (3, .func 90)]) rfl fl121 zr121 (ec (ev1 rfl) (ec (ev1 rfl) (ec (ev1 rfl) (ec (ev1 rfl) en)))) rfl rfl rfl) ?_
  refine zab rfl rfl rfl (op_bldD (ps := [(0, .const (.string ⟨#[84, 97, 114, 103, 101, 116]⟩)), (1, .func 92), (2, .func 93), (3, .func 94)]) rfl fl121 zr121 (ec (ev1 rfl) (ec (ev1 rfl) (ec (ev1 rfl) (ec (ev1 rfl) en)))) rfl rfl rfl) ?_
  refine zab rfl rfl rfl (op_bldaD (ps := [(0, .tmp 1), (1, .tmp 2), (2, .tmp 3), (3, .tmp 4), (4, .tmp 5), (5, .tmp 6), (6, .tmp 7), (7, .tmp 8)]) rfl ar122 zr122 (ec (ev1 rfl) (ec (ev1 rfl) (ec (ev1 rfl) (ec (ev1 rfl) (ec (ev1 rfl) (ec (ev1 rfl) (ec (ev1 rfl) (ec (ev1 rfl) en)))))))) rfl rfl rfl rfl) ?_
  refine walk_s rfl rfl (op_stam rfl tb122 (ev1 rfl) (ev1 rfl) rfl rfl rfl rfl) (by simp only [upd, za, zaa]; exact rfl) ?_
  refine zae ?_
  refine dwp_ret ?_
  refine kend0 (rs1 rfl (rv_mw tb122 rfl rfl rfl)) rfl ?_
  rfl
set_option maxRecDepth 4000 in
set_option maxHeartbeats 1000000 in
theorem kindOf_1 : DFun Tryz.prog 60 [.val (.int .i64 1)] [] (.tup [.agg [iD 63, iD 15, .fn (.func 95) [] [], .fn (.func 96) [] []], .val (.bool true)]) [] := by
  refine dcalls_go (N := 14) 0 (by kernel_rfl) Tryz.func60 rfl rfl rfl (by simp only [fr0, Nat.zero_add, Nat.reduceAdd]; exact rfl) rfl fun s0 hs0 => ?_
  refine zaf ?_
  refine zah 1 (by simp only [holes, List.cons_append, List.nil_append]; exact rfl) ?_
  refine zac ?_
  refine walk_w rfl rfl rfl (op_alloc 0 rfl zr115 rfl) (by simp only [upd, za, zaa]; exact rfl) ?_
  refine zab rfl rfl rfl (zad (.inr rfl) (ev1 rfl)) ?_
  refine zae ?_
  refine zaf ?_
  refine zaf ?_
  refine zac ?_
  refine zab rfl rfl rfl (zad (.inl rfl) (ev1 rfl)) ?_
  refine zab rfl rfl rfl ((op_lss rfl (ev1 rfl) (ev1 rfl)).cast (d' := .val (.bool false)) (by kernel_rfl)) ?_
  refine zab rfl rfl rfl (zad (.inl rfl) (ev1 rfl)) ?_
  refine walk_k (gd_f (b := false) rfl rfl rfl) rfl rfl rfl (zad (.inl rfl) (ev1 rfl)) (by simp only [upd, za, zaa]; exact rfl) ?_
  refine walk_k (gd_f (b := false) rfl rfl rfl) rfl rfl rfl ((op_gtr rfl (ev2 rfl) (ev1 rfl)).cast (d' := .val (.bool false)) (by kernel_rfl)) (by simp only [upd, za, zaa]; exact rfl) ?_
  refine zab rfl rfl rfl ((op_or rfl (ev1 rfl) (ev3 rfl (fun _ => rfl))).cast (d' := .val (.bool false)) (by rfl)) ?_
  refine zae ?_
  refine dwp_if_f rfl (rfl) ?_
  refine dwp_skip ?_
  refine zaf ?_
  refine zac ?_
  refine zab rfl rfl rfl (zai [] [] [] rfl (ev1 rfl) en rfl rfl (kinds_d) rfl rfl rfl rfl rfl rfl) ?_
  refine zab rfl rfl rfl (zad (.inl rfl) (ev1 rfl)) ?_
  refine zab rfl rfl rfl (op_ixwr (1) rfl av130 (ev1 rfl) (ev1 rfl) (fun _ => rfl) (fun _ => by decide) (Nat.le_of_ble_eq_true rfl)) ?_
  refine walk_s rfl rfl (op_stam rfl tb115 (ev1 rfl) (ev1 rfl) rfl rfl rfl rfl) (by simp only [upd, za, zaa]; exact rfl) ?_
  refine zab rfl rfl rfl (zad (.inr rfl) (ev1 rfl)) ?_
  refine zae ?_
  refine dwp_ret ?_
  refine kend0 (rs2 rfl (rv_mw tb115 rfl rfl rfl) (rv_t rfl)) rfl ?_
  rfl
set_option maxRecDepth 4000 in
set_option maxHeartbeats 1000000 in
theorem kindOf_2 : DFun Tryz.prog 60 [.val (.int .i64 2)] [] (.tup [.agg [iD 63, iD 15, .fn (.func 95) [] [], .fn (.func 96) [] []], .val (.bool true)]) [] := by
  refine dcalls_go (N := 14) 0 (by kernel_rfl) Tryz.func60 rfl rfl rfl (by simp only [fr0, Nat.zero_add, Nat.reduceAdd]; exact rfl) rfl fun s0 hs0 => ?_
  refine zaf ?_
  refine zah 1 (by simp only [holes, List.cons_append, List.nil_append]; exact rfl) ?_
  refine zac ?_
  refine walk_w rfl rfl rfl (op_alloc 0 rfl zr115 rfl) (by simp only [upd, za, zaa]; exact rfl) ?_
  refine zab rfl rfl rfl (zad (.inr rfl) (ev1 rfl)) ?_
  refine zae ?_
  refine zaf ?_
  refine zaf ?_
  refine zac ?_
  refine zab rfl rfl rfl (zad (.inl rfl) (ev1 rfl)) ?_
  refine zab rfl rfl rfl ((op_lss rfl (ev1 rfl) (ev1 rfl)).cast (d' := .val (.bool false)) (by kernel_rfl)) ?_
  refine zab rfl rfl rfl (zad (.inl rfl) (ev1 rfl)) ?_
  refine walk_k (gd_f (b := false) rfl rfl rfl) rfl rfl rfl (zad (.inl rfl) (ev1 rfl)) (by simp only [upd, za, zaa]; exact rfl) ?_
  refine walk_k (gd_f (b := false) rfl rfl rfl) rfl rfl rfl ((op_gtr rfl (ev2 rfl) (ev1 rfl)).cast (d' := .val (.bool false)) (by kernel_rfl)) (by simp only [upd, za, zaa]; exact rfl) ?_
  refine zab rfl rfl rfl ((op_or rfl (ev1 rfl) (ev3 rfl (fun _ => rfl))).cast (d' := .val (.bool false)) (by rfl)) ?_
  refine zae ?_
  refine dwp_if_f rfl (rfl) ?_
  refine dwp_skip ?_
  refine zaf ?_
  refine zac ?_
  refine zab rfl rfl rfl (zai [] [] [] rfl (ev1 rfl) en rfl rfl (kinds_d) rfl rfl rfl rfl rfl rfl) ?_
  refine zab rfl rfl rfl (zad (.inl rfl) (ev1 rfl)) ?_
  refine zab rfl rfl rfl (op_ixwr (2) rfl av130 (ev1 rfl) (ev1 rfl) (fun _ => rfl) (fun _ => by decide) (Nat.le_of_ble_eq_true rfl)) ?_
  refine walk_s rfl rfl (op_stam rfl tb115 (ev1 rfl) (ev1 rfl) rfl rfl rfl rfl) (by simp only [upd, za, zaa]; exact rfl) ?_
  refine zab rfl rfl rfl (zad (.inr rfl) (ev1 rfl)) ?_
  refine zae ?_
  refine dwp_ret ?_
  refine kend0 (rs2 rfl (rv_mw tb115 rfl rfl rfl) (rv_t rfl)) rfl ?_
  rfl
set_option maxRecDepth 4000 in
set_option maxHeartbeats 1000000 in
theorem kindOf_3 : DFun Tryz.prog 60 [.val (.int .i64 3)] [] (.tup [.agg [iD 47, iD 0, .fn (.func 97) [] [], .fn (.func 98) [] []], .val (.bool true)]) [] := by
  refine dcalls_go (N := 14) 0 (by kernel_rfl) Tryz.func60 rfl rfl rfl (by simp only [fr0, Nat.zero_add, Nat.reduceAdd]; exact rfl) rfl fun s0 hs0 => ?_
  refine zaf ?_
  refine zah 1 (by simp only [holes, List.cons_append, List.nil_append]; exact rfl) ?_
  refine zac ?_
  refine walk_w rfl rfl rfl (op_alloc 0 rfl zr115 rfl) (by simp only [upd, za, zaa]; exact rfl) ?_
  refine zab rfl rfl rfl (zad (.inr rfl) (ev1 rfl)) ?_
  refine zae ?_
  refine zaf ?_
  refine zaf ?_
  refine zac ?_
  refine zab rfl rfl rfl (zad (.inl rfl) (ev1 rfl)) ?_
  refine zab rfl rfl rfl ((op_lss rfl (ev1 rfl) (ev1 rfl)).cast (d' := .val (.bool false)) (by kernel_rfl)) ?_
  refine zab rfl rfl rfl (zad (.inl rfl) (ev1 rfl)) ?_
  refine walk_k (gd_f (b := false) rfl rfl rfl) rfl rfl rfl (zad (.inl rfl) (ev1 rfl)) (by simp only [upd, za, zaa]; exact rfl) ?_
  refine walk_k (gd_f (b := false) rfl rfl rfl) rfl rfl rfl ((op_gtr rfl (ev2 rfl) (ev1 rfl)).cast (d' := .val (.bool false)) (by kernel_rfl)) (by simp only [upd, za, zaa]; exact rfl) ?_
  refine zab rfl rfl rfl ((op_or rfl (ev1 rfl) (ev3 rfl (fun _ => rfl))).cast (d' := .val (.bool false)) (by rfl)) ?_
  refine zae ?_
  refine dwp_if_f rfl (rfl) ?_
  refine dwp_skip ?_
  refine zaf ?_
  refine zac ?_
  refine zab rfl rfl rfl (zai [] [] [] rfl (ev1 rfl) en rfl rfl (kinds_d) rfl rfl rfl rfl rfl rfl) ?_
  refine zab rfl rfl rfl (zad (.inl rfl) (ev1 rfl)) ?_
  refine zab rfl rfl rfl (op_ixwr (3) rfl av130 (ev1 rfl) (ev1 rfl) (fun _ => rfl) (fun _ => by decide) (Nat.le_of_ble_eq_true rfl)) ?_
  refine walk_s rfl rfl (op_stam rfl tb115 (ev1 rfl) (ev1 rfl) rfl rfl rfl rfl) (by simp only [upd, za, zaa]; exact rfl) ?_
  refine zab rfl rfl rfl (zad (.inr rfl) (ev1 rfl)) ?_
  refine zae ?_
  refine dwp_ret ?_
  refine kend0 (rs2 rfl (rv_mw tb115 rfl rfl rfl) (rv_t rfl)) rfl ?_
  rfl
set_option maxRecDepth 4000 in
set_option maxHeartbeats 1000000 in
theorem kindOf_4 : DFun Tryz.prog 60 [.val (.int .i64 4)] [] (.tup [.agg [iD 47, iD 0, .fn (.func 99) [] [], .fn (.func 98) [] []], .val (.bool true)]) [] := by
  refine dcalls_go (N := 14) 0 (by kernel_rfl) Tryz.func60 rfl rfl rfl (by simp only [fr0, Nat.zero_add, Nat.reduceAdd]; exact rfl) rfl fun s0 hs0 => ?_
  refine zaf ?_
  refine zah 1 (by simp only [holes, List.cons_append, List.nil_append]; exact rfl) ?_
  refine zac ?_
  refine walk_w rfl rfl rfl (op_alloc 0 rfl zr115 rfl) (by simp only [upd, za, zaa]; exact rfl) ?_
  refine zab rfl rfl rfl (zad (.inr rfl) (ev1 rfl)) ?_
  refine zae ?_
  refine zaf ?_
  refine zaf ?_
  refine zac ?_
  refine zab rfl rfl rfl (zad (.inl rfl) (ev1 rfl)) ?_
  refine zab rfl rfl rfl ((op_lss rfl (ev1 rfl) (ev1 rfl)).cast (d' := .val (.bool false)) (by kernel_rfl)) ?_
  refine zab rfl rfl rfl (zad (.inl rfl) (ev1 rfl)) ?_
  refine walk_k (gd_f (b := false) rfl rfl rfl) rfl rfl rfl (zad (.inl rfl) (ev1 rfl)) (by simp only [upd, za, zaa]; exact rfl) ?_
  refine walk_k (gd_f (b := false) rfl rfl rfl) rfl rfl rfl ((op_gtr rfl (ev2 rfl) (ev1 rfl)).cast (d' := .val (.bool false)) (by kernel_rfl)) (by simp only [upd, za, zaa]; exact rfl) ?_
  refine zab rfl rfl rfl ((op_or rfl (ev1 rfl) (ev3 rfl (fun _ => rfl))).cast (d' := .val (.bool false)) (by rfl)) ?_
  refine zae ?_
  refine dwp_if_f rfl (rfl) ?_
  refine dwp_skip ?_
  refine zaf ?_
  refine zac ?_
  refine zab rfl rfl rfl (zai [] [] [] rfl (ev1 rfl) en rfl rfl (kinds_d) rfl rfl rfl rfl rfl rfl) ?_
  refine zab rfl rfl rfl (zad (.inl rfl) (ev1 rfl)) ?_
  refine zab rfl rfl rfl (op_ixwr (4) rfl av130 (ev1 rfl) (ev1 rfl) (fun _ => rfl) (fun _ => by decide) (Nat.le_of_ble_eq_true rfl)) ?_
  refine walk_s rfl rfl (op_stam rfl tb115 (ev1 rfl) (ev1 rfl) rfl rfl rfl rfl) (by simp only [upd, za, zaa]; exact rfl) ?_
  refine zab rfl rfl rfl (zad (.inr rfl) (ev1 rfl)) ?_
  refine zae ?_
  refine dwp_ret ?_
  refine kend0 (rs2 rfl (rv_mw tb115 rfl rfl rfl) (rv_t rfl)) rfl ?_
  rfl
set_option maxRecDepth 4000 in
set_option maxHeartbeats 1000000 in
theorem kindOf_5 : DFun Tryz.prog 60 [.val (.int .i64 5)] [] (.tup [.agg [iD 51, iD 1020, .fn (.func 100) [] [], .fn (.func 101) [] []], .val (.bool true)]) [] := by
  refine dcalls_go (N := 14) 0 (by kernel_rfl) Tryz.func60 rfl rfl rfl (by simp only [fr0, Nat.zero_add, Nat.reduceAdd]; exact rfl) rfl fun s0 hs0 => ?_
  refine zaf ?_
  refine zah 1 (by simp only [holes, List.cons_append, List.nil_append]; exact rfl) ?_
  refine zac ?_
  refine walk_w rfl rfl rfl (op_alloc 0 rfl zr115 rfl) (by simp only [upd, za, zaa]; exact rfl) ?_
  refine zab rfl rfl rfl (zad (.inr rfl) (ev1 rfl)) ?_
  refine zae ?_
  refine zaf ?_
  refine zaf ?_
  refine zac ?_
  refine zab rfl rfl rfl (zad (.inl rfl) (ev1 rfl)) ?_
  refine zab rfl rfl rfl ((op_lss rfl (ev1 rfl) (ev1 rfl)).cast (d' := .val (.bool false)) (by kernel_rfl)) ?_
  refine zab rfl rfl rfl (zad (.inl rfl) (ev1 rfl)) ?_
  refine walk_k (gd_f (b := false) rfl rfl rfl) rfl rfl rfl (zad (.inl rfl) (ev1 rfl)) (by simp only [upd, za, zaa]; exact rfl) ?_
  refine walk_k (gd_f (b := false) rfl rfl rfl) rfl rfl rfl ((op_gtr rfl (ev2 rfl) (ev1 rfl)).cast (d' := .val (.bool false)) (by kernel_rfl)) (by simp only [upd, za, zaa]; exact rfl) ?_
  refine zab rfl rfl rfl ((op_or rfl (ev1 rfl) (ev3 rfl (fun _ => rfl))).cast (d' := .val (.bool false)) (by rfl)) ?_
  refine zae ?_
  refine dwp_if_f rfl (rfl) ?_
  refine dwp_skip ?_
  refine zaf ?_
  refine zac ?_
  refine zab rfl rfl rfl (zai [] [] [] rfl (ev1 rfl) en rfl rfl (kinds_d) rfl rfl rfl rfl rfl rfl) ?_
  refine zab rfl rfl rfl (zad (.inl rfl) (ev1 rfl)) ?_
  refine zab rfl rfl rfl (op_ixwr (5) rfl av130 (ev1 rfl) (ev1 rfl) (fun _ => rfl) (fun _ => by decide) (Nat.le_of_ble_eq_true rfl)) ?_
  refine walk_s rfl rfl (op_stam rfl tb115 (ev1 rfl) (ev1 rfl) rfl rfl rfl rfl) (by simp only [upd, za, zaa]; exact rfl) ?_
  refine zab rfl rfl rfl (zad (.inr rfl) (ev1 rfl)) ?_
  refine zae ?_
  refine dwp_ret ?_
  refine kend0 (rs2 rfl (rv_mw tb115 rfl rfl rfl) (rv_t rfl)) rfl ?_
  rfl
set_option maxRecDepth 4000 in
set_option maxHeartbeats 1000000 in
theorem kindOf_6 : DFun Tryz.prog 60 [.val (.int .i64 6)] [] (.tup [.agg [iD 67, iD 0, .fn (.func 102) [] [], .fn (.func 103) [] []], .val (.bool true)]) [] := by
  refine dcalls_go (N := 14) 0 (by kernel_rfl) Tryz.func60 rfl rfl rfl (by simp only [fr0, Nat.zero_add, Nat.reduceAdd]; exact rfl) rfl fun s0 hs0 => ?_
  refine zaf ?_
  refine zah 1 (by simp only [holes, List.cons_append, List.nil_append]; exact rfl) ?_
  refine zac ?_
  refine walk_w rfl rfl rfl (op_alloc 0 rfl zr115 rfl) (by simp only [upd, za, zaa]; exact rfl) ?_
  refine zab rfl rfl rfl (zad (.inr rfl) (ev1 rfl)) ?_
  refine zae ?_
  refine zaf ?_
  refine zaf ?_
  refine zac ?_
  refine zab rfl rfl rfl (zad (.inl rfl) (ev1 rfl)) ?_
  refine zab rfl rfl rfl ((op_lss rfl (ev1 rfl) (ev1 rfl)).cast (d' := .val (.bool false)) (by kernel_rfl)) ?_
  refine zab rfl rfl rfl (zad (.inl rfl) (ev1 rfl)) ?_
  refine walk_k (gd_f (b := false) rfl rfl rfl) rfl rfl rfl (zad (.inl rfl) (ev1 rfl)) (by simp only [upd, za, zaa]; exact rfl) ?_
  refine walk_k (gd_f (b := false) rfl rfl rfl) rfl rfl rfl ((op_gtr rfl (ev2 rfl) (ev1 rfl)).cast (d' := .val (.bool false)) (by kernel_rfl)) (by simp only [upd, za, zaa]; exact rfl) ?_
  refine zab rfl rfl rfl ((op_or rfl (ev1 rfl) (ev3 rfl (fun _ => rfl))).cast (d' := .val (.bool false)) (by rfl)) ?_
  refine zae ?_
  refine dwp_if_f rfl (rfl) ?_
  refine dwp_skip ?_
  refine zaf ?_
  refine zac ?_
  refine zab rfl rfl rfl (zai [] [] [] rfl (ev1 rfl) en rfl rfl (kinds_d) rfl rfl rfl rfl rfl rfl) ?_
  refine zab rfl rfl rfl (zad (.inl rfl) (ev1 rfl)) ?_
  refine zab rfl rfl rfl (op_ixwr (6) rfl av130 (ev1 rfl) (ev1 rfl) (fun _ => rfl) (fun _ => by decide) (Nat.le_of_ble_eq_true rfl)) ?_
  refine walk_s rfl rfl (op_stam rfl tb115 (ev1 rfl) (ev1 rfl) rfl rfl rfl rfl) (by simp only [upd, za, zaa]; exact rfl) ?_
  refine zab rfl rfl rfl (zad (.inr rfl) (ev1 rfl)) ?_
  refine zae ?_
  refine dwp_ret ?_
  refine kend0 (rs2 rfl (rv_mw tb115 rfl rfl rfl) (rv_t rfl)) rfl ?_
  rfl
set_option maxRecDepth 4000 in
set_option maxHeartbeats 1000000 in
theorem kindOf_7 : DFun Tryz.prog 60 [.val (.int .i64 7)] [] (.tup [.agg [iD 128, iD 0, .val .nilFunc, .val .nilFunc], .val (.bool true)]) [] := by
  refine dcalls_go (N := 14) 0 (by kernel_rfl) Tryz.func60 rfl rfl rfl (by simp only [fr0, Nat.zero_add, Nat.reduceAdd]; exact rfl) rfl fun s0 hs0 => ?_
  refine zaf ?_
  refine zah 1 (by simp only [holes, List.cons_append, List.nil_append]; exact rfl) ?_
  refine zac ?_
  refine walk_w rfl rfl rfl (op_alloc 0 rfl zr115 rfl) (by simp only [upd, za, zaa]; exact rfl) ?_
  refine zab rfl rfl rfl (zad (.inr rfl) (ev1 rfl)) ?_
  refine zae ?_
  refine zaf ?_
  refine zaf ?_
  refine zac ?_
  refine zab rfl rfl rfl (zad (.inl rfl) (ev1 rfl)) ?_
  refine zab rfl rfl rfl ((op_lss rfl (ev1 rfl) (ev1 rfl)).cast (d' := .val (.bool false)) (by kernel_rfl)) ?_
  refine zab rfl rfl rfl (zad (.inl rfl) (ev1 rfl)) ?_
  refine walk_k (gd_f (b := false) rfl rfl rfl) rfl rfl rfl (zad (.inl rfl) (ev1 rfl)) (by simp only [upd, za, zaa]; exact rfl) ?_
  refine walk_k (gd_f (b := false) rfl rfl rfl) rfl rfl rfl ((op_gtr rfl (ev2 rfl) (ev1 rfl)).cast (d' := .val (.bool false)) (by kernel_rfl)) (by simp only [upd, za, zaa]; exact rfl) ?_
  refine zab rfl rfl rfl ((op_or rfl (ev1 rfl) (ev3 rfl (fun _ => rfl))).cast (d' := .val (.bool false)) (by rfl)) ?_
  refine zae ?_
  refine dwp_if_f rfl (rfl) ?_
  refine dwp_skip ?_
  refine zaf ?_
  refine zac ?_
  refine zab rfl rfl rfl (zai [] [] [] rfl (ev1 rfl) en rfl rfl (kinds_d) rfl rfl rfl rfl rfl rfl) ?_
  refine zab rfl rfl rfl (zad (.inl rfl) (ev1 rfl)) ?_
  refine zab rfl rfl rfl (op_ixwr (7) rfl av130 (ev1 rfl) (ev1 rfl) (fun _ => rfl) (fun _ => by decide) (Nat.le_of_ble_eq_true rfl)) ?_
  refine walk_s rfl rfl (op_stam rfl tb115 (ev1 rfl) (ev1 rfl) rfl rfl rfl rfl) (by simp only [upd, za, zaa]; exact rfl) ?_
  refine zab rfl rfl rfl (zad (.inr rfl) (ev1 rfl)) ?_
  refine zae ?_
  refine dwp_ret ?_
  refine kend0 (rs2 rfl (rv_mw tb115 rfl rfl rfl) (rv_t rfl)) rfl ?_
  rfl
set_option maxRecDepth 4000 in
set_option maxHeartbeats 1000000 in
theorem kindOf_8 : DFun Tryz.prog 60 [.val (.int .i64 8)] [] (.tup [.agg [iD 128, iD 0, .val .nilFunc, .val .nilFunc], .val (.bool true)]) [] := by
  refine dcalls_go (N := 14) 0 (by kernel_rfl) Tryz.func60 rfl rfl rfl (by simp only [fr0, Nat.zero_add, Nat.reduceAdd]; exact rfl) rfl fun s0 hs0 => ?_
  refine zaf ?_
  refine zah 1 (by simp only [holes, List.cons_append, List.nil_append]; exact rfl) ?_
  refine zac ?_
  refine walk_w rfl rfl rfl (op_alloc 0 rfl zr115 rfl) (by simp only [upd, za, zaa]; exact rfl) ?_
  refine zab rfl rfl rfl (zad (.inr rfl) (ev1 rfl)) ?_
  refine zae ?_
  refine zaf ?_
  refine zaf ?_
  refine zac ?_
  refine zab rfl rfl rfl (zad (.inl rfl) (ev1 rfl)) ?_
  refine zab rfl rfl rfl ((op_lss rfl (ev1 rfl) (ev1 rfl)).cast (d' := .val (.bool false)) (by kernel_rfl)) ?_
  refine zab rfl rfl rfl (zad (.inl rfl) (ev1 rfl)) ?_
  refine walk_k (gd_f (b := false) rfl rfl rfl) rfl rfl rfl (zad (.inl rfl) (ev1 rfl)) (by simp only [upd, za, zaa]; exact rfl) ?_
  refine walk_k (gd_f (b := false) rfl rfl rfl) rfl rfl rfl ((op_gtr rfl (ev2 rfl) (ev1 rfl)).cast (d' := .val (.bool false)) (by kernel_rfl)) (by simp only [upd, za, zaa]; exact rfl) ?_
  refine zab rfl rfl rfl ((op_or rfl (ev1 rfl) (ev3 rfl (fun _ => rfl))).cast (d' := .val (.bool false)) (by rfl)) ?_
  refine zae ?_
  refine dwp_if_f rfl (rfl) ?_
  refine dwp_skip ?_
  refine zaf ?_
  refine zac ?_
  refine zab rfl rfl rfl (zai [] [] [] rfl (ev1 rfl) en rfl rfl (kinds_d) rfl rfl rfl rfl rfl rfl) ?_
  refine zab rfl rfl rfl (zad (.inl rfl) (ev1 rfl)) ?_
  refine zab rfl rfl rfl (op_ixwr (8) rfl av130 (ev1 rfl) (ev1 rfl) (fun _ => rfl) (fun _ => by decide) (Nat.le_of_ble_eq_true rfl)) ?_
  refine walk_s rfl rfl (op_stam rfl tb115 (ev1 rfl) (ev1 rfl) rfl rfl rfl rfl) (by simp only [upd, za, zaa]; exact rfl) ?_
  refine zab rfl rfl rfl (zad (.inr rfl) (ev1 rfl)) ?_
  refine zae ?_
  refine dwp_ret ?_
  refine kend0 (rs2 rfl (rv_mw tb115 rfl rfl rfl) (rv_t rfl)) rfl ?_
  rfl
set_option maxRecDepth 4000 in
set_option maxHeartbeats 1000000 in
theorem kindOf_no (n : Int) (h : ¬ (1 ≤ n ∧ n ≤ 8)) : DFun Tryz.prog 60 [.val (.int .i64 n)] [] (.tup [.val (.agg #[.int .i64 0, .int .i64 0, .nilFunc, .nilFunc]), .val (.bool false)]) [] := by
  refine dcalls_go (N := 14) 0 (by kernel_rfl) Tryz.func60 rfl rfl rfl (by simp only [fr0, Nat.zero_add, Nat.reduceAdd]; exact rfl) rfl fun s0 hs0 => ?_
  refine zaf ?_
  refine zah 1 (by simp only [holes, List.cons_append, List.nil_append]; exact rfl) ?_
  refine zac ?_
  refine walk_w rfl rfl rfl (op_alloc 0 rfl zr115 rfl) (by simp only [upd, za, zaa]; exact rfl) ?_
  refine zab rfl rfl rfl (zad (.inr rfl) (ev1 rfl)) ?_
  refine zae ?_
  refine zaf ?_
  refine zaf ?_
  refine zac ?_
  refine zab rfl rfl rfl (zad (.inl rfl) (ev1 rfl)) ?_
  refine zab rfl rfl rfl (op_lss rfl (ev1 rfl) (ev1 rfl)) ?_
  refine zab rfl rfl rfl (zad (.inl rfl) (ev1 rfl)) ?_
  refine zag (gd_f rfl rfl rfl) rfl rfl rfl (zad (.inl rfl) (ev1 rfl)) ?_
  refine zag (gd_f rfl rfl rfl) rfl rfl rfl (op_gtr rfl (ev2 rfl) (ev1 rfl)) ?_
  refine zab rfl rfl rfl (op_or rfl (ev1 rfl) (ev3 rfl id)) ?_
  refine zae ?_
  refine dwp_if_t rfl (by simp; omega) ?_
  refine zaf ?_
  refine zac ?_
  refine zab rfl rfl rfl (op_build0 rfl fl115 zr115) ?_
  refine walk_s rfl rfl (op_stwa rfl tb115 (ev1 rfl) (ev1 rfl) rfl rfl rfl rfl) (by simp only [upd, za, zaa]; exact rfl) ?_
  refine zab rfl rfl rfl (zad (.inr rfl) (ev1 rfl)) ?_
  refine zae ?_
  refine dwp_ret ?_
  refine kend0 (rs2 rfl (rv_w tb115 rfl rfl rfl) (rv_t rfl)) rfl ?_
  rfl
set_option maxRecDepth 4000 in
set_option maxHeartbeats 1000000 in
theorem fit0_d (u m : Int) (a b : D) (o : OpM) : DFun Tryz.prog 68 [.agg [iD u, iD m, a, b], .dpm (opD o)] [] (.val (.bool (drB o.x))) [] := by
  refine dcalls_go (N := 10) 0 (by kernel_rfl) Tryz.func68 rfl rfl rfl (by simp only [fr0, Nat.zero_add, Nat.reduceAdd]; exact rfl) rfl fun s0 hs0 => ?_
  refine zaf ?_
  refine zah 1 (by simp only [holes, List.cons_append, List.nil_append]; exact rfl) ?_
  refine zac ?_
  refine walk_w rfl rfl rfl (op_boxam 0 rfl (ev1 rfl) rfl) (by simp only [upd, za, zaa]; exact rfl) ?_
  refine zab rfl rfl rfl (zad (.inr rfl) (ev1 rfl)) ?_
  refine zae ?_
  refine zaf ?_
  refine zac ?_
  refine zab rfl rfl rfl (zad (.inl rfl) (ev1 rfl)) ?_
  refine zab rfl rfl rfl (op_nc rfl (ev1 rfl) (fun s v h => by cases h; exact ⟨_, rfl⟩)) ?_
  refine zab rfl rfl rfl (op_fadm rfl fo44_2 (ev1 rfl)) ?_
  refine zab rfl rfl rfl (op_lddm rfl tb3 (ev1 rfl) rfl) ?_
  refine zab rfl rfl rfl (zai [] [] [] rfl (ev1 rfl) (ec (ev1 rfl) en) rfl rfl (drawn_d _) rfl rfl rfl rfl rfl rfl) ?_
  refine zab rfl rfl rfl (zad (.inr rfl) (ev1 rfl)) ?_
  refine zae ?_
  refine dwp_ret ?_
  refine kend0 (rs1 rfl (rv_t rfl)) rfl ?_
  rfl
set_option maxRecDepth 4000 in
set_option maxHeartbeats 1000000 in
theorem blk0_d (o : OpM) : DFun Tryz.prog 70 [.dpm (opD o)] [] (.val (.bool ((o.x == 0)))) [] := by
  refine dcalls_go (N := 8) 0 (by kernel_rfl) Tryz.func70 rfl rfl rfl (by simp only [fr0, Nat.zero_add, Nat.reduceAdd]; exact rfl) rfl fun s0 hs0 => ?_
  refine zaf ?_
  refine zac ?_
  refine zab rfl rfl rfl (zad (.inr rfl) (ev1 rfl)) ?_
  refine zae ?_
  refine zaf ?_
  refine zac ?_
  refine zab rfl rfl rfl (zad (.inl rfl) (ev1 rfl)) ?_
  refine zab rfl rfl rfl (op_nc rfl (ev1 rfl) (fun s v h => by cases h; exact ⟨_, rfl⟩)) ?_
  refine zab rfl rfl rfl (op_fadm rfl fo44_2 (ev1 rfl)) ?_
  refine zab rfl rfl rfl (op_lddm rfl tb3 (ev1 rfl) rfl) ?_
  refine zab rfl rfl rfl (op_eql rfl (ev1 rfl) (ev1 rfl)) ?_
  refine zab rfl rfl rfl (zad (.inr rfl) (ev1 rfl)) ?_
  refine zae ?_
  refine dwp_ret ?_
  refine kend0 (rs1 rfl (rv_t rfl)) rfl ?_
  rfl
set_option maxRecDepth 4000 in
set_option maxHeartbeats 1000000 in
theorem fit1_d (u m : Int) (a b : D) (o : OpM) : DFun Tryz.prog 72 [.agg [iD u, iD m, a, b], .dpm (opD o)] [] (.val (.bool (drB o.y))) [] := by
  refine dcalls_go (N := 10) 0 (by kernel_rfl) Tryz.func72 rfl rfl rfl (by simp only [fr0, Nat.zero_add, Nat.reduceAdd]; exact rfl) rfl fun s0 hs0 => ?_
  refine zaf ?_
  refine zah 1 (by simp only [holes, List.cons_append, List.nil_append]; exact rfl) ?_
  refine zac ?_
  refine walk_w rfl rfl rfl (op_boxam 0 rfl (ev1 rfl) rfl) (by simp only [upd, za, zaa]; exact rfl) ?_
  refine zab rfl rfl rfl (zad (.inr rfl) (ev1 rfl)) ?_
  refine zae ?_
  refine zaf ?_
  refine zac ?_
  refine zab rfl rfl rfl (zad (.inl rfl) (ev1 rfl)) ?_
  refine zab rfl rfl rfl (op_nc rfl (ev1 rfl) (fun s v h => by cases h; exact ⟨_, rfl⟩)) ?_
  refine zab rfl rfl rfl (op_fadm rfl fo44_3 (ev1 rfl)) ?_
  refine zab rfl rfl rfl (op_lddm rfl tb3 (ev1 rfl) rfl) ?_
  refine zab rfl rfl rfl (zai [] [] [] rfl (ev1 rfl) (ec (ev1 rfl) en) rfl rfl (drawn_d _) rfl rfl rfl rfl rfl rfl) ?_
  refine zab rfl rfl rfl (zad (.inr rfl) (ev1 rfl)) ?_
  refine zae ?_
  refine dwp_ret ?_
  refine kend0 (rs1 rfl (rv_t rfl)) rfl ?_
  rfl
set_option maxRecDepth 4000 in
set_option maxHeartbeats 1000000 in
theorem blk1_d (o : OpM) : DFun Tryz.prog 73 [.dpm (opD o)] [] (.val (.bool ((o.y == 0)))) [] := by
  refine dcalls_go (N := 8) 0 (by kernel_rfl) Tryz.func73 rfl rfl rfl (by simp only [fr0, Nat.zero_add, Nat.reduceAdd]; exact rfl) rfl fun s0 hs0 => ?_
  refine zaf ?_
  refine zac ?_
  refine zab rfl rfl rfl (zad (.inr rfl) (ev1 rfl)) ?_
  refine zae ?_
  refine zaf ?_
  refine zac ?_
  refine zab rfl rfl rfl (zad (.inl rfl) (ev1 rfl)) ?_
  refine zab rfl rfl rfl (op_nc rfl (ev1 rfl) (fun s v h => by cases h; exact ⟨_, rfl⟩)) ?_
  refine zab rfl rfl rfl (op_fadm rfl fo44_3 (ev1 rfl)) ?_
  refine zab rfl rfl rfl (op_lddm rfl tb3 (ev1 rfl) rfl) ?_
  refine zab rfl rfl rfl (op_eql rfl (ev1 rfl) (ev1 rfl)) ?_
  refine zab rfl rfl rfl (zad (.inr rfl) (ev1 rfl)) ?_
  refine zae ?_
  refine dwp_ret ?_
  refine kend0 (rs1 rfl (rv_t rfl)) rfl ?_
  rfl
set_option maxRecDepth 4000 in
set_option maxHeartbeats 1000000 in
theorem fit2_d (u m : Int) (a b : D) (o : OpM) : DFun Tryz.prog 75 [.agg [iD u, iD m, a, b], .dpm (opD o)] [] (.val (.bool (drB o.x2))) [] := by
  refine dcalls_go (N := 10) 0 (by kernel_rfl) Tryz.func75 rfl rfl rfl (by simp only [fr0, Nat.zero_add, Nat.reduceAdd]; exact rfl) rfl fun s0 hs0 => ?_
  refine zaf ?_
  refine zah 1 (by simp only [holes, List.cons_append, List.nil_append]; exact rfl) ?_
  refine zac ?_
  refine walk_w rfl rfl rfl (op_boxam 0 rfl (ev1 rfl) rfl) (by simp only [upd, za, zaa]; exact rfl) ?_
  refine zab rfl rfl rfl (zad (.inr rfl) (ev1 rfl)) ?_
  refine zae ?_
  refine zaf ?_
  refine zac ?_
  refine zab rfl rfl rfl (zad (.inl rfl) (ev1 rfl)) ?_
  refine zab rfl rfl rfl (op_nc rfl (ev1 rfl) (fun s v h => by cases h; exact ⟨_, rfl⟩)) ?_
  refine zab rfl rfl rfl (op_fadm rfl fo44_4 (ev1 rfl)) ?_
  refine zab rfl rfl rfl (op_lddm rfl tb3 (ev1 rfl) rfl) ?_
  refine zab rfl rfl rfl (zai [] [] [] rfl (ev1 rfl) (ec (ev1 rfl) en) rfl rfl (drawn_d _) rfl rfl rfl rfl rfl rfl) ?_
  refine zab rfl rfl rfl (zad (.inr rfl) (ev1 rfl)) ?_
  refine zae ?_
  refine dwp_ret ?_
  refine kend0 (rs1 rfl (rv_t rfl)) rfl ?_
  rfl
set_option maxRecDepth 4000 in
set_option maxHeartbeats 1000000 in
theorem blk2_d (o : OpM) : DFun Tryz.prog 76 [.dpm (opD o)] [] (.val (.bool ((o.x2 == 0)))) [] := by
  refine dcalls_go (N := 8) 0 (by kernel_rfl) Tryz.func76 rfl rfl rfl (by simp only [fr0, Nat.zero_add, Nat.reduceAdd]; exact rfl) rfl fun s0 hs0 => ?_
  refine zaf ?_
  refine zac ?_
  refine zab rfl rfl rfl (zad (.inr rfl) (ev1 rfl)) ?_
  refine zae ?_
  refine zaf ?_
  refine zac ?_
  refine zab rfl rfl rfl (zad (.inl rfl) (ev1 rfl)) ?_
  refine zab rfl rfl rfl (op_nc rfl (ev1 rfl) (fun s v h => by cases h; exact ⟨_, rfl⟩)) ?_
  refine zab rfl rfl rfl (op_fadm rfl fo44_4 (ev1 rfl)) ?_
  refine zab rfl rfl rfl (op_lddm rfl tb3 (ev1 rfl) rfl) ?_
  refine zab rfl rfl rfl (op_eql rfl (ev1 rfl) (ev1 rfl)) ?_
  refine zab rfl rfl rfl (zad (.inr rfl) (ev1 rfl)) ?_
  refine zae ?_
  refine dwp_ret ?_
  refine kend0 (rs1 rfl (rv_t rfl)) rfl ?_
  rfl
set_option maxRecDepth 4000 in
set_option maxHeartbeats 1000000 in
theorem fit3_d (u m : Int) (a b : D) (o : OpM) : DFun Tryz.prog 78 [.agg [iD u, iD m, a, b], .dpm (opD o)] [] (.val (.bool (drB o.y2))) [] := by
  refine dcalls_go (N := 10) 0 (by kernel_rfl) Tryz.func78 rfl rfl rfl (by simp only [fr0, Nat.zero_add, Nat.reduceAdd]; exact rfl) rfl fun s0 hs0 => ?_
  refine zaf ?_
  refine zah 1 (by simp only [holes, List.cons_append, List.nil_append]; exact rfl) ?_
  refine zac ?_
  refine walk_w rfl rfl rfl (op_boxam 0 rfl (ev1 rfl) rfl) (by simp only [upd, za, zaa]; exact rfl) ?_
  refine zab rfl rfl rfl (zad (.inr rfl) (ev1 rfl)) ?_
  refine zae ?_
  refine zaf ?_
  refine zac ?_
  refine zab rfl rfl rfl (zad (.inl rfl) (ev1 rfl)) ?_
  refine zab rfl rfl rfl (op_nc rfl (ev1 rfl) (fun s v h => by cases h; exact ⟨_, rfl⟩)) ?_
  refine zab rfl rfl rfl (op_fadm rfl fo44_5 (ev1 rfl)) ?_
  refine zab rfl rfl rfl (op_lddm rfl tb3 (ev1 rfl) rfl) ?_
  refine zab rfl rfl rfl (zai [] [] [] rfl (ev1 rfl) (ec (ev1 rfl) en) rfl rfl (drawn_d _) rfl rfl rfl rfl rfl rfl) ?_
  refine zab rfl rfl rfl (zad (.inr rfl) (ev1 rfl)) ?_
  refine zae ?_
  refine dwp_ret ?_
  refine kend0 (rs1 rfl (rv_t rfl)) rfl ?_
  rfl
set_option maxRecDepth 4000 in
set_option maxHeartbeats 1000000 in
theorem blk3_d (o : OpM) : DFun Tryz.prog 79 [.dpm (opD o)] [] (.val (.bool ((o.y2 == 0)))) [] := by
  refine dcalls_go (N := 8) 0 (by kernel_rfl) Tryz.func79 rfl rfl rfl (by simp only [fr0, Nat.zero_add, Nat.reduceAdd]; exact rfl) rfl fun s0 hs0 => ?_
  refine zaf ?_
  refine zac ?_
  refine zab rfl rfl rfl (zad (.inr rfl) (ev1 rfl)) ?_
  refine zae ?_
  refine zaf ?_
  refine zac ?_
  refine zab rfl rfl rfl (zad (.inl rfl) (ev1 rfl)) ?_
  refine zab rfl rfl rfl (op_nc rfl (ev1 rfl) (fun s v h => by cases h; exact ⟨_, rfl⟩)) ?_
  refine zab rfl rfl rfl (op_fadm rfl fo44_5 (ev1 rfl)) ?_
  refine zab rfl rfl rfl (op_lddm rfl tb3 (ev1 rfl) rfl) ?_
  refine zab rfl rfl rfl (op_eql rfl (ev1 rfl) (ev1 rfl)) ?_
  refine zab rfl rfl rfl (zad (.inr rfl) (ev1 rfl)) ?_
  refine zae ?_
  refine dwp_ret ?_
  refine kend0 (rs1 rfl (rv_t rfl)) rfl ?_
  rfl
set_option maxRecDepth 4000 in
set_option maxHeartbeats 1000000 in
theorem fit4_d (u m : Int) (a b : D) (o : OpM) : DFun Tryz.prog 81 [.agg [iD u, iD m, a, b], .dpm (opD o)] [] (.val (.bool ((decide (0 ≤ o.sz) && decide (o.sz ≤ m))))) [] := by
  refine dcalls_go (N := 19) 0 (by kernel_rfl) Tryz.func81 rfl rfl rfl (by simp only [fr0, Nat.zero_add, Nat.reduceAdd]; exact rfl) rfl fun s0 hs0 => ?_
  refine zaf ?_
  refine zah 1 (by simp only [holes, List.cons_append, List.nil_append]; exact rfl) ?_
  refine zac ?_
  refine walk_w rfl rfl rfl (op_boxam 0 rfl (ev1 rfl) rfl) (by simp only [upd, za, zaa]; exact rfl) ?_
  refine zab rfl rfl rfl (zad (.inr rfl) (ev1 rfl)) ?_
  refine zae ?_
  refine zaf ?_
  refine dwp_draw [([], []), ([], []), ([], []), ([], []), ([], []), ([], []), ([], []), ([], []), ([], []), ([], []), ([], []), ([0], []), ([], []), ([], []), ([], [])] mixed (by kernel_rfl) ?_
  refine lex_r rfl rfl (zad (.inl rfl) (ev1 rfl)) ?_
  refine lex_r rfl rfl (op_nc rfl (ev1 rfl) (fun s v h => by cases h; exact ⟨_, rfl⟩)) ?_
  refine lex_r rfl rfl (op_fadm rfl fo44_6 (ev1 rfl)) ?_
  refine lex_r rfl rfl (op_lddm rfl tb3 (ev1 rfl) rfl) ?_
  refine lex_r rfl rfl (op_geq rfl (ev1 rfl) (ev1 rfl)) ?_
  refine lex_r rfl rfl (zad (.inl rfl) (ev1 rfl)) ?_
  refine lex_gr (gd_t rfl rfl rfl) rfl rfl (zad (.inl rfl) (ev1 rfl)) ?_
  refine lex_gr (gd_t rfl rfl rfl) rfl rfl (op_nc rfl (ev2 rfl) (fun s v h => by cases h; exact ⟨_, rfl⟩)) ?_
  refine lex_gr (gd_t rfl rfl rfl) rfl rfl (op_fadm rfl fo44_6 (ev2 rfl)) ?_
  refine lex_gr (gd_t rfl rfl rfl) rfl rfl (op_lddm rfl tb3 (ev2 rfl) rfl) ?_
  refine lex_gr (gd_t rfl rfl rfl) rfl rfl (op_fa rfl fo115_1 (ev1 rfl)) ?_
  refine lex_gr (gd_t rfl rfl rfl) rfl rfl (op_ldm rfl tb3 (ev2 rfl) rfl rfl) ?_
  refine lex_gr (gd_t rfl rfl rfl) rfl rfl (op_leq rfl (ev2 rfl) (ev2 rfl)) ?_
  refine lex_r rfl rfl (op_and rfl (ev1 rfl) (ev3 rfl id)) ?_
  refine lex_r rfl rfl (zad (.inr rfl) (ev1 rfl)) ?_
  refine lex_nil ?_
  refine dwp_ret ?_
  refine kend0 (rs1 rfl (rv_t rfl)) rfl ?_
  rfl
set_option maxRecDepth 4000 in
set_option maxHeartbeats 1000000 in
theorem blk4_d (o : OpM) : DFun Tryz.prog 82 [.dpm (opD o)] [] (.val (.bool ((o.sz == 0)))) [] := by
  refine dcalls_go (N := 8) 0 (by kernel_rfl) Tryz.func82 rfl rfl rfl (by simp only [fr0, Nat.zero_add, Nat.reduceAdd]; exact rfl) rfl fun s0 hs0 => ?_
  refine zaf ?_
  refine zac ?_
  refine zab rfl rfl rfl (zad (.inr rfl) (ev1 rfl)) ?_
  refine zae ?_
  refine zaf ?_
  refine zac ?_
  refine zab rfl rfl rfl (zad (.inl rfl) (ev1 rfl)) ?_
  refine zab rfl rfl rfl (op_nc rfl (ev1 rfl) (fun s v h => by cases h; exact ⟨_, rfl⟩)) ?_
  refine zab rfl rfl rfl (op_fadm rfl fo44_6 (ev1 rfl)) ?_
  refine zab rfl rfl rfl (op_lddm rfl tb3 (ev1 rfl) rfl) ?_
  refine zab rfl rfl rfl (op_eql rfl (ev1 rfl) (ev1 rfl)) ?_
  refine zab rfl rfl rfl (zad (.inr rfl) (ev1 rfl)) ?_
  refine zae ?_
  refine dwp_ret ?_
  refine kend0 (rs1 rfl (rv_t rfl)) rfl ?_
  rfl
set_option maxRecDepth 4000 in
set_option maxHeartbeats 1000000 in
theorem fit5_d (u m : Int) (a b : D) (o : OpM) : DFun Tryz.prog 84 [.agg [iD u, iD m, a, b], .dpm (opD o)] [] (.val (.bool (true))) [] := by
  refine dcalls_go (N := 5) 0 (by kernel_rfl) Tryz.func84 rfl rfl rfl (by simp only [fr0, Nat.zero_add, Nat.reduceAdd]; exact rfl) rfl fun s0 hs0 => ?_
  refine zaf ?_
  refine zah 1 (by simp only [holes, List.cons_append, List.nil_append]; exact rfl) ?_
  refine zac ?_
  refine walk_w rfl rfl rfl (op_boxam 0 rfl (ev1 rfl) rfl) (by simp only [upd, za, zaa]; exact rfl) ?_
  refine zab rfl rfl rfl (zad (.inr rfl) (ev1 rfl)) ?_
  refine zae ?_
  refine zaf ?_
  refine zac ?_
  refine zab rfl rfl rfl (zad (.inr rfl) (ev1 rfl)) ?_
  refine zae ?_
  refine dwp_ret ?_
  refine kend0 (rs1 rfl (rv_t rfl)) rfl ?_
  rfl
set_option maxRecDepth 4000 in
set_option maxHeartbeats 1000000 in
theorem blk5_d (o : OpM) : DFun Tryz.prog 85 [.dpm (opD o)] [] (.val (.bool (decide (o.co = zC4)))) [] := by
  refine dcalls_go (N := 9) 0 (by kernel_rfl) Tryz.func85 rfl rfl rfl (by simp only [fr0, Nat.zero_add, Nat.reduceAdd]; exact rfl) rfl fun s0 hs0 => ?_
  refine zaf ?_
  refine zac ?_
  refine zab rfl rfl rfl (zad (.inr rfl) (ev1 rfl)) ?_
  refine zae ?_
  refine zaf ?_
  refine zac ?_
  refine zab rfl rfl rfl (zad (.inl rfl) (ev1 rfl)) ?_
  refine zab rfl rfl rfl (op_nc rfl (ev1 rfl) (fun s v h => by cases h; exact ⟨_, rfl⟩)) ?_
  refine zab rfl rfl rfl (op_fadm rfl fo44_7 (ev1 rfl)) ?_
  refine zab rfl rfl rfl (op_lddv (c4 o.co) rfl tb39 (ev1 rfl) rfl rfl) ?_
  refine zab rfl rfl rfl (op_build0 rfl fl39 zr39) ?_
  refine zab rfl rfl rfl (op_eqr eq39 rfl gd39 tb39 (ev1 rfl) (ev1 rfl)) ?_
  refine zab rfl rfl rfl (zad (.inr rfl) (ev1 rfl)) ?_
  refine zae ?_
  refine dwp_ret ?_
  refine kend0 (rs1 rfl (rv_t rfl)) rfl ?_
  rfl
set_option maxRecDepth 4000 in
set_option maxHeartbeats 1000000 in
theorem fit6_d (u m : Int) (a b : D) (o : OpM) : DFun Tryz.prog 87 [.agg [iD u, iD m, a, b], .dpm (opD o)] [] (.val (.bool ((errOr (stB o.sw o.sh o.px) 190 == 0)))) [] := by
  refine dcalls_go (N := 11) 0 (by kernel_rfl) Tryz.func87 rfl rfl rfl (by simp only [fr0, Nat.zero_add, Nat.reduceAdd]; exact rfl) rfl fun s0 hs0 => ?_
  refine zaf ?_
  refine zah 1 (by simp only [holes, List.cons_append, List.nil_append]; exact rfl) ?_
  refine zac ?_
  refine walk_w rfl rfl rfl (op_boxam 0 rfl (ev1 rfl) rfl) (by simp only [upd, za, zaa]; exact rfl) ?_
  refine zab rfl rfl rfl (zad (.inr rfl) (ev1 rfl)) ?_
  refine zae ?_
  refine zaf ?_
  refine zac ?_
  refine zab rfl rfl rfl (zad (.inl rfl) (ev1 rfl)) ?_
  refine zab rfl rfl rfl (op_nc rfl (ev1 rfl) (fun s v h => by cases h; exact ⟨_, rfl⟩)) ?_
  refine zab rfl rfl rfl (op_fadm rfl fo44_8 (ev1 rfl)) ?_
  refine zab rfl rfl rfl (op_lddr rfl tb42 (ev1 rfl) rfl rfl) ?_
  refine zab rfl rfl rfl (zai [] [] [] rfl (ev1 rfl) (ec (ev1 rfl) en) rfl rfl (stCheck_d _ _ _) rfl rfl rfl rfl rfl rfl) ?_
  refine zab rfl rfl rfl (op_eql rfl (ev1 rfl) (ev1 rfl)) ?_
  refine zab rfl rfl rfl (zad (.inr rfl) (ev1 rfl)) ?_
  refine zae ?_
  refine dwp_ret ?_
  refine kend0 (rs1 rfl (rv_t rfl)) rfl ?_
  rfl
set_option maxRecDepth 4000 in
set_option maxHeartbeats 1000000 in
theorem blk6_d (o : OpM) : DFun Tryz.prog 89 [.dpm (opD o)] [] (.val (.bool ((((o.sw == 0) && (o.sh == 0)) && decide (o.px = []))))) [] := by
  refine dcalls_go (N := 9) 0 (by kernel_rfl) Tryz.func89 rfl rfl rfl (by simp only [fr0, Nat.zero_add, Nat.reduceAdd]; exact rfl) rfl fun s0 hs0 => ?_
  refine zaf ?_
  refine zac ?_
  refine zab rfl rfl rfl (zad (.inr rfl) (ev1 rfl)) ?_
  refine zae ?_
  refine zaf ?_
  refine zac ?_
  refine zab rfl rfl rfl (zad (.inl rfl) (ev1 rfl)) ?_
  refine zab rfl rfl rfl (op_nc rfl (ev1 rfl) (fun s v h => by cases h; exact ⟨_, rfl⟩)) ?_
  refine zab rfl rfl rfl (op_fadm rfl fo44_8 (ev1 rfl)) ?_
  refine zab rfl rfl rfl (op_lddr rfl tb42 (ev1 rfl) rfl rfl) ?_
  refine zab rfl rfl rfl (op_build0 rfl fl42 zr42) ?_
  refine zab rfl rfl rfl (zai [] [] [] rfl (ev1 rfl) (ec (ev1 rfl) (ec (evwk (ev1 rfl) wkSt0) en)) rfl rfl (stSame_d _ _ _ _ _ []) rfl rfl rfl rfl rfl rfl) ?_
  refine zab rfl rfl rfl (zad (.inr rfl) (ev1 rfl)) ?_
  refine zae ?_
  refine dwp_ret ?_
  refine kend0 (rs1 rfl (rv_t rfl)) rfl ?_
  rfl
set_option maxRecDepth 4000 in
set_option maxHeartbeats 1000000 in
theorem fit7_d (u m : Int) (a b : D) (o : OpM) : DFun Tryz.prog 92 [.agg [iD u, iD m, a, b], .dpm (opD o)] [] (.val (.bool (((errOr (mayR o.tg) 210 == 0) && lessR o.tg o.id)))) [] := by
  refine dcalls_go (N := 22) 0 (by kernel_rfl) Tryz.func92 rfl rfl rfl (by simp only [fr0, Nat.zero_add, Nat.reduceAdd]; exact rfl) rfl fun s0 hs0 => ?_
  refine zaf ?_
  refine zah 1 (by simp only [holes, List.cons_append, List.nil_append]; exact rfl) ?_
  refine zac ?_
  refine walk_w rfl rfl rfl (op_boxam 0 rfl (ev1 rfl) rfl) (by simp only [upd, za, zaa]; exact rfl) ?_
  refine zab rfl rfl rfl (zad (.inr rfl) (ev1 rfl)) ?_
  refine zae ?_
  refine zaf ?_
  refine dwp_draw [([], []), ([], []), ([], []), ([], []), ([], []), ([], []), ([], []), ([], []), ([], []), ([], []), ([], []), ([], []), ([], []), ([], []), ([], []), ([], []), ([], []), ([], [])] mixed (by kernel_rfl) ?_
  refine lex_r rfl rfl (zad (.inl rfl) (ev1 rfl)) ?_
  refine lex_r rfl rfl (op_nc rfl (ev1 rfl) (fun s v h => by cases h; exact ⟨_, rfl⟩)) ?_
  refine lex_r rfl rfl (op_fadm rfl fo44_9 (ev1 rfl)) ?_
  refine lex_r rfl rfl (op_lddv (idc o.tg) rfl tb37 (ev1 rfl) rfl rfl) ?_
  refine lex_r rfl rfl (zai [] [] [] rfl (ev1 rfl) (ec (ev1 rfl) en) rfl rfl (idCheck_d _) rfl rfl rfl rfl rfl rfl) ?_
  refine lex_r rfl rfl (op_eql rfl (ev1 rfl) (ev1 rfl)) ?_
  refine lex_r rfl rfl (zad (.inl rfl) (ev1 rfl)) ?_
  refine lex_gr (gd_t rfl rfl rfl) rfl rfl (zad (.inl rfl) (ev1 rfl)) ?_
  refine lex_gr (gd_t rfl rfl rfl) rfl rfl (op_nc rfl (ev2 rfl) (fun s v h => by cases h; exact ⟨_, rfl⟩)) ?_
  refine lex_gr (gd_t rfl rfl rfl) rfl rfl (op_fadm rfl fo44_9 (ev2 rfl)) ?_
  refine lex_gr (gd_t rfl rfl rfl) rfl rfl (op_lddv (idc o.tg) rfl tb37 (ev2 rfl) rfl rfl) ?_
  refine lex_gr (gd_t rfl rfl rfl) rfl rfl (zad (.inl rfl) (ev1 rfl)) ?_
  refine lex_gr (gd_t rfl rfl rfl) rfl rfl (op_nc rfl (ev2 rfl) (fun s v h => by cases h; exact ⟨_, rfl⟩)) ?_
  refine lex_gr (gd_t rfl rfl rfl) rfl rfl (op_fadm rfl fo44_0 (ev2 rfl)) ?_
  refine lex_gr (gd_t rfl rfl rfl) rfl rfl (op_lddv (idc o.id) rfl tb37 (ev2 rfl) rfl rfl) ?_
  refine lex_gr (gd_t rfl rfl rfl) rfl rfl (zai [] [] [] rfl (ev1 rfl) (ec (ev2 rfl) (ec (ev2 rfl) en)) rfl rfl (idLess_d _ _) rfl rfl rfl rfl rfl rfl) ?_
  refine lex_r rfl rfl (op_and rfl (ev1 rfl) (ev3 rfl id)) ?_
  refine lex_r rfl rfl (zad (.inr rfl) (ev1 rfl)) ?_
  refine lex_nil ?_
  refine dwp_ret ?_
  refine kend0 (rs1 rfl (rv_t rfl)) rfl ?_
  rfl
set_option maxRecDepth 4000 in
set_option maxHeartbeats 1000000 in
theorem blk7_d (o : OpM) : DFun Tryz.prog 93 [.dpm (opD o)] [] (.val (.bool (eqI o.tg zI3))) [] := by
  refine dcalls_go (N := 9) 0 (by kernel_rfl) Tryz.func93 rfl rfl rfl (by simp only [fr0, Nat.zero_add, Nat.reduceAdd]; exact rfl) rfl fun s0 hs0 => ?_
  refine zaf ?_
  refine zac ?_
  refine zab rfl rfl rfl (zad (.inr rfl) (ev1 rfl)) ?_
  refine zae ?_
  refine zaf ?_
  refine zac ?_
  refine zab rfl rfl rfl (zad (.inl rfl) (ev1 rfl)) ?_
  refine zab rfl rfl rfl (op_nc rfl (ev1 rfl) (fun s v h => by cases h; exact ⟨_, rfl⟩)) ?_
  refine zab rfl rfl rfl (op_fadm rfl fo44_9 (ev1 rfl)) ?_
  refine zab rfl rfl rfl (op_lddv (idc o.tg) rfl tb37 (ev1 rfl) rfl rfl) ?_
  refine zab rfl rfl rfl (op_build0 rfl fl37 zr37) ?_
  refine zab rfl rfl rfl (op_eqr eq37 rfl gd37 tb37 (ev1 rfl) (ev1 rfl)) ?_
  refine zab rfl rfl rfl (zad (.inr rfl) (ev1 rfl)) ?_
  refine zae ?_
  refine dwp_ret ?_
  refine kend0 (rs1 rfl (rv_t rfl)) rfl ?_
  rfl
end Go.Proofs.YtbcnaacgillhcaaGreat
