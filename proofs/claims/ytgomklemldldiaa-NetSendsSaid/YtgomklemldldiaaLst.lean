/- Structs of data: built, in rows, looked at, stored. No condition. -/
import Derived.Test.YtgomklemldldiaaLrb
import Derived.Test.YtgomklemldldiaaLon
namespace Go.Proofs.Ytgomklemldldiaa
set_option linter.unusedVariables false
set_option linter.unusedSimpArgs false
open Go.RowKit

/-- the cells of data -/
def D.cs : D → List D
  | .agg l => l
  | .val v => v.cells.toList.map .val
  | d => [d]
/-- what has cells of its own -/
def D.c1 : D → Bool
  | .opt _ _ => false
  | .tup _ => false
  | .junk => false
  | .hnd _ => false
  | _ => true
/-- what stands in one cell -/
def D.oc2 : D → Bool
  | .slf _ _ _ => true
  | .slm _ _ _ => true
  | .arr _ => true
  | .farr _ _ => true
  | .floc _ _ _ => true
  | .fn _ _ _ => true
  | .val u => u.oneCell'
  | _ => false
theorem oc2_one {s : St} {d : D} {v : Value} (h : Rep s d v) (hd : d.oc2 = true) : v.oneCell' = true := by
  cases h with
  | val v => exact hd
  | slf => rfl
  | slm => rfl
  | arr => rfl
  | fn => rfl
  | farr => rfl
  | floc => rfl
  | _ => cases hd
theorem cs_rep {s : St} {d : D} {v : Value} (h : Rep s d v) (hd : d.c1 = true) : Reps s d.cs v.cells.toList := by
  have h0 := h
  cases h with
  | val v =>
    refine ⟨by simp [D.cs], fun j e u h1 h2 => ?_⟩
    simp only [D.cs, List.getElem?_map, h2, Option.map_some] at h1
    cases h1
    exact .val u
  | agg hl h => exact ⟨hl, h⟩
  | opt => cases hd
  | tup => cases hd
  | junk => cases hd
  | hnd => cases hd
  | _ =>
    refine ⟨rfl, fun j e u h1 h2 => ?_⟩
    cases j with
    | zero => simp [D.cs, Value.cells] at h1 h2; subst h1 h2; exact h0
    | succ j => simp [D.cs, Value.cells] at h1

def setD : List D → Nat → List D → List D
  | Z, _, [] => Z
  | Z, p, d :: r => setD (Z.set p d) (p + 1) r
def fillD (offs : List (Nat × Nat)) : List D → List (Nat × List D) → List D
  | Z, [] => Z
  | Z, (i, C) :: r => fillD offs (setD Z ((offs.getD i (0, 0)).1) C) r
def fillBD (offs : List (Nat × Nat)) (n : Nat) : List (Nat × List D) → Bool
  | [] => true
  | (i, C) :: r => (match offs[i]? with | some (o, s) => C.length == s && Nat.ble (o + s) n | none => false) && fillBD offs n r
theorem reps_set {s : St} {Z : List D} {vz : List Value} (h : Reps s Z vz) {d : D} {v : Value} (hd : Rep s d v) (p : Nat) : Reps s (Z.set p d) (vz.set p v) := by
  refine ⟨by simp [h.1], fun j e u h1 h2 => ?_⟩
  by_cases e1 : p = j
  · subst e1
    by_cases hp : p < Z.length
    · rw [List.getElem?_set_self hp] at h1
      rw [List.getElem?_set_self (by rw [h.1]; exact hp)] at h2
      cases h1; cases h2; exact hd
    · rw [List.getElem?_eq_none (by simp; omega)] at h1; cases h1
  · rw [List.getElem?_set_ne e1] at h1 h2
    exact h.2 j e u h1 h2
theorem reps_setD {s : St} : ∀ (C : List D) (vc : List Value) (Z : List D) (vz : List Value) (p : Nat), Reps s C vc → Reps s Z vz → Reps s (setD Z p C) (setL vz p vc)
  | [], [], Z, vz, p, _, hz => by rw [setL_nil]; exact hz
  | d :: C, v :: vc, Z, vz, p, hc, hz => by
    rw [setD, setL]
    exact reps_setD C vc _ _ _ ⟨by simpa using hc.1, fun j e u h1 h2 => hc.2 (j + 1) e u (by simpa using h1) (by simpa using h2)⟩ (reps_set hz (hc.2 0 d v rfl rfl) p)
  | [], v :: vc, _, _, _, hc, _ => by have := hc.1; simp at this
  | d :: C, [], _, _, _, hc, _ => by have := hc.1; simp at this
theorem reps_fill {s : St} (offs : List (Nat × Nat)) (n : Nat) : ∀ (is : List Nat) (Cs : List (List D)) (vs : List (List Value)) (Z : List D) (vz : List Value), (∀ (j : Nat) C v, Cs[j]? = some C → vs[j]? = some v → Reps s C v) → Cs.length = vs.length → Reps s Z vz → fillBD offs n (is.zip Cs) = true →
    Reps s (fillD offs Z (is.zip Cs)) (fillL offs vz (is.zip vs)) ∧ fillB offs n (is.zip vs) = true
  | [], Cs, vs, Z, vz, _, _, hz, _ => by simpa [fillD, fillL, fillB] using hz
  | i :: is, [], vs, Z, vz, _, hl, hz, _ => by
    have : vs = [] := by cases vs with | nil => rfl | cons => simp at hl
    subst this
    simpa [fillD, fillL, fillB] using hz
  | i :: is, C :: Cs, [], Z, vz, _, hl, _, _ => by simp at hl
  | i :: is, C :: Cs, v :: vs, Z, vz, hc, hl, hz, hb => by
    simp only [List.zip_cons_cons, fillBD, Bool.and_eq_true] at hb
    simp only [List.zip_cons_cons, fillD, fillL, fillB, Bool.and_eq_true]
    have h0 := hc 0 C v rfl rfl
    obtain ⟨r1, r2⟩ := reps_fill offs n is Cs vs _ _ (fun j C v h1 h2 => hc (j + 1) C v (by simpa using h1) (by simpa using h2)) (by simpa using hl) (reps_setD C v Z vz _ h0 hz) hb.2
    refine ⟨r1, ?_, r2⟩
    rw [h0.1]
    exact hb.1
theorem reps_vals {s : St} (L : List Value) : Reps s (L.map .val) L := by
  refine ⟨by simp, fun j e u h1 h2 => ?_⟩
  rw [List.getElem?_map, h2] at h1
  cases h1
  exact .val u
theorem reps_app3 {s : St} {d1 d2 : List D} {v1 v2 : List Value} (h1 : Reps s d1 v1) (h2 : Reps s d2 v2) : Reps s (d1 ++ d2) (v1 ++ v2) := by
  refine ⟨by simp [h1.1, h2.1], fun j d v hd hv => ?_⟩
  by_cases hj : j < d1.length
  · rw [List.getElem?_append_left hj] at hd
    rw [List.getElem?_append_left (by rw [h1.1]; exact hj)] at hv
    exact h1.2 j d v hd hv
  · rw [List.getElem?_append_right (by omega)] at hd
    rw [List.getElem?_append_right (by rw [h1.1]; omega), h1.1] at hv
    exact h2.2 _ d v hd hv
theorem reps_cs {s : St} : ∀ (ds : List D) (vs : List Value), Reps s ds vs → ds.all D.c1 = true → Reps s (ds.flatMap D.cs) (vs.flatMap fun v => v.cells.toList)
  | [], [], _, _ => ⟨rfl, fun j e u h1 h2 => by simp at h1⟩
  | d :: ds, v :: vs, h, hc => by
    rw [List.all_cons, Bool.and_eq_true] at hc
    rw [List.flatMap_cons, List.flatMap_cons]
    exact reps_app3 (cs_rep (h.2 0 d v rfl rfl) hc.1) (reps_cs ds vs ⟨by simpa using h.1, fun j e u h1 h2 => h.2 (j + 1) e u (by simpa using h1) (by simpa using h2)⟩ hc.2)
  | [], v :: vs, h, _ => by have := h.1; simp at this
  | d :: ds, [], h, _ => by have := h.1; simp at this

theorem flatM_len' {α β : Type} {en : α → List β} {sz : Nat} (hen : ∀ a, (en a).length = sz) : ∀ l : List α, (l.flatMap en).length = l.length * sz
  | [] => by simp
  | a :: l => by rw [List.flatMap_cons, List.length_append, hen, flatM_len' hen l, List.length_cons, Nat.succ_mul]; omega
section
variable {P : Program} {pc : Bool} {o : Oper} {F : Fr} {M : List Blk}
theorem op_bldD {T : TypeId} {ps : List (Nat × Operand)} {ds R : List D} {offs : List (Nat × Nat)} {Z : List Value} (ho : o.op = .build T ps.toArray) (hT : fdL P T = some offs) (hZ : zrC P T = some Z) (hv : EvL pc F (ps.map (·.2)) ds) (hc : ds.all D.c1 = true)
    (hB : fillBD offs Z.length ((ps.map (·.1)).zip (ds.map D.cs)) = true) (hR : fillD offs (Z.map .val) ((ps.map (·.1)).zip (ds.map D.cs)) = R) : DOp P pc o F M [] (.agg R) [] := by
  intro hp a s hok hops _
  obtain ⟨r1, r2⟩ := evL_reps (a := a) (s := s) hp _ _ hv (fun x hx => hops x (by rw [ho]; simpa [Op.operands] using hx))
  have hf := reps_fill (s := s) offs Z.length (ps.map (·.1)) (ds.map D.cs) (((ps.map (·.2)).map a.eval).map fun v => v.cells.toList) (Z.map .val) Z (fun j C v h1 h2 => by
      rw [List.getElem?_map] at h1 h2
      simp only [Option.map_eq_some_iff] at h1 h2
      obtain ⟨d, h1, rfl⟩ := h1
      obtain ⟨u, h2, rfl⟩ := h2
      exact cs_rep (r2 j d u h1 h2) (List.all_eq_true.1 hc _ (List.mem_of_getElem? h1))) (by rw [List.length_map, List.length_map]; exact r1.symm) (reps_vals Z) hB
  rw [hR] at hf
  exact dg_val hok (run_build (P := P) (a := a) (w := s.w) ho hT hZ rfl hf.2 rfl) (.agg hf.1.1 hf.1.2)
/-- an array of listed parts -/
theorem op_bldaD {T : TypeId} {ps : List (Nat × Operand)} {ds R : List D} {q : Nat × Nat} {Z : List Value} (ho : o.op = .build T ps.toArray) (hT : arE P T = some q) (hZ : zrC P T = some Z) (hv : EvL pc F (ps.map (·.2)) ds) (hc : ds.all D.c1 = true) (hi : (ps.map (·.1)).all (fun i => Nat.blt i q.1) = true)
    (hB : fillBD ((List.range q.1).map fun i => (i * q.2, q.2)) Z.length ((ps.map (·.1)).zip (ds.map D.cs)) = true) (hR : fillD ((List.range q.1).map fun i => (i * q.2, q.2)) (Z.map .val) ((ps.map (·.1)).zip (ds.map D.cs)) = R) : DOp P pc o F M [] (.agg R) [] := by
  intro hp a s hok hops _
  obtain ⟨r1, r2⟩ := evL_reps (a := a) (s := s) hp _ _ hv (fun x hx => hops x (by rw [ho]; simpa [Op.operands] using hx))
  obtain ⟨i, z, e1, e2, e3⟩ := zrC_spec hZ
  obtain ⟨el, i', g1, g2, g3⟩ := arE_spec (n := q.1) (sz := q.2) hT
  have hf := reps_fill (s := s) ((List.range q.1).map fun i => (i * q.2, q.2)) Z.length (ps.map (·.1)) (ds.map D.cs) (((ps.map (·.2)).map a.eval).map fun v => v.cells.toList) (Z.map .val) Z (fun j C v h1 h2 => by
      rw [List.getElem?_map] at h1 h2
      simp only [Option.map_eq_some_iff] at h1 h2
      obtain ⟨d, h1, rfl⟩ := h1
      obtain ⟨u, h2, rfl⟩ := h2
      exact cs_rep (r2 j d u h1 h2) (List.all_eq_true.1 hc _ (List.mem_of_getElem? h1))) (by rw [List.length_map, List.length_map]; exact r1.symm) (reps_vals Z) hB
  rw [hR] at hf
  obtain ⟨vs, hvs⟩ : ∃ vs, vs = (ps.map (·.2)).map a.eval := ⟨_, rfl⟩
  rw [← hvs] at hf
  obtain ⟨W, hW⟩ : ∃ W, fillL ((List.range q.1).map fun i => (i * q.2, q.2)) Z ((ps.map (·.1)).zip (vs.map fun v => v.cells.toList)) = W := ⟨_, rfl⟩
  rw [hW] at hf
  refine dg_val (v := .agg W.toArray) hok ?_ (.agg hf.1.1 hf.1.2)
  have hparts : (ps.toArray.map fun (i, x) => (i, a.eval x)).toList = (ps.map (·.1)).zip vs := by
    rw [hvs]
    simp only [List.map_toArray]
    clear hv hB hR hvs ho hi hf hW r1 r2
    induction ps with
    | nil => rfl
    | cons p ps ih => simp only [List.map_cons, List.zip_cons_cons]; rw [← ih]
  have hz : ((ps.map (·.1)).zip vs).map (fun p => (p.1, p.2.cells.toList)) = (ps.map (·.1)).zip (vs.map fun v => v.cells.toList) := by
    rw [List.zip_map_right]
    rfl
  have hf2 := fill_struct (offs := (List.range q.1).map fun i => (i * q.2, q.2)) ((ps.map (·.1)).zip vs) z.cells (by rw [hz, ← Array.length_toList, e3]; exact hf.2)
  rw [hz, e3, hW] at hf2
  have hcg : Instr.fill (fun i => some (i * i'.size, i'.size)) z.cells ((ps.map (·.1)).zip vs) = some W.toArray := by
    rw [← hf2]
    refine fill_congr _ _ fun x hx => ?_
    have hm : x.1 ∈ ps.map (·.1) := (List.of_mem_zip (show (x.1, x.2) ∈ _ from hx)).1
    have := Nat.blt_eq.mp (List.all_eq_true.1 hi _ hm)
    rw [g3]
    simp [this]
  unfold execOp
  simp only [ho]
  refine run_v ?_
  have hz0 : (zeroValue T).run P s.w = .ok z s.w := by simp [zeroValue, typeInfo, e1, e2]
  simp only [Instr.build, Sem.run_bind, hz0, run_underlying g1, Result.andThen_ok, sizeOf, typeInfo, hparts]
  simp [g2, hcg]
/-- a slice of structs of data, that stays as it is made -/
theorem op_bsr {T e : TypeId} {n sz by' : Nat} {ps : List (Nat × Operand)} {ds R : List D} {Z : List Value} (ho : o.op = .buildSlice T n ps.toArray) (hT : slE P T = some (e, sz, by')) (hZ : zrC P e = some Z) (hi : ps.map (·.1) = List.range' 0 n) (hv : EvL pc F (ps.map (·.2)) ds) (hc : ds.all D.c1 = true) (hs : ds.all (fun d => d.cs.length == sz) = true)
    (hR : ds.flatMap D.cs = R) (hnl : D.nlL R = true) (hl : R.length = n * sz) (hn : n ≤ 16777216) (hn2 : n * sz ≤ 16777216) : DOp P pc o F M [] (.slm sz n R) [] := by
  intro hp a s hok hops _
  have hr := evL_reps (a := a) (s := s) hp _ _ hv (fun x hx => hops x (by rw [ho]; simpa [Op.operands] using hx))
  obtain ⟨vs, hvs⟩ : ∃ vs, vs = (ps.map (·.2)).map a.eval := ⟨_, rfl⟩
  rw [← hvs] at hr
  have hcs := reps_cs ds vs hr hc
  rw [hR] at hcs
  have hcell : ∀ v ∈ vs, v.cells.size = sz := fun v hv' => by
    obtain ⟨j, hj, rfl⟩ := List.getElem_of_mem hv'
    have hj2 : j < ds.length := by have := hr.1; omega
    have h1 := (cs_rep (hr.2 j _ _ (List.getElem?_eq_getElem hj2) (List.getElem?_eq_getElem hj)) (List.all_eq_true.1 hc _ (List.getElem_mem hj2))).1
    have h2 := List.all_eq_true.1 hs _ (List.getElem_mem hj2)
    simp only [beq_iff_eq] at h2
    rw [h2] at h1
    simpa using h1
  have hrun := run_buildSlice (P := P) (w := s.w) ho hT hZ hi hvs.symm hcell hn2
  have ht := step_imm hok (.cells (vs.flatMap fun v => v.cells.toList).toArray e)
  refine dg_step (s' := ⟨s.β, fun b => s.I b ∨ b = s.w.heap.size, s.M, _⟩) hrun ht rfl (.slm hnl hl (Nat.le_refl _) (by unfold maxLen; omega) (fun e => by cases e) hcs.1 (fun j d v h1 h2 => (hcs.2 j d v h1 h2).mono hok ht) (.inr ⟨_, 0, rfl, .inr rfl, ?_⟩))
  simpa using cellsAt_block (heap_alloc_new s.w _) 0
/-- an element of a slice of structs -/
theorem op_ixmd {T e : TypeId} {x y : Operand} {k : IntKind} {z : Int} {n sz by' : Nat} {ds R : List D} (j : Nat) (hpos : 0 < sz) (ho : o.op = .indexAddr T x y) (hT : slE P T = some (e, sz, by')) (hx : Ev pc F x (.slm sz n ds)) (hy : Ev pc F y (.val (.int k z))) (hz : pc = true → z = (j : Int)) (hj : pc = true → j < n) (hR : (ds.drop (j * sz)).take sz = R) : DOp P pc o F M [] (.dpm R) [] := by
  intro hp a s hok hops _
  have hr := ev_at hp hx (by simp [ho, Op.operands]) hops
  have h2 := (ev_at hp hy (by simp [ho, Op.operands]) hops).val_eq
  have hj := hj hp
  rw [hz hp] at h2
  generalize hv : a.eval x = vx at hr
  cases hr with
  | @slm _ _ cap ad _ vs hnl hl hn hc ha hvl h hm =>
    rcases hm with hm | ⟨b, q, rfl, hI, hcl⟩
    · rw [hm] at hl
      have : 0 < n * sz := Nat.mul_pos (by omega) hpos
      simp at hl
      omega
    · have hrun := run_index_sl (P := P) (w := s.w) ho hT hv h2 (by omega) (by omega)
      rw [Addr.add_mid, Int.toNat_natCast] at hrun
      subst hR
      refine dg_val hok hrun (.dpm (vs := (vs.drop (j * sz)).take sz) (nlL_take _ (nlL_drop _ hnl)) hI (cellsAt_sub hcl _ _) (by rw [List.length_take, List.length_drop, List.length_take, List.length_drop, hvl]) (fun i d' v h1 h2 => ?_))
      rw [List.getElem?_take] at h1 h2
      split at h1
      · rename_i hi
        rw [if_pos hi] at h2
        rw [List.getElem?_drop] at h1 h2
        exact h _ d' v h1 h2
      · cases h1
theorem op_ixmr {α : Type} {mk : α → List D} {l : List α} {T e : TypeId} {x y : Operand} {k : IntKind} {z : Int} {sz by' : Nat} (j : Nat) (hpos : 0 < sz) (ho : o.op = .indexAddr T x y) (hT : slE P T = some (e, sz, by')) (hx : Ev pc F x (.slm sz l.length (l.flatMap mk))) (hy : Ev pc F y (.val (.int k z))) (hz : pc = true → z = (j : Int)) (hj : j < l.length) (hmk : ∀ a, (mk a).length = sz) : DOp P pc o F M [] (.dpm (mk l[j])) [] :=
  op_ixmd j hpos ho hT hx hy hz (fun _ => hj) (by rw [flatM_drop hmk, List.drop_eq_getElem_cons hj, List.flatMap_cons, List.take_left' (hmk _)])
/-- a struct, whole, in memory that stays -/
theorem op_lddr {T : TypeId} {x : Operand} {k : Nat} {ld R : List D} (ho : o.op = .load T x) (hT : tyB P T = some (true, k)) (hx : Ev pc F x (.dpm ld)) (hR : ld.take k = R) (hl : R.length = k) : DOp P pc o F M [] (.agg R) [] := by
  intro hp a s hok hops hfp
  have hr := ev_at hp hx (by simp [ho, Op.operands]) hops
  generalize hv : a.eval x = vx at hr
  cases hr with
  | @dpm b q _ vs hnl hI hc hvl h =>
    subst hR
    have hr := cellsAt_range hc 0 k (R := vs.take k) (by simp)
    have hlv : (vs.take k).length = k := by rw [List.length_take] at hl ⊢; omega
    refine dg_val hok (run_load_row ho hT hv (by simpa using hr) hlv) (.agg (by rw [hlv, hl]) (fun j d v h1 h2 => ?_))
    rw [List.getElem?_take] at h1 h2
    split at h1
    · rename_i hi
      rw [if_pos hi] at h2
      exact h j d v h1 h2
    · cases h1
/-- .. in a row of one's own -/
theorem op_ldxr {α : Type} {mk : α → List D} {l : List α} {T T' : TypeId} {x : Operand} {i j sz n : Nat} (ho : o.op = .load T x) (hT : tyB P T = some (true, sz)) (hx : Ev pc F x (.aloc i (j * sz))) (hM : M[i]? = some (.arx T' sz n (l.flatMap mk))) (hmk : ∀ a, (mk a).length = sz) (hj : j < l.length) : DOp P pc o F M [i] (.agg (mk l[j])) [] := by
  intro hp a s hok hops hfp
  have hr := ev_at hp hx (by simp [ho, Op.operands]) hops
  generalize hv : a.eval x = vx at hr
  cases hr with
  | @aloc _ _ n' c b h =>
    obtain ⟨_, hl, _, _, vs, q3, hc, q4⟩ := arx_cells hok (by rw [hfp i (by simp)]; exact hM) h
    have hR := cellsAt_range hc (j * sz) sz (R := (vs.drop (j * sz)).take sz) rfl
    have hm : ((l.flatMap mk).drop (j * sz)).take sz = mk l[j] := by rw [flatM_drop hmk, List.drop_eq_getElem_cons hj, List.flatMap_cons, List.take_left' (hmk _)]
    have hlen : ((vs.drop (j * sz)).take sz).length = sz := by
      have h8 := congrArg List.length hm
      rw [hmk, List.length_take, List.length_drop] at h8
      rw [List.length_take, List.length_drop, q3]
      exact h8
    rw [Nat.zero_add] at hR
    refine dg_val hok (run_load_row ho hT hv hR hlen) (.agg (by rw [hlen, hmk]) fun p d v h1 h2 => ?_)
    rw [← hm] at h1
    rw [List.getElem?_take] at h1 h2
    split at h1
    · rename_i hi
      rw [if_pos hi] at h2
      rw [List.getElem?_drop] at h1 h2
      exact q4 _ d v h1 h2
    · cases h1
/-- .. stored there -/
theorem op_stxr {α : Type} {mk : α → List D} {l : List α} {q : α} {T T' : TypeId} {x y : Operand} {i j sz n : Nat} {rw' : Bool} (ho : o.op = .store T x y) (hT : tyB P T = some (rw', sz)) (hx : Ev pc F x (.aloc i (j * sz))) (hy : Ev pc F y (.agg (mk q))) (hM : M[i]? = some (.arx T' sz n (l.flatMap mk))) (hmk : ∀ a, (mk a).length = sz) (hj : j < l.length) (h1 : (mk q).all D.oc2 = true) :
    DOp P pc o F M [i] .junk [(i, .arx T' sz n ((l.set j q).flatMap mk))] := by
  intro hp a s hok hops hfp
  have hr := ev_at hp hx (by simp [ho, Op.operands]) hops
  have hry := ev_at hp hy (by simp [ho, Op.operands]) hops
  have hM' : s.M[i]? = some (.arx T' sz n (l.flatMap mk)) := by rw [hfp i (by simp)]; exact hM
  generalize hv : a.eval x = vx at hr
  generalize hvy : a.eval y = vy at hry
  cases hr with
  | @aloc _ _ n' c b h =>
    cases hry with
    | @agg _ us hul hu =>
      obtain ⟨vs, hk, q3, q4⟩ := hok.blk i _ _ hM' h
      rcases hk.2 with ⟨e1, e2⟩ | ⟨g, cap, cur, e1, e2, e3, e4, e5, e6, e7⟩
      · cases e1
      · cases e1
        have hflat : (l.flatMap mk).length = l.length * sz := flatM_len' hmk l
        have hle := Nat.mul_le_mul_right sz e4
        have hjs : (j + 1) * sz ≤ l.length * sz := Nat.mul_le_mul_right _ hj
        rw [Nat.succ_mul] at hjs
        have hlV := hk.1
        have husz : us.length = sz := by rw [hul, hmk]
        have hcell := cellsAt_block e3 0
        have hoc : ∀ u ∈ us, u.oneCell' = true := fun u hu' => by
          obtain ⟨p, hp', rfl⟩ := List.getElem_of_mem hu'
          have hp2 : p < (mk q).length := by omega
          exact oc2_one (hu p _ _ (List.getElem?_eq_getElem hp2) (List.getElem?_eq_getElem hp')) (List.all_eq_true.1 h1 _ (List.getElem_mem hp2))
        have hcurlen : cur.toList.length = c * sz := by simpa using e6
        have hrun := run_store (P := P) (w := s.w) (C := us) ho hT hv hvy rfl husz (fun p hp' => by
            have := hcell (j * sz + p) _ (by simpa using List.getElem?_eq_getElem (by simp at hcurlen ⊢; omega : j * sz + p < cur.toList.length))
            rw [Nat.zero_add] at this
            rw [this]; rfl) (fun p hp' => by simp [World.frozen?, e3]) hoc
        have hβ : s.β.set i (.slice (some ⟨b, 0, none⟩) n c) = s.β := by
          apply List.ext_getElem?
          intro k
          by_cases e : i = k
          · subst e; rw [List.getElem?_set_self (List.getElem?_eq_some_iff.1 h).1, h]
          · rw [List.getElem?_set_ne e]
        have lift : ∀ {e : D} {v : Value}, Rep s e v → Rep ⟨s.β.set i (.slice (some ⟨b, 0, none⟩) n c), s.I, s.M.set i (.arx T' sz n ((l.set j q).flatMap mk)), s.w.setCells b (j * sz) us⟩ e v := by
          intro e v hr
          refine Rep.mono' (s := s) (s' := ⟨s.β.set i (.slice (some ⟨b, 0, none⟩) n c), s.I, s.M.set i (.arx T' sz n ((l.set j q).flatMap mk)), s.w.setCells b (j * sz) us⟩) (fun k x hk _ => by show (s.β.set i _)[k]? = _; rw [hβ]; exact hk) (fun _ h => h) (fun b' hI => setCells_other b _ _ s.w b' fun e => ?_) hr
          subst e
          exact (hok.lt b' (live_of hM' rfl h rfl)).2 hI
        refine dg_skip (s' := ⟨s.β.set i (.slice (some ⟨b, 0, none⟩) n c), s.I, s.M.set i (.arx T' sz n ((l.set j q).flatMap mk)), s.w.setCells b (j * sz) us⟩) hrun (tr_store hok hM' rfl h rfl _ us ?_) rfl
        have hsl := setL_len us cur.toList (j * sz)
        refine ⟨setL vs (j * sz) us, ⟨by rw [setL_len]; exact hlV, .inr ⟨b, c, (setL cur.toList (j * sz) us).toArray, rfl, e2, setCells_block b us _ s.w cur.toList T' (by simpa using e3), e4, e5, by simp [hsl]; simpa using e6, ?_⟩⟩, ?_, ?_⟩
        · rw [setL_eq us cur.toList _ (by omega), setL_eq us vs _ (by omega)]
          have hcut : cur.toList = vs ++ cur.toList.drop vs.length := by
            have := List.take_append_drop (n * sz) cur.toList
            rw [e7, ← hlV] at this
            exact this.symm
          generalize cur.toList.drop vs.length = R at hcut
          rw [hcut]
          have t1 : (vs ++ R).take (j * sz) = vs.take (j * sz) := List.take_append_of_le_length (by omega)
          have t2 : (vs ++ R).drop (j * sz + us.length) = vs.drop (j * sz + us.length) ++ R := List.drop_append_of_le_length (by omega)
          rw [t1, t2, ← hlV, ← List.append_assoc]
          refine List.take_left' ?_
          simp; omega
        · rw [setL_len, q3, hflat, flatM_len' hmk, List.length_set]
        · have key : ((l.set j q).flatMap mk) = (l.flatMap mk).take (j * sz) ++ mk q ++ (l.flatMap mk).drop (j * sz + sz) := by
            rw [flatM_take hmk, show j * sz + sz = (j + 1) * sz by rw [Nat.succ_mul], flatM_drop hmk, List.set_eq_take_append_cons_drop, if_pos hj, List.flatMap_append, List.flatMap_cons, List.append_assoc]
          rw [key, setL_eq us vs _ (by omega), husz]
          have hA : Reps ⟨s.β.set i (.slice (some ⟨b, 0, none⟩) n c), s.I, s.M.set i (.arx T' sz n ((l.flatMap mk).take (j * sz) ++ mk q ++ (l.flatMap mk).drop (j * sz + sz))), s.w.setCells b (j * sz) us⟩ ((l.flatMap mk).take (j * sz) ++ mk q ++ (l.flatMap mk).drop (j * sz + sz)) (vs.take (j * sz) ++ us ++ vs.drop (j * sz + sz)) := by
            rw [key] at lift
            refine reps_app3 (reps_app3 ⟨by simp [q3], fun p d v g1 g2 => ?_⟩ ⟨hul, fun p d v g1 g2 => lift (hu p d v g1 g2)⟩) ⟨by simp [q3], fun p d v g1 g2 => ?_⟩
            · rw [List.getElem?_take] at g1 g2
              split at g1
              · rename_i hp'
                rw [if_pos hp'] at g2
                exact lift (q4 p d v g1 g2)
              · cases g1
            · rw [List.getElem?_drop] at g1 g2
              exact lift (q4 _ d v g1 g2)
          exact hA.2
/-- the first structs of a row that stays, with no room behind them -/
theorem op_sl3m {α : Type} {mk : α → List D} {r : List α} {T e : TypeId} {sz by' : Nat} {x hi mx : Operand} {k k' : IntKind} {h h' : Int} {j : Nat} (ho : o.op = .slice T x none (some hi) (some mx)) (hT : slE P T = some (e, sz, by')) (hx : Ev pc F x (.slm sz r.length (r.flatMap mk))) (hhi : Ev pc F hi (.val (.int k h))) (hmx : Ev pc F mx (.val (.int k' h')))
    (hh : pc = true → h = (j : Int)) (hm : pc = true → h' = (j : Int)) (hj : pc = true → j ≤ r.length) (hmk : ∀ a, (mk a).length = sz) : DOp P pc o F M [] (.slm sz (r.take j).length ((r.take j).flatMap mk)) [] := by
  intro hp a s hok hops _
  have hr := ev_at hp hx (by simp [ho, Op.operands]) hops
  have e1 := (ev_at hp hhi (by simp [ho, Op.operands]) hops).val_eq
  have e2 := (ev_at hp hmx (by simp [ho, Op.operands]) hops).val_eq
  rw [hh hp] at e1
  rw [hm hp] at e2
  have hjl := hj hp
  obtain ⟨q1, ti, q2, q3, q4⟩ := slE_spec hT
  have hlen : (r.take j).length = j := by rw [List.length_take]; omega
  have hfl : (r.take j).flatMap mk = (r.flatMap mk).take (j * sz) := by rw [flatM_take hmk]
  generalize hv : a.eval x = vx at hr
  cases hr with
  | @slm _ _ cap ad _ vs hnl hl hn hc ha hvl hel hL =>
    have hjc : j ≤ cap := by omega
    have hrun : (execOp a.eval o).run P s.w = .ok (.value (.slice ad j j)) s.w := by
      unfold execOp
      simp only [ho, hv, Option.map_some, Option.map_none, e1, e2]
      refine run_v ?_
      have hj0 : (0 : Int) ≤ (j : Int) ∧ (j : Int) ≤ (cap : Int) := by omega
      simp [Instr.sliceAt, Instr.slice, run_underlying q1, Sem.run_bind, Instr.sliceBounds, Instr.sliceBound, asIntOf, hjc, sizeOf, typeInfo, q2, Addr.add_zero']
    refine dg_val hok hrun ?_
    rw [hlen, hfl]
    refine .slm (vs := vs.take (j * sz)) (nlL_take _ hnl) (by rw [← hfl, flatM_len' hmk, hlen]) (Nat.le_refl _) (by omega) (fun e => by have := ha e; omega) (by simp [hvl]) (fun p d v g1 g2 => ?_) ?_
    · rw [List.getElem?_take] at g1 g2
      split at g1
      · rename_i hp'
        rw [if_pos hp'] at g2
        exact hel p d v g1 g2
      · cases g1
    · rcases hL with hL | ⟨b, q, e, hI, hcl⟩
      · left; rw [hL]; simp
      · right
        refine ⟨b, q, e, hI, ?_⟩
        have h5 := cellsAt_sub hcl 0 (j * sz)
        simpa using h5
/-- append onto a row of one's own that holds structs of data -/
theorem op_appr {T e : TypeId} {by' sz n m i j : Nat} {x y : Operand} {l l2 : List D} {Z : List Value} (ho : o.op = .call { callee := .builtin .append, args := #[x, y], argTypes := #[T, T] }) (hT : slE P T = some (e, sz, by')) (hZ : zrC P e = some Z) (hZl : Z.length = sz)
    (hx : Ev pc F x (.arr i)) (hy : Ev pc F y (.slm sz m l2)) (hM : M[i]? = some (.arx e sz n l)) (hj : M[j]? = some .hole) (h1 : l2.all D.oc2 = true) (hbd : pc = true → (n + m) * by' ≤ 140737488355328 ∧ n + m ≤ 140737488355328) :
    DOp P pc o F M [i, j] (.arr j) [(i, .gone), (j, .arx e sz (n + m) (l ++ l2))] := by
  intro hp a s hok hops hfp
  obtain ⟨e1, ti, e2, e3, e4⟩ := slE_spec hT
  obtain ⟨ti', z, q1, q2, q3⟩ := zrC_spec hZ
  rw [e2] at q1
  obtain rfl := Option.some.inj q1
  obtain ⟨b1, b2⟩ := hbd hp
  have hM' : s.M[i]? = some (.arx e sz n l) := by rw [hfp i (by simp)]; exact hM
  have hj' : s.M[j]? = some .hole := by rw [hfp j (by simp)]; exact hj
  have hij : i ≠ j := fun h => by subst h; rw [hM'] at hj'; cases hj'
  have hjl : j < s.β.length := by rw [hok.len]; exact (List.getElem?_eq_some_iff.1 hj').1
  have hrx := ev_at hp hx (by simp [ho, Op.operands, Call.operands]) hops
  have hry := ev_at hp hy (by simp [ho, Op.operands, Call.operands]) hops
  generalize hv : a.eval x = vx at hrx
  generalize hvy : a.eval y = vy at hry
  cases hry with
  | @slm _ _ cap2 a2 _ vs2 hnl2 hl2 hn2 hc2 ha2 hvl2 hel2 hm2 =>
  have hso : SrcOk s (.slice a2 m cap2) m vs2 := by
    refine ⟨a2, cap2, rfl, ?_⟩
    cases a2 with
    | none =>
      have := ha2 rfl
      exact .inl ⟨rfl, by omega, this, List.eq_nil_of_length_eq_zero (by rw [hvl2, hl2, show m = 0 by omega, Nat.zero_mul])⟩
    | some ad =>
      refine .inr ⟨ad, rfl, fun k u hk => ?_⟩
      rcases hm2 with e | ⟨b, q, e, hI, hcl⟩
      · rw [e] at hvl2
        rw [List.eq_nil_of_length_eq_zero hvl2] at hk
        simp at hk
      · cases e
        rw [Addr.add_mid]
        exact hcl k u hk
  have hone : ∀ u ∈ vs2, u.oneCell' = true := fun u hu => by
    obtain ⟨k, hk, rfl⟩ := List.getElem_of_mem hu
    have hk2 : k < l2.length := by omega
    exact oc2_one (hel2 k _ _ (List.getElem?_eq_getElem hk2) (List.getElem?_eq_getElem hk)) (List.all_eq_true.1 h1 _ (List.getElem_mem hk2))
  cases hrx with
  | @arr _ ad n' c hβ =>
    obtain ⟨vs, hk, hvl, hel⟩ := hok.blk i _ _ hM' hβ
    obtain ⟨h', w', r1, r2, r3, r4⟩ := run_append_D (P := P) (ty := o.type) (m := m) e1 e2 e3 e4 q2 (by rw [← hZl, ← q3]; simp) hk (by rw [hvl2]; exact hl2) hso hone (by unfold maxLen; omega) b1
    have hs' : (h' = .slice none 0 0) ∨ ∃ a n c, h' = .slice (some a) n c := by
      rcases r2.2 with ⟨q, _⟩ | ⟨g, cap, cur, q, _⟩
      · exact .inl q
      · exact .inr ⟨_, _, _, q⟩
    have hs0 : (Value.slice ad n' c = .slice none 0 0) ∨ ∃ a n k, Value.slice ad n' c = .slice (some a) n k := by
      rcases hk.2 with ⟨q, _⟩ | ⟨g, cap, cur, q, _⟩
      · exact .inl q
      · exact .inr ⟨_, _, _, q⟩
    have o1 := hb_own hs'
    have o0 := hb_own hs0
    have hblk : s.w.heap.size ≤ w'.heap.size := r3.size
    have hβj : s.β[j]? = some .nilFunc := by
      have q : s.β[j]? = some s.β[j] := List.getElem?_eq_getElem hjl
      have : s.β[j] = .nilFunc := hok.blk j .hole _ hj' q
      rw [q, this]
    have from_ : ∀ b, hb h' = some b → s.w.heap.size ≤ b ∨ (hb (Value.slice ad n' c) = some b) := by
      intro b hbb
      rw [o1] at hbb
      rcases r4 b hbb with h | h
      · exact .inr (by rw [o0]; exact h)
      · exact .inl h
    have hnd' : ∀ (k : Nat) h, s.β[k]? = some h → h ≠ .nilFunc → (s.β.set j h')[k]? = some h := fun k h hk' hne => by
      by_cases e : j = k
      · subst e; rw [hβj] at hk'; exact absurd (Option.some.inj hk').symm hne
      · rw [List.getElem?_set_ne e]; exact hk'
    have imm' : ∀ b, s.I b → w'.heap[b]? = s.w.heap[b]? := fun b hI => r3.block b (hok.il b hI) fun h => by
      rw [← o0] at h
      exact (hok.lt b (live_of hM' rfl hβ h.symm)).2 hI
    have hblkx : BlkOk ⟨s.β.set j h', s.I, (s.M.set i .gone).set j (.arx e sz (n + m) (l ++ l2)), w'⟩ h' (.arx e sz (n + m) (l ++ l2)) := by
      refine ⟨vs ++ vs2, r2, by simp [hvl, hvl2], fun k d v hk1 hk2 => ?_⟩
      by_cases hlt : k < l.length
      · rw [List.getElem?_append_left hlt] at hk1
        rw [List.getElem?_append_left (by omega)] at hk2
        exact Rep.mono' (s' := ⟨s.β.set j h', s.I, (s.M.set i .gone).set j (.arx e sz (n + m) (l ++ l2)), w'⟩) hnd' (fun _ h => h) imm' (hel k d v hk1 hk2)
      · rw [List.getElem?_append_right (by omega)] at hk1 hk2
        rw [hvl] at hk2
        exact Rep.mono' (s' := ⟨s.β.set j h', s.I, (s.M.set i .gone).set j (.arx e sz (n + m) (l ++ l2)), w'⟩) hnd' (fun _ h => h) imm' (hel2 _ d v hk1 hk2)
    have ht : Tr s ⟨s.β.set j h', s.I, (s.M.set i .gone).set j (.arx e sz (n + m) (l ++ l2)), w'⟩ := by
      refine step_set hok j (s.M.set i .gone) h' _ w' (by simp) (fun k kb hkb => ?_) (by rw [← hok.len]; exact hjl) (.inl hβj) (by rcases hs' with rfl | ⟨_, _, _, rfl⟩ <;> simp) hblkx (fun b hbb k kb hh hne q1 q2 q3 q4 => ?_) (fun b hbb => (from_ b hbb).imp id fun h => live_of hM' rfl hβ h) (fun b hbb => ?_) (fun b => hb (Value.slice ad n' c) = some b) (fun b hdr => ⟨live_of hM' rfl hβ hdr, fun k kb hh hne q1 q2 q3 q4 => ?_⟩) (fun b hlt hne hnd => ?_) r3.os r3.tape r3.output hblk
      · by_cases hki : i = k
        · subst hki
          have hlt : i < s.M.length := (List.getElem?_eq_some_iff.1 hM').1
          rw [List.getElem?_set_self hlt] at hkb
          exact .inr (Option.some.inj hkb).symm
        · rw [List.getElem?_set_ne hki] at hkb; exact .inl hkb
      · have hki : i ≠ k := fun h => by
          subst h
          have hlt : i < s.M.length := (List.getElem?_eq_some_iff.1 hM').1
          rw [List.getElem?_set_self hlt] at q1
          cases q1; cases q2
        rw [List.getElem?_set_ne hki] at q1
        rcases from_ b hbb with h | h
        · exact absurd (hok.lt b (live_of q1 q2 q3 q4)).1 (Nat.not_lt.2 h)
        · exact hki (hok.inj i k _ kb _ hh b hM' rfl hβ h q1 q2 q3 q4)
      · replace hbb : hb h' = some b := hbb
        rw [o1] at hbb
        exact (r2.lt b hbb).2
      · have hki : i ≠ k := fun h => by
          subst h
          have hlt : i < s.M.length := (List.getElem?_eq_some_iff.1 hM').1
          rw [List.getElem?_set_self hlt] at q1
          cases q1; cases q2
        rw [List.getElem?_set_ne hki] at q1
        exact hki (hok.inj i k _ kb _ hh b hM' rfl hβ hdr q1 q2 q3 q4)
      · exact r3.block b hlt fun h => hnd (by rw [o0]; exact h.symm)
    refine dg_step (s' := ⟨s.β.set j h', s.I, (s.M.set i .gone).set j (.arx e sz (n + m) (l ++ l2)), w'⟩) (run_builtin ho (fun cs => by rfl) (by simpa [hv, hvy] using r1)) ht rfl ?_
    rcases hs' with rfl | ⟨_, _, _, rfl⟩
    · exact .arr (by simp [hjl])
    · exact .arr (by simp [hjl])
end

section
variable {P : Program} {s0 : St} {n : Cx}
theorem inv_givem {F : Fr} {M : List Blk} {a : Act} {w : World} {T e : TypeId} {p q i sz m : Nat} {l ds : List D} (h : Inv s0 n F M a w) (hM : M[p]? = some (.mix T l)) (hq : l[q]? = some (.arr i)) (hi : M[i]? = some (.arx e sz m ds)) (hnl : D.nlL ds = true) : Inv s0 n F ((M.set i .gone).set p (.mix T (l.set q (.slm sz m ds)))) a w := by
  obtain ⟨h0, s, rfl, rfl, h3, h4, h5, h6⟩ := h
  have hpl : p < s.M.length := (List.getElem?_eq_some_iff.1 hM).1
  have hil : i < s.M.length := (List.getElem?_eq_some_iff.1 hi).1
  have hpi : p ≠ i := fun e => by subst e; rw [hM] at hi; cases hi
  have hpl' : p < s.β.length := by rw [h3.ok.len]; exact hpl
  have hil' : i < s.β.length := by rw [h3.ok.len]; exact hil
  have hβi : s.β[i]? = some s.β[i] := List.getElem?_eq_getElem (by rw [h3.ok.len]; exact hil)
  have hβp : s.β[p]? = some s.β[p] := List.getElem?_eq_getElem (by rw [h3.ok.len]; exact hpl)
  obtain ⟨b, vs, e1, e2, e3, e4⟩ := h3.ok.blk p _ _ hM hβp
  obtain ⟨us, hk, q3, q4⟩ := h3.ok.blk i _ _ hi hβi
  have hql : q < l.length := (List.getElem?_eq_some_iff.1 hq).1
  -- the value in that cell is the handle
  have hcell : vs[q]? = some s.β[i] := by
    have hv : vs[q]? = some vs[q] := List.getElem?_eq_getElem (by omega)
    have := e4 q _ _ hq hv
    rw [hv]
    generalize vs[q] = x at this
    cases this with
    | arr h => exact h.symm.trans hβi
  -- the row stays from now on, or is nil
  have main : ∃ I' : Nat → Prop, Tr s ⟨s.β, I', s.M.set i .gone, s.w⟩ ∧ Rep ⟨s.β, I', s.M.set i .gone, s.w⟩ (.slm sz m ds) s.β[i] := by
    rcases hk.2 with ⟨g1, g2⟩ | ⟨g, cap, cur, g1, g2, g3', g4, g5, g6, g7⟩
    · subst g2
      have hl0 : ds = [] := List.eq_nil_of_length_eq_zero (by rw [← q3, hk.1, Nat.zero_mul])
      refine ⟨s.I, ?_, ?_⟩
      · have hnd : ∀ (i : Nat) h, s.β[i]? = some h → h ≠ .nilFunc → s.β[i]? = some h := fun _ _ h _ => h
        have old : ∀ (j : Nat) k, (s.M.set i .gone)[j]? = some k → k = .gone ∨ s.M[j]? = some k := fun j k hj => by
          by_cases e : i = j
          · subst e
            rw [List.getElem?_set_self hil] at hj
            exact .inl (Option.some.inj hj).symm
          · rw [List.getElem?_set_ne e] at hj; exact .inr hj
        have lv : ∀ b, Live ⟨s.β, s.I, s.M.set i .gone, s.w⟩ b → Live s b := by
          rintro b ⟨j, k, h, h1, h2, h3, h4⟩
          rcases old j k h1 with rfl | h1
          · cases h2
          · exact live_of h1 h2 h3 h4
        refine ⟨⟨by simp [h3.ok.len], fun j k h h1 h2 => ?_, fun b hb => h3.ok.lt b (lv b hb), ?_, h3.ok.il⟩, hkeep_of hnd, fun _ h => h, fun _ h => .inl h, fun _ _ _ => rfl, fun b h => .inr (lv b h), rfl, rfl, rfl, Nat.le_refl _⟩
        · rcases old j k h1 with rfl | h1
          · trivial
          · exact BlkOk.mono (s := s) (s' := ⟨s.β, s.I, s.M.set i .gone, s.w⟩) hnd (fun _ h => h) (fun _ _ => rfl) (h3.ok.blk j k h h1 h2) (fun _ _ _ => rfl)
        · intro j j2 k k2 x x2 b a1 a2 a3 a4 c1 c2 c3 c4
          rcases old j k a1 with rfl | a1
          · cases a2
          · rcases old j2 k2 c1 with rfl | c1
            · cases c2
            · exact h3.ok.inj j j2 k k2 x x2 b a1 a2 a3 a4 c1 c2 c3 c4
      · rw [g1, hl0]
        exact .slm (vs := []) rfl (by simp) (Nat.le_refl _) (Nat.zero_le _) (fun _ => rfl) rfl (fun j d v h => by simp at h) (.inl rfl)
    · have tt := tr_give h3.ok hi rfl hβi (show hb s.β[i] = some g by rw [g1]; rfl) s.w (fun _ _ => rfl) rfl rfl rfl rfl
      refine ⟨_, tt, ?_⟩
      rw [g1]
      refine .slm (vs := us) hnl (by rw [← q3]; exact hk.1) g4 g5 (fun e => by cases e) q3 (fun j d v hj hv => (q4 j d v hj hv).mono h3.ok tt) (.inr ⟨g, 0, rfl, .inr rfl, ?_⟩)
      have hc := cellsAt_sub (cellsAt_block g3' 0) 0 (m * sz)
      show cellsAt s.w g 0 us
      simpa [g7] using hc
  obtain ⟨I', tt, hrep⟩ := main
  have hM2 : (s.M.set i .gone)[p]? = some (.mix T l) := by rw [List.getElem?_set_ne (Ne.symm hpi)]; exact hM
  have hset : s.β.set p s.β[p] = s.β := List.set_getElem_self ..
  have t2 : Tr ⟨s.β, I', s.M.set i .gone, s.w⟩ ⟨s.β, I', (s.M.set i .gone).set p (.mix T (l.set q (.slm sz m ds))), s.w⟩ := by
    have hst := step_set tt.ok p (s.M.set i .gone) s.β[p] (.mix T (l.set q (.slm sz m ds))) s.w rfl (fun i k h => .inl h) (by simpa using hpl) (.inr (.inl hβp)) (by rw [e1]; simp) ?_ (fun b' hb' j kj hj hne h1 h2 h3' h4' => ?_) (fun b' hb' => .inr (live_of hM2 rfl hβp hb')) (fun b' hb' => (tt.ok.lt b' (live_of hM2 rfl hβp hb')).1) (fun _ => False) (fun _ h => h.elim) (fun b' hlt hne _ => rfl) rfl rfl rfl (Nat.le_refl _)
    · have hst' := hst
      simp only [hset] at hst'
      exact hst'
    · refine ⟨b, vs, e1, e2, by simp [e3], fun j d v g1 g2 => ?_⟩
      have lift : ∀ {d v}, Rep s d v → Rep ⟨s.β.set p s.β[p], I', (s.M.set i .gone).set p (.mix T (l.set q (.slm sz m ds))), s.w⟩ d v := fun hr => by
        rw [hset]
        exact Rep.mono' (s := ⟨s.β, I', s.M.set i .gone, s.w⟩) (s' := ⟨s.β, I', (s.M.set i .gone).set p (.mix T (l.set q (.slm sz m ds))), s.w⟩) (fun _ _ h _ => h) (fun _ h => h) (fun _ _ => rfl) (hr.mono h3.ok tt)
      by_cases e : q = j
      · subst e
        rw [List.getElem?_set_self hql] at g1
        cases g1
        rw [hcell] at g2
        cases g2
        rw [hset]
        exact Rep.mono' (s := ⟨s.β, I', s.M.set i .gone, s.w⟩) (s' := ⟨s.β, I', (s.M.set i .gone).set p (.mix T (l.set q (.slm sz m ds))), s.w⟩) (fun _ _ h _ => h) (fun _ h => h) (fun _ _ => rfl) hrep
      · rw [List.getElem?_set_ne e] at g1
        exact lift (e4 j d v g1 g2)
    · exact hne (tt.ok.inj j p kj _ hj _ b' h1 h2 h3' h4' hM2 rfl hβp hb')
  exact ⟨h0, ⟨s.β, I', (s.M.set i .gone).set p (.mix T (l.set q (.slm sz m ds))), s.w⟩, rfl, rfl, (h3.trans tt).trans t2, fun x d hd => ((h4 x d hd).mono h3.ok tt).mono tt.ok t2, h5, (h6.mono h3.ok tt).mono tt.ok t2⟩
/-- a row of one's own in a struct's cell is given up: it stays from now on -/
theorem dwp_givem {c : Code} {F : Fr} {M M' : List Blk} {K : Cont} (p q : Nat) {T e : TypeId} {i sz m : Nat} {l ds : List D} (hnl : D.nlL ds = true) (hM : M[p]? = some (.mix T l)) (hq : l[q]? = some (.arr i)) (hi : M[i]? = some (.arx e sz m ds)) (hM' : (M.set i .gone).set p (.mix T (l.set q (.slm sz m ds))) = M') (h : dwp P s0 n c F M' K) : dwp P s0 n c F M K := by
  subst hM'
  exact fun a w hj => h a w (inv_givem hj hM hq hi hnl)
end
mutual
/-- data that names no block is the same everywhere -/
theorem vw_nl (σ : List Nat) (V : Nat → Bool) (M : List Blk) : ∀ d : D, d.nl = true → vw σ V M d = some d
  | .val v, _ => rfl
  | .loc i o, h => by cases h
  | .arr i, h => by cases h
  | .aloc i o, h => by cases h
  | .own i sz o n, h => by cases h
  | .dpf L, _ => rfl
  | .slf sz n L, _ => rfl
  | .slc sz n L, _ => rfl
  | .tup l, h => by rw [vw, vwL_nl σ V M l (by simpa [D.nl] using h)]; rfl
  | .agg l, h => by rw [vw, vwL_nl σ V M l (by simpa [D.nl] using h)]; rfl
  | .dpm l, _ => rfl
  | .slm sz n l, _ => rfl
  | .fn f a b, h => by
    rw [D.nl, Bool.and_eq_true] at h
    rw [vw, vwL_nl σ V M a h.1, vwL_nl σ V M b h.2]
  | .ifc t d, h => by rw [vw, vw_nl σ V M d (by simpa [D.nl] using h)]; rfl
  | .opt b d, h => by rw [vw, vw_nl σ V M d (by simpa [D.nl] using h)]; rfl
  | .hnd i, h => by cases h
  | .yld i, h => by cases h
  | .junk, _ => rfl
theorem vwL_nl (σ : List Nat) (V : Nat → Bool) (M : List Blk) : ∀ l : List D, D.nlL l = true → vwL σ V M l = some l
  | [], _ => rfl
  | d :: l, h => by
    rw [D.nlL, Bool.and_eq_true] at h
    rw [vwL, vw_nl σ V M d h.1, vwL_nl σ V M l h.2]
end
mutual
theorem sb_nl (τ : List Nat) : ∀ d : D, d.nl = true → sb τ d = some d
  | .val v, _ => rfl
  | .loc i o, h => by cases h
  | .arr i, h => by cases h
  | .aloc i o, h => by cases h
  | .own i sz o n, h => by cases h
  | .dpf L, _ => rfl
  | .slf sz n L, _ => rfl
  | .slc sz n L, _ => rfl
  | .tup l, h => by rw [sb, sbL_nl τ l (by simpa [D.nl] using h)]; rfl
  | .agg l, h => by rw [sb, sbL_nl τ l (by simpa [D.nl] using h)]; rfl
  | .dpm l, _ => rfl
  | .slm sz n l, _ => rfl
  | .fn f a b, h => by
    rw [D.nl, Bool.and_eq_true] at h
    rw [sb, sbL_nl τ a h.1, sbL_nl τ b h.2]
  | .ifc t d, h => by rw [sb, sb_nl τ d (by simpa [D.nl] using h)]; rfl
  | .opt b d, h => by rw [sb, sb_nl τ d (by simpa [D.nl] using h)]; rfl
  | .hnd i, h => by cases h
  | .yld i, h => by cases h
  | .junk, _ => rfl
theorem sbL_nl (τ : List Nat) : ∀ l : List D, D.nlL l = true → sbL τ l = some l
  | [], _ => rfl
  | d :: l, h => by
    rw [D.nlL, Bool.and_eq_true] at h
    rw [sbL, sb_nl τ d h.1, sbL_nl τ l h.2]
end
theorem vw1_nl' (σ : List Nat) (V : Nat → Bool) (M : List Blk) (d : D) (h : d.nl = true) : vw1 σ V M d = some d := by
  cases d with
  | loc => cases h
  | arr => cases h
  | aloc => cases h
  | own => cases h
  | hnd => cases h
  | yld => cases h
  | floc => cases h
  | farr => cases h
  | faloc => cases h
  | _ => simp [vw1, h]
theorem vw1L_nl (σ : List Nat) (V : Nat → Bool) (M : List Blk) : ∀ l : List D, D.nlL l = true → vw1L σ V M l = some l
  | [], _ => rfl
  | d :: l, h => by
    rw [D.nlL, Bool.and_eq_true] at h
    rw [vw1L, vw1_nl' σ V M d h.1, vw1L_nl σ V M l h.2]
theorem nlL_app' : ∀ {a b : List D}, D.nlL a = true → D.nlL b = true → D.nlL (a ++ b) = true
  | [], _, _, h => h
  | d :: a, b, h, h' => by
    rw [D.nlL, Bool.and_eq_true] at h
    rw [List.cons_append, D.nlL, h.1, nlL_app' h.2 h']
    rfl
theorem nlL_flatR {α : Type} {mk : α → List D} (h : ∀ a, D.nlL (mk a) = true) : ∀ l : List α, D.nlL (l.flatMap mk) = true
  | [] => rfl
  | a :: l => by rw [List.flatMap_cons]; exact nlL_app' (h a) (nlL_flatR h l)
theorem arxr_fits {σ : List Nat} {V : Nat → Bool} {M : List Blk} {T : TypeId} {sz n n' : Nat} {l l' : List D} (hn : n = n') (h : l = l') (hv : D.nlL l' = true) : (vwL σ V M l).map (Blk.arx T sz n) = some (Blk.arx T sz n' l') := by
  subst hn h
  rw [vwL_nl σ V M l hv]
  rfl
theorem sb_arxr {τ : List Nat} {T : TypeId} {sz n : Nat} {l : List D} (h : D.nlL l = true) : sbB τ (.arx T sz n l) = some (.arx T sz n l) := by
  show (sbL τ l).map _ = _
  rw [sbL_nl τ l h]; rfl
theorem vwArr_nl {σ : List Nat} {M : List Blk} {i : Nat} {T : TypeId} {sz n : Nat} {l : List D} (hM : M[i]? = some (.arx T sz n l)) (h : D.nlL l = true) : vwArr σ allv M i = some (.slm sz n l) := by
  unfold vwArr
  rw [hM]
  show (vw1L σ allv M _).map _ = _
  rw [vw1L_nl σ allv M l h]; rfl
section
variable {P : Program} {pc : Bool} {o : Oper} {F : Fr} {M : List Blk} {T : TypeId} {x y : Operand} {n : Nat} {k : IntKind} {z : Int} {j : Nat}
/-- an array whose elements have one cell -/
def arW (P : Program) (T : TypeId) : Option Nat := match P.underlying T with
  | some (.array n e) => match tyB P e with
    | some (false, 1) => some n
    | _ => none
  | _ => none
theorem arW_spec (h : arW P T = some n) : ∃ e, P.underlying T = some (.array n e) ∧ tyB P e = some (false, 1) := by
  unfold arW at h
  split at h
  · rename_i m e hu
    split at h
    · rename_i hs; cases h; exact ⟨e, hu, hs⟩
    · cases h
  · cases h
theorem op_ixw {ds : List D} {d : D} (j : Nat) (ho : o.op = .index T x y) (hT : arW P T = some n) (hx : Ev pc F x (.agg ds)) (hy : Ev pc F y (.val (.int k z))) (hz : pc = true → z = (j : Int)) (hj : j < n) (hd : ds[j]? = some d) : DOp P pc o F M [] d [] := by
  intro hp a s hok hops _
  have hr := ev_at hp hx (by simp [ho, Op.operands]) hops
  have e2 := (ev_at hp hy (by simp [ho, Op.operands]) hops).val_eq
  rw [hz hp] at e2
  obtain ⟨e, hu, he⟩ := arW_spec hT
  obtain ⟨dd, i, h1, h2, h3, h4⟩ := tyB_spec he
  generalize hv : a.eval x = vx at hr
  cases hr with
  | @agg _ vs hvl hel =>
    have hjl : j < vs.length := by rw [hvl]; exact (List.getElem?_eq_some_iff.1 hd).1
    refine dg_val (v := vs[j]) hok ?_ (hel j _ _ hd (List.getElem?_eq_getElem hjl))
    unfold execOp
    simp only [ho, hv, e2]
    refine run_v ?_
    have hagg : (isAgg e).run P s.w = .ok false s.w := by
      unfold isAgg
      rw [Sem.run_bind, run_underlying h1]
      cases dd <;> first | rfl | cases h3
    have hsz : (sizeOf e).run P s.w = .ok 1 s.w := by simp [sizeOf, typeInfo, h2, h4]
    have hb : (0 : Int) ≤ (j : Int) ∧ (j : Int) < (n : Int) := by omega
    unfold Instr.index
    simp only [Sem.run_bind, asIntOf, Sem.run_pure, Result.andThen_ok, run_underlying hu, hb, and_self, if_true, hsz, part, hagg, Int.toNat_natCast, Nat.mul_one]
    simp [hjl]
end
end Go.Proofs.Ytgomklemldldiaa
