/- Structs of data: built, in rows, looked at, stored; A region that draws its order, one of whose operations panics. Conditions: the kernel's look at its edges; Families: memory of one's own with a symbolic number of blocks: a row joins a family; rows of a family measured, looked into, written; Structs of data that stay: boxed; arrays in them, looked into and cut; A nil slice in a cell of a variable, taken over as a row of one's own that holds data; What is known of a value, told otherwise: nil slices as rows of nothing, plain structs as lists of cells; Arrays of words that are values, read at a place; cells at a place that is not known; Rows of families that grow by append; a row that a variable's cell names joins a family; Variables that stay, named by their addresses; contracts that give one of several things; what is fresh; Variables that hold a row of one's own that was nil; data told. No condition. -/
import Derived.Test.YtcbfnbfhlofkiaaQ2
import Derived.Test.YtcbfnbfhlofkiaaRows
import Derived.LaidEqlPtr
import Derived.Maps.RangeRun
import Derived.ArgAppend
namespace Go.Proofs.Ytcbfnbfhlofkiaa
set_option linter.unusedVariables false
set_option linter.unusedSimpArgs false
open Go.RowKit
/-- the cells of data -/
def D.cs : D → List D
  | .agg l => l
  | .val v => v.cells.toList.map .val
  | d => [d]
/-- what has cells of its own -/
def D.c1 : D → Bool
  | .opt _ _ => false
  | .tup _ => false
  | .junk => false
  | .hnd _ => false
  | _ => true
/-- what stands in one cell -/
def D.oc2 : D → Bool
  | .slf _ _ _ => true
  | .slm _ _ _ => true
  | .arr _ => true
  | .farr _ _ => true
  | .floc _ _ _ => true
  | .pin _ _ => true
  | .pip _ => true
  | .dpf _ => true
  | .dpm _ => true
  | .fn _ _ _ => true
  | .val u => u.oneCell'
  | _ => false
theorem oc2_one {s : St} {d : D} {v : Value} (h : Rep s d v) (hd : d.oc2 = true) : v.oneCell' = true := by
  cases h with
  | val v => exact hd
  | slf => rfl
  | slm => rfl
  | arr => rfl
  | fn => rfl
  | farr => rfl
  | floc => rfl
  | pin => rfl
  | pip => rfl
  | dpf => rfl
  | dpm => rfl
  | _ => cases hd
theorem cs_rep {s : St} {d : D} {v : Value} (h : Rep s d v) (hd : d.c1 = true) : Reps s d.cs v.cells.toList := by
  have h0 := h
  cases h with
  | val v =>
    refine ⟨by simp [D.cs], fun j e u h1 h2 => ?_⟩
    simp only [D.cs, List.getElem?_map, h2, Option.map_some] at h1
    cases h1
    exact .val u
  | agg hl h => exact ⟨hl, h⟩
  | opt => cases hd
  | tup => cases hd
  | junk => cases hd
  | hnd => cases hd
  | _ =>
    refine ⟨rfl, fun j e u h1 h2 => ?_⟩
    cases j with
    | zero => simp [D.cs, Value.cells] at h1 h2; subst h1 h2; exact h0
    | succ j => simp [D.cs, Value.cells] at h1
def setD : List D → Nat → List D → List D
  | Z, _, [] => Z
  | Z, p, d :: r => setD (Z.set p d) (p + 1) r
def fillD (offs : List (Nat × Nat)) : List D → List (Nat × List D) → List D
  | Z, [] => Z
  | Z, (i, C) :: r => fillD offs (setD Z ((offs.getD i (0, 0)).1) C) r
def fillBD (offs : List (Nat × Nat)) (n : Nat) : List (Nat × List D) → Bool
  | [] => true
  | (i, C) :: r => (match offs[i]? with | some (o, s) => C.length == s && Nat.ble (o + s) n | none => false) && fillBD offs n r
theorem reps_set {s : St} {Z : List D} {vz : List Value} (h : Reps s Z vz) {d : D} {v : Value} (hd : Rep s d v) (p : Nat) : Reps s (Z.set p d) (vz.set p v) := by
  refine ⟨by simp [h.1], fun j e u h1 h2 => ?_⟩
  by_cases e1 : p = j
  · subst e1
    by_cases hp : p < Z.length
    · rw [List.getElem?_set_self hp] at h1
      rw [List.getElem?_set_self (by rw [h.1]; exact hp)] at h2
      cases h1; cases h2; exact hd
    · rw [List.getElem?_eq_none (by simp; omega)] at h1; cases h1
  · rw [List.getElem?_set_ne e1] at h1 h2
    exact h.2 j e u h1 h2
theorem reps_setD {s : St} : ∀ (C : List D) (vc : List Value) (Z : List D) (vz : List Value) (p : Nat), Reps s C vc → Reps s Z vz → Reps s (setD Z p C) (setL vz p vc)
  | [], [], Z, vz, p, _, hz => by rw [setL_nil]; exact hz
  | d :: C, v :: vc, Z, vz, p, hc, hz => by
    rw [setD, setL]
    exact reps_setD C vc _ _ _ ⟨by simpa using hc.1, fun j e u h1 h2 => hc.2 (j + 1) e u (by simpa using h1) (by simpa using h2)⟩ (reps_set hz (hc.2 0 d v rfl rfl) p)
  | [], v :: vc, _, _, _, hc, _ => by have := hc.1; simp at this
  | d :: C, [], _, _, _, hc, _ => by have := hc.1; simp at this
theorem reps_fill {s : St} (offs : List (Nat × Nat)) (n : Nat) : ∀ (is : List Nat) (Cs : List (List D)) (vs : List (List Value)) (Z : List D) (vz : List Value), (∀ (j : Nat) C v, Cs[j]? = some C → vs[j]? = some v → Reps s C v) → Cs.length = vs.length → Reps s Z vz → fillBD offs n (is.zip Cs) = true →
    Reps s (fillD offs Z (is.zip Cs)) (fillL offs vz (is.zip vs)) ∧ fillB offs n (is.zip vs) = true
  | [], Cs, vs, Z, vz, _, _, hz, _ => by simpa [fillD, fillL, fillB] using hz
  | i :: is, [], vs, Z, vz, _, hl, hz, _ => by
    have : vs = [] := by cases vs with | nil => rfl | cons => simp at hl
    subst this
    simpa [fillD, fillL, fillB] using hz
  | i :: is, C :: Cs, [], Z, vz, _, hl, _, _ => by simp at hl
  | i :: is, C :: Cs, v :: vs, Z, vz, hc, hl, hz, hb => by
    simp only [List.zip_cons_cons, fillBD, Bool.and_eq_true] at hb
    simp only [List.zip_cons_cons, fillD, fillL, fillB, Bool.and_eq_true]
    have h0 := hc 0 C v rfl rfl
    obtain ⟨r1, r2⟩ := reps_fill offs n is Cs vs _ _ (fun j C v h1 h2 => hc (j + 1) C v (by simpa using h1) (by simpa using h2)) (by simpa using hl) (reps_setD C v Z vz _ h0 hz) hb.2
    refine ⟨r1, ?_, r2⟩
    rw [h0.1]
    exact hb.1
theorem reps_vals {s : St} (L : List Value) : Reps s (L.map .val) L := by
  refine ⟨by simp, fun j e u h1 h2 => ?_⟩
  rw [List.getElem?_map, h2] at h1
  cases h1
  exact .val u
theorem reps_app3 {s : St} {d1 d2 : List D} {v1 v2 : List Value} (h1 : Reps s d1 v1) (h2 : Reps s d2 v2) : Reps s (d1 ++ d2) (v1 ++ v2) := by
  refine ⟨by simp [h1.1, h2.1], fun j d v hd hv => ?_⟩
  by_cases hj : j < d1.length
  · rw [List.getElem?_append_left hj] at hd
    rw [List.getElem?_append_left (by rw [h1.1]; exact hj)] at hv
    exact h1.2 j d v hd hv
  · rw [List.getElem?_append_right (by omega)] at hd
    rw [List.getElem?_append_right (by rw [h1.1]; omega), h1.1] at hv
    exact h2.2 _ d v hd hv
theorem reps_cs {s : St} : ∀ (ds : List D) (vs : List Value), Reps s ds vs → ds.all D.c1 = true → Reps s (ds.flatMap D.cs) (vs.flatMap fun v => v.cells.toList)
  | [], [], _, _ => ⟨rfl, fun j e u h1 h2 => by simp at h1⟩
  | d :: ds, v :: vs, h, hc => by
    rw [List.all_cons, Bool.and_eq_true] at hc
    rw [List.flatMap_cons, List.flatMap_cons]
    exact reps_app3 (cs_rep (h.2 0 d v rfl rfl) hc.1) (reps_cs ds vs ⟨by simpa using h.1, fun j e u h1 h2 => h.2 (j + 1) e u (by simpa using h1) (by simpa using h2)⟩ hc.2)
  | [], v :: vs, h, _ => by have := h.1; simp at this
  | d :: ds, [], h, _ => by have := h.1; simp at this
section
variable {P : Program} {pc : Bool} {o : Oper} {F : Fr} {M : List Blk}
theorem op_bldD {T : TypeId} {ps : List (Nat × Operand)} {ds R : List D} {offs : List (Nat × Nat)} {Z : List Value} (ho : o.op = .build T ps.toArray) (hT : fdL P T = some offs) (hZ : zrC P T = some Z) (hv : EvL pc F (ps.map (·.2)) ds) (hc : ds.all D.c1 = true)
    (hB : fillBD offs Z.length ((ps.map (·.1)).zip (ds.map D.cs)) = true) (hR : fillD offs (Z.map .val) ((ps.map (·.1)).zip (ds.map D.cs)) = R) : DOp P pc o F M [] (.agg R) [] := by
  intro hp a s hok hops _
  obtain ⟨r1, r2⟩ := evL_reps (a := a) (s := s) hp _ _ hv (fun x hx => hops x (by rw [ho]; simpa [Op.operands] using hx))
  have hf := reps_fill (s := s) offs Z.length (ps.map (·.1)) (ds.map D.cs) (((ps.map (·.2)).map a.eval).map fun v => v.cells.toList) (Z.map .val) Z (fun j C v h1 h2 => by
      rw [List.getElem?_map] at h1 h2
      simp only [Option.map_eq_some_iff] at h1 h2
      obtain ⟨d, h1, rfl⟩ := h1
      obtain ⟨u, h2, rfl⟩ := h2
      exact cs_rep (r2 j d u h1 h2) (List.all_eq_true.1 hc _ (List.mem_of_getElem? h1))) (by rw [List.length_map, List.length_map]; exact r1.symm) (reps_vals Z) hB
  rw [hR] at hf
  exact dg_val hok (run_build (P := P) (a := a) (w := s.w) ho hT hZ rfl hf.2 rfl) (.agg hf.1.1 hf.1.2)
/-- a slice of structs of data, that stays as it is made -/
theorem op_bsr {T e : TypeId} {n sz by' : Nat} {ps : List (Nat × Operand)} {ds R : List D} {Z : List Value} (ho : o.op = .buildSlice T n ps.toArray) (hT : slE P T = some (e, sz, by')) (hZ : zrC P e = some Z) (hi : ps.map (·.1) = List.range' 0 n) (hv : EvL pc F (ps.map (·.2)) ds) (hc : ds.all D.c1 = true) (hs : ds.all (fun d => d.cs.length == sz) = true)
    (hR : ds.flatMap D.cs = R) (hnl : D.nlL R = true) (hl : R.length = n * sz) (hn : n ≤ 16777216) (hn2 : n * sz ≤ 16777216) : DOp P pc o F M [] (.slm sz n R) [] := by
  intro hp a s hok hops _
  have hr := evL_reps (a := a) (s := s) hp _ _ hv (fun x hx => hops x (by rw [ho]; simpa [Op.operands] using hx))
  obtain ⟨vs, hvs⟩ : ∃ vs, vs = (ps.map (·.2)).map a.eval := ⟨_, rfl⟩
  rw [← hvs] at hr
  have hcs := reps_cs ds vs hr hc
  rw [hR] at hcs
  have hcell : ∀ v ∈ vs, v.cells.size = sz := fun v hv' => by
    obtain ⟨j, hj, rfl⟩ := List.getElem_of_mem hv'
    have hj2 : j < ds.length := by have := hr.1; omega
    have h1 := (cs_rep (hr.2 j _ _ (List.getElem?_eq_getElem hj2) (List.getElem?_eq_getElem hj)) (List.all_eq_true.1 hc _ (List.getElem_mem hj2))).1
    have h2 := List.all_eq_true.1 hs _ (List.getElem_mem hj2)
    simp only [beq_iff_eq] at h2
    rw [h2] at h1
    simpa using h1
  have hrun := run_buildSlice (P := P) (w := s.w) ho hT hZ hi hvs.symm hcell hn2
  have ht := step_imm hok (.cells (vs.flatMap fun v => v.cells.toList).toArray e)
  refine dg_step (s' := ⟨s.β, fun b => s.I b ∨ b = s.w.heap.size, s.M, _⟩) hrun ht rfl (.slm hnl hl (Nat.le_refl _) (by unfold maxLen; omega) (fun e => by cases e) hcs.1 (fun j d v h1 h2 => (hcs.2 j d v h1 h2).mono hok ht) (.inr ⟨_, 0, rfl, .inr rfl, ?_⟩))
  simpa using cellsAt_block (heap_alloc_new s.w _) 0
/-- append onto a row of one's own that holds structs of data -/
theorem op_appr {T e : TypeId} {by' sz n m i j : Nat} {x y : Operand} {l l2 : List D} {Z : List Value} (ho : o.op = .call { callee := .builtin .append, args := #[x, y], argTypes := #[T, T] }) (hT : slE P T = some (e, sz, by')) (hZ : zrC P e = some Z) (hZl : Z.length = sz)
    (hx : Ev pc F x (.arr i)) (hy : Ev pc F y (.slm sz m l2)) (hM : M[i]? = some (.arx e sz n l)) (hj : M[j]? = some .hole) (h1 : l2.all D.oc2 = true) (hbd : pc = true → (n + m) * by' ≤ 140737488355328 ∧ n + m ≤ 140737488355328) :
    DOp P pc o F M [i, j] (.arr j) [(i, .gone), (j, .arx e sz (n + m) (l ++ l2))] := by
  intro hp a s hok hops hfp
  obtain ⟨e1, ti, e2, e3, e4⟩ := slE_spec hT
  obtain ⟨ti', z, q1, q2, q3⟩ := zrC_spec hZ
  rw [e2] at q1
  obtain rfl := Option.some.inj q1
  obtain ⟨b1, b2⟩ := hbd hp
  have hM' : s.M[i]? = some (.arx e sz n l) := by rw [hfp i (by simp)]; exact hM
  have hj' : s.M[j]? = some .hole := by rw [hfp j (by simp)]; exact hj
  have hij : i ≠ j := fun h => by subst h; rw [hM'] at hj'; cases hj'
  have hjl : j < s.β.length := by rw [hok.len]; exact (List.getElem?_eq_some_iff.1 hj').1
  have hrx := ev_at hp hx (by simp [ho, Op.operands, Call.operands]) hops
  have hry := ev_at hp hy (by simp [ho, Op.operands, Call.operands]) hops
  generalize hv : a.eval x = vx at hrx
  generalize hvy : a.eval y = vy at hry
  cases hry with
  | @slm _ _ cap2 a2 _ vs2 hnl2 hl2 hn2 hc2 ha2 hvl2 hel2 hm2 =>
  have hso : SrcOk s (.slice a2 m cap2) m vs2 := by
    refine ⟨a2, cap2, rfl, ?_⟩
    cases a2 with
    | none =>
      have := ha2 rfl
      exact .inl ⟨rfl, by omega, this, List.eq_nil_of_length_eq_zero (by rw [hvl2, hl2, show m = 0 by omega, Nat.zero_mul])⟩
    | some ad =>
      refine .inr ⟨ad, rfl, fun k u hk => ?_⟩
      rcases hm2 with e | ⟨b, q, e, hI, hcl⟩
      · rw [e] at hvl2
        rw [List.eq_nil_of_length_eq_zero hvl2] at hk
        simp at hk
      · cases e
        rw [Addr.add_mid]
        exact hcl k u hk
  have hone : ∀ u ∈ vs2, u.oneCell' = true := fun u hu => by
    obtain ⟨k, hk, rfl⟩ := List.getElem_of_mem hu
    have hk2 : k < l2.length := by omega
    exact oc2_one (hel2 k _ _ (List.getElem?_eq_getElem hk2) (List.getElem?_eq_getElem hk)) (List.all_eq_true.1 h1 _ (List.getElem_mem hk2))
  cases hrx with
  | @arr _ ad n' c hβ =>
    obtain ⟨vs, hk, hvl, hel⟩ := hok.blk i _ _ hM' hβ
    obtain ⟨h', w', r1, r2, r3, r4⟩ := run_append_D (P := P) (ty := o.type) (m := m) e1 e2 e3 e4 q2 (by rw [← hZl, ← q3]; simp) hk (by rw [hvl2]; exact hl2) hso hone (by unfold maxLen; omega) b1
    have hs' : (h' = .slice none 0 0) ∨ ∃ a n c, h' = .slice (some a) n c := by
      rcases r2.2 with ⟨q, _⟩ | ⟨g, cap, cur, q, _⟩
      · exact .inl q
      · exact .inr ⟨_, _, _, q⟩
    have hs0 : (Value.slice ad n' c = .slice none 0 0) ∨ ∃ a n k, Value.slice ad n' c = .slice (some a) n k := by
      rcases hk.2 with ⟨q, _⟩ | ⟨g, cap, cur, q, _⟩
      · exact .inl q
      · exact .inr ⟨_, _, _, q⟩
    have o1 := hb_own hs'
    have o0 := hb_own hs0
    have hblk : s.w.heap.size ≤ w'.heap.size := r3.size
    have hβj : s.β[j]? = some .nilFunc := by
      have q : s.β[j]? = some s.β[j] := List.getElem?_eq_getElem hjl
      have : s.β[j] = .nilFunc := hok.blk j .hole _ hj' q
      rw [q, this]
    have from_ : ∀ b, hb h' = some b → s.w.heap.size ≤ b ∨ (hb (Value.slice ad n' c) = some b) := by
      intro b hbb
      rw [o1] at hbb
      rcases r4 b hbb with h | h
      · exact .inr (by rw [o0]; exact h)
      · exact .inl h
    have hnd' : ∀ (k : Nat) h, s.β[k]? = some h → h ≠ .nilFunc → (s.β.set j h')[k]? = some h := fun k h hk' hne => by
      by_cases e : j = k
      · subst e; rw [hβj] at hk'; exact absurd (Option.some.inj hk').symm hne
      · rw [List.getElem?_set_ne e]; exact hk'
    have imm' : ∀ b, s.I b → w'.heap[b]? = s.w.heap[b]? := fun b hI => r3.block b (hok.il b hI) fun h => by
      rw [← o0] at h
      exact (hok.lt b (live_of hM' rfl hβ h.symm)).2 hI
    have hblkx : BlkOk ⟨s.β.set j h', s.I, (s.M.set i .gone).set j (.arx e sz (n + m) (l ++ l2)), w'⟩ h' (.arx e sz (n + m) (l ++ l2)) := by
      refine ⟨vs ++ vs2, r2, by simp [hvl, hvl2], fun k d v hk1 hk2 => ?_⟩
      by_cases hlt : k < l.length
      · rw [List.getElem?_append_left hlt] at hk1
        rw [List.getElem?_append_left (by omega)] at hk2
        exact Rep.mono' (s' := ⟨s.β.set j h', s.I, (s.M.set i .gone).set j (.arx e sz (n + m) (l ++ l2)), w'⟩) hnd' (fun _ h => h) imm' (hel k d v hk1 hk2)
      · rw [List.getElem?_append_right (by omega)] at hk1 hk2
        rw [hvl] at hk2
        exact Rep.mono' (s' := ⟨s.β.set j h', s.I, (s.M.set i .gone).set j (.arx e sz (n + m) (l ++ l2)), w'⟩) hnd' (fun _ h => h) imm' (hel2 _ d v hk1 hk2)
    have ht : Tr s ⟨s.β.set j h', s.I, (s.M.set i .gone).set j (.arx e sz (n + m) (l ++ l2)), w'⟩ := by
      refine step_set hok j (s.M.set i .gone) h' _ w' (by simp) (fun k kb hkb => ?_) (by rw [← hok.len]; exact hjl) (.inl hβj) (by rcases hs' with rfl | ⟨_, _, _, rfl⟩ <;> simp) hblkx (fun b hbb k kb hh hne q1 q2 q3 q4 => ?_) (fun b hbb => (from_ b hbb).imp id fun h => live_of hM' rfl hβ h) (fun b hbb => ?_) (fun b => hb (Value.slice ad n' c) = some b) (fun b hdr => ⟨live_of hM' rfl hβ hdr, fun k kb hh hne q1 q2 q3 q4 => ?_⟩) (fun b hlt hne hnd => ?_) r3.os r3.tape r3.output hblk
      · by_cases hki : i = k
        · subst hki
          have hlt : i < s.M.length := (List.getElem?_eq_some_iff.1 hM').1
          rw [List.getElem?_set_self hlt] at hkb
          exact .inr (Option.some.inj hkb).symm
        · rw [List.getElem?_set_ne hki] at hkb; exact .inl hkb
      · have hki : i ≠ k := fun h => by
          subst h
          have hlt : i < s.M.length := (List.getElem?_eq_some_iff.1 hM').1
          rw [List.getElem?_set_self hlt] at q1
          cases q1; cases q2
        rw [List.getElem?_set_ne hki] at q1
        rcases from_ b hbb with h | h
        · exact absurd (hok.lt b (live_of q1 q2 q3 q4)).1 (Nat.not_lt.2 h)
        · exact hki (hok.inj i k _ kb _ hh b hM' rfl hβ h q1 q2 q3 q4)
      · replace hbb : hb h' = some b := hbb
        rw [o1] at hbb
        exact (r2.lt b hbb).2
      · have hki : i ≠ k := fun h => by
          subst h
          have hlt : i < s.M.length := (List.getElem?_eq_some_iff.1 hM').1
          rw [List.getElem?_set_self hlt] at q1
          cases q1; cases q2
        rw [List.getElem?_set_ne hki] at q1
        exact hki (hok.inj i k _ kb _ hh b hM' rfl hβ hdr q1 q2 q3 q4)
      · exact r3.block b hlt fun h => hnd (by rw [o0]; exact h.symm)
    refine dg_step (s' := ⟨s.β.set j h', s.I, (s.M.set i .gone).set j (.arx e sz (n + m) (l ++ l2)), w'⟩) (run_builtin ho (fun cs => by rfl) (by simpa [hv, hvy] using r1)) ht rfl ?_
    rcases hs' with rfl | ⟨_, _, _, rfl⟩
    · exact .arr (by simp [hjl])
    · exact .arr (by simp [hjl])
end
section
variable {P : Program} {s0 : St} {n : Cx}
theorem inv_givem {F : Fr} {M : List Blk} {a : Act} {w : World} {T e : TypeId} {p q i sz m : Nat} {l ds : List D} (h : Inv s0 n F M a w) (hM : M[p]? = some (.mix T l)) (hq : l[q]? = some (.arr i)) (hi : M[i]? = some (.arx e sz m ds)) (hnl : D.nlL ds = true) : Inv s0 n F ((M.set i .gone).set p (.mix T (l.set q (.slm sz m ds)))) a w := by
  obtain ⟨h0, s, rfl, rfl, h3, h4, h5, h6⟩ := h
  have hpl : p < s.M.length := (List.getElem?_eq_some_iff.1 hM).1
  have hil : i < s.M.length := (List.getElem?_eq_some_iff.1 hi).1
  have hpi : p ≠ i := fun e => by subst e; rw [hM] at hi; cases hi
  have hpl' : p < s.β.length := by rw [h3.ok.len]; exact hpl
  have hil' : i < s.β.length := by rw [h3.ok.len]; exact hil
  have hβi : s.β[i]? = some s.β[i] := List.getElem?_eq_getElem (by rw [h3.ok.len]; exact hil)
  have hβp : s.β[p]? = some s.β[p] := List.getElem?_eq_getElem (by rw [h3.ok.len]; exact hpl)
  obtain ⟨b, vs, e1, e2, e3, e4⟩ := h3.ok.blk p _ _ hM hβp
  obtain ⟨us, hk, q3, q4⟩ := h3.ok.blk i _ _ hi hβi
  have hql : q < l.length := (List.getElem?_eq_some_iff.1 hq).1
  -- the value in that cell is the handle
  have hcell : vs[q]? = some s.β[i] := by
    have hv : vs[q]? = some vs[q] := List.getElem?_eq_getElem (by omega)
    have := e4 q _ _ hq hv
    rw [hv]
    generalize vs[q] = x at this
    cases this with
    | arr h => exact h.symm.trans hβi
  -- the row stays from now on, or is nil
  have main : ∃ I' : Nat → Prop, Tr s ⟨s.β, I', s.M.set i .gone, s.w⟩ ∧ Rep ⟨s.β, I', s.M.set i .gone, s.w⟩ (.slm sz m ds) s.β[i] := by
    rcases hk.2 with ⟨g1, g2⟩ | ⟨g, cap, cur, g1, g2, g3', g4, g5, g6, g7⟩
    · subst g2
      have hl0 : ds = [] := List.eq_nil_of_length_eq_zero (by rw [← q3, hk.1, Nat.zero_mul])
      refine ⟨s.I, ?_, ?_⟩
      · have hnd : ∀ (i : Nat) h, s.β[i]? = some h → h ≠ .nilFunc → s.β[i]? = some h := fun _ _ h _ => h
        have old : ∀ (j : Nat) k, (s.M.set i .gone)[j]? = some k → k = .gone ∨ s.M[j]? = some k := fun j k hj => by
          by_cases e : i = j
          · subst e
            rw [List.getElem?_set_self hil] at hj
            exact .inl (Option.some.inj hj).symm
          · rw [List.getElem?_set_ne e] at hj; exact .inr hj
        have lv : ∀ b, Live ⟨s.β, s.I, s.M.set i .gone, s.w⟩ b → Live s b := by
          rintro b ⟨j, k, h, h1, h2, h3, h4⟩
          rcases old j k h1 with rfl | h1
          · cases h2
          · exact live_of h1 h2 h3 h4
        refine ⟨⟨by simp [h3.ok.len], fun j k h h1 h2 => ?_, fun b hb => h3.ok.lt b (lv b hb), ?_, h3.ok.il⟩, hkeep_of hnd, fun _ h => h, fun _ h => .inl h, fun _ _ _ => rfl, fun b h => .inr (lv b h), rfl, rfl, rfl, Nat.le_refl _⟩
        · rcases old j k h1 with rfl | h1
          · trivial
          · exact BlkOk.mono (s := s) (s' := ⟨s.β, s.I, s.M.set i .gone, s.w⟩) hnd (fun _ h => h) (fun _ _ => rfl) (h3.ok.blk j k h h1 h2) (fun _ _ _ => rfl)
        · intro j j2 k k2 x x2 b a1 a2 a3 a4 c1 c2 c3 c4
          rcases old j k a1 with rfl | a1
          · cases a2
          · rcases old j2 k2 c1 with rfl | c1
            · cases c2
            · exact h3.ok.inj j j2 k k2 x x2 b a1 a2 a3 a4 c1 c2 c3 c4
      · rw [g1, hl0]
        exact .slm (vs := []) rfl (by simp) (Nat.le_refl _) (Nat.zero_le _) (fun _ => rfl) rfl (fun j d v h => by simp at h) (.inl rfl)
    · have tt := tr_give h3.ok hi rfl hβi (show hb s.β[i] = some g by rw [g1]; rfl) s.w (fun _ _ => rfl) rfl rfl rfl rfl
      refine ⟨_, tt, ?_⟩
      rw [g1]
      refine .slm (vs := us) hnl (by rw [← q3]; exact hk.1) g4 g5 (fun e => by cases e) q3 (fun j d v hj hv => (q4 j d v hj hv).mono h3.ok tt) (.inr ⟨g, 0, rfl, .inr rfl, ?_⟩)
      have hc := cellsAt_sub (cellsAt_block g3' 0) 0 (m * sz)
      show cellsAt s.w g 0 us
      simpa [g7] using hc
  obtain ⟨I', tt, hrep⟩ := main
  have hM2 : (s.M.set i .gone)[p]? = some (.mix T l) := by rw [List.getElem?_set_ne (Ne.symm hpi)]; exact hM
  have hset : s.β.set p s.β[p] = s.β := List.set_getElem_self ..
  have t2 : Tr ⟨s.β, I', s.M.set i .gone, s.w⟩ ⟨s.β, I', (s.M.set i .gone).set p (.mix T (l.set q (.slm sz m ds))), s.w⟩ := by
    have hst := step_set tt.ok p (s.M.set i .gone) s.β[p] (.mix T (l.set q (.slm sz m ds))) s.w rfl (fun i k h => .inl h) (by simpa using hpl) (.inr (.inl hβp)) (by rw [e1]; simp) ?_ (fun b' hb' j kj hj hne h1 h2 h3' h4' => ?_) (fun b' hb' => .inr (live_of hM2 rfl hβp hb')) (fun b' hb' => (tt.ok.lt b' (live_of hM2 rfl hβp hb')).1) (fun _ => False) (fun _ h => h.elim) (fun b' hlt hne _ => rfl) rfl rfl rfl (Nat.le_refl _)
    · have hst' := hst
      simp only [hset] at hst'
      exact hst'
    · refine ⟨b, vs, e1, e2, by simp [e3], fun j d v g1 g2 => ?_⟩
      have lift : ∀ {d v}, Rep s d v → Rep ⟨s.β.set p s.β[p], I', (s.M.set i .gone).set p (.mix T (l.set q (.slm sz m ds))), s.w⟩ d v := fun hr => by
        rw [hset]
        exact Rep.mono' (s := ⟨s.β, I', s.M.set i .gone, s.w⟩) (s' := ⟨s.β, I', (s.M.set i .gone).set p (.mix T (l.set q (.slm sz m ds))), s.w⟩) (fun _ _ h _ => h) (fun _ h => h) (fun _ _ => rfl) (hr.mono h3.ok tt)
      by_cases e : q = j
      · subst e
        rw [List.getElem?_set_self hql] at g1
        cases g1
        rw [hcell] at g2
        cases g2
        rw [hset]
        exact Rep.mono' (s := ⟨s.β, I', s.M.set i .gone, s.w⟩) (s' := ⟨s.β, I', (s.M.set i .gone).set p (.mix T (l.set q (.slm sz m ds))), s.w⟩) (fun _ _ h _ => h) (fun _ h => h) (fun _ _ => rfl) hrep
      · rw [List.getElem?_set_ne e] at g1
        exact lift (e4 j d v g1 g2)
    · exact hne (tt.ok.inj j p kj _ hj _ b' h1 h2 h3' h4' hM2 rfl hβp hb')
  exact ⟨h0, ⟨s.β, I', (s.M.set i .gone).set p (.mix T (l.set q (.slm sz m ds))), s.w⟩, rfl, rfl, (h3.trans tt).trans t2, fun x d hd => ((h4 x d hd).mono h3.ok tt).mono tt.ok t2, h5, (h6.mono h3.ok tt).mono tt.ok t2⟩
/-- a row of one's own in a struct's cell is given up: it stays from now on -/
theorem dwp_givem {c : Code} {F : Fr} {M M' : List Blk} {K : Cont} (p q : Nat) {T e : TypeId} {i sz m : Nat} {l ds : List D} (hnl : D.nlL ds = true) (hM : M[p]? = some (.mix T l)) (hq : l[q]? = some (.arr i)) (hi : M[i]? = some (.arx e sz m ds)) (hM' : (M.set i .gone).set p (.mix T (l.set q (.slm sz m ds))) = M') (h : dwp P s0 n c F M' K) : dwp P s0 n c F M K := by
  subst hM'
  exact fun a w hj => h a w (inv_givem hj hM hq hi hnl)
end
mutual
/-- data that names no block is the same everywhere -/
theorem vw_nl (σ : List Nat) (V : Nat → Bool) (M : List Blk) : ∀ d : D, d.nl = true → vw σ V M d = some d
  | .val v, _ => rfl
  | .loc i o, h => by cases h
  | .arr i, h => by cases h
  | .aloc i o, h => by cases h
  | .own i sz o n, h => by cases h
  | .part i sz o n c, h => by cases h
  | .dpf L, _ => rfl
  | .pin b L, _ => rfl
  | .pip L, _ => rfl
  | .slf sz n L, _ => rfl
  | .slc sz n L, _ => rfl
  | .tup l, h => by rw [vw, vwL_nl σ V M l (by simpa [D.nl] using h)]; rfl
  | .agg l, h => by rw [vw, vwL_nl σ V M l (by simpa [D.nl] using h)]; rfl
  | .dpm l, _ => rfl
  | .slm sz n l, _ => rfl
  | .smc sz n l, _ => rfl
  | .fn f a b, h => by
    rw [D.nl, Bool.and_eq_true] at h
    rw [vw, vwL_nl σ V M a h.1, vwL_nl σ V M b h.2]
  | .ifc t d, h => by rw [vw, vw_nl σ V M d (by simpa [D.nl] using h)]; rfl
  | .opt b d, h => by rw [vw, vw_nl σ V M d (by simpa [D.nl] using h)]; rfl
  | .hnd i, h => by cases h
  | .yld i, h => by cases h
  | .junk, _ => rfl
theorem vwL_nl (σ : List Nat) (V : Nat → Bool) (M : List Blk) : ∀ l : List D, D.nlL l = true → vwL σ V M l = some l
  | [], _ => rfl
  | d :: l, h => by
    rw [D.nlL, Bool.and_eq_true] at h
    rw [vwL, vw_nl σ V M d h.1, vwL_nl σ V M l h.2]
end
section
variable {P : Program} {pc : Bool} {o : Oper} {F : Fr} {M : List Blk} {T : TypeId} {x y : Operand} {n : Nat} {k : IntKind} {z : Int} {j : Nat}
end
end Go.Proofs.Ytcbfnbfhlofkiaa
namespace Go.Proofs.Ytcbfnbfhlofkiaa
set_option linter.unusedVariables false
set_option linter.unusedSimpArgs false
open Go.RowKit
/-- all behind the one that panics stand behind it, all ahead of it ahead -/
def drawOkP (n : Nat) (lf : List Oper) (m : Nat) (fps : List (List Nat × List Nat)) : Bool :=
  let bs := befL lf []
  fps.length == m && Nat.blt m lf.length && ((List.range lf.length).all fun j => match lf[j]? with
    | some oj => oj.after.all (fun e => !Region.binds .any e || Nat.blt e.on j) && (Nat.ble j m || (bs.getD j 0).testBit m)
    | none => false) && ((List.range m).all fun i => (bs.getD m 0).testBit i) && (List.range m).all fun j =>
    match lf[j]?, fps[j]? with
    | some oj, some fj => dstB n oj.dst && noDef oj.op && fj.2.all (fun x => fj.1.contains x) && (List.range j).all fun i =>
      match lf[i]?, fps[i]? with
      | some oi, some fi => pairOk lf.toArray (bs.getD j 0) i oi oj fi fj
      | _, _ => false
    | _, _ => false
/-- **A region that draws its order, and panics.** -/
theorem dwp_drawP {P : Program} {s0 : St} {n : Cx} {id : Nat} {lf : List Oper} {op : Oper} {F : Fr} {M : List Blk} {K : Cont} (m : Nat) (fps : List (List Nat × List Nat)) (hm : P.follows .mixedOrders = true) (hB : drawOkP n.n lf m fps = true) (hopn : lf[m]? = some op) (hndm : noDef op.op = true)
    (h : Lex P lf.toArray (lf.take m) fps F M (fun F1 M1 => ∃ fp d wr, op.guard = none ∧ DOpP P true op F1 M1 fp d wr ∧ K (.panic d) F1 (upd M1 wr))) :
    dwp P s0 n (.region id lf.toArray true) F M K := by
  intro a w hi
  refine wpIn_region_any hm ?_
  simp only [drawOkP, Bool.and_eq_true, beq_iff_eq, List.all_eq_true, List.mem_range] at hB
  obtain ⟨⟨⟨⟨hlen0, hml⟩, hedge⟩, hpre0⟩, hB⟩ := hB
  have hml := Nat.blt_eq.mp hml
  obtain ⟨l, hl⟩ : ∃ l, l = lf.take m := ⟨_, rfl⟩
  have hllen : l.length = m := by rw [hl, List.length_take]; omega
  rw [← hl] at h
  have hlen : fps.length = l.length := by omega
  have htk : ∀ i, i < l.length → l[i]? = lf[i]? := fun i hi => by rw [hl, List.getElem?_take, if_pos (by omega)]
  have hon : ∀ (j : Nat) o, lf[j]? = some o → ∀ e ∈ o.after.toList, Region.binds .any e = true → e.on < j := by
    intro j o ho e he hb
    have h1 := hedge j (List.getElem?_eq_some_iff.1 ho).1
    rw [ho] at h1
    simp only [Bool.and_eq_true] at h1
    have := Array.all_eq_true_iff_forall_mem.1 h1.1 e (by simpa using he)
    rw [hb] at this
    exact Nat.blt_eq.mp (by simpa using this)
  have hbeh : ∀ i, l.length < i → i < lf.length → ahead lf l.length i = true := by
    intro i h1 h2
    have h3 := hedge i h2
    rw [List.getElem?_eq_getElem h2] at h3
    simp only [Bool.and_eq_true, Bool.or_eq_true] at h3
    rcases h3.2 with h4 | h4
    · have := Nat.ble_eq.mp h4; omega
    · rw [hllen]; exact h4
  have hpre : ∀ j, j < l.length → ahead lf j l.length = true := fun j hj => by rw [hllen]; exact hpre0 j (by omega)
  subst hllen
  obtain ⟨E, e1, e2, e3⟩ := lex_recs l fps F M hlen h
  have at_ : ∀ k, k < l.length → ∃ o f, l[k]? = some o ∧ fps[k]? = some f := fun k hk => ⟨l[k], fps[k], List.getElem?_eq_getElem hk, List.getElem?_eq_getElem (by omega)⟩
  have hone : ∀ (j : Nat) o f, l[j]? = some o → fps[j]? = some f → (∀ e ∈ o.after.toList, Region.binds .any e = true → e.on < j) ∧ dstB n.n o.dst = true ∧ noDef o.op = true ∧ (∀ x ∈ f.2, x ∈ f.1) ∧ ∀ (i : Nat) oi fi, i < j → l[i]? = some oi → fps[i]? = some fi → ahead lf i j = true ∨ (meet oi.dst.toList (namesOf lf.toArray o) = false ∧ meet (namesOf lf.toArray oi) o.dst.toList = false ∧ meet fi.2 f.1 = false ∧ meet fi.1 f.2 = false) := by
    intro j o f ho hf
    have hj : j < l.length := (List.getElem?_eq_some_iff.1 ho).1
    have h1 := hB j hj
    have ho2 := ho
    rw [htk j hj] at ho2
    rw [ho2, hf] at h1
    simp only [Bool.and_eq_true, List.all_eq_true, List.mem_range] at h1
    obtain ⟨⟨⟨h2, hnd⟩, h3⟩, h4⟩ := h1
    refine ⟨hon j o ho2, h2, hnd, fun x hx => by simpa using h3 x hx, fun i oi fi hij hoi hfi => ?_⟩
    have h5 := h4 i hij
    rw [← htk i (by omega), hoi, hfi] at h5
    simp only [pairOk, Bool.or_eq_true, Bool.not_eq_true', Bool.or_eq_false_iff] at h5
    rcases h5 with h5 | h5
    · exact .inl h5
    · exact .inr ⟨h5.1.1.1, h5.1.1.2, h5.1.2, h5.2⟩
  have meet_no : ∀ {x : List Nat} {y : List Nat} {t : Nat}, meet x y = false → t ∈ x → t ∈ y → False := by
    intro x y t hm hx hy
    simp only [meet, List.any_eq_false] at hm
    exact hm t hx (by simpa using hy)
  -- the state when some have been done
  have main : ∀ (f : Nat) (listed : Array Bool) (b : Act) (s : St), Ok s0 → listed.size = lf.length → (∀ k, l.length ≤ k → listed.getD k false = false) → unl listed lf.length = f → Tr s0 s →
      (∀ t d, lkS l E F (fun k => listed.getD k false) t l.length = some d → Rep s d (slot b t)) → s.M.length = M.length → (∀ i, i < M.length → s.M[i]? = memS E M (fun k => listed.getD k false) i l.length) →
      b.tmps.size = n.n → DfOk s0 s n.mks n.U b.defers → (∀ j i, listed.getD j false = true → j < l.length → ahead lf i j = true → listed.getD i false = true) →
      wpAnyIn (wd (n.ρ s0)) 0 P .any lf.toArray (PostK s0 n K) f listed b s.w := by
    intro f
    induction f with
    | zero =>
      intro listed b s h0 hs hbig hu ht hF hMl hM hn hd _
      have hall := unl_zero _ hu
      have h1 := hall l.length (by omega)
      rw [hbig l.length (Nat.le_refl _)] at h1
      cases h1
    | succ f ih =>
      intro listed b s h0 hs hbig hu ht hF hMl hM hn hd hcl
      refine ⟨fun hnone => ?_, fun i hi => ?_⟩
      · exfalso
        obtain ⟨i, h1, h2, h3⟩ := unl_some lf.length (listed := listed) (by omega)
        obtain ⟨o, ho⟩ : ∃ o, lf[i]? = some o := ⟨lf[i], List.getElem?_eq_getElem h1⟩
        have g1 := hon i o ho
        have : i ∈ Region.ready .any lf.toArray listed := mem_ready.2 ⟨by rw [getD_tf hs h1]; exact h2, o, by simpa using ho, fun e he hb => h3 _ (g1 e (by simpa using he) hb)⟩
        rw [hnone] at this
        cases this
      · obtain ⟨hun, o, ho, hall⟩ := mem_ready.1 hi
        have hof : lf[i]? = some o := by simpa using ho
        have hilf : i < lf.length := (List.getElem?_eq_some_iff.1 hof).1
        rw [getD_tf hs hilf] at hun
        have done0 : ∀ j, ahead lf j i = true → listed.getD j false = true := by
          intro j hj
          obtain ⟨e, he, hb, hcase⟩ := ahead_step hof hj
          have h1 := hall e (by simpa using he) hb
          rcases hcase with rfl | ⟨h2, h3⟩
          · exact h1
          · refine hcl e.on j h1 ?_ h3
            refine Classical.byContradiction fun hno => ?_
            rw [hbig e.on (by omega)] at h1
            cases h1
        by_cases hgt : l.length < i
        · exfalso
          have h1 := done0 l.length (hbeh i hgt hilf)
          rw [hbig l.length (Nat.le_refl _)] at h1
          cases h1
        by_cases him : i = l.length
        · subst him
          have hall2 : ∀ j, j < l.length → listed.getD j false = true := fun j hj => done0 j (hpre j hj)
          rw [hof] at hopn
          obtain rfl := Option.some.inj hopn
          obtain ⟨fp, d, wr, q1, q2, q3⟩ := e2
          have hFk : FOk s (Fup l E F l.length) b := fun t d hd' => by
            rw [fup_lk] at hd'
            refine hF t d ?_
            rw [← hd']
            exact lkS_congr _ fun j o hj _ _ => hall2 j hj
          have hMk : s.M = Mup E M l.length := by
            refine List.ext_getElem? fun i => ?_
            by_cases hi : i < M.length
            · rw [hM i hi, mup_at i hi]
              exact memS_congr _ fun j r hj _ _ => hall2 j hj
            · rw [List.getElem?_eq_none (by omega), List.getElem?_eq_none (by rw [Mup_len]; omega)]
          unfold wpOpIn
          rw [ho]
          simp only
          have hw : Region.wanted o (yielded lf.toArray b.tmps) = true := by unfold Region.wanted; rw [q1]
          rw [if_pos hw]
          refine dgives_inP hndm (q2 rfl b s ht.ok (fun x _ d hd => ev_rep hFk hd) (fun i _ => by rw [hMk])) fun s' v ht' ⟨w1, w2⟩ => ?_
          exact ⟨Fup l E F l.length, upd (Mup E M l.length) wr, d, ⟨h0, s', v, w1.trans (by rw [hMk]), rfl, ht.trans ht', hFk.mono ht.ok ht', hn, hd.mono ht.ok ht', rfl, w2⟩, q3⟩
        have hil : i < l.length := by omega
        have ho' : l[i]? = some o := by rw [hl, List.getElem?_take, if_pos (by omega)]; exact hof
        obtain ⟨fi, hfi⟩ : ∃ fi, fps[i]? = some fi := ⟨fps[i], List.getElem?_eq_getElem (by omega)⟩
        obtain ⟨pc, d, r, hr, hrd, hg, hop, hwi, hgw⟩ := e3 i o fi ho' hfi
        obtain ⟨g1, g2, hnd, g3, g4⟩ := hone i o fi ho' hfi
        have done := done0
        have undone : ∀ j, j < l.length → ahead lf i j = true → listed.getD j false = false := by
          intro j hj h1
          cases e : listed.getD j false with
          | false => rfl
          | true => rw [hcl j i e hj h1] at hun; cases hun
        have tset : ∀ t, t ∈ namesOf lf.toArray o → lkS l E F (fun k => listed.getD k false) t l.length = lkS l E F (fun _ => true) t i := by
          intro t ht
          rw [lkS_cut i l.length (by omega) fun j oj h1 h2 hj hjd => ?_]
          · refine lkS_congr i fun j oj hj hoj hjd => ?_
            obtain ⟨fj, hfj⟩ : ∃ fj, fps[j]? = some fj := ⟨fps[j], List.getElem?_eq_getElem (by omega)⟩
            rcases g4 j oj fj hj hoj hfj with h1 | h1
            · exact done j h1
            · exact (meet_no h1.1 (by simp [hjd]) ht).elim
          · by_cases e : j = i
            · subst e; exact hun
            · obtain ⟨fj, hfj⟩ : ∃ fj, fps[j]? = some fj := ⟨fps[j], List.getElem?_eq_getElem (by omega)⟩
              rcases (hone j oj fj hj hfj).2.2.2.2 i o fi (by omega) ho' hfi with h3 | h3
              · exact undone j h2 h3
              · exact (meet_no h3.2.1 ht (by simp [hjd])).elim
        have mset : ∀ x, x ∈ fi.1 → memS E M (fun k => listed.getD k false) x l.length = memS E M (fun _ => true) x i := by
          intro x hx
          have wmem : ∀ (j : Nat) rj fj, E[j]? = some rj → fps[j]? = some fj → j < l.length → (wrAt rj.wr x).isSome = true → x ∈ fj.2 := by
            intro j rj fj hrj hfj hj hw
            obtain ⟨oj, _, hoj, _⟩ := at_ j hj
            obtain ⟨_, _, r', hr', _, _, _, hw', _⟩ := e3 j oj fj hoj hfj
            rw [hrj] at hr'
            obtain rfl := Option.some.inj hr'
            rw [← hw']
            refine Classical.byContradiction fun hno => ?_
            rw [wrAt_none _ _ hno] at hw
            cases hw
          rw [memS_cut i l.length (by omega) fun j rj h1 h2 hrj hw => ?_]
          · refine memS_congr i fun j rj hj hrj hw => ?_
            obtain ⟨oj, fj, hoj, hfj⟩ := at_ j (by omega)
            rcases g4 j oj fj hj hoj hfj with h1 | h1
            · exact done j h1
            · exact (meet_no h1.2.2.1 (wmem j rj fj hrj hfj (by omega) hw) hx).elim
          · by_cases e : j = i
            · subst e; exact hun
            · obtain ⟨oj, fj, hoj, hfj⟩ := at_ j (by omega)
              rcases (hone j oj fj hoj hfj).2.2.2.2 i o fi (by omega) ho' hfi with h3 | h3
              · exact undone j h2 h3
              · exact (meet_no h3.2.2.2 hx (wmem j rj fj hrj hfj h2 hw)).elim
        have hslot : ∀ t d, t ∈ o.looksAt lf.toArray → lk (Fup l E F i) t = some d → Rep s d (slot b t) := by
          intro t d' ht hd'
          refine hF t d' ?_
          rw [tset t (List.mem_append_left _ ht), ← fup_lk]
          exact hd'
        have next : ∀ (s' : St) (v : Value), Tr s s' → s'.M = upd s.M r.wr → Rep s' r.d v → wpAnyIn (wd (n.ρ s0)) 0 P .any lf.toArray (PostK s0 n K) f (listed.setIfInBounds i true) (b.put o.dst v) s'.w := by
          intro s' v ht' hM' hrep
          have hset : ∀ k, (listed.setIfInBounds i true).getD k false = if i = k then true else listed.getD k false := fun k => getD_set _ _ _ (by rw [hs]; exact hilf)
          refine ih _ _ s' h0 (by simp [hs]) (fun k hk => by rw [hset, if_neg (by omega)]; exact hbig k hk) ?_ (ht.trans ht') ?_ (by rw [hM', upd_len, hMl]) ?_ (by rw [put_size]; exact hn) (by rw [put_def]; exact hd.mono ht.ok ht') ?_
          · have := unl_set (by rw [hs]; exact hilf) hun lf.length
            rw [if_pos hilf] at this
            omega
          · intro t d' hd'
            by_cases htd : o.dst = some t
            · have e : lkS l E F (fun k => (listed.setIfInBounds i true).getD k false) t l.length = some r.d := by
                rw [lkS_cut (i + 1) l.length (by omega) fun j oj h1 h2 hj hjd => ?_]
                · unfold lkS
                  rw [ho', hr]
                  simp only
                  rw [if_pos ⟨by rw [hset, if_pos rfl], htd⟩]
                · rw [hset, if_neg (by omega)]
                  obtain ⟨fj, hfj⟩ : ∃ fj, fps[j]? = some fj := ⟨fps[j], List.getElem?_eq_getElem (by omega)⟩
                  rcases (hone j oj fj hj hfj).2.2.2.2 i o fi (by omega) ho' hfi with h3 | h3
                  · exact undone j h2 h3
                  · exact (meet_no (t := t) h3.2.1 (List.mem_append_right _ (by simp [htd])) (by simp [hjd])).elim
              rw [e] at hd'
              obtain rfl := Option.some.inj hd'
              have hsz : t < b.tmps.size := by
                rw [htd] at g2
                rw [hn]
                exact Nat.blt_eq.mp g2
              rw [htd, slot_put, if_pos ⟨rfl, hsz⟩]
              exact hrep
            · have e : slot (b.put o.dst v) t = slot b t := by
                cases hod : o.dst with
                | none => rfl
                | some x => rw [slot_put, if_neg (fun q => htd (by rw [hod, q.1]))]
              rw [e]
              refine (hF t d' ?_).mono ht.ok ht'
              rw [← hd']
              refine lkS_congr _ fun j oj hj hoj hjd => ?_
              rw [hset]
              by_cases ej : i = j
              · subst ej
                rw [ho'] at hoj
                obtain rfl := Option.some.inj hoj
                exact absurd hjd htd
              · rw [if_neg ej]
          · intro x hx
            rw [hM', upd_get _ _ _ (by omega), hM x hx]
            cases hw : wrAt r.wr x with
            | none =>
              rw [Option.none_or]
              refine memS_congr _ fun j rj hj hrj hwj => ?_
              rw [hset]
              by_cases ej : i = j
              · subst ej
                rw [hr] at hrj
                obtain rfl := Option.some.inj hrj
                rw [hw] at hwj; cases hwj
              · rw [if_neg ej]
            | some k =>
              rw [Option.some_or]
              have hxw : x ∈ fi.2 := by
                rw [← hwi]
                refine Classical.byContradiction fun hno => ?_
                rw [wrAt_none _ _ hno] at hw
                cases hw
              rw [memS_cut (i + 1) l.length (by omega) fun j rj h1 h2 hrj hwj => ?_]
              · unfold memS
                rw [hr]
                simp only
                rw [if_pos (by rw [hset, if_pos rfl]), hw, Option.some_or]
              · rw [hset, if_neg (by omega)]
                obtain ⟨oj, fj, hoj, hfj⟩ := at_ j (by omega)
                rcases (hone j oj fj hoj hfj).2.2.2.2 i o fi (by omega) ho' hfi with h3 | h3
                · exact undone j h2 h3
                · refine (meet_no h3.2.2.2 (g3 x hxw) ?_).elim
                  obtain ⟨_, _, r', hr', _, _, _, hw', _⟩ := e3 j oj fj hoj hfj
                  rw [hrj] at hr'
                  obtain rfl := Option.some.inj hr'
                  rw [← hw']
                  refine Classical.byContradiction fun hno => ?_
                  rw [wrAt_none _ _ hno] at hwj
                  cases hwj
          · intro j k hj hjl hk
            rw [hset] at hj ⊢
            by_cases e : i = k
            · rw [if_pos e]
            · rw [if_neg e]
              by_cases ej : i = j
              · subst ej; exact done k hk
              · rw [if_neg ej] at hj
                exact hcl j k hj hjl hk
        unfold wpOpIn
        rw [ho]
        simp only
        rw [gd_wanted hg hslot]
        cases pc with
        | true =>
          rw [if_pos rfl]
          refine dgives_in hnd (hop rfl b s ht.ok (fun x hx d' hd' => ?_) (fun x hx => ?_)) fun s' v ht' ⟨q1, q2⟩ => next s' v ht' q1 ?_
          · cases x with
            | tmp t => exact hslot t d' (List.mem_append_left _ (List.mem_filterMap.2 ⟨.tmp t, by simpa using hx, rfl⟩)) hd'
            | const v => obtain rfl := Option.some.inj hd'; exact .val v
            | func g => obtain rfl := Option.some.inj hd'; exact Rep.fn (vs := []) (us := []) rfl rfl (fun j d v h => by simp at h) (fun j d v h => by simp at h)
            | global g => obtain rfl := Option.some.inj hd'; exact .val _
          · by_cases hxl : x < M.length
            · rw [hM x hxl, mup_at x hxl, mset x hx]
            · rw [List.getElem?_eq_none (by omega), List.getElem?_eq_none (by rw [Mup_len]; omega)]
          · rw [hrd]
            unfold gdd
            split
            · exact q2
            · exact .opt (fun _ => q2) (fun h => by cases h)
        | false =>
          rw [if_neg (by simp)]
          have hgs : o.guard.isSome = true := by
            unfold Gd at hg
            cases e : o.guard with
            | none => rw [e] at hg; cases hg
            | some x => rfl
          refine ⟨fun _ _ => trivial, next s undef (Tr.refl ht.ok) (by rw [hgw rfl]; rfl) ?_⟩
          rw [hrd]
          unfold gdd
          split
          · rename_i e; rw [e] at hgs; cases hgs
          · exact .opt (fun h => by cases h) (fun _ => rfl)
  obtain ⟨h0, s, h1, h2, h3, h4, h5, h6⟩ := hi
  subst h1 h2
  have hst := step_same h3.ok { s.w with drawn := s.w.drawn + 1 } rfl rfl rfl rfl
  have hno : ∀ k, (Array.replicate lf.toArray.size false).getD k false = false := fun k => by
    simp only [Array.getD_eq_getD_getElem?, Array.getElem?_replicate]
    split <;> rfl
  have := main lf.length (Array.replicate lf.toArray.size false) a ⟨s.β, s.I, s.M, { s.w with drawn := s.w.drawn + 1 }⟩ h0 (by simp) (fun k _ => hno k) (by
      have := unl_start lf.toArray.size lf.length (by simp)
      exact this) (h3.trans hst) (fun t d hd => ?_) rfl (fun i hi => ?_) h5 (h6.mono h3.ok hst) (fun j i hj => by rw [hno] at hj; cases hj)
  · simpa using this
  · rw [lkS_cut 0 l.length (by omega) fun j o _ _ _ _ => hno j] at hd
    exact (h4 t d hd).mono h3.ok hst
  · rw [memS_cut 0 l.length (by omega) fun j r _ _ _ _ => hno j]
    rfl
end Go.Proofs.Ytcbfnbfhlofkiaa
namespace Go.Proofs.Ytcbfnbfhlofkiaa
set_option linter.unusedVariables false
set_option linter.unusedSimpArgs false
open Go.RowKit
def Mem.blk : Mem → Blk
  | .gone => .gone
  | .flat T L => .flat T L
  | .arr T sz n L => .arr T sz n L
  | .que T sz n L => .que T sz n L
theorem mem_blk {s : St} {h : Value} {B : Mem} (hk : BlkOk s h B.blk) : MemOk s.w h B := by cases B <;> exact hk
theorem blk_live (B : Mem) : B.blk.live = B.live := by cases B <;> rfl
theorem blk_owns {B : Mem} {h : Value} {b : Nat} : owns B.blk h b ↔ hb h = some b := by cases B <;> exact Iff.rfl
/-- a block joins a family -/
theorem tr_abs {s : St} (ho : Ok s) {i j : Nat} {Bs : List Mem} {B : Mem} {hs : List Value} {h : Value} (hi : s.M[i]? = some (.fam Bs)) (hj : s.M[j]? = some B.blk) (hl : B.live = true) (hβi : s.β[i]? = some (.tuple hs.toArray)) (hβj : s.β[j]? = some h) :
    Tr s ⟨s.β.set i (.tuple (hs ++ [h]).toArray), s.I, (s.M.set j .gone).set i (.fam (Bs ++ [B])), s.w⟩ := by
  have hne : i ≠ j := fun e => by subst e; rw [hi] at hj; cases B <;> cases hj
  have hil := (List.getElem?_eq_some_iff.1 hi).1
  have hjl := (List.getElem?_eq_some_iff.1 hj).1
  have hf := fam_at (k := 0) ho hi hβi
  have hlen := hf.len
  have hm : MemOk s.w h B := mem_blk (ho.blk j _ h hj hβj)
  have other : ∀ b, owns (.fam (Bs ++ [B])) (.tuple (hs ++ [h]).toArray) b → owns (.fam Bs) (.tuple hs.toArray) b ∨ hb h = some b := by
    rintro b ⟨hs', k, B', u, e1, e2, e3, e4, e5⟩
    have e1 : hs ++ [h] = hs' := by simpa using e1
    subst e1
    by_cases hk : k < Bs.length
    · rw [List.getElem?_append_left hk] at e2
      rw [List.getElem?_append_left (by omega)] at e4
      exact .inl ⟨hs, k, B', u, rfl, e2, e3, e4, e5⟩
    · rw [List.getElem?_append_right (by omega)] at e2 e4
      have hk0 : k - hs.length = 0 := by have := (List.getElem?_eq_some_iff.1 e4).1; simp at this; omega
      rw [hk0] at e4
      simp at e4
      subst e4
      exact .inr e5
  have lvi : ∀ b, owns (.fam Bs) (.tuple hs.toArray) b → Live s b := fun b hb => live_of hi rfl hβi hb
  have lvj : ∀ b, hb h = some b → Live s b := fun b hb => live_of hj (by rw [blk_live]; exact hl) hβj (blk_owns.2 hb)
  have ne : ∀ (k : Nat) kb, (s.M.set j .gone)[k]? = some kb → kb.live = true → j ≠ k ∧ s.M[k]? = some kb := fun k kb hkb hlv => by
    by_cases hk : j = k
    · subst hk
      rw [List.getElem?_set_self hjl] at hkb
      cases hkb; cases hlv
    · rw [List.getElem?_set_ne hk] at hkb; exact ⟨hk, hkb⟩
  refine step_set ho i (s.M.set j .gone) _ _ s.w (by simp) (fun k kb hkb => ?_) hil (.inr (.inr ⟨hs, hs ++ [h], hβi, rfl, fun k u hu => ?_⟩)) (by simp) ⟨_, rfl, ?_⟩ (fun b hb k kb hh hne' q1 q2 q3 q4 => ?_) (fun b hb => .inr ((other b hb).elim (lvi b) (lvj b))) (fun b hb => (ho.lt b ((other b hb).elim (lvi b) (lvj b))).1) (fun _ => False) (fun _ h => h.elim) (fun _ _ _ _ => rfl) rfl rfl rfl (Nat.le_refl _)
  · by_cases hk : j = k
    · subst hk
      rw [List.getElem?_set_self hjl] at hkb
      exact .inr (Option.some.inj hkb).symm
    · rw [List.getElem?_set_ne hk] at hkb; exact .inl hkb
  · rw [List.getElem?_append_left (List.getElem?_eq_some_iff.1 hu).1]; exact hu
  · have split : ∀ (k : Nat) B' u, (Bs ++ [B])[k]? = some B' → (hs ++ [h])[k]? = some u → (Bs[k]? = some B' ∧ hs[k]? = some u) ∨ (k = Bs.length ∧ B' = B ∧ u = h) := by
      intro k B' u e2 e4
      by_cases hk : k < Bs.length
      · rw [List.getElem?_append_left hk] at e2
        rw [List.getElem?_append_left (by omega)] at e4
        exact .inl ⟨e2, e4⟩
      · rw [List.getElem?_append_right (by omega)] at e2 e4
        have hk0 : k - Bs.length = 0 := by have := (List.getElem?_eq_some_iff.1 e2).1; simp at this; omega
        rw [show k - hs.length = 0 by omega] at e4
        rw [hk0] at e2
        simp at e2 e4
        exact .inr ⟨by omega, e2.symm, e4.symm⟩
    refine ⟨by simp [hlen], fun k B' u e2 e4 => ?_, fun k k' B1 B2 u1 u2 b e1 l1 e2 e3 f1 l2 f2 f3 => ?_⟩
    · rcases split k B' u e2 e4 with ⟨a, c⟩ | ⟨_, rfl, rfl⟩
      · exact hf.ok k B' u a c
      · exact hm
    · rcases split k B1 u1 e1 e2 with ⟨a, c⟩ | ⟨rfl, rfl, rfl⟩ <;> rcases split k' B2 u2 f1 f2 with ⟨a', c'⟩ | ⟨rfl, rfl, rfl⟩
      · exact hf.inj k k' B1 B2 u1 u2 b a l1 c e3 a' l2 c' f3
      · exact absurd (ho.inj i j _ _ _ _ b hi rfl hβi ⟨hs, k, B1, u1, rfl, a, l1, c, e3⟩ hj (by rw [blk_live]; exact hl) hβj (blk_owns.2 f3)) hne
      · exact absurd (ho.inj i j _ _ _ _ b hi rfl hβi ⟨hs, k', B2, u2, rfl, a', l2, c', f3⟩ hj (by rw [blk_live]; exact hl) hβj (blk_owns.2 e3)) hne
      · rfl
  · obtain ⟨hjk, q1⟩ := ne k kb q1 q2
    rcases other b hb with h1 | h1
    · exact hne' (ho.inj i k _ kb _ hh b hi rfl hβi h1 q1 q2 q3 q4).symm
    · exact hjk (ho.inj j k _ kb _ hh b hj (by rw [blk_live]; exact hl) hβj (blk_owns.2 h1) q1 q2 q3 q4)
/-- an empty family -/
theorem tr_fam {s : St} (ho : Ok s) {j : Nat} (hj : s.M[j]? = some .hole) : Tr s ⟨s.β.set j (.tuple #[]), s.I, s.M.set j (.fam []), s.w⟩ := by
  have hjl : j < s.M.length := (List.getElem?_eq_some_iff.1 hj).1
  have hβ : s.β[j]? = some .nilFunc := by
    have hjb : j < s.β.length := by rw [ho.len]; exact hjl
    have e : s.β[j]? = some s.β[j] := List.getElem?_eq_getElem hjb
    have : s.β[j] = .nilFunc := ho.blk j .hole _ hj e
    rw [e, this]
  have no : ∀ b, ¬ owns (.fam []) (.tuple #[]) b := by
    rintro b ⟨hs, k, B, u, e1, e2, _⟩
    simp at e2
  exact step_set ho j s.M (.tuple #[]) (.fam []) s.w rfl (fun i k h => .inl h) hjl (.inl hβ) (by simp) ⟨[], rfl, rfl, fun k B u h => by simp at h, fun k k' B B' u u' b h => by simp at h⟩ (fun b hb => (no b hb).elim) (fun b hb => (no b hb).elim) (fun b hb => (no b hb).elim) (fun _ => False) (fun _ h => h.elim) (fun _ _ _ _ => rfl) rfl rfl rfl (Nat.le_refl _)
section
variable {P : Program} {s0 : St} {n : Cx}
theorem inv_fam {F : Fr} {M : List Blk} {a : Act} {w : World} {j : Nat} (h : Inv s0 n F M a w) (hj : M[j]? = some .hole) : Inv s0 n F (M.set j (.fam [])) a w := by
  obtain ⟨h0, s, rfl, rfl, h3, h4, h5, h6⟩ := h
  have tt := tr_fam h3.ok hj
  exact ⟨h0, ⟨s.β.set j (.tuple #[]), s.I, s.M.set j (.fam []), s.w⟩, rfl, rfl, h3.trans tt, fun x d hd => (h4 x d hd).mono h3.ok tt, h5, h6.mono h3.ok tt⟩
/-- an empty family is laid -/
theorem dwp_fam {c : Code} {F : Fr} {M M' : List Blk} {K : Cont} (j : Nat) (hj : M[j]? = some .hole) (hM' : M.set j (.fam []) = M') (h : dwp P s0 n c F M' K) : dwp P s0 n c F M K := by
  subst hM'
  exact fun a w hi => h a w (inv_fam hi hj)
end
end Go.Proofs.Ytcbfnbfhlofkiaa
namespace Go.Proofs.Ytcbfnbfhlofkiaa
set_option linter.unusedVariables false
set_option linter.unusedSimpArgs false
open Go.RowKit
section
variable {P : Program} {pc : Bool} {o : Oper} {F : Fr} {M : List Blk}
/-- a struct with addresses, out of a longer block -/
theorem op_ldmp {T T' : TypeId} {x : Operand} {i p k : Nat} {l R : List D} (ho : o.op = .load T x) (hT : tyB P T = some (true, k)) (hx : Ev pc F x (.loc i p)) (hM : M[i]? = some (.mix T' l)) (hR : (l.drop p).take k = R) (hl : R.length = k) : DOp P pc o F M [i] (.agg R) [] := by
  intro hp a s hok hops hfp
  have hr := ev_at hp hx (by simp [ho, Op.operands]) hops
  generalize hv : a.eval x = vx at hr
  cases hr with
  | @loc _ _ b h =>
    obtain ⟨b', vs, e1, e2, e3, e4⟩ := hok.blk i _ _ (by rw [hfp i (by simp)]; exact hM) h
    cases e1
    have hlen : ((vs.drop p).take k).length = R.length := by
      rw [← hR, List.length_take, List.length_drop, List.length_take, List.length_drop, e3]
    have hc : cellsAt s.w b 0 vs := cellsAt_block e2 0
    have hr := cellsAt_range hc p k rfl
    rw [Nat.zero_add] at hr
    refine dg_val hok (run_load_row ho hT hv hr (by omega)) (.agg hlen fun j d v h1 h2 => ?_)
    rw [← hR] at h1
    rcases Nat.lt_or_ge j k with hjk | hjk
    · rw [List.getElem?_take, if_pos hjk, List.getElem?_drop] at h1 h2
      exact e4 _ _ _ h1 h2
    · rw [List.getElem?_take, if_neg (by omega)] at h1
      cases h1
end
/-- a block is forgotten -/
theorem tr_gone {s : St} (ho : Ok s) (i : Nat) : Tr s ⟨s.β, s.I, s.M.set i .gone, s.w⟩ := by
  have hnd : ∀ (i : Nat) h, s.β[i]? = some h → h ≠ .nilFunc → s.β[i]? = some h := fun _ _ h _ => h
  have old : ∀ (j : Nat) k, (s.M.set i .gone)[j]? = some k → k = .gone ∨ s.M[j]? = some k := fun j k hj => by
    by_cases e : i = j
    · subst e
      by_cases hl : i < s.M.length
      · rw [List.getElem?_set_self hl] at hj
        exact .inl (Option.some.inj hj).symm
      · rw [List.getElem?_eq_none (by simp; omega)] at hj; cases hj
    · rw [List.getElem?_set_ne e] at hj; exact .inr hj
  have lv : ∀ b, Live ⟨s.β, s.I, s.M.set i .gone, s.w⟩ b → Live s b := by
    rintro b ⟨j, k, h, h1, h2, h3, h4⟩
    rcases old j k h1 with rfl | h1
    · cases h2
    · exact live_of h1 h2 h3 h4
  refine ⟨⟨by simp [ho.len], fun j k h h1 h2 => ?_, fun b hb => ho.lt b (lv b hb), ?_, ho.il⟩, hkeep_of hnd, fun _ h => h, fun _ h => .inl h, fun _ _ _ => rfl, fun b h => .inr (lv b h), rfl, rfl, rfl, Nat.le_refl _⟩
  · rcases old j k h1 with rfl | h1
    · trivial
    · exact BlkOk.mono (s := s) (s' := ⟨s.β, s.I, s.M.set i .gone, s.w⟩) hnd (fun _ h => h) (fun _ _ => rfl) (ho.blk j k h h1 h2) (fun _ _ _ => rfl)
  · intro j j2 k k2 x x2 b a1 a2 a3 a4 c1 c2 c3 c4
    rcases old j k a1 with rfl | a1
    · cases a2
    · rcases old j2 k2 c1 with rfl | c1
      · cases c2
      · exact ho.inj j j2 k k2 x x2 b a1 a2 a3 a4 c1 c2 c3 c4
/-- a row of one's own is given up: it stays from now on -/
theorem tr_giveA {s : St} (ho : Ok s) {j sz n : Nat} {T : TypeId} {L : List Value} {v : Value} (hM : s.M[j]? = some (.arr T sz n L)) (hr : Rep s (.arr j) v) : ∃ I' : Nat → Prop, Tr s ⟨s.β, I', s.M.set j .gone, s.w⟩ ∧ Rep ⟨s.β, I', s.M.set j .gone, s.w⟩ (.slf sz n L) v := by
  cases hr with
  | @arr _ ad n' c hβ =>
    have hk : s.w.ownsRow 0 T sz _ n L := ho.blk j _ _ hM hβ
    rcases hk.2 with ⟨e1, e2⟩ | ⟨g, cap, cur, e1, e2, e3, e4, e5, e6, e7⟩
    · cases e1; subst e2
      exact ⟨s.I, tr_gone ho j, .slf hk.1 (Nat.le_refl _) (Nat.zero_le _) (fun _ => rfl) (.inl (List.eq_nil_of_length_eq_zero (by simpa using hk.1)))⟩
    · cases e1
      refine ⟨fun b => s.I b ∨ b = g, tr_give ho hM rfl hβ rfl s.w (fun _ _ => rfl) rfl rfl rfl rfl, .slf hk.1 e4 e5 (fun e => by cases e) (.inr ⟨g, 0, rfl, .inr rfl, ?_⟩)⟩
      have hc := cellsAt_sub (cellsAt_block e3 0) 0 (n * sz)
      show cellsAt s.w g 0 L
      simpa [e7] using hc
theorem DGives.map {P : Program} {s : St} {post post' : St → Value → Prop} {r : Result Next} (h : DGives P s post r) (f : ∀ s' v, Ok s' → post s' v → ∃ s'', s''.w = s'.w ∧ Tr s' s'' ∧ post' s'' v) : DGives P s post' r := by
  have key : ∀ {w' : World} {v : Value}, (∃ s', s'.w = w' ∧ Tr s s' ∧ post s' v) → ∃ s', s'.w = w' ∧ Tr s s' ∧ post' s' v := by
    rintro w' v ⟨s', rfl, a2, a3⟩
    obtain ⟨s'', b1, b2, b3⟩ := f s' v a2.ok a3
    exact ⟨s'', b1, a2.trans b2, b3⟩
  cases r with
  | halt x w' => exact h
  | ok nx w' =>
    cases nx with
    | value v => exact key h
    | skip => exact key h
    | enter g args =>
      refine ⟨h.1, h.2.mono ?_⟩
      rintro e w'' ⟨s', v, b1, b2, b3, b4⟩
      obtain ⟨s'', c1, c2, c3⟩ := key ⟨s', b2, b3, b4⟩
      exact ⟨s'', v, b1, c1, c2, c3⟩
    | round l f tmps asg body =>
      refine ⟨h.1, h.2.mono ?_⟩
      rintro e w'' ⟨s', v, b1, b2, b3, b4⟩
      obtain ⟨s'', c1, c2, c3⟩ := key ⟨s', b2, b3, b4⟩
      exact ⟨s'', v, b1, c1, c2, c3⟩
    | _ => exact h
section
variable {P : Program} {s0 : St} {n : Cx}
theorem inv_giveA {F : Fr} {M : List Blk} {a : Act} {w : World} {t i : Nat} {e : TypeId} {sz m : Nat} {L : List Value} (h : Inv s0 n F M a w) (ht : lk F t = some (.arr i)) (hM : M[i]? = some (.arr e sz m L)) : Inv s0 n ((t, .slf sz m L) :: F) (M.set i .gone) a w := by
  obtain ⟨h0, s, rfl, rfl, h3, h4, h5, h6⟩ := h
  obtain ⟨I', tt, r1⟩ := tr_giveA h3.ok hM (h4 t _ ht)
  refine ⟨h0, ⟨s.β, I', s.M.set i .gone, s.w⟩, rfl, rfl, h3.trans tt, fun x d hd => ?_, h5, h6.mono h3.ok tt⟩
  rw [lk_cons] at hd
  split at hd
  · rename_i e'
    subst e'
    obtain rfl := Option.some.inj hd
    exact r1
  · exact (h4 x d hd).mono h3.ok tt
theorem dwp_giveA {c : Code} {F : Fr} {M M' : List Blk} {K : Cont} (t : Nat) {i : Nat} {e : TypeId} {sz m : Nat} {L : List Value} (ht : lk F t = some (.arr i)) (hM : M[i]? = some (.arr e sz m L)) (hM' : M.set i .gone = M') (h : dwp P s0 n c ((t, .slf sz m L) :: F) M' K) : dwp P s0 n c F M K := by
  subst hM'
  exact fun a w hi => h a w (inv_giveA hi ht hM)
end
/-- a row of a family is taken out of it again -/
theorem tr_rel {s : St} (ho : Ok s) {i j k : Nat} {Bs : List Mem} {B : Mem} {hs : List Value} {u : Value} (hi : s.M[i]? = some (.fam Bs)) (hj : s.M[j]? = some .hole) (hB : Bs[k]? = some B) (hl : B.live = true) (hβi : s.β[i]? = some (.tuple hs.toArray)) (hu : hs[k]? = some u) :
    Tr s ⟨s.β.set j u, s.I, (s.M.set i (.fam (Bs.set k .gone))).set j B.blk, s.w⟩ := by
  have hne : i ≠ j := fun e => by subst e; rw [hi] at hj; cases hj
  have hil := (List.getElem?_eq_some_iff.1 hi).1
  have hjl := (List.getElem?_eq_some_iff.1 hj).1
  have hkl := (List.getElem?_eq_some_iff.1 hB).1
  have hf := fam_at (k := 0) ho hi hβi
  have hβj : s.β[j]? = some .nilFunc := by
    have hjb : j < s.β.length := by rw [ho.len]; exact hjl
    have e : s.β[j]? = some s.β[j] := List.getElem?_eq_getElem hjb
    have : s.β[j] = .nilFunc := ho.blk j .hole _ hj e
    rw [e, this]
  have hnd : ∀ (x : Nat) h, s.β[x]? = some h → h ≠ .nilFunc → (s.β.set j u)[x]? = some h := fun x h hx hn => by
    by_cases e : j = x
    · subst e; rw [hβj] at hx; exact absurd (Option.some.inj hx).symm hn
    · rw [List.getElem?_set_ne e]; exact hx
  have oldM : ∀ (x : Nat) kk, ((s.M.set i (.fam (Bs.set k .gone))).set j B.blk)[x]? = some kk → (x = j ∧ kk = B.blk) ∨ (x = i ∧ kk = .fam (Bs.set k .gone)) ∨ (x ≠ j ∧ x ≠ i ∧ s.M[x]? = some kk) := fun x kk h => by
    by_cases e : j = x
    · subst e
      rw [List.getElem?_set_self (by simpa using hjl)] at h
      exact .inl ⟨rfl, (Option.some.inj h).symm⟩
    · rw [List.getElem?_set_ne e] at h
      by_cases e2 : i = x
      · subst e2
        rw [List.getElem?_set_self hil] at h
        exact .inr (.inl ⟨rfl, (Option.some.inj h).symm⟩)
      · rw [List.getElem?_set_ne e2] at h
        exact .inr (.inr ⟨Ne.symm e, Ne.symm e2, h⟩)
  have oldβ : ∀ (x : Nat) hh, (s.β.set j u)[x]? = some hh → (x = j ∧ hh = u) ∨ (x ≠ j ∧ s.β[x]? = some hh) := fun x hh h => by
    by_cases e : j = x
    · subst e
      rw [List.getElem?_set_self (by rw [ho.len]; exact hjl)] at h
      exact .inl ⟨rfl, (Option.some.inj h).symm⟩
    · rw [List.getElem?_set_ne e] at h
      exact .inr ⟨Ne.symm e, h⟩
  have cls : ∀ (x : Nat) kk hh b, ((s.M.set i (.fam (Bs.set k .gone))).set j B.blk)[x]? = some kk → kk.live = true → (s.β.set j u)[x]? = some hh → owns kk hh b →
      (x = j ∧ hb u = some b) ∨ (x = i ∧ ∃ (k' : Nat) (B' : Mem) (u' : Value), k' ≠ k ∧ Bs[k']? = some B' ∧ B'.live = true ∧ hs[k']? = some u' ∧ hb u' = some b) ∨ (x ≠ j ∧ x ≠ i ∧ s.M[x]? = some kk ∧ s.β[x]? = some hh) := by
    intro x kk hh b a1 a2 a3 a4
    rcases oldM x kk a1 with ⟨rfl, rfl⟩ | ⟨rfl, rfl⟩ | ⟨n1, n2, a1⟩
    · rcases oldβ _ hh a3 with ⟨_, rfl⟩ | ⟨n, _⟩
      · exact .inl ⟨rfl, blk_owns.1 a4⟩
      · exact absurd rfl n
    · rcases oldβ _ hh a3 with ⟨e, _⟩ | ⟨_, a3⟩
      · exact absurd e hne
      · rw [hβi] at a3
        obtain rfl := Option.some.inj a3
        obtain ⟨hs', k', B', u', e1, e2, e3, e4, e5⟩ := a4
        have e1 : hs = hs' := by simpa using e1
        subst e1
        by_cases e : k = k'
        · subst e
          rw [List.getElem?_set_self hkl] at e2
          obtain rfl := Option.some.inj e2
          cases e3
        · rw [List.getElem?_set_ne e] at e2
          exact .inr (.inl ⟨rfl, k', B', u', Ne.symm e, e2, e3, e4, e5⟩)
    · rcases oldβ _ hh a3 with ⟨e, _⟩ | ⟨_, a3⟩
      · exact absurd e n1
      · exact .inr (.inr ⟨n1, n2, a1, a3⟩)
  have fo : ∀ (k' : Nat) (B' : Mem) (u' : Value) (b : Nat), Bs[k']? = some B' → B'.live = true → hs[k']? = some u' → hb u' = some b → owns (.fam Bs) (.tuple hs.toArray) b := fun k' B' u' b e2 e3 e4 e5 => ⟨hs, k', B', u', rfl, e2, e3, e4, e5⟩
  have lv : ∀ b, Live ⟨s.β.set j u, s.I, (s.M.set i (.fam (Bs.set k .gone))).set j B.blk, s.w⟩ b → Live s b := by
    rintro b ⟨x, kk, hh, a1, a2, a3, a4⟩
    rcases cls x kk hh b a1 a2 a3 a4 with ⟨_, e⟩ | ⟨_, k', B', u', _, e2, e3, e4, e5⟩ | ⟨_, _, a1, a3⟩
    · exact live_of hi rfl hβi (fo k B u b hB hl hu e)
    · exact live_of hi rfl hβi (fo k' B' u' b e2 e3 e4 e5)
    · exact live_of a1 a2 a3 a4
  refine ⟨⟨by simp [ho.len], fun x kk hh h1 h2 => ?_, fun b hb => ho.lt b (lv b hb), ?_, ho.il⟩, hkeep_of hnd, fun _ h => h, fun _ h => .inl h, fun _ _ _ => rfl, fun b h => .inr (lv b h), rfl, rfl, rfl, Nat.le_refl _⟩
  · rcases oldM x kk h1 with ⟨rfl, rfl⟩ | ⟨rfl, rfl⟩ | ⟨n1, n2, h1⟩
    · rcases oldβ _ hh h2 with ⟨_, rfl⟩ | ⟨n, _⟩
      · have hm := hf.ok k B hh hB hu
        cases B <;> exact hm
      · exact absurd rfl n
    · rcases oldβ _ hh h2 with ⟨e, _⟩ | ⟨_, h2⟩
      · exact absurd e hne
      · rw [hβi] at h2
        obtain rfl := Option.some.inj h2
        refine ⟨hs, rfl, ⟨by rw [List.length_set]; exact hf.len, fun k' B' u' e2 e4 => ?_, fun k1 k2 B1 B2 u1 u2 b e1 l1 e2 e3 f1 l2 f2 f3 => ?_⟩⟩
        · by_cases e : k = k'
          · subst e
            rw [List.getElem?_set_self hkl] at e2
            obtain rfl := Option.some.inj e2
            trivial
          · rw [List.getElem?_set_ne e] at e2
            exact hf.ok k' B' u' e2 e4
        · have un : ∀ (q : Nat) Q, (Bs.set k .gone)[q]? = some Q → Q.live = true → Bs[q]? = some Q := fun q Q g1 g2 => by
            by_cases e : k = q
            · subst e
              rw [List.getElem?_set_self hkl] at g1
              obtain rfl := Option.some.inj g1
              cases g2
            · rw [List.getElem?_set_ne e] at g1; exact g1
          exact hf.inj k1 k2 B1 B2 u1 u2 b (un k1 B1 e1 l1) l1 e2 e3 (un k2 B2 f1 l2) l2 f2 f3
    · rcases oldβ _ hh h2 with ⟨e, _⟩ | ⟨_, h2⟩
      · exact absurd e n1
      · exact BlkOk.mono (s := s) (s' := ⟨s.β.set j u, s.I, (s.M.set i (.fam (Bs.set k .gone))).set j B.blk, s.w⟩) hnd (fun _ h => h) (fun _ _ => rfl) (ho.blk x kk hh h1 h2) (fun _ _ _ => rfl)
  · intro x x2 kk kk2 y y2 b a1 a2 a3 a4 c1 c2 c3 c4
    rcases cls x kk y b a1 a2 a3 a4 with ⟨ex, e⟩ | ⟨ex, k', B', u', n', e2, e3, e4, e5⟩ | ⟨m1, m2, a1, a3⟩ <;> rcases cls x2 kk2 y2 b c1 c2 c3 c4 with ⟨fx, f⟩ | ⟨fx, k2, B2, u2, n2, f2, f3, f4, f5⟩ | ⟨p1, p2, c1, c3⟩
    · exact ex.trans fx.symm
    · exact absurd (hf.inj k k2 B B2 u u2 b hB hl hu e f2 f3 f4 f5).symm n2
    · exact absurd (ho.inj i x2 _ kk2 _ y2 b hi rfl hβi (fo k B u b hB hl hu e) c1 c2 c3 c4).symm p2
    · exact absurd (hf.inj k k' B B' u u' b hB hl hu f e2 e3 e4 e5).symm n'
    · exact ex.trans fx.symm
    · exact absurd (ho.inj i x2 _ kk2 _ y2 b hi rfl hβi (fo k' B' u' b e2 e3 e4 e5) c1 c2 c3 c4).symm p2
    · exact absurd (ho.inj i x _ kk _ y b hi rfl hβi (fo k B u b hB hl hu f) a1 a2 a3 a4).symm m2
    · exact absurd (ho.inj i x _ kk _ y b hi rfl hβi (fo k2 B2 u2 b f2 f3 f4 f5) a1 a2 a3 a4).symm m2
    · exact ho.inj x x2 kk kk2 y y2 b a1 a2 a3 a4 c1 c2 c3 c4
section
variable {P : Program} {s0 : St} {n : Cx}
theorem inv_rel {F : Fr} {M : List Blk} {a : Act} {w : World} {t i j k : Nat} {e : TypeId} {sz m : Nat} {L : List Value} {Bs : List Mem} (h : Inv s0 n F M a w) (ht : lk F t = some (.farr i k)) (hi : M[i]? = some (.fam Bs)) (hB : Bs[k]? = some (.arr e sz m L)) (hj : M[j]? = some .hole) : Inv s0 n ((t, .arr j) :: F) ((M.set i (.fam (Bs.set k .gone))).set j (.arr e sz m L)) a w := by
  obtain ⟨h0, s, rfl, rfl, h3, h4, h5, h6⟩ := h
  have hlen := h3.ok.len
  have hil := (List.getElem?_eq_some_iff.1 hi).1
  have hjl := (List.getElem?_eq_some_iff.1 hj).1
  obtain ⟨x, hx⟩ : ∃ x, s.β[i]? = some x := ⟨_, List.getElem?_eq_getElem (by omega)⟩
  obtain ⟨hs, rfl, hfo⟩ := h3.ok.blk i _ x hi hx
  have hkl := (List.getElem?_eq_some_iff.1 hB).1
  obtain ⟨u, hu⟩ : ∃ u, hs[k]? = some u := ⟨_, List.getElem?_eq_getElem (by rw [hfo.len]; exact hkl)⟩
  have tt := tr_rel (B := .arr e sz m L) h3.ok hi hj hB rfl hx hu
  refine ⟨h0, ⟨s.β.set j u, s.I, (s.M.set i (.fam (Bs.set k .gone))).set j (.arr e sz m L), s.w⟩, rfl, rfl, h3.trans tt, fun z d hd => ?_, h5, h6.mono h3.ok tt⟩
  rw [lk_cons] at hd
  split at hd
  · rename_i e'
    subst e'
    obtain rfl := Option.some.inj hd
    have hr := h4 t _ ht
    show Rep _ _ (slot a t)
    generalize hv : slot a t = v at hr
    cases hr with
    | @farr _ _ ad n' c hs' g1 g2 =>
      rw [hx] at g1
      have e1 : hs = hs' := by simpa using g1
      subst e1
      rw [hu] at g2
      obtain rfl := Option.some.inj g2
      exact .arr (by show (s.β.set j _)[j]? = _; rw [List.getElem?_set_self (by rw [hlen]; exact hjl)])
  · exact (h4 z d hd).mono h3.ok tt
/-- a slot takes its row out of a family -/
theorem dwp_rel {c : Code} {F : Fr} {M M' : List Blk} {K : Cont} (t i : Nat) {j k : Nat} {e : TypeId} {sz m : Nat} {L : List Value} {Bs : List Mem} (ht : lk F t = some (.farr i k)) (hi : M[i]? = some (.fam Bs)) (hB : Bs[k]? = some (.arr e sz m L)) (hj : M[j]? = some .hole) (hM' : (M.set i (.fam (Bs.set k .gone))).set j (.arr e sz m L) = M') (h : dwp P s0 n c ((t, .arr j) :: F) M' K) : dwp P s0 n c F M K := by
  subst hM'
  exact fun a w hh => h a w (inv_rel hh ht hi hB hj)
end
end Go.Proofs.Ytcbfnbfhlofkiaa
namespace Go.Proofs.Ytcbfnbfhlofkiaa
set_option linter.unusedVariables false
set_option linter.unusedSimpArgs false
open Go.RowKit
section
variable {P : Program} {s0 : St} {n : Cx}
theorem inv_adoptc {F : Fr} {M : List Blk} {a : Act} {w : World} {i q : Nat} {T : TypeId} {l : List D} (e : TypeId) (sz : Nat) (h : Inv s0 n F M a w) (hi : M[i]? = some (.mix T l)) (hq : l[q]? = some (.val (.slice none 0 0))) : Inv s0 n F ((M ++ [Blk.arx e sz 0 []]).set i (.mix T (l.set q (.arr M.length)))) a w := by
  obtain ⟨h0, s, rfl, rfl, h3, h4, h5, h6⟩ := h
  have t1 := step_hole h3.ok
  have hlen := h3.ok.len
  have hn : (s.M ++ [Blk.hole])[s.M.length]? = some .hole := by simp
  have t2 : Tr ⟨s.β ++ [Value.nilFunc], s.I, s.M ++ [Blk.hole], s.w⟩ ⟨(s.β ++ [Value.nilFunc]).set s.M.length (.slice none 0 0), s.I, (s.M ++ [Blk.hole]).set s.M.length (.arx e sz 0 []), s.w⟩ :=
    tr_new (s := ⟨s.β ++ [Value.nilFunc], s.I, s.M ++ [Blk.hole], s.w⟩) t1.ok (j := s.M.length) hn (.slice none 0 0) (.arx e sz 0 []) s.w (by simp) (fun b hb => by cases hb) (fun b _ => rfl) (fun b hb => by cases hb) (Nat.le_refl _) rfl rfl rfl ⟨[], World.ownsRow_nil s.w 0 e sz, rfl, fun j d v h => by simp at h⟩
  have tt := t1.trans t2
  have hil : i < s.M.length := (List.getElem?_eq_some_iff.1 hi).1
  have eM : (s.M ++ [Blk.hole]).set s.M.length (.arx e sz 0 []) = s.M ++ [.arx e sz 0 []] := by simp
  rw [eM] at tt
  generalize hS : (⟨(s.β ++ [Value.nilFunc]).set s.M.length (.slice none 0 0), s.I, s.M ++ [.arx e sz 0 []], s.w⟩ : St) = S at tt
  have hSM : S.M = s.M ++ [.arx e sz 0 []] := by rw [← hS]
  have hSw : S.w = s.w := by rw [← hS]
  have hMi : S.M[i]? = some (.mix T l) := by rw [hSM, List.getElem?_append_left hil]; exact hi
  have hβlen : s.M.length < S.β.length := by rw [← hS]; simp [hlen]
  have hβn : S.β[s.M.length]? = some (.slice none 0 0) := by rw [← hS]; simp [hlen]
  obtain ⟨hd, hβi⟩ : ∃ hd, S.β[i]? = some hd := ⟨_, List.getElem?_eq_getElem (by omega)⟩
  obtain ⟨b, vs, rfl, hb, hl, hr⟩ := tt.ok.blk i _ _ hMi hβi
  have hβe : S.β.set i (.pointer (some ⟨b, 0, none⟩)) = S.β := by
    refine List.ext_getElem? fun k => ?_
    by_cases hk : i = k
    · subst hk; rw [List.getElem?_set_self (by omega), hβi]
    · rw [List.getElem?_set_ne hk]
  have t3 : Tr S ⟨S.β.set i (.pointer (some ⟨b, 0, none⟩)), S.I, S.M.set i (.mix T (l.set q (.arr s.M.length))), S.w⟩ := by
    have hlv : Live S b := live_of hMi rfl hβi rfl
    refine step_set tt.ok i S.M (.pointer (some ⟨b, 0, none⟩)) (.mix T (l.set q (.arr s.M.length))) S.w rfl (fun _ _ h => .inl h) (List.getElem?_eq_some_iff.1 hMi).1 (.inr (.inl hβi)) (by simp) ?_ (fun c hc j k h hne h1 h2 h3 h4 => ?_) (fun c hc => by cases hc; exact .inr hlv) (fun c hc => by cases hc; exact (tt.ok.lt b hlv).1) (fun _ => False) (fun _ h => h.elim) (fun _ _ _ _ => rfl) rfl rfl rfl (Nat.le_refl _)
    · refine ⟨b, vs, rfl, hb, by rw [List.length_set]; exact hl, fun j d v h1 h2 => ?_⟩
      have up : ∀ {d : D} {v : Value}, Rep S d v → Rep ⟨S.β.set i (.pointer (some ⟨b, 0, none⟩)), S.I, S.M.set i (.mix T (l.set q (.arr s.M.length))), S.w⟩ d v := fun h =>
        Rep.monoK (s := S) (s' := ⟨S.β.set i (.pointer (some ⟨b, 0, none⟩)), S.I, S.M.set i (.mix T (l.set q (.arr s.M.length))), S.w⟩) (by show hkeep S.β (S.β.set i _); rw [hβe]; exact hkeep.refl _) (fun _ h => h) (fun _ _ => rfl) h
      by_cases e : q = j
      · subst e
        rw [List.getElem?_set_self (List.getElem?_eq_some_iff.1 hq).1] at h1
        obtain rfl := Option.some.inj h1
        have hv := (hr q _ v hq h2).val_eq
        subst hv
        exact .arr (by show (S.β.set i _)[_]? = _; rw [hβe]; exact hβn)
      · rw [List.getElem?_set_ne e] at h1
        exact up (hr j d v h1 h2)
    · cases hc
      exact hne (tt.ok.inj j i k _ h _ b h1 h2 h3 h4 hMi rfl hβi rfl)
  have ttt := tt.trans t3
  refine ⟨h0, ⟨S.β.set i (.pointer (some ⟨b, 0, none⟩)), S.I, S.M.set i (.mix T (l.set q (.arr s.M.length))), S.w⟩, by simp only [hSM], hSw, h3.trans ttt, fun x d hd => (h4 x d hd).mono h3.ok ttt, h5, h6.mono h3.ok ttt⟩
theorem dwp_adoptc {c : Code} {F : Fr} {M M' : List Blk} {K : Cont} {T : TypeId} {l l' : List D} (i q : Nat) (e : TypeId) (sz : Nat) {m : Nat} (hi : M[i]? = some (.mix T l)) (hq : l[q]? = some (.val (.slice none 0 0))) (hm : M.length = m) (hl : l.set q (.arr m) = l') (hM : (M ++ [Blk.arx e sz 0 []]).set i (.mix T l') = M') (h : dwp P s0 n c F M' K) : dwp P s0 n c F M K := by
  subst hm hl hM
  exact fun a w hv => h a w (inv_adoptc e sz hv hi hq)
end
/-- what is known of a result's value, told otherwise -/
theorem DFun.wk {P : Program} {f : FuncId} {args : List D} {d d' : D} {Min Mout : List Blk} (h : DFun P f args Min d Mout) (hd : ∀ s v, Rep s d v → Rep s d' v) : DFun P f args Min d' Mout := by
  refine ⟨h.1, fun s vs hok hM hr => (h.2 s vs hok hM hr).mono ?_⟩
  rintro e w' ⟨s', rfl, ht, hor⟩
  rcases hor with ⟨d0, v, rfl, hrep, rfl, hMo⟩ | ⟨d0, v, _, _, hf⟩
  · exact ⟨s', rfl, ht, .inl ⟨d', v, rfl, hd s' v hrep, rfl, hMo⟩⟩
  · exact hf.elim
end Go.Proofs.Ytcbfnbfhlofkiaa
namespace Go.Proofs.Ytcbfnbfhlofkiaa
set_option linter.unusedVariables false
set_option linter.unusedSimpArgs false
open Go.RowKit
/-- what reads as d reads as d', too -/
def Wk (d d' : D) : Prop := ∀ s v, Rep s d v → Rep s d' v
def WkL (l l' : List D) : Prop := l.length = l'.length ∧ ∀ (j : Nat) d d', l[j]? = some d → l'[j]? = some d' → Wk d d'
theorem Wk.refl (d : D) : Wk d d := fun _ _ h => h
theorem Wk.of_eq {d d' : D} (h : d = d') : Wk d d' := h ▸ Wk.refl d
theorem WkL.nil : WkL [] [] := ⟨rfl, fun j d d' h => by simp at h⟩
theorem WkL.cons {d d' : D} {l l' : List D} (h : Wk d d') (hl : WkL l l') : WkL (d :: l) (d' :: l') := by
  refine ⟨by simp [hl.1], fun j e e' h1 h2 => ?_⟩
  cases j with
  | zero => simp at h1 h2; subst h1 h2; exact h
  | succ j => exact hl.2 j e e' (by simpa using h1) (by simpa using h2)
theorem WkL.refl (l : List D) : WkL l l := ⟨rfl, fun j d d' h1 h2 => by rw [h1] at h2; cases h2; exact Wk.refl d⟩
theorem WkL.rep {s : St} {l l' : List D} {vs : List Value} (h : WkL l l') (hr : ∀ (j : Nat) d v, l[j]? = some d → vs[j]? = some v → Rep s d v) : ∀ (j : Nat) d v, l'[j]? = some d → vs[j]? = some v → Rep s d v := fun j d v h1 h2 => by
  have hj : j < l.length := by rw [h.1]; exact (List.getElem?_eq_some_iff.1 h1).1
  exact h.2 j l[j] d (List.getElem?_eq_getElem hj) h1 s v (hr j _ v (List.getElem?_eq_getElem hj) h2)
theorem Wk.tup {l l' : List D} (h : WkL l l') : Wk (.tup l) (.tup l') := fun s v hr => by
  cases hr with
  | tup hl hr => exact .tup (hl.trans h.1) (h.rep hr)
theorem Wk.agg {l l' : List D} (h : WkL l l') : Wk (.agg l) (.agg l') := fun s v hr => by
  cases hr with
  | agg hl hr => exact .agg (hl.trans h.1) (h.rep hr)
theorem Wk.trans {d d' d'' : D} (h : Wk d d') (k : Wk d' d'') : Wk d d'' := fun s v hr => k s v (h s v hr)
/-- .. of what an operation hands back -/
theorem DOp.wk {P : Program} {pc : Bool} {o : Oper} {F : Fr} {M : List Blk} {fp : List Nat} {d d' : D} {wr : List (Nat × Blk)} (h : DOp P pc o F M fp d wr) (hw : Wk d d') : DOp P pc o F M fp d' wr := by
  intro hp a s hok hops hfp
  exact (h hp a s hok hops hfp).map fun s' v ho' ⟨e1, e2⟩ => ⟨s', rfl, Tr.refl ho', e1, hw s' v e2⟩
section
variable {P : Program} {s0 : St} {n : Cx}
end
section
variable {P : Program} {pc : Bool} {o : Oper} {F : Fr} {M : List Blk} {T : TypeId} {x : Operand}
end
end Go.Proofs.Ytcbfnbfhlofkiaa
namespace Go.Proofs.Ytcbfnbfhlofkiaa
set_option linter.unusedVariables false
set_option linter.unusedSimpArgs false
open Go.RowKit
section
variable {P : Program} {pc : Bool} {o : Oper} {F : Fr} {M : List Blk} {T : TypeId} {x y : Operand} {k : IntKind} {z : Int} {n : Nat}
end
/-- behind a guard that is known to hold -/
theorem walk_k {P : Program} {s0 : St} {n : Cx} {ops : Array Oper} {o : Oper} {rest : List Oper} {F : Fr} {M M' : List Blk} {K : Cont} {fp : List Nat} {d : D} {t : Nat} {wr : List (Nat × Blk)} (hg : Gd ops o F true) (hng : o.guard.isSome = true) (hd : o.dst = some t) (ht : Nat.blt t n.n = true) (h : DOp P true o F M fp d wr) (hM : upd M wr = M')
    (hk : Walk P s0 n ops rest ((t, .opt true d) :: F) M' K) (hnd : noDef o.op = true := by rfl) : Walk P s0 n ops (o :: rest) F M K := by
  subst hM
  have hb : dstB n.n o.dst = true := by rw [hd]; exact ht
  have hk : Walk P s0 n ops rest (putF o.dst (.opt true d) F) (upd M wr) K := by rw [hd]; exact hk
  intro a w hi
  obtain ⟨h0, s, h1, h2, h3, h4, h5, h6⟩ := hi
  subst h1 h2
  show if Region.wanted o (yielded ops a.tmps) then _ else _
  rw [gd_wanted hg (fun t d _ hd => h4 t d hd)]
  rw [if_pos rfl]
  refine dgives_in hnd (h rfl a s h3.ok (fun x _ d hd => ev_rep h4 hd) (fun _ _ => rfl)) fun s' v ht ⟨e1, e2⟩ => ?_
  exact hk _ _ ⟨h0, s', e1, rfl, h3.trans ht, (h4.mono h3.ok ht).putF h5 hb (.opt (fun _ => e2) (fun h => by cases h)), by rw [put_size]; exact h5, by rw [put_def]; exact h6.mono h3.ok ht⟩
end Go.Proofs.Ytcbfnbfhlofkiaa
namespace Go.Proofs.Ytcbfnbfhlofkiaa
set_option linter.unusedVariables false
set_option linter.unusedSimpArgs false
open Go.RowKit
theorem DGives.of_tr {P : Program} {s s1 : St} {post : St → Value → Prop} {r : Result Next} (t : Tr s s1) (hw : s1.w = s.w) (h : DGives P s1 post r) : DGives P s post r := by
  have key : ∀ {w' : World} {v : Value}, (∃ s', s'.w = w' ∧ Tr s1 s' ∧ post s' v) → ∃ s', s'.w = w' ∧ Tr s s' ∧ post s' v := by
    rintro w' v ⟨s', rfl, a2, a3⟩
    exact ⟨s', rfl, t.trans a2, a3⟩
  cases r with
  | halt x w => exact h.elim
  | ok x w =>
    cases x with
    | value v => exact key h
    | skip => exact key h
    | enter f args =>
      obtain ⟨h1, h2⟩ := h
      refine ⟨h1.trans hw, ?_⟩
      rw [← hw]
      refine h2.mono ?_
      rintro e w'' ⟨s', v, e1, e2, e3, e4⟩
      exact ⟨s', v, e1, e2, t.trans e3, e4⟩
    | round l f tmps asg body =>
      obtain ⟨h1, h2⟩ := h
      refine ⟨h1.trans hw, ?_⟩
      rw [← hw]
      refine RoundIn.mono h2 ?_
      rintro e w'' ⟨s', v, e1, e2, e3, e4⟩
      exact ⟨s', v, e1, e2, t.trans e3, e4⟩
    | _ => exact h.elim
section
variable {P : Program} {pc : Bool} {o : Oper} {F : Fr} {M : List Blk}
/-- a row of a family, appended to: the row that comes is a new member -/
theorem op_appF {T e : TypeId} {sz by' n m f j1 j2 k t t2 : Nat} {Bs : List Mem} {L L2 Z : List Value} (ho : o.op = .call { callee := .builtin .append, args := #[.tmp t, .tmp t2], argTypes := #[T, T] }) (ht : (t == t2) = false) (hT : slE P T = some (e, sz, by')) (hZ : zrC P e = some Z) (hZl : Z.length = sz)
    (hx : Ev pc F (.tmp t) (.farr f k)) (hy : Ev pc F (.tmp t2) (.slf sz m L2)) (hM : M[f]? = some (.fam Bs)) (hB : Bs[k]? = some (.arr e sz n L)) (hj1 : M[j1]? = some .hole) (hj2 : M[j2]? = some .hole) (hne : (j1 == j2) = false) (h1 : pc = true → L2.all (·.oneCell') = true) (hbd : pc = true → (n + m) * by' ≤ 140737488355328 ∧ n + m ≤ 140737488355328) :
    DOp P pc o F M [f, j1, j2] (.farr f Bs.length) [(f, .fam (Bs.set k .gone ++ [.arr e sz (n + m) (L ++ L2)])), (j1, .gone), (j2, .gone)] := by
  intro hp a s hok hops hfp
  have ht : t ≠ t2 := by simpa using ht
  have hne : j1 ≠ j2 := by simpa using hne
  have hmem : o.op.operands = #[.tmp t, .tmp t2] := by rw [ho]; rfl
  have rx := ev_at hp hx (by rw [hmem]; simp) hops
  have ry := ev_at hp hy (by rw [hmem]; simp) hops
  have hM' : s.M[f]? = some (.fam Bs) := by rw [hfp f (by simp)]; exact hM
  have g1 : s.M[j1]? = some .hole := by rw [hfp j1 (by simp)]; exact hj1
  have g2 : s.M[j2]? = some .hole := by rw [hfp j2 (by simp)]; exact hj2
  have hf1 : f ≠ j1 := fun e => by subst e; rw [hM'] at g1; cases g1
  have hf2 : f ≠ j2 := fun e => by subst e; rw [hM'] at g2; cases g2
  have hfl := (List.getElem?_eq_some_iff.1 hM').1
  have hl1 := (List.getElem?_eq_some_iff.1 g1).1
  have hl2 := (List.getElem?_eq_some_iff.1 g2).1
  generalize hvx : a.eval (.tmp t) = vx at rx
  cases rx with
  | @farr _ _ ad n' c hs q1 q2 =>
    have tt := tr_rel (B := .arr e sz n L) hok hM' g1 hB rfl q1 q2
    obtain ⟨s1, e1⟩ : ∃ s1 : St, s1 = ⟨s.β.set j1 (.slice ad n' c), s.I, (s.M.set f (.fam (Bs.set k .gone))).set j1 (.arr e sz n L), s.w⟩ := ⟨_, rfl⟩
    have tt : Tr s s1 := by rw [e1]; exact tt
    have hM1 : s1.M = (s.M.set f (.fam (Bs.set k .gone))).set j1 (.arr e sz n L) := by rw [e1]
    have hw1 : s1.w = s.w := by rw [e1]
    have hβ1 : s1.β[j1]? = some (.slice ad n' c) := by rw [e1]; show (s.β.set j1 _)[j1]? = _; rw [List.getElem?_set_self (by rw [hok.len]; exact hl1)]
    have m1 : s1.M[j1]? = some (.arr e sz n L) := by rw [hM1, List.getElem?_set_self (by simpa using hl1)]
    have m2 : s1.M[j2]? = some .hole := by rw [hM1, List.getElem?_set_ne hne, List.getElem?_set_ne hf2]; exact g2
    have m3 : s1.M[f]? = some (.fam (Bs.set k .gone)) := by rw [hM1, List.getElem?_set_ne (Ne.symm hf1), List.getElem?_set_self hfl]
    have ra : Rep s1 (.arr j1) (a.eval (.tmp t)) := by rw [hvx]; exact .arr hβ1
    have hl : ∀ x ∈ o.op.operands, ∀ d, ev [(t, D.arr j1), (t2, .slf sz m L2)] x = some d → Rep s1 d (a.eval x) := by
      intro x hx' d hd
      rw [hmem] at hx'
      simp at hx'
      rcases hx' with rfl | rfl
      · simp only [ev, lk, Nat.beq_refl, cond_true] at hd
        cases hd
        exact ra
      · have hb : Nat.beq t t2 = false := by
          cases hbb : Nat.beq t t2
          · rfl
          · exact absurd (Nat.eq_of_beq_eq_true hbb) ht
        simp only [ev, lk, hb, Nat.beq_refl, cond_true, cond_false] at hd
        cases hd
        exact ry.mono hok tt
    have hb : Nat.beq t t2 = false := by
      cases hbb : Nat.beq t t2
      · rfl
      · exact absurd (Nat.eq_of_beq_eq_true hbb) ht
    have hD := op_app (P := P) (pc := true) (F := [(t, D.arr j1), (t2, .slf sz m L2)]) (M := s1.M) (i := j1) (j := j2) (d := .slf sz m L2) (fp := []) ho hT hZ hZl (ev1 (by simp only [ev, lk, Nat.beq_refl, cond_true])) (ev1 (by simp only [ev, lk, hb, Nat.beq_refl, cond_true, cond_false])) src_slf m1 m2 (fun _ => h1 hp) (fun _ => hbd hp) rfl a s1 tt.ok hl (fun _ _ => rfl)
    rw [hw1] at hD
    refine (DGives.of_tr tt hw1 hD).map fun s' v ho' ⟨u1, u2⟩ => ?_
    have hs'M : s'.M = (s1.M.set j1 .gone).set j2 (.arr e sz (n + m) (L ++ L2)) := u1
    have k2 : s'.M[j2]? = some (.arr e sz (n + m) (L ++ L2)) := by rw [hs'M, List.getElem?_set_self (by rw [List.length_set, hM1]; simpa using hl2)]
    have k3 : s'.M[f]? = some (.fam (Bs.set k .gone)) := by rw [hs'M, List.getElem?_set_ne (Ne.symm hf2), List.getElem?_set_ne (Ne.symm hf1)]; exact m3
    have hlen' := ho'.len
    have kf := (List.getElem?_eq_some_iff.1 k3).1
    have kj := (List.getElem?_eq_some_iff.1 k2).1
    obtain ⟨x, hx2⟩ : ∃ x, s'.β[f]? = some x := ⟨_, List.getElem?_eq_getElem (by omega)⟩
    obtain ⟨y, hy2⟩ : ∃ y, s'.β[j2]? = some y := ⟨_, List.getElem?_eq_getElem (by omega)⟩
    obtain ⟨hs2, rfl, hfo⟩ := ho'.blk f _ x k3 hx2
    have t3 := tr_abs (B := .arr e sz (n + m) (L ++ L2)) ho' k3 k2 rfl hx2 hy2
    refine ⟨⟨s'.β.set f (.tuple (hs2 ++ [y]).toArray), s'.I, (s'.M.set j2 .gone).set f (.fam (Bs.set k .gone ++ [.arr e sz (n + m) (L ++ L2)])), s'.w⟩, rfl, t3, ?_, ?_⟩
    · show (s'.M.set j2 .gone).set f _ = ((s.M.set f _).set j1 .gone).set j2 .gone
      rw [hs'M, hM1]
      apply List.ext_getElem?
      intro i
      simp only [List.getElem?_set, List.length_set]
      by_cases a1 : f = i
      · subst a1
        simp [hf1.symm, hf2.symm, hfl]
      · by_cases a2 : j1 = i
        · subst a2
          simp [a1, hne.symm, hl1]
        · by_cases a3 : j2 = i
          · subst a3
            simp [a1, a2, hl2]
          · simp [a1, a2, a3]
    · cases u2 with
      | @arr _ ad' n'' c' hβ =>
        rw [hy2] at hβ
        obtain rfl := Option.some.inj hβ
        refine .farr (hs := hs2 ++ [.slice ad' n'' c']) (by show (s'.β.set f _)[f]? = _; rw [List.getElem?_set_self (by omega)]) ?_
        have : hs2.length = Bs.length := by rw [hfo.len]; simp
        rw [List.getElem?_append_right (by omega), show Bs.length - hs2.length = 0 by omega]
        rfl
end
section
variable {P : Program} {s0 : St} {n : Cx}
/-- a row of one's own that a variable's cell names joins a family -/
theorem inv_absc {F : Fr} {M : List Blk} {a : Act} {w : World} {p q j f : Nat} {T e : TypeId} {l : List D} {sz m : Nat} {L : List Value} {Bs : List Mem} (h : Inv s0 n F M a w) (hM : M[p]? = some (.mix T l)) (hq : l[q]? = some (.arr j)) (hj : M[j]? = some (.arr e sz m L)) (hf : M[f]? = some (.fam Bs)) : Inv s0 n F (((M.set j .gone).set f (.fam (Bs ++ [.arr e sz m L]))).set p (.mix T (l.set q (.farr f Bs.length)))) a w := by
  obtain ⟨h0, s, rfl, rfl, h3, h4, h5, h6⟩ := h
  have hlen := h3.ok.len
  have hfl := (List.getElem?_eq_some_iff.1 hf).1
  have hjl := (List.getElem?_eq_some_iff.1 hj).1
  have hpl := (List.getElem?_eq_some_iff.1 hM).1
  have hpj : p ≠ j := fun e => by subst e; rw [hM] at hj; cases hj
  have hpf : p ≠ f := fun e => by subst e; rw [hM] at hf; cases hf
  obtain ⟨x, hx⟩ : ∃ x, s.β[f]? = some x := ⟨_, List.getElem?_eq_getElem (by omega)⟩
  obtain ⟨y, hy⟩ : ∃ y, s.β[j]? = some y := ⟨_, List.getElem?_eq_getElem (by omega)⟩
  obtain ⟨z, hz⟩ : ∃ z, s.β[p]? = some z := ⟨_, List.getElem?_eq_getElem (by omega)⟩
  obtain ⟨hs, rfl, hfo⟩ := h3.ok.blk f _ x hf hx
  have tt := tr_abs (B := .arr e sz m L) h3.ok hf hj rfl hx hy
  obtain ⟨s1, e1⟩ : ∃ s1 : St, s1 = ⟨s.β.set f (.tuple (hs ++ [y]).toArray), s.I, (s.M.set j .gone).set f (.fam (Bs ++ [.arr e sz m L])), s.w⟩ := ⟨_, rfl⟩
  have tt : Tr s s1 := by rw [e1]; exact tt
  have hM1 : s1.M = (s.M.set j .gone).set f (.fam (Bs ++ [.arr e sz m L])) := by rw [e1]
  have hw1 : s1.w = s.w := by rw [e1]
  have hp1 : s1.M[p]? = some (.mix T l) := by rw [hM1, List.getElem?_set_ne (Ne.symm hpf), List.getElem?_set_ne (Ne.symm hpj)]; exact hM
  have hz1 : s1.β[p]? = some z := by rw [e1]; show (s.β.set f _)[p]? = _; rw [List.getElem?_set_ne (Ne.symm hpf)]; exact hz
  have hpl1 : p < s1.M.length := (List.getElem?_eq_some_iff.1 hp1).1
  have hset : s1.β.set p z = s1.β := by
    have h1 : p < s1.β.length := by rw [tt.ok.len]; exact hpl1
    have h2 : s1.β[p] = z := by
      have := List.getElem?_eq_getElem h1
      rw [hz1] at this
      exact (Option.some.inj this).symm
    rw [← h2]
    exact List.set_getElem_self ..
  obtain ⟨b, vs, k1, k2, k3, k4⟩ := tt.ok.blk p _ z hp1 hz1
  have hql := (List.getElem?_eq_some_iff.1 hq).1
  have t2 : Tr s1 ⟨s1.β, s1.I, s1.M.set p (.mix T (l.set q (.farr f Bs.length))), s1.w⟩ := by
    have hst := step_set tt.ok p s1.M z (.mix T (l.set q (.farr f Bs.length))) s1.w rfl (fun i k h => .inl h) hpl1 (.inr (.inl hz1)) (by rw [k1]; simp) ?_ (fun b' hb' j' kj hj' hne h1 h2 h3' h4' => ?_) (fun b' hb' => .inr (live_of hp1 rfl hz1 hb')) (fun b' hb' => (tt.ok.lt b' (live_of hp1 rfl hz1 hb')).1) (fun _ => False) (fun _ h => h.elim) (fun b' hlt hne _ => rfl) rfl rfl rfl (Nat.le_refl _)
    · rw [hset] at hst
      exact hst
    · refine ⟨b, vs, k1, k2, by simp [k3], fun j' d v g1 g2 => ?_⟩
      rw [hset]
      have lift : ∀ {d v}, Rep s1 d v → Rep ⟨s1.β, s1.I, s1.M.set p (.mix T (l.set q (.farr f Bs.length))), s1.w⟩ d v := fun hr =>
        Rep.mono' (s := s1) (s' := ⟨s1.β, s1.I, s1.M.set p (.mix T (l.set q (.farr f Bs.length))), s1.w⟩) (fun _ _ h _ => h) (fun _ h => h) (fun _ _ => rfl) hr
      by_cases e : q = j'
      · subst e
        rw [List.getElem?_set_self hql] at g1
        cases g1
        refine lift ?_
        have hr := k4 q _ v hq g2
        have hy1 : s1.β[j]? = some y := by
          have hjf : f ≠ j := fun e => by subst e; rw [hf] at hj; cases hj
          rw [e1]; show (s.β.set f _)[j]? = _; rw [List.getElem?_set_ne hjf]; exact hy
        cases hr with
        | @arr _ ad n' c hβ =>
          rw [hy1] at hβ
          obtain rfl := Option.some.inj hβ
          refine .farr (hs := hs ++ [.slice ad n' c]) (by rw [e1]; show (s.β.set f _)[f]? = _; rw [List.getElem?_set_self (by omega)]) ?_
          rw [List.getElem?_append_right (by rw [hfo.len]; exact Nat.le_refl _), hfo.len, Nat.sub_self]
          rfl
      · rw [List.getElem?_set_ne e] at g1
        exact lift (k4 j' d v g1 g2)
    · exact hne (tt.ok.inj j' p kj _ hj' _ b' h1 h2 h3' h4' hp1 rfl hz1 hb')
  refine ⟨h0, ⟨s1.β, s1.I, s1.M.set p (.mix T (l.set q (.farr f Bs.length))), s1.w⟩, by rw [hM1], hw1, (h3.trans tt).trans t2, fun x d hd => ((h4 x d hd).mono h3.ok tt).mono tt.ok t2, h5, (h6.mono h3.ok tt).mono tt.ok t2⟩
theorem dwp_absc {c : Code} {F : Fr} {M M' : List Blk} {K : Cont} (p q f : Nat) {j : Nat} {T e : TypeId} {l : List D} {sz m : Nat} {L : List Value} {Bs : List Mem} (hM : M[p]? = some (.mix T l)) (hq : l[q]? = some (.arr j)) (hj : M[j]? = some (.arr e sz m L)) (hf : M[f]? = some (.fam Bs)) (hM' : ((M.set j .gone).set f (.fam (Bs ++ [.arr e sz m L]))).set p (.mix T (l.set q (.farr f Bs.length))) = M') (h : dwp P s0 n c F M' K) : dwp P s0 n c F M K := by
  subst hM'
  exact fun a w hh => h a w (inv_absc hh hM hq hj hf)
end
section
variable {P : Program} {pc : Bool} {o : Oper} {F : Fr} {M : List Blk} {T : TypeId} {x y : Operand} {k : IntKind} {z : Int} {n sz : Nat}
end
end Go.Proofs.Ytcbfnbfhlofkiaa
namespace Go.Proofs.Ytcbfnbfhlofkiaa
set_option linter.unusedVariables false
set_option linter.unusedSimpArgs false
open Go.RowKit
section
variable {P : Program} {s0 : St} {n : Cx}
/-- a contract: what comes back is one of several things, told by what stays already -/
def DCallsI (P : Program) (f : FuncId) (args : List D) (Min : List Blk) (post : (Nat → Prop) → D → List Blk → Prop) : Prop :=
  callB P f = true ∧ ∀ (s : St) (vs : List Value), Ok s → s.M = Min → Reps s args vs → Calls P f vs.toArray s.w fun e w' =>
    ∃ s', s'.w = w' ∧ Tr s s' ∧ ∃ d v, e = .returned v ∧ Rep s' d v ∧ post s.I d s'.M
def DFunI (P : Program) (f : FuncId) (args : List D) (Min : List Blk) (post : (Nat → Prop) → D → Prop) (Mout : List Blk) : Prop :=
  DCallsI P f args Min fun I d M => post I d ∧ M = Mout
theorem dcallsI_go {f : FuncId} {fn : Func} {c : Code} {args : List D} {F0 : Fr} {Min : List Blk} {post : (Nat → Prop) → D → List Blk → Prop} {N : Nat} (m : Nat) (hcb : callB P f = true) (hf : P.funcs[f]? = some fn) (hc : fn.body = some c) (hn : fn.ntmps = N) (hle : Nat.ble args.length N = true) (hF : fr0 0 args = F0) (hm : Min.length = m)
    (h : ∀ s0 : St, s0.M.length ≤ m → dwp P s0 ⟨N, none, m, [], true⟩ c F0 Min (Kret P fn m [] (post s0.I) fun _ _ => False)) : DCallsI P f args Min post := by
  subst hF hm
  refine ⟨hcb, ?_⟩
  intro s vs ho hM hr
  obtain ⟨hl, hr⟩ := hr
  have hle := Nat.le_of_ble_eq_true hle
  have hslot : ∀ t d, lk (fr0 0 args) t = some d → Rep s d (slot { tmps := vs.toArray ++ Array.replicate (fn.ntmps - vs.toArray.size) undef, defers := [] } t) := by
    intro t d hd
    obtain ⟨_, h2⟩ := fr0_lk args 0 t d hd
    simp only [Nat.sub_zero] at h2
    have hlt : t < args.length := (List.getElem?_eq_some_iff.1 h2).1
    have hv : vs[t]? = some vs[t] := List.getElem?_eq_getElem (by omega)
    have : slot { tmps := vs.toArray ++ Array.replicate (fn.ntmps - vs.toArray.size) undef, defers := [] } t = vs[t] := by
      unfold slot
      simp only [Array.getD_eq_getD_getElem?]
      rw [Array.getElem?_append_left (by simp; omega)]
      simp [show t < vs.length by omega]
    rw [this]
    exact hr t d _ h2 hv
  have hs : s.M.length ≤ Min.length := by rw [hM]; exact Nat.le_refl _
  have hb : dbody P s ⟨N, none, Min.length, [], true⟩ fn Min.length (post s.I) (fun _ _ => False) c (fr0 0 args) Min := dbody_end rfl hs (h s hs)
  have hcalls := callsIn_wide.1 (callsIn_of_wp_marks (F := Fence.wide) (n := 0) hf hc trivial (hb _ _ ⟨ho, s, hM, rfl, Tr.refl ho, hslot, by simp; omega, .nil⟩))
  refine Calls.mono hcalls ?_
  rintro e w' ⟨s', h1, h2, (⟨d, v, h3, h4, h5⟩ | ⟨_, _, _, _, h5⟩)⟩
  · exact ⟨s', h1, h2, d, v, h3, h4, h5⟩
  · exact h5.elim
theorem DFunI.fun {f : FuncId} {args : List D} {Min Mout : List Blk} {post : (Nat → Prop) → D → Prop} {d0 : D} (h : DFunI P f args Min post Mout) (hd : ∀ I d, post I d → Wk d d0) : DFun P f args Min d0 Mout := by
  refine ⟨h.1, fun s vs ho hM hr => Calls.mono (h.2 s vs ho hM hr) ?_⟩
  rintro e w' ⟨s', h1, h2, d, v, h3, h4, h5, h6⟩
  exact ⟨s', h1, h2, .inl ⟨d0, v, h3, hd _ _ h5 s' v h4, rfl, h6⟩⟩
theorem DFunI.of {f : FuncId} {args : List D} {Min Mout : List Blk} {post post' : (Nat → Prop) → D → Prop} (h : DFunI P f args Min post Mout) (hd : ∀ I d, post I d → post' I d) : DFunI P f args Min post' Mout := by
  refine ⟨h.1, fun s vs ho hM hr => Calls.mono (h.2 s vs ho hM hr) ?_⟩
  rintro e w' ⟨s', h1, h2, d, v, h3, h4, h5, h6⟩
  exact ⟨s', h1, h2, d, v, h3, h4, hd _ _ h5, h6⟩
theorem kendI {fn : Func} {F : Fr} {M Mo : List Blk} {d d' : D} {m : Nat} {post : (Nat → Prop) → D → Prop} {I : Nat → Prop} {pan : D → List Blk → Prop} (σ : List Nat) (hr : ResD P fn F M d) (hσ : okσ m σ = true) (hv : vw σ allv M d = some d') (h : post I d') (hM : MFits σ allv M σ Mo) : DEnd P fn m ((fun I d M => post I d ∧ M = Mo) I) pan [] none F M := .ret hr hσ hv hM ⟨h, rfl⟩
end
section
variable {P : Program} {pc : Bool} {o : Oper} {F : Fr} {M : List Blk}
end
/-- a block of one's own is given up: it stays from now on -/
theorem tr_giveO {s : St} (ho : Ok s) {j : Nat} {k : Blk} {h : Value} (hM : s.M[j]? = some k) (hl : k.live = true) (hh : s.β[j]? = some h) : Tr s ⟨s.β, fun b => s.I b ∨ owns k h b, s.M.set j .gone, s.w⟩ := by
  have hnd : ∀ (i : Nat) h, s.β[i]? = some h → h ≠ .nilFunc → s.β[i]? = some h := fun _ _ h _ => h
  have old : ∀ (i : Nat) k', (s.M.set j .gone)[i]? = some k' → k'.live = true → i ≠ j ∧ s.M[i]? = some k' := by
    intro i k' h1 h2
    by_cases e : i = j
    · subst e
      rw [List.getElem?_set_self (by have := (List.getElem?_eq_some_iff.1 hM).1; exact this)] at h1
      cases h1; cases h2
    · rw [List.getElem?_set_ne (Ne.symm e)] at h1
      exact ⟨e, h1⟩
  have ne : ∀ (i : Nat) k' h' b, i ≠ j → s.M[i]? = some k' → k'.live = true → s.β[i]? = some h' → owns k' h' b → ¬ owns k h b := by
    intro i k' h' b e h1 h2 h3 h4 e2
    exact e (ho.inj i j k' k h' h b h1 h2 h3 h4 hM hl hh e2)
  have lv : ∀ b, Live ⟨s.β, fun b => s.I b ∨ owns k h b, s.M.set j .gone, s.w⟩ b → Live s b ∧ ¬ owns k h b := by
    rintro b ⟨i, k', h', h1, h2, h3, h4⟩
    obtain ⟨e, a⟩ := old i k' h1 h2
    exact ⟨live_of a h2 h3 h4, ne i k' h' b e a h2 h3 h4⟩
  refine ⟨⟨by simp [ho.len], fun i k' h' h1 h2 => ?_, fun b hb => ?_, ?_, fun b hI => ?_⟩, hkeep_of hnd, fun _ h => .inl h, fun b h => ?_, fun b hb hn => rfl, fun b h => .inr (lv b h).1, rfl, rfl, rfl, Nat.le_refl _⟩
  · cases hk : k'.live with
    | false =>
      cases k' with
      | gone => trivial
      | hole =>
        by_cases e : i = j
        · subst e
          rw [List.getElem?_set_self (by have := (List.getElem?_eq_some_iff.1 hM).1; exact this)] at h1
          cases h1
        · rw [List.getElem?_set_ne (Ne.symm e)] at h1
          exact ho.blk i _ h' h1 h2
      | _ => cases hk
    | true =>
      obtain ⟨e, a⟩ := old i k' h1 hk
      exact BlkOk.mono (s := s) (s' := ⟨s.β, fun b => s.I b ∨ owns k h b, s.M.set j .gone, s.w⟩) hnd (fun _ h => .inl h) (fun _ _ => rfl) (ho.blk i k' h' a h2) fun b hl' hb' => rfl
  · obtain ⟨h1, h2⟩ := lv b hb
    exact ⟨(ho.lt b h1).1, fun hI => hI.elim (ho.lt b h1).2 h2⟩
  · intro i i2 k1 k2 x x2 b a1 a2 a3 a4 c1 c2 c3 c4
    obtain ⟨_, a1⟩ := old i k1 a1 a2
    obtain ⟨_, c1⟩ := old i2 k2 c1 c2
    exact ho.inj i i2 k1 k2 x x2 b a1 a2 a3 a4 c1 c2 c3 c4
  · rcases hI with hI | hI
    · exact ho.il b hI
    · exact (ho.lt b (live_of hM hl hh hI)).1
  · rcases h with h | h
    · exact .inl h
    · exact .inr (.inr (live_of hM hl hh h))
section
variable {P : Program} {s0 : St} {n : Cx}
theorem Tr.live_new {s s' : St} (ho : Ok s) (t : Tr s s') {b : Nat} (h : Live s' b) : ¬ s.I b := fun hI => (t.lv b h).elim (fun e => absurd (ho.il b hI) (Nat.not_lt.2 e)) fun e => (ho.lt b e).2 hI
theorem inv_pin {F : Fr} {M : List Blk} {a : Act} {w : World} {t j : Nat} {T : TypeId} {L : List Value} (h : Inv s0 n F M a w) (ht : lk F t = some (.loc j 0)) (hj : M[j]? = some (.flat T L)) : ∃ b, ¬ s0.I b ∧ Inv s0 n ((t, .pin b L) :: F) (M.set j .gone) a w := by
  obtain ⟨h0, s, rfl, rfl, h3, h4, h5, h6⟩ := h
  have hjl := (List.getElem?_eq_some_iff.1 hj).1
  obtain ⟨y, hy⟩ : ∃ y, s.β[j]? = some y := ⟨_, List.getElem?_eq_getElem (by rw [h3.ok.len]; exact hjl)⟩
  obtain ⟨b, rfl, hc⟩ := h3.ok.blk j _ y hj hy
  have tt := tr_giveO h3.ok hj rfl hy
  have hlv : Live s b := live_of hj rfl hy rfl
  refine ⟨b, h3.live_new h0 hlv, h0, ⟨s.β, fun c => s.I c ∨ owns (.flat T L) (.pointer (some ⟨b, 0, none⟩)) c, s.M.set j .gone, s.w⟩, rfl, rfl, h3.trans tt, fun z d hd => ?_, h5, h6.mono h3.ok tt⟩
  rw [lk_cons] at hd
  split at hd
  · rename_i e'
    subst e'
    obtain rfl := Option.some.inj hd
    have hr := h4 t _ ht
    generalize hv : slot a t = v at hr
    cases hr with
    | @loc _ _ b' hβ =>
      rw [hy] at hβ
      cases hβ
      exact .pin (.inr rfl) (by simpa using cellsAt_block hc 0) hc
  · exact (h4 z d hd).mono h3.ok tt
theorem dwp_pin {c : Code} {F : Fr} {M M' : List Blk} {K : Cont} (t : Nat) {j : Nat} {T : TypeId} {L : List Value} (ht : lk F t = some (.loc j 0)) (hj : M[j]? = some (.flat T L)) (hM' : M.set j .gone = M') (h : ∀ b, ¬ s0.I b → dwp P s0 n c ((t, .pin b L) :: F) M' K) : dwp P s0 n c F M K := by
  subst hM'
  intro a w hi
  obtain ⟨b, hb, hi'⟩ := inv_pin hi ht hj
  exact h b hb a w hi'
end
section
variable {P : Program} {pc : Bool} {o : Oper} {F : Fr} {M : List Blk}
/-- a row of data that names no block -/
theorem arxn_fits {σ : List Nat} {V : Nat → Bool} {M : List Blk} {T : TypeId} {sz n n' : Nat} {l l' : List D} (hnl : D.nlL l = true) (hn : n = n') (hl : l = l') : (vwL σ V M l).map (Blk.arx T sz n) = some (Blk.arx T sz n' l') := by
  subst hn hl
  rw [vwL_nl σ V M l hnl]; rfl
theorem Wk.pin (b : Nat) (L : List Value) : Wk (.pin b L) (.dpf L) := fun s v hr => by cases hr with | pin hI h ho => exact .dpf hI h
theorem Wk.dpm {l l' : List D} (hw : WkL l l') (hn : D.nlL l' = true) : Wk (.dpm l) (.dpm l') := fun s v hr => by
  cases hr with
  | dpm hnl hI hc hl h => exact .dpm hn hI hc (by rw [← hw.1]; exact hl) (hw.rep h)
theorem Wk.slm {sz n : Nat} {l l' : List D} (hw : WkL l l') (hn : D.nlL l' = true) : Wk (.slm sz n l) (.slm sz n l') := fun s v hr => by
  cases hr with
  | slm hnl hl hn' hc ha hv h hm => exact .slm hn (by rw [← hw.1]; exact hl) hn' hc ha (by rw [← hw.1]; exact hv) (hw.rep h) (hm.imp (fun e => by subst e; exact List.eq_nil_of_length_eq_zero hw.1.symm) id)
end
end Go.Proofs.Ytcbfnbfhlofkiaa
namespace Go.Proofs.Ytcbfnbfhlofkiaa
set_option linter.unusedVariables false
set_option linter.unusedSimpArgs false
open Go.RowKit
theorem reb_arr {e : TypeId} {sz : Nat} : ∀ s h, BlkOk s h (.arx e sz 0 []) → BlkOk s h (.arr e sz 0 []) := fun s h hk => by
  obtain ⟨vs, h1, h2, _⟩ := hk
  obtain rfl : vs = [] := List.eq_nil_of_length_eq_zero (by simpa using h2)
  exact h1
section
variable {P : Program} {s0 : St} {n : Cx}
end
/-- all that a call knew is forgotten -/
theorem tr_dead {s : St} (h : Ok s) : Tr s ⟨s.β, s.I, s.M.map fun _ => Blk.gone, s.w⟩ := by
  have hg : ∀ (i : Nat) k, (s.M.map fun _ => Blk.gone)[i]? = some k → k = .gone := fun i k hk => by
    rw [List.getElem?_map] at hk
    cases hm : s.M[i]? with
    | none => rw [hm] at hk; cases hk
    | some x => rw [hm] at hk; exact (Option.some.inj hk).symm
  have nl : ∀ b, ¬ Live ⟨s.β, s.I, s.M.map fun _ => Blk.gone, s.w⟩ b := by
    rintro b ⟨i, k, hd, h1, h2, h3, h4⟩
    rw [hg i k h1] at h2
    cases h2
  refine ⟨⟨by simp [h.len], fun i k hd h1 h2 => ?_, fun b hb => (nl b hb).elim, fun i j k k' hd hd' b a1 a2 _ _ _ _ _ _ => ?_, h.il⟩, hkeep.refl _, fun _ h => h, fun _ h => .inl h, fun _ _ _ => rfl, fun b hb => (nl b hb).elim, rfl, rfl, rfl, Nat.le_refl _⟩
  · rw [hg i k h1]
    trivial
  · rw [hg i k a1] at a2
    cases a2
/-- it panics with this, whatever memory it leaves -/
abbrev DPanL (P : Program) (f : FuncId) (args : List D) (Min : List Blk) (d : D) : Prop :=
  DCalls P f args Min (fun _ _ => False) (fun d' M' => d' = d ∧ M'.length = Min.length)
theorem DPanL.dead {P : Program} {f : FuncId} {args : List D} {Min : List Blk} {d : D} (h : DPanL P f args Min d) : DPan P f args Min d (Min.map fun _ => Blk.gone) := by
  refine ⟨h.1, fun s vs hok hM hr => (h.2 s vs hok hM hr).mono ?_⟩
  rintro e w' ⟨s', rfl, ht, hor⟩
  rcases hor with ⟨d0, v, _, _, hf⟩ | ⟨d0, v, rfl, hrep, rfl, hMo⟩
  · exact hf.elim
  · refine ⟨⟨s'.β, s'.I, s'.M.map fun _ => Blk.gone, s'.w⟩, rfl, ht.trans (tr_dead ht.ok), .inr ⟨d0, v, rfl, Rep.mono' (s := s') (s' := ⟨s'.β, s'.I, s'.M.map fun _ => Blk.gone, s'.w⟩) (fun _ _ h _ => h) (fun _ h => h) (fun _ _ => rfl) hrep, rfl, ?_⟩⟩
    show (s'.M.map fun _ => Blk.gone) = Min.map fun _ => Blk.gone
    rw [List.map_const', List.map_const', hMo]
theorem kpanL {P : Program} {fn : Func} {F : Fr} {M : List Blk} {d d' dr : D} {m k : Nat} {Mo : List Blk} {post : D → List Blk → Prop} (σ : List Nat) (hσ : okσ m σ = true) (hv : vw σ allv M d = some d') (h : d' = dr) (hM : MFits σ allv M σ Mo) (hl : Mo.length = k) : DEnd P fn m post (fun d M => d = dr ∧ M.length = k) [] (some d) F M := .pan hσ hv hM ⟨h, hl⟩
end Go.Proofs.Ytcbfnbfhlofkiaa
namespace Go.Proofs.Ytcbfnbfhlofkiaa
set_option linter.unusedVariables false
set_option linter.unusedSimpArgs false
open Go.RowKit
section
variable {P : Program} {pc : Bool} {o : Oper} {F : Fr} {M : List Blk}
theorem flat_take' {α : Type} {en : α → List Value} {sz : Nat} (hen : ∀ a, (en a).length = sz) : ∀ (r : List α) (m : Nat), (r.take m).flatMap en = (r.flatMap en).take (m * sz)
  | r, 0 => by simp
  | [], m + 1 => by simp
  | x :: r, m + 1 => by
    have e : (en x).take (sz + m * sz) = en x := List.take_of_length_le (by rw [hen]; omega)
    rw [List.take_succ_cons, List.flatMap_cons, List.flatMap_cons, flat_take' hen r m, Nat.add_mul, Nat.one_mul, Nat.add_comm, List.take_append, e, hen, Nat.add_sub_cancel_left]
theorem op_sl3e {α : Type} {en : α → List Value} {r : List α} {T e : TypeId} {sz by' : Nat} {x lo hi mx : Operand} {k k' k'' : IntKind} {h h' h'' : Int} {i j : Nat} (ho : o.op = .slice T x (some lo) (some hi) (some mx)) (hT : slE P T = some (e, sz, by')) (hx : Ev pc F x (.slf sz r.length (r.flatMap en))) (hlo : Ev pc F lo (.val (.int k'' h''))) (hhi : Ev pc F hi (.val (.int k h))) (hmx : Ev pc F mx (.val (.int k' h')))
    (hl : pc = true → h'' = (i : Int)) (hh : pc = true → h = (j : Int)) (hm : pc = true → h' = (j : Int)) (hi : pc = true → i ≤ j ∧ j ≤ r.length) (hen : ∀ a, (en a).length = sz) : DOp P pc o F M [] (.slf sz ((r.drop i).take (j - i)).length (((r.drop i).take (j - i)).flatMap en)) [] := by
  intro hp a s hok hops _
  have hr := ev_at hp hx (by simp [ho, Op.operands]) hops
  have e0 := (ev_at hp hlo (by simp [ho, Op.operands]) hops).val_eq
  have e1 := (ev_at hp hhi (by simp [ho, Op.operands]) hops).val_eq
  have e2 := (ev_at hp hmx (by simp [ho, Op.operands]) hops).val_eq
  rw [hl hp] at e0
  rw [hh hp] at e1
  rw [hm hp] at e2
  obtain ⟨hij, hjr⟩ := hi hp
  obtain ⟨q1, ti, q2, q3, q4⟩ := slE_spec hT
  have hlen : ((r.drop i).take (j - i)).length = j - i := by rw [List.length_take, List.length_drop]; omega
  generalize hv : a.eval x = vx at hr
  cases hr with
  | @slf _ _ cap ad _ hl hn hc ha hL =>
    have hjc : j ≤ cap := by omega
    have hic : i ≤ cap := by omega
    have hrun : (execOp a.eval o).run P s.w = .ok (.value (.slice (if j - i = 0 then ad else ad.map (·.add (i * sz))) (j - i) (j - i))) s.w := by
      unfold execOp
      simp only [ho, hv, Option.map_some, e0, e1, e2]
      refine run_v ?_
      simp [Instr.sliceAt, Instr.slice, run_underlying q1, Sem.run_bind, Instr.sliceBounds, Instr.sliceBound, asIntOf, hjc, hij, hic, sizeOf, typeInfo, q2, q3]
      congr 1
      exact propext ⟨fun h => by omega, fun h => by omega⟩
    refine dg_val hok hrun ?_
    rw [hlen]
    refine .slf (by rw [flat_len hen, hlen]) (Nat.le_refl _) (by omega) (fun e => ?_) ?_
    · split at e
      · assumption
      · rw [Option.map_eq_none_iff] at e
        have := ha e; omega
    · rcases hL with hL | ⟨b, q, e, hI, hcl⟩
      · left
        rw [flat_take' hen, flat_drop' hen, hL]; simp
      · by_cases hz : j - i = 0
        · left
          rw [List.eq_nil_of_length_eq_zero (hlen.trans hz)]; rfl
        · right
          refine ⟨b, q + i * sz, by rw [if_neg hz, e, Option.map_some, Addr.add_mid], hI, ?_⟩
          rw [flat_take' hen, flat_drop' hen]
          exact cellsAt_sub hcl (i * sz) ((j - i) * sz)
end
end Go.Proofs.Ytcbfnbfhlofkiaa
namespace Go.Proofs.Ytcbfnbfhlofkiaa
set_option linter.unusedVariables false
set_option linter.unusedSimpArgs false
open Go.RowKit
section
variable {P : Program}
/-- one round that ends by a panic, out of its body's walk -/
theorem roundIn_of_wpInP {F : Fence} {k : Nat} {P : Program} {l : Nat} {f : FuncId} {fn : Func} {tmps : Array Value} {assign body : Code} {w : World} {R : Ending → World → Prop} (hF : F.fn f) (hf : P.funcs[f]? = some fn)
    (h : assign.wpIn (F.inRound l) k P (Exit.then (fun a₁ w₁ => ∃ w₂, (Instr.beginRound l).run P w₁ = .ok () w₂ ∧ body.wpIn (F.inRound l) k P (fun e a w => ∃ ch, e = .panic ch ∧ a.defers = [] ∧ R (.panicked ch) w) a₁ w₂) (fun _ _ _ => False))
      { tmps := tmps, defers := [] } w) :
    RoundIn F k P l f tmps assign body w R := by
  refine ⟨hF, fun c cs hr => ?_⟩
  let b : Frame := { (default : Frame) with fn := f, kind := .normal, roundOf := some l }
  have hb0 : Frame.round l f tmps assign body .normal = b.atR { tmps := tmps, defers := [] } [.code assign, .beginRound, .code body] := by
    simp [Frame.round, Frame.atR, b]
  have hr' : (F.inRound l).room ((c :: cs).length + 1 + k) := hr
  have hF' : (F.inRound l).fn b.fn := hF
  obtain ⟨e, a₁, w₁, hq, harr⟩ := h b [.beginRound, .code body] (c :: cs) rfl hF' hr'
  rw [← hb0] at harr
  cases e with
  | normal =>
    obtain ⟨w₂, hbr, hbody⟩ := hq
    have s1 : StepsIn (Machine.fenced P (F.inRound l)) P (lone (b.atR a₁ [.beginRound, .code body]) (c :: cs) w₁) (lone (b.atR a₁ [.code body]) (c :: cs) w₂) :=
      .one (fenced_calm (fr := b.atR a₁ [.beginRound, .code body]) hF' hr' rfl) (stepR_beginRound rfl hbr)
    obtain ⟨e₂, a₂, w₃, ⟨ch, rfl, hd, hR⟩, harr₂⟩ := hbody b [] (c :: cs) rfl hF' hr'
    obtain ⟨todo, hs⟩ := harr₂
    exact ⟨.panicked ch, w₃, hR, (StepsIn.trans harr s1).trans (StepsIn.trans hs (.one (fenced_calm hF' hr' (by simp [Frame.about, Frame.atR, hd])) (step_leave_panicked ⟨rfl, hd, fn, hf⟩)))⟩
  | exit id => exact hq.elim
  | goto t => exact hq.elim
  | ret => exact hq.elim
  | panic chain => exact hq.elim
  | outgrown => exact hq.elim
theorem nil_of_dfok {s0 s : St} {ds : List Deferred} (h : DfOk s0 s false [] ds) : ds = [] := by
  cases h with
  | nil => rfl
  | mark hmk => cases hmk
/-- a round that ends by a panic -/
def DRoundP (P : Program) (i : Nat) (args : List D) (Min : List Blk) (d : D) (Mout : List Blk) : Prop :=
  ∀ (s : St) (vs : List Value) (l : Nat), Ok s → s.M = Min → s.β[i]? = some (.pointer (some ⟨l, 0, none⟩)) → Reps s args vs →
    ∃ f tmps asg body, (Instr.yield l vs.toArray).run P s.w = .ok (.round l f tmps asg body) s.w ∧
      RoundIn Fence.wide 0 P l f tmps asg body s.w fun e w' => ∃ s' v, e = .panicked [{ v := v, recovered := false }] ∧ s'.w = w' ∧ Tr s s' ∧ s'.M = Mout ∧ Rep s' d v
/-- how a round's body must leave, then -/
def KrndP (m : Nat) (d : D) : Cont
  | .panic d0, _, M => ∃ σ Mo, okσ m σ = true ∧ vw σ allv M d0 = some d ∧ MFits σ allv M σ Mo ∧ Mo.length = m
  | _, _, _ => False
theorem dround_goP {d : D} {fk : FuncId} {gk : Func} {i N : Nat} {F F1 : Fr} {ps : Array Tmp} {asg body : Code} {args : List D} {Min : List Blk} (m : Nat) (hfn : P.funcs[fk]? = some gk) (hMi : Min[i]? = some (.lp (some fk) N F ps asg body .ready none)) (hps : ps.size = args.length) (hpN : ps.all (fun p => Nat.blt p N) = true) (hF : setF ps.toList args F = F1) (hm : Min.length = m)
    (h : ∀ s0 : St, s0.M.length ≤ m → dwp P s0 ⟨N, some i, m, [], false⟩ asg F1 Min (Kseq (fun F2 M2 => M2[i]? = some (.lp (some fk) N F ps asg body .ready none) ∧ dwp P s0 ⟨N, some i, m, [], false⟩ body F2 (M2.set i (.lp (some fk) N F ps asg body .busy none)) (KrndP m d)) (fun _ _ _ => False))) :
    DRoundP P i args Min d (Min.map fun _ => Blk.gone) := by
  subst hm hF
  intro s vs l hok hM hβ hr
  subst hM
  obtain ⟨l', fn, tmps, Df, e1, e2, e3, e4⟩ := hok.blk i _ _ hMi hβ
  cases e1
  replace e2 : s.w.heap[l]? = some (loopObj fk tmps Df ps asg body .ready none) := e2
  have hrun := run_yield (P := P) (args := vs.toArray) e2 (by simp [hr.1, hps])
  refine ⟨fk, _, asg, body, hrun, roundIn_of_wpInP trivial hfn ?_⟩
  have hρ : (Cx.mk N (some i) s.M.length [] false).ρ s = some l := by simp [Cx.ρ, hβ]
  have hs := h s (Nat.le_refl _)
  have hset := setF_ok (s := s) ps.toList args vs F { tmps, defers := [] } hr (by simpa using hps) (fun p hp => by
    have := Array.all_eq_true_iff_forall_mem.1 hpN p (by simpa using hp)
    rw [e3]; exact Nat.blt_eq.mp this) e4
  have hz : (ps.zip vs.toArray).foldl (fun t (p, v) => t.setIfInBounds p v) tmps = (ps.toList.zip vs).foldl (fun t (p, v) => t.setIfInBounds p v) tmps := by
    rw [← Array.foldl_toList]; simp
  rw [hz]
  have hinv : Inv s ⟨N, some i, s.M.length, [], false⟩ (setF ps.toList args F) s.M { tmps := (ps.toList.zip vs).foldl (fun t (p, v) => t.setIfInBounds p v) tmps, defers := [] } s.w :=
    ⟨hok, s, rfl, rfl, Tr.refl hok, hset.1, hset.2.trans e3, .nil⟩
  have h1 := hs _ _ hinv
  rw [hρ] at h1
  refine wpIn_mono h1 ?_
  intro e a w hp
  cases e with
  | normal =>
    obtain ⟨F2, M2, ⟨h0, s1, q1, q2, q3, q4, q5, q6⟩, hM2, hbody⟩ := hp
    subst q2
    have hβ1 := q3.hnd.1 i _ hβ (by simp) (by simp)
    have hM1 : s1.M[i]? = some (.lp (some fk) N F ps asg body .ready none) := by rw [q1]; exact hM2
    obtain ⟨l1, fn1, tmps1, Df1, g1, g2, g3, g4⟩ := q3.ok.blk i _ _ hM1 hβ1
    cases g1
    have ht := step_lp q3.ok .busy none hM1 hβ1 g2 g3 g4
    refine ⟨_, run_beginRound g2 rfl, ?_⟩
    have hb := hbody a _ ⟨h0, ⟨s1.β, s1.I, s1.M.set i (.lp (some fk) N F ps asg body .busy none), s1.w.putObj l (loopObj ((some fk).getD fn1) tmps1 Df1 ps asg body .busy none)⟩, by rw [q1], rfl, q3.trans ht, q4.mono q3.ok ht, q5, q6.mono q3.ok ht⟩
    rw [hρ] at hb
    refine wpIn_mono hb ?_
    intro e a w hp
    cases e with
    | normal => obtain ⟨_, _, _, hk⟩ := hp; exact hk.elim
    | ret => obtain ⟨_, _, _, hk⟩ := hp; exact hk.elim
    | exit id => obtain ⟨_, _, _, hk⟩ := hp; exact hk.elim
    | goto id => obtain ⟨_, _, _, hk⟩ := hp; exact hk.elim
    | panic ch =>
      obtain ⟨F3, M3, d3, ⟨h03, s3, v3, r0, r1, r2, r3, r4, r5, r6⟩, σ, Mo, hσ, hv, hMo, hlo⟩ := hp
      subst r0 r1
      obtain ⟨rfl, r7⟩ := r6
      have tv := tr_vst hok r2 (mfits σ Mo hMo) (Nat.le_refl _) hσ
      have hr := vw_rep (M' := Mo) r2.ok r7 d hv
      refine ⟨_, rfl, nil_of_dfok r5, ⟨(vst s3 σ allv Mo).β, (vst s3 σ allv Mo).I, (vst s3 σ allv Mo).M.map fun _ => Blk.gone, (vst s3 σ allv Mo).w⟩, v3, rfl, rfl, tv.trans (tr_dead tv.ok), ?_, Rep.mono' (s := vst s3 σ allv Mo) (s' := ⟨(vst s3 σ allv Mo).β, (vst s3 σ allv Mo).I, (vst s3 σ allv Mo).M.map fun _ => Blk.gone, (vst s3 σ allv Mo).w⟩) (fun _ _ h _ => h) (fun _ h => h) (fun _ _ => rfl) hr⟩
      show (Mo.map fun _ => Blk.gone) = s.M.map fun _ => Blk.gone
      rw [List.map_const', List.map_const', hlo]
    | outgrown => exact hp.elim
  | ret => obtain ⟨_, _, _, hk⟩ := hp; exact hk
  | exit id => obtain ⟨_, _, _, hk⟩ := hp; exact hk
  | goto id => obtain ⟨_, _, _, hk⟩ := hp; exact hk
  | panic ch => obtain ⟨_, _, _, _, hk⟩ := hp; exact hk
  | outgrown => exact hp
/-- a call of yield whose round ends by a panic -/
theorem op_yP {pc : Bool} {o : Oper} {F : Fr} {M Min Mout : List Blk} {x : Operand} {asx : List Operand} {tys : Array TypeId} {ds cargs : List D} {i j : Nat} {d0 d : D} {wr : List (Nat × Blk)} (σ V ν : List Nat)
    (ho : o.op = .call { callee := .value x, args := asx.toArray, argTypes := tys }) (hx : Ev pc F x (.yld j)) (hds : EvL pc F asx ds) (hij : σ[i]? = some j)
    (hc : vwL σ (fun i => V.contains i) M ds = some cargs) (hMin : vwMs σ (fun i => V.contains i) M σ = some Min) (hy : DRoundP P i cargs Min d0 Mout)
    (hlive : Min.all (·.live) = true) (hn : decide (σ ++ ν).Nodup = true) (hν : ν.all (fun i => match M[i]? with | some .hole => true | _ => false) = true)
    (hwr : wrOf (σ ++ ν) (σ ++ ν) Mout = some wr) (hd : sb (σ ++ ν) d0 = some d) (hfl : (V.isEmpty || (d0.fl && Mout.all (·.fl))) = true) : DOpP P pc o F M (σ ++ V ++ ν) d wr := by
  intro hp a s hok hops hfp
  have hVM : ∀ i, V.contains i = true → M[i]? = s.M[i]? := fun i hi => (hfp i (by simp at hi; simp [hi])).symm
  rw [vwL_congr hVM] at hc
  rw [vwMs_congr hVM σ (fun i hi => (hfp i (by simp [hi])).symm)] at hMin
  have hopx : x ∈ o.op.operands ∧ ∀ y ∈ asx, y ∈ o.op.operands := by rw [ho]; simp [Op.operands, Call.operands]; intro y hy; exact .inr hy
  obtain ⟨dx, ex1, ex2⟩ := hx
  have hrx := ex2 s _ hp (hops x hopx.1 dx ex1)
  generalize hvx : a.eval x = vx at hrx
  cases hrx with
  | @yld _ l hβ =>
    have hn' : (σ ++ ν).Nodup := of_decide_eq_true hn
    have hreps := evL_reps (a := a) (s := s) hp asx ds hds (fun y hy => hops y (hopx.2 y hy))
    have hreps' := reps_vw (Min := Min) hok hreps hc
    obtain ⟨f, tmps, asg, body, e1, e2⟩ := hy (vst s σ (fun i => V.contains i) Min) (asx.map a.eval) l (ok_vst hok hMin (List.nodup_append.1 hn').1) rfl (vst_hnd hij hβ) hreps'
    rw [run_callY ho hvx]
    have e1' : Sem.run P (Instr.yield l (asx.map a.eval).toArray) s.w = .ok (.round l f tmps asg body) s.w := e1
    rw [e1']
    refine ⟨rfl, RoundIn.mono e2 ?_⟩
    rintro e w'' ⟨s2, v, rfl, rfl, ht2, hM2, hrd⟩
    have hν' : ∀ i ∈ ν, s.M[i]? = some .hole := fun i hi => by
      have h1 := List.all_eq_true.1 hν i hi
      rw [hfp i (by simp [hi])]
      split at h1
      · rename_i h2; exact h2
      · cases h1
    obtain ⟨q1, q2⟩ := call_back (M3 := upd s.M wr) hok hMin hlive hn' hν' ht2 hM2 hwr rfl (fun h => (flV hfl h).2)
    exact ⟨back s s2 σ (fun i => V.contains i) ν (upd s.M wr), v, rfl, rfl, q1, rfl, q2 d0 v d hrd (fun h => (flV hfl h).1) hd⟩
section
variable {s0 : St} {n : Cx} {ops : Array Oper}
/-- code that is known to be of the function f -/
def dwpK (P : Program) (f : FuncId) (s0 : St) (n : Cx) (c : Code) (F : Fr) (M : List Blk) (K : Cont) : Prop :=
  ∀ a w, Inv s0 n F M a w → ∀ (b : Frame) (k : List Item) (cs : List Frame), b.roundOf = (wd (n.ρ s0)).round → b.fn = f →
    ∃ e a' w', PostK s0 n K e a' w' ∧ ArrivesIn (Machine.fenced P (wd (n.ρ s0))) P (lone (b.atR a (.code c :: k)) cs w) b k cs e a' w'
theorem dwpK_of {f : FuncId} {c : Code} {F : Fr} {M : List Blk} {K : Cont} (h : dwp P s0 n c F M K) : dwpK P f s0 n c F M K :=
  fun a w hi b k cs hro _ => h a w hi b k cs hro trivial (wd_room _ _)
theorem dwpK_seq {f : FuncId} {x y : Code} {F : Fr} {M : List Blk} {K : Cont} (h : dwpK P f s0 n x F M (Kseq (fun F M => dwpK P f s0 n y F M K) K)) : dwpK P f s0 n (.seq x y) F M K := by
  intro a w hi b k cs hro hb
  have h0 : (lone (b.atR a (.code (.seq x y) :: k)) cs w).fenced P (wd (n.ρ s0)) := wd_fenced
  obtain ⟨e, a₁, w₁, hq, harr⟩ := h a w hi b (.code y :: k) cs hro hb
  cases e with
  | normal =>
    obtain ⟨F', M', hi', hk⟩ := hq
    obtain ⟨e₂, a₂, w₂, hq₂, harr₂⟩ := hk a₁ w₁ hi' b k cs hro hb
    exact ⟨e₂, a₂, w₂, hq₂, .of_steps (.head h0 stepR_seq harr) harr₂⟩
  | exit id => exact ⟨.exit id, a₁, w₁, hq, .of_steps (.one h0 stepR_seq) (.pass (x := .code y) rfl (fun _ _ => .inl (by simp)) harr)⟩
  | goto l => exact ⟨.goto l, a₁, w₁, hq, .of_steps (.one h0 stepR_seq) (.pass (x := .code y) rfl (fun _ _ => .inl (by simp)) harr)⟩
  | ret => exact ⟨.ret, a₁, w₁, hq, .of_steps (.one h0 stepR_seq) (.pass (x := .code y) rfl (fun _ _ => .inl (by simp)) harr)⟩
  | panic ch => exact ⟨.panic ch, a₁, w₁, hq, .of_steps (.one h0 stepR_seq) (.pass (x := .code y) rfl (fun _ _ => .inl (by simp)) harr)⟩
  | outgrown => exact hq.elim
theorem dwpK_block {f : FuncId} {id : Nat} {c : Code} {F : Fr} {M : List Blk} {K : Cont} (h : dwpK P f s0 n c F M (Kblk id K)) : dwpK P f s0 n (.block id c) F M K := by
  intro a w hi b k cs hro hb
  have h0 : (lone (b.atR a (.code (.block id c) :: k)) cs w).fenced P (wd (n.ρ s0)) := wd_fenced
  obtain ⟨e, a₁, w₁, hq, harr⟩ := h a w hi b (.inBlock id :: k) cs hro hb
  cases e with
  | normal => exact ⟨.normal, a₁, w₁, hq, .head h0 stepR_block (StepsIn.trans harr (.one wd_fenced stepR_inBlock))⟩
  | exit id' =>
    by_cases hid : id' = id
    · obtain ⟨F', M', h1, h2⟩ := hq
      simp only [Kblk, hid, if_true] at h2
      exact ⟨.normal, a₁, w₁, ⟨F', M', h1, h2⟩, .head h0 stepR_block (harr.1 k (by simp [exitTo, hid]))⟩
    · obtain ⟨F', M', h1, h2⟩ := hq
      simp only [Kblk, hid, if_false] at h2
      have this : (id == id') = false := by simp; exact fun h => hid h.symm
      have hx : exitTo id' (.inBlock id :: k) = exitTo id' k := by simp [exitTo, this]
      exact ⟨.exit id', a₁, w₁, ⟨F', M', h1, h2⟩, fun k' hk => .head h0 stepR_block (harr.1 k' (by rw [hx]; exact hk)),
        fun hr' hk => let ⟨k₁, h1, h2⟩ := harr.2 hr' (by rw [hx]; exact hk); ⟨k₁, h1, .head h0 stepR_block h2⟩⟩
  | goto l =>
    have hx : gotoIn l (.inBlock id :: k) = gotoIn l k := by simp [gotoIn]
    exact ⟨.goto l, a₁, w₁, hq, fun k' hk => .head h0 stepR_block (harr.1 k' (by rw [hx]; exact hk)),
      fun hr' hk => let ⟨k₁, h1, h2⟩ := harr.2 hr' (by rw [hx]; exact hk); ⟨k₁, h1, .head h0 stepR_block h2⟩⟩
  | ret => exact ⟨.ret, a₁, w₁, hq, .of_steps (.one h0 stepR_block) harr⟩
  | panic ch => exact ⟨.panic ch, a₁, w₁, hq, .of_steps (.one h0 stepR_block) harr⟩
  | outgrown => exact hq.elim
/-- `for .. := range g { .. }` in a function that is known: its record tells it, and a round, or the iterator, may panic -/
theorem dwpK_rf {fk : FuncId} {g : Operand} {ps : Array Tmp} {asg body : Code} {F FL : Fr} {M M1 Min : List Blk} {K : Cont} {f : FuncId} {first caps cargs : List D} {post pan : D → List Blk → Prop} (σ V ν : List Nat) (j : Nat)
    (hr : n.r = none) (hmk : n.mks = true) (hg : Ev true F g (.fn (.func f) first caps)) (hj : M[j]? = some .hole) (hFL : ∀ t d, lk FL t = some d → lk F t = some d) (hM1 : M.set j (.lp (some fk) n.n FL ps asg body .ready none) = M1)
    (hc : vwL σ (fun i => V.contains i) M1 (first ++ [.yld j] ++ caps) = some cargs) (hMin : vwMs σ (fun i => V.contains i) M1 σ = some Min) (hf : DCalls P f cargs Min post pan)
    (hlive : Min.all (·.live) = true) (hn : decide (σ ++ ν).Nodup = true) (hν : ν.all (fun i => match M1[i]? with | some .hole => true | _ => false) = true)
    (hpost : ∀ d Mout, post d Mout → ∃ wr M2 st pe, wrOf (σ ++ ν) (σ ++ ν) Mout = some wr ∧ (V.isEmpty || Mout.all (·.fl)) = true ∧ upd M1 wr = M2 ∧ M2[j]? = some (.lp (some fk) n.n FL ps asg body st pe) ∧ st ≠ .busy ∧
      (pe = none → K .normal F (M2.set j .gone)) ∧ (∀ c, pe = some c → dwp P s0 n c F (M2.set j .gone) K))
    (hpan : ∀ d Mout, pan d Mout → ∃ wr M2 d1, wrOf (σ ++ ν) (σ ++ ν) Mout = some wr ∧ (V.isEmpty || (d.fl && Mout.all (·.fl))) = true ∧ upd M1 wr = M2 ∧ sb (σ ++ ν) d = some d1 ∧ K (.panic d1) F M2) :
    dwpK P fk s0 n (.rangeFunc g ps asg body) F M K := by
  intro a w hi b k cs hro hbf
  have hρ : n.ρ s0 = none := by unfold Cx.ρ; rw [hr]
  rw [hρ] at hro ⊢
  have hb : (wd none).fn b.fn := trivial
  obtain ⟨l, mark, w₁, d, w₁', f, args, w₂, he, hres, hlead, hinv, hn1, hF, hcall⟩ := rf_core (fn := b.fn) (by rw [hbf]; rfl) σ V ν j hr hmk hg hj hFL hM1 hc hMin hf hlive hn hν hpost hpan a w hi
  rw [← hro] at he
  have h0 : (lone (b.atR a (.code (.rangeFunc g ps asg body) :: k)) cs w).fenced P (wd none) := wd_fenced
  have henter := stepR_rangeFunc (P := P) (b := b) (a := a) (k := k) (cs := cs) (w := w) he hres hinv
  obtain ⟨e, w₃, fr, hR, hsteps, hfn, hleave⟩ := hcall (b.atR { a with defers := mark ++ a.defers } (.inRangeFunc l :: k) :: cs) (wd_room _ _)
  cases e with
  | outgrown =>
    obtain ⟨a₀, w₀, hq⟩ := hR
    exact hq.elim
  | returned v =>
    have hl : (lone fr (b.atR { a with defers := mark ++ a.defers } (.inRangeFunc l :: k) :: cs) w₃).fenced P (wd none) := wd_fenced
    obtain ⟨jump, w₄, hend, hj⟩ := hR
    have sback : StepsIn (Machine.fenced P (wd none)) P (lone (b.atR a (.code (.rangeFunc g ps asg body) :: k)) cs w) (lone (b.atR { a with defers := mark ++ a.defers } ((jump.map Item.code).toList ++ k)) cs w₄) := by
      refine .head h0 henter (StepsIn.trans hsteps (.head hl ?_ (.one wd_fenced (stepR_endRangeFunc hend))))
      rw [← finish_atR_inRangeFunc l v]; exact step_leave_returned hleave
    cases jump with
    | none => exact ⟨.normal, _, w₄, hj, sback⟩
    | some c =>
      obtain ⟨e', a'', w₅, hq, harr⟩ := hj b k cs hro hb (wd_room _ _)
      exact ⟨e', a'', w₅, hq, .of_steps sback harr⟩
  | panicked chain =>
    have hl : (lone fr (b.atR { a with defers := mark ++ a.defers } (.inRangeFunc l :: k) :: cs) w₃).fenced P (wd none) := wd_fenced
    refine ⟨.panic chain, _, w₃, hR, .inRangeFunc l :: k, .head h0 henter (StepsIn.trans hsteps (.one hl ?_))⟩
    rw [← Frame.raise_atR]; exact step_leave_panicked hleave
theorem dwpK_scope {f : FuncId} {c : Code} {F : Fr} {M : List Blk} {K : Cont} (h : dwpK P f s0 n c F M (Kng K)) : dwpK P f s0 n (.scope c) F M K := by
  intro a w hi b k cs hro hb
  obtain ⟨e, a₁, w₁, hq, harr⟩ := h a w hi b (.inScope c :: k) cs hro hb
  have f : ∀ (m : Machine), m.fenced P (wd (n.ρ s0)) := fun _ => wd_fenced
  cases e with
  | normal => exact ⟨.normal, a₁, w₁, hq, .head (f _) stepR_scope' (StepsIn.trans harr (.one (f _) stepR_inScope'))⟩
  | exit id => exact ⟨.exit id, a₁, w₁, hq, fun k' hk => .head (f _) stepR_scope' (harr.1 k' (by simp [exitTo, hk])), fun h1 h2 => by
      obtain ⟨k1, h3, h4⟩ := harr.2 h1 (by simp [exitTo, h2])
      exact ⟨k1, h3, .head (f _) stepR_scope' h4⟩⟩
  | goto l => obtain ⟨_, _, _, hk⟩ := hq; exact hk.elim
  | ret => exact ⟨.ret, a₁, w₁, hq, .of_steps (.one (f _) stepR_scope') harr⟩
  | panic ch => exact ⟨.panic ch, a₁, w₁, hq, .of_steps (.one (f _) stepR_scope') harr⟩
  | outgrown => exact hq.elim
theorem dwpK_hole {f : FuncId} {c : Code} {F : Fr} {M : List Blk} {K : Cont} (h : dwpK P f s0 n c F (M ++ [.hole]) K) : dwpK P f s0 n c F M K := fun a w hi => h a w (inv_hole hi)
theorem dwpK_rfn {fk : FuncId} {g : Operand} {ps : Array Tmp} {asg body : Code} {F FL : Fr} {M M1 M2 Min Mout : List Blk} {K : Cont} {f : FuncId} {first caps cargs : List D} {d0 : D} {wr : List (Nat × Blk)} {st : LoopState} {pe : Option Code} (σ V ν : List Nat) (j : Nat)
    (hr : n.r = none) (hmk : n.mks = true) (hg : Ev true F g (.fn (.func f) first caps)) (hj : M[j]? = some .hole) (hFL : ∀ t d, lk FL t = some d → lk F t = some d) (hM1 : M.set j (.lp (some fk) n.n FL ps asg body .ready none) = M1)
    (hc : vwL σ (fun i => V.contains i) M1 (first ++ [.yld j] ++ caps) = some cargs) (hMin : vwMs σ (fun i => V.contains i) M1 σ = some Min) (hf : DFun P f cargs Min d0 Mout)
    (hlive : Min.all (·.live) = true) (hn : decide (σ ++ ν).Nodup = true) (hν : ν.all (fun i => match M1[i]? with | some .hole => true | _ => false) = true)
    (hwr : wrOf (σ ++ ν) (σ ++ ν) Mout = some wr) (hfl : (V.isEmpty || Mout.all (·.fl)) = true) (hM2 : upd M1 wr = M2) (hj2 : M2[j]? = some (.lp (some fk) n.n FL ps asg body st pe)) (hst : st ≠ .busy)
    (hk0 : pe = none → K .normal F (M2.set j .gone)) (hk1 : ∀ c, pe = some c → dwp P s0 n c F (M2.set j .gone) K) : dwpK P fk s0 n (.rangeFunc g ps asg body) F M K :=
  dwpK_rf σ V ν j hr hmk hg hj hFL hM1 hc hMin hf hlive hn hν (by rintro d Mo ⟨rfl, rfl⟩; exact ⟨wr, M2, st, pe, hwr, hfl, hM2, hj2, hst, hk0, hk1⟩) (fun _ _ h => h.elim)
theorem dwpK_rfp {fk : FuncId} {g : Operand} {ps : Array Tmp} {asg body : Code} {F FL : Fr} {M M1 M2 Min Mout : List Blk} {K : Cont} {f : FuncId} {first caps cargs : List D} {d0 d1 : D} {wr : List (Nat × Blk)} (σ V ν : List Nat) (j : Nat)
    (hr : n.r = none) (hmk : n.mks = true) (hg : Ev true F g (.fn (.func f) first caps)) (hj : M[j]? = some .hole) (hFL : ∀ t d, lk FL t = some d → lk F t = some d) (hM1 : M.set j (.lp (some fk) n.n FL ps asg body .ready none) = M1)
    (hc : vwL σ (fun i => V.contains i) M1 (first ++ [.yld j] ++ caps) = some cargs) (hMin : vwMs σ (fun i => V.contains i) M1 σ = some Min) (hf : DPan P f cargs Min d0 Mout)
    (hlive : Min.all (·.live) = true) (hn : decide (σ ++ ν).Nodup = true) (hν : ν.all (fun i => match M1[i]? with | some .hole => true | _ => false) = true)
    (hwr : wrOf (σ ++ ν) (σ ++ ν) Mout = some wr) (hfl : (V.isEmpty || (d0.fl && Mout.all (·.fl))) = true) (hM2 : upd M1 wr = M2) (hd : sb (σ ++ ν) d0 = some d1) (hk : K (.panic d1) F M2) : dwpK P fk s0 n (.rangeFunc g ps asg body) F M K :=
  dwpK_rf σ V ν j hr hmk hg hj hFL hM1 hc hMin hf hlive hn hν (fun _ _ h => h.elim) (by rintro d Mo ⟨rfl, rfl⟩; exact ⟨wr, M2, d1, hwr, hfl, hM2, hd, hk⟩)
end
section
variable {s0 : St} {n : Cx}
/-- a row of one's own takes a new name -/
theorem inv_mv {F : Fr} {M : List Blk} {a : Act} {w : World} {t j : Nat} {e : TypeId} {sz m : Nat} {L : List Value} (h : Inv s0 n F M a w) (ht : lk F t = some (.arr j)) (hj : M[j]? = some (.arr e sz m L)) : Inv s0 n ((t, .arr M.length) :: F) (M.set j .gone ++ [.arr e sz m L]) a w := by
  obtain ⟨h0, s, rfl, rfl, h3, h4, h5, h6⟩ := h
  have t1 := step_hole h3.ok
  have hlen := h3.ok.len
  have hjl := (List.getElem?_eq_some_iff.1 hj).1
  obtain ⟨y, hy⟩ : ∃ y, s.β[j]? = some y := ⟨_, List.getElem?_eq_getElem (by omega)⟩
  have hb := h3.ok.blk j _ y hj hy
  have hsl : ∃ ad n' c, y = .slice ad n' c := by
    have hr := h4 t _ ht
    generalize hv : slot a t = v at hr
    cases hr with
    | @arr _ ad n' c hβ => rw [hy] at hβ; exact ⟨ad, n', c, Option.some.inj hβ⟩
  obtain ⟨ad, n', c, rfl⟩ := hsl
  have hy1 : (s.β ++ [Value.nilFunc])[j]? = some (.slice ad n' c) := by rw [List.getElem?_append_left (by omega)]; exact hy
  have hj1 : (s.M ++ [Blk.hole])[j]? = some (.arr e sz m L) := by rw [List.getElem?_append_left hjl]; exact hj
  have eM : ((s.M ++ [Blk.hole]).set j .gone).set s.M.length (.arr e sz m L) = s.M.set j .gone ++ [.arr e sz m L] := by
    rw [List.set_append_left _ _ hjl, List.set_append_right _ _ (by simp)]
    simp
  have eβ : (s.β ++ [Value.nilFunc]).set s.M.length (.slice ad n' c) = s.β ++ [.slice ad n' c] := by
    rw [← hlen, List.set_append_right _ _ (Nat.le_refl _)]
    simp
  have t2 := step_set t1.ok s.M.length ((s.M ++ [Blk.hole]).set j .gone) (.slice ad n' c) (.arr e sz m L) s.w (by simp) (fun i k hk => by
      by_cases e' : j = i
      · subst e'; rw [List.getElem?_set_self (by simp; omega)] at hk; exact .inr (Option.some.inj hk).symm
      · rw [List.getElem?_set_ne e'] at hk; exact .inl hk) (by simp) (.inl (by simp [hlen])) (by simp) hb
    (fun b hb' i k h hne hk hl hh ho => by
      by_cases e' : j = i
      · subst e'; rw [List.getElem?_set_self (by simp; omega)] at hk; obtain rfl := Option.some.inj hk; cases hl
      · rw [List.getElem?_set_ne e'] at hk
        exact e' (t1.ok.inj j i _ k _ h b hj1 rfl hy1 hb' hk hl hh ho))
    (fun b hb' => .inr (live_of hj1 rfl hy1 hb')) (fun b hb' => (t1.ok.lt b (live_of hj1 rfl hy1 hb')).1) (fun _ => False) (fun _ h => h.elim) (fun _ _ _ _ => rfl) rfl rfl rfl (Nat.le_refl _)
  have tt := t1.trans t2
  simp only [eM, eβ] at tt
  refine ⟨h0, ⟨s.β ++ [.slice ad n' c], s.I, s.M.set j .gone ++ [.arr e sz m L], s.w⟩, rfl, rfl, h3.trans tt, fun z d hd => ?_, h5, h6.mono h3.ok tt⟩
  rw [lk_cons] at hd
  split at hd
  · rename_i e'
    subst e'
    obtain rfl := Option.some.inj hd
    have hr := h4 t _ ht
    generalize hv : slot a t = v at hr
    cases hr with
    | @arr _ ad2 n2 c2 hβ =>
      rw [hy] at hβ
      obtain ⟨rfl, rfl, rfl⟩ := Value.slice.inj (Option.some.inj hβ)
      exact .arr (by show (s.β ++ [_])[s.M.length]? = _; rw [← hlen]; simp)
  · exact (h4 z d hd).mono h3.ok tt
theorem dwp_mv {c : Code} {F : Fr} {M M' : List Blk} {K : Cont} (t : Nat) {m' j : Nat} {e : TypeId} {sz m : Nat} {L : List Value} (ht : lk F t = some (.arr j)) (hj : M[j]? = some (.arr e sz m L)) (hm : M.length = m') (hM' : M.set j .gone ++ [.arr e sz m L] = M') (h : dwp P s0 n c ((t, .arr m') :: F) M' K) : dwp P s0 n c F M K := by
  subst hM' hm
  exact fun a w hi => h a w (inv_mv hi ht hj)
end
/-- a function whose body is walked as its own -/
theorem dcalls_goK {f : FuncId} {fn : Func} {c : Code} {args : List D} {F0 : Fr} {Min : List Blk} {post pan : D → List Blk → Prop} {N : Nat} (m : Nat) (hcb : callB P f = true) (hf : P.funcs[f]? = some fn) (hc : fn.body = some c) (hn : fn.ntmps = N) (hle : Nat.ble args.length N = true) (hF : fr0 0 args = F0) (hm : Min.length = m)
    (h : ∀ s0 : St, s0.M.length ≤ m → dwpK P f s0 ⟨N, none, m, [], true⟩ c F0 Min (Kret P fn m [] post pan)) : DCalls P f args Min post pan := by
  subst hF hm
  refine ⟨hcb, ?_⟩
  intro s vs ho hM hr
  obtain ⟨hl, hr⟩ := hr
  have hle := Nat.le_of_ble_eq_true hle
  have hslot : ∀ t d, lk (fr0 0 args) t = some d → Rep s d (slot { tmps := vs.toArray ++ Array.replicate (fn.ntmps - vs.toArray.size) undef, defers := [] } t) := by
    intro t d hd
    obtain ⟨_, h2⟩ := fr0_lk args 0 t d hd
    simp only [Nat.sub_zero] at h2
    have hlt : t < args.length := (List.getElem?_eq_some_iff.1 h2).1
    have hv : vs[t]? = some vs[t] := List.getElem?_eq_getElem (by omega)
    have : slot { tmps := vs.toArray ++ Array.replicate (fn.ntmps - vs.toArray.size) undef, defers := [] } t = vs[t] := by
      unfold slot
      simp only [Array.getD_eq_getD_getElem?]
      rw [Array.getElem?_append_left (by simp; omega)]
      simp [show t < vs.length by omega]
    rw [this]
    exact hr t d _ h2 hv
  refine (callsIn_wide (n := 0)).1 ⟨trivial, fun cs hrm => ?_⟩
  let b : Frame := { (default : Frame) with fn := f, kind := .normal, roundOf := none }
  have henter : Frame.enter P f vs.toArray .normal =
      b.atR { tmps := vs.toArray ++ Array.replicate (fn.ntmps - vs.toArray.size) undef, defers := [] } [.code c] := by
    simp [Frame.enter, Frame.atR, hf, hc, b]
  obtain ⟨e, a', w', hq0, harr⟩ := h s (by rw [hM]; exact Nat.le_refl _) _ _ ⟨ho, s, hM, rfl, Tr.refl ho, hslot, by simp; omega, .nil⟩ b [] cs rfl rfl
  have hq : bodyPostM Fence.wide 0 P fn (Lv s post pan) e a' w' := by
    cases e with
    | normal => obtain ⟨F, M, ⟨h0, s1, q1, q2, q3, q4, q5, q6⟩, hk⟩ := hq0; subst q1 q2; exact leaves h0 (by rw [hM]; exact Nat.le_refl _) a' _ _ none _ _ _ q6 q3 q4 rfl hk
    | ret => obtain ⟨F, M, ⟨h0, s1, q1, q2, q3, q4, q5, q6⟩, hk⟩ := hq0; subst q1 q2; exact leaves h0 (by rw [hM]; exact Nat.le_refl _) a' _ _ none _ _ _ q6 q3 q4 rfl hk
    | exit id => obtain ⟨_, _, _, hk⟩ := hq0; exact hk
    | goto l => obtain ⟨_, _, _, hk⟩ := hq0; exact hk
    | panic ch => obtain ⟨F, M, d, ⟨h0, s1, v, q1, q2, q3, q4, q5, q6, q7, q8⟩, hk⟩ := hq0; subst q1 q2 q7; exact leaves h0 (by rw [hM]; exact Nat.le_refl _) a' _ _ (some d) _ _ _ q6 q3 q4 ⟨v, rfl, q8⟩ hk
    | outgrown => exact hq0.elim
  rw [← henter] at harr
  have hF : (Fence.wide).fn f := trivial
  cases e with
  | normal =>
    obtain ⟨e', w'', fr', hR, hs, hfn, hl⟩ := leaves_stepsInM a'.defers .returning w' { b.atR a' [] with mode := .returning } cs rfl rfl rfl hf rfl hF hrm hq
    exact ⟨e', w'', fr', hR, ComesIn.of_steps (StepsIn.trans harr (.one (fenced_calm (fr := b.atR a' []) hF hrm rfl) (stepR_end rfl))) hs, hfn, hl⟩
  | ret =>
    obtain ⟨todo, hs₀⟩ := harr.1 rfl
    obtain ⟨e', w'', fr', hR, hs, hfn, hl⟩ := leaves_stepsInM a'.defers .returning w' { b.atR a' todo with mode := .returning } cs rfl rfl rfl hf rfl hF hrm hq
    exact ⟨e', w'', fr', hR, ComesIn.of_steps hs₀ hs, hfn, hl⟩
  | panic chain =>
    obtain ⟨todo, hs₀⟩ := harr
    obtain ⟨e', w'', fr', hR, hs, hfn, hl⟩ := leaves_stepsInM a'.defers (.panicking chain) w' { b.atR a' todo with mode := .panicking chain } cs rfl rfl rfl hf rfl hF hrm hq
    exact ⟨e', w'', fr', hR, ComesIn.of_steps hs₀ hs, hfn, hl⟩
  | exit id => exact hq.elim
  | goto l => exact hq.elim
  | outgrown => exact hq0.elim
end
end Go.Proofs.Ytcbfnbfhlofkiaa
namespace Go.Proofs.Ytcbfnbfhlofkiaa
set_option maxRecDepth 4000
set_option linter.unusedVariables false
set_option linter.unusedSimpArgs false
open Go.RowKit
theorem mixed : Try.prog.follows .mixedOrders = true := by kernel_rfl
structure C4 where
  r : Int
  g : Int
  b : Int
  a : Int
deriving DecidableEq
def c4 (c : C4) : List Value := [.int .u8 c.r, .int .u8 c.g, .int .u8 c.b, .int .u8 c.a]
def zC4 : C4 := ⟨0, 0, 0, 0⟩
structure P2 where
  x : Int
  y : Int
deriving DecidableEq
def p2 (p : P2) : List Value := [.int .i64 p.x, .int .i64 p.y]
structure TL where
  l : List C4
  h : l.length = 64
theorem TL.ext {t u : TL} (h : t.l = u.l) : t = u := by cases t; cases u; cases h; rfl
instance : DecidableEq TL := fun t u => if h : t.l = u.l then isTrue (TL.ext h) else isFalse fun e => h (by rw [e])
abbrev tc (t : TL) : List Value := t.l.flatMap c4
abbrev tD (t : TL) : D := .val (.agg (tc t).toArray)
theorem c4_len (c : C4) : (c4 c).length = 4 := rfl
theorem tc_len (t : TL) : (tc t).length = 256 := by rw [flat_len c4_len, t.h]
theorem tc_oc (t : TL) : (tc t).all (·.oneCell') = true := flat_oc (fun _ => rfl) t.l
def nT (c : C4) : TL := ⟨List.replicate 64 c, by simp⟩
def zT : TL := nT zC4
def TL.get (t : TL) (i : Nat) : C4 := t.l.getD i zC4
def TL.set (t : TL) (i : Nat) (c : C4) : TL := ⟨t.l.set i c, by rw [List.length_set, t.h]⟩
def errOr (b : Bool) (n : Int) : Int := match b with | true => 0 | false => n
theorem tc_set (t : TL) (i : Nat) (c : C4) : (t.l.set i c).flatMap c4 = tc (t.set i c) := rfl
theorem eqA_row {α : Type} {f : List Value → List Value → Option Bool} {en : α → List Value} {sz : Nat} [DecidableEq α] (hen : ∀ a, (en a).length = sz) (hf : ∀ a b, f (en a) (en b) = some (decide (a = b))) :
    ∀ (l r : List α), l.length = r.length → eqA f sz l.length (l.flatMap en) (r.flatMap en) = some (decide (l = r))
  | [], [], _ => by simp [eqA]
  | a :: l, b :: r, h => by
    have e1 : ((a :: l).flatMap en).take sz = en a := by rw [List.flatMap_cons, ← hen a, List.take_left]
    have e2 : ((b :: r).flatMap en).take sz = en b := by rw [List.flatMap_cons, ← hen b, List.take_left]
    have e3 : ((a :: l).flatMap en).drop sz = l.flatMap en := by rw [List.flatMap_cons, ← hen a, List.drop_left]
    have e4 : ((b :: r).flatMap en).drop sz = r.flatMap en := by rw [List.flatMap_cons, ← hen b, List.drop_left]
    rw [List.length_cons, eqA, e1, e2, e3, e4, hf, eqA_row hen hf l r (by simpa using h)]
    simp only [Option.some.injEq]
    rw [Bool.eq_iff_iff]
    simp
  | [], _ :: _, h => by simp at h
  | _ :: _, [], h => by simp at h
def eqC (a b : C4) : Bool := (a.r == b.r) && ((a.g == b.g) && ((a.b == b.b) && ((a.a == b.a) && true)))
theorem eqC_iff {u v : C4} : eqC u v = decide (u = v) := by
  obtain ⟨r, g, b, a⟩ := u
  obtain ⟨r', g', b', a'⟩ := v
  rw [Bool.eq_iff_iff]
  simp [eqC]
def newT (c : C4) : Nat → TL
  | 0 => zT
  | k + 1 => (newT c k).set k c
theorem newT_succ (c : C4) (k : Nat) : newT c (k + 1) = (newT c k).set k c := rfl
theorem nT_at (c : C4) {i : Nat} (h : i < 64) : (nT c).l[i]? = some c := by
  show (List.replicate 64 c)[i]? = _
  rw [List.getElem?_replicate, if_pos h]
theorem newT_at (c : C4) : ∀ (k i : Nat), i < 64 → (newT c k).l[i]? = some (if i < k then c else zC4)
  | 0, i, h => by rw [newT, zT, nT_at _ h]; simp
  | k + 1, i, h => by
    rw [newT]
    show ((newT c k).l.set k c)[i]? = _
    rw [List.getElem?_set]
    by_cases e : k = i
    · subst e; simp [(newT c k).h, h]
    · rw [if_neg e, newT_at c k i h]
      by_cases g : i < k
      · rw [if_pos g, if_pos (by omega)]
      · rw [if_neg g, if_neg (by omega)]
theorem newT_end (c : C4) : newT c 64 = nT c := by
  apply TL.ext
  apply List.ext_getElem?
  intro i
  by_cases h : i < 64
  · rw [newT_at c 64 i h, if_pos h, nT_at c h]
  · rw [List.getElem?_eq_none (by rw [(newT c 64).h]; omega), List.getElem?_eq_none (by rw [(nT c).h]; omega)]
def cnt {α : Type} (f : Nat → α → Bool) : List α → Nat → Int
  | [], _ => 0
  | a :: r, i => (if f i a then 1 else 0) + cnt f r (i + 1)
theorem cnt_drop {α : Type} {f : Nat → α → Bool} {l : List α} {k : Nat} (h : k < l.length) : cnt f (l.drop k) k = (if f k l[k] then 1 else 0) + cnt f (l.drop (k + 1)) (k + 1) := by
  rw [List.drop_eq_getElem_cons h, cnt]
theorem cnt_end {α : Type} {f : Nat → α → Bool} {l : List α} {k : Nat} (h : l.length ≤ k) : cnt f (l.drop k) k = 0 := by
  rw [List.drop_of_length_le h, cnt]
structure Dt where
  x : Int
  y : Int
  c : C4
deriving DecidableEq
def mayS (w h : Int) : Bool := decide (1 ≤ w) && decide (w ≤ 4) && decide (1 ≤ h) && decide (h ≤ 4)
theorem mayS_b {w h : Int} (hm : mayS w h = true) : (1 ≤ w ∧ w ≤ 4) ∧ (1 ≤ h ∧ h ≤ 4) := by
  unfold mayS at hm
  simp at hm
  omega
def onS (w h x y : Int) : Bool := decide (0 ≤ x) && decide (x < w * 8) && decide (0 ≤ y) && decide (y < h * 8)
/-- which tile has the pixel, and which one it is there -/
def plN (w x y : Int) : Nat := (y / 8 * w + x / 8).toNat
def pxN (x y : Int) : Nat := (y % 8 * 8 + x % 8).toNat
def putC (w h : Int) (ts : List TL) (d : Dt) : List TL := if onS w h d.x d.y = true then ts.set (plN w d.x d.y) ((ts.getD (plN w d.x d.y) zT).set (pxN d.x d.y) d.c) else ts
theorem putC_len (w h : Int) (ts : List TL) (d : Dt) : (putC w h ts d).length = ts.length := by unfold putC; split <;> simp
/-- a canvas as data: its sizes, and a row of pointers to its tiles -/
abbrev cvD (w h : Int) (ds : List D) : D := .dpm [.val (.int .i64 w), .val (.int .i64 h), .slm 1 ds.length ds]
/-- what a canvas shows -/
abbrev shD (w h : Int) (ts : List TL) : D := .agg [.val (.int .i64 w), .val (.int .i64 h), .slf 256 ts.length (ts.flatMap tc)]
structure RowOk (ds : List D) (ts : List TL) : Prop where
  len : ds.length = ts.length
  nl : D.nlL ds = true
  oc : ds.all D.oc2 = true
  wk : ∀ (q : Nat) d t, ds[q]? = some d → ts[q]? = some t → Wk d (.dpf (tc t))
structure CvOk (w h : Int) (ts : List TL) : Prop where
  may : mayS w h = true
  len : (ts.length : Int) = w * h
theorem CvOk.le {w h : Int} {ts : List TL} (hc : CvOk w h ts) : ts.length ≤ 16 ∧ 1 ≤ ts.length := by
  have hb := mayS_b hc.may
  have h1 : w * h ≤ 4 * 4 := Int.mul_le_mul hb.1.2 hb.2.2 (by omega) (by omega)
  have h2 : 1 * 1 ≤ w * h := Int.mul_le_mul hb.1.1 hb.2.1 (by omega) (by omega)
  have := hc.len
  omega
/-- the row of pointers into memory that stays -/
abbrev dpR (ts : List TL) : List D := ts.map fun t => .dpf (tc t)
theorem dpR_ok (ts : List TL) : RowOk (dpR ts) ts := by
  refine ⟨by simp, ?_, by simp [D.oc2], fun q d t h1 h2 => ?_⟩
  · induction ts with
    | nil => rfl
    | cons t ts ih => rw [dpR, List.map_cons, D.nlL]; exact ih
  · rw [List.getElem?_map, h2] at h1
    cases h1
    exact Wk.refl _
theorem RowOk.at {ds : List D} {ts : List TL} (h : RowOk ds ts) {q : Nat} (hq : q < ts.length) : ∃ d, ds[q]? = some d ∧ d ∈ ds ∧ d.nl = true ∧ d.oc2 = true ∧ Wk d (.dpf (tc (ts.getD q zT))) := by
  have hq2 : q < ds.length := by rw [h.len]; exact hq
  refine ⟨ds[q], List.getElem?_eq_getElem hq2, List.getElem_mem hq2, nlL_mem h.nl (List.getElem?_eq_getElem hq2), List.all_eq_true.1 h.oc _ (List.getElem_mem hq2), ?_⟩
  refine h.wk q _ _ (List.getElem?_eq_getElem hq2) ?_
  rw [List.getD_eq_getElem?_getD, List.getElem?_eq_getElem hq]
  rfl
theorem RowOk.wkd {ds : List D} {ts : List TL} (h : RowOk ds ts) (w hh : Int) : Wk (cvD w hh ds) (cvD w hh (dpR ts)) := by
  have hl : WkL ds (dpR ts) := ⟨by simp [h.len], fun j d d' h1 h2 => by
    rw [List.getElem?_map] at h2
    cases e : ts[j]? with
    | none => rw [e] at h2; cases h2
    | some t => rw [e] at h2; cases h2; exact h.wk j d t h1 e⟩
  have hn : D.nlL (dpR ts) = true := (dpR_ok ts).nl
  have e : (dpR ts).length = ds.length := by simp [h.len]
  rw [cvD, cvD, e]
  exact Wk.dpm (.cons (.refl _) (.cons (.refl _) (.cons (Wk.slm hl hn) .nil))) (by simp [D.nlL, D.nl])
/-- may a canvas be? -/
def rightB (w h : Int) (ts : List TL) : Bool := mayS w h && decide ((ts.length : Int) = w * h)
theorem CvOk.right {w h : Int} {ts : List TL} (hc : CvOk w h ts) : rightB w h ts = true := by
  unfold rightB
  rw [hc.may, decide_eq_true hc.len]
  rfl
theorem mul_in {w h : Int} (hm : mayS w h = true) : 1 ≤ w * h ∧ w * h ≤ 16 := by
  have hb := mayS_b hm
  have h1 : w * h ≤ 4 * 4 := Int.mul_le_mul hb.1.2 hb.2.2 (by omega) (by omega)
  have h2 : 1 * 1 ≤ w * h := Int.mul_le_mul hb.1.1 hb.2.1 (by omega) (by omega)
  omega
theorem CvOk.put {w h : Int} {ts : List TL} (hc : CvOk w h ts) (d : Dt) : CvOk w h (putC w h ts d) := ⟨hc.may, by rw [putC_len]; exact hc.len⟩
end Go.Proofs.Ytcbfnbfhlofkiaa
namespace Go.Proofs.Ytcbfnbfhlofkiaa
set_option maxRecDepth 4000
set_option linter.unusedVariables false
set_option linter.unusedSimpArgs false
open Go.RowKit
theorem fo96_0 : fdO Try.prog 96 0 = some 0 := by kernel_rfl
theorem fo96_1 : fdO Try.prog 96 1 = some 1 := by kernel_rfl
theorem tb3 : tyB Try.prog 3 = some (false, 1) := by kernel_rfl
set_option maxRecDepth 4000 in
set_option maxHeartbeats 1000000 in
theorem smay_d (w h : Int) : DFun Try.prog 54 [.val (.agg #[.int .i64 w, .int .i64 h])] [] (.val (.bool (mayS w h))) [] := by
  refine dcalls_go (N := 21) 0 (by kernel_rfl) Try.func54 rfl rfl rfl (by simp only [fr0, Nat.zero_add, Nat.reduceAdd]; exact rfl) rfl fun s0 hs0 => ?_
  refine zaf ?_
  refine zah 1 (by simp only [holes, List.cons_append, List.nil_append]; exact rfl) ?_
  refine zad ?_
  refine walk_w rfl rfl rfl (op_boxa 0 rfl (ev1 rfl) rfl) (by simp only [upd, za, zaa]; exact rfl) ?_
  refine zab rfl rfl rfl (zac (.inr rfl) (ev1 rfl)) ?_
  refine zae ?_
  refine zaf ?_
  refine zad ?_
  refine zab rfl rfl rfl (op_fa rfl fo96_0 (ev1 rfl)) ?_
  refine zab rfl rfl rfl (op_ldo rfl tb3 (ev1 rfl) rfl rfl) ?_
  refine zab rfl rfl rfl (op_geq rfl (ev1 rfl) (ev1 rfl)) ?_
  refine zab rfl rfl rfl (zac (.inl rfl) (ev1 rfl)) ?_
  refine zai (gd_t rfl rfl rfl) rfl rfl rfl (op_fa rfl fo96_0 (ev1 rfl)) ?_
  refine zai (gd_t rfl rfl rfl) rfl rfl rfl (op_ldo rfl tb3 (ev2 rfl) rfl rfl) ?_
  refine zai (gd_t rfl rfl rfl) rfl rfl rfl (op_leq rfl (ev2 rfl) (ev1 rfl)) ?_
  refine zab rfl rfl rfl (op_and rfl (ev1 rfl) (ev3 rfl id)) ?_
  refine zab rfl rfl rfl (zac (.inl rfl) (ev1 rfl)) ?_
  refine zai (gd_t rfl rfl rfl) rfl rfl rfl (op_fa rfl fo96_1 (ev1 rfl)) ?_
  refine zai (gd_t rfl rfl rfl) rfl rfl rfl (op_ldo rfl tb3 (ev2 rfl) rfl rfl) ?_
  refine zai (gd_t rfl rfl rfl) rfl rfl rfl (op_geq rfl (ev2 rfl) (ev1 rfl)) ?_
  refine zab rfl rfl rfl (op_and rfl (ev1 rfl) (ev3 rfl id)) ?_
  refine zab rfl rfl rfl (zac (.inl rfl) (ev1 rfl)) ?_
  refine zai (gd_t rfl rfl rfl) rfl rfl rfl (op_fa rfl fo96_1 (ev1 rfl)) ?_
  refine zai (gd_t rfl rfl rfl) rfl rfl rfl (op_ldo rfl tb3 (ev2 rfl) rfl rfl) ?_
  refine zai (gd_t rfl rfl rfl) rfl rfl rfl (op_leq rfl (ev2 rfl) (ev1 rfl)) ?_
  refine zab rfl rfl rfl (op_and rfl (ev1 rfl) (ev3 rfl id)) ?_
  refine zab rfl rfl rfl (zac (.inr rfl) (ev1 rfl)) ?_
  refine zae ?_
  refine dwp_ret ?_
  refine kend0 (rs1 rfl (rv_t rfl)) rfl ?_
  unfold mayS
  simp [Bool.and_assoc]
end Go.Proofs.Ytcbfnbfhlofkiaa
namespace Go.Proofs.Ytcbfnbfhlofkiaa
set_option maxRecDepth 4000
set_option linter.unusedVariables false
set_option linter.unusedSimpArgs false
open Go.RowKit
theorem eq29 {t u : TL} : eqT Try.prog 9 29 (tc t) (tc u) = some (decide (t = u)) := by
  have h : ∀ a b : C4, eqT Try.prog 8 27 (c4 a) (c4 b) = some (decide (a = b)) := fun a b => by
    rw [← eqC_iff]
    exact (show eqT Try.prog 8 27 [.int .u8 a.r, .int .u8 a.g, .int .u8 a.b, .int .u8 a.a] [.int .u8 b.r, .int .u8 b.g, .int .u8 b.b, .int .u8 b.a] = some (eqC a b) by kernel_rfl)
  have h2 := eqA_row (en := c4) c4_len h t.l u.l (by rw [t.h, u.h])
  rw [t.h] at h2
  have h3 : eqT Try.prog 9 29 (tc t) (tc u) = eqA (eqT Try.prog 8 27) 4 64 (tc t) (tc u) := by
    have e1 : Try.prog.underlying 29 = some (.array 64 27) := by kernel_rfl
    obtain ⟨_, i, _, e3, _, e4⟩ := tyB_spec (show tyB Try.prog 27 = some (true, 4) by kernel_rfl)
    unfold eqT
    simp only [e1, e3, e4]
  refine h3.trans (h2.trans ?_)
  congr 1
  rw [Bool.eq_iff_iff]
  simp only [decide_eq_true_eq]
  exact ⟨TL.ext, fun e => by rw [e]⟩
theorem fl96 : fdL Try.prog 96 = some [(0, 1), (1, 1)] := by kernel_rfl
theorem fo41_0 : fdO Try.prog 41 0 = some 0 := by kernel_rfl
theorem fo41_1 : fdO Try.prog 41 1 = some 1 := by kernel_rfl
theorem fo41_2 : fdO Try.prog 41 2 = some 2 := by kernel_rfl
theorem gd29 : Try.prog.eqGuardType Try.prog.depth 29 = false := by kernel_rfl
theorem sl22 : slE Try.prog 22 = some (29, 256, 256) := by kernel_rfl
theorem tb22 : tyB Try.prog 22 = some (false, 1) := by kernel_rfl
theorem tb29 : tyB Try.prog 29 = some (true, 256) := by kernel_rfl
theorem tb96 : tyB Try.prog 96 = some (true, 2) := by kernel_rfl
theorem zr29 : zrC Try.prog 29 = some (tc zT) := by kernel_rfl
theorem zr96 : zrC Try.prog 96 = some [.int .i64 0, .int .i64 0] := by kernel_rfl
set_option maxRecDepth 4000 in
set_option maxHeartbeats 1000000 in
theorem ccheck_d (w h : Int) (ts : List TL) : DFun Try.prog 39 [shD w h ts] [] (.val (.int .i64 (errOr (rightB w h ts) 150))) [] := by
  refine dcalls_go (N := 23) 0 (by kernel_rfl) Try.func39 rfl rfl rfl (by simp only [fr0, Nat.zero_add, Nat.reduceAdd]; exact rfl) rfl fun s0 hs0 => ?_
  refine zaf ?_
  refine zah 1 (by simp only [holes, List.cons_append, List.nil_append]; exact rfl) ?_
  refine zad ?_
  refine walk_w rfl rfl rfl (op_boxam 0 rfl (ev1 rfl) rfl) (by simp only [upd, za, zaa]; exact rfl) ?_
  refine zab rfl rfl rfl (zac (.inr rfl) (ev1 rfl)) ?_
  refine zae ?_
  refine zaf ?_
  refine zaf ?_
  refine zah 1 (by simp only [holes, List.cons_append, List.nil_append]; exact rfl) ?_
  refine zad ?_
  refine zab rfl rfl rfl (op_fa rfl fo41_0 (ev1 rfl)) ?_
  refine zab rfl rfl rfl (op_ldm rfl tb3 (ev1 rfl) rfl rfl) ?_
  refine zab rfl rfl rfl (op_fa rfl fo41_1 (ev1 rfl)) ?_
  refine zab rfl rfl rfl (op_ldm rfl tb3 (ev1 rfl) rfl rfl) ?_
  refine zab rfl rfl rfl (op_build (ps := [(0, .tmp 5), (1, .tmp 7)]) rfl fl96 zr96 (vc (ev1 rfl) (vc (ev1 rfl) vn)) rfl rfl) ?_
  refine walk_w rfl rfl rfl (op_alloc 1 rfl zr96 rfl) (by simp only [upd, za, zaa]; exact rfl) ?_
  refine walk_s rfl rfl (op_stwa rfl tb96 (ev1 rfl) (ev1 rfl) rfl rfl rfl rfl) (by simp only [upd, za, zaa]; exact rfl) ?_
  refine zae ?_
  refine zaf ?_
  refine zad ?_
  refine zab rfl rfl rfl (op_ldw rfl tb96 (ev1 rfl) rfl rfl) ?_
  refine zab rfl rfl rfl (zaj [] [] [] rfl (ev1 rfl) (ec (ev1 rfl) en) rfl rfl (smay_d _ _) rfl rfl rfl rfl rfl rfl) ?_
  refine zab rfl rfl rfl (op_not rfl (ev1 rfl)) ?_
  refine zab rfl rfl rfl (zac (.inl rfl) (ev1 rfl)) ?_
  refine zai (gd_f rfl rfl rfl) rfl rfl rfl (op_fa rfl fo41_2 (ev1 rfl)) ?_
  refine zai (gd_f rfl rfl rfl) rfl rfl rfl (op_ldm rfl tb22 (ev2 rfl) rfl rfl) ?_
  refine zai (gd_f rfl rfl rfl) rfl rfl rfl (op_len rfl sl22 (ev2 rfl)) ?_
  refine zai (gd_f rfl rfl rfl) rfl rfl rfl (op_fa rfl fo96_0 (ev1 rfl)) ?_
  refine zai (gd_f rfl rfl rfl) rfl rfl rfl (op_ldo rfl tb3 (ev2 rfl) rfl rfl) ?_
  refine zai (gd_f rfl rfl rfl) rfl rfl rfl (op_fa rfl fo96_1 (ev1 rfl)) ?_
  refine zai (gd_f rfl rfl rfl) rfl rfl rfl (op_ldo rfl tb3 (ev2 rfl) rfl rfl) ?_
  refine zai (gd_f rfl rfl rfl) rfl rfl rfl (op_mul rfl (ev2 rfl) (ev2 rfl)) ?_
  refine zai (gd_f rfl rfl rfl) rfl rfl rfl (op_neq rfl (ev2 rfl) (ev2 rfl)) ?_
  refine zab rfl rfl rfl (op_or rfl (ev1 rfl) (ev3 rfl id)) ?_
  refine zae ?_
  refine dwp_cond rfl (fun c1 => ?_) (fun c1 => ?_)
  · have hr : rightB w h ts = false := by
      cases hm : mayS w h with
      | false => unfold rightB; rw [hm]; rfl
      | true =>
        have hb := mul_in hm
        rw [hm, IntWalk.i64_in _ (by omega)] at c1
        simp at c1
        unfold rightB
        rw [decide_eq_false (by omega)]
        exact Bool.and_false _
    refine zaf ?_
    refine zad ?_
    refine zab rfl rfl rfl (zac (.inr rfl) (ev1 rfl)) ?_
    refine zae ?_
    refine dwp_ret ?_
    refine kend0 (rs1 rfl (rv_t rfl)) rfl ?_
    rw [hr]
    rfl
  · have hr : rightB w h ts = true := by
      cases hm : mayS w h with
      | false => rw [hm] at c1; simp at c1
      | true =>
        have hb := mul_in hm
        rw [hm, IntWalk.i64_in _ (by omega)] at c1
        simp at c1
        unfold rightB
        rw [hm, decide_eq_true (by omega)]
        rfl
    refine dwp_skip ?_
    refine zaf ?_
    refine zad ?_
    refine zab rfl rfl rfl (zac (.inr rfl) (ev1 rfl)) ?_
    refine zae ?_
    refine dwp_ret ?_
    refine kend0 (rs1 rfl (rv_t rfl)) rfl ?_
    rw [hr]
    rfl
end Go.Proofs.Ytcbfnbfhlofkiaa
namespace Go.Proofs.Ytcbfnbfhlofkiaa
set_option maxRecDepth 4000
set_option linter.unusedVariables false
set_option linter.unusedSimpArgs false
open Go.RowKit
theorem ar29 : arE Try.prog 29 = some (64, 4) := by kernel_rfl
theorem fl106 : fdL Try.prog 106 = some [(0, 2), (2, 1)] := by kernel_rfl
theorem fl27 : fdL Try.prog 27 = some [(0, 1), (1, 1), (2, 1), (3, 1)] := by kernel_rfl
theorem fo106_1 : fdO Try.prog 106 1 = some 2 := by kernel_rfl
theorem sl104 : slE Try.prog 104 = some (66, 1, 8) := by kernel_rfl
theorem tb104 : tyB Try.prog 104 = some (false, 1) := by kernel_rfl
theorem tb27 : tyB Try.prog 27 = some (true, 4) := by kernel_rfl
theorem zr106 : zrC Try.prog 106 = some [.int .i64 0, .int .i64 0, .slice none 0 0] := by kernel_rfl
theorem zr27 : zrC Try.prog 27 = some [.int .u8 0, .int .u8 0, .int .u8 0, .int .u8 0] := by kernel_rfl
theorem zr66 : zrC Try.prog 66 = some [.pointer none] := by kernel_rfl
theorem tc_sz (t : TL) : ([Value.agg (tc t).toArray].all fun v => v.cells.size == 256) = true := by
  show ((tc t).toArray.size == 256 && true) = true
  rw [List.size_toArray, tc_len]; rfl
theorem tc_fl (t : TL) : ([Value.agg (tc t).toArray].flatMap fun v => v.cells.toList) = tc t := by rw [List.flatMap_cons]; exact List.append_nil _
theorem tc_oc1 (t : TL) : ([Value.agg (tc t).toArray].flatMap fun v => v.cells.toList).all (·.oneCell') = true := by rw [tc_fl]; exact tc_oc t
set_option maxRecDepth 4000 in
set_option maxHeartbeats 1000000 in
theorem new_d (c : C4) : DFun Try.prog 63 [.val (.agg (c4 c).toArray)] [] (tD (nT c)) [] := by
  refine dcalls_go (N := 13) 0 (by kernel_rfl) Try.func63 rfl rfl rfl (by simp only [fr0, Nat.zero_add, Nat.reduceAdd]; exact rfl) rfl fun s0 hs0 => ?_
  refine zaf ?_
  refine zah 2 (by simp only [holes, List.cons_append, List.nil_append]; exact rfl) ?_
  refine zad ?_
  refine walk_w rfl rfl rfl (op_boxa 0 rfl (ev1 rfl) rfl) (by simp only [upd, za, zaa]; exact rfl) ?_
  refine walk_w rfl rfl rfl (op_alloc 1 rfl zr29 rfl) (by simp only [upd, za, zaa]; exact rfl) ?_
  refine zae ?_
  refine zaf ?_
  refine zah 1 (by simp only [holes, List.cons_append, List.nil_append]; exact rfl) ?_
  refine zad ?_
  refine walk_w rfl rfl rfl (op_alloc 2 rfl zr29 rfl) (by simp only [upd, za, zaa]; exact rfl) ?_
  refine zae ?_
  refine zaf ?_
  refine zaf ?_
  refine zad ?_
  refine zab rfl rfl rfl (zac (.inl rfl) (ev1 rfl)) ?_
  refine zae ?_
  refine dwp_block ?_
  refine dwp_loopS ⟨hs0, rfl⟩ (α := Nat) (fun k => [(5, .val (.int .i64 (k : Int)))]) [(1, _), (2, _), (3, _)] (fun k => [(2, .flat 29 (tc (newT c k)))]) [_, _, .hole] (fun k => k ≤ 64) (fun k => 64 - k) 0 [0, 1, 2] (by simp) rfl ⟨rfl, rfl, rfl, trivial⟩ ⟨rfl, trivial⟩ ⟨rfl, rfl, rfl, trivial⟩ ?_
  intro k hx
  simp only [upd, za, zaa, List.cons_append, List.nil_append]
  have hk := hx
  refine zaf ?_
  refine zad ?_
  refine zab rfl rfl rfl (op_lss rfl (ev1 rfl) (ev1 rfl)) ?_
  refine zae ?_
  refine zaf ?_
  refine dwp_cond rfl (fun c1 => ?_) (fun c1 => ?_)
  · try simp only [decide_eq_true_eq, decide_eq_false_iff_not, beq_iff_eq, bne_iff_ne, beq_eq_false_iff_ne, bne_eq_false_iff_eq, Bool.not_eq_true', Bool.not_eq_false', Bool.and_eq_true, Bool.or_eq_true, Bool.or_eq_false_iff, ne_eq, Decidable.not_not, Int.not_lt, Int.not_le] at c1
    refine dwp_skip ?_
    refine zaf ?_
    refine dwp_block ?_
    refine zaf ?_
    refine zad ?_
    refine zab rfl rfl rfl (zac (.inl rfl) (ev1 rfl)) ?_
    refine zab rfl rfl rfl (zac (.inr rfl) (ev1 rfl)) ?_
    refine zae ?_
    refine zad ?_
    refine zab rfl rfl rfl (zac (.inl rfl) (ev1 rfl)) ?_
    refine zab rfl rfl rfl (op_ldw rfl tb27 (ev1 rfl) rfl rfl) ?_
    refine zab rfl rfl rfl (op_ixfr (j := k) rfl ar29 (ev1 rfl) (ev1 rfl) (fun _ => by omega) (fun _ => by omega)) ?_
    refine walk_s rfl rfl (op_stfr (q := c) rfl tb27 (ev1 rfl) (ev1 rfl) rfl rfl rfl (fun _ => rfl) (fun _ => by rw [TL.h]; omega)) (by simp only [upd, za, zaa]; exact rfl) ?_
    refine zae ?_
    refine zad ?_
    refine zab rfl rfl rfl (op_add' rfl (ev1 rfl) (ev1 rfl) (fun _ => IntWalk.i64_in _ (by omega))) ?_
    refine zab rfl rfl rfl (zac (.inl rfl) (ev1 rfl)) ?_
    refine zae ?_
    refine ⟨k + 1, [0, 1, 2], by omega, by simp only []; omega, rfl, ⟨rfl, rfl, rfl, rfl, trivial⟩, ⟨rfl, rfl, by rw [newT_succ]; rfl, trivial⟩⟩
  · try simp only [decide_eq_true_eq, decide_eq_false_iff_not, beq_iff_eq, bne_iff_ne, beq_eq_false_iff_ne, bne_eq_false_iff_eq, Bool.not_eq_true', Bool.not_eq_false', Bool.and_eq_true, Bool.or_eq_true, Bool.or_eq_false_iff, ne_eq, Decidable.not_not, Int.not_lt, Int.not_le] at c1
    refine dwp_exit ?_
    refine zaf ?_
    refine zad ?_
    refine zab rfl rfl rfl (op_ldw rfl tb29 (ev1 rfl) rfl (tc_len _)) ?_
    refine walk_s rfl rfl (op_stwa rfl tb29 (ev1 rfl) (ev1 rfl) rfl (tc_len _) (tc_oc _) ((tc_len _).trans (tc_len _).symm)) (by simp only [upd, za, zaa]; exact rfl) ?_
    refine zae ?_
    refine dwp_ret ?_
    refine kend0 (rs1 rfl (rv_w tb29 rfl rfl (tc_len _))) rfl ?_
    rw [show k = 64 by omega, newT_end]
def pinsR (A : List Nat) (ts : List TL) : List D := (A.zip ts).map fun p => .pin p.1 (tc p.2)
theorem pinsR_len {A : List Nat} {ts : List TL} (h : A.length = ts.length) : (pinsR A ts).length = ts.length := by simp [pinsR, h]
theorem pinsR_at {A : List Nat} {ts : List TL} {q : Nat} {d : D} (hd : (pinsR A ts)[q]? = some d) : ∃ b t, A[q]? = some b ∧ ts[q]? = some t ∧ d = .pin b (tc t) := by
  unfold pinsR at hd
  rw [List.getElem?_map] at hd
  cases e : (A.zip ts)[q]? with
  | none => rw [e] at hd; cases hd
  | some p =>
    rw [e] at hd
    obtain ⟨h1, h2⟩ := List.getElem?_zip_eq_some.1 e
    cases hd
    exact ⟨p.1, p.2, h1, h2, rfl⟩
theorem nlL_all {l : List D} (h : ∀ d ∈ l, d.nl = true) : D.nlL l = true := by
  induction l with
  | nil => rfl
  | cons d l ih => rw [D.nlL, h d (by simp), ih fun e he => h e (by simp [he])]; rfl
theorem pinsR_ok {A : List Nat} {ts : List TL} (h : A.length = ts.length) : RowOk (pinsR A ts) ts := by
  have hm : ∀ d ∈ pinsR A ts, ∃ b t, d = .pin b (tc t) := fun d hd => by
    obtain ⟨q, hq⟩ := List.getElem?_of_mem hd
    obtain ⟨b, t, _, _, e⟩ := pinsR_at hq
    exact ⟨b, t, e⟩
  refine ⟨pinsR_len h, nlL_all fun d hd => ?_, List.all_eq_true.2 fun d hd => ?_, fun q d t h1 h2 => ?_⟩
  · obtain ⟨b, t, rfl⟩ := hm d hd; rfl
  · obtain ⟨b, t, rfl⟩ := hm d hd; rfl
  · obtain ⟨b, u, h3, h4, rfl⟩ := pinsR_at h1
    rw [h2] at h4
    cases h4
    exact Wk.pin _ _
theorem pinsR_add {A : List Nat} {ts : List TL} (h : A.length = ts.length) (b : Nat) (t : TL) : pinsR (A ++ [b]) (ts ++ [t]) = pinsR A ts ++ [.pin b (tc t)] := by
  unfold pinsR
  rw [List.zip_append h, List.map_append]
  rfl
theorem pinsR_rep (A : List Nat) (b : Nat) (t : TL) : pinsR A (List.replicate A.length t) ++ List.flatMap D.cs [.pin b (tc t)] = pinsR (A ++ [b]) (List.replicate (A ++ [b]).length t) := by
  rw [List.length_append, show A.length + [b].length = A.length + 1 from rfl, List.replicate_succ', pinsR_add (by simp)]
  rfl
def NewCv (I : Nat → Prop) (w h : Int) (ts : List TL) (d : D) : Prop := ∃ A : List Nat, A.length = ts.length ∧ (∀ b ∈ A, ¬ I b) ∧ d = cvD w h (pinsR A ts)
def Okd (Q : D → Prop) (d : D) : Prop := ∃ e, Q e ∧ d = .tup [e, .val (.int .i64 0)]
set_option maxRecDepth 4000 in
set_option maxHeartbeats 1000000 in
theorem cnew_i (w h : Int) (n : Nat) (hm : mayS w h = true) (hn : w * h = (n : Int)) : DFunI Try.prog 60 [.val (.int .i64 w), .val (.int .i64 h)] [] (fun I => Okd (NewCv I w h (List.replicate n (nT zC4)))) [] := by
  have hb := mul_in hm
  refine dcallsI_go (N := 36) 0 (by kernel_rfl) Try.func60 rfl rfl rfl (by simp only [fr0, Nat.zero_add, Nat.reduceAdd]; exact rfl) rfl fun s0 hs0 => ?_
  refine zaf ?_
  refine zad ?_
  refine zab rfl rfl rfl (zac (.inr rfl) (ev1 rfl)) ?_
  refine zab rfl rfl rfl (zac (.inr rfl) (ev1 rfl)) ?_
  refine zae ?_
  refine zaf ?_
  refine zah 1 (by simp only [holes, List.cons_append, List.nil_append]; exact rfl) ?_
  refine zad ?_
  refine zab rfl rfl rfl (zac (.inl rfl) (ev1 rfl)) ?_
  refine zab rfl rfl rfl (zac (.inl rfl) (ev1 rfl)) ?_
  refine zab rfl rfl rfl (op_build (ps := [(0, .tmp 9), (1, .tmp 10)]) rfl fl96 zr96 (vc (ev1 rfl) (vc (ev1 rfl) vn)) rfl rfl) ?_
  refine walk_w rfl rfl rfl (op_alloc 0 rfl zr96 rfl) (by simp only [upd, za, zaa]; exact rfl) ?_
  refine walk_s rfl rfl (op_stwa rfl tb96 (ev1 rfl) (ev1 rfl) rfl rfl rfl rfl) (by simp only [upd, za, zaa]; exact rfl) ?_
  refine zae ?_
  refine zaf ?_
  refine zaf ?_
  refine zad ?_
  refine zab rfl rfl rfl (op_ldw rfl tb96 (ev1 rfl) rfl rfl) ?_
  refine zab rfl rfl rfl (zaj [] [] [] rfl (ev1 rfl) (ec (ev1 rfl) en) rfl rfl (smay_d _ _) rfl rfl rfl rfl rfl rfl) ?_
  refine zab rfl rfl rfl (op_not rfl (ev1 rfl)) ?_
  refine zae ?_
  refine dwp_if_f rfl (by rw [hm]; rfl) ?_
  refine dwp_skip ?_
  refine zaf ?_
  refine zah 1 (by simp only [holes, List.cons_append, List.nil_append]; exact rfl) ?_
  refine zad ?_
  refine zab rfl rfl rfl (op_ldw rfl tb96 (ev1 rfl) rfl rfl) ?_
  refine zab rfl rfl rfl (op_build (ps := [(0, .tmp 15)]) rfl fl106 zr106 (vc (ev1 rfl) vn) rfl rfl) ?_
  refine walk_w rfl rfl rfl (op_boxa 1 rfl (ev1 rfl) rfl) (by simp only [upd, za, zaa]; exact rfl) ?_
  refine zab rfl rfl rfl (zac (.inr rfl) (ev1 rfl)) ?_
  refine zae ?_
  refine zaf ?_
  refine zaf ?_
  refine dwp_reb 1 reb_mix rfl rfl (by simp only [List.cons_append, List.nil_append, za, zaa, List.map]; exact rfl) ?_
  refine dwp_adoptc (l' := [.val (.int .i64 w), .val (.int .i64 h), .arr 2]) 1 2 66 1 rfl rfl rfl rfl (by simp only [List.cons_append, List.nil_append, za, zaa]; exact rfl) ?_
  refine zad ?_
  refine zab rfl rfl rfl (zac (.inl rfl) (ev1 rfl)) ?_
  refine zab rfl rfl rfl (zac (.inl rfl) (ev1 rfl)) ?_
  refine zab rfl rfl rfl (op_mul' rfl (ev1 rfl) (ev1 rfl) (fun _ => IntWalk.i64_in _ (by omega))) ?_
  refine zab rfl rfl rfl (zac (.inl rfl) (ev1 rfl)) ?_
  refine zae ?_
  refine dwp_block ?_
  refine dwp_loopS ⟨hs0, rfl⟩ (α := List Nat) (fun A => [(21, .val (.int .i64 (A.length : Int)))]) [(7, _), (20, _)] (fun A => [(2, .arx 66 1 A.length (pinsR A (List.replicate A.length (nT zC4))))]) [_, _, .hole] (fun A => A.length ≤ n ∧ ∀ b ∈ A, ¬ s0.I b) (fun A => n - A.length) [] [0, 1, 2] (⟨Nat.zero_le _, fun b hb => by simp at hb⟩) rfl ⟨rfl, rfl, trivial⟩ ⟨rfl, trivial⟩ ⟨rfl, rfl, rfl, trivial⟩ ?_
  intro A hx
  simp only [upd, za, zaa, List.cons_append, List.nil_append]
  obtain ⟨hA, hAI⟩ := hx
  refine zaf ?_
  refine zad ?_
  refine zab rfl rfl rfl (op_lss rfl (ev1 rfl) (ev1 rfl)) ?_
  refine zae ?_
  refine zaf ?_
  refine dwp_cond rfl (fun c2 => ?_) (fun c2 => ?_)
  · try simp only [decide_eq_true_eq, decide_eq_false_iff_not, beq_iff_eq, bne_iff_ne, beq_eq_false_iff_ne, bne_eq_false_iff_eq, Bool.not_eq_true', Bool.not_eq_false', Bool.and_eq_true, Bool.or_eq_true, Bool.or_eq_false_iff, ne_eq, Decidable.not_not, Int.not_lt, Int.not_le] at c2
    refine dwp_skip ?_
    refine zaf ?_
    refine dwp_block ?_
    refine zaf ?_
    refine zah 1 (by simp only [holes, List.cons_append, List.nil_append]; exact rfl) ?_
    refine zad ?_
    refine zab rfl rfl rfl (op_build0 rfl fl27 zr27) ?_
    refine zab rfl rfl rfl (zaj [] [] [] rfl (ev1 rfl) (ec (ev1 rfl) en) rfl rfl (new_d zC4) rfl rfl rfl rfl rfl rfl) ?_
    refine walk_w rfl rfl rfl (op_alloc 3 rfl zr29 rfl) (by simp only [upd, za, zaa]; exact rfl) ?_
    refine walk_s rfl rfl (op_stwa rfl tb29 (ev1 rfl) (ev1 rfl) rfl (tc_len _) (tc_oc _) ((tc_len _).trans (tc_len _).symm)) (by simp only [upd, za, zaa]; exact rfl) ?_
    refine zae ?_
    refine dwp_pin 8 rfl rfl (by simp only [za, zaa]; exact rfl) fun b hb => ?_
    refine zah 1 (by simp only [holes, List.cons_append, List.nil_append]; exact rfl) ?_
    refine zad ?_
    refine zab rfl rfl rfl (zac (.inl rfl) (ev1 rfl)) ?_
    refine zab rfl rfl rfl (zac (.inl rfl) (ev1 rfl)) ?_
    refine zab rfl rfl rfl (op_nc rfl (ev1 rfl) (fun s v h => by cases h; exact ⟨_, rfl⟩)) ?_
    refine zab rfl rfl rfl (op_fa rfl fo106_1 (ev1 rfl)) ?_
    refine zab rfl rfl rfl (op_ldm rfl tb104 (ev1 rfl) rfl rfl) ?_
    refine zab rfl rfl rfl (op_bsr (ps := [(0, .tmp 8)]) rfl sl104 zr66 rfl (ec (ev1 rfl) en) rfl rfl rfl (by rfl) rfl (by decide) (by decide)) ?_
    refine walk_w rfl rfl rfl (op_appr (j := 4) rfl sl104 zr66 rfl (ev1 rfl) (ev1 rfl) rfl rfl (rfl) (fun _ => ⟨by omega, by omega⟩)) (by simp only [upd, za, zaa]; exact rfl) ?_
    refine zab rfl rfl rfl (op_nc rfl (ev1 rfl) (fun s v h => by cases h; exact ⟨_, rfl⟩)) ?_
    refine zab rfl rfl rfl (op_fa rfl fo106_1 (ev1 rfl)) ?_
    refine walk_s rfl rfl (op_stm rfl tb104 (ev1 rfl) (ev1 rfl) (fun s v h => by cases h <;> exact ⟨rfl, rfl⟩) rfl (by first | decide | exact Nat.le_of_ble_eq_true rfl | simp)) (by simp only [upd, za, zaa]; exact rfl) ?_
    refine zae ?_
    refine zad ?_
    refine zab rfl rfl rfl (op_add' rfl (ev1 rfl) (ev1 rfl) (fun _ => IntWalk.i64_in _ (by omega))) ?_
    refine zab rfl rfl rfl (zac (.inl rfl) (ev1 rfl)) ?_
    refine zae ?_
    refine ⟨A ++ [b], [0, 1, 4], ⟨by simp; omega, fun c hc => by
    rcases List.mem_append.1 hc with hc | hc
    · exact hAI c hc
    · simp at hc; subst hc; exact hb⟩, by simp; omega, rfl, ⟨by rw [List.length_append]; rfl, rfl, rfl, trivial⟩, ⟨rfl, rfl, arxn_fits (by rw [pinsR_rep]; exact (pinsR_ok (by simp)).nl) (by simp) (pinsR_rep _ _ _), trivial⟩⟩
  · try simp only [decide_eq_true_eq, decide_eq_false_iff_not, beq_iff_eq, bne_iff_ne, beq_eq_false_iff_ne, bne_eq_false_iff_eq, Bool.not_eq_true', Bool.not_eq_false', Bool.and_eq_true, Bool.or_eq_true, Bool.or_eq_false_iff, ne_eq, Decidable.not_not, Int.not_lt, Int.not_le] at c2
    refine dwp_exit ?_
    refine zaf ?_
    refine zad ?_
    refine zab rfl rfl rfl (zac (.inl rfl) (ev1 rfl)) ?_
    refine zab rfl rfl rfl (zac (.inr rfl) (ev1 rfl)) ?_
    refine zab rfl rfl rfl (zac (.inr rfl) (ev1 rfl)) ?_
    refine zae ?_
    refine dwp_givem 1 2 ((pinsR_ok (by simp)).nl) rfl rfl rfl (by simp only [za, zaa]; exact rfl) ?_
    refine dwp_ret ?_
    refine kendI (post := fun I => Okd (NewCv I w h (List.replicate n (nT zC4)))) (I := s0.I) (Mo := []) [] (rs2 rfl (rv_t rfl) (rv_t rfl)) rfl rfl ?_ trivial
    obtain rfl : A.length = n := by omega
    exact ⟨_, ⟨A, by simp, hAI, rfl⟩, by rw [cvD, pinsR_len (by simp), List.length_replicate]; rfl⟩
end Go.Proofs.Ytcbfnbfhlofkiaa
namespace Go.Proofs.Ytcbfnbfhlofkiaa
set_option maxRecDepth 4000
set_option linter.unusedVariables false
set_option linter.unusedSimpArgs false
open Go.RowKit
def runG : List C4 → List (Nat × C4)
  | [] => []
  | c :: l => match runG l with
    | [] => [(1, c)]
    | (n, d) :: r => if c = d then (n + 1, d) :: r else (1, c) :: (n, d) :: r
def flatG (rs : List (Nat × C4)) : List C4 := rs.flatMap fun r => List.replicate r.1 r.2
def goodG : List (Nat × C4) → Prop
  | [] => True
  | [r] => 1 ≤ r.1
  | r :: q :: rs => 1 ≤ r.1 ∧ r.2 ≠ q.2 ∧ goodG (q :: rs)
theorem goodG_tail {r : Nat × C4} {rs : List (Nat × C4)} (h : goodG (r :: rs)) : goodG rs := by
  cases rs with
  | nil => trivial
  | cons q rs => exact h.2.2
theorem goodG_pos : ∀ {rs : List (Nat × C4)}, goodG rs → ∀ r ∈ rs, 1 ≤ r.1
  | [], _, r, hr => by simp at hr
  | [a], h, r, hr => by obtain rfl := List.mem_singleton.1 hr; exact h
  | a :: b :: rs, h, r, hr => by
    rcases List.mem_cons.1 hr with rfl | hr
    · exact h.1
    · exact goodG_pos h.2.2 r hr
theorem flat_runG : ∀ l : List C4, flatG (runG l) = l
  | [] => rfl
  | c :: l => by
    have ih := flat_runG l
    rw [runG]
    cases hr : runG l with
    | nil =>
      rw [hr] at ih
      simp only [flatG, List.flatMap_nil] at ih
      subst ih
      rfl
    | cons a r =>
      obtain ⟨n, d⟩ := a
      rw [hr] at ih
      simp only
      split
      · rename_i e
        subst e
        rw [← ih]
        simp only [flatG, List.flatMap_cons, List.replicate_succ, List.cons_append]
      · rw [← ih]
        simp only [flatG, List.flatMap_cons, List.replicate_succ, List.replicate_zero, List.cons_append, List.nil_append]
theorem good_runG : ∀ l : List C4, goodG (runG l)
  | [] => trivial
  | c :: l => by
    have ih := good_runG l
    rw [runG]
    cases hr : runG l with
    | nil => exact Nat.le_refl 1
    | cons a r =>
      obtain ⟨n, d⟩ := a
      rw [hr] at ih
      simp only
      split
      · cases r with
        | nil => exact Nat.le_add_left 1 n
        | cons b r => exact ⟨Nat.le_add_left 1 n, ih.2.1, ih.2.2⟩
      · rename_i e
        exact ⟨Nat.le_refl 1, e, ih⟩
theorem runG_rep (c : C4) (rs : List (Nat × C4)) : ∀ n : Nat, goodG ((n + 1, c) :: rs) → runG (flatG rs) = rs → runG (List.replicate (n + 1) c ++ flatG rs) = (n + 1, c) :: rs
  | 0, h, hr => by
    rw [List.replicate_succ, List.replicate_zero, List.cons_append, List.nil_append, runG, hr]
    cases rs with
    | nil => rfl
    | cons q rs =>
      obtain ⟨m, d⟩ := q
      simp only
      rw [if_neg h.2.1]
  | n + 1, h, hr => by
    have hg : goodG ((n + 1, c) :: rs) := by
      cases rs with
      | nil => exact Nat.le_add_left 1 n
      | cons q rs => exact ⟨Nat.le_add_left 1 n, h.2.1, h.2.2⟩
    rw [List.replicate_succ, List.cons_append, runG, runG_rep c rs n hg hr]
    exact if_pos rfl
theorem runG_flat : ∀ rs : List (Nat × C4), goodG rs → runG (flatG rs) = rs
  | [], _ => rfl
  | (n, c) :: rs, h => by
    have hr := runG_flat rs (goodG_tail h)
    have hn : 1 ≤ n := goodG_pos h (n, c) (List.mem_cons_self ..)
    obtain ⟨m, rfl⟩ : ∃ m, n = m + 1 := ⟨n - 1, by omega⟩
    have e : flatG ((m + 1, c) :: rs) = List.replicate (m + 1) c ++ flatG rs := by unfold flatG; rw [List.flatMap_cons]
    rw [e]
    exact runG_rep c rs m h hr
def encG (r : Nat × C4) : List Int := [(r.1 : Int), r.2.r, r.2.g, r.2.b, r.2.a]
def bytesG (rs : List (Nat × C4)) : List Int := rs.flatMap encG
theorem bytesG_len (rs : List (Nat × C4)) : (bytesG rs).length = rs.length * 5 := by
  induction rs with
  | nil => rfl
  | cons r rs ih =>
    unfold bytesG at *
    rw [List.flatMap_cons, List.length_append, ih, List.length_cons]
    show 5 + rs.length * 5 = _
    omega
def mayG (acc : List C4) (n : Int) (c : C4) : Bool := decide (1 ≤ n) && decide (n ≤ 64 - (acc.length : Int)) && !decide (acc.getLast? = some c)
def rdG : Nat → List C4 → List Int → Option (List C4 × List Int)
  | 0, _, _ => none
  | f + 1, acc, n :: r :: g :: b :: a :: rest => if mayG acc n ⟨r, g, b, a⟩ = true then (if acc.length + n.toNat = 64 then some (acc ++ List.replicate n.toNat ⟨r, g, b, a⟩, rest) else rdG f (acc ++ List.replicate n.toNat ⟨r, g, b, a⟩) rest) else none
  | _ + 1, _, _ => none
theorem rdG_enc : ∀ (f : Nat) (acc : List C4) (b : List Int) (l : List C4) (rest : List Int), rdG f acc b = some (l, rest) → acc.length < 64 →
    ∃ rs : List (Nat × C4), rs ≠ [] ∧ l = acc ++ flatG rs ∧ b = bytesG rs ++ rest ∧ goodG rs ∧ l.length = 64 ∧ ∀ r ∈ rs.head?, acc.getLast? ≠ some r.2
  | 0, acc, b, l, rest, h, _ => by cases h
  | f + 1, acc, [], l, rest, h, _ => by cases h
  | f + 1, acc, [_], l, rest, h, _ => by cases h
  | f + 1, acc, [_, _], l, rest, h, _ => by cases h
  | f + 1, acc, [_, _, _], l, rest, h, _ => by cases h
  | f + 1, acc, [_, _, _, _], l, rest, h, _ => by cases h
  | f + 1, acc, n :: r :: g :: b :: a :: bs, l, rest, h, hl => by
    rw [rdG] at h
    by_cases hm : mayG acc n ⟨r, g, b, a⟩ = true
    · rw [if_pos hm] at h
      unfold mayG at hm
      simp only [Bool.and_eq_true, decide_eq_true_eq, Bool.not_eq_true', decide_eq_false_iff_not] at hm
      obtain ⟨⟨h1, h2⟩, h3⟩ := hm
      obtain ⟨m, hm⟩ : ∃ m : Nat, n = (m : Int) := ⟨n.toNat, by omega⟩
      subst hm
      rw [Int.toNat_natCast] at h
      have he : encG (m, ⟨r, g, b, a⟩) = [(m : Int), r, g, b, a] := rfl
      by_cases h64 : acc.length + m = 64
      · rw [if_pos h64] at h
        obtain ⟨e1, e2⟩ := Prod.mk.inj (Option.some.inj h)
        subst e1 e2
        refine ⟨[(m, ⟨r, g, b, a⟩)], by simp, by simp [flatG], rfl, by show 1 ≤ m; omega, by rw [List.length_append, List.length_replicate]; exact h64, fun q hq => ?_⟩
        obtain rfl := Option.some.inj hq
        exact h3
      · rw [if_neg h64] at h
        obtain ⟨rs, g0, g1, g2, g3, g4, g5⟩ := rdG_enc f _ bs l rest h (by rw [List.length_append, List.length_replicate]; omega)
        refine ⟨(m, ⟨r, g, b, a⟩) :: rs, by simp, ?_, ?_, ?_, g4, fun q hq => ?_⟩
        · rw [g1, List.append_assoc]; simp [flatG]
        · rw [g2]; rfl
        · cases rs with
          | nil => exact absurd rfl g0
          | cons q rs =>
            refine ⟨by show 1 ≤ m; omega, fun e => ?_, g3⟩
            refine g5 q rfl ?_
            rw [List.getLast?_append, List.getLast?_replicate, if_neg (by omega)]
            simp only [Option.some_or]
            exact congrArg some e
        · obtain rfl := Option.some.inj hq
          exact h3
    · rw [if_neg hm] at h; cases h
theorem rdG_back : ∀ (rs : List (Nat × C4)) (f : Nat) (acc : List C4) (rest : List Int), rs ≠ [] → goodG rs → (acc ++ flatG rs).length = 64 → (∀ r ∈ rs.head?, acc.getLast? ≠ some r.2) → rs.length ≤ f → rdG f acc (bytesG rs ++ rest) = some (acc ++ flatG rs, rest)
  | [], _, _, _, h, _, _, _, _ => absurd rfl h
  | (m, c) :: rs, 0, _, _, _, _, _, _, h => by simp at h
  | (m, c) :: rs, f + 1, acc, rest, _, hg, hl, hh, hf => by
    have h1 : 1 ≤ m := goodG_pos hg (m, c) (List.mem_cons_self ..)
    have efl : flatG ((m, c) :: rs) = List.replicate m c ++ flatG rs := by unfold flatG; rw [List.flatMap_cons]
    have eb : bytesG ((m, c) :: rs) ++ rest = (m : Int) :: c.r :: c.g :: c.b :: c.a :: (bytesG rs ++ rest) := by unfold bytesG; rw [List.flatMap_cons]; rfl
    rw [efl, List.length_append, List.length_append, List.length_replicate] at hl
    rw [eb, rdG, efl]
    have hm : mayG acc (m : Int) ⟨c.r, c.g, c.b, c.a⟩ = true := by
      unfold mayG
      simp only [Bool.and_eq_true, decide_eq_true_eq, Bool.not_eq_true', decide_eq_false_iff_not]
      exact ⟨⟨by omega, by omega⟩, hh _ rfl⟩
    rw [if_pos hm, Int.toNat_natCast]
    cases rs with
    | nil =>
      have e0 : (flatG ([] : List (Nat × C4))).length = 0 := rfl
      rw [if_pos (by omega)]
      simp [flatG, bytesG]
    | cons q rs =>
      have hq : 1 ≤ q.1 := goodG_pos (goodG_tail hg) q (List.mem_cons_self ..)
      have e0 : (flatG (q :: rs)).length = q.1 + (flatG rs).length := by unfold flatG; rw [List.flatMap_cons, List.length_append, List.length_replicate]
      rw [if_neg (by omega), ← List.append_assoc]
      refine rdG_back (q :: rs) f (acc ++ List.replicate m c) rest (by simp) (goodG_tail hg) (by rw [List.length_append, List.length_append, List.length_replicate]; omega) (fun r hr => ?_) (by simpa using hf)
      obtain rfl := Option.some.inj hr
      rw [List.getLast?_append, List.getLast?_replicate, if_neg (by omega)]
      simp only [Option.some_or]
      exact fun e => hg.2.1 (Option.some.inj e)
theorem runG_len : ∀ l : List C4, (runG l).length ≤ l.length
  | [] => Nat.le_refl 0
  | c :: l => by
    have ih := runG_len l
    rw [runG]
    cases hr : runG l with
    | nil => exact Nat.le_add_left 1 _
    | cons a r =>
      obtain ⟨n, d⟩ := a
      rw [hr] at ih
      simp only
      split
      · rw [List.length_cons] at ih ⊢; rw [List.length_cons]; omega
      · rw [List.length_cons] at ih ⊢; rw [List.length_cons, List.length_cons]; omega
theorem rdG_iff {f : Nat} (hf : 64 ≤ f) {b : List Int} {l : List C4} {rest : List Int} : rdG f [] b = some (l, rest) ↔ l.length = 64 ∧ b = bytesG (runG l) ++ rest := by
  constructor
  · intro h
    obtain ⟨rs, _, h1, h2, h3, h4, _⟩ := rdG_enc f [] b l rest h (by decide)
    rw [List.nil_append] at h1
    have e : runG l = rs := by rw [h1]; exact runG_flat rs h3
    exact ⟨h4, by rw [e]; exact h2⟩
  · rintro ⟨h1, h2⟩
    have hl := runG_len l
    have hne : runG l ≠ [] := fun e => by
      have := flat_runG l
      rw [e] at this
      rw [← this] at h1
      exact absurd h1 (by decide)
    have := rdG_back (runG l) f [] rest hne (good_runG l) (by rw [List.nil_append, flat_runG]; exact h1) (fun r _ => by simp) (by omega)
    rw [List.nil_append, flat_runG] at this
    rw [h2]
    exact this
def tileB (t : TL) : List Int := bytesG (runG t.l)
def rdT (b : List Int) : Option (TL × List Int) := match h : rdG 64 [] b with
  | some x => some (⟨x.1, ((rdG_iff (Nat.le_refl 64)).1 (h.trans (by rfl) : rdG 64 [] b = some (x.1, x.2))).1⟩, x.2)
  | none => none
theorem rdT_iff {b : List Int} {t : TL} {rest : List Int} : rdT b = some (t, rest) ↔ b = tileB t ++ rest := by
  unfold rdT tileB
  constructor
  · intro h
    split at h
    · rename_i x hx
      have hx : rdG 64 [] b = some (x.1, x.2) := hx
      obtain ⟨e1, e2⟩ := Prod.mk.inj (Option.some.inj h)
      subst e1 e2
      exact ((rdG_iff (Nat.le_refl 64)).1 hx).2
    · cases h
  · intro h
    have hx : rdG 64 [] b = some (t.l, rest) := (rdG_iff (Nat.le_refl 64)).2 ⟨t.h, h⟩
    split
    · rename_i x hy
      rw [hx] at hy
      obtain rfl := Option.some.inj hy
      rfl
    · rename_i hy
      rw [hx] at hy
      cases hy
theorem tileB_first (t : TL) : ∃ n : Nat, 1 ≤ n ∧ ∃ bs, tileB t = (n : Int) :: bs := by
  unfold tileB
  have hg := good_runG t.l
  cases hr : runG t.l with
  | nil =>
    have := flat_runG t.l
    rw [hr] at this
    have h := t.h
    rw [← this] at h
    exact absurd h (by decide)
  | cons r rs =>
    rw [hr] at hg
    refine ⟨r.1, goodG_pos hg r (List.mem_cons_self ..), [r.2.r, r.2.g, r.2.b, r.2.a] ++ bytesG rs, ?_⟩
    unfold bytesG
    rw [List.flatMap_cons]
    rfl
def tilesB (kn : List TL → TL) : List TL → List TL → List Int
  | _, [] => []
  | acc, t :: ts => (if t = kn acc then [0] else tileB t) ++ tilesB kn (acc ++ [t]) ts
def aheadK (acc : List TL) : TL := acc.getLastD zT
def thereK (old : List TL) (acc : List TL) : TL := old.getD acc.length zT
def canvasB (w h : Int) (ts : List TL) : List Int := w :: h :: tilesB aheadK [] ts
def patchB (w h : Int) (old ts : List TL) : List Int := w :: h :: tilesB (thereK old) [] ts
def posG (rs : List (Nat × C4)) (i : Nat) : Nat := (flatG (rs.take i)).length
theorem flatG_app (a b : List (Nat × C4)) : flatG (a ++ b) = flatG a ++ flatG b := by unfold flatG; rw [List.flatMap_append]
theorem flatG_one (r : Nat × C4) : flatG [r] = List.replicate r.1 r.2 := by simp [flatG]
theorem posG_zero (rs : List (Nat × C4)) : posG rs 0 = 0 := rfl
theorem posG_add {rs : List (Nat × C4)} {i : Nat} (hi : i < rs.length) : posG rs (i + 1) = posG rs i + rs[i].1 := by
  unfold posG
  rw [List.take_succ_eq_append_getElem hi, flatG_app, List.length_append, flatG_one, List.length_replicate]
theorem posG_end (rs : List (Nat × C4)) : posG rs rs.length = (flatG rs).length := by unfold posG; rw [List.take_length]
theorem posG_split {rs : List (Nat × C4)} {i : Nat} (hi : i < rs.length) : flatG rs = flatG (rs.take i) ++ (List.replicate rs[i].1 rs[i].2 ++ flatG (rs.drop (i + 1))) := by
  conv => lhs; rw [← List.take_append_drop i rs, List.drop_eq_getElem_cons hi]
  rw [flatG_app]
  congr 1
theorem posG_le {rs : List (Nat × C4)} {i : Nat} (hi : i < rs.length) : posG rs i + rs[i].1 ≤ (flatG rs).length := by
  have h1 := congrArg List.length (posG_split hi)
  rw [List.length_append, List.length_append, List.length_replicate] at h1
  unfold posG
  omega
theorem posG_get {rs : List (Nat × C4)} {i m : Nat} (hi : i < rs.length) (hm : m < rs[i].1) : (flatG rs)[posG rs i + m]? = some rs[i].2 := by
  rw [posG_split hi]
  unfold posG
  rw [List.getElem?_append_right (by omega), Nat.add_sub_cancel_left, List.getElem?_append_left (by rw [List.length_replicate]; exact hm), List.getElem?_replicate, if_pos hm]
theorem posG_next {rs : List (Nat × C4)} (hg : goodG rs) {i : Nat} (hi : i < rs.length) : (flatG rs)[posG rs i + rs[i].1]? ≠ some rs[i].2 := by
  rw [← posG_add hi]
  by_cases h : i + 1 < rs.length
  · have hp : 1 ≤ rs[i + 1].1 := goodG_pos hg _ (List.getElem_mem h)
    have := posG_get h (m := 0) (by omega)
    rw [Nat.add_zero] at this
    rw [this]
    have key : ∀ (l : List (Nat × C4)) (hl : goodG l) (j : Nat) (hj : j + 1 < l.length), l[j].2 ≠ l[j + 1].2 := by
      intro l
      induction l with
      | nil => intro _ j hj; simp at hj
      | cons a l ih =>
        intro hl j hj
        cases j with
        | zero =>
          cases l with
          | nil => simp at hj
          | cons b l => exact hl.2.1
        | succ j => exact ih (goodG_tail hl) j (by simpa using hj)
    exact fun e => key rs hg i h (Option.some.inj e).symm
  · have e : i + 1 = rs.length := by omega
    rw [e, posG_end, List.getElem?_eq_none (Nat.le_refl _)]
    exact fun h => by cases h
theorem runG_pos (t : TL) : posG (runG t.l) (runG t.l).length = 64 := by rw [posG_end, flat_runG, t.h]
theorem runG_bd {t : TL} {i : Nat} (hi : i < (runG t.l).length) : 1 ≤ (runG t.l)[i].1 ∧ posG (runG t.l) i + (runG t.l)[i].1 ≤ 64 := by
  refine ⟨goodG_pos (good_runG t.l) _ (List.getElem_mem hi), ?_⟩
  have := posG_le hi
  rw [flat_runG, t.h] at this
  exact this
theorem runG_at {t : TL} {i m : Nat} (hi : i < (runG t.l).length) (hm : m < (runG t.l)[i].1) : t.get (posG (runG t.l) i + m) = (runG t.l)[i].2 := by
  have := posG_get hi hm
  rw [flat_runG] at this
  unfold TL.get
  rw [List.getD_eq_getElem?_getD, this]
  rfl
theorem runG_not {t : TL} {i : Nat} (hi : i < (runG t.l).length) (h64 : posG (runG t.l) i + (runG t.l)[i].1 < 64) : t.get (posG (runG t.l) i + (runG t.l)[i].1) ≠ (runG t.l)[i].2 := by
  have := posG_next (good_runG t.l) hi
  rw [flat_runG] at this
  unfold TL.get
  rw [List.getD_eq_getElem?_getD, List.getElem?_eq_getElem (by rw [t.h]; exact h64)]
  rw [List.getElem?_eq_getElem (by rw [t.h]; exact h64)] at this
  exact fun e => this (congrArg some e)
theorem bytesG_nil : bytesG [] = [] := rfl
def padL (acc : List C4) : List C4 := acc ++ List.replicate (64 - acc.length) zC4
def padT (acc : List C4) : TL := if h : acc.length ≤ 64 then ⟨padL acc, by unfold padL; rw [List.length_append, List.length_replicate]; omega⟩ else zT
theorem padT_l {acc : List C4} (h : acc.length ≤ 64) : (padT acc).l = padL acc := by unfold padT; rw [dif_pos h]
theorem padT_nil : padT [] = zT := TL.ext (by rw [padT_l (by decide)]; rfl)
theorem padT_set {acc : List C4} {c : C4} (h : acc.length < 64) : (padT acc).set acc.length c = padT (acc ++ [c]) := TL.ext (by
  show ((padT acc).l).set acc.length c = _
  rw [padT_l (by omega), padT_l (by simp; omega)]
  unfold padL
  rw [List.set_append_right _ _ (Nat.le_refl _), Nat.sub_self, List.length_append, show 64 - acc.length = (64 - (acc.length + [c].length)) + 1 by simp; omega, List.replicate_succ, za, List.append_assoc]
  rfl)
theorem padT_rep {acc : List C4} {c : C4} {k : Nat} (h : acc.length + k < 64) : (padT (acc ++ List.replicate k c)).set (acc.length + k) c = padT (acc ++ List.replicate (k + 1) c) := by
  have hl : (acc ++ List.replicate k c).length = acc.length + k := by simp
  have := padT_set (acc := acc ++ List.replicate k c) (c := c) (by omega)
  rw [hl] at this
  rw [this, List.append_assoc, List.replicate_succ']
theorem padT_get {acc : List C4} {c : C4} (h0 : 0 < acc.length) (h : acc.length ≤ 64) : (padT acc).get (acc.length - 1) = c ↔ acc.getLast? = some c := by
  unfold TL.get
  rw [padT_l h]
  unfold padL
  rw [List.getD_eq_getElem?_getD, List.getElem?_append_left (by omega), List.getLast?_eq_getElem?, List.getElem?_eq_getElem (by omega)]
  simp
theorem padT_full {l : List C4} (h : l.length = 64) : padT l = ⟨l, h⟩ := TL.ext (by rw [padT_l (by omega)]; unfold padL; rw [h]; simp)
def bAt (B : List Int) (p : Nat) : Int := B.getD p 0
theorem bAt_eq {B : List Int} {p : Nat} (h : p < B.length) : bAt B p = B[p] := by unfold bAt; rw [List.getD_eq_getElem?_getD, List.getElem?_eq_getElem h]; rfl
def isB (B : List Int) : Prop := ∀ z ∈ B, 0 ≤ z ∧ z ≤ 255
theorem bAt_in {B : List Int} (hB : isB B) (p : Nat) : 0 ≤ bAt B p ∧ bAt B p ≤ 255 := by
  unfold bAt
  rw [List.getD_eq_getElem?_getD]
  cases h : B[p]? with
  | none => decide
  | some z => exact hB z (List.mem_of_getElem? h)
def runAt (B : List Int) (p : Nat) : Int × C4 := (bAt B p, ⟨bAt B (p + 1), bAt B (p + 2), bAt B (p + 3), bAt B (p + 4)⟩)
theorem drop_one {B : List Int} {p : Nat} (h : p < B.length) : B.drop p = bAt B p :: B.drop (p + 1) := by
  rw [List.drop_eq_getElem_cons h, bAt_eq h]
theorem mayG_iff {acc : List C4} {n : Int} {c : C4} : mayG acc n c = true ↔ (1 ≤ n ∧ n ≤ 64 - (acc.length : Int)) ∧ acc.getLast? ≠ some c := by
  unfold mayG
  simp [and_assoc]
def rdP (B : List Int) : Nat → List C4 → Nat → Option (List C4 × Nat)
  | 0, _, _ => none
  | f + 1, acc, p => if p + 5 ≤ B.length then (if mayG acc (runAt B p).1 (runAt B p).2 = true then (if acc.length + (runAt B p).1.toNat = 64 then some (acc ++ List.replicate (runAt B p).1.toNat (runAt B p).2, p + 5) else rdP B f (acc ++ List.replicate (runAt B p).1.toNat (runAt B p).2) (p + 5)) else none) else none
theorem rdG_short {f : Nat} {acc : List C4} : ∀ {b : List Int}, b.length < 5 → rdG (f + 1) acc b = none
  | [], _ => rfl
  | [_], _ => rfl
  | [_, _], _ => rfl
  | [_, _, _], _ => rfl
  | [_, _, _, _], _ => rfl
  | _ :: _ :: _ :: _ :: _ :: _, h => by simp at h; omega
theorem rdP_eq (B : List Int) : ∀ (f : Nat) (acc : List C4) (p : Nat), p ≤ B.length → rdG f acc (B.drop p) = (rdP B f acc p).map fun x => (x.1, B.drop x.2)
  | 0, _, _, _ => rfl
  | f + 1, acc, p, h => by
    rw [rdP]
    by_cases h5 : p + 5 ≤ B.length
    · rw [if_pos h5, drop_one (by omega), drop_one (p := p + 1) (by omega), drop_one (p := p + 1 + 1) (by omega), drop_one (p := p + 1 + 1 + 1) (by omega), drop_one (p := p + 1 + 1 + 1 + 1) (by omega), rdG]
      show (if mayG acc (runAt B p).1 (runAt B p).2 = true then (if acc.length + (runAt B p).1.toNat = 64 then some (acc ++ List.replicate (runAt B p).1.toNat (runAt B p).2, B.drop (p + 5)) else rdG f (acc ++ List.replicate (runAt B p).1.toNat (runAt B p).2) (B.drop (p + 5))) else none) = _
      by_cases hm : mayG acc (runAt B p).1 (runAt B p).2 = true
      · rw [if_pos hm, if_pos hm]
        by_cases h6 : acc.length + (runAt B p).1.toNat = 64
        · rw [if_pos h6, if_pos h6]; rfl
        · rw [if_neg h6, if_neg h6]; exact rdP_eq B f _ (p + 5) h5
      · rw [if_neg hm, if_neg hm]; rfl
    · rw [if_neg h5, rdG_short (by rw [List.length_drop]; omega)]; rfl
theorem rdP_some {B : List Int} {f : Nat} {acc l : List C4} {p q : Nat} (h : rdP B f acc p = some (l, q)) : p + 5 ≤ B.length ∧ mayG acc (runAt B p).1 (runAt B p).2 = true ∧
    (acc.length + (runAt B p).1.toNat = 64 → l = acc ++ List.replicate (runAt B p).1.toNat (runAt B p).2 ∧ q = p + 5) ∧ (acc.length + (runAt B p).1.toNat ≠ 64 → rdP B (f - 1) (acc ++ List.replicate (runAt B p).1.toNat (runAt B p).2) (p + 5) = some (l, q)) := by
  cases f with
  | zero => cases h
  | succ f =>
    rw [rdP] at h
    split at h
    · rename_i h5
      split at h
      · rename_i hm
        split at h
        · rename_i h6
          cases h
          exact ⟨h5, hm, fun _ => ⟨rfl, rfl⟩, fun h => absurd h6 h⟩
        · rename_i h6
          exact ⟨h5, hm, fun h => absurd h h6, fun _ => h⟩
      · cases h
    · cases h
theorem rdP_none {B : List Int} {f : Nat} {acc : List C4} {p : Nat} (hf : 64 ≤ f + acc.length) (ha : acc.length < 64) (h : rdP B f acc p = none) (h5 : p + 5 ≤ B.length) (hm : mayG acc (runAt B p).1 (runAt B p).2 = true) :
    acc.length + (runAt B p).1.toNat < 64 ∧ 64 ≤ f - 1 + (acc.length + (runAt B p).1.toNat) ∧ rdP B (f - 1) (acc ++ List.replicate (runAt B p).1.toNat (runAt B p).2) (p + 5) = none := by
  cases f with
  | zero => omega
  | succ f =>
    rw [rdP, if_pos h5, if_pos hm] at h
    have h1 := (mayG_iff.1 hm).1
    split at h
    · cases h
    · rename_i h6
      exact ⟨by omega, by omega, h⟩
theorem rdP_le {B : List Int} : ∀ {f : Nat} {acc l : List C4} {p q : Nat}, rdP B f acc p = some (l, q) → q ≤ B.length ∧ p ≤ q ∧ l.length = 64
  | 0, _, _, _, _, h => by cases h
  | f + 1, acc, l, p, q, h => by
    obtain ⟨h5, hm, h1, h2⟩ := rdP_some h
    by_cases h6 : acc.length + (runAt B p).1.toNat = 64
    · obtain ⟨rfl, rfl⟩ := h1 h6
      exact ⟨h5, by omega, by rw [List.length_append, List.length_replicate]; exact h6⟩
    · obtain ⟨g1, g2, g3⟩ := rdP_le (h2 h6)
      exact ⟨g1, by omega, g3⟩
def rdN (B : List Int) (p : Nat) : Option (List C4 × Nat) := rdP B 64 [] p
theorem rdN_T {B : List Int} {p : Nat} (h : p ≤ B.length) : rdT (B.drop p) = (rdN B p).map fun x => (padT x.1, B.drop x.2) := by
  have e := rdP_eq B 64 [] p h
  unfold rdN
  cases hp : rdP B 64 [] p with
  | none =>
    rw [hp] at e
    cases ht : rdT (B.drop p) with
    | none => rfl
    | some x =>
      obtain ⟨t, rest⟩ := x
      have hb := rdT_iff.1 ht
      have := (rdG_iff (Nat.le_refl 64)).2 ⟨t.h, hb⟩
      rw [this] at e
      cases e
  | some x =>
    obtain ⟨l, q⟩ := x
    rw [hp] at e
    obtain ⟨_, _, hl⟩ := rdP_le hp
    obtain ⟨_, hb⟩ := (rdG_iff (Nat.le_refl 64)).1 e
    have : rdT (B.drop p) = some (⟨l, hl⟩, B.drop q) := rdT_iff.2 hb
    rw [this]
    show _ = some (padT l, B.drop q)
    rw [padT_full hl]
theorem mayG_c {acc : List C4} {n : Int} {c : C4} (ha : acc.length < 64) : ((decide (n < 1) || decide (64 - (acc.length : Int) < n)) || (decide ((0 : Int) < (acc.length : Int)) && decide ((padT acc).get (acc.length - 1) = c))) = !(mayG acc n c) := by
  rw [Bool.eq_iff_iff, Bool.not_eq_true', ← Bool.not_eq_true, mayG_iff]
  simp only [Bool.or_eq_true, Bool.and_eq_true, decide_eq_true_eq]
  by_cases h0 : 0 < acc.length
  · rw [padT_get h0 (by omega)]
    constructor
    · rintro ((h | h) | ⟨_, h⟩) ⟨g1, g2⟩
      · omega
      · omega
      · exact g2 h
    · intro h
      by_cases g : 1 ≤ n ∧ n ≤ 64 - (acc.length : Int)
      · refine .inr ⟨by omega, Classical.byContradiction fun e => h ⟨g, e⟩⟩
      · exact .inl (by omega)
  · have e : acc = [] := List.eq_nil_of_length_eq_zero (by omega)
    subst e
    constructor
    · rintro ((h | h) | ⟨h, _⟩) ⟨g1, _⟩
      · omega
      · omega
      · simp at h
    · intro h
      refine .inl ?_
      by_cases g : 1 ≤ n ∧ n ≤ 64 - (([] : List C4).length : Int)
      · exact absurd ⟨g, by simp⟩ h
      · omega
end Go.Proofs.Ytcbfnbfhlofkiaa
namespace Go.Proofs.Ytcbfnbfhlofkiaa
set_option maxRecDepth 4000
set_option linter.unusedVariables false
set_option linter.unusedSimpArgs false
open Go.RowKit
attribute [local irreducible] runG bytesG posG
theorem eq27 {a b : C4} : eqT Try.prog 9 27 (c4 a) (c4 b) = some (decide (a = b)) := by
  rw [← eqC_iff]
  exact (show eqT Try.prog 9 27 [.int .u8 a.r, .int .u8 a.g, .int .u8 a.b, .int .u8 a.a] [.int .u8 b.r, .int .u8 b.g, .int .u8 b.b, .int .u8 b.a] = some (eqC a b) by kernel_rfl)
theorem fl68 : fdL Try.prog 68 = some [(0, 1), (1, 4)] := by kernel_rfl
theorem fo27_0 : fdO Try.prog 27 0 = some 0 := by kernel_rfl
theorem fo27_1 : fdO Try.prog 27 1 = some 1 := by kernel_rfl
theorem fo27_2 : fdO Try.prog 27 2 = some 2 := by kernel_rfl
theorem fo27_3 : fdO Try.prog 27 3 = some 3 := by kernel_rfl
theorem fo68_0 : fdO Try.prog 68 0 = some 0 := by kernel_rfl
theorem fo68_1 : fdO Try.prog 68 1 = some 1 := by kernel_rfl
theorem gd27 : Try.prog.eqGuardType Try.prog.depth 27 = false := by kernel_rfl
theorem kn5 : knd Try.prog 5 = some .u8 := by kernel_rfl
theorem sl23 : slE Try.prog 23 = some (5, 1, 1) := by kernel_rfl
theorem tb23 : tyB Try.prog 23 = some (false, 1) := by kernel_rfl
theorem tb5 : tyB Try.prog 5 = some (false, 1) := by kernel_rfl
theorem tb66 : tyB Try.prog 66 = some (false, 1) := by kernel_rfl
theorem tb68 : tyB Try.prog 68 = some (true, 5) := by kernel_rfl
theorem ty3 : (tyB Try.prog 3).isSome = true := by kernel_rfl
theorem zr5 : zrC Try.prog 5 = some [.int .u8 0] := by kernel_rfl
theorem zr68 : zrC Try.prog 68 = some [.int .i64 0, .int .u8 0, .int .u8 0, .int .u8 0, .int .u8 0] := by kernel_rfl
set_option maxRecDepth 4000 in
set_option maxHeartbeats 1000000 in
theorem rtold_d (t : TL) : DFun Try.prog 31 [.loc 0 0] [.flat 29 (tc t)] (.fn (.func 52) [] [.loc 1 0]) [.flat 29 (tc t), .mix 66 [.loc 0 0]] := by
  refine dcalls_go (N := 4) 1 (by kernel_rfl) Try.func31 rfl rfl rfl (by simp only [fr0, Nat.zero_add, Nat.reduceAdd]; exact rfl) rfl fun s0 hs0 => ?_
  refine zaf ?_
  refine zah 1 (by simp only [holes, List.cons_append, List.nil_append]; exact rfl) ?_
  refine zad ?_
  refine walk_w rfl rfl rfl (op_boxm 1 rfl (ev1 rfl) (fun s v h => by cases h <;> rfl) rfl) (by simp only [upd, za, zaa]; exact rfl) ?_
  refine zab rfl rfl rfl (zac (.inr rfl) (ev1 rfl)) ?_
  refine zae ?_
  refine zaf ?_
  refine zad ?_
  refine zab rfl rfl rfl (op_mkf rfl en (ec (ev1 rfl) en)) ?_
  refine zab rfl rfl rfl (zac (.inr rfl) (ev1 rfl)) ?_
  refine zae ?_
  refine dwp_ret ?_
  refine kend [0, 1] (rs1 rfl (rv_t rfl)) rfl rfl ?_ ⟨rfl, rfl, trivial⟩
  rfl
def u8V (z : Int) : List Value := [.int .u8 z]
abbrev rowB (l : List Int) : Mem := .arr 5 1 l.length (l.flatMap u8V)
def fmB (k : Nat) (l : List Int) : List Mem := List.replicate k .gone ++ [rowB l]
theorem fmB_at (k : Nat) (l : List Int) : (fmB k l)[k]? = some (rowB l) := by
  unfold fmB
  rw [List.getElem?_append_right (by simp)]
  simp
theorem fmB_len (k : Nat) (l : List Int) : (fmB k l).length = k + 1 := by simp [fmB]
theorem fmB_add (k : Nat) (l b : List Int) (n : Nat) (L : List Value) (hn : n = l.length + b.length) (hL : L = l.flatMap u8V ++ b.flatMap u8V) : (fmB k l).set k .gone ++ [Mem.arr 5 1 n L] = fmB (k + 1) (l ++ b) := by
  subst hn hL
  unfold fmB
  rw [List.set_append_right _ _ (by simp), List.length_replicate, Nat.sub_self, List.replicate_succ']
  simp [rowB, List.flatMap_append]
abbrev runV (r : Nat × C4) : List Value := .int .i64 (r.1 : Int) :: c4 r.2
theorem bytesG_take {rs : List (Nat × C4)} {i : Nat} (hi : i < rs.length) : bytesG (rs.take (i + 1)) = bytesG (rs.take i) ++ encG rs[i] := by
  unfold bytesG
  rw [List.take_succ_eq_append_getElem hi, List.flatMap_append]
  simp
noncomputable def trnA : Code := rfA (pth [1, 1, 0, 1, 0] (bodyOf Try.f10))
noncomputable def trnB : Code := rfB (pth [1, 1, 0, 1, 0] (bodyOf Try.f10))
set_option maxRecDepth 4000 in
set_option maxHeartbeats 1000000 in
theorem tRound (r : Nat × C4) (hr : 1 ≤ r.1 ∧ r.1 ≤ 64) (k : Nat) (l : List Int) (hl : l.length ≤ 5000) : DRound Try.prog 0 [.val (.agg (runV r).toArray)] [.lp none 26 [(3, .loc 1 0)] #[6] trnA trnB .ready none, .mix 23 [.farr 2 (k)], .fam (fmB (k) (l))] true [.lp none 26 [(3, .loc 1 0)] #[6] trnA trnB .ready none, .mix 23 [.farr 2 (k + 1)], .fam (fmB (k + 1) (l ++ encG r))] := by
  refine dround_go 3 rfl rfl (by simp) rfl rfl fun s0 hs0 => ?_
  refine zah 1 (by simp only [holes, List.cons_append, List.nil_append]; exact rfl) ?_
  refine zad ?_
  refine walk_w rfl rfl rfl (op_alloc 3 rfl zr68 rfl) (by simp only [upd, za, zaa]; exact rfl) ?_
  refine walk_s rfl rfl (op_stwa rfl tb68 (ev1 rfl) (ev1 rfl) rfl rfl rfl rfl) (by simp only [upd, za, zaa]; exact rfl) ?_
  refine zae ?_
  refine ⟨rfl, ?_⟩
  simp only [za, zaa]
  refine dwp_block ?_
  refine zah 2 (by simp only [holes, List.cons_append, List.nil_append]; exact rfl) ?_
  refine zad ?_
  refine zab rfl rfl rfl (op_ldm rfl tb23 (ev1 rfl) rfl rfl) ?_
  refine zab rfl rfl rfl (op_fa rfl fo68_0 (ev1 rfl)) ?_
  refine zab rfl rfl rfl (op_ldo rfl tb3 (ev1 rfl) rfl rfl) ?_
  refine zab rfl rfl rfl (op_conv' ty3 kn5 rfl (ev1 rfl) (fun _ => IntWalk.u8_in _ (by omega))) ?_
  refine zab rfl rfl rfl (op_fa rfl fo68_1 (ev1 rfl)) ?_
  refine zab rfl rfl rfl (op_fa rfl fo27_0 (ev1 rfl)) ?_
  refine zab rfl rfl rfl (op_ldo rfl tb5 (ev1 rfl) rfl rfl) ?_
  refine zab rfl rfl rfl (op_fa rfl fo68_1 (ev1 rfl)) ?_
  refine zab rfl rfl rfl (op_fa rfl fo27_1 (ev1 rfl)) ?_
  refine zab rfl rfl rfl (op_ldo rfl tb5 (ev1 rfl) rfl rfl) ?_
  refine zab rfl rfl rfl (op_fa rfl fo68_1 (ev1 rfl)) ?_
  refine zab rfl rfl rfl (op_fa rfl fo27_2 (ev1 rfl)) ?_
  refine zab rfl rfl rfl (op_ldo rfl tb5 (ev1 rfl) rfl rfl) ?_
  refine zab rfl rfl rfl (op_fa rfl fo68_1 (ev1 rfl)) ?_
  refine zab rfl rfl rfl (op_fa rfl fo27_3 (ev1 rfl)) ?_
  refine zab rfl rfl rfl (op_ldo rfl tb5 (ev1 rfl) rfl rfl) ?_
  refine zab rfl rfl rfl (op_bs (ps := [(0, .tmp 10), (1, .tmp 13), (2, .tmp 16), (3, .tmp 19), (4, .tmp 22)]) rfl sl23 zr5 rfl (vc (ev1 rfl) (vc (ev1 rfl) (vc (ev1 rfl) (vc (ev1 rfl) (vc (ev1 rfl) vn))))) rfl (by decide) (by decide)) ?_
  refine walk_w rfl rfl rfl (op_appF (j1 := 4) (j2 := 5) rfl rfl sl23 zr5 rfl (ev1 rfl) (ev1 rfl) rfl (fmB_at k l) rfl rfl rfl (fun _ => rfl) (fun _ => ⟨by omega, by omega⟩)) (by simp only [upd, za, zaa]; exact rfl) ?_
  refine walk_s rfl rfl (op_stm rfl tb23 (ev1 rfl) (ev1 rfl) (fun s v h => by cases h <;> exact ⟨rfl, rfl⟩) rfl (by first | decide | exact Nat.le_of_ble_eq_true rfl | simp)) (by simp only [upd, za, zaa]; exact rfl) ?_
  refine zae ?_
  refine ⟨by first | rfl | assumption | simp_all, rfl, [0, 1, 2], rfl, ⟨rfl, by rw [fmB_len]; rfl, congrArg (fun B => some (Blk.fam B)) (fmB_add k l (encG r) _ _ rfl rfl), trivial⟩⟩
set_option maxRecDepth 4000 in
set_option maxHeartbeats 1000000 in
theorem told_bytes (t : TL) : DFun Try.prog 52 [.yld 0, .loc 4 0] [.lp none 26 [(3, .loc 1 0)] #[6] trnA trnB .ready none, .mix 23 [.farr 2 (0)], .fam (fmB (0) ([])), .flat 29 (tc t), .mix 66 [.loc 3 0]] (.tup []) [.lp none 26 [(3, .loc 1 0)] #[6] trnA trnB .ready none, .mix 23 [.farr 2 ((runG t.l).length)], .fam (fmB ((runG t.l).length) (tileB t)), .flat 29 (tc t), .mix 66 [.loc 3 0]] := by
  refine dcalls_go (N := 35) 5 (by kernel_rfl) Try.func52 rfl rfl rfl (by simp only [fr0, Nat.zero_add, Nat.reduceAdd]; exact rfl) rfl fun s0 hs0 => ?_
  refine zaf ?_
  refine zad ?_
  refine zab rfl rfl rfl (zac (.inr rfl) (ev1 rfl)) ?_
  refine zae ?_
  refine dwp_block ?_
  refine dwp_loopS ⟨hs0, rfl⟩ (α := Nat) (fun i => [(3, .val (.int .i64 (posG (runG t.l) i : Int)))]) [(0, _), (1, _)] (fun i => [(1, .mix 23 [.farr 2 (i)]), (2, .fam (fmB (i) (bytesG ((runG t.l).take i))))]) [_, .hole, .hole, _, _] (fun i => i ≤ (runG t.l).length) (fun i => (runG t.l).length - i) 0 [0, 1, 2, 3, 4] (Nat.zero_le _) rfl ⟨rfl, rfl, trivial⟩ ⟨by rw [posG_zero]; rfl, trivial⟩ ⟨rfl, rfl, by rw [List.take_zero, bytesG_nil]; rfl, rfl, rfl, trivial⟩ ?_
  intro i hx
  simp only [upd, za, zaa, List.cons_append, List.nil_append]
  have hi0 := hx
  have hbl : (bytesG ((runG t.l).take i)).length ≤ 5000 := by
    have h1 := runG_len t.l
    have h2 := t.h
    rw [bytesG_len, List.length_take]; omega
  refine zaf ?_
  refine zaf ?_
  refine zad ?_
  refine zab rfl rfl rfl (zac (.inl rfl) (ev1 rfl)) ?_
  refine zab rfl rfl rfl (op_lss rfl (ev1 rfl) (ev1 rfl)) ?_
  refine zae ?_
  refine dwp_cond rfl (fun c1 => ?_) (fun c1 => ?_)
  · try simp only [decide_eq_true_eq, decide_eq_false_iff_not, beq_iff_eq, bne_iff_ne, beq_eq_false_iff_ne, bne_eq_false_iff_eq, Bool.not_eq_true', Bool.not_eq_false', Bool.and_eq_true, Bool.or_eq_true, Bool.or_eq_false_iff, ne_eq, Decidable.not_not, Int.not_lt, Int.not_le] at c1
    have hi : i < (runG t.l).length := by
      rcases Nat.lt_or_ge i (runG t.l).length with h | h
      · exact h
      · obtain rfl : i = (runG t.l).length := by omega
        rw [runG_pos] at c1
        omega
    obtain ⟨hn1, hn2⟩ := runG_bd hi
    refine dwp_skip ?_
    refine dwp_block ?_
    refine zaf ?_
    refine zah 1 (by simp only [holes, List.cons_append, List.nil_append]; exact rfl) ?_
    refine zad ?_
    refine zab rfl rfl rfl (op_ldm rfl tb66 (ev1 rfl) rfl rfl) ?_
    refine zab rfl rfl rfl (zac (.inl rfl) (ev1 rfl)) ?_
    refine zab rfl rfl rfl (op_nc rfl (ev1 rfl) (fun s v h => by cases h; exact ⟨_, rfl⟩)) ?_
    refine zab rfl rfl rfl (op_ixfr (j := posG (runG t.l) i) rfl ar29 (ev1 rfl) (ev1 rfl) (fun _ => by omega) (fun _ => by omega)) ?_
    refine zab rfl rfl rfl (op_ldfr (zC4) rfl tb27 (ev1 rfl) rfl (fun _ => rfl) (fun _ => by rw [TL.h]; omega)) ?_
    refine zab rfl rfl rfl (op_build (ps := [(1, .tmp 11)]) rfl fl68 zr68 (vc (ev1 rfl) vn) rfl rfl) ?_
    refine walk_w rfl rfl rfl (op_alloc 5 rfl zr68 rfl) (by simp only [upd, za, zaa]; exact rfl) ?_
    refine walk_s rfl rfl (op_stwa rfl tb68 (ev1 rfl) (ev1 rfl) rfl rfl rfl rfl) (by simp only [upd, za, zaa]; exact rfl) ?_
    refine zae ?_
    refine zaf ?_
    refine dwp_block ?_
    refine dwp_loopS ⟨hs0, rfl⟩ (α := Nat) (fun m => [(3, .val (.int .i64 ((posG (runG t.l) i + m : Nat) : Int)))]) [(0, _), (1, _), (4, _)] (fun m => [(5, .flat 68 (runV (m, (runG t.l)[i].2)))]) [_, _, _, _, _, .hole] (fun m => m ≤ (runG t.l)[i].1) (fun m => (runG t.l)[i].1 - m) 0 [0, 1, 2, 3, 4, 5] (Nat.zero_le _) rfl ⟨rfl, rfl, rfl, trivial⟩ ⟨rfl, trivial⟩ ⟨rfl, rfl, rfl, rfl, rfl, by rw [← runG_at hi (m := 0) (by omega)]; rfl, trivial⟩ ?_
    intro m hx
    simp only [upd, za, zaa, List.cons_append, List.nil_append]
    have hm0 := hx
    refine zaf ?_
    refine zaf ?_
    refine dwp_draw [([], []), ([], []), ([], []), ([4], []), ([], []), ([], []), ([], []), ([3], []), ([], []), ([5], []), ([], []), ([], [])] mixed (by kernel_rfl) ?_
    refine zag rfl rfl (zac (.inl rfl) (ev1 rfl)) ?_
    refine zag rfl rfl (op_lss rfl (ev1 rfl) (ev1 rfl)) ?_
    refine zag rfl rfl (zac (.inl rfl) (ev1 rfl)) ?_
    refine lex_gr (gd_t rfl rfl rfl) rfl rfl (op_ldm rfl tb66 (ev1 rfl) rfl rfl) ?_
    refine lex_gr (gd_t rfl rfl rfl) rfl rfl (zac (.inl rfl) (ev1 rfl)) ?_
    refine lex_gr (gd_t rfl rfl rfl) rfl rfl (op_nc rfl (ev2 rfl) (fun s v h => by cases h; exact ⟨_, rfl⟩)) ?_
    refine lex_gr (gd_t rfl rfl rfl) rfl rfl (op_ixfr (j := posG (runG t.l) i + m) rfl ar29 (ev2 rfl) (ev2 rfl) (fun hp => by first | omega | (simp at hp; omega)) (fun hp => by first | omega | (simp at hp; omega))) ?_
    refine lex_gr (gd_t rfl rfl rfl) rfl rfl (op_ldfr (zC4) rfl tb27 (ev2 rfl) rfl (fun _ => rfl) (fun hp => by rw [TL.h]; simp at hp; omega)) ?_
    refine lex_gr (gd_t rfl rfl rfl) rfl rfl (op_fa rfl fo68_1 (ev1 rfl)) ?_
    refine lex_gr (gd_t rfl rfl rfl) rfl rfl (op_ldr rfl tb27 (ev2 rfl) rfl rfl rfl) ?_
    refine lex_gr (gd_t rfl rfl rfl) rfl rfl (op_eqr eq27 rfl gd27 tb27 (ev2 rfl) (ev2 rfl)) ?_
    refine zag rfl rfl (op_and rfl (ev1 rfl) (ev3 rfl id)) ?_
    refine lex_nil ?_
    refine dwp_cond rfl (fun c3 => ?_) (fun c3 => ?_)
    · have hmlt : m < (runG t.l)[i].1 := by
        rcases Nat.lt_or_ge m (runG t.l)[i].1 with h | h
        · exact h
        · obtain rfl : m = (runG t.l)[i].1 := by omega
          simp at c3
          exact absurd c3.2 (runG_not hi (by omega))
      refine dwp_skip ?_
      refine dwp_block ?_
      refine zaf ?_
      refine zad ?_
      refine zab rfl rfl rfl (op_fa rfl fo68_0 (ev1 rfl)) ?_
      refine zab rfl rfl rfl (op_ldo rfl tb3 (ev1 rfl) rfl rfl) ?_
      refine zab rfl rfl rfl (op_add' rfl (ev1 rfl) (ev1 rfl) (fun _ => IntWalk.i64_in _ (by omega))) ?_
      refine zab rfl rfl rfl (op_fa rfl fo68_0 (ev1 rfl)) ?_
      refine walk_s rfl rfl (op_st1 rfl tb3 (ev1 rfl) (ev1 rfl) rfl (Nat.le_of_ble_eq_true rfl) rfl) (by simp only [upd, za, zaa]; exact rfl) ?_
      refine zae ?_
      refine zad ?_
      refine zab rfl rfl rfl (zac (.inl rfl) (ev1 rfl)) ?_
      refine zab rfl rfl rfl (op_add' rfl (ev1 rfl) (ev1 rfl) (fun _ => IntWalk.i64_in _ (by omega))) ?_
      refine zab rfl rfl rfl (zac (.inr rfl) (ev1 rfl)) ?_
      refine zae ?_
      refine ⟨m + 1, [0, 1, 2, 3, 4, 5], by omega, by simp only []; omega, rfl, ⟨rfl, rfl, rfl, rfl, trivial⟩, ⟨rfl, rfl, rfl, rfl, rfl, rfl, trivial⟩⟩
    · have hmge : ¬ m < (runG t.l)[i].1 := fun h => by
        have h2 := runG_at hi h
        simp at c3
        exact c3 (by omega) h2
      refine dwp_exit ?_
      refine zaf ?_
      refine zad ?_
      refine zab rfl rfl rfl (zac (.inl rfl) (ev1 rfl)) ?_
      refine zab rfl rfl rfl (op_ldw rfl tb68 (ev1 rfl) rfl rfl) ?_
      refine walk_w rfl rfl rfl (op_y (i := 0) [0, 1, 2] [] [] rfl (ev1 rfl) (ec (ev1 rfl) en) rfl rfl rfl (tRound (m, (runG t.l)[i].2) ⟨by omega, by omega⟩ i _ hbl) rfl rfl rfl rfl rfl) (by simp only [upd, za, zaa]; exact rfl) ?_
      refine zab rfl rfl rfl (op_not rfl (ev1 rfl)) ?_
      refine zae ?_
      refine dwp_if_f rfl (rfl) ?_
      refine dwp_skip ?_
      have hmn : m = (runG t.l)[i].1 := by omega
      refine ⟨i + 1, [0, 1, 2, 3, 4], by omega, by simp only []; omega, rfl, ⟨by rw [posG_add hi, hmn]; rfl, rfl, rfl, trivial⟩, ⟨rfl, rfl, by rw [bytesG_take hi, show encG (runG t.l)[i] = encG (m, (runG t.l)[i].2) by rw [hmn]]; rfl, rfl, rfl, trivial⟩⟩
  · try simp only [decide_eq_true_eq, decide_eq_false_iff_not, beq_iff_eq, bne_iff_ne, beq_eq_false_iff_ne, bne_eq_false_iff_eq, Bool.not_eq_true', Bool.not_eq_false', Bool.and_eq_true, Bool.or_eq_true, Bool.or_eq_false_iff, ne_eq, Decidable.not_not, Int.not_lt, Int.not_le] at c1
    have hie : i = (runG t.l).length := by
      rcases Nat.lt_or_ge i (runG t.l).length with h | h
      · have := runG_bd h
        omega
      · omega
    refine dwp_exit ?_
    subst hie
    refine kend [0, 1, 2, 3, 4] (res_none rfl) rfl rfl ?_ ⟨?_, ?_, ?_, ?_, ?_, trivial⟩
    rfl
    all_goals first | exact rfl | exact (by rw [List.take_length]; rfl)
end Go.Proofs.Ytcbfnbfhlofkiaa
namespace Go.Proofs.Ytcbfnbfhlofkiaa
set_option maxRecDepth 4000
set_option linter.unusedVariables false
set_option linter.unusedSimpArgs false
open Go.RowKit
attribute [local irreducible] runG bytesG posG tileB
theorem zr23 : zrC Try.prog 23 = some [.slice none 0 0] := by kernel_rfl
set_option maxRecDepth 4000 in
set_option maxHeartbeats 1000000 in
theorem rtile_d (t : TL) : DFun Try.prog 10 [tD t] [] (.slf 1 (tileB t).length ((tileB t).flatMap u8V)) [] := by
  refine dcalls_go (N := 26) 0 (by kernel_rfl) Try.func10 rfl rfl rfl (by simp only [fr0, Nat.zero_add, Nat.reduceAdd]; exact rfl) rfl fun s0 hs0 => ?_
  refine zaf ?_
  refine zah 1 (by simp only [holes, List.cons_append, List.nil_append]; exact rfl) ?_
  refine zad ?_
  refine walk_w rfl rfl rfl (op_boxa 0 rfl (ev1 rfl) rfl) (by simp only [upd, za, zaa]; exact rfl) ?_
  refine zab rfl rfl rfl (zac (.inr rfl) (ev1 rfl)) ?_
  refine zae ?_
  refine zaf ?_
  refine zah 1 (by simp only [holes, List.cons_append, List.nil_append]; exact rfl) ?_
  refine zad ?_
  refine walk_w rfl rfl rfl (op_alloc 1 rfl zr23 rfl) (by simp only [upd, za, zaa]; exact rfl) ?_
  refine zae ?_
  refine zaf ?_
  refine zaf ?_
  refine zah 1 (by simp only [holes, List.cons_append, List.nil_append]; exact rfl) ?_
  refine zad ?_
  refine walk_w rfl rfl rfl (zaj [0] [] [2] rfl (ev1 rfl) (ec (ev1 rfl) en) rfl rfl (rtold_d t) rfl rfl rfl rfl rfl rfl) (by simp only [upd, za, zaa]; exact rfl) ?_
  refine zae ?_
  refine dwp_block ?_
  refine dwp_adoptm 1 5 1 rfl (by simp only [List.cons_append, List.nil_append, za, zaa, List.length_cons, List.length_nil, Nat.zero_add, Nat.reduceAdd]; exact rfl) ?_
  refine dwp_hole ?_
  refine dwp_fam 4 rfl (by simp only [List.cons_append, List.nil_append, za, zaa]; exact rfl) ?_
  refine dwp_absc 1 0 4 rfl rfl rfl rfl (by simp only [List.cons_append, List.nil_append, za, zaa]; exact rfl) ?_
  refine dwp_hole ?_
  simp only [List.cons_append, List.nil_append]
  refine dwp_rf (FL := [(3, _)]) (st := .ready) (pe := none) [5, 1, 4, 0, 2] [] [] 5 rfl rfl (ev1 rfl) rfl (subF_lk ⟨rfl, trivial⟩) rfl rfl rfl (told_bytes t) rfl rfl rfl rfl rfl rfl rfl (by simp) (fun e => ?_) (fun c e => ?_)
  · simp only [upd, za, zaa]
    refine zaf ?_
    refine zad ?_
    refine zab rfl rfl rfl (op_ldm rfl tb23 (ev1 rfl) rfl rfl) ?_
    refine zab rfl rfl rfl (zac (.inr rfl) (ev1 rfl)) ?_
    refine zae ?_
    refine dwp_hole ?_
    refine dwp_rel 2 4 (j := 6) rfl rfl (fmB_at _ _) rfl (by simp only [List.cons_append, List.nil_append, za, zaa]; exact rfl) ?_
    refine dwp_giveA 2 rfl rfl (by simp only [List.cons_append, List.nil_append, za, zaa]; exact rfl) ?_
    refine dwp_ret ?_
    refine kend0 (rs1 rfl (rv_t rfl)) rfl ?_
    rfl
  · cases e
end Go.Proofs.Ytcbfnbfhlofkiaa
namespace Go.Proofs.Ytcbfnbfhlofkiaa
set_option maxRecDepth 4000
set_option linter.unusedVariables false
set_option linter.unusedSimpArgs false
open Go.RowKit
theorem fl86 : fdL Try.prog 86 = some [] := by kernel_rfl
theorem fo71_1 : fdO Try.prog 71 1 = some 3 := by kernel_rfl
theorem fo71_2 : fdO Try.prog 71 2 = some 4 := by kernel_rfl
theorem ni86 : niF Try.prog 86 = true := by kernel_rfl
theorem tb86 : tyB Try.prog 86 = some (true, 0) := by kernel_rfl
theorem zr86 : zrC Try.prog 86 = some [] := by kernel_rfl
theorem zv86 : zrV Try.prog 86 = some (.agg #[]) := by kernel_rfl
abbrev row2 (B : List Int) (p : Nat) : List Int := [bAt B p, bAt B (p + 1)]
abbrev row5 (B : List Int) (p : Nat) : List Int := [bAt B p, bAt B (p + 1), bAt B (p + 2), bAt B (p + 3), bAt B (p + 4)]
theorem take_row2 {B : List Int} {p : Nat} (h : p + 2 ≤ B.length) : (B.drop p).take 2 = row2 B p := by
  rw [drop_one (by omega), drop_one (p := p + 1) (by omega)]; rfl
theorem take_row5 {B : List Int} {p : Nat} (h : p + 5 ≤ B.length) : (B.drop p).take 5 = row5 B p := by
  rw [drop_one (by omega), drop_one (p := p + 1) (by omega), drop_one (p := p + 1 + 1) (by omega), drop_one (p := p + 1 + 1 + 1) (by omega), drop_one (p := p + 1 + 1 + 1 + 1) (by omega)]; rfl
abbrev runI (r : Int × C4) : List Value := .int .i64 r.1 :: c4 r.2
set_option maxRecDepth 4000 in
set_option maxHeartbeats 1000000 in
theorem take2 (B : List Int) (hB : B.length ≤ 4000000000000000000) (p : Nat) (hq : p + 2 ≤ B.length) : DFun Try.prog 59 [.loc 0 0, .val (.int .i64 (2 : Int))] [.mix 71 [.val (.int .i64 0), .val (.int .i64 0), .val (.slice none 0 0), .slf 1 (B).length ((B).flatMap u8V), .val (.int .i64 (p : Int))]] (.slf 1 2 ((row2 B p).flatMap u8V)) [.mix 71 [.val (.int .i64 0), .val (.int .i64 0), .val (.slice none 0 0), .slf 1 (B).length ((B).flatMap u8V), .val (.int .i64 ((p + 2 : Nat) : Int))]] := by
  refine dcalls_go (N := 38) 1 (by kernel_rfl) Try.func59 rfl rfl rfl (by simp only [fr0, Nat.zero_add, Nat.reduceAdd]; exact rfl) rfl fun s0 hs0 => ?_
  refine zaf ?_
  refine zad ?_
  refine zab rfl rfl rfl (zac (.inr rfl) (ev1 rfl)) ?_
  refine zae ?_
  refine zaf ?_
  refine dwp_draw [([], []), ([], []), ([], []), ([0], []), ([], []), ([], []), ([], []), ([0], []), ([], []), ([], []), ([], []), ([], [])] mixed (by kernel_rfl) ?_
  refine zag rfl rfl (zac (.inl rfl) (ev1 rfl)) ?_
  refine zag rfl rfl (op_nc rfl (ev1 rfl) (fun s v h => by cases h; exact ⟨_, rfl⟩)) ?_
  refine zag rfl rfl (op_fa rfl fo71_2 (ev1 rfl)) ?_
  refine zag rfl rfl (op_ldm rfl tb3 (ev1 rfl) rfl rfl) ?_
  refine zag rfl rfl (zac (.inl rfl) (ev1 rfl)) ?_
  refine zag rfl rfl (op_nc rfl (ev1 rfl) (fun s v h => by cases h; exact ⟨_, rfl⟩)) ?_
  refine zag rfl rfl (op_fa rfl fo71_2 (ev1 rfl)) ?_
  refine zag rfl rfl (op_ldm rfl tb3 (ev1 rfl) rfl rfl) ?_
  refine zag rfl rfl (zac (.inl rfl) (ev1 rfl)) ?_
  refine zag rfl rfl (op_add' rfl (ev1 rfl) (ev1 rfl) (fun _ => IntWalk.i64_in _ (by omega))) ?_
  refine zag rfl rfl (zac (.inr rfl) (ev1 rfl)) ?_
  refine zag rfl rfl (zac (.inr rfl) (ev1 rfl)) ?_
  refine lex_nil ?_
  refine zaf ?_
  refine zaf ?_
  refine zad ?_
  refine zab rfl rfl rfl (zac (.inl rfl) (ev1 rfl)) ?_
  refine zab rfl rfl rfl (zac (.inl rfl) (ev1 rfl)) ?_
  refine zab rfl rfl rfl (op_nc rfl (ev1 rfl) (fun s v h => by cases h; exact ⟨_, rfl⟩)) ?_
  refine zab rfl rfl rfl (op_fa rfl fo71_1 (ev1 rfl)) ?_
  refine zab rfl rfl rfl (op_ldm rfl tb23 (ev1 rfl) rfl rfl) ?_
  refine zab rfl rfl rfl (op_len rfl sl23 (ev1 rfl)) ?_
  refine zab rfl rfl rfl (op_gtr rfl (ev1 rfl) (ev1 rfl)) ?_
  refine zae ?_
  refine dwp_if_f rfl (by simp; omega) ?_
  refine dwp_skip ?_
  refine zaf ?_
  refine zad ?_
  refine zab rfl rfl rfl (zac (.inl rfl) (ev1 rfl)) ?_
  refine zab rfl rfl rfl (zac (.inl rfl) (ev1 rfl)) ?_
  refine zab rfl rfl rfl (op_nc rfl (ev1 rfl) (fun s v h => by cases h; exact ⟨_, rfl⟩)) ?_
  refine zab rfl rfl rfl (op_fa rfl fo71_2 (ev1 rfl)) ?_
  refine walk_s rfl rfl (op_stm rfl tb3 (ev1 rfl) (ev1 rfl) (fun s v h => by cases h <;> exact ⟨rfl, rfl⟩) rfl (by first | decide | exact Nat.le_of_ble_eq_true rfl | simp)) (by simp only [upd, za, zaa]; exact rfl) ?_
  refine zae ?_
  refine zaf ?_
  refine zad ?_
  refine zab rfl rfl rfl (zac (.inl rfl) (ev1 rfl)) ?_
  refine zab rfl rfl rfl (op_nc rfl (ev1 rfl) (fun s v h => by cases h; exact ⟨_, rfl⟩)) ?_
  refine zab rfl rfl rfl (op_fa rfl fo71_1 (ev1 rfl)) ?_
  refine zab rfl rfl rfl (op_ldm rfl tb23 (ev1 rfl) rfl rfl) ?_
  refine zab rfl rfl rfl (zac (.inl rfl) (ev1 rfl)) ?_
  refine zab rfl rfl rfl (zac (.inl rfl) (ev1 rfl)) ?_
  refine zab rfl rfl rfl (zac (.inl rfl) (ev1 rfl)) ?_
  refine zab rfl rfl rfl (op_sl3e (i := p) (j := p + 2) rfl sl23 (ev1 rfl) (ev1 rfl) (ev1 rfl) (ev1 rfl) (fun hp => by first | omega | (simp at hp; omega)) (fun hp => by first | omega | (simp at hp; omega)) (fun hp => by first | omega | (simp at hp; omega)) (fun hp => by first | omega | (simp at hp; omega)) (fun _ => rfl)) ?_
  refine zab rfl rfl rfl (zac (.inr rfl) (ev1 rfl)) ?_
  refine zae ?_
  refine dwp_ret ?_
  refine kend [0] (rs1 rfl (rv_t rfl)) rfl rfl ?_ ⟨rfl, trivial⟩
  rw [show p + 2 - p = 2 by omega, take_row2 hq]; rfl
set_option maxRecDepth 4000 in
set_option maxHeartbeats 1000000 in
theorem take5 (B : List Int) (hB : B.length ≤ 4000000000000000000) (p : Nat) (hq : p + 5 ≤ B.length) : DFun Try.prog 59 [.loc 0 0, .val (.int .i64 (5 : Int))] [.mix 71 [.val (.int .i64 0), .val (.int .i64 0), .val (.slice none 0 0), .slf 1 (B).length ((B).flatMap u8V), .val (.int .i64 (p : Int))]] (.slf 1 5 ((row5 B p).flatMap u8V)) [.mix 71 [.val (.int .i64 0), .val (.int .i64 0), .val (.slice none 0 0), .slf 1 (B).length ((B).flatMap u8V), .val (.int .i64 ((p + 5 : Nat) : Int))]] := by
  refine dcalls_go (N := 38) 1 (by kernel_rfl) Try.func59 rfl rfl rfl (by simp only [fr0, Nat.zero_add, Nat.reduceAdd]; exact rfl) rfl fun s0 hs0 => ?_
  refine zaf ?_
  refine zad ?_
  refine zab rfl rfl rfl (zac (.inr rfl) (ev1 rfl)) ?_
  refine zae ?_
  refine zaf ?_
  refine dwp_draw [([], []), ([], []), ([], []), ([0], []), ([], []), ([], []), ([], []), ([0], []), ([], []), ([], []), ([], []), ([], [])] mixed (by kernel_rfl) ?_
  refine zag rfl rfl (zac (.inl rfl) (ev1 rfl)) ?_
  refine zag rfl rfl (op_nc rfl (ev1 rfl) (fun s v h => by cases h; exact ⟨_, rfl⟩)) ?_
  refine zag rfl rfl (op_fa rfl fo71_2 (ev1 rfl)) ?_
  refine zag rfl rfl (op_ldm rfl tb3 (ev1 rfl) rfl rfl) ?_
  refine zag rfl rfl (zac (.inl rfl) (ev1 rfl)) ?_
  refine zag rfl rfl (op_nc rfl (ev1 rfl) (fun s v h => by cases h; exact ⟨_, rfl⟩)) ?_
  refine zag rfl rfl (op_fa rfl fo71_2 (ev1 rfl)) ?_
  refine zag rfl rfl (op_ldm rfl tb3 (ev1 rfl) rfl rfl) ?_
  refine zag rfl rfl (zac (.inl rfl) (ev1 rfl)) ?_
  refine zag rfl rfl (op_add' rfl (ev1 rfl) (ev1 rfl) (fun _ => IntWalk.i64_in _ (by omega))) ?_
  refine zag rfl rfl (zac (.inr rfl) (ev1 rfl)) ?_
  refine zag rfl rfl (zac (.inr rfl) (ev1 rfl)) ?_
  refine lex_nil ?_
  refine zaf ?_
  refine zaf ?_
  refine zad ?_
  refine zab rfl rfl rfl (zac (.inl rfl) (ev1 rfl)) ?_
  refine zab rfl rfl rfl (zac (.inl rfl) (ev1 rfl)) ?_
  refine zab rfl rfl rfl (op_nc rfl (ev1 rfl) (fun s v h => by cases h; exact ⟨_, rfl⟩)) ?_
  refine zab rfl rfl rfl (op_fa rfl fo71_1 (ev1 rfl)) ?_
  refine zab rfl rfl rfl (op_ldm rfl tb23 (ev1 rfl) rfl rfl) ?_
  refine zab rfl rfl rfl (op_len rfl sl23 (ev1 rfl)) ?_
  refine zab rfl rfl rfl (op_gtr rfl (ev1 rfl) (ev1 rfl)) ?_
  refine zae ?_
  refine dwp_if_f rfl (by simp; omega) ?_
  refine dwp_skip ?_
  refine zaf ?_
  refine zad ?_
  refine zab rfl rfl rfl (zac (.inl rfl) (ev1 rfl)) ?_
  refine zab rfl rfl rfl (zac (.inl rfl) (ev1 rfl)) ?_
  refine zab rfl rfl rfl (op_nc rfl (ev1 rfl) (fun s v h => by cases h; exact ⟨_, rfl⟩)) ?_
  refine zab rfl rfl rfl (op_fa rfl fo71_2 (ev1 rfl)) ?_
  refine walk_s rfl rfl (op_stm rfl tb3 (ev1 rfl) (ev1 rfl) (fun s v h => by cases h <;> exact ⟨rfl, rfl⟩) rfl (by first | decide | exact Nat.le_of_ble_eq_true rfl | simp)) (by simp only [upd, za, zaa]; exact rfl) ?_
  refine zae ?_
  refine zaf ?_
  refine zad ?_
  refine zab rfl rfl rfl (zac (.inl rfl) (ev1 rfl)) ?_
  refine zab rfl rfl rfl (op_nc rfl (ev1 rfl) (fun s v h => by cases h; exact ⟨_, rfl⟩)) ?_
  refine zab rfl rfl rfl (op_fa rfl fo71_1 (ev1 rfl)) ?_
  refine zab rfl rfl rfl (op_ldm rfl tb23 (ev1 rfl) rfl rfl) ?_
  refine zab rfl rfl rfl (zac (.inl rfl) (ev1 rfl)) ?_
  refine zab rfl rfl rfl (zac (.inl rfl) (ev1 rfl)) ?_
  refine zab rfl rfl rfl (zac (.inl rfl) (ev1 rfl)) ?_
  refine zab rfl rfl rfl (op_sl3e (i := p) (j := p + 5) rfl sl23 (ev1 rfl) (ev1 rfl) (ev1 rfl) (ev1 rfl) (fun hp => by first | omega | (simp at hp; omega)) (fun hp => by first | omega | (simp at hp; omega)) (fun hp => by first | omega | (simp at hp; omega)) (fun hp => by first | omega | (simp at hp; omega)) (fun _ => rfl)) ?_
  refine zab rfl rfl rfl (zac (.inr rfl) (ev1 rfl)) ?_
  refine zae ?_
  refine dwp_ret ?_
  refine kend [0] (rs1 rfl (rv_t rfl)) rfl rfl ?_ ⟨rfl, trivial⟩
  rw [show p + 5 - p = 5 by omega, take_row5 hq]; rfl
set_option maxRecDepth 4000 in
set_option maxHeartbeats 1000000 in
theorem take5_no (B : List Int) (hB : B.length ≤ 4000000000000000000) (p : Nat) (hp : p ≤ B.length) (hq : ¬ p + 5 ≤ B.length) : DPanL Try.prog 59 [.loc 0 0, .val (.int .i64 (5 : Int))] [.mix 71 [.val (.int .i64 0), .val (.int .i64 0), .val (.slice none 0 0), .slf 1 (B).length ((B).flatMap u8V), .val (.int .i64 (p : Int))]] (.ifc 86 (.val (.agg #[]))) := by
  refine dcalls_go (N := 38) 1 (by kernel_rfl) Try.func59 rfl rfl rfl (by simp only [fr0, Nat.zero_add, Nat.reduceAdd]; exact rfl) rfl fun s0 hs0 => ?_
  refine zaf ?_
  refine zad ?_
  refine zab rfl rfl rfl (zac (.inr rfl) (ev1 rfl)) ?_
  refine zae ?_
  refine zaf ?_
  refine dwp_draw [([], []), ([], []), ([], []), ([0], []), ([], []), ([], []), ([], []), ([0], []), ([], []), ([], []), ([], []), ([], [])] mixed (by kernel_rfl) ?_
  refine zag rfl rfl (zac (.inl rfl) (ev1 rfl)) ?_
  refine zag rfl rfl (op_nc rfl (ev1 rfl) (fun s v h => by cases h; exact ⟨_, rfl⟩)) ?_
  refine zag rfl rfl (op_fa rfl fo71_2 (ev1 rfl)) ?_
  refine zag rfl rfl (op_ldm rfl tb3 (ev1 rfl) rfl rfl) ?_
  refine zag rfl rfl (zac (.inl rfl) (ev1 rfl)) ?_
  refine zag rfl rfl (op_nc rfl (ev1 rfl) (fun s v h => by cases h; exact ⟨_, rfl⟩)) ?_
  refine zag rfl rfl (op_fa rfl fo71_2 (ev1 rfl)) ?_
  refine zag rfl rfl (op_ldm rfl tb3 (ev1 rfl) rfl rfl) ?_
  refine zag rfl rfl (zac (.inl rfl) (ev1 rfl)) ?_
  refine zag rfl rfl (op_add' rfl (ev1 rfl) (ev1 rfl) (fun _ => IntWalk.i64_in _ (by omega))) ?_
  refine zag rfl rfl (zac (.inr rfl) (ev1 rfl)) ?_
  refine zag rfl rfl (zac (.inr rfl) (ev1 rfl)) ?_
  refine lex_nil ?_
  refine zaf ?_
  refine zaf ?_
  refine zad ?_
  refine zab rfl rfl rfl (zac (.inl rfl) (ev1 rfl)) ?_
  refine zab rfl rfl rfl (zac (.inl rfl) (ev1 rfl)) ?_
  refine zab rfl rfl rfl (op_nc rfl (ev1 rfl) (fun s v h => by cases h; exact ⟨_, rfl⟩)) ?_
  refine zab rfl rfl rfl (op_fa rfl fo71_1 (ev1 rfl)) ?_
  refine zab rfl rfl rfl (op_ldm rfl tb23 (ev1 rfl) rfl rfl) ?_
  refine zab rfl rfl rfl (op_len rfl sl23 (ev1 rfl)) ?_
  refine zab rfl rfl rfl (op_gtr rfl (ev1 rfl) (ev1 rfl)) ?_
  refine zae ?_
  refine dwp_if_t rfl (by simp; omega) ?_
  refine zad ?_
  refine zab rfl rfl rfl (op_build0 rfl fl86 zr86) ?_
  refine zab rfl rfl rfl (op_mi rfl ni86 (ev1 rfl)) ?_
  refine walk_p rfl (op_pan rfl (ev1 rfl)) rfl ?_
  refine kpanL (Mo := [_]) [0] rfl rfl ?_ ⟨rfl, trivial⟩ rfl
  rfl
set_option maxRecDepth 4000 in
set_option maxHeartbeats 1000000 in
theorem take5x (B : List Int) (hB : B.length ≤ 4000000000000000000) (w h : Int) (us : List TL) (hu : us.length ≤ 5000) (p : Nat) (hq : p + 5 ≤ B.length) : DFun Try.prog 59 [.loc 0 0, .val (.int .i64 (5 : Int))] [.mix 71 [.val (.int .i64 w), .val (.int .i64 h), .arr 1, .slf 1 (B).length ((B).flatMap u8V), .val (.int .i64 (p : Int))], .arr 29 256 (us).length ((us).flatMap tc)] (.slf 1 5 ((row5 B p).flatMap u8V)) [.mix 71 [.val (.int .i64 w), .val (.int .i64 h), .arr 1, .slf 1 (B).length ((B).flatMap u8V), .val (.int .i64 ((p + 5 : Nat) : Int))], .arr 29 256 (us).length ((us).flatMap tc)] := by
  refine dcalls_go (N := 38) 2 (by kernel_rfl) Try.func59 rfl rfl rfl (by simp only [fr0, Nat.zero_add, Nat.reduceAdd]; exact rfl) rfl fun s0 hs0 => ?_
  refine zaf ?_
  refine zad ?_
  refine zab rfl rfl rfl (zac (.inr rfl) (ev1 rfl)) ?_
  refine zae ?_
  refine zaf ?_
  refine dwp_draw [([], []), ([], []), ([], []), ([0], []), ([], []), ([], []), ([], []), ([0], []), ([], []), ([], []), ([], []), ([], [])] mixed (by kernel_rfl) ?_
  refine zag rfl rfl (zac (.inl rfl) (ev1 rfl)) ?_
  refine zag rfl rfl (op_nc rfl (ev1 rfl) (fun s v h => by cases h; exact ⟨_, rfl⟩)) ?_
  refine zag rfl rfl (op_fa rfl fo71_2 (ev1 rfl)) ?_
  refine zag rfl rfl (op_ldm rfl tb3 (ev1 rfl) rfl rfl) ?_
  refine zag rfl rfl (zac (.inl rfl) (ev1 rfl)) ?_
  refine zag rfl rfl (op_nc rfl (ev1 rfl) (fun s v h => by cases h; exact ⟨_, rfl⟩)) ?_
  refine zag rfl rfl (op_fa rfl fo71_2 (ev1 rfl)) ?_
  refine zag rfl rfl (op_ldm rfl tb3 (ev1 rfl) rfl rfl) ?_
  refine zag rfl rfl (zac (.inl rfl) (ev1 rfl)) ?_
  refine zag rfl rfl (op_add' rfl (ev1 rfl) (ev1 rfl) (fun _ => IntWalk.i64_in _ (by omega))) ?_
  refine zag rfl rfl (zac (.inr rfl) (ev1 rfl)) ?_
  refine zag rfl rfl (zac (.inr rfl) (ev1 rfl)) ?_
  refine lex_nil ?_
  refine zaf ?_
  refine zaf ?_
  refine zad ?_
  refine zab rfl rfl rfl (zac (.inl rfl) (ev1 rfl)) ?_
  refine zab rfl rfl rfl (zac (.inl rfl) (ev1 rfl)) ?_
  refine zab rfl rfl rfl (op_nc rfl (ev1 rfl) (fun s v h => by cases h; exact ⟨_, rfl⟩)) ?_
  refine zab rfl rfl rfl (op_fa rfl fo71_1 (ev1 rfl)) ?_
  refine zab rfl rfl rfl (op_ldm rfl tb23 (ev1 rfl) rfl rfl) ?_
  refine zab rfl rfl rfl (op_len rfl sl23 (ev1 rfl)) ?_
  refine zab rfl rfl rfl (op_gtr rfl (ev1 rfl) (ev1 rfl)) ?_
  refine zae ?_
  refine dwp_if_f rfl (by simp; omega) ?_
  refine dwp_skip ?_
  refine zaf ?_
  refine zad ?_
  refine zab rfl rfl rfl (zac (.inl rfl) (ev1 rfl)) ?_
  refine zab rfl rfl rfl (zac (.inl rfl) (ev1 rfl)) ?_
  refine zab rfl rfl rfl (op_nc rfl (ev1 rfl) (fun s v h => by cases h; exact ⟨_, rfl⟩)) ?_
  refine zab rfl rfl rfl (op_fa rfl fo71_2 (ev1 rfl)) ?_
  refine walk_s rfl rfl (op_stm rfl tb3 (ev1 rfl) (ev1 rfl) (fun s v h => by cases h <;> exact ⟨rfl, rfl⟩) rfl (by first | decide | exact Nat.le_of_ble_eq_true rfl | simp)) (by simp only [upd, za, zaa]; exact rfl) ?_
  refine zae ?_
  refine zaf ?_
  refine zad ?_
  refine zab rfl rfl rfl (zac (.inl rfl) (ev1 rfl)) ?_
  refine zab rfl rfl rfl (op_nc rfl (ev1 rfl) (fun s v h => by cases h; exact ⟨_, rfl⟩)) ?_
  refine zab rfl rfl rfl (op_fa rfl fo71_1 (ev1 rfl)) ?_
  refine zab rfl rfl rfl (op_ldm rfl tb23 (ev1 rfl) rfl rfl) ?_
  refine zab rfl rfl rfl (zac (.inl rfl) (ev1 rfl)) ?_
  refine zab rfl rfl rfl (zac (.inl rfl) (ev1 rfl)) ?_
  refine zab rfl rfl rfl (zac (.inl rfl) (ev1 rfl)) ?_
  refine zab rfl rfl rfl (op_sl3e (i := p) (j := p + 5) rfl sl23 (ev1 rfl) (ev1 rfl) (ev1 rfl) (ev1 rfl) (fun hp => by first | omega | (simp at hp; omega)) (fun hp => by first | omega | (simp at hp; omega)) (fun hp => by first | omega | (simp at hp; omega)) (fun hp => by first | omega | (simp at hp; omega)) (fun _ => rfl)) ?_
  refine zab rfl rfl rfl (zac (.inr rfl) (ev1 rfl)) ?_
  refine zae ?_
  refine dwp_ret ?_
  refine kend [0, 1] (rs1 rfl (rv_t rfl)) rfl rfl ?_ ⟨rfl, rfl, trivial⟩
  rw [show p + 5 - p = 5 by omega, take_row5 hq]; rfl
set_option maxRecDepth 4000 in
set_option maxHeartbeats 1000000 in
theorem take5_nox (B : List Int) (hB : B.length ≤ 4000000000000000000) (w h : Int) (us : List TL) (hu : us.length ≤ 5000) (p : Nat) (hp : p ≤ B.length) (hq : ¬ p + 5 ≤ B.length) : DPanL Try.prog 59 [.loc 0 0, .val (.int .i64 (5 : Int))] [.mix 71 [.val (.int .i64 w), .val (.int .i64 h), .arr 1, .slf 1 (B).length ((B).flatMap u8V), .val (.int .i64 (p : Int))], .arr 29 256 (us).length ((us).flatMap tc)] (.ifc 86 (.val (.agg #[]))) := by
  refine dcalls_go (N := 38) 2 (by kernel_rfl) Try.func59 rfl rfl rfl (by simp only [fr0, Nat.zero_add, Nat.reduceAdd]; exact rfl) rfl fun s0 hs0 => ?_
  refine zaf ?_
  refine zad ?_
  refine zab rfl rfl rfl (zac (.inr rfl) (ev1 rfl)) ?_
  refine zae ?_
  refine zaf ?_
  refine dwp_draw [([], []), ([], []), ([], []), ([0], []), ([], []), ([], []), ([], []), ([0], []), ([], []), ([], []), ([], []), ([], [])] mixed (by kernel_rfl) ?_
  refine zag rfl rfl (zac (.inl rfl) (ev1 rfl)) ?_
  refine zag rfl rfl (op_nc rfl (ev1 rfl) (fun s v h => by cases h; exact ⟨_, rfl⟩)) ?_
  refine zag rfl rfl (op_fa rfl fo71_2 (ev1 rfl)) ?_
  refine zag rfl rfl (op_ldm rfl tb3 (ev1 rfl) rfl rfl) ?_
  refine zag rfl rfl (zac (.inl rfl) (ev1 rfl)) ?_
  refine zag rfl rfl (op_nc rfl (ev1 rfl) (fun s v h => by cases h; exact ⟨_, rfl⟩)) ?_
  refine zag rfl rfl (op_fa rfl fo71_2 (ev1 rfl)) ?_
  refine zag rfl rfl (op_ldm rfl tb3 (ev1 rfl) rfl rfl) ?_
  refine zag rfl rfl (zac (.inl rfl) (ev1 rfl)) ?_
  refine zag rfl rfl (op_add' rfl (ev1 rfl) (ev1 rfl) (fun _ => IntWalk.i64_in _ (by omega))) ?_
  refine zag rfl rfl (zac (.inr rfl) (ev1 rfl)) ?_
  refine zag rfl rfl (zac (.inr rfl) (ev1 rfl)) ?_
  refine lex_nil ?_
  refine zaf ?_
  refine zaf ?_
  refine zad ?_
  refine zab rfl rfl rfl (zac (.inl rfl) (ev1 rfl)) ?_
  refine zab rfl rfl rfl (zac (.inl rfl) (ev1 rfl)) ?_
  refine zab rfl rfl rfl (op_nc rfl (ev1 rfl) (fun s v h => by cases h; exact ⟨_, rfl⟩)) ?_
  refine zab rfl rfl rfl (op_fa rfl fo71_1 (ev1 rfl)) ?_
  refine zab rfl rfl rfl (op_ldm rfl tb23 (ev1 rfl) rfl rfl) ?_
  refine zab rfl rfl rfl (op_len rfl sl23 (ev1 rfl)) ?_
  refine zab rfl rfl rfl (op_gtr rfl (ev1 rfl) (ev1 rfl)) ?_
  refine zae ?_
  refine dwp_if_t rfl (by simp; omega) ?_
  refine zad ?_
  refine zab rfl rfl rfl (op_build0 rfl fl86 zr86) ?_
  refine zab rfl rfl rfl (op_mi rfl ni86 (ev1 rfl)) ?_
  refine walk_p rfl (op_pan rfl (ev1 rfl)) rfl ?_
  refine kpanL (Mo := [_, _]) [0, 1] rfl rfl ?_ ⟨rfl, rfl, trivial⟩ rfl
  rfl
set_option maxRecDepth 4000 in
set_option maxHeartbeats 1000000 in
theorem runs_d (B : List Int) (hB : B.length ≤ 4000000000000000000) (p : Nat) : DFun Try.prog 53 [.loc 0 0] [.mix 71 [.val (.int .i64 0), .val (.int .i64 0), .val (.slice none 0 0), .slf 1 (B).length ((B).flatMap u8V), .val (.int .i64 (p : Int))]] (.fn (.func 62) [] [.loc 1 0]) [.mix 71 [.val (.int .i64 0), .val (.int .i64 0), .val (.slice none 0 0), .slf 1 (B).length ((B).flatMap u8V), .val (.int .i64 (p : Int))], .mix 93 [.loc 0 0]] := by
  refine dcalls_go (N := 4) 1 (by kernel_rfl) Try.func53 rfl rfl rfl (by simp only [fr0, Nat.zero_add, Nat.reduceAdd]; exact rfl) rfl fun s0 hs0 => ?_
  refine zaf ?_
  refine zah 1 (by simp only [holes, List.cons_append, List.nil_append]; exact rfl) ?_
  refine zad ?_
  refine walk_w rfl rfl rfl (op_boxm 1 rfl (ev1 rfl) (fun s v h => by cases h <;> rfl) rfl) (by simp only [upd, za, zaa]; exact rfl) ?_
  refine zab rfl rfl rfl (zac (.inr rfl) (ev1 rfl)) ?_
  refine zae ?_
  refine zaf ?_
  refine zad ?_
  refine zab rfl rfl rfl (op_mkf rfl en (ec (ev1 rfl) en)) ?_
  refine zab rfl rfl rfl (zac (.inr rfl) (ev1 rfl)) ?_
  refine zae ?_
  refine dwp_ret ?_
  refine kend [0, 1] (rs1 rfl (rv_t rfl)) rfl rfl ?_ ⟨rfl, rfl, trivial⟩
  rfl
set_option maxRecDepth 4000 in
set_option maxHeartbeats 1000000 in
theorem runs_dx (B : List Int) (hB : B.length ≤ 4000000000000000000) (w h : Int) (us : List TL) (hu : us.length ≤ 5000) (p : Nat) : DFun Try.prog 53 [.loc 0 0] [.mix 71 [.val (.int .i64 w), .val (.int .i64 h), .arr 1, .slf 1 (B).length ((B).flatMap u8V), .val (.int .i64 (p : Int))], .arr 29 256 (us).length ((us).flatMap tc)] (.fn (.func 62) [] [.loc 2 0]) [.mix 71 [.val (.int .i64 w), .val (.int .i64 h), .arr 1, .slf 1 (B).length ((B).flatMap u8V), .val (.int .i64 (p : Int))], .arr 29 256 (us).length ((us).flatMap tc), .mix 93 [.loc 0 0]] := by
  refine dcalls_go (N := 4) 2 (by kernel_rfl) Try.func53 rfl rfl rfl (by simp only [fr0, Nat.zero_add, Nat.reduceAdd]; exact rfl) rfl fun s0 hs0 => ?_
  refine zaf ?_
  refine zah 1 (by simp only [holes, List.cons_append, List.nil_append]; exact rfl) ?_
  refine zad ?_
  refine walk_w rfl rfl rfl (op_boxm 2 rfl (ev1 rfl) (fun s v h => by cases h <;> rfl) rfl) (by simp only [upd, za, zaa]; exact rfl) ?_
  refine zab rfl rfl rfl (zac (.inr rfl) (ev1 rfl)) ?_
  refine zae ?_
  refine zaf ?_
  refine zad ?_
  refine zab rfl rfl rfl (op_mkf rfl en (ec (ev1 rfl) en)) ?_
  refine zab rfl rfl rfl (zac (.inr rfl) (ev1 rfl)) ?_
  refine zae ?_
  refine dwp_ret ?_
  refine kend [0, 1, 2] (rs1 rfl (rv_t rfl)) rfl rfl ?_ ⟨rfl, rfl, rfl, trivial⟩
  rfl
set_option maxRecDepth 4000 in
set_option maxHeartbeats 1000000 in
theorem failed_no : DFun Try.prog 33 [.val .nilIface] [] (.val (.bool false)) [] := by
  refine dcalls_go (N := 11) 0 (by kernel_rfl) Try.func33 rfl rfl rfl (by simp only [fr0, Nat.zero_add, Nat.reduceAdd]; exact rfl) rfl fun s0 hs0 => ?_
  refine zaf ?_
  refine zad ?_
  refine zab rfl rfl rfl (zac (.inr rfl) (ev1 rfl)) ?_
  refine zae ?_
  refine zaf ?_
  refine zah 1 (by simp only [holes, List.cons_append, List.nil_append]; exact rfl) ?_
  refine zad ?_
  refine zab rfl rfl rfl (zac (.inl rfl) (ev1 rfl)) ?_
  refine zab rfl rfl rfl (op_tan rfl ni86 zv86 (ev1 rfl)) ?_
  refine zab rfl rfl rfl (zac (.inl rfl) (ev1 rfl)) ?_
  refine zab rfl rfl rfl (op_ext rfl (ev1 rfl) rfl) ?_
  refine zab rfl rfl rfl (op_ext rfl (ev1 rfl) rfl) ?_
  refine walk_w rfl rfl rfl (op_alloc 0 rfl zr86 rfl) (by simp only [upd, za, zaa]; exact rfl) ?_
  refine walk_s rfl rfl (op_stwa rfl tb86 (ev1 rfl) (ev1 rfl) rfl rfl rfl rfl) (by simp only [upd, za, zaa]; exact rfl) ?_
  refine zab rfl rfl rfl (zac (.inr rfl) (ev1 rfl)) ?_
  refine zae ?_
  refine zaf ?_
  refine zad ?_
  refine zab rfl rfl rfl (zac (.inl rfl) (ev1 rfl)) ?_
  refine zab rfl rfl rfl (zac (.inr rfl) (ev1 rfl)) ?_
  refine zae ?_
  refine dwp_ret ?_
  refine kend0 (rs1 rfl (rv_t rfl)) rfl ?_
  rfl
set_option maxRecDepth 4000 in
set_option maxHeartbeats 1000000 in
theorem failed_y : DFun Try.prog 33 [.ifc 86 (.val (.agg #[]))] [] (.val (.bool true)) [] := by
  refine dcalls_go (N := 11) 0 (by kernel_rfl) Try.func33 rfl rfl rfl (by simp only [fr0, Nat.zero_add, Nat.reduceAdd]; exact rfl) rfl fun s0 hs0 => ?_
  refine zaf ?_
  refine zad ?_
  refine zab rfl rfl rfl (zac (.inr rfl) (ev1 rfl)) ?_
  refine zae ?_
  refine zaf ?_
  refine zah 1 (by simp only [holes, List.cons_append, List.nil_append]; exact rfl) ?_
  refine zad ?_
  refine zab rfl rfl rfl (zac (.inl rfl) (ev1 rfl)) ?_
  refine zab rfl rfl rfl (op_tay rfl ni86 (ev1 rfl)) ?_
  refine zab rfl rfl rfl (zac (.inl rfl) (ev1 rfl)) ?_
  refine zab rfl rfl rfl (op_ext rfl (ev1 rfl) rfl) ?_
  refine zab rfl rfl rfl (op_ext rfl (ev1 rfl) rfl) ?_
  refine walk_w rfl rfl rfl (op_alloc 0 rfl zr86 rfl) (by simp only [upd, za, zaa]; exact rfl) ?_
  refine walk_s rfl rfl (op_stwa rfl tb86 (ev1 rfl) (ev1 rfl) rfl rfl rfl rfl) (by simp only [upd, za, zaa]; exact rfl) ?_
  refine zab rfl rfl rfl (zac (.inr rfl) (ev1 rfl)) ?_
  refine zae ?_
  refine zaf ?_
  refine zad ?_
  refine zab rfl rfl rfl (zac (.inl rfl) (ev1 rfl)) ?_
  refine zab rfl rfl rfl (zac (.inr rfl) (ev1 rfl)) ?_
  refine zae ?_
  refine dwp_ret ?_
  refine kend0 (rs1 rfl (rv_t rfl)) rfl ?_
  rfl
end Go.Proofs.Ytcbfnbfhlofkiaa
