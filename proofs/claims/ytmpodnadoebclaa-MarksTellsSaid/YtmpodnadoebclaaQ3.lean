/- Families, looked into and written; rows of names; appends of what is one's own; Structs of data that stay: boxed; arrays in them, looked into and cut; Variables of a family: looked into, written, told apart by their addresses; a variable joins a family; Maps from numbers to data with addresses: made, looked up, a new key set; Maps of data with addresses, gone through in whatever order; A nil slice in a cell of a variable, taken over as a row of one's own that holds data; What is known of a value, told otherwise: nil slices as rows of nothing, plain structs as lists of cells; Memory that nobody asks for any more; a row of data that is given up by the operation that makes it; Arrays of words that are values, read at a place; cells at a place that is not known; Rows of families that grow by append; a row that a variable's cell names joins a family; Rows of structs with addresses, made by ma. No condition. -/
import Derived.Test.YtmpodnadoebclaaQ2
import Derived.Test.YtmpodnadoebclaaRows
import Derived.LaidEqlPtr
import Derived.Maps.RangeRun
import Derived.ArgAppend
namespace Go.Proofs.Ytmpodnadoebclaa
set_option linter.unusedVariables false
set_option linter.unusedSimpArgs false
open Go.RowKit
/-- a store into a family's member -/
theorem tr_stf {s : St} (ho : Ok s) {i k : Nat} {Bs : List Mem} {hs : List Value} {B B' : Mem} {u : Value} {b : Nat} (hi : s.M[i]? = some (.fam Bs)) (hβ : s.β[i]? = some (.tuple hs.toArray)) (hB : Bs[k]? = some B) (hl : B.live = true) (hl' : B'.live = true) (hu : hs[k]? = some u) (hub : hb u = some b) (p : Nat) (C : List Value)
    (hm : MemOk (s.w.setCells b p C) u B') : Tr s ⟨s.β.set i (.tuple hs.toArray), s.I, s.M.set i (.fam (Bs.set k B')), s.w.setCells b p C⟩ := by
  have hil := (List.getElem?_eq_some_iff.1 hi).1
  have hf := fam_at (k := k) ho hi hβ
  obtain ⟨r1, r2, r3, r4⟩ := setCells_rest b C p s.w
  have hkl := (List.getElem?_eq_some_iff.1 hB).1
  have old : ∀ (q : Nat) X, (Bs.set k B')[q]? = some X → X.live = true → ∃ Y, Bs[q]? = some Y ∧ Y.live = true := by
    intro q X h1 h2
    by_cases e : k = q
    · subst e; exact ⟨B, hB, hl⟩
    · rw [List.getElem?_set_ne e] at h1; exact ⟨X, h1, h2⟩
  have tw : ∀ b', owns (.fam (Bs.set k B')) (.tuple hs.toArray) b' → owns (.fam Bs) (.tuple hs.toArray) b' := by
    rintro b' ⟨hs', q, X, y, e1, e2, e3, e4, e5⟩
    have e1 : hs = hs' := by simpa using e1
    subst e1
    obtain ⟨Y, f1, f2⟩ := old q X e2 e3
    exact ⟨hs, q, Y, y, rfl, f1, f2, e4, e5⟩
  refine step_set ho i s.M _ _ _ rfl (fun _ _ h => .inl h) hil (.inr (.inl hβ)) (by simp) ⟨hs, rfl, by rw [List.length_set]; exact hf.len, fun q X y h1 h2 => ?_, fun q q' X X' y y' b' h1 l1 h2 h3 g1 m1 g2 g3 => ?_⟩ (fun b' hb' j kj hj hne h1 h2 h3 h4 => ?_) (fun b' hb' => .inr (live_of hi rfl hβ (tw b' hb'))) (fun b' hb' => ?_) (fun _ => False) (fun _ h => h.elim) (fun b' hlt hne _ => ?_) r2 r3 r4 (by rw [r1]; exact Nat.le_refl _)
  · by_cases e : k = q
    · subst e
      rw [List.getElem?_set_self hkl] at h1
      cases h1
      rw [hu] at h2; cases h2
      exact hm
    · rw [List.getElem?_set_ne e] at h1
      refine (hf.ok q X y h1 h2).mono fun b' hlv hbb => setCells_other b C p s.w b' fun e2 => ?_
      subst e2
      exact e (hf.inj k q B X u y b' hB hl hu hub h1 hlv h2 hbb)
  · obtain ⟨Y, f1, f2⟩ := old q X h1 l1
    obtain ⟨Y', f1', f2'⟩ := old q' X' g1 m1
    exact hf.inj q q' Y Y' y y' b' f1 f2 h2 h3 f1' f2' g2 g3
  · exact hne (ho.inj j i kj _ hj _ b' h1 h2 h3 h4 hi rfl hβ (tw b' hb'))
  · rw [r1]; exact (ho.lt b' (live_of hi rfl hβ (tw b' hb'))).1
  · refine setCells_other b C p s.w b' fun e => hne ?_
    rw [e]
    exact ⟨hs, k, B', u, rfl, by rw [List.getElem?_set_self hkl], hl', hu, hub⟩
section
variable {P : Program} {pc : Bool} {o : Oper} {F : Fr} {M : List Blk}
end
section
variable {P : Program} {pc : Bool} {o : Oper} {F : Fr} {M : List Blk}
theorem op_bsxs {T e : TypeId} {n sz by' : Nat} {ps : List (Nat × Operand)} {ds R : List D} {Z : List Value} (jn : Nat) (ho : o.op = .buildSlice T n ps.toArray) (hT : slE P T = some (e, sz, by')) (hZ : zrC P e = some Z) (hi : ps.map (·.1) = List.range' 0 n) (hv : EvL pc F (ps.map (·.2)) ds) (hc : ds.all D.c1 = true) (hs : ds.all (fun d => d.cs.length == sz) = true)
    (hR : ds.flatMap D.cs = R) (hl : R.length = n * sz) (hn : n ≤ 16777216) (hn2 : n * sz ≤ 16777216) (hj : M[jn]? = some .hole) : DOp P pc o F M [jn] (.arr jn) [(jn, .arx e sz n R)] := by
  intro hp a s hok hops hfp
  have hr := evL_reps (a := a) (s := s) hp _ _ hv (fun x hx => hops x (by rw [ho]; simpa [Op.operands] using hx))
  obtain ⟨vs, hvs⟩ : ∃ vs, vs = (ps.map (·.2)).map a.eval := ⟨_, rfl⟩
  rw [← hvs] at hr
  have hcs := reps_cs ds vs hr hc
  rw [hR] at hcs
  have hcell : ∀ v ∈ vs, v.cells.size = sz := fun v hv' => by
    obtain ⟨j, hj, rfl⟩ := List.getElem_of_mem hv'
    have hj2 : j < ds.length := by have := hr.1; omega
    have h1 := (cs_rep (hr.2 j _ _ (List.getElem?_eq_getElem hj2) (List.getElem?_eq_getElem hj)) (List.all_eq_true.1 hc _ (List.getElem_mem hj2))).1
    have h2 := List.all_eq_true.1 hs _ (List.getElem_mem hj2)
    simp only [beq_iff_eq] at h2
    rw [h2] at h1
    simpa using h1
  have hrun := run_buildSlice (P := P) (w := s.w) ho hT hZ hi hvs.symm hcell hn2
  have hj' : s.M[jn]? = some .hole := by rw [hfp jn (by simp)]; exact hj
  have hjl : jn < s.β.length := by rw [hok.len]; exact (List.getElem?_eq_some_iff.1 hj').1
  obtain ⟨us, hus⟩ : ∃ us, us = vs.flatMap fun v => v.cells.toList := ⟨_, rfl⟩
  rw [← hus] at hrun hcs
  have hul : us.length = n * sz := by rw [hcs.1, hl]
  refine dg_step (s' := ⟨s.β.set jn (.slice (some ⟨s.w.heap.size, 0, none⟩) n n), s.I, s.M.set jn (.arx e sz n R), _⟩) hrun (tr_new hok hj' _ _ _ (by simp) (fun b hb => by cases hb; rfl) (fun b h => Below.heap_alloc _ _ _ h) (fun b hb => by cases hb; simp) (by simp) rfl rfl rfl ?_) rfl (.arr (by simp [hjl]))
  have hrow := World.ownsRow_lit (base := 0) (e := e) (size := sz) s.w us.toArray n (Nat.zero_le _) (by unfold maxLen; omega) (by simp [hul])
  refine ⟨us, by simpa using hrow, hcs.1, fun j' d v h2 h3 => ?_⟩
  refine Rep.mono' (s := s) (s' := ⟨s.β.set jn (.slice (some ⟨s.w.heap.size, 0, none⟩) n n), s.I, s.M.set jn (.arx e sz n R), s.w.alloc (.cells us.toArray e)⟩) (fun i h hi hne => ?_) (fun _ h => h) (fun b hb => Below.heap_alloc _ _ _ (hok.il b hb)) (hcs.2 j' d v h2 h3)
  by_cases e' : i = jn
  · subst e'
    exact absurd (hok.blk i _ h hj' hi) hne
  · rw [List.getElem?_set_ne (Ne.symm e')]; exact hi
end
end Go.Proofs.Ytmpodnadoebclaa
namespace Go.Proofs.Ytmpodnadoebclaa
set_option linter.unusedVariables false
set_option linter.unusedSimpArgs false
open Go.RowKit
section
variable {P : Program} {pc : Bool} {o : Oper} {F : Fr} {M : List Blk}
/-- a struct of data that names no block, boxed: it stays -/
theorem op_boxf {T : TypeId} {x : Operand} {ds : List D} (hnl : D.nlL ds = true) (ho : o.op = .box T x) (hx : Ev pc F x (.agg ds)) : DOp P pc o F M [] (.dpm ds) [] := by
  intro hp a s hok hops hfp
  have hr := ev_at hp hx (by simp [ho, Op.operands]) hops
  generalize hv : a.eval x = vx at hr
  cases hr with
  | @agg _ vs hvl h =>
    have ht := step_imm hok (.cells vs.toArray T)
    have hrun : (execOp a.eval o).run P s.w = .ok (.value (.pointer (some ⟨s.w.heap.size, 0, none⟩))) (s.w.alloc (.cells vs.toArray T)) := by
      unfold execOp
      simp only [ho, hv]
      exact run_v (by simp only [Instr.box, Sem.run_bind, run_newVar, Result.andThen_ok, Sem.run_pure]; rfl)
    refine dg_step (s' := ⟨s.β, fun b => s.I b ∨ b = s.w.heap.size, s.M, s.w.alloc (.cells vs.toArray T)⟩) hrun ht rfl (.dpm hnl (.inr rfl) ?_ hvl fun j d v h1 h2 => (h j d v h1 h2).mono hok ht)
    simpa using cellsAt_block (heap_alloc_new s.w _) 0
end
/-- a block is forgotten -/
theorem tr_gone {s : St} (ho : Ok s) (i : Nat) : Tr s ⟨s.β, s.I, s.M.set i .gone, s.w⟩ := by
  have hnd : ∀ (i : Nat) h, s.β[i]? = some h → h ≠ .nilFunc → s.β[i]? = some h := fun _ _ h _ => h
  have old : ∀ (j : Nat) k, (s.M.set i .gone)[j]? = some k → k = .gone ∨ s.M[j]? = some k := fun j k hj => by
    by_cases e : i = j
    · subst e
      by_cases hl : i < s.M.length
      · rw [List.getElem?_set_self hl] at hj
        exact .inl (Option.some.inj hj).symm
      · rw [List.getElem?_eq_none (by simp; omega)] at hj; cases hj
    · rw [List.getElem?_set_ne e] at hj; exact .inr hj
  have lv : ∀ b, Live ⟨s.β, s.I, s.M.set i .gone, s.w⟩ b → Live s b := by
    rintro b ⟨j, k, h, h1, h2, h3, h4⟩
    rcases old j k h1 with rfl | h1
    · cases h2
    · exact live_of h1 h2 h3 h4
  refine ⟨⟨by simp [ho.len], fun j k h h1 h2 => ?_, fun b hb => ho.lt b (lv b hb), ?_, ho.il⟩, hkeep_of hnd, fun _ h => h, fun _ h => .inl h, fun _ _ _ => rfl, fun b h => .inr (lv b h), rfl, rfl, rfl, Nat.le_refl _⟩
  · rcases old j k h1 with rfl | h1
    · trivial
    · exact BlkOk.mono (s := s) (s' := ⟨s.β, s.I, s.M.set i .gone, s.w⟩) hnd (fun _ h => h) (fun _ _ => rfl) (ho.blk j k h h1 h2) (fun _ _ _ => rfl)
  · intro j j2 k k2 x x2 b a1 a2 a3 a4 c1 c2 c3 c4
    rcases old j k a1 with rfl | a1
    · cases a2
    · rcases old j2 k2 c1 with rfl | c1
      · cases c2
      · exact ho.inj j j2 k k2 x x2 b a1 a2 a3 a4 c1 c2 c3 c4
/-- a row of one's own is given up: it stays from now on -/
theorem tr_giveA {s : St} (ho : Ok s) {j sz n : Nat} {T : TypeId} {L : List Value} {v : Value} (hM : s.M[j]? = some (.arr T sz n L)) (hr : Rep s (.arr j) v) : ∃ I' : Nat → Prop, Tr s ⟨s.β, I', s.M.set j .gone, s.w⟩ ∧ Rep ⟨s.β, I', s.M.set j .gone, s.w⟩ (.slf sz n L) v := by
  cases hr with
  | @arr _ ad n' c hβ =>
    have hk : s.w.ownsRow 0 T sz _ n L := ho.blk j _ _ hM hβ
    rcases hk.2 with ⟨e1, e2⟩ | ⟨g, cap, cur, e1, e2, e3, e4, e5, e6, e7⟩
    · cases e1; subst e2
      exact ⟨s.I, tr_gone ho j, .slf hk.1 (Nat.le_refl _) (Nat.zero_le _) (fun _ => rfl) (.inl (List.eq_nil_of_length_eq_zero (by simpa using hk.1)))⟩
    · cases e1
      refine ⟨fun b => s.I b ∨ b = g, tr_give ho hM rfl hβ rfl s.w (fun _ _ => rfl) rfl rfl rfl rfl, .slf hk.1 e4 e5 (fun e => by cases e) (.inr ⟨g, 0, rfl, .inr rfl, ?_⟩)⟩
      have hc := cellsAt_sub (cellsAt_block e3 0) 0 (n * sz)
      show cellsAt s.w g 0 L
      simpa [e7] using hc
theorem DGives.map {P : Program} {s : St} {post post' : St → Value → Prop} {r : Result Next} (h : DGives P s post r) (f : ∀ s' v, Ok s' → post s' v → ∃ s'', s''.w = s'.w ∧ Tr s' s'' ∧ post' s'' v) : DGives P s post' r := by
  have key : ∀ {w' : World} {v : Value}, (∃ s', s'.w = w' ∧ Tr s s' ∧ post s' v) → ∃ s', s'.w = w' ∧ Tr s s' ∧ post' s' v := by
    rintro w' v ⟨s', rfl, a2, a3⟩
    obtain ⟨s'', b1, b2, b3⟩ := f s' v a2.ok a3
    exact ⟨s'', b1, a2.trans b2, b3⟩
  cases r with
  | halt x w' => exact h
  | ok nx w' =>
    cases nx with
    | value v => exact key h
    | skip => exact key h
    | enter g args =>
      refine ⟨h.1, h.2.mono ?_⟩
      rintro e w'' ⟨s', v, b1, b2, b3, b4⟩
      obtain ⟨s'', c1, c2, c3⟩ := key ⟨s', b2, b3, b4⟩
      exact ⟨s'', v, b1, c1, c2, c3⟩
    | round l f tmps asg body =>
      refine ⟨h.1, h.2.mono ?_⟩
      rintro e w'' ⟨s', v, b1, b2, b3, b4⟩
      obtain ⟨s'', c1, c2, c3⟩ := key ⟨s', b2, b3, b4⟩
      exact ⟨s'', v, b1, c1, c2, c3⟩
    | _ => exact h
section
variable {P : Program} {s0 : St} {n : Cx}
theorem inv_giveA {F : Fr} {M : List Blk} {a : Act} {w : World} {t i : Nat} {e : TypeId} {sz m : Nat} {L : List Value} (h : Inv s0 n F M a w) (ht : lk F t = some (.arr i)) (hM : M[i]? = some (.arr e sz m L)) : Inv s0 n ((t, .slf sz m L) :: F) (M.set i .gone) a w := by
  obtain ⟨h0, s, rfl, rfl, h3, h4, h5, h6⟩ := h
  obtain ⟨I', tt, r1⟩ := tr_giveA h3.ok hM (h4 t _ ht)
  refine ⟨h0, ⟨s.β, I', s.M.set i .gone, s.w⟩, rfl, rfl, h3.trans tt, fun x d hd => ?_, h5, h6.mono h3.ok tt⟩
  rw [lk_cons] at hd
  split at hd
  · rename_i e'
    subst e'
    obtain rfl := Option.some.inj hd
    exact r1
  · exact (h4 x d hd).mono h3.ok tt
theorem dwp_giveA {c : Code} {F : Fr} {M M' : List Blk} {K : Cont} (t : Nat) {i : Nat} {e : TypeId} {sz m : Nat} {L : List Value} (ht : lk F t = some (.arr i)) (hM : M[i]? = some (.arr e sz m L)) (hM' : M.set i .gone = M') (h : dwp P s0 n c ((t, .slf sz m L) :: F) M' K) : dwp P s0 n c F M K := by
  subst hM'
  exact fun a w hi => h a w (inv_giveA hi ht hM)
end
section
variable {P : Program} {s0 : St} {n : Cx}
end
end Go.Proofs.Ytmpodnadoebclaa
namespace Go.Proofs.Ytmpodnadoebclaa
set_option linter.unusedVariables false
set_option linter.unusedSimpArgs false
open Go.RowKit
theorem fam_flat {s : St} (hok : Ok s) {i k b : Nat} {T : TypeId} {Bs : List Mem} {L : List Value} {hs : List Value} (hM : s.M[i]? = some (.fam Bs)) (h : s.β[i]? = some (.tuple hs.toArray)) (hB : Bs[k]? = some (.flat T L)) (hk : hs[k]? = some (.pointer (some ⟨b, 0, none⟩))) : s.w.heap[b]? = some (.cells L.toArray T (0, 0)) := by
  obtain ⟨b', e, h2⟩ := (fam_at (k := k) hok hM h).ok k _ _ hB hk
  cases e
  exact h2
section
variable {P : Program} {pc : Bool} {o : Oper} {F : Fr} {M : List Blk}
/-- a part of it -/
theorem op_ldfp {T T' : TypeId} {x : Operand} {i m p k : Nat} {Bs : List Mem} {L R : List Value} (ho : o.op = .load T x) (hT : tyB P T = some (true, k)) (hx : Ev pc F x (.floc i m p)) (hM : M[i]? = some (.fam Bs)) (hB : Bs[m]? = some (.flat T' L)) (hR : (L.drop p).take k = R) (hl : R.length = k) : DOp P pc o F M [i] (.val (.agg R.toArray)) [] := by
  intro hp a s hok hops hfp
  have hr := ev_at hp hx (by simp [ho, Op.operands]) hops
  have hM' : s.M[i]? = some (.fam Bs) := by rw [hfp i (by simp)]; exact hM
  generalize hv : a.eval x = vx at hr
  cases hr with
  | @floc _ _ _ b hs h hkk =>
    have hc := fam_flat hok hM' h hB hkk
    have hR' := cellsAt_range (cellsAt_block hc 0) p k (R := R) (by simpa using hR)
    exact dg_val hok (run_load_row ho hT hv (by simpa using hR') hl) (.val _)
/-- .. written over -/
theorem op_stfp {T T' : TypeId} {x y : Operand} {i m p k : Nat} {rw' : Bool} {v : Value} {Bs : List Mem} {L C L' : List Value} (ho : o.op = .store T x y) (hT : tyB P T = some (rw', k)) (hx : Ev pc F x (.floc i m p)) (hy : Ev pc F y (.val v)) (hM : M[i]? = some (.fam Bs)) (hB : Bs[m]? = some (.flat T' L)) (hC : v.cells.toList = C) (hk : C.length = k) (h1 : C.all (·.oneCell') = true)
    (hfit : p + C.length ≤ L.length) (hL : setL L p C = L') : DOp P pc o F M [i] .junk [(i, .fam (Bs.set m (.flat T' L')))] := by
  intro hp a s hok hops hfp
  have hr := ev_at hp hx (by simp [ho, Op.operands]) hops
  have h2 := (ev_at hp hy (by simp [ho, Op.operands]) hops).val_eq
  have hM' : s.M[i]? = some (.fam Bs) := by rw [hfp i (by simp)]; exact hM
  subst hL
  generalize hv : a.eval x = vx at hr
  cases hr with
  | @floc _ _ _ b hs h hkk =>
    have hc := fam_flat hok hM' h hB hkk
    have hcell := cellsAt_block hc 0
    have hrun := run_store (P := P) (w := s.w) ho hT hv h2 hC hk (fun j hj => by
        have := hcell (p + j) _ (by simpa using List.getElem?_eq_getElem (by omega : p + j < L.length))
        rw [Nat.zero_add] at this
        rw [this]; rfl) (fun j hj => by simp [World.frozen?, hc]) (fun u hu => List.all_eq_true.1 h1 u hu)
    exact dg_skip (s' := ⟨s.β.set i (.tuple hs.toArray), s.I, s.M.set i (.fam (Bs.set m (.flat T' (setL L p C)))), s.w.setCells b p C⟩) hrun (tr_stf hok hM' h hB rfl rfl hkk rfl p C ⟨b, rfl, setCells_block b C p s.w L T' hc⟩) rfl
/-- a place in an array that a pointer names -/
theorem op_ixfl {T : TypeId} {x y : Operand} {i m p n sz : Nat} {k : IntKind} {z : Int} (ho : o.op = .indexAddr T x y) (hT : arE P T = some (n, sz)) (hx : Ev pc F x (.floc i m p)) (hy : Ev pc F y (.val (.int k z))) (h : pc = true → 0 ≤ z ∧ z < n) : DOp P pc o F M [] (.floc i m (p + z.toNat * sz)) [] := by
  intro hp a s hok hops hfp
  have hr := ev_at hp hx (by simp [ho, Op.operands]) hops
  have h2 := (ev_at hp hy (by simp [ho, Op.operands]) hops).val_eq
  generalize hv : a.eval x = vx at hr
  cases hr with
  | @floc _ _ _ b hs hb hkk => exact dg_val hok (run_index_arr ho hT hv h2 (h hp).1 (h hp).2) (.floc hb hkk)
/-- it is not nil -/
theorem op_pnilf {T T' e : TypeId} {x : Operand} {i m q : Nat} (ho : o.op = .binOp .eql T x (.const (.pointer none)) T') (hT : ptT P T = some e) (hx : Ev pc F x (.floc i m q)) : DOp P pc o F M [] (.val (.bool false)) [] := by
  intro hp a s hok hops _
  have hr := ev_at hp hx (by simp [ho, Op.operands]) hops
  generalize hv : a.eval x = vx at hr
  cases hr with
  | @floc _ _ _ b hs h hkk =>
    refine dg_val (v := .bool false) hok ?_ (.val _)
    unfold execOp
    simp only [ho, hv]
    refine run_v ?_
    have hc : a.eval (.const (.pointer none)) = .pointer none := rfl
    rw [hc]
    have hg : (eqGuard .eql T x (.const (.pointer none)) (.pointer (some ⟨b, q, none⟩)) (.pointer none)).run P s.w = .ok () s.w := by unfold eqGuard; rfl
    rw [Sem.run_bind, hg]
    have he := run_equal_pointer_nil (P := P) s.w T (some ⟨b, q, none⟩) (by rw [show P.pointee T = e by simp [Program.pointee, ptT_spec hT]]; exact ptT_spec hT)
    simp only [Result.andThen, binOp, Sem.run_bind, he]
    rfl
/-- one datum of one cell stored into a row of one's own -/
theorem op_stx1 {α : Type} {g : α → D} {l : List α} {q : α} {T T' : TypeId} {x y : Operand} {i j n : Nat} {rw' : Bool} (ho : o.op = .store T x y) (hT : tyB P T = some (rw', 1)) (hx : Ev pc F x (.aloc i (j * 1))) (hy : Ev pc F y (g q)) (hM : M[i]? = some (.arx T' 1 n (l.flatMap fun a => [g a]))) (hj : j < l.length) (h1 : ∀ (s : St) v, Rep s (g q) v → v.cells = #[v] ∧ v.oneCell' = true) :
    DOp P pc o F M [i] .junk [(i, .arx T' 1 n ((l.set j q).flatMap fun a => [g a]))] := by
  have hmk : ∀ a, ((fun a => [g a]) a).length = 1 := fun _ => rfl
  have hmq0 : (fun a => [g a]) q = [g q] := rfl
  generalize hsz : (1 : Nat) = sz at hT hx hM hmk ⊢
  generalize (fun a => [g a]) = mk at hM hmk hmq0 ⊢
  intro hp a s hok hops hfp
  have hr := ev_at hp hx (by simp [ho, Op.operands]) hops
  have hry := ev_at hp hy (by simp [ho, Op.operands]) hops
  have hM' : s.M[i]? = some (.arx T' sz n (l.flatMap mk)) := by rw [hfp i (by simp)]; exact hM
  generalize hv : a.eval x = vx at hr
  generalize hvy : a.eval y = vy at hry
  cases hr with
  | @aloc _ _ n' c b h =>
    obtain ⟨hcel, hone⟩ := h1 s vy hry
    obtain ⟨us, hus⟩ : ∃ us, us = [vy] := ⟨_, rfl⟩
    have hul : us.length = (mk q).length := by rw [hus, hmq0]; rfl
    have hu : ∀ (p : Nat) d v, (mk q)[p]? = some d → us[p]? = some v → Rep s d v := fun p d v g1 g2 => by
      rw [hmq0] at g1
      rw [hus] at g2
      match p, g1, g2 with
      | 0, g1, g2 => cases g1; cases g2; exact hry
    have hC : vy.cells.toList = us := by rw [hcel, hus]
    have hoc0 : ∀ u ∈ us, u.oneCell' = true := fun u hu' => by
      rw [hus] at hu'
      obtain rfl := List.mem_singleton.1 hu'
      exact hone
    · skip
      obtain ⟨vs, hk, q3, q4⟩ := hok.blk i _ _ hM' h
      rcases hk.2 with ⟨e1, e2⟩ | ⟨g, cap, cur, e1, e2, e3, e4, e5, e6, e7⟩
      · cases e1
      · cases e1
        have hflat : (l.flatMap mk).length = l.length * sz := flatM_len' hmk l
        have hle := Nat.mul_le_mul_right sz e4
        have hjs : (j + 1) * sz ≤ l.length * sz := Nat.mul_le_mul_right _ hj
        rw [Nat.succ_mul] at hjs
        have hlV := hk.1
        have husz : us.length = sz := by rw [hul, hmk]
        have hcell := cellsAt_block e3 0
        have hoc := hoc0
        have hcurlen : cur.toList.length = c * sz := by simpa using e6
        have hrun := run_store (P := P) (w := s.w) (C := us) ho hT hv hvy hC husz (fun p hp' => by
            have := hcell (j * sz + p) _ (by simpa using List.getElem?_eq_getElem (by simp at hcurlen ⊢; omega : j * sz + p < cur.toList.length))
            rw [Nat.zero_add] at this
            rw [this]; rfl) (fun p hp' => by simp [World.frozen?, e3]) hoc
        have hβ : s.β.set i (.slice (some ⟨b, 0, none⟩) n c) = s.β := by
          apply List.ext_getElem?
          intro k
          by_cases e : i = k
          · subst e; rw [List.getElem?_set_self (List.getElem?_eq_some_iff.1 h).1, h]
          · rw [List.getElem?_set_ne e]
        have lift : ∀ {e : D} {v : Value}, Rep s e v → Rep ⟨s.β.set i (.slice (some ⟨b, 0, none⟩) n c), s.I, s.M.set i (.arx T' sz n ((l.set j q).flatMap mk)), s.w.setCells b (j * sz) us⟩ e v := by
          intro e v hr
          refine Rep.mono' (s := s) (s' := ⟨s.β.set i (.slice (some ⟨b, 0, none⟩) n c), s.I, s.M.set i (.arx T' sz n ((l.set j q).flatMap mk)), s.w.setCells b (j * sz) us⟩) (fun k x hk _ => by show (s.β.set i _)[k]? = _; rw [hβ]; exact hk) (fun _ h => h) (fun b' hI => setCells_other b _ _ s.w b' fun e => ?_) hr
          subst e
          exact (hok.lt b' (live_of hM' rfl h rfl)).2 hI
        refine dg_skip (s' := ⟨s.β.set i (.slice (some ⟨b, 0, none⟩) n c), s.I, s.M.set i (.arx T' sz n ((l.set j q).flatMap mk)), s.w.setCells b (j * sz) us⟩) hrun (tr_store hok hM' rfl h rfl _ us ?_) rfl
        have hsl := setL_len us cur.toList (j * sz)
        refine ⟨setL vs (j * sz) us, ⟨by rw [setL_len]; exact hlV, .inr ⟨b, c, (setL cur.toList (j * sz) us).toArray, rfl, e2, setCells_block b us _ s.w cur.toList T' (by simpa using e3), e4, e5, by simp [hsl]; simpa using e6, ?_⟩⟩, ?_, ?_⟩
        · rw [setL_eq us cur.toList _ (by omega), setL_eq us vs _ (by omega)]
          have hcut : cur.toList = vs ++ cur.toList.drop vs.length := by
            have := List.take_append_drop (n * sz) cur.toList
            rw [e7, ← hlV] at this
            exact this.symm
          generalize cur.toList.drop vs.length = R at hcut
          rw [hcut]
          have t1 : (vs ++ R).take (j * sz) = vs.take (j * sz) := List.take_append_of_le_length (by omega)
          have t2 : (vs ++ R).drop (j * sz + us.length) = vs.drop (j * sz + us.length) ++ R := List.drop_append_of_le_length (by omega)
          rw [t1, t2, ← hlV, ← List.append_assoc]
          refine List.take_left' ?_
          simp; omega
        · rw [setL_len, q3, hflat, flatM_len' hmk, List.length_set]
        · have key : ((l.set j q).flatMap mk) = (l.flatMap mk).take (j * sz) ++ mk q ++ (l.flatMap mk).drop (j * sz + sz) := by
            rw [flatM_take hmk, show j * sz + sz = (j + 1) * sz by rw [Nat.succ_mul], flatM_drop hmk, List.set_eq_take_append_cons_drop, if_pos hj, List.flatMap_append, List.flatMap_cons, List.append_assoc]
          rw [key, setL_eq us vs _ (by omega), husz]
          have hA : Reps ⟨s.β.set i (.slice (some ⟨b, 0, none⟩) n c), s.I, s.M.set i (.arx T' sz n ((l.flatMap mk).take (j * sz) ++ mk q ++ (l.flatMap mk).drop (j * sz + sz))), s.w.setCells b (j * sz) us⟩ ((l.flatMap mk).take (j * sz) ++ mk q ++ (l.flatMap mk).drop (j * sz + sz)) (vs.take (j * sz) ++ us ++ vs.drop (j * sz + sz)) := by
            rw [key] at lift
            refine reps_app3 (reps_app3 ⟨by simp [q3], fun p d v g1 g2 => ?_⟩ ⟨hul, fun p d v g1 g2 => lift (hu p d v g1 g2)⟩) ⟨by simp [q3], fun p d v g1 g2 => ?_⟩
            · rw [List.getElem?_take] at g1 g2
              split at g1
              · rename_i hp'
                rw [if_pos hp'] at g2
                exact lift (q4 p d v g1 g2)
              · cases g1
            · rw [List.getElem?_drop] at g1 g2
              exact lift (q4 _ d v g1 g2)
          exact hA.2
end
section
variable {P : Program} {s0 : St} {n : Cx}
theorem inv_absl {F : Fr} {M : List Blk} {a : Act} {w : World} {t j f : Nat} {T : TypeId} {L : List Value} {Bs : List Mem} (h : Inv s0 n F M a w) (ht : lk F t = some (.loc j 0)) (hj : M[j]? = some (.flat T L)) (hf : M[f]? = some (.fam Bs)) : Inv s0 n ((t, .floc f Bs.length 0) :: F) ((M.set j .gone).set f (.fam (Bs ++ [.flat T L]))) a w := by
  obtain ⟨h0, s, rfl, rfl, h3, h4, h5, h6⟩ := h
  have hlen := h3.ok.len
  have hfl := (List.getElem?_eq_some_iff.1 hf).1
  have hjl := (List.getElem?_eq_some_iff.1 hj).1
  obtain ⟨x, hx⟩ : ∃ x, s.β[f]? = some x := ⟨_, List.getElem?_eq_getElem (by omega)⟩
  obtain ⟨y, hy⟩ : ∃ y, s.β[j]? = some y := ⟨_, List.getElem?_eq_getElem (by omega)⟩
  obtain ⟨hs, rfl, hfo⟩ := h3.ok.blk f _ x hf hx
  have tt := tr_abs (B := .flat T L) h3.ok hf hj rfl hx hy
  refine ⟨h0, ⟨s.β.set f (.tuple (hs ++ [y]).toArray), s.I, (s.M.set j .gone).set f (.fam (Bs ++ [.flat T L])), s.w⟩, rfl, rfl, h3.trans tt, fun z d hd => ?_, h5, h6.mono h3.ok tt⟩
  rw [lk_cons] at hd
  split at hd
  · rename_i e'
    subst e'
    obtain rfl := Option.some.inj hd
    have hr := h4 t _ ht
    generalize hv : slot a t = v at hr
    cases hr with
    | @loc _ _ b hβ =>
      rw [hy] at hβ
      obtain rfl := Option.some.inj hβ
      refine .floc (hs := hs ++ [.pointer (some ⟨b, 0, none⟩)]) (by show (s.β.set f _)[f]? = _; rw [List.getElem?_set_self (by rw [hlen]; exact hfl)]) ?_
      rw [List.getElem?_append_right (by rw [hfo.len]; exact Nat.le_refl _), hfo.len, Nat.sub_self]
      rfl
  · exact (h4 z d hd).mono h3.ok tt
/-- the variable that a slot names joins a family -/
theorem dwp_absl {c : Code} {F : Fr} {M M' : List Blk} {K : Cont} (t f : Nat) {j : Nat} {T : TypeId} {L : List Value} {Bs : List Mem} (ht : lk F t = some (.loc j 0)) (hj : M[j]? = some (.flat T L)) (hf : M[f]? = some (.fam Bs)) (hM' : (M.set j .gone).set f (.fam (Bs ++ [.flat T L])) = M') (h : dwp P s0 n c ((t, .floc f Bs.length 0) :: F) M' K) : dwp P s0 n c F M K := by
  subst hM'
  exact fun a w hi => h a w (inv_absl hi ht hj hf)
end
end Go.Proofs.Ytmpodnadoebclaa
namespace Go.Proofs.Ytmpodnadoebclaa
set_option linter.unusedVariables false
set_option linter.unusedSimpArgs false
open Go.RowKit
theorem entsI_app : ∀ (ks : List Int) (vs : List Value) (o : Nat) (k : Int) (v : Value), vs.length = ks.length → entsI o (ks ++ [k]) (vs ++ [v]) = entsI o ks vs ++ [{ key := .int .i64 k, val := v, born := o + ks.length }]
  | [], [], o, k, v, _ => rfl
  | [], _ :: _, o, k, v, h => by simp at h
  | _ :: _, [], o, k, v, h => by simp at h
  | a :: ks, b :: vs, o, k, v, h => by
    rw [List.cons_append, List.cons_append, entsI, entsI, entsI_app ks vs (o + 1) k v (by simpa using h), List.length_cons, List.cons_append, show o + 1 + ks.length = o + (ks.length + 1) by omega]
theorem findI_no {kd : IntKind} {k : Int} : ∀ (ks : List Int) (vs : List Value) (o i : Nat), k ∉ ks → Instr.findNow (.int kd) (.int .i64 k) (entsI o ks vs) i = some none
  | [], _, o, i, _ => by simp [entsI, Instr.findNow]
  | _ :: _, [], o, i, _ => by simp [entsI, Instr.findNow]
  | a :: ks, b :: vs, o, i, h => by
    have h1 : k ≠ a := fun e => h (by simp [e])
    rw [entsI, Instr.findNow]
    have : Instr.sameNow (.int kd) (.int .i64 k) (.int .i64 a) = some false := by simp [Instr.sameNow, h1]
    rw [this]
    exact findI_no ks vs (o + 1) (i + 1) fun e => h (List.mem_cons_of_mem _ e)
theorem findI_yes {kd : IntKind} {k : Int} : ∀ (ks : List Int) (vs : List Value) (o i j : Nat) (v : Value), ks.Nodup → ks[j]? = some k → vs[j]? = some v → Instr.findNow (.int kd) (.int .i64 k) (entsI o ks vs) i = some (some (i + j, v))
  | [], _, o, i, j, v, _, h, _ => by simp at h
  | _ :: _, [], o, i, j, v, _, _, h => by simp at h
  | a :: ks, b :: vs, o, i, j, v, hn, h, hv => by
    rw [entsI, Instr.findNow]
    cases j with
    | zero =>
      simp at h hv
      subst h
      subst hv
      have : Instr.sameNow (.int kd) (.int .i64 a) (.int .i64 a) = some true := by simp [Instr.sameNow]
      rw [this]
      rfl
    | succ j =>
      simp at h hv
      obtain ⟨n1, n2⟩ := List.nodup_cons.1 hn
      have h1 : k ≠ a := fun e => n1 (e ▸ List.mem_of_getElem? h)
      have : Instr.sameNow (.int kd) (.int .i64 k) (.int .i64 a) = some false := by simp [Instr.sameNow, h1]
      rw [this]
      have := findI_yes (kd := kd) ks vs (o + 1) (i + 1) j v n2 h hv
      rw [show i + 1 + j = i + (j + 1) by omega] at this
      exact this
/-- keys are numbers -/
def intT (P : Program) (K : TypeId) : Option IntKind := match P.underlying K with
  | some (.int k) => some k
  | _ => none
theorem intT_spec {P : Program} {K : TypeId} {kd : IntKind} (h : intT P K = some kd) : P.underlying K = some (.int kd) := by
  unfold intT at h
  split at h
  · rename_i e h1; cases h; exact h1
  · cases h
theorem chkI {P : Program} {K : TypeId} {kd : IntKind} (hK : intT P K = some kd) (e : Bool) (k : Int) (w : World) : ∀ n : Nat, (Instr.checkKey e (n + 1) K (.int .i64 k)).run P w = .ok () w := fun n => by
  simp [Instr.checkKey, run_underlying (intT_spec hK)]
section
variable {P : Program} {K E T : TypeId} {pc : Bool} {o : Oper} {F : Fr} {M : List Blk} {x y z : Operand}
theorem tr_mpd {s : St} (ho : Ok s) {i b : Nat} {ks ks' : List Int} {l l' : List D} {vs' : List Value} (hM : s.M[i]? = some (.mpd ks l)) (hβ : s.β[i]? = some (.map (some b))) (hl : vs'.length = l'.length ∧ ks'.length = l'.length) (hr : ∀ (j : Nat) d v, l'[j]? = some d → vs'[j]? = some v → Rep s d v) :
    Tr s ⟨s.β, s.I, s.M.set i (.mpd ks' l'), s.w.putObj b (.map (entsI 0 ks' vs').toArray ks'.length)⟩ := by
  have hil : i < s.M.length := (List.getElem?_eq_some_iff.1 hM).1
  have hlv : Live s b := live_of hM rfl hβ rfl
  have hbl := (ho.lt b hlv).1
  have e : s.β.set i (.map (some b)) = s.β := by
    have : s.β[i]'((List.getElem?_eq_some_iff.1 hβ).1) = .map (some b) := (List.getElem?_eq_some_iff.1 hβ).2
    rw [← this, List.set_getElem_self]
  have := step_set ho i s.M (.map (some b)) (.mpd ks' l') (s.w.putObj b (.map (entsI 0 ks' vs').toArray ks'.length)) rfl (fun _ _ h => .inl h) hil (.inr (.inl hβ)) (by simp)
    ⟨b, vs', rfl, World.putObj_heap_same hbl, hl, fun j d v g1 g2 => Rep.mono' (s := s) (s' := ⟨s.β.set i (.map (some b)), s.I, s.M.set i (.mpd ks' l'), s.w.putObj b (.map (entsI 0 ks' vs').toArray ks'.length)⟩) (fun k x hk _ => by show (s.β.set i _)[k]? = _; rw [e]; exact hk) (fun _ h => h) (fun b' hI => World.putObj_heap_other (fun e => (ho.lt b hlv).2 (e ▸ hI))) (hr j d v g1 g2)⟩
    (fun c hc j k h hne h1 h2 h3 h4 => by
      cases hc
      exact hne (ho.inj j i k _ h _ b h1 h2 h3 h4 hM rfl hβ rfl))
    (fun c hc => by cases hc; exact .inr hlv) (fun c hc => by cases hc; simpa using hbl) (fun _ => False) (fun _ h => h.elim)
    (fun c hc hne _ => World.putObj_heap_other (fun e => hne (by rw [e]; rfl))) rfl rfl rfl (by simp)
  rwa [e] at this
theorem mpd_at {s : St} (hok : Ok s) {i : Nat} {ks : List Int} {l : List D} {v : Value} (hM : s.M[i]? = some (.mpd ks l)) (hr : Rep s (.hnd i) v) : ∃ b vs, v = .map (some b) ∧ s.β[i]? = some (.map (some b)) ∧ s.w.heap[b]? = some (.map (entsI 0 ks vs).toArray ks.length) ∧ (vs.length = l.length ∧ ks.length = l.length) ∧ ∀ (j : Nat) d v, l[j]? = some d → vs[j]? = some v → Rep s d v := by
  cases hr with
  | hnd hβ hn =>
    obtain ⟨b, vs, rfl, e2, e3, e4⟩ := hok.blk i _ _ hM hβ
    exact ⟨b, vs, rfl, hβ, e2, e3, e4⟩
/-- a new map -/
theorem op_mkd (j : Nat) (ho : o.op = .makeMap T none) (hj : M[j]? = some .hole) : DOp P pc o F M [j] (.hnd j) [(j, .mpd [] [])] := by
  intro hp a s hok hops hfp
  have hj' : s.M[j]? = some .hole := by rw [hfp j (by simp)]; exact hj
  have hjl : j < s.β.length := by rw [hok.len]; exact (List.getElem?_eq_some_iff.1 hj').1
  have ht : Tr s ⟨s.β.set j (.map (some s.w.heap.size)), s.I, s.M.set j (.mpd [] []), s.w.alloc (.map #[] 0)⟩ := by
    refine tr_new hok hj' _ _ _ (by simp) (fun b hb => by simpa [hb] using (Option.some.inj hb).symm) (fun b h => Below.heap_alloc _ _ _ h) (fun b hb => ?_) (by simp) rfl rfl rfl ⟨_, [], rfl, by simpa [entsI] using heap_alloc_new s.w _, ⟨rfl, rfl⟩, fun p d v g1 g2 => by simp at g1⟩
    cases hb; simp
  refine dg_step (v := .map (some s.w.heap.size)) ?_ ht rfl (.hnd (by simp [hjl]) (by simp) (by simp))
  unfold execOp
  simp only [ho]
  refine run_v ?_
  simp [Instr.makeMap]
/-- a key that is not there -/
theorem op_lkdn {i : Nat} {k : Int} {ks : List Int} {l : List D} {kd : IntKind} {z0 : Value} (hT : mpT P T = some (K, E)) (hK : intT P K = some kd) (hE : zrV P E = some z0) (ho : o.op = .lookup T x y false) (hx : Ev pc F x (.hnd i)) (hy : Ev pc F y (.val (.int .i64 k))) (hM : M[i]? = some (.mpd ks l)) (hn : pc = true → k ∉ ks) : DOp P pc o F M [i] (.val z0) [] := by
  intro hp a s hok hops hfp
  have hM' : s.M[i]? = some (.mpd ks l) := by rw [hfp i (by simp)]; exact hM
  obtain ⟨b, vs, hv, hβ, hob, hl, hr⟩ := mpd_at hok hM' (ev_at hp hx (by simp [ho, Op.operands]) hops)
  have hry := (ev_at hp hy (by simp [ho, Op.operands]) hops).val_eq
  refine dg_val hok ?_ (.val _)
  unfold execOp
  simp only [ho, hv, hry]
  refine run_v ?_
  have hz : (zeroValue E).run P s.w = .ok z0 s.w := by
    unfold zrV at hE
    rw [Option.bind_eq_some_iff] at hE
    obtain ⟨inf, h1, h2⟩ := hE
    simp [zeroValue, typeInfo, h1, h2]
  have hf := findI_no (kd := kd) ks vs 0 0 (hn hp)
  unfold Instr.lookup
  rw [Sem.run_bind, run_underlying (mpT_spec hT), Result.andThen_ok]
  simp only [Sem.run_bind, getObj, Sem.run, hob, Result.andThen]
  have hc : ∀ e, (Instr.checkKey e 10000 K (.int .i64 k)).run P s.w = .ok () s.w := fun e => chkI hK e k s.w 9999
  simp [hc, Instr.findKey, run_underlying (intT_spec hK), hf, hz]
/-- a key that is there -/
theorem op_lkdy {i j : Nat} {k : Int} {ks : List Int} {l : List D} {kd : IntKind} {d : D} (hT : mpT P T = some (K, E)) (hK : intT P K = some kd) (ho : o.op = .lookup T x y false) (hx : Ev pc F x (.hnd i)) (hy : Ev pc F y (.val (.int .i64 k))) (hM : M[i]? = some (.mpd ks l)) (hn : pc = true → ks.Nodup) (hk : pc = true → ks[j]? = some k) (hd : l[j]? = some d) : DOp P pc o F M [i] d [] := by
  intro hp a s hok hops hfp
  have hM' : s.M[i]? = some (.mpd ks l) := by rw [hfp i (by simp)]; exact hM
  obtain ⟨b, vs, hv, hβ, hob, hl, hr⟩ := mpd_at hok hM' (ev_at hp hx (by simp [ho, Op.operands]) hops)
  have hry := (ev_at hp hy (by simp [ho, Op.operands]) hops).val_eq
  have hj : j < vs.length := by rw [hl.1]; exact (List.getElem?_eq_some_iff.1 hd).1
  have hvj : vs[j]? = some vs[j] := List.getElem?_eq_getElem hj
  refine dg_val hok ?_ (hr j d _ hd hvj)
  unfold execOp
  simp only [ho, hv, hry]
  refine run_v ?_
  have hf := findI_yes (kd := kd) ks vs 0 0 j _ (hn hp) (hk hp) hvj
  unfold Instr.lookup
  rw [Sem.run_bind, run_underlying (mpT_spec hT), Result.andThen_ok]
  simp only [Sem.run_bind, getObj, Sem.run, hob, Result.andThen]
  have hc : ∀ e, (Instr.checkKey e 10000 K (.int .i64 k)).run P s.w = .ok () s.w := fun e => chkI hK e k s.w 9999
  simp [hc, Instr.findKey, run_underlying (intT_spec hK), hf]
/-- a new key is set -/
theorem op_mud {i : Nat} {k : Int} {ks : List Int} {l : List D} {kd : IntKind} {d : D} (hT : mpT P T = some (K, E)) (hK : intT P K = some kd) (ho : o.op = .mapUpdate T x y z) (hx : Ev pc F x (.hnd i)) (hy : Ev pc F y (.val (.int .i64 k))) (hz : Ev pc F z d) (hM : M[i]? = some (.mpd ks l)) (hn : pc = true → k ∉ ks) : DOp P pc o F M [i] .junk [(i, .mpd (ks ++ [k]) (l ++ [d]))] := by
  intro hp a s hok hops hfp
  have hM' : s.M[i]? = some (.mpd ks l) := by rw [hfp i (by simp)]; exact hM
  obtain ⟨b, vs, hv, hβ, hob, hl, hr⟩ := mpd_at hok hM' (ev_at hp hx (by simp [ho, Op.operands]) hops)
  have hry := (ev_at hp hy (by simp [ho, Op.operands]) hops).val_eq
  have hrz := ev_at hp hz (by simp [ho, Op.operands]) hops
  have ht := tr_mpd (ks' := ks ++ [k]) (l' := l ++ [d]) (vs' := vs ++ [a.eval z]) hok hM' hβ ⟨by simp [hl.1], by simp [hl.2]⟩ (fun j e v g1 g2 => by
    by_cases hj : j < l.length
    · rw [List.getElem?_append_left hj] at g1
      rw [List.getElem?_append_left (by omega)] at g2
      exact hr j e v g1 g2
    · rw [List.getElem?_append_right (by omega)] at g1 g2
      have : j - l.length = 0 := by
        have := (List.getElem?_eq_some_iff.1 g1).1
        simp at this; omega
      rw [this] at g1
      rw [show j - vs.length = 0 by omega] at g2
      simp at g1 g2
      subst g1
      subst g2
      exact hrz)
  refine dg_skip ?_ ht rfl
  have hf := findI_no (kd := kd) ks vs 0 0 (hn hp)
  have he := entsI_app ks vs 0 k (a.eval z) (by omega)
  unfold execOp
  simp only [ho, hv, hry]
  refine run_u ?_
  unfold Instr.mapUpdate
  rw [Sem.run_bind, run_underlying (mpT_spec hT), Result.andThen_ok]
  simp only [Sem.run_bind, getObj, Sem.run, hob, Result.andThen]
  have hc : ∀ e, (Instr.checkKey e 10000 K (.int .i64 k)).run P s.w = .ok () s.w := fun e => chkI hK e k s.w 9999
  simp [hc, Instr.findKey, run_underlying (intT_spec hK), hf, setObj, Sem.run, World.putObj, he, hob]
end
end Go.Proofs.Ytmpodnadoebclaa
namespace Go.Proofs.Ytmpodnadoebclaa
set_option linter.unusedVariables false
set_option linter.unusedSimpArgs false
open Go.RowKit
theorem entsI_mem : ∀ (ks : List Int) (vs : List Value) (o : Nat) (e : MapEntry), e ∈ entsI o ks vs → ∃ p k v, ks[p]? = some k ∧ vs[p]? = some v ∧ e = { key := .int .i64 k, val := v, born := o + p }
  | [], _, o, e, h => by simp [entsI] at h
  | _ :: _, [], o, e, h => by simp [entsI] at h
  | a :: ks, b :: vs, o, e, h => by
    rw [entsI] at h
    rcases List.mem_cons.1 h with rfl | h
    · exact ⟨0, a, b, rfl, rfl, rfl⟩
    · obtain ⟨p, k, v, h1, h2, rfl⟩ := entsI_mem ks vs (o + 1) e h
      exact ⟨p + 1, k, v, h1, h2, by rw [show o + 1 + p = o + (p + 1) by omega]⟩
theorem entsI_at : ∀ (ks : List Int) (vs : List Value) (o p : Nat) (k : Int) (v : Value), ks[p]? = some k → vs[p]? = some v → ({ key := .int .i64 k, val := v, born := o + p } : MapEntry) ∈ entsI o ks vs
  | [], _, o, p, k, v, h, _ => by simp at h
  | _ :: _, [], o, p, k, v, _, h => by simp at h
  | a :: ks, b :: vs, o, p, k, v, h, hv => by
    rw [entsI]
    cases p with
    | zero => simp at h hv; subst h; subst hv; exact List.mem_cons_self ..
    | succ p =>
      have := entsI_at ks vs (o + 1) p k v (by simpa using h) (by simpa using hv)
      rw [show o + 1 + p = o + (p + 1) by omega] at this
      exact List.mem_cons_of_mem _ this
theorem entsI_born : ∀ (ks : List Int) (vs : List Value) (o : Nat), (∀ b ∈ (entsI o ks vs).map (·.born), o ≤ b) ∧ ((entsI o ks vs).map (·.born)).Nodup
  | [], _, o => by simp [entsI]
  | _ :: _, [], o => by simp [entsI]
  | a :: ks, b :: vs, o => by
    obtain ⟨h1, h2⟩ := entsI_born ks vs (o + 1)
    rw [entsI, List.map_cons]
    refine ⟨fun c hc => ?_, List.nodup_cons.2 ⟨fun hm => ?_, h2⟩⟩
    · rcases List.mem_cons.1 hc with rfl | hc
      · exact Nat.le_refl _
      · have := h1 c hc; omega
    · have := h1 o hm; omega
section
variable {P : Program} {pc : Bool} {o : Oper} {F : Fr} {M : List Blk} {x : Operand}
/-- what an operation may give -/
def DOpE (P : Program) (o : Oper) (F : Fr) (M : List Blk) (fp : List Nat) (post : D → List (Nat × Blk) → Prop) : Prop :=
  ∀ (a : Act) (s : St), Ok s → (∀ x ∈ o.op.operands, ∀ d, ev F x = some d → Rep s d (a.eval x)) → (∀ i ∈ fp, s.M[i]? = M[i]?) →
    ∃ d wr, post d wr ∧ DGives P s (fun s' v => s'.M = upd s.M wr ∧ Rep s' d v) ((execOp a.eval o).run P s.w)
theorem walk_e {s0 : St} {n : Cx} {ops : Array Oper} {rest : List Oper} {K : Cont} {fp : List Nat} {t : Nat} {post : D → List (Nat × Blk) → Prop} (hg : o.guard = none) (hd : o.dst = some t) (ht : Nat.blt t n.n = true) (h : DOpE P o F M fp post)
    (hk : ∀ d wr, post d wr → Walk P s0 n ops rest ((t, d) :: F) (upd M wr) K) (hnd : noDef o.op = true := by rfl) : Walk P s0 n ops (o :: rest) F M K := by
  intro a w hi
  obtain ⟨h0, s, h1, h2, h3, h4, h5, h6⟩ := hi
  subst h1 h2
  show if Region.wanted o (yielded ops a.tmps) then _ else _
  have hw : Region.wanted o (yielded ops a.tmps) = true := by unfold Region.wanted; rw [hg]
  rw [if_pos hw]
  obtain ⟨d, wr, hp, hgv⟩ := h a s h3.ok (fun x _ d hd => ev_rep h4 hd) (fun _ _ => rfl)
  have hd' : dstB n.n o.dst = true := by rw [hd]; exact ht
  refine dgives_in hnd hgv fun s' v ht' ⟨e1, e2⟩ => ?_
  have hF : putF o.dst d F = (t, d) :: F := by rw [hd]; rfl
  exact hk d wr hp _ _ ⟨h0, s', e1, rfl, h3.trans ht', by rw [← hF]; exact (h4.mono h3.ok ht').putF h5 hd' e2, by rw [put_size]; exact h5, by rw [put_def]; exact h6.mono h3.ok ht'⟩
/-- a walk through it begins -/
theorem op_rgd {T K E : TypeId} {i : Nat} {ks : List Int} {l : List D} (j : Nat) (ho : o.op = .range T x) (hT : mpT P T = some (K, E)) (hx : Ev pc F x (.hnd i)) (hM : M[i]? = some (.mpd ks l)) (hj : M[j]? = some .hole) : DOp P pc o F M [i, j] (.loc j 0) [(j, .mit (.hnd i) ks.length [])] := by
  intro hp a s hok hops hfp
  have hM' : s.M[i]? = some (.mpd ks l) := by rw [hfp i (by simp)]; exact hM
  have hj' : s.M[j]? = some .hole := by rw [hfp j (by simp)]; exact hj
  have hjl : j < s.β.length := by rw [hok.len]; exact (List.getElem?_eq_some_iff.1 hj').1
  have hrx := ev_at hp hx (by simp [ho, Op.operands]) hops
  obtain ⟨b, vs, hv, hβ, hob, hl, hr⟩ := mpd_at hok hM' hrx
  have hij : j ≠ i := fun e => by subst e; rw [hM'] at hj'; cases hj'
  have ht : Tr s ⟨s.β.set j (.pointer (some ⟨s.w.heap.size, 0, none⟩)), s.I, s.M.set j (.mit (.hnd i) ks.length []), s.w.alloc (.mapIter (some b) ks.length #[] ks.length)⟩ := by
    refine tr_new hok hj' _ _ _ (by simp) (fun c hc => by cases hc; rfl) (fun c h => Below.heap_alloc _ _ _ h) (fun c hc => by cases hc; simp) (by simp) rfl rfl rfl ⟨_, b, rfl, by simpa using heap_alloc_new s.w _, .hnd (by show (s.β.set j _)[i]? = _; rw [List.getElem?_set_ne hij]; exact hβ) (by simp) (by simp)⟩
  refine dg_step (v := .pointer (some ⟨s.w.heap.size, 0, none⟩)) ?_ ht rfl (.loc (by simp [hjl]))
  have hrun := run_range_map (P := P) s.w T K E b (entsI 0 ks vs).toArray ks.length (mpT_spec hT) hob
  unfold execOp
  simp only [ho, hv]
  exact run_v hrun
theorem mit_at {s : St} (hok : Ok s) {i j n : Nat} {seen : List Nat} {ks : List Int} {l : List D} {v : Value} (hMj : s.M[j]? = some (.mit (.hnd i) n seen)) (hM : s.M[i]? = some (.mpd ks l)) (hr : Rep s (.loc j 0) v) : ∃ r b vs, v = .pointer (some ⟨r, 0, none⟩) ∧ s.β[j]? = some (.pointer (some ⟨r, 0, none⟩)) ∧ s.β[i]? = some (.map (some b)) ∧ s.w.heap[r]? = some (.mapIter (some b) n seen.toArray n) ∧ s.w.heap[b]? = some (.map (entsI 0 ks vs).toArray ks.length) ∧ (vs.length = l.length ∧ ks.length = l.length) ∧ ∀ (j : Nat) d v, l[j]? = some d → vs[j]? = some v → Rep s d v := by
  cases hr with
  | @loc _ _ r hβ =>
    obtain ⟨r', b, e1, e2, e3⟩ := hok.blk j _ _ hMj hβ
    cases e1
    obtain ⟨b', vs, q1, q2, q3, q4, q5⟩ := mpd_at hok hM e3
    cases q1
    exact ⟨r, b, vs, rfl, hβ, q2, e2, q3, q4, q5⟩
/-- the next entry, whichever -/
theorem op_nxd {i j : Nat} {seen : List Nat} {ks : List Int} {l : List D} (ho : o.op = .next x false) (hx : Ev true F x (.loc j 0)) (hMj : M[j]? = some (.mit (.hnd i) ks.length seen)) (hM : M[i]? = some (.mpd ks l)) :
    DOpE P o F M [i, j] (fun d wr => (wr = [] ∧ d = .tup [.val (.bool false)] ∧ ∀ p, p < ks.length → p ∈ seen) ∨ ∃ p k e, ks[p]? = some k ∧ l[p]? = some e ∧ p ∉ seen ∧ d = .tup [.val (.bool true), .val (.int .i64 k), e] ∧ wr = [(j, .mit (.hnd i) ks.length (seen ++ [p]))]) := by
  intro a s hok hops hfp
  have hM' : s.M[i]? = some (.mpd ks l) := by rw [hfp i (by simp)]; exact hM
  have hMj' : s.M[j]? = some (.mit (.hnd i) ks.length seen) := by rw [hfp j (by simp)]; exact hMj
  obtain ⟨r, b, vs, hv, hβj, hβi, hit, hob, hl, hr⟩ := mit_at hok hMj' hM' (ev_at rfl hx (by simp [ho, Op.operands]) hops)
  have hold : ∀ y ∈ ((entsI 0 ks vs).toArray).toList, y.born < ks.length := fun y hy => by
    obtain ⟨p, k, v, h1, h2, rfl⟩ := entsI_mem ks vs 0 y (by simpa using hy)
    have := (List.getElem?_eq_some_iff.1 h1).1
    show 0 + p < _
    omega
  have hjl : j < s.M.length := (List.getElem?_eq_some_iff.1 hMj').1
  have hlv : Live s r := live_of hMj' rfl hβj rfl
  have hrl := (hok.lt r hlv).1
  rcases run_next_at (P := P) s.w o.type r b ks.length ks.length seen.toArray (entsI 0 ks vs).toArray ks.length hit hob hold (Nat.le_refl _) with ⟨h0, hrun⟩ | ⟨e, he, w1, hw, hrun⟩
  · refine ⟨_, [], .inl ⟨rfl, rfl, fun p hp => ?_⟩, dg_val hok (by unfold execOp; simp only [ho, hv]; exact run_v hrun) (.tup rfl fun q d v g1 g2 => ?_)⟩
    · have hpv : p < vs.length := by omega
      have := all_seen (entsI 0 ks vs).toArray seen.toArray h0 _ (by simpa using entsI_at ks vs 0 p _ _ (List.getElem?_eq_getElem hp) (List.getElem?_eq_getElem hpv))
      simpa using this
    · match q, g1, g2 with
      | 0, g1, g2 => cases g1; cases g2; exact .val _
  · obtain ⟨hm, hns⟩ := mem_left he
    obtain ⟨p, k, v, h1, h2, rfl⟩ := entsI_mem ks vs 0 e (by simpa using hm)
    have hpl : p < l.length := by have := (List.getElem?_eq_some_iff.1 h1).1; omega
    have hlp : l[p]? = some l[p] := List.getElem?_eq_getElem hpl
    have hβe : s.β.set j (.pointer (some ⟨r, 0, none⟩)) = s.β := by
      have : s.β[j]'((List.getElem?_eq_some_iff.1 hβj).1) = .pointer (some ⟨r, 0, none⟩) := (List.getElem?_eq_some_iff.1 hβj).2
      rw [← this, List.set_getElem_self]
    have hji : j ≠ i := fun e => by subst e; rw [hM'] at hMj'; cases hMj'
    have hw1 : w1.heap = s.w.heap ∧ w1.os = s.w.os ∧ w1.tape = s.w.tape ∧ w1.output = s.w.output := by rcases hw with rfl | rfl <;> exact ⟨rfl, rfl, rfl, rfl⟩
    obtain ⟨hwh, hwo, hwt, hwp⟩ := hw1
    have hseen : (seen.toArray.push (0 + p)) = (seen ++ [p]).toArray := by simp
    have hsame : (Go.ChangeMaps.setBlock w1 r (.mapIter (some b) ks.length (seen.toArray.push (0 + p)) ks.length)).heap[r]? = some (.mapIter (some b) ks.length (seen ++ [p]).toArray ks.length) := by
      unfold Go.ChangeMaps.setBlock
      rw [← hseen]
      simp [hwh, hrl]
    have hother : ∀ c, c ≠ r → (Go.ChangeMaps.setBlock w1 r (.mapIter (some b) ks.length (seen.toArray.push (0 + p)) ks.length)).heap[c]? = s.w.heap[c]? := fun c hc => by
      unfold Go.ChangeMaps.setBlock
      simp only [hwh]
      rw [Array.getElem?_setIfInBounds_ne (Ne.symm hc)]
    have ht := step_set hok j s.M (.pointer (some ⟨r, 0, none⟩)) (.mit (.hnd i) ks.length (seen ++ [p])) (Go.ChangeMaps.setBlock w1 r (.mapIter (some b) ks.length (seen.toArray.push (0 + p)) ks.length)) rfl (fun _ _ h => .inl h) hjl (.inr (.inl hβj)) (by simp)
      ⟨r, b, rfl, hsame, .hnd (by show (s.β.set j _)[i]? = _; rw [hβe]; exact hβi) (by simp) (by simp)⟩
      (fun c hc q k h hne h1 h2 h3 h4 => by
        cases hc
        exact hne (hok.inj q j k _ h _ r h1 h2 h3 h4 hMj' rfl hβj rfl))
      (fun c hc => by cases hc; exact .inr hlv) (fun c hc => by cases hc; unfold Go.ChangeMaps.setBlock; simpa [hwh] using hrl) (fun _ => False) (fun _ h => h.elim)
      (fun c hc hne _ => hother c (fun e => hne (by rw [e]; rfl))) hwo hwt hwp (by unfold Go.ChangeMaps.setBlock; simp [hwh])
    rw [hβe] at ht
    refine ⟨_, [(j, .mit (.hnd i) ks.length (seen ++ [p]))], .inr ⟨p, k, l[p], h1, hlp, by simpa using hns, rfl, rfl⟩, dg_step (v := .tuple #[.bool true, .int .i64 k, v]) (by unfold execOp; simp only [ho, hv]; exact run_v hrun) ht rfl (.tup rfl fun q d v' g1 g2 => ?_)⟩
    match q, g1, g2 with
    | 0, g1, g2 => cases g1; cases g2; exact .val _
    | 1, g1, g2 => cases g1; cases g2; exact .val _
    | 2, g1, g2 =>
      cases g1; cases g2
      exact (hr p _ v hlp h2).mono hok ht
/-- the entry that the step handed out -/
theorem op_ent {i j p : Nat} {k : Int} {seen : List Nat} {ks : List Int} {l : List D} {e : D} (ho : o.op = .entry x) (hx : Ev pc F x (.loc j 0)) (hMj : M[j]? = some (.mit (.hnd i) ks.length (seen ++ [p]))) (hM : M[i]? = some (.mpd ks l)) (hk : ks[p]? = some k) (he : l[p]? = some e) : DOp P pc o F M [i, j] (.tup [.val (.int .i64 k), e]) [] := by
  intro hp a s hok hops hfp
  have hM' : s.M[i]? = some (.mpd ks l) := by rw [hfp i (by simp)]; exact hM
  have hMj' : s.M[j]? = some (.mit (.hnd i) ks.length (seen ++ [p])) := by rw [hfp j (by simp)]; exact hMj
  obtain ⟨r, b, vs, hv, hβj, hβi, hit, hob, hl, hr⟩ := mit_at hok hMj' hM' (ev_at hp hx (by simp [ho, Op.operands]) hops)
  have hpv : p < vs.length := by have := (List.getElem?_eq_some_iff.1 he).1; omega
  have hvp : vs[p]? = some vs[p] := List.getElem?_eq_getElem hpv
  have hseen : (seen ++ [p]).toArray = seen.toArray.push (0 + p) := by simp
  rw [hseen] at hit
  have hrun := run_entry_at (P := P) s.w r b ks.length seen.toArray (entsI 0 ks vs).toArray ks.length { key := .int .i64 k, val := vs[p], born := 0 + p } hit hob (by simpa using entsI_at ks vs 0 p k _ hk hvp) (by simpa using (entsI_born ks vs 0).2)
  refine dg_val (v := .tuple #[.int .i64 k, vs[p]]) hok (by unfold execOp; simp only [ho, hv]; exact run_v hrun) (.tup rfl fun q d v' g1 g2 => ?_)
  match q, g1, g2 with
  | 0, g1, g2 => cases g1; cases g2; exact .val _
  | 1, g1, g2 => cases g1; cases g2; exact hr p _ _ he hvp
end
end Go.Proofs.Ytmpodnadoebclaa
namespace Go.Proofs.Ytmpodnadoebclaa
set_option linter.unusedVariables false
set_option linter.unusedSimpArgs false
open Go.RowKit
section
variable {P : Program} {s0 : St} {n : Cx}
theorem inv_adoptc {F : Fr} {M : List Blk} {a : Act} {w : World} {i q : Nat} {T : TypeId} {l : List D} (e : TypeId) (sz : Nat) (h : Inv s0 n F M a w) (hi : M[i]? = some (.mix T l)) (hq : l[q]? = some (.val (.slice none 0 0))) : Inv s0 n F ((M ++ [Blk.arx e sz 0 []]).set i (.mix T (l.set q (.arr M.length)))) a w := by
  obtain ⟨h0, s, rfl, rfl, h3, h4, h5, h6⟩ := h
  have t1 := step_hole h3.ok
  have hlen := h3.ok.len
  have hn : (s.M ++ [Blk.hole])[s.M.length]? = some .hole := by simp
  have t2 : Tr ⟨s.β ++ [Value.nilFunc], s.I, s.M ++ [Blk.hole], s.w⟩ ⟨(s.β ++ [Value.nilFunc]).set s.M.length (.slice none 0 0), s.I, (s.M ++ [Blk.hole]).set s.M.length (.arx e sz 0 []), s.w⟩ :=
    tr_new (s := ⟨s.β ++ [Value.nilFunc], s.I, s.M ++ [Blk.hole], s.w⟩) t1.ok (j := s.M.length) hn (.slice none 0 0) (.arx e sz 0 []) s.w (by simp) (fun b hb => by cases hb) (fun b _ => rfl) (fun b hb => by cases hb) (Nat.le_refl _) rfl rfl rfl ⟨[], World.ownsRow_nil s.w 0 e sz, rfl, fun j d v h => by simp at h⟩
  have tt := t1.trans t2
  have hil : i < s.M.length := (List.getElem?_eq_some_iff.1 hi).1
  have eM : (s.M ++ [Blk.hole]).set s.M.length (.arx e sz 0 []) = s.M ++ [.arx e sz 0 []] := by simp
  rw [eM] at tt
  generalize hS : (⟨(s.β ++ [Value.nilFunc]).set s.M.length (.slice none 0 0), s.I, s.M ++ [.arx e sz 0 []], s.w⟩ : St) = S at tt
  have hSM : S.M = s.M ++ [.arx e sz 0 []] := by rw [← hS]
  have hSw : S.w = s.w := by rw [← hS]
  have hMi : S.M[i]? = some (.mix T l) := by rw [hSM, List.getElem?_append_left hil]; exact hi
  have hβlen : s.M.length < S.β.length := by rw [← hS]; simp [hlen]
  have hβn : S.β[s.M.length]? = some (.slice none 0 0) := by rw [← hS]; simp [hlen]
  obtain ⟨hd, hβi⟩ : ∃ hd, S.β[i]? = some hd := ⟨_, List.getElem?_eq_getElem (by omega)⟩
  obtain ⟨b, vs, rfl, hb, hl, hr⟩ := tt.ok.blk i _ _ hMi hβi
  have hβe : S.β.set i (.pointer (some ⟨b, 0, none⟩)) = S.β := by
    refine List.ext_getElem? fun k => ?_
    by_cases hk : i = k
    · subst hk; rw [List.getElem?_set_self (by omega), hβi]
    · rw [List.getElem?_set_ne hk]
  have t3 : Tr S ⟨S.β.set i (.pointer (some ⟨b, 0, none⟩)), S.I, S.M.set i (.mix T (l.set q (.arr s.M.length))), S.w⟩ := by
    have hlv : Live S b := live_of hMi rfl hβi rfl
    refine step_set tt.ok i S.M (.pointer (some ⟨b, 0, none⟩)) (.mix T (l.set q (.arr s.M.length))) S.w rfl (fun _ _ h => .inl h) (List.getElem?_eq_some_iff.1 hMi).1 (.inr (.inl hβi)) (by simp) ?_ (fun c hc j k h hne h1 h2 h3 h4 => ?_) (fun c hc => by cases hc; exact .inr hlv) (fun c hc => by cases hc; exact (tt.ok.lt b hlv).1) (fun _ => False) (fun _ h => h.elim) (fun _ _ _ _ => rfl) rfl rfl rfl (Nat.le_refl _)
    · refine ⟨b, vs, rfl, hb, by rw [List.length_set]; exact hl, fun j d v h1 h2 => ?_⟩
      have up : ∀ {d : D} {v : Value}, Rep S d v → Rep ⟨S.β.set i (.pointer (some ⟨b, 0, none⟩)), S.I, S.M.set i (.mix T (l.set q (.arr s.M.length))), S.w⟩ d v := fun h =>
        Rep.monoK (s := S) (s' := ⟨S.β.set i (.pointer (some ⟨b, 0, none⟩)), S.I, S.M.set i (.mix T (l.set q (.arr s.M.length))), S.w⟩) (by show hkeep S.β (S.β.set i _); rw [hβe]; exact hkeep.refl _) (fun _ h => h) (fun _ _ => rfl) h
      by_cases e : q = j
      · subst e
        rw [List.getElem?_set_self (List.getElem?_eq_some_iff.1 hq).1] at h1
        obtain rfl := Option.some.inj h1
        have hv := (hr q _ v hq h2).val_eq
        subst hv
        exact .arr (by show (S.β.set i _)[_]? = _; rw [hβe]; exact hβn)
      · rw [List.getElem?_set_ne e] at h1
        exact up (hr j d v h1 h2)
    · cases hc
      exact hne (tt.ok.inj j i k _ h _ b h1 h2 h3 h4 hMi rfl hβi rfl)
  have ttt := tt.trans t3
  refine ⟨h0, ⟨S.β.set i (.pointer (some ⟨b, 0, none⟩)), S.I, S.M.set i (.mix T (l.set q (.arr s.M.length))), S.w⟩, by simp only [hSM], hSw, h3.trans ttt, fun x d hd => (h4 x d hd).mono h3.ok ttt, h5, h6.mono h3.ok ttt⟩
theorem dwp_adoptc {c : Code} {F : Fr} {M M' : List Blk} {K : Cont} {T : TypeId} {l l' : List D} (i q : Nat) (e : TypeId) (sz : Nat) {m : Nat} (hi : M[i]? = some (.mix T l)) (hq : l[q]? = some (.val (.slice none 0 0))) (hm : M.length = m) (hl : l.set q (.arr m) = l') (hM : (M ++ [Blk.arx e sz 0 []]).set i (.mix T l') = M') (h : dwp P s0 n c F M' K) : dwp P s0 n c F M K := by
  subst hm hl hM
  exact fun a w hv => h a w (inv_adoptc e sz hv hi hq)
end
/-- what is known of a result's value, told otherwise -/
theorem DFun.wk {P : Program} {f : FuncId} {args : List D} {d d' : D} {Min Mout : List Blk} (h : DFun P f args Min d Mout) (hd : ∀ s v, Rep s d v → Rep s d' v) : DFun P f args Min d' Mout := by
  refine ⟨h.1, fun s vs hok hM hr => (h.2 s vs hok hM hr).mono ?_⟩
  rintro e w' ⟨s', rfl, ht, hor⟩
  rcases hor with ⟨d0, v, rfl, hrep, rfl, hMo⟩ | ⟨d0, v, _, _, hf⟩
  · exact ⟨s', rfl, ht, .inl ⟨d', v, rfl, hd s' v hrep, rfl, hMo⟩⟩
  · exact hf.elim
end Go.Proofs.Ytmpodnadoebclaa
namespace Go.Proofs.Ytmpodnadoebclaa
set_option linter.unusedVariables false
set_option linter.unusedSimpArgs false
open Go.RowKit
/-- what reads as d reads as d', too -/
def Wk (d d' : D) : Prop := ∀ s v, Rep s d v → Rep s d' v
def WkL (l l' : List D) : Prop := l.length = l'.length ∧ ∀ (j : Nat) d d', l[j]? = some d → l'[j]? = some d' → Wk d d'
theorem Wk.refl (d : D) : Wk d d := fun _ _ h => h
theorem WkL.nil : WkL [] [] := ⟨rfl, fun j d d' h => by simp at h⟩
theorem WkL.cons {d d' : D} {l l' : List D} (h : Wk d d') (hl : WkL l l') : WkL (d :: l) (d' :: l') := by
  refine ⟨by simp [hl.1], fun j e e' h1 h2 => ?_⟩
  cases j with
  | zero => simp at h1 h2; subst h1 h2; exact h
  | succ j => exact hl.2 j e e' (by simpa using h1) (by simpa using h2)
theorem WkL.refl (l : List D) : WkL l l := ⟨rfl, fun j d d' h1 h2 => by rw [h1] at h2; cases h2; exact Wk.refl d⟩
theorem WkL.rep {s : St} {l l' : List D} {vs : List Value} (h : WkL l l') (hr : ∀ (j : Nat) d v, l[j]? = some d → vs[j]? = some v → Rep s d v) : ∀ (j : Nat) d v, l'[j]? = some d → vs[j]? = some v → Rep s d v := fun j d v h1 h2 => by
  have hj : j < l.length := by rw [h.1]; exact (List.getElem?_eq_some_iff.1 h1).1
  exact h.2 j l[j] d (List.getElem?_eq_getElem hj) h1 s v (hr j _ v (List.getElem?_eq_getElem hj) h2)
theorem Wk.tup {l l' : List D} (h : WkL l l') : Wk (.tup l) (.tup l') := fun s v hr => by
  cases hr with
  | tup hl hr => exact .tup (hl.trans h.1) (h.rep hr)
theorem Wk.agg {l l' : List D} (h : WkL l l') : Wk (.agg l) (.agg l') := fun s v hr => by
  cases hr with
  | agg hl hr => exact .agg (hl.trans h.1) (h.rep hr)
theorem Wk.slm0 (sz : Nat) : Wk (.val (.slice none 0 0)) (.slm sz 0 []) := fun s v hr => by
  cases hr with
  | val => exact .slm (vs := []) rfl (by simp) (Nat.le_refl _) (Nat.zero_le _) (fun _ => rfl) rfl (fun j d v h => by simp at h) (.inl rfl)
theorem Wk.slf0 (sz : Nat) : Wk (.val (.slice none 0 0)) (.slf sz 0 []) := fun s v hr => by
  cases hr with
  | val => exact .slf (by simp) (Nat.le_refl _) (Nat.zero_le _) (fun _ => rfl) (.inl rfl)
theorem Wk.trans {d d' d'' : D} (h : Wk d d') (k : Wk d' d'') : Wk d d'' := fun s v hr => k s v (h s v hr)
/-- .. of what an operation hands back -/
theorem DOp.wk {P : Program} {pc : Bool} {o : Oper} {F : Fr} {M : List Blk} {fp : List Nat} {d d' : D} {wr : List (Nat × Blk)} (h : DOp P pc o F M fp d wr) (hw : Wk d d') : DOp P pc o F M fp d' wr := by
  intro hp a s hok hops hfp
  exact (h hp a s hok hops hfp).map fun s' v ho' ⟨e1, e2⟩ => ⟨s', rfl, Tr.refl ho', e1, hw s' v e2⟩
/-- .. of an operand -/
theorem evwk {pc : Bool} {F : Fr} {x : Operand} {d d' : D} (h : Ev pc F x d) (hw : Wk d d') : Ev pc F x d' := by
  obtain ⟨d0, e1, e2⟩ := h
  exact ⟨d0, e1, fun s v hp hr => hw _ _ (e2 s v hp hr)⟩
section
variable {P : Program} {s0 : St} {n : Cx}
end
/-- a pair's parts, looked at -/
theorem vw_two {σ : List Nat} {V : Nat → Bool} {M : List Blk} {a a' : D} {b : Value} (h : vw σ V M a = some a') : vw σ V M (.tup [a, .val b]) = some (.tup [a', .val b]) := by
  unfold vw; unfold vwL; rw [h]; rfl
section
variable {P : Program} {pc : Bool} {o : Oper} {F : Fr} {M : List Blk} {T : TypeId} {x : Operand}
end
end Go.Proofs.Ytmpodnadoebclaa
namespace Go.Proofs.Ytmpodnadoebclaa
set_option linter.unusedVariables false
set_option linter.unusedSimpArgs false
open Go.RowKit
section
variable {P : Program} {s0 : St} {n : Cx}
theorem inv_gone {F : Fr} {M : List Blk} {a : Act} {w : World} (i : Nat) (h : Inv s0 n F M a w) : Inv s0 n F (M.set i .gone) a w := by
  obtain ⟨h0, s, rfl, rfl, h3, h4, h5, h6⟩ := h
  have tt := tr_gone h3.ok i
  exact ⟨h0, ⟨s.β, s.I, s.M.set i .gone, s.w⟩, rfl, rfl, h3.trans tt, fun x d hd => (h4 x d hd).mono h3.ok tt, h5, h6.mono h3.ok tt⟩
/-- a block that nobody asks for any more -/
theorem dwp_gone {c : Code} {F : Fr} {M M' : List Blk} {K : Cont} (i : Nat) (hM' : M.set i .gone = M') (h : dwp P s0 n c F M' K) : dwp P s0 n c F M K := by
  subst hM'
  exact fun a w hi => h a w (inv_gone i hi)
end
end Go.Proofs.Ytmpodnadoebclaa
namespace Go.Proofs.Ytmpodnadoebclaa
set_option linter.unusedVariables false
set_option linter.unusedSimpArgs false
open Go.RowKit
section
variable {P : Program} {pc : Bool} {o : Oper} {F : Fr} {M : List Blk} {T : TypeId} {x y : Operand} {k : IntKind} {z : Int} {n : Nat}
end
/-- behind a guard that does not hold nothing is done -/
theorem dop_never {P : Program} {o : Oper} {F : Fr} {M : List Blk} {d : D} : DOp P false o F M [] d [] := fun h => by cases h
end Go.Proofs.Ytmpodnadoebclaa
namespace Go.Proofs.Ytmpodnadoebclaa
set_option linter.unusedVariables false
set_option linter.unusedSimpArgs false
open Go.RowKit
section
variable {P : Program} {pc : Bool} {o : Oper} {F : Fr} {M : List Blk}
end
section
variable {P : Program} {s0 : St} {n : Cx}
end
section
variable {P : Program} {pc : Bool} {o : Oper} {F : Fr} {M : List Blk} {T : TypeId} {x y : Operand} {k : IntKind} {z : Int} {n sz : Nat}
end
/-- plain cells, told as a plain struct -/
theorem Wk.aggv (l : List Value) : Wk (.agg (l.map D.val)) (.val (.agg l.toArray)) := fun s v hr => by
  cases hr with
  | @agg _ vs hl h =>
    have : vs = l := by
      apply List.ext_getElem
      · simpa using hl
      · intro j h1 h2
        exact (h j (.val l[j]) vs[j] (by rw [List.getElem?_map, List.getElem?_eq_getElem h2]; rfl) (List.getElem?_eq_getElem h1)).val_eq
    subst this
    exact .val _
/-- a plain struct behind a pointer into memory that stays -/
theorem op_lddv {P : Program} {pc : Bool} {o : Oper} {F : Fr} {M : List Blk} {T : TypeId} {x : Operand} {k : Nat} {l : List D} (L : List Value) (ho : o.op = .load T x) (hT : tyB P T = some (true, k)) (hx : Ev pc F x (.dpm l)) (hL : l.take k = L.map D.val) (hk : L.length = k) : DOp P pc o F M [] (.val (.agg L.toArray)) [] :=
  (op_lddr (R := L.map D.val) ho hT hx hL (by simpa using hk)).wk (Wk.aggv L)
end Go.Proofs.Ytmpodnadoebclaa
namespace Go.Proofs.Ytmpodnadoebclaa
set_option linter.unusedVariables false
set_option linter.unusedSimpArgs false
open Go.RowKit
section
variable {P : Program} {pc : Bool} {o : Oper} {F : Fr} {M : List Blk} {T e : TypeId} {by' sz : Nat} {x y : Operand}
/-- make, of length 0 -/
theorem op_mk0x (j n : Nat) {k k' : IntKind} {z z' : Int} {Z : List Value} (ho : o.op = .makeSlice T x y) (hT : slE P T = some (e, sz, by')) (hZ : zrC P e = some Z) (hx : Ev pc F x (.val (.int k z))) (hy : Ev pc F y (.val (.int k' z'))) (hz : pc = true → z = 0) (hz' : pc = true → z' = (n : Int)) (hj : M[j]? = some .hole) (hb : pc = true → by' * n ≤ 281474976710656 ∧ n ≤ 9223372036854775807) :
    DOp P pc o F M [j] (.arr j) [(j, .arx e sz 0 [])] := by
  intro hp a s hok hops hfp
  obtain ⟨e1, ti, e2, e3, e4⟩ := slE_spec hT
  obtain ⟨ti', zv, q1, q2, q3⟩ := zrC_spec hZ
  rw [e2] at q1
  obtain rfl := Option.some.inj q1
  have h1 := (ev_at hp hx (by simp [ho, Op.operands]) hops).val_eq
  have h2 := (ev_at hp hy (by simp [ho, Op.operands]) hops).val_eq
  rw [hz hp] at h1
  rw [hz' hp] at h2
  obtain ⟨b1, b2⟩ := hb hp
  have hj' : s.M[j]? = some .hole := by rw [hfp j (by simp)]; exact hj
  have hjl : j < s.β.length := by rw [hok.len]; exact (List.getElem?_eq_some_iff.1 hj').1
  have hb3 : (ti.bytes : Int) * (n : Int) ≤ 281474976710656 := by
    have h : ((ti.bytes * n : Nat) : Int) ≤ 281474976710656 := by rw [e4]; omega
    rwa [Int.natCast_mul] at h
  have hrun := run_make (P := P) s.w T e ti zv e1 e2 q2 k k' 0 n (Int.le_refl _) (by omega) hb3 (by omega)
  simp only [Int.toNat_natCast, Int.toNat_zero] at hrun
  have hrow := World.ownsRow_made (base := 0) (e := e) (size := ti.size) s.w (madeCells zv.cells (n * ti.size)) n (Nat.zero_le _) (by unfold maxLen; omega) (size_madeCells _ _)
  rw [e3] at hrow hrun
  refine dg_step (s' := ⟨s.β.set j (.slice (some ⟨s.w.heap.size, 0, none⟩) 0 n), s.I, s.M.set j (.arx e sz 0 []), _⟩) (v := .slice (some ⟨s.w.heap.size, 0, none⟩) 0 n) ?_ (tr_new hok hj' _ _ _ (by simp) (fun b hb => by cases hb; rfl) (fun b h => Below.heap_alloc _ _ _ h) (fun b hb => by cases hb; simp) (by simp) rfl rfl rfl ⟨[], hrow, rfl, fun p d v g1 g2 => by simp at g1⟩) rfl (.arr (by simp [hjl]))
  unfold execOp
  simp only [ho, h1, h2]
  exact run_v hrun
end
end Go.Proofs.Ytmpodnadoebclaa
namespace Go.Proofs.Ytmpodnadoebclaa
set_option linter.unusedVariables false
set_option linter.unusedSimpArgs false
open Go.RowKit
mutual
/-- the addresses that data names -/
def D.pins : D → List Nat
  | .pin b _ => [b]
  | .tup l => D.pinsL l
  | .agg l => D.pinsL l
  | .dpm l => D.pinsL l
  | .slm _ _ l => D.pinsL l
  | _ => []
def D.pinsL : List D → List Nat
  | [] => []
  | d :: l => d.pins ++ D.pinsL l
end
theorem pinsL_mem : ∀ (l : List D) (b : Nat), b ∈ D.pinsL l → ∃ (j : Nat) (d : D), l[j]? = some d ∧ b ∈ d.pins
  | [], b, h => by simp [D.pinsL] at h
  | d :: l, b, h => by
    rw [D.pinsL] at h
    rcases List.mem_append.1 h with h | h
    · exact ⟨0, d, rfl, h⟩
    · obtain ⟨j, e, h1, h2⟩ := pinsL_mem l b h
      exact ⟨j + 1, e, by simpa using h1, h2⟩
/-- what is named by its address stays -/
theorem rep_pins {s : St} {d : D} {v : Value} (h : Rep s d v) : ∀ b ∈ d.pins, s.I b := by
  have key : ∀ {l : List D} {vs : List Value}, vs.length = l.length → (∀ (j : Nat) d v, l[j]? = some d → vs[j]? = some v → ∀ b ∈ d.pins, s.I b) → ∀ b ∈ D.pinsL l, s.I b := by
    intro l vs hl ih b hb
    obtain ⟨j, d, h1, h2⟩ := pinsL_mem l b hb
    have hj : j < vs.length := by rw [hl]; exact (List.getElem?_eq_some_iff.1 h1).1
    exact ih j d _ h1 (List.getElem?_eq_getElem hj) b h2
  induction h with
  | pin hI h ho => intro b hb; simp only [D.pins, List.mem_singleton] at hb; subst hb; exact hI
  | tup hl _ ih => intro b hb; exact key hl ih b (by simpa [D.pins] using hb)
  | agg hl _ ih => intro b hb; exact key hl ih b (by simpa [D.pins] using hb)
  | dpm hnl hI hc hl _ ih => intro b hb; exact key hl ih b (by simpa [D.pins] using hb)
  | slm hnl hl hn hc ha hv _ hm ih => intro b hb; exact key hv ih b (by simpa [D.pins] using hb)
  | _ => intro b hb; simp [D.pins] at hb
section
variable {P : Program} {s0 : St} {n : Cx}
/-- a contract: what comes back is one of several things, told by what stays already -/
def DCallsI (P : Program) (f : FuncId) (args : List D) (Min : List Blk) (post : (Nat → Prop) → D → List Blk → Prop) : Prop :=
  callB P f = true ∧ ∀ (s : St) (vs : List Value), Ok s → s.M = Min → Reps s args vs → Calls P f vs.toArray s.w fun e w' =>
    ∃ s', s'.w = w' ∧ Tr s s' ∧ ∃ d v, e = .returned v ∧ Rep s' d v ∧ post s.I d s'.M
def DFunI (P : Program) (f : FuncId) (args : List D) (Min : List Blk) (post : (Nat → Prop) → D → Prop) (Mout : List Blk) : Prop :=
  DCallsI P f args Min fun I d M => post I d ∧ M = Mout
theorem dcallsI_go {f : FuncId} {fn : Func} {c : Code} {args : List D} {F0 : Fr} {Min : List Blk} {post : (Nat → Prop) → D → List Blk → Prop} {N : Nat} (m : Nat) (hcb : callB P f = true) (hf : P.funcs[f]? = some fn) (hc : fn.body = some c) (hn : fn.ntmps = N) (hle : Nat.ble args.length N = true) (hF : fr0 0 args = F0) (hm : Min.length = m)
    (h : ∀ s0 : St, s0.M.length ≤ m → dwp P s0 ⟨N, none, m, [], true⟩ c F0 Min (Kret P fn m [] (post s0.I) fun _ _ => False)) : DCallsI P f args Min post := by
  subst hF hm
  refine ⟨hcb, ?_⟩
  intro s vs ho hM hr
  obtain ⟨hl, hr⟩ := hr
  have hle := Nat.le_of_ble_eq_true hle
  have hslot : ∀ t d, lk (fr0 0 args) t = some d → Rep s d (slot { tmps := vs.toArray ++ Array.replicate (fn.ntmps - vs.toArray.size) undef, defers := [] } t) := by
    intro t d hd
    obtain ⟨_, h2⟩ := fr0_lk args 0 t d hd
    simp only [Nat.sub_zero] at h2
    have hlt : t < args.length := (List.getElem?_eq_some_iff.1 h2).1
    have hv : vs[t]? = some vs[t] := List.getElem?_eq_getElem (by omega)
    have : slot { tmps := vs.toArray ++ Array.replicate (fn.ntmps - vs.toArray.size) undef, defers := [] } t = vs[t] := by
      unfold slot
      simp only [Array.getD_eq_getD_getElem?]
      rw [Array.getElem?_append_left (by simp; omega)]
      simp [show t < vs.length by omega]
    rw [this]
    exact hr t d _ h2 hv
  have hs : s.M.length ≤ Min.length := by rw [hM]; exact Nat.le_refl _
  have hb : dbody P s ⟨N, none, Min.length, [], true⟩ fn Min.length (post s.I) (fun _ _ => False) c (fr0 0 args) Min := dbody_end rfl hs (h s hs)
  have hcalls := callsIn_wide.1 (callsIn_of_wp_marks (F := Fence.wide) (n := 0) hf hc trivial (hb _ _ ⟨ho, s, hM, rfl, Tr.refl ho, hslot, by simp; omega, .nil⟩))
  refine Calls.mono hcalls ?_
  rintro e w' ⟨s', h1, h2, (⟨d, v, h3, h4, h5⟩ | ⟨_, _, _, _, h5⟩)⟩
  · exact ⟨s', h1, h2, d, v, h3, h4, h5⟩
  · exact h5.elim
theorem DFunI.fun {f : FuncId} {args : List D} {Min Mout : List Blk} {post : (Nat → Prop) → D → Prop} {d0 : D} (h : DFunI P f args Min post Mout) (hd : ∀ I d, post I d → Wk d d0) : DFun P f args Min d0 Mout := by
  refine ⟨h.1, fun s vs ho hM hr => Calls.mono (h.2 s vs ho hM hr) ?_⟩
  rintro e w' ⟨s', h1, h2, d, v, h3, h4, h5, h6⟩
  exact ⟨s', h1, h2, .inl ⟨d0, v, h3, hd _ _ h5 s' v h4, rfl, h6⟩⟩
theorem DFunI.of {f : FuncId} {args : List D} {Min Mout : List Blk} {post post' : (Nat → Prop) → D → Prop} (h : DFunI P f args Min post Mout) (hd : ∀ I d, post I d → post' I d) : DFunI P f args Min post' Mout := by
  refine ⟨h.1, fun s vs ho hM hr => Calls.mono (h.2 s vs ho hM hr) ?_⟩
  rintro e w' ⟨s', h1, h2, d, v, h3, h4, h5, h6⟩
  exact ⟨s', h1, h2, d, v, h3, h4, hd _ _ h5, h6⟩
theorem kendI {fn : Func} {F : Fr} {M Mo : List Blk} {d d' : D} {m : Nat} {post : (Nat → Prop) → D → Prop} {I : Nat → Prop} {pan : D → List Blk → Prop} (σ : List Nat) (hr : ResD P fn F M d) (hσ : okσ m σ = true) (hv : vw σ allv M d = some d') (h : post I d') (hM : MFits σ allv M σ Mo) : DEnd P fn m ((fun I d M => post I d ∧ M = Mo) I) pan [] none F M := .ret hr hσ hv hM ⟨h, rfl⟩
/-- an operation that gives one of several things -/
def DOpI (P : Program) (o : Oper) (F : Fr) (M : List Blk) (post : (Nat → Prop) → D → Prop) (wr : List (Nat × Blk)) : Prop :=
  ∀ (a : Act) (s : St), Ok s → (∀ x ∈ o.op.operands, ∀ d, ev F x = some d → Rep s d (a.eval x)) → s.M = M →
    ∃ I : Nat → Prop, (∀ b, s.I b → I b) ∧ DGives P s (fun s' v => ∃ d, post I d ∧ s'.M = upd s.M wr ∧ Rep s' d v) ((execOp a.eval o).run P s.w)
end
section
variable {P : Program} {pc : Bool} {o : Oper} {F : Fr} {M : List Blk}
theorem dop_callI {x : Operand} {xs : List Operand} {tys : Array TypeId} {g : FuncId} {d1 d2 ds cargs : List D} (σ ν : List Nat) {Min Mout : List Blk} {post : (Nat → Prop) → D → Prop} {wr : List (Nat × Blk)}
    (ho : o.op = .call { callee := .value x, args := xs.toArray, argTypes := tys }) (hx : Ev true F x (.fn (.func g) d1 d2)) (hds : EvL true F xs ds)
    (hc : vwL σ (fun i => ([] : List Nat).contains i) M (d1 ++ ds ++ d2) = some cargs) (hMin : vwMs σ (fun i => ([] : List Nat).contains i) M σ = some Min) (hf : DFunI P g cargs Min post Mout)
    (hlive : Min.all (·.live) = true) (hn : decide (σ ++ ν).Nodup = true) (hν : ν.all (fun i => match M[i]? with | some .hole => true | _ => false) = true)
    (hwr : wrOf (σ ++ ν) (σ ++ ν) Mout = some wr) (hnl : ∀ I d, post I d → d.nl = true) : DOpI P o F M post wr := by
  intro a s hok hops hMM
  have hn' : (σ ++ ν).Nodup := of_decide_eq_true hn
  have hnσ := (List.nodup_append.1 hn').1
  rw [← hMM] at hMin hc hν
  have hopx : x ∈ o.op.operands ∧ ∀ y ∈ xs, y ∈ o.op.operands := by rw [ho]; simp [Op.operands, Call.operands]; intro y hy; exact .inr hy
  obtain ⟨dx, ex1, ex2⟩ := hx
  have hrx := ex2 s _ rfl (hops x hopx.1 dx ex1)
  have hrx' := hrx
  generalize hvx : a.eval x = vx at hrx
  cases hrx with
  | @fn _ _ _ vs us hl1 hl2 hr1 hr2 =>
    have hrun := run_call (P := P) (w := s.w) ho hvx hf.1
    rw [hvx] at hrx'
    have hcr := call_pre (Min := Min) hds hc rfl hok hops hopx.2 (fun i hi => by simp at hi) hrx'
    rw [hrun]
    have hcall := hf.2 (vst s σ (fun i => ([] : List Nat).contains i) Min) (vs ++ xs.map a.eval ++ us) (ok_vst hok hMin hnσ) rfl hcr
    have e : (vs.toArray ++ (xs.map a.eval).toArray ++ us.toArray : Array Value) = (vs ++ xs.map a.eval ++ us).toArray := by simp
    rw [e]
    refine ⟨(vst s σ (fun i => ([] : List Nat).contains i) Min).I, fun b hI => .inl hI, rfl, Calls.mono hcall ?_⟩
    rintro e' w' ⟨s2, rfl, ht, d, v, rfl, hr, hp, hM2⟩
    have hν' : ∀ i ∈ ν, s.M[i]? = some .hole := fun i hi => by
      have h1 := List.all_eq_true.1 hν i hi
      split at h1
      · rename_i h2; exact h2
      · cases h1
    obtain ⟨q1, q2⟩ := call_back (M3 := upd s.M wr) hok hMin hlive hn' hν' ht hM2 hwr rfl (fun ⟨i, hi⟩ => by simp at hi)
    exact ⟨back s s2 σ (fun i => ([] : List Nat).contains i) ν (upd s.M wr), v, rfl, rfl, q1, d, hp, rfl, q2 d v d hr (fun ⟨i, hi⟩ => by simp at hi) (sb_nl _ d (hnl _ d hp))⟩
/-- a walk goes on for each of the things; what was named by its address ahead of it was there -/
theorem walk_i {s0 : St} {n : Cx} {ops : Array Oper} {rest : List Oper} {K : Cont} {M' : List Blk} {t : Nat} {post : (Nat → Prop) → D → Prop} {wr : List (Nat × Blk)} (hg : o.guard = none) (hd : o.dst = some t) (ht : Nat.blt t n.n = true) (h : DOpI P o F M post wr) (hM' : upd M wr = M')
    (hk : ∀ (I : Nat → Prop) d, (∀ b, s0.I b → I b) → (∀ x e, lk F x = some e → ∀ b ∈ e.pins, I b) → post I d → Walk P s0 n ops rest ((t, d) :: F) M' K) (hnd : noDef o.op = true := by rfl) : Walk P s0 n ops (o :: rest) F M K := by
  intro a w hi
  obtain ⟨h0, s, h1, h2, h3, h4, h5, h6⟩ := hi
  subst h1 h2
  show if Region.wanted o (yielded ops a.tmps) then _ else _
  have hw : Region.wanted o (yielded ops a.tmps) = true := by unfold Region.wanted; rw [hg]
  rw [if_pos hw]
  obtain ⟨I, hI, hgv⟩ := h a s h3.ok (fun x _ d hd => ev_rep h4 hd) rfl
  have hd' : dstB n.n o.dst = true := by rw [hd]; exact ht
  refine dgives_in hnd hgv fun s' v ht' ⟨d, hp, e1, e2⟩ => ?_
  have hF : putF o.dst d F = (t, d) :: F := by rw [hd]; rfl
  exact hk I d (fun b hb => hI b (h3.up b hb)) (fun x e hx b hb => hI b (rep_pins (h4 x e hx) b hb)) hp _ _ ⟨h0, s', e1.trans hM', rfl, h3.trans ht', by rw [← hF]; exact (h4.mono h3.ok ht').putF h5 hd' e2, by rw [put_size]; exact h5, by rw [put_def]; exact h6.mono h3.ok ht'⟩
end
/-- a block of one's own is given up: it stays from now on -/
theorem tr_giveO {s : St} (ho : Ok s) {j : Nat} {k : Blk} {h : Value} (hM : s.M[j]? = some k) (hl : k.live = true) (hh : s.β[j]? = some h) : Tr s ⟨s.β, fun b => s.I b ∨ owns k h b, s.M.set j .gone, s.w⟩ := by
  have hnd : ∀ (i : Nat) h, s.β[i]? = some h → h ≠ .nilFunc → s.β[i]? = some h := fun _ _ h _ => h
  have old : ∀ (i : Nat) k', (s.M.set j .gone)[i]? = some k' → k'.live = true → i ≠ j ∧ s.M[i]? = some k' := by
    intro i k' h1 h2
    by_cases e : i = j
    · subst e
      rw [List.getElem?_set_self (by have := (List.getElem?_eq_some_iff.1 hM).1; exact this)] at h1
      cases h1; cases h2
    · rw [List.getElem?_set_ne (Ne.symm e)] at h1
      exact ⟨e, h1⟩
  have ne : ∀ (i : Nat) k' h' b, i ≠ j → s.M[i]? = some k' → k'.live = true → s.β[i]? = some h' → owns k' h' b → ¬ owns k h b := by
    intro i k' h' b e h1 h2 h3 h4 e2
    exact e (ho.inj i j k' k h' h b h1 h2 h3 h4 hM hl hh e2)
  have lv : ∀ b, Live ⟨s.β, fun b => s.I b ∨ owns k h b, s.M.set j .gone, s.w⟩ b → Live s b ∧ ¬ owns k h b := by
    rintro b ⟨i, k', h', h1, h2, h3, h4⟩
    obtain ⟨e, a⟩ := old i k' h1 h2
    exact ⟨live_of a h2 h3 h4, ne i k' h' b e a h2 h3 h4⟩
  refine ⟨⟨by simp [ho.len], fun i k' h' h1 h2 => ?_, fun b hb => ?_, ?_, fun b hI => ?_⟩, hkeep_of hnd, fun _ h => .inl h, fun b h => ?_, fun b hb hn => rfl, fun b h => .inr (lv b h).1, rfl, rfl, rfl, Nat.le_refl _⟩
  · cases hk : k'.live with
    | false =>
      cases k' with
      | gone => trivial
      | hole =>
        by_cases e : i = j
        · subst e
          rw [List.getElem?_set_self (by have := (List.getElem?_eq_some_iff.1 hM).1; exact this)] at h1
          cases h1
        · rw [List.getElem?_set_ne (Ne.symm e)] at h1
          exact ho.blk i _ h' h1 h2
      | _ => cases hk
    | true =>
      obtain ⟨e, a⟩ := old i k' h1 hk
      exact BlkOk.mono (s := s) (s' := ⟨s.β, fun b => s.I b ∨ owns k h b, s.M.set j .gone, s.w⟩) hnd (fun _ h => .inl h) (fun _ _ => rfl) (ho.blk i k' h' a h2) fun b hl' hb' => rfl
  · obtain ⟨h1, h2⟩ := lv b hb
    exact ⟨(ho.lt b h1).1, fun hI => hI.elim (ho.lt b h1).2 h2⟩
  · intro i i2 k1 k2 x x2 b a1 a2 a3 a4 c1 c2 c3 c4
    obtain ⟨_, a1⟩ := old i k1 a1 a2
    obtain ⟨_, c1⟩ := old i2 k2 c1 c2
    exact ho.inj i i2 k1 k2 x x2 b a1 a2 a3 a4 c1 c2 c3 c4
  · rcases hI with hI | hI
    · exact ho.il b hI
    · exact (ho.lt b (live_of hM hl hh hI)).1
  · rcases h with h | h
    · exact .inl h
    · exact .inr (.inr (live_of hM hl hh h))
/-- a block told otherwise, the memory being the same -/
theorem tr_tell {s : St} (ho : Ok s) {j : Nat} {k k' : Blk} {h : Value} (hM : s.M[j]? = some k) (hl : k.live = true) (hl' : k'.live = true) (hh : s.β[j]? = some h) (hw : ∀ b, owns k' h b → owns k h b) (hk : BlkOk s h k') : Tr s ⟨s.β, s.I, s.M.set j k', s.w⟩ := by
  have hjl := (List.getElem?_eq_some_iff.1 hM).1
  have hset : s.β.set j h = s.β := by
    have : s.β[j]'((List.getElem?_eq_some_iff.1 hh).1) = h := (List.getElem?_eq_some_iff.1 hh).2
    rw [← this, List.set_getElem_self]
  have hst := step_set ho j s.M h k' s.w rfl (fun i k h => .inl h) hjl (.inr (.inl hh)) ((ho.blk j k h hM hh).live_ne hl) (by
      rw [hset]
      exact BlkOk.mono (s := s) (s' := ⟨s.β, s.I, s.M.set j k', s.w⟩) (fun _ _ h _ => h) (fun _ h => h) (fun _ _ => rfl) hk (fun _ _ _ => rfl))
    (fun b' hb' i ki hi hne h1 h2 h3' h4' => hne (ho.inj i j ki k hi h b' h1 h2 h3' h4' hM hl hh (hw b' hb'))) (fun b' hb' => .inr (live_of hM hl hh (hw b' hb'))) (fun b' hb' => (ho.lt b' (live_of hM hl hh (hw b' hb'))).1) (fun _ => False) (fun _ h => h.elim) (fun b' hlt hne _ => rfl) rfl rfl rfl (Nat.le_refl _)
  simpa only [hset] using hst
section
variable {P : Program} {s0 : St} {n : Cx}
theorem Tr.live_new {s s' : St} (ho : Ok s) (t : Tr s s') {b : Nat} (h : Live s' b) : ¬ s.I b := fun hI => (t.lv b h).elim (fun e => absurd (ho.il b hI) (Nat.not_lt.2 e)) fun e => (ho.lt b e).2 hI
theorem inv_pin {F : Fr} {M : List Blk} {a : Act} {w : World} {t j : Nat} {T : TypeId} {L : List Value} (h : Inv s0 n F M a w) (ht : lk F t = some (.loc j 0)) (hj : M[j]? = some (.flat T L)) : ∃ b, ¬ s0.I b ∧ Inv s0 n ((t, .pin b L) :: F) (M.set j .gone) a w := by
  obtain ⟨h0, s, rfl, rfl, h3, h4, h5, h6⟩ := h
  have hjl := (List.getElem?_eq_some_iff.1 hj).1
  obtain ⟨y, hy⟩ : ∃ y, s.β[j]? = some y := ⟨_, List.getElem?_eq_getElem (by rw [h3.ok.len]; exact hjl)⟩
  obtain ⟨b, rfl, hc⟩ := h3.ok.blk j _ y hj hy
  have tt := tr_giveO h3.ok hj rfl hy
  have hlv : Live s b := live_of hj rfl hy rfl
  refine ⟨b, h3.live_new h0 hlv, h0, ⟨s.β, fun c => s.I c ∨ owns (.flat T L) (.pointer (some ⟨b, 0, none⟩)) c, s.M.set j .gone, s.w⟩, rfl, rfl, h3.trans tt, fun z d hd => ?_, h5, h6.mono h3.ok tt⟩
  rw [lk_cons] at hd
  split at hd
  · rename_i e'
    subst e'
    obtain rfl := Option.some.inj hd
    have hr := h4 t _ ht
    generalize hv : slot a t = v at hr
    cases hr with
    | @loc _ _ b' hβ =>
      rw [hy] at hβ
      cases hβ
      exact .pin (.inr rfl) (by simpa using cellsAt_block hc 0) hc
  · exact (h4 z d hd).mono h3.ok tt
theorem dwp_pin {c : Code} {F : Fr} {M M' : List Blk} {K : Cont} (t : Nat) {j : Nat} {T : TypeId} {L : List Value} (ht : lk F t = some (.loc j 0)) (hj : M[j]? = some (.flat T L)) (hM' : M.set j .gone = M') (h : ∀ b, ¬ s0.I b → dwp P s0 n c ((t, .pin b L) :: F) M' K) : dwp P s0 n c F M K := by
  subst hM'
  intro a w hi
  obtain ⟨b, hb, hi'⟩ := inv_pin hi ht hj
  exact h b hb a w hi'
/-- names of a family's members turned to addresses -/
def frz (f : Nat) (ad : Nat → Nat) (Bs : List Mem) : D → D
  | .floc i k 0 => if i = f then (match Bs[k]? with | some (.flat _ L) => .pin (ad k) L | _ => .junk) else .floc i k 0
  | d => d
theorem inv_frz {F : Fr} {M : List Blk} {a : Act} {w : World} {f r sz m : Nat} {T : TypeId} {Bs : List Mem} {l : List D} (h : Inv s0 n F M a w) (hf : M[f]? = some (.fam Bs)) (hr : M[r]? = some (.arx T sz m l)) (hl : ∀ (k : Nat) B, Bs[k]? = some B → ∃ T L, B = Mem.flat T L) : ∃ ad : Nat → Nat, (∀ k, k < Bs.length → ¬ s0.I (ad k)) ∧ Inv s0 n F ((M.set f .gone).set r (.arx T sz m (l.map (frz f ad Bs)))) a w := by
  obtain ⟨h0, s, rfl, rfl, h3, h4, h5, h6⟩ := h
  have hlen := h3.ok.len
  have hfl := (List.getElem?_eq_some_iff.1 hf).1
  have hrl := (List.getElem?_eq_some_iff.1 hr).1
  have hfr : f ≠ r := fun e => by subst e; rw [hf] at hr; cases hr
  obtain ⟨x, hx⟩ : ∃ x, s.β[f]? = some x := ⟨_, List.getElem?_eq_getElem (by omega)⟩
  obtain ⟨y, hy⟩ : ∃ y, s.β[r]? = some y := ⟨_, List.getElem?_eq_getElem (by omega)⟩
  obtain ⟨hs, rfl, hfo⟩ := h3.ok.blk f _ x hf hx
  have tt := tr_giveO h3.ok hf rfl hx
  obtain ⟨ad, had⟩ : ∃ ad : Nat → Nat, ∀ k, ad k = match hs[k]? with | some u => (hb u).getD 0 | none => 0 := ⟨_, fun _ => rfl⟩
  have hmem : ∀ (k : Nat) T L, Bs[k]? = some (.flat T L) → hs[k]? = some (.pointer (some ⟨ad k, 0, none⟩)) ∧ s.w.heap[ad k]? = some (.cells L.toArray T (0, 0)) ∧ owns (.fam Bs) (.tuple hs.toArray) (ad k) := by
    intro k T L hB
    have hkl := (List.getElem?_eq_some_iff.1 hB).1
    have hu : hs[k]? = some (hs[k]'(by rw [hfo.len]; exact hkl)) := List.getElem?_eq_getElem _
    obtain ⟨b, e1, e2⟩ := hfo.ok k _ _ hB hu
    have ea : ad k = b := by rw [had, hu, e1]; rfl
    rw [ea]
    exact ⟨by rw [hu, e1], e2, ⟨hs, k, _, _, rfl, hB, rfl, hu, by rw [e1]; rfl⟩⟩
  have hr2 : (s.M.set f .gone)[r]? = some (.arx T sz m l) := by rw [List.getElem?_set_ne hfr]; exact hr
  obtain ⟨vs, k1, k2, k3⟩ := tt.ok.blk r _ y hr2 hy
  obtain ⟨vs0, g1, g2, g3⟩ := h3.ok.blk r _ y hr hy
  have hvv : vs = vs0 := by
    rcases k1.2 with ⟨e1, e2⟩ | ⟨g, cap, cur, e1, e2, e3, e4, e5, e6, e7⟩
    · rcases g1.2 with ⟨q1, q2⟩ | ⟨_, _, _, q1, _⟩
      · have h1 := k1.1; have h2 := g1.1; subst e2; simp at h1 h2; rw [h1, h2]
      · rw [e1] at q1; cases q1
    · rcases g1.2 with ⟨q1, q2⟩ | ⟨g', cap', cur', q1, q2, q3, q4, q5, q6, q7⟩
      · rw [q1] at e1; cases e1
      · rw [e1] at q1
        cases q1
        have hh : s.w.heap[g]? = _ := e3
        rw [q3] at hh
        cases hh
        rw [← e7, ← q7]
  subst hvv
  have t2 := tr_tell (k' := .arx T sz m (l.map (frz f ad Bs))) tt.ok hr2 rfl rfl hy (fun _ h => h) ⟨vs, k1, by simp [k2], fun j d v h1 h2 => by
    rw [List.getElem?_map] at h1
    cases e : l[j]? with
    | none => rw [e] at h1; cases h1
    | some e0 =>
      rw [e] at h1
      simp only [Option.map_some, Option.some.injEq] at h1
      subst h1
      have hq := g3 j e0 v e h2
      unfold frz
      split
      · rename_i i k
        split
        · rename_i ei
          subst ei
          cases hB : Bs[k]? with
          | none => exact .junk v
          | some B =>
            obtain ⟨T', L, rfl⟩ := hl k B hB
            obtain ⟨e1, e2, e3⟩ := hmem k T' L hB
            cases hq with
            | @floc _ _ _ b hs' q1 q2 =>
              rw [hx] at q1
              have e4 : hs = hs' := by simpa using q1
              subst e4
              rw [e1] at q2
              cases q2
              exact .pin (.inr e3) (by simpa using cellsAt_block e2 0) e2
        · exact hq.mono h3.ok tt
      · exact hq.mono h3.ok tt⟩
  refine ⟨ad, fun k hk => ?_, h0, ⟨s.β, fun b => s.I b ∨ owns (.fam Bs) (.tuple hs.toArray) b, (s.M.set f .gone).set r (.arx T sz m (l.map (frz f ad Bs))), s.w⟩, rfl, rfl, (h3.trans tt).trans t2, fun z d hd => ((h4 z d hd).mono h3.ok tt).mono tt.ok t2, h5, (h6.mono h3.ok tt).mono tt.ok t2⟩
  obtain ⟨B, hB⟩ : ∃ B, Bs[k]? = some B := ⟨_, List.getElem?_eq_getElem hk⟩
  obtain ⟨T', L, rfl⟩ := hl k B hB
  exact h3.live_new h0 (live_of hf rfl hx (hmem k T' L hB).2.2)
/-- a family stays from now on; a row that names its members names them by their addresses, which are new -/
theorem dwp_frz {c : Code} {F : Fr} {M : List Blk} {K : Cont} (f r : Nat) {sz m : Nat} {T : TypeId} {Bs : List Mem} {l : List D} (hf : M[f]? = some (.fam Bs)) (hr : M[r]? = some (.arx T sz m l)) (hl : ∀ (k : Nat) B, Bs[k]? = some B → ∃ T L, B = Mem.flat T L) (h : ∀ ad : Nat → Nat, (∀ k, k < Bs.length → ¬ s0.I (ad k)) → dwp P s0 n c F ((M.set f .gone).set r (.arx T sz m (l.map (frz f ad Bs)))) K) : dwp P s0 n c F M K := by
  intro a w hi
  obtain ⟨ad, had, hi'⟩ := inv_frz hi hf hr hl
  exact h ad had a w hi'
end
section
variable {P : Program} {pc : Bool} {o : Oper} {F : Fr} {M : List Blk}
/-- a row of data that names no block -/
theorem arxn_fits {σ : List Nat} {V : Nat → Bool} {M : List Blk} {T : TypeId} {sz n n' : Nat} {l l' : List D} (hnl : D.nlL l = true) (hn : n = n') (hl : l = l') : (vwL σ V M l).map (Blk.arx T sz n) = some (Blk.arx T sz n' l') := by
  subst hn hl
  rw [vwL_nl σ V M l hnl]; rfl
theorem sb_arxn {τ : List Nat} {T : TypeId} {sz n : Nat} {l : List D} (hnl : D.nlL l = true) : sbB τ (.arx T sz n l) = some (.arx T sz n l) := by
  show (sbL τ _).map _ = _
  rw [sbL_nl τ l hnl]; rfl
theorem Wk.pin (b : Nat) (L : List Value) : Wk (.pin b L) (.dpf L) := fun s v hr => by cases hr with | pin hI h ho => exact .dpf hI h
theorem Wk.dpm {l l' : List D} (hw : WkL l l') (hn : D.nlL l' = true) : Wk (.dpm l) (.dpm l') := fun s v hr => by
  cases hr with
  | dpm hnl hI hc hl h => exact .dpm hn hI hc (by rw [← hw.1]; exact hl) (hw.rep h)
theorem Wk.slm {sz n : Nat} {l l' : List D} (hw : WkL l l') (hn : D.nlL l' = true) : Wk (.slm sz n l) (.slm sz n l') := fun s v hr => by
  cases hr with
  | slm hnl hl hn' hc ha hv h hm => exact .slm hn (by rw [← hw.1]; exact hl) hn' hc ha (by rw [← hw.1]; exact hv) (hw.rep h) (hm.imp (fun e => by subst e; exact List.eq_nil_of_length_eq_zero hw.1.symm) id)
def D.c1h (i : Nat) : D → Bool
  | .hnd j => j == i
  | d => d.c1
/-- a struct with a map among its parts -/
theorem op_bldDh {T : TypeId} {ps : List (Nat × Operand)} {ds R : List D} {offs : List (Nat × Nat)} {Z : List Value} (i : Nat) {ks : List Int} {l : List D} (ho : o.op = .build T ps.toArray) (hT : fdL P T = some offs) (hZ : zrC P T = some Z) (hv : EvL pc F (ps.map (·.2)) ds) (hM : M[i]? = some (.mpd ks l)) (hc : ds.all (D.c1h i) = true)
    (hB : fillBD offs Z.length ((ps.map (·.1)).zip (ds.map D.cs)) = true) (hR : fillD offs (Z.map .val) ((ps.map (·.1)).zip (ds.map D.cs)) = R) : DOp P pc o F M [i] (.agg R) [] := by
  intro hp a s hok hops hfp
  have hM' : s.M[i]? = some (.mpd ks l) := by rw [hfp i (by simp)]; exact hM
  obtain ⟨r1, r2⟩ := evL_reps (a := a) (s := s) hp _ _ hv (fun x hx => hops x (by rw [ho]; simpa [Op.operands] using hx))
  have hf := reps_fill (s := s) offs Z.length (ps.map (·.1)) (ds.map D.cs) (((ps.map (·.2)).map a.eval).map fun v => v.cells.toList) (Z.map .val) Z (fun j C v h1 h2 => by
      rw [List.getElem?_map] at h1 h2
      simp only [Option.map_eq_some_iff] at h1 h2
      obtain ⟨d, h1, rfl⟩ := h1
      obtain ⟨u, h2, rfl⟩ := h2
      have hr := r2 j d u h1 h2
      have hd := List.all_eq_true.1 hc _ (List.mem_of_getElem? h1)
      have key : d.c1 = true ∨ d = .hnd i := by
        cases d with
        | hnd k => simp only [D.c1h, beq_iff_eq] at hd; exact .inr (by rw [hd])
        | _ => exact .inl hd
      rcases key with hd | rfl
      · exact cs_rep hr hd
      · obtain ⟨b, vs, rfl, _⟩ := mpd_at hok hM' hr
        refine ⟨rfl, fun q e w g1 g2 => ?_⟩
        cases q with
        | zero => simp [D.cs, Value.cells] at g1 g2; subst g1 g2; exact hr
        | succ q => simp [D.cs, Value.cells] at g1) (by rw [List.length_map, List.length_map]; exact r1.symm) (reps_vals Z) hB
  rw [hR] at hf
  exact dg_val hok (run_build (P := P) (a := a) (w := s.w) ho hT hZ rfl hf.2 rfl) (.agg hf.1.1 hf.1.2)
/-- nil is nil -/
theorem op_pnil0 {T T' e : TypeId} {x : Operand} (ho : o.op = .binOp .eql T x (.const (.pointer none)) T') (hT : ptT P T = some e) (hx : Ev pc F x (.val (.pointer none))) : DOp P pc o F M [] (.val (.bool true)) [] := by
  intro hp a s hok hops hfp
  have hr := (ev_at hp hx (by simp [ho, Op.operands]) hops).val_eq
  refine dg_val (v := .bool true) hok ?_ (.val _)
  unfold execOp
  simp only [ho, hr]
  refine run_v ?_
  have hc : a.eval (.const (.pointer none)) = .pointer none := rfl
  rw [hc]
  have hg : (eqGuard .eql T x (.const (.pointer none)) (.pointer none) (.pointer none)).run P s.w = .ok () s.w := by unfold eqGuard; rfl
  rw [Sem.run_bind, hg]
  have he := run_equal_pointer_nil (P := P) s.w T none (by rw [show P.pointee T = e by simp [Program.pointee, ptT_spec hT]]; exact ptT_spec hT)
  simp only [Result.andThen, binOp, Sem.run_bind, he]
  rfl
theorem op_pnilmn {T T' e : TypeId} {x : Operand} {l : List D} (ho : o.op = .binOp .neq T x (.const (.pointer none)) T') (hT : ptT P T = some e) (hx : Ev pc F x (.dpm l)) : DOp P pc o F M [] (.val (.bool true)) [] := by
  intro hp a s hok hops hfp
  have hr := ev_at hp hx (by simp [ho, Op.operands]) hops
  generalize hv : a.eval x = vx at hr
  cases hr with
  | @dpm b q _ vs hnl hI hc hl h =>
    refine dg_val (v := .bool true) hok ?_ (.val _)
    unfold execOp
    simp only [ho, hv]
    refine run_v ?_
    have hc : a.eval (.const (.pointer none)) = .pointer none := rfl
    rw [hc]
    have hg : (eqGuard .neq T x (.const (.pointer none)) (.pointer (some ⟨b, q, none⟩)) (.pointer none)).run P s.w = .ok () s.w := by unfold eqGuard; rfl
    rw [Sem.run_bind, hg]
    have he := run_equal_pointer_nil (P := P) s.w T (some ⟨b, q, none⟩) (by rw [show P.pointee T = e by simp [Program.pointee, ptT_spec hT]]; exact ptT_spec hT)
    simp only [Result.andThen, binOp, Sem.run_bind, he]
    rfl
/-- one datum stored into a row of one's own -/
theorem op_stx0 {l : List D} {q : D} {T T' : TypeId} {x y : Operand} {i j n : Nat} {rw' : Bool} (ho : o.op = .store T x y) (hT : tyB P T = some (rw', 1)) (hx : Ev pc F x (.aloc i (j * 1))) (hy : Ev pc F y q) (hM : M[i]? = some (.arx T' 1 n l)) (hj : j < l.length) (h1 : ∀ (s : St) v, Rep s q v → v.cells = #[v] ∧ v.oneCell' = true) :
    DOp P pc o F M [i] .junk [(i, .arx T' 1 n (l.set j q))] := by
  have e : ∀ r : List D, (r.flatMap fun a => [id a]) = r := fun r => by induction r with | nil => rfl | cons a r ih => rw [List.flatMap_cons, ih]; rfl
  have := op_stx1 (P := P) (pc := pc) (o := o) (F := F) (M := M) (g := id) (l := l) (q := q) ho hT hx hy (by rw [e]; exact hM) hj h1
  rwa [e] at this
end
end Go.Proofs.Ytmpodnadoebclaa
namespace Go.Proofs.Ytmpodnadoebclaa
set_option linter.unusedVariables false
set_option linter.unusedSimpArgs false
open Go.RowKit
section
variable {P : Program} {s0 : St} {n : Cx}
variable {ops : Array Oper}
/-- is a row of structs with rows nil? -/
theorem walk_nilm? {o : Oper} {rest : List Oper} {F : Fr} {M : List Blk} {K : Cont} {T T' e : TypeId} {sz by' m t : Nat} {L : List D} {x : Operand} (hg : o.guard = none) (hd : o.dst = some t) (ht : Nat.blt t n.n = true) (ho : o.op = .binOp .eql T x (.const (.slice none 0 0)) T') (hT : slE P T = some (e, sz, by')) (hx : Ev true F x (.slm sz m L))
    (hk : ∀ b, (b = true → m = 0 ∧ L = []) → Walk P s0 n ops rest ((t, .val (.bool b)) :: F) M K) : Walk P s0 n ops (o :: rest) F M K := by
  intro a w hi
  have hi' := hi
  obtain ⟨h0, s, h1, h2, h3, h4, h5, h6⟩ := hi
  obtain ⟨dx, ex1, ex2⟩ := hx
  have hrx := ex2 s _ rfl (ev_rep h4 ex1)
  generalize hvx : a.eval x = vx at hrx
  cases hrx with
  | @slm _ _ cap ad _ vs hnl hl hn hc ha hvl hel hm =>
    obtain ⟨hu, _⟩ := slE_spec hT
    have hrun : (execOp a.eval o).run P w = .ok (.value (.bool ad.isNone)) w := by
      unfold execOp
      simp only [ho]
      have hv : a.eval (.const (.slice none 0 0)) = .slice none 0 0 := rfl
      rw [hv, hvx]
      refine run_v ?_
      simp only [eqGuard, binOp, Sem.run_bind]
      have heq : ∀ d, (Op.equalIn (d + 1) T (.slice ad m cap) (.slice none 0 0)).run P w = .ok ad.isNone w := fun d => by
        unfold Op.equalIn
        rw [Sem.run_bind, run_underlying hu]
        cases ad <;> simp
      have heq' : (Op.equalIn Op.maxDepth T (.slice ad m cap) (.slice none 0 0)).run P w = .ok ad.isNone w := heq 9999
      simp [Op.equal, heq', Sem.run_bind, go_sem]
    have hfin := hk ad.isNone (fun hb => by
      cases ad with
      | none => have := ha rfl; exact ⟨by omega, List.eq_nil_of_length_eq_zero (by rw [hl, show m = 0 by omega]; simp)⟩
      | some q => cases hb) (a.put o.dst (.bool ad.isNone)) w (by
        obtain ⟨h0, s, h1, h2, h3, h4, h5, h6⟩ := hi'
        refine ⟨h0, s, h1, h2, h3, ?_, by rw [put_size]; exact h5, by rw [put_def]; exact h6⟩
        rw [hd]
        exact h4.put (by rw [h5]; exact Nat.blt_eq.mp ht) (.val _))
    show if Region.wanted o (yielded ops a.tmps) then _ else _
    have hw : Region.wanted o (yielded ops a.tmps) = true := by unfold Region.wanted; rw [hg]
    rw [if_pos hw]
    refine ⟨fun _ _ => trivial, ?_⟩
    rw [semAt_noDef (by rw [ho]; rfl), hrun]
    exact hfin
end
end Go.Proofs.Ytmpodnadoebclaa
namespace Go.Proofs.Ytmpodnadoebclaa
set_option linter.unusedVariables false
set_option linter.unusedSimpArgs false
open Go.RowKit
section
variable {α β : Type}
variable [DecidableEq α] {P : Program} {T : TypeId} {en : α → List Value} {ev : β → List Value}
end
section
variable {α β : Type} {P : Program} {K E T : TypeId} {en : α → List Value} {ev : β → List Value} {pc : Bool} {o : Oper} {F : Fr} {M : List Blk} {x y z : Operand}
end
section
variable {P : Program} {pc : Bool} {o : Oper} {F : Fr} {M : List Blk}
/-- a struct of what takes a cell each, stored whole -/
theorem op_stam2 {T T' : TypeId} {x y : Operand} {i k : Nat} {rw' : Bool} {ds : List D} {L : List Value} (ho : o.op = .store T x y) (hT : tyB P T = some (rw', k)) (hx : Ev pc F x (.loc i 0)) (hy : Ev pc F y (.agg ds)) (hM : M[i]? = some (.flat T' L)) (hk : ds.length = k) (hfit : ds.length = L.length) (h1 : ds.all D.oc2 = true) : DOp P pc o F M [i] .junk [(i, .mix T' ds)] := by
  intro hp a s hok hops hfp
  have hr := ev_at hp hx (by simp [ho, Op.operands]) hops
  have hry := ev_at hp hy (by simp [ho, Op.operands]) hops
  have hM' : s.M[i]? = some (.flat T' L) := by rw [hfp i (by simp)]; exact hM
  generalize hv : a.eval x = vx at hr
  generalize hvy : a.eval y = vy at hry
  cases hr with
  | @loc _ _ b h =>
    cases hry with
    | @agg _ vs hvl hd =>
      obtain ⟨b', e1, e2⟩ := hok.blk i _ _ hM' h
      cases e1
      have hcell := cellsAt_block e2 0
      have hoc : ∀ u ∈ vs, u.oneCell' = true := fun u hu => by
        obtain ⟨j, hj, rfl⟩ := List.getElem_of_mem hu
        have hj2 : j < ds.length := by omega
        exact oc2_one (hd j _ _ (List.getElem?_eq_getElem hj2) (List.getElem?_eq_getElem hj)) (List.all_eq_true.1 h1 _ (List.getElem_mem hj2))
      have hrun := run_store (P := P) (w := s.w) (C := vs) ho hT hv hvy rfl (by omega) (fun j hj => by
          have hp' : j < L.length := by omega
          have := hcell j L[j] (by simp [hp'])
          rw [Nat.zero_add] at this
          rw [Nat.zero_add, this]; rfl) (fun j hj => by simp [World.frozen?, e2]) hoc
      have hβ : s.β.set i (.pointer (some ⟨b, 0, none⟩)) = s.β := by
        apply List.ext_getElem?
        intro k
        by_cases e : i = k
        · subst e; rw [List.getElem?_set_self (List.getElem?_eq_some_iff.1 h).1, h]
        · rw [List.getElem?_set_ne e]
      refine dg_skip (s' := ⟨s.β.set i (.pointer (some ⟨b, 0, none⟩)), s.I, s.M.set i (.mix T' ds), s.w.setCells b 0 vs⟩) hrun (tr_store hok hM' rfl h rfl 0 _ ?_) rfl
      have hall : setL L 0 vs = vs := setL_all (by omega)
      have hblk := setCells_block b vs 0 s.w L T' e2
      rw [hall] at hblk
      refine ⟨b, vs, rfl, hblk, hvl, fun j e v hj hv' => ?_⟩
      refine Rep.mono' (s := s) (s' := ⟨s.β.set i (.pointer (some ⟨b, 0, none⟩)), s.I, s.M.set i (.mix T' ds), s.w.setCells b 0 vs⟩) (fun k x hk _ => by show (s.β.set i _)[k]? = _; rw [hβ]; exact hk) (fun _ h => h) (fun b' hI => setCells_other b _ 0 s.w b' fun e => ?_) (hd j e v hj hv')
      subst e
      exact (hok.lt b' (live_of hM' rfl h rfl)).2 hI
end
end Go.Proofs.Ytmpodnadoebclaa
namespace Go.Proofs.Ytmpodnadoebclaa
set_option linter.unusedVariables false
set_option linter.unusedSimpArgs false
open Go.RowKit
section
variable {P : Program} {pc : Bool} {o : Oper} {F : Fr} {M : List Blk}
/-- the first structs of a row that stays, with no room behind them -/
theorem op_sl3mc {α : Type} {mk : α → List D} {r : List α} {T e : TypeId} {sz by' : Nat} {x hi mx : Operand} {k k' : IntKind} {h h' : Int} {j : Nat} (ho : o.op = .slice T x none (some hi) (some mx)) (hT : slE P T = some (e, sz, by')) (hx : Ev pc F x (.slm sz r.length (r.flatMap mk))) (hhi : Ev pc F hi (.val (.int k h))) (hmx : Ev pc F mx (.val (.int k' h')))
    (hh : pc = true → h = (j : Int)) (hm : pc = true → h' = (j : Int)) (hj : pc = true → j ≤ r.length) (hmk : ∀ a, (mk a).length = sz) : DOp P pc o F M [] (.smc sz (r.take j).length ((r.take j).flatMap mk)) [] := by
  intro hp a s hok hops _
  have hr := ev_at hp hx (by simp [ho, Op.operands]) hops
  have e1 := (ev_at hp hhi (by simp [ho, Op.operands]) hops).val_eq
  have e2 := (ev_at hp hmx (by simp [ho, Op.operands]) hops).val_eq
  rw [hh hp] at e1
  rw [hm hp] at e2
  have hjl := hj hp
  obtain ⟨q1, ti, q2, q3, q4⟩ := slE_spec hT
  have hlen : (r.take j).length = j := by rw [List.length_take]; omega
  have hfl : (r.take j).flatMap mk = (r.flatMap mk).take (j * sz) := by rw [flatM_take hmk]
  generalize hv : a.eval x = vx at hr
  cases hr with
  | @slm _ _ cap ad _ vs hnl hl hn hc ha hvl hel hL =>
    have hjc : j ≤ cap := by omega
    have hrun : (execOp a.eval o).run P s.w = .ok (.value (.slice ad j j)) s.w := by
      unfold execOp
      simp only [ho, hv, Option.map_some, Option.map_none, e1, e2]
      refine run_v ?_
      have hj0 : (0 : Int) ≤ (j : Int) ∧ (j : Int) ≤ (cap : Int) := by omega
      simp [Instr.sliceAt, Instr.slice, run_underlying q1, Sem.run_bind, Instr.sliceBounds, Instr.sliceBound, asIntOf, hjc, sizeOf, typeInfo, q2, Addr.add_zero']
    refine dg_val hok hrun ?_
    rw [hlen, hfl]
    refine .smc (vs := vs.take (j * sz)) (nlL_take _ hnl) (by rw [← hfl, flatM_len' hmk, hlen]) (by omega) (fun e => by have := ha e; omega) (by simp [hvl]) (fun p d v g1 g2 => ?_) ?_
    · rw [List.getElem?_take] at g1 g2
      split at g1
      · rename_i hp'
        rw [if_pos hp'] at g2
        exact hel p d v g1 g2
      · cases g1
    · rcases hL with hL | ⟨b, q, e, hI, hcl⟩
      · left; rw [hL]; simp
      · right
        refine ⟨b, q, e, hI, ?_⟩
        have h5 := cellsAt_sub hcl 0 (j * sz)
        simpa using h5
theorem op_slmdr {α : Type} {mk : α → List D} {r : List α} {T e : TypeId} {sz by' : Nat} {x : Operand} {lo : Option Operand} {l : Int} {i : Nat} (ho : o.op = .slice T x lo none none) (hT : slE P T = some (e, sz, by')) (hx : Ev pc F x (.slm sz r.length (r.flatMap mk))) (hlo : Bd pc F lo 0 l)
    (hl : pc = true → l = (i : Int)) (hij : pc = true → i ≤ r.length) (hmk : ∀ a, (mk a).length = sz) : DOp P pc o F M [] (.slm sz (r.drop i).length ((r.drop i).flatMap mk)) [] := fun hp => by
  have h := op_slmmd (M := M) (j := r.length) ho hT hx hlo bd_none hl (fun _ => rfl) (fun hp => ⟨hij hp, Nat.le_refl _⟩) hmk hp
  rwa [List.take_of_length_le (by simp)] at h
/-- append where there is no room: a row of its own -/
theorem op_apcm {T e : TypeId} {sz by' n m : Nat} (j : Nat) {x y : Operand} {l l2 : List D} {Z : List Value} (ho : o.op = .call { callee := .builtin .append, args := #[x, y], argTypes := #[T, T] }) (hT : slE P T = some (e, sz, by')) (hZ : zrC P e = some Z) (hZl : Z.length = sz)
    (hx : Ev pc F x (.smc sz n l)) (hy : Ev pc F y (.slm sz m l2)) (hj : M[j]? = some .hole) (hpos : 0 < sz) (hbd : pc = true → 0 < m ∧ (n + m) * by' ≤ 140737488355328 ∧ n + m ≤ 140737488355328) :
    DOp P pc o F M [j] (.arr j) [(j, .arx e sz (n + m) (l ++ l2))] := by
  intro hp a s hok hops hfp
  obtain ⟨e1, ti, e2, e3, e4⟩ := slE_spec hT
  obtain ⟨ti', z, q1, q2, q3⟩ := zrC_spec hZ
  rw [e2] at q1
  obtain rfl := Option.some.inj q1
  obtain ⟨b0, b1, b2⟩ := hbd hp
  have hj' : s.M[j]? = some .hole := by rw [hfp j (by simp)]; exact hj
  have hjl : j < s.β.length := by rw [hok.len]; exact (List.getElem?_eq_some_iff.1 hj').1
  have hrx := ev_at hp hx (by simp [ho, Op.operands, Call.operands]) hops
  have hry := ev_at hp hy (by simp [ho, Op.operands, Call.operands]) hops
  generalize hv : a.eval x = vx at hrx
  generalize hvy : a.eval y = vy at hry
  subst e3 e4
  have hzs : z.cells.size = ti.size := by rw [← hZl, ← q3]; simp
  cases hry with
  | @slm _ _ c2 a2 _ us hnl2 hl2 hn2 hc2 ha2 hvl2 hel2 hm2 =>
  have hul : us.length = m * ti.size := by omega
  obtain ⟨ad2, rfl, hcells⟩ : ∃ ad, a2 = some ad ∧ ∀ (j : Nat) u, us[j]? = some u → s.w.cell? (ad.add j) = some u := by
    rcases hm2 with h | ⟨b, q, e, hI, hcl⟩
    · subst h
      have : 0 < m * ti.size := Nat.mul_pos b0 hpos
      simp at hl2
      omega
    · exact ⟨_, e, fun k u hk => by rw [Addr.add_mid]; exact hcl k u hk⟩
  cases hrx with
  | @smc _ _ ad _ vs hnl hl hc ha hvl hel hL =>
    have hwl : vs.length = n * ti.size := by omega
    have grown : ∀ old, (s.w.drew.alloc (.cells (vs.toArray ++ us.toArray ++ Builtin.zeroCells z.cells (grownCap s.w (n + m) old e - (n + m))) e)).ownsRow 0 e ti.size (.slice (some ⟨s.w.heap.size, 0, none⟩) (n + m) (grownCap s.w (n + m) old e)) (n + m) (vs ++ us) := by
      intro old
      have hge := grownCap_ge s.w (n + m) old e
      have hll : (vs ++ us).length = (n + m) * ti.size := by rw [List.length_append, hwl, hul, Nat.add_mul]
      refine ⟨hll, .inr ⟨s.w.heap.size, _, _, rfl, Nat.zero_le _, heap_alloc_new s.w.drew _, hge, grownCap_le_maxLen s.w _ _ _ (by unfold maxLen; omega), ?_, ?_⟩⟩
      · simp only [Array.size_append, List.size_toArray, size_zeroCells, hzs, hwl, hul, ← Nat.add_mul]
        congr 1
        omega
      · simp only [Array.toList_append, List.append_assoc]
        rw [← List.append_assoc, ← hll]
        exact List.take_left
    have done : ∀ cap (W : World) (row : Array Value), (Builtin.append_ #[T, T] o.type #[.slice ad n n, .slice (some ad2) m c2]).run P s.w = .ok (.slice (some ⟨s.w.heap.size, 0, none⟩) (n + m) cap) W → W = s.w.drew.alloc (.cells row e) → W.ownsRow 0 e ti.size (.slice (some ⟨s.w.heap.size, 0, none⟩) (n + m) cap) (n + m) (vs ++ us) →
        DGives P s (fun s' v => s'.M = upd s.M [(j, .arx e ti.size (n + m) (l ++ l2))] ∧ Rep s' (.arr j) v) ((execOp a.eval o).run P s.w) := by
      intro cap W row r1 hW r2
      subst hW
      have up : ∀ b, s.I b → s.I b := fun _ h => h
      have imm : ∀ b, s.I b → (s.w.drew.alloc (.cells row e)).heap[b]? = s.w.heap[b]? := fun b hI => Below.heap_alloc _ _ _ (hok.il b hI)
      have hblk : BlkOk ⟨s.β.set j (.slice (some ⟨s.w.heap.size, 0, none⟩) (n + m) cap), s.I, s.M.set j (.arx e ti.size (n + m) (l ++ l2)), s.w.drew.alloc (.cells row e)⟩ (.slice (some ⟨s.w.heap.size, 0, none⟩) (n + m) cap) (.arx e ti.size (n + m) (l ++ l2)) := by
        refine ⟨vs ++ us, r2, by simp [hvl, hvl2], fun k d v hk1 hk2 => ?_⟩
        by_cases hlt : k < l.length
        · rw [List.getElem?_append_left hlt] at hk1
          rw [List.getElem?_append_left (by omega)] at hk2
          exact Rep.nl (s' := ⟨s.β.set j (.slice (some ⟨s.w.heap.size, 0, none⟩) (n + m) cap), s.I, s.M.set j (.arx e ti.size (n + m) (l ++ l2)), s.w.drew.alloc (.cells row e)⟩) up imm (hel k d v hk1 hk2) (nlL_mem hnl hk1)
        · rw [List.getElem?_append_right (by omega)] at hk1 hk2
          rw [hvl] at hk2
          exact Rep.nl (s' := ⟨s.β.set j (.slice (some ⟨s.w.heap.size, 0, none⟩) (n + m) cap), s.I, s.M.set j (.arx e ti.size (n + m) (l ++ l2)), s.w.drew.alloc (.cells row e)⟩) up imm (hel2 _ d v hk1 hk2) (nlL_mem hnl2 hk1)
      refine dg_step (s' := ⟨s.β.set j (.slice (some ⟨s.w.heap.size, 0, none⟩) (n + m) cap), s.I, s.M.set j (.arx e ti.size (n + m) (l ++ l2)), s.w.drew.alloc (.cells row e)⟩) (run_builtin ho (fun cs => by rfl) (by simpa [hv, hvy] using r1)) (tr_new hok hj' (.slice (some ⟨s.w.heap.size, 0, none⟩) (n + m) cap) _ (s.w.drew.alloc (.cells row e)) (by simp) (fun b hb => by cases hb; rfl) (fun b h => Below.heap_alloc _ _ _ h) (fun b hb => by cases hb; simp) (by simp) rfl rfl rfl hblk) rfl (.arr (by simp [hjl]))
    cases ad with
    | none =>
      have hn0 := ha rfl
      subst hn0
      have hL0 : vs = [] := List.eq_nil_of_length_eq_zero (by simpa using hwl)
      subst hL0
      have hr := run_append_nil (P := P) s.w T o.type e ti z e1 e2 q2 ad2 m c2 us hul hcells (by omega) (by omega) (by rw [Nat.zero_add] at b1; omega)
      have hg := grown 0
      simp only [Nat.zero_add, List.nil_append, Array.empty_append] at hg hr done ⊢
      exact done _ _ _ hr rfl hg
    | some ad =>
      have holds : ∀ (j : Nat) u, vs[j]? = some u → s.w.cell? (ad.add j) = some u := by
        intro j u hu
        rcases hL with rfl | ⟨b, q, e, hI, hcl⟩
        · rw [List.length_nil] at hvl
          rw [List.eq_nil_of_length_eq_zero hvl] at hu
          simp at hu
        · cases e
          rw [Addr.add_mid]
          exact hcl j u hu
      have hr := run_append_grow (P := P) s.w T o.type e ti z e1 e2 q2 ad n n vs hwl holds ad2 m c2 us hul hcells (by omega) (by omega) (growslice_fits (by omega) b1)
      exact done _ _ _ hr rfl (grown n)
end
/-- a struct of what takes a cell each, stored whole -/
theorem op_stmw2 {P : Program} {pc : Bool} {o : Oper} {F : Fr} {M : List Blk} {T T' : TypeId} {x y : Operand} {i k : Nat} {rw' : Bool} {ds l : List D} (ho : o.op = .store T x y) (hT : tyB P T = some (rw', k)) (hx : Ev pc F x (.loc i 0)) (hy : Ev pc F y (.agg ds)) (hM : M[i]? = some (.mix T' l)) (hk : ds.length = k) (hfit : ds.length = l.length) (h1 : ds.all D.oc2 = true) : DOp P pc o F M [i] .junk [(i, .mix T' ds)] := by
  intro hp a s hok hops hfp
  have hr := ev_at hp hx (by simp [ho, Op.operands]) hops
  have hry := ev_at hp hy (by simp [ho, Op.operands]) hops
  have hM' : s.M[i]? = some (.mix T' l) := by rw [hfp i (by simp)]; exact hM
  generalize hv : a.eval x = vx at hr
  generalize hvy : a.eval y = vy at hry
  cases hr with
  | @loc _ _ b h =>
    cases hry with
    | @agg _ vs hvl hd =>
      obtain ⟨b', L, e1, e2, e3, _⟩ := hok.blk i _ _ hM' h
      cases e1
      have hcell := cellsAt_block e2 0
      have hoc : ∀ u ∈ vs, u.oneCell' = true := fun u hu => by
        obtain ⟨j, hj, rfl⟩ := List.getElem_of_mem hu
        have hj2 : j < ds.length := by omega
        exact oc2_one (hd j _ _ (List.getElem?_eq_getElem hj2) (List.getElem?_eq_getElem hj)) (List.all_eq_true.1 h1 _ (List.getElem_mem hj2))
      have hrun := run_store (P := P) (w := s.w) (C := vs) ho hT hv hvy rfl (by omega) (fun j hj => by
          have hp' : j < L.length := by omega
          have := hcell j L[j] (by simp [hp'])
          rw [Nat.zero_add] at this
          rw [Nat.zero_add, this]; rfl) (fun j hj => by simp [World.frozen?, e2]) hoc
      have hβ : s.β.set i (.pointer (some ⟨b, 0, none⟩)) = s.β := by
        apply List.ext_getElem?
        intro k
        by_cases e : i = k
        · subst e; rw [List.getElem?_set_self (List.getElem?_eq_some_iff.1 h).1, h]
        · rw [List.getElem?_set_ne e]
      refine dg_skip (s' := ⟨s.β.set i (.pointer (some ⟨b, 0, none⟩)), s.I, s.M.set i (.mix T' ds), s.w.setCells b 0 vs⟩) hrun (tr_store hok hM' rfl h rfl 0 _ ?_) rfl
      have hall : setL L 0 vs = vs := setL_all (by omega)
      have hblk := setCells_block b vs 0 s.w L T' e2
      rw [hall] at hblk
      refine ⟨b, vs, rfl, hblk, hvl, fun j e v hj hv' => ?_⟩
      refine Rep.mono' (s := s) (s' := ⟨s.β.set i (.pointer (some ⟨b, 0, none⟩)), s.I, s.M.set i (.mix T' ds), s.w.setCells b 0 vs⟩) (fun k x hk _ => by show (s.β.set i _)[k]? = _; rw [hβ]; exact hk) (fun _ h => h) (fun b' hI => setCells_other b _ 0 s.w b' fun e => ?_) (hd j e v hj hv')
      subst e
      exact (hok.lt b' (live_of hM' rfl h rfl)).2 hI
/-- what reads as d reads as one of several things -/
def WkE (d : D) (Q : D → Prop) : Prop := ∀ s v, Rep s d v → ∃ d', Q d' ∧ Rep s d' v
theorem WkE.of {d d' : D} {Q : D → Prop} (h : Wk d d') (hq : Q d') : WkE d Q := fun s v hr => ⟨d', hq, h s v hr⟩
theorem Wk.pip (b : Nat) (L : List Value) : Wk (.pin b L) (.pip L) := fun s v hr => by cases hr with | pin hI h ho => exact .pip hI h ho
theorem Wk.pipf (L : List Value) : Wk (.pip L) (.dpf L) := fun s v hr => by cases hr with | pip hI h ho => exact .dpf hI h
theorem WkE.pip (L : List Value) : WkE (.pip L) fun d => ∃ b, d = .pin b L := fun s v hr => by cases hr with | pip hI h ho => exact ⟨_, ⟨_, rfl⟩, .pin hI h ho⟩
section
variable {P : Program} {s0 : St} {n : Cx}
end
end Go.Proofs.Ytmpodnadoebclaa
namespace Go.Proofs.Ytmpodnadoebclaa
set_option linter.unusedVariables false
set_option linter.unusedSimpArgs false
open Go.RowKit
section
variable {P : Program} {pc : Bool} {o : Oper} {F : Fr} {M : List Blk}
end
section
variable {P : Program} {s0 : St} {n : Cx}
theorem dwp_eqB {co : Code} {F : Fr} {M M' : List Blk} {K : Cont} {k k' : Blk} (i : Nat) (h : k = k') (hi : M[i]? = some k) (hM : M.set i k' = M') (hw : dwp P s0 n co F M' K) : dwp P s0 n co F M K := by
  subst h hM
  obtain ⟨hl, he⟩ := List.getElem?_eq_some_iff.1 hi
  rw [← he, List.set_getElem_self] at hw
  exact hw
end
end Go.Proofs.Ytmpodnadoebclaa
namespace Go.Proofs.Ytmpodnadoebclaa
set_option maxRecDepth 4000
set_option linter.unusedVariables false
set_option linter.unusedSimpArgs false
open Go.RowKit
theorem mixed : Try.prog.follows .mixedOrders = true := by kernel_rfl
structure C4 where
  r : Int
  g : Int
  b : Int
  a : Int
deriving DecidableEq
def c4 (c : C4) : List Value := [.int .u8 c.r, .int .u8 c.g, .int .u8 c.b, .int .u8 c.a]
def zC4 : C4 := ⟨0, 0, 0, 0⟩
structure P2 where
  x : Int
  y : Int
deriving DecidableEq
def p2 (p : P2) : List Value := [.int .i64 p.x, .int .i64 p.y]
structure TL where
  l : List C4
  h : l.length = 64
theorem TL.ext {t u : TL} (h : t.l = u.l) : t = u := by cases t; cases u; cases h; rfl
instance : DecidableEq TL := fun t u => if h : t.l = u.l then isTrue (TL.ext h) else isFalse fun e => h (by rw [e])
abbrev tc (t : TL) : List Value := t.l.flatMap c4
abbrev tD (t : TL) : D := .val (.agg (tc t).toArray)
theorem c4_len (c : C4) : (c4 c).length = 4 := rfl
theorem tc_len (t : TL) : (tc t).length = 256 := by rw [flat_len c4_len, t.h]
theorem tc_oc (t : TL) : (tc t).all (·.oneCell') = true := flat_oc (fun _ => rfl) t.l
def nT (c : C4) : TL := ⟨List.replicate 64 c, by simp⟩
def zT : TL := nT zC4
def TL.set (t : TL) (i : Nat) (c : C4) : TL := ⟨t.l.set i c, by rw [List.length_set, t.h]⟩
def errOr (b : Bool) (n : Int) : Int := match b with | true => 0 | false => n
theorem eqA_row {α : Type} {f : List Value → List Value → Option Bool} {en : α → List Value} {sz : Nat} [DecidableEq α] (hen : ∀ a, (en a).length = sz) (hf : ∀ a b, f (en a) (en b) = some (decide (a = b))) :
    ∀ (l r : List α), l.length = r.length → eqA f sz l.length (l.flatMap en) (r.flatMap en) = some (decide (l = r))
  | [], [], _ => by simp [eqA]
  | a :: l, b :: r, h => by
    have e1 : ((a :: l).flatMap en).take sz = en a := by rw [List.flatMap_cons, ← hen a, List.take_left]
    have e2 : ((b :: r).flatMap en).take sz = en b := by rw [List.flatMap_cons, ← hen b, List.take_left]
    have e3 : ((a :: l).flatMap en).drop sz = l.flatMap en := by rw [List.flatMap_cons, ← hen a, List.drop_left]
    have e4 : ((b :: r).flatMap en).drop sz = r.flatMap en := by rw [List.flatMap_cons, ← hen b, List.drop_left]
    rw [List.length_cons, eqA, e1, e2, e3, e4, hf, eqA_row hen hf l r (by simpa using h)]
    simp only [Option.some.injEq]
    rw [Bool.eq_iff_iff]
    simp
  | [], _ :: _, h => by simp at h
  | _ :: _, [], h => by simp at h
def eqC (a b : C4) : Bool := (a.r == b.r) && ((a.g == b.g) && ((a.b == b.b) && ((a.a == b.a) && true)))
theorem eqC_iff {u v : C4} : eqC u v = decide (u = v) := by
  obtain ⟨r, g, b, a⟩ := u
  obtain ⟨r', g', b', a'⟩ := v
  rw [Bool.eq_iff_iff]
  simp [eqC]
def newT (c : C4) : Nat → TL
  | 0 => zT
  | k + 1 => (newT c k).set k c
theorem newT_succ (c : C4) (k : Nat) : newT c (k + 1) = (newT c k).set k c := rfl
theorem nT_at (c : C4) {i : Nat} (h : i < 64) : (nT c).l[i]? = some c := by
  show (List.replicate 64 c)[i]? = _
  rw [List.getElem?_replicate, if_pos h]
theorem newT_at (c : C4) : ∀ (k i : Nat), i < 64 → (newT c k).l[i]? = some (if i < k then c else zC4)
  | 0, i, h => by rw [newT, zT, nT_at _ h]; simp
  | k + 1, i, h => by
    rw [newT]
    show ((newT c k).l.set k c)[i]? = _
    rw [List.getElem?_set]
    by_cases e : k = i
    · subst e; simp [(newT c k).h, h]
    · rw [if_neg e, newT_at c k i h]
      by_cases g : i < k
      · rw [if_pos g, if_pos (by omega)]
      · rw [if_neg g, if_neg (by omega)]
theorem newT_end (c : C4) : newT c 64 = nT c := by
  apply TL.ext
  apply List.ext_getElem?
  intro i
  by_cases h : i < 64
  · rw [newT_at c 64 i h, if_pos h, nT_at c h]
  · rw [List.getElem?_eq_none (by rw [(newT c 64).h]; omega), List.getElem?_eq_none (by rw [(nT c).h]; omega)]
theorem bn_t {b : Bool} (h : (!b) = true) : b = false := by cases b <;> simp_all
theorem bn_f {b : Bool} (h : (!b) = false) : b = true := by cases b <;> simp_all
structure Dt where
  x : Int
  y : Int
  c : C4
deriving DecidableEq
def dtC (d : Dt) : List Value := [.int .i64 d.x, .int .i64 d.y, .int .u8 d.c.r, .int .u8 d.c.g, .int .u8 d.c.b, .int .u8 d.c.a]
def mayS (w h : Int) : Bool := decide (1 ≤ w) && decide (w ≤ 4) && decide (1 ≤ h) && decide (h ≤ 4)
theorem mayS_b {w h : Int} (hm : mayS w h = true) : (1 ≤ w ∧ w ≤ 4) ∧ (1 ≤ h ∧ h ≤ 4) := by
  unfold mayS at hm
  simp at hm
  omega
def onS (w h x y : Int) : Bool := decide (0 ≤ x) && decide (x < w * 8) && decide (0 ≤ y) && decide (y < h * 8)
theorem onS_iff {w h x y : Int} : onS w h x y = true ↔ (0 ≤ x ∧ x < w * 8) ∧ (0 ≤ y ∧ y < h * 8) := by
  simp [onS]
  omega
/-- which tile has the pixel, and which one it is there -/
def plN (w x y : Int) : Nat := (y / 8 * w + x / 8).toNat
def pxN (x y : Int) : Nat := (y % 8 * 8 + x % 8).toNat
theorem on_pl {w h x y : Int} (hm : mayS w h = true) (ho : onS w h x y = true) : y / 8 * w + x / 8 = (plN w x y : Int) ∧ (plN w x y : Int) < w * h ∧ y % 8 * 8 + x % 8 = (pxN x y : Int) ∧ pxN x y < 64 := by
  have hb := mayS_b hm
  have hx := onS_iff.1 ho
  have hq1 : 0 ≤ y / 8 ∧ y / 8 ≤ h - 1 := by omega
  have hq2 : 0 ≤ y / 8 * w := Int.mul_nonneg hq1.1 (by omega)
  have hq3 : y / 8 * w ≤ (h - 1) * w := Int.mul_le_mul_of_nonneg_right hq1.2 (by omega)
  have e : (h - 1) * w = w * h - w := by rw [Int.sub_mul, Int.mul_comm h w]; omega
  unfold plN pxN
  omega
def putC (w h : Int) (ts : List TL) (d : Dt) : List TL := if onS w h d.x d.y = true then ts.set (plN w d.x d.y) ((ts.getD (plN w d.x d.y) zT).set (pxN d.x d.y) d.c) else ts
def putsC (w h : Int) (ts : List TL) (l : List Dt) : List TL := l.foldl (putC w h) ts
theorem putC_len (w h : Int) (ts : List TL) (d : Dt) : (putC w h ts d).length = ts.length := by unfold putC; split <;> simp
theorem putsC_len (w h : Int) (l : List Dt) (ts : List TL) : (putsC w h ts l).length = ts.length := by
  induction l generalizing ts with
  | nil => rfl
  | cons d l ih => rw [putsC, List.foldl_cons]; exact (ih _).trans (putC_len ..)
/-- a canvas as data: its sizes, and a row of pointers to its tiles -/
abbrev cvD (w h : Int) (ds : List D) : D := .dpm [.val (.int .i64 w), .val (.int .i64 h), .slm 1 ds.length ds]
structure RowOk (ds : List D) (ts : List TL) : Prop where
  len : ds.length = ts.length
  nl : D.nlL ds = true
  oc : ds.all D.oc2 = true
  wk : ∀ (q : Nat) d t, ds[q]? = some d → ts[q]? = some t → Wk d (.dpf (tc t))
structure CvOk (w h : Int) (ts : List TL) : Prop where
  may : mayS w h = true
  len : (ts.length : Int) = w * h
theorem CvOk.le {w h : Int} {ts : List TL} (hc : CvOk w h ts) : ts.length ≤ 16 ∧ 1 ≤ ts.length := by
  have hb := mayS_b hc.may
  have h1 : w * h ≤ 4 * 4 := Int.mul_le_mul hb.1.2 hb.2.2 (by omega) (by omega)
  have h2 : 1 * 1 ≤ w * h := Int.mul_le_mul hb.1.1 hb.2.1 (by omega) (by omega)
  have := hc.len
  omega
theorem CvOk.pl {w h x y : Int} {ts : List TL} (hc : CvOk w h ts) (ho : onS w h x y = true) : plN w x y < ts.length := by
  have := on_pl hc.may ho
  have := hc.len
  omega
/-- the row of pointers into memory that stays -/
abbrev dpR (ts : List TL) : List D := ts.map fun t => .dpf (tc t)
theorem dpR_ok (ts : List TL) : RowOk (dpR ts) ts := by
  refine ⟨by simp, ?_, by simp [D.oc2], fun q d t h1 h2 => ?_⟩
  · induction ts with
    | nil => rfl
    | cons t ts ih => rw [dpR, List.map_cons, D.nlL]; exact ih
  · rw [List.getElem?_map, h2] at h1
    cases h1
    exact Wk.refl _
theorem RowOk.at {ds : List D} {ts : List TL} (h : RowOk ds ts) {q : Nat} (hq : q < ts.length) : ∃ d, ds[q]? = some d ∧ d ∈ ds ∧ d.nl = true ∧ d.oc2 = true ∧ Wk d (.dpf (tc (ts.getD q zT))) := by
  have hq2 : q < ds.length := by rw [h.len]; exact hq
  refine ⟨ds[q], List.getElem?_eq_getElem hq2, List.getElem_mem hq2, nlL_mem h.nl (List.getElem?_eq_getElem hq2), List.all_eq_true.1 h.oc _ (List.getElem_mem hq2), ?_⟩
  refine h.wk q _ _ (List.getElem?_eq_getElem hq2) ?_
  rw [List.getD_eq_getElem?_getD, List.getElem?_eq_getElem hq]
  rfl
/-- may a canvas be? -/
def rightB (w h : Int) (ts : List TL) : Bool := mayS w h && decide ((ts.length : Int) = w * h)
theorem CvOk.right {w h : Int} {ts : List TL} (hc : CvOk w h ts) : rightB w h ts = true := by
  unfold rightB
  rw [hc.may, decide_eq_true hc.len]
  rfl
theorem mul_in {w h : Int} (hm : mayS w h = true) : 1 ≤ w * h ∧ w * h ≤ 16 := by
  have hb := mayS_b hm
  have h1 : w * h ≤ 4 * 4 := Int.mul_le_mul hb.1.2 hb.2.2 (by omega) (by omega)
  have h2 : 1 * 1 ≤ w * h := Int.mul_le_mul hb.1.1 hb.2.1 (by omega) (by omega)
  omega
theorem tl_at {l : List TL} {k : Nat} (h : k < l.length) : l.getD k zT = l[k] := by rw [List.getD_eq_getElem?_getD, List.getElem?_eq_getElem h]; rfl
theorem CvOk.put {w h : Int} {ts : List TL} (hc : CvOk w h ts) (d : Dt) : CvOk w h (putC w h ts d) := ⟨hc.may, by rw [putC_len]; exact hc.len⟩
theorem CvOk.puts {w h : Int} {ts : List TL} (hc : CvOk w h ts) (l : List Dt) : CvOk w h (putsC w h ts l) := ⟨hc.may, by rw [putsC_len]; exact hc.len⟩
structure I3 where
  t : Int
  s : Int
  q : Int
deriving DecidableEq
def idc (i : I3) : List Value := [.int .u64 i.t, .int .i64 i.s, .int .u64 i.q]
def isNum (n : Int) : Bool := decide (1 ≤ n) && decide (n ≤ 4611686018427387904)
def isSt (n : Int) : Bool := decide (1 ≤ n) && decide (n ≤ 8)
def mayR (i : I3) : Bool := isNum i.t && (isSt i.s && isNum i.q)
def lessR (a b : I3) : Bool := if a.t ≠ b.t then decide (a.t < b.t) else if a.s ≠ b.s then decide (a.s < b.s) else decide (a.q < b.q)
def cmpI (x y : Int) : Int := if x < y then -1 else if y < x then 1 else 0
def orL : List Int → Int
  | [] => 0
  | a :: l => if a ≠ 0 then a else orL l
theorem orL_drop {l : List Int} {k : Nat} (h : k < l.length) : orL (l.drop k) = if l[k] ≠ 0 then l[k] else orL (l.drop (k + 1)) := by
  rw [List.drop_eq_getElem_cons h, orL]
def eqI (a b : I3) : Bool := (a.t == b.t) && ((a.s == b.s) && ((a.q == b.q) && true))
theorem eqI_iff {a b : I3} : eqI a b = true ↔ a = b := by
  obtain ⟨t, s, q⟩ := a
  obtain ⟨t', s', q'⟩ := b
  simp [eqI]
def cmpR (a b : I3) : Int := if eqI a b then 0 else orL [cmpI a.t b.t, cmpI a.s b.s, cmpI a.q b.q]
def lessC (a b : I3) : Bool := decide (cmpR a b < 0)
theorem lessC_R (a b : I3) : lessC a b = lessR a b := by
  obtain ⟨t, s, q⟩ := a
  obtain ⟨t', s', q'⟩ := b
  unfold lessC lessR cmpR
  simp only [eqI, orL, cmpI]
  by_cases h1 : t = t' <;> by_cases h2 : s = s' <;> by_cases h3 : q = q' <;> simp_all <;> (repeat' split) <;> simp_all <;> omega
def inI (n : Int) : List Value := [.int .i64 n]
def zI3 : I3 := ⟨0, 0, 0⟩
end Go.Proofs.Ytmpodnadoebclaa
namespace Go.Proofs.Ytmpodnadoebclaa
set_option maxRecDepth 4000
set_option linter.unusedVariables false
set_option linter.unusedSimpArgs false
open Go.RowKit
theorem fo77_0 : fdO Try.prog 77 0 = some 0 := by kernel_rfl
theorem fo77_1 : fdO Try.prog 77 1 = some 1 := by kernel_rfl
theorem tb3 : tyB Try.prog 3 = some (false, 1) := by kernel_rfl
theorem tb77 : tyB Try.prog 77 = some (true, 2) := by kernel_rfl
theorem zr3 : zrC Try.prog 3 = some [.int .i64 0] := by kernel_rfl
set_option maxRecDepth 4000 in
set_option maxHeartbeats 1000000 in
theorem smay_d (w h : Int) : DFun Try.prog 72 [.val (.agg #[.int .i64 w, .int .i64 h])] [] (.val (.bool (mayS w h))) [] := by
  refine zao (N := 21) 0 (by kernel_rfl) Try.func72 rfl rfl rfl (by simp only [fr0, Nat.zero_add, Nat.reduceAdd]; exact rfl) rfl fun s0 hs0 => ?_
  refine zae ?_
  refine zak 1 (by simp only [holes, List.cons_append, List.nil_append]; exact rfl) ?_
  refine zad ?_
  refine zan rfl rfl rfl (op_boxa 0 rfl (ev1 rfl) rfl) (by simp only [upd, za, zaa]; exact rfl) ?_
  refine zab rfl rfl rfl (zac (.inr rfl) (ev1 rfl)) ?_
  refine zaf ?_
  refine zae ?_
  refine zad ?_
  refine zab rfl rfl rfl (op_fa rfl fo77_0 (ev1 rfl)) ?_
  refine zab rfl rfl rfl (op_ldo rfl tb3 (ev1 rfl) rfl rfl) ?_
  refine zab rfl rfl rfl (op_geq rfl (ev1 rfl) (ev1 rfl)) ?_
  refine zab rfl rfl rfl (zac (.inl rfl) (ev1 rfl)) ?_
  refine zaj (gd_t rfl rfl rfl) rfl rfl rfl (op_fa rfl fo77_0 (ev1 rfl)) ?_
  refine zaj (gd_t rfl rfl rfl) rfl rfl rfl (op_ldo rfl tb3 (ev2 rfl) rfl rfl) ?_
  refine zaj (gd_t rfl rfl rfl) rfl rfl rfl (op_leq rfl (ev2 rfl) (ev1 rfl)) ?_
  refine zab rfl rfl rfl (op_and rfl (ev1 rfl) (ev3 rfl id)) ?_
  refine zab rfl rfl rfl (zac (.inl rfl) (ev1 rfl)) ?_
  refine zaj (gd_t rfl rfl rfl) rfl rfl rfl (op_fa rfl fo77_1 (ev1 rfl)) ?_
  refine zaj (gd_t rfl rfl rfl) rfl rfl rfl (op_ldo rfl tb3 (ev2 rfl) rfl rfl) ?_
  refine zaj (gd_t rfl rfl rfl) rfl rfl rfl (op_geq rfl (ev2 rfl) (ev1 rfl)) ?_
  refine zab rfl rfl rfl (op_and rfl (ev1 rfl) (ev3 rfl id)) ?_
  refine zab rfl rfl rfl (zac (.inl rfl) (ev1 rfl)) ?_
  refine zaj (gd_t rfl rfl rfl) rfl rfl rfl (op_fa rfl fo77_1 (ev1 rfl)) ?_
  refine zaj (gd_t rfl rfl rfl) rfl rfl rfl (op_ldo rfl tb3 (ev2 rfl) rfl rfl) ?_
  refine zaj (gd_t rfl rfl rfl) rfl rfl rfl (op_leq rfl (ev2 rfl) (ev1 rfl)) ?_
  refine zab rfl rfl rfl (op_and rfl (ev1 rfl) (ev3 rfl id)) ?_
  refine zab rfl rfl rfl (zac (.inr rfl) (ev1 rfl)) ?_
  refine zaf ?_
  refine dwp_ret ?_
  refine kend0 (rs1 rfl (rv_t rfl)) rfl ?_
  unfold mayS
  simp [Bool.and_assoc]
set_option maxRecDepth 4000 in
set_option maxHeartbeats 1000000 in
theorem spix_d (w h : Int) (hm : mayS w h = true) : DFun Try.prog 69 [.val (.agg #[.int .i64 w, .int .i64 h])] [] (.tup [.val (.int .i64 (w * 8)), .val (.int .i64 (h * 8))]) [] := by
  refine zao (N := 10) 0 (by kernel_rfl) Try.func69 rfl rfl rfl (by simp only [fr0, Nat.zero_add, Nat.reduceAdd]; exact rfl) rfl fun s0 hs0 => ?_
  refine zae ?_
  refine zak 1 (by simp only [holes, List.cons_append, List.nil_append]; exact rfl) ?_
  refine zad ?_
  refine zan rfl rfl rfl (op_boxa 0 rfl (ev1 rfl) rfl) (by simp only [upd, za, zaa]; exact rfl) ?_
  refine zab rfl rfl rfl (zac (.inr rfl) (ev1 rfl)) ?_
  refine zab rfl rfl rfl (zac (.inr rfl) (ev1 rfl)) ?_
  refine zaf ?_
  refine zae ?_
  have hb := mayS_b hm
  refine dwp_draw [([], []), ([0], []), ([], []), ([], []), ([0], []), ([], []), ([], []), ([], [])] mixed (by kernel_rfl) ?_
  refine zag rfl rfl (op_fa rfl fo77_0 (ev1 rfl)) ?_
  refine zag rfl rfl (op_ldo rfl tb3 (ev1 rfl) rfl rfl) ?_
  refine zag rfl rfl (op_mul' rfl (ev1 rfl) (ev1 rfl) (fun _ => IntWalk.i64_in _ (by omega))) ?_
  refine zag rfl rfl (op_fa rfl fo77_1 (ev1 rfl)) ?_
  refine zag rfl rfl (op_ldo rfl tb3 (ev1 rfl) rfl rfl) ?_
  refine zag rfl rfl (op_mul' rfl (ev1 rfl) (ev1 rfl) (fun _ => IntWalk.i64_in _ (by omega))) ?_
  refine zag rfl rfl (zac (.inr rfl) (ev1 rfl)) ?_
  refine zag rfl rfl (zac (.inr rfl) (ev1 rfl)) ?_
  refine lex_nil ?_
  refine dwp_ret ?_
  refine kend0 (rs2 rfl (rv_t rfl) (rv_t rfl)) rfl ?_
  rfl
set_option maxRecDepth 4000 in
set_option maxHeartbeats 1000000 in
theorem sask1_d (x y w h : Int) : DFun Try.prog 83 [.val (.int .i64 x), .val (.int .i64 y), .loc 0 0, .loc 1 0] [.flat 3 [.int .i64 (w * 8)], .flat 3 [.int .i64 (h * 8)]] (.val (.bool (onS w h x y))) [.flat 3 [.int .i64 (w * 8)], .flat 3 [.int .i64 (h * 8)]] := by
  refine zao (N := 23) 2 (by kernel_rfl) Try.func83 rfl rfl rfl (by simp only [fr0, Nat.zero_add, Nat.reduceAdd]; exact rfl) rfl fun s0 hs0 => ?_
  refine zae ?_
  refine zad ?_
  refine zab rfl rfl rfl (zac (.inr rfl) (ev1 rfl)) ?_
  refine zaf ?_
  refine zae ?_
  refine zad ?_
  refine zab rfl rfl rfl (zac (.inl rfl) (ev1 rfl)) ?_
  refine zab rfl rfl rfl (op_geq rfl (ev1 rfl) (ev1 rfl)) ?_
  refine zab rfl rfl rfl (zac (.inl rfl) (ev1 rfl)) ?_
  refine zaj (gd_t rfl rfl rfl) rfl rfl rfl (zac (.inl rfl) (ev1 rfl)) ?_
  refine zaj (gd_t rfl rfl rfl) rfl rfl rfl (op_ldo rfl tb3 (ev1 rfl) rfl rfl) ?_
  refine zaj (gd_t rfl rfl rfl) rfl rfl rfl (op_lss rfl (ev2 rfl) (ev2 rfl)) ?_
  refine zab rfl rfl rfl (op_and rfl (ev1 rfl) (ev3 rfl id)) ?_
  refine zab rfl rfl rfl (zac (.inl rfl) (ev1 rfl)) ?_
  refine zaj (gd_t rfl rfl rfl) rfl rfl rfl (zac (.inl rfl) (ev1 rfl)) ?_
  refine zaj (gd_t rfl rfl rfl) rfl rfl rfl (op_geq rfl (ev2 rfl) (ev1 rfl)) ?_
  refine zab rfl rfl rfl (op_and rfl (ev1 rfl) (ev3 rfl id)) ?_
  refine zab rfl rfl rfl (zac (.inl rfl) (ev1 rfl)) ?_
  refine zaj (gd_t rfl rfl rfl) rfl rfl rfl (zac (.inl rfl) (ev1 rfl)) ?_
  refine zaj (gd_t rfl rfl rfl) rfl rfl rfl (op_ldo rfl tb3 (ev1 rfl) rfl rfl) ?_
  refine zaj (gd_t rfl rfl rfl) rfl rfl rfl (op_lss rfl (ev2 rfl) (ev2 rfl)) ?_
  refine zab rfl rfl rfl (op_and rfl (ev1 rfl) (ev3 rfl id)) ?_
  refine zab rfl rfl rfl (zac (.inr rfl) (ev1 rfl)) ?_
  refine zaf ?_
  refine dwp_ret ?_
  refine kend [0, 1] (rs1 rfl (rv_t rfl)) rfl rfl ?_ ⟨rfl, rfl, trivial⟩
  simp [onS, Bool.and_assoc]
set_option maxRecDepth 4000 in
set_option maxHeartbeats 1000000 in
theorem splace_d (w h x y : Int) (hm : mayS w h = true) (ho : onS w h x y = true) : DFun Try.prog 71 [.val (.agg #[.int .i64 w, .int .i64 h]), .val (.int .i64 x), .val (.int .i64 y)] [] (.tup [.val (.int .i64 (plN w x y : Int)), .val (.int .i64 (pxN x y : Int))]) [] := by
  refine zao (N := 22) 0 (by kernel_rfl) Try.func71 rfl rfl rfl (by simp only [fr0, Nat.zero_add, Nat.reduceAdd]; exact rfl) rfl fun s0 hs0 => ?_
  refine zae ?_
  refine zak 1 (by simp only [holes, List.cons_append, List.nil_append]; exact rfl) ?_
  refine zad ?_
  refine zan rfl rfl rfl (op_boxa 0 rfl (ev1 rfl) rfl) (by simp only [upd, za, zaa]; exact rfl) ?_
  refine zab rfl rfl rfl (zac (.inr rfl) (ev1 rfl)) ?_
  refine zab rfl rfl rfl (zac (.inr rfl) (ev1 rfl)) ?_
  refine zaf ?_
  refine zae ?_
  have hb := mayS_b hm
  have hxy := onS_iff.1 ho
  have hpl := on_pl hm ho
  have hq1 : 0 ≤ y / 8 ∧ y / 8 ≤ 3 := by omega
  have hq2 : 0 ≤ y / 8 * w := Int.mul_nonneg hq1.1 (by omega)
  have hq3 : y / 8 * w ≤ 3 * 4 := Int.mul_le_mul hq1.2 hb.1.2 (by omega) (by omega)
  refine zad ?_
  refine zab rfl rfl rfl (zac (.inl rfl) (ev1 rfl)) ?_
  refine zab rfl rfl rfl (op_quo' rfl (ev1 rfl) (ev1 rfl) (fun _ => ⟨by omega, by omega, IntWalk.i64_in _ (by omega)⟩)) ?_
  refine zab rfl rfl rfl (op_fa rfl fo77_0 (ev1 rfl)) ?_
  refine zab rfl rfl rfl (op_ldo rfl tb3 (ev1 rfl) rfl rfl) ?_
  refine zab rfl rfl rfl (op_mul' rfl (ev1 rfl) (ev1 rfl) (fun _ => IntWalk.i64_in _ (by omega))) ?_
  refine zab rfl rfl rfl (zac (.inl rfl) (ev1 rfl)) ?_
  refine zab rfl rfl rfl (op_quo' rfl (ev1 rfl) (ev1 rfl) (fun _ => ⟨by omega, by omega, IntWalk.i64_in _ (by omega)⟩)) ?_
  refine zab rfl rfl rfl (op_add' rfl (ev1 rfl) (ev1 rfl) (fun _ => IntWalk.i64_in _ (by omega))) ?_
  refine zab rfl rfl rfl (zac (.inl rfl) (ev1 rfl)) ?_
  refine zab rfl rfl rfl (op_rem' rfl (ev1 rfl) (ev1 rfl) (fun _ => ⟨by omega, by omega⟩)) ?_
  refine zab rfl rfl rfl (op_mul' rfl (ev1 rfl) (ev1 rfl) (fun _ => IntWalk.i64_in _ (by omega))) ?_
  refine zab rfl rfl rfl (zac (.inl rfl) (ev1 rfl)) ?_
  refine zab rfl rfl rfl (op_rem' rfl (ev1 rfl) (ev1 rfl) (fun _ => ⟨by omega, by omega⟩)) ?_
  refine zab rfl rfl rfl (op_add' rfl (ev1 rfl) (ev1 rfl) (fun _ => IntWalk.i64_in _ (by omega))) ?_
  refine zab rfl rfl rfl (zac (.inr rfl) (ev1 rfl)) ?_
  refine zab rfl rfl rfl (zac (.inr rfl) (ev1 rfl)) ?_
  refine zaf ?_
  refine dwp_ret ?_
  rw [← hpl.1, ← hpl.2.2.1]
  refine kend0 (rs2 rfl (rv_t rfl) (rv_t rfl)) rfl ?_
  rfl
set_option maxRecDepth 4000 in
set_option maxHeartbeats 1000000 in
theorem sasks_d (w h : Int) (hm : mayS w h = true) : DFun Try.prog 74 [.val (.agg #[.int .i64 w, .int .i64 h])] [] (.fn (.func 83) [] [.loc 0 0, .loc 1 0]) [.flat 3 [.int .i64 (w * 8)], .flat 3 [.int .i64 (h * 8)]] := by
  refine zao (N := 11) 0 (by kernel_rfl) Try.func74 rfl rfl rfl (by simp only [fr0, Nat.zero_add, Nat.reduceAdd]; exact rfl) rfl fun s0 hs0 => ?_
  refine zae ?_
  refine zak 1 (by simp only [holes, List.cons_append, List.nil_append]; exact rfl) ?_
  refine zad ?_
  refine zan rfl rfl rfl (op_boxa 0 rfl (ev1 rfl) rfl) (by simp only [upd, za, zaa]; exact rfl) ?_
  refine zab rfl rfl rfl (zac (.inr rfl) (ev1 rfl)) ?_
  refine zaf ?_
  refine zae ?_
  refine zak 2 (by simp only [holes, List.cons_append, List.nil_append]; exact rfl) ?_
  refine zad ?_
  refine zab rfl rfl rfl (op_ldw rfl tb77 (ev1 rfl) rfl rfl) ?_
  refine zab rfl rfl rfl (zah [] [] [] rfl (ev1 rfl) (ec (ev1 rfl) en) rfl rfl (spix_d w h hm) rfl rfl rfl rfl rfl rfl) ?_
  refine zab rfl rfl rfl (zac (.inl rfl) (ev1 rfl)) ?_
  refine zab rfl rfl rfl (op_ext rfl (ev1 rfl) rfl) ?_
  refine zab rfl rfl rfl (op_ext rfl (ev1 rfl) rfl) ?_
  refine zan rfl rfl rfl (op_alloc 1 rfl zr3 rfl) (by simp only [upd, za, zaa]; exact rfl) ?_
  refine zan rfl rfl rfl (op_alloc 2 rfl zr3 rfl) (by simp only [upd, za, zaa]; exact rfl) ?_
  refine walk_s rfl rfl (op_stwi rfl tb3 (ev1 rfl) (ev1 rfl) rfl) (by simp only [upd, za, zaa]; exact rfl) ?_
  refine walk_s rfl rfl (op_stwi rfl tb3 (ev1 rfl) (ev1 rfl) rfl) (by simp only [upd, za, zaa]; exact rfl) ?_
  refine zaf ?_
  refine zae ?_
  refine zad ?_
  refine zab rfl rfl rfl (op_mkf rfl en (ec (ev1 rfl) (ec (ev1 rfl) en))) ?_
  refine zab rfl rfl rfl (zac (.inr rfl) (ev1 rfl)) ?_
  refine zaf ?_
  refine dwp_ret ?_
  refine kend [1, 2] (rs1 rfl (rv_t rfl)) rfl rfl ?_ ⟨rfl, rfl, trivial⟩
  rfl
end Go.Proofs.Ytmpodnadoebclaa
namespace Go.Proofs.Ytmpodnadoebclaa
set_option maxRecDepth 4000
set_option linter.unusedVariables false
set_option linter.unusedSimpArgs false
open Go.RowKit
theorem ar116 : arE Try.prog 116 = some (64, 4) := by kernel_rfl
theorem fo80_0 : fdO Try.prog 80 0 = some 0 := by kernel_rfl
theorem fo80_1 : fdO Try.prog 80 1 = some 2 := by kernel_rfl
theorem sl78 : slE Try.prog 78 = some (102, 1, 8) := by kernel_rfl
theorem tb102 : tyB Try.prog 102 = some (false, 1) := by kernel_rfl
theorem tb78 : tyB Try.prog 78 = some (false, 1) := by kernel_rfl
theorem tb87 : tyB Try.prog 87 = some (true, 4) := by kernel_rfl
theorem zr87 : zrC Try.prog 87 = some [.int .u8 0, .int .u8 0, .int .u8 0, .int .u8 0] := by kernel_rfl
end Go.Proofs.Ytmpodnadoebclaa
namespace Go.Proofs.Ytmpodnadoebclaa
set_option maxRecDepth 4000
set_option linter.unusedVariables false
set_option linter.unusedSimpArgs false
open Go.RowKit
theorem fl77 : fdL Try.prog 77 = some [(0, 1), (1, 1)] := by kernel_rfl
theorem fl80 : fdL Try.prog 80 = some [(0, 2), (2, 1)] := by kernel_rfl
theorem fl87 : fdL Try.prog 87 = some [(0, 1), (1, 1), (2, 1), (3, 1)] := by kernel_rfl
theorem tb116 : tyB Try.prog 116 = some (true, 256) := by kernel_rfl
theorem zr102 : zrC Try.prog 102 = some [.pointer none] := by kernel_rfl
theorem zr116 : zrC Try.prog 116 = some (tc zT) := by kernel_rfl
theorem zr77 : zrC Try.prog 77 = some [.int .i64 0, .int .i64 0] := by kernel_rfl
theorem zr80 : zrC Try.prog 80 = some [.int .i64 0, .int .i64 0, .slice none 0 0] := by kernel_rfl
set_option maxRecDepth 4000 in
set_option maxHeartbeats 1000000 in
theorem new_d (c : C4) : DFun Try.prog 73 [.val (.agg (c4 c).toArray)] [] (tD (nT c)) [] := by
  refine zao (N := 13) 0 (by kernel_rfl) Try.func73 rfl rfl rfl (by simp only [fr0, Nat.zero_add, Nat.reduceAdd]; exact rfl) rfl fun s0 hs0 => ?_
  refine zae ?_
  refine zak 2 (by simp only [holes, List.cons_append, List.nil_append]; exact rfl) ?_
  refine zad ?_
  refine zan rfl rfl rfl (op_boxa 0 rfl (ev1 rfl) rfl) (by simp only [upd, za, zaa]; exact rfl) ?_
  refine zan rfl rfl rfl (op_alloc 1 rfl zr116 rfl) (by simp only [upd, za, zaa]; exact rfl) ?_
  refine zaf ?_
  refine zae ?_
  refine zak 1 (by simp only [holes, List.cons_append, List.nil_append]; exact rfl) ?_
  refine zad ?_
  refine zan rfl rfl rfl (op_alloc 2 rfl zr116 rfl) (by simp only [upd, za, zaa]; exact rfl) ?_
  refine zaf ?_
  refine zae ?_
  refine zae ?_
  refine zad ?_
  refine zab rfl rfl rfl (zac (.inl rfl) (ev1 rfl)) ?_
  refine zaf ?_
  refine zam ?_
  refine dwp_loopS ⟨hs0, rfl⟩ (α := Nat) (fun k => [(5, .val (.int .i64 (k : Int)))]) [(1, _), (2, _), (3, _)] (fun k => [(2, .flat 116 (tc (newT c k)))]) [_, _, .hole] (fun k => k ≤ 64) (fun k => 64 - k) 0 [0, 1, 2] (by simp) rfl ⟨rfl, rfl, rfl, trivial⟩ ⟨rfl, trivial⟩ ⟨rfl, rfl, rfl, trivial⟩ ?_
  intro k hx
  simp only [upd, za, zaa, List.cons_append, List.nil_append]
  have hk := hx
  refine zae ?_
  refine zad ?_
  refine zab rfl rfl rfl (op_lss rfl (ev1 rfl) (ev1 rfl)) ?_
  refine zaf ?_
  refine zae ?_
  refine dwp_cond rfl (fun c1 => ?_) (fun c1 => ?_)
  · try simp only [decide_eq_true_eq, decide_eq_false_iff_not, beq_iff_eq, bne_iff_ne, beq_eq_false_iff_ne, bne_eq_false_iff_eq, Bool.not_eq_true', Bool.not_eq_false', Bool.and_eq_true, Bool.or_eq_true, Bool.or_eq_false_iff, ne_eq, Decidable.not_not, Int.not_lt, Int.not_le] at c1
    refine zal ?_
    refine zae ?_
    refine zam ?_
    refine zae ?_
    refine zad ?_
    refine zab rfl rfl rfl (zac (.inl rfl) (ev1 rfl)) ?_
    refine zab rfl rfl rfl (zac (.inr rfl) (ev1 rfl)) ?_
    refine zaf ?_
    refine zad ?_
    refine zab rfl rfl rfl (zac (.inl rfl) (ev1 rfl)) ?_
    refine zab rfl rfl rfl (op_ldw rfl tb87 (ev1 rfl) rfl rfl) ?_
    refine zab rfl rfl rfl (op_ixfr (j := k) rfl ar116 (ev1 rfl) (ev1 rfl) (fun _ => by omega) (fun _ => by omega)) ?_
    refine walk_s rfl rfl (op_stfr (q := c) rfl tb87 (ev1 rfl) (ev1 rfl) rfl rfl rfl (fun _ => rfl) (fun _ => by rw [TL.h]; omega)) (by simp only [upd, za, zaa]; exact rfl) ?_
    refine zaf ?_
    refine zad ?_
    refine zab rfl rfl rfl (op_add' rfl (ev1 rfl) (ev1 rfl) (fun _ => IntWalk.i64_in _ (by omega))) ?_
    refine zab rfl rfl rfl (zac (.inl rfl) (ev1 rfl)) ?_
    refine zaf ?_
    refine ⟨k + 1, [0, 1, 2], by omega, by simp only []; omega, rfl, ⟨rfl, rfl, rfl, rfl, trivial⟩, ⟨rfl, rfl, by rw [newT_succ]; rfl, trivial⟩⟩
  · try simp only [decide_eq_true_eq, decide_eq_false_iff_not, beq_iff_eq, bne_iff_ne, beq_eq_false_iff_ne, bne_eq_false_iff_eq, Bool.not_eq_true', Bool.not_eq_false', Bool.and_eq_true, Bool.or_eq_true, Bool.or_eq_false_iff, ne_eq, Decidable.not_not, Int.not_lt, Int.not_le] at c1
    refine dwp_exit ?_
    refine zae ?_
    refine zad ?_
    refine zab rfl rfl rfl (op_ldw rfl tb116 (ev1 rfl) rfl (tc_len _)) ?_
    refine walk_s rfl rfl (op_stwa rfl tb116 (ev1 rfl) (ev1 rfl) rfl (tc_len _) (tc_oc _) ((tc_len _).trans (tc_len _).symm)) (by simp only [upd, za, zaa]; exact rfl) ?_
    refine zaf ?_
    refine dwp_ret ?_
    refine kend0 (rs1 rfl (rv_w tb116 rfl rfl (tc_len _))) rfl ?_
    rw [show k = 64 by omega, newT_end]
def pinsR (A : List Nat) (ts : List TL) : List D := (A.zip ts).map fun p => .pin p.1 (tc p.2)
theorem pinsR_len {A : List Nat} {ts : List TL} (h : A.length = ts.length) : (pinsR A ts).length = ts.length := by simp [pinsR, h]
theorem pinsR_at {A : List Nat} {ts : List TL} {q : Nat} {d : D} (hd : (pinsR A ts)[q]? = some d) : ∃ b t, A[q]? = some b ∧ ts[q]? = some t ∧ d = .pin b (tc t) := by
  unfold pinsR at hd
  rw [List.getElem?_map] at hd
  cases e : (A.zip ts)[q]? with
  | none => rw [e] at hd; cases hd
  | some p =>
    rw [e] at hd
    obtain ⟨h1, h2⟩ := List.getElem?_zip_eq_some.1 e
    cases hd
    exact ⟨p.1, p.2, h1, h2, rfl⟩
theorem nlL_all {l : List D} (h : ∀ d ∈ l, d.nl = true) : D.nlL l = true := by
  induction l with
  | nil => rfl
  | cons d l ih => rw [D.nlL, h d (by simp), ih fun e he => h e (by simp [he])]; rfl
theorem pinsR_ok {A : List Nat} {ts : List TL} (h : A.length = ts.length) : RowOk (pinsR A ts) ts := by
  have hm : ∀ d ∈ pinsR A ts, ∃ b t, d = .pin b (tc t) := fun d hd => by
    obtain ⟨q, hq⟩ := List.getElem?_of_mem hd
    obtain ⟨b, t, _, _, e⟩ := pinsR_at hq
    exact ⟨b, t, e⟩
  refine ⟨pinsR_len h, nlL_all fun d hd => ?_, List.all_eq_true.2 fun d hd => ?_, fun q d t h1 h2 => ?_⟩
  · obtain ⟨b, t, rfl⟩ := hm d hd; rfl
  · obtain ⟨b, t, rfl⟩ := hm d hd; rfl
  · obtain ⟨b, u, h3, h4, rfl⟩ := pinsR_at h1
    rw [h2] at h4
    cases h4
    exact Wk.pin _ _
theorem pinsR_add {A : List Nat} {ts : List TL} (h : A.length = ts.length) (b : Nat) (t : TL) : pinsR (A ++ [b]) (ts ++ [t]) = pinsR A ts ++ [.pin b (tc t)] := by
  unfold pinsR
  rw [List.zip_append h, List.map_append]
  rfl
theorem pinsR_rep (A : List Nat) (b : Nat) (t : TL) : pinsR A (List.replicate A.length t) ++ List.flatMap D.cs [.pin b (tc t)] = pinsR (A ++ [b]) (List.replicate (A ++ [b]).length t) := by
  rw [List.length_append, show A.length + [b].length = A.length + 1 from rfl, List.replicate_succ', pinsR_add (by simp)]
  rfl
def NewCv (I : Nat → Prop) (w h : Int) (ts : List TL) (d : D) : Prop := ∃ A : List Nat, A.length = ts.length ∧ (∀ b ∈ A, ¬ I b) ∧ d = cvD w h (pinsR A ts)
def Okd (Q : D → Prop) (d : D) : Prop := ∃ e, Q e ∧ d = .tup [e, .val (.int .i64 0)]
set_option maxRecDepth 4000 in
set_option maxHeartbeats 1000000 in
theorem cnew_i (w h : Int) (n : Nat) (hm : mayS w h = true) (hn : w * h = (n : Int)) : DFunI Try.prog 49 [.val (.int .i64 w), .val (.int .i64 h)] [] (fun I => Okd (NewCv I w h (List.replicate n (nT zC4)))) [] := by
  have hb := mul_in hm
  refine dcallsI_go (N := 36) 0 (by kernel_rfl) Try.func49 rfl rfl rfl (by simp only [fr0, Nat.zero_add, Nat.reduceAdd]; exact rfl) rfl fun s0 hs0 => ?_
  refine zae ?_
  refine zad ?_
  refine zab rfl rfl rfl (zac (.inr rfl) (ev1 rfl)) ?_
  refine zab rfl rfl rfl (zac (.inr rfl) (ev1 rfl)) ?_
  refine zaf ?_
  refine zae ?_
  refine zak 1 (by simp only [holes, List.cons_append, List.nil_append]; exact rfl) ?_
  refine zad ?_
  refine zab rfl rfl rfl (zac (.inl rfl) (ev1 rfl)) ?_
  refine zab rfl rfl rfl (zac (.inl rfl) (ev1 rfl)) ?_
  refine zab rfl rfl rfl (op_build (ps := [(0, .tmp 9), (1, .tmp 10)]) rfl fl77 zr77 (vc (ev1 rfl) (vc (ev1 rfl) vn)) rfl rfl) ?_
  refine zan rfl rfl rfl (op_alloc 0 rfl zr77 rfl) (by simp only [upd, za, zaa]; exact rfl) ?_
  refine walk_s rfl rfl (op_stwa rfl tb77 (ev1 rfl) (ev1 rfl) rfl rfl rfl rfl) (by simp only [upd, za, zaa]; exact rfl) ?_
  refine zaf ?_
  refine zae ?_
  refine zae ?_
  refine zad ?_
  refine zab rfl rfl rfl (op_ldw rfl tb77 (ev1 rfl) rfl rfl) ?_
  refine zab rfl rfl rfl (zah [] [] [] rfl (ev1 rfl) (ec (ev1 rfl) en) rfl rfl (smay_d _ _) rfl rfl rfl rfl rfl rfl) ?_
  refine zab rfl rfl rfl (op_not rfl (ev1 rfl)) ?_
  refine zaf ?_
  refine dwp_if_f rfl (by rw [hm]; rfl) ?_
  refine zal ?_
  refine zae ?_
  refine zak 1 (by simp only [holes, List.cons_append, List.nil_append]; exact rfl) ?_
  refine zad ?_
  refine zab rfl rfl rfl (op_ldw rfl tb77 (ev1 rfl) rfl rfl) ?_
  refine zab rfl rfl rfl (op_build (ps := [(0, .tmp 15)]) rfl fl80 zr80 (vc (ev1 rfl) vn) rfl rfl) ?_
  refine zan rfl rfl rfl (op_boxa 1 rfl (ev1 rfl) rfl) (by simp only [upd, za, zaa]; exact rfl) ?_
  refine zab rfl rfl rfl (zac (.inr rfl) (ev1 rfl)) ?_
  refine zaf ?_
  refine zae ?_
  refine zae ?_
  refine dwp_reb 1 reb_mix rfl rfl (by simp only [List.cons_append, List.nil_append, za, zaa, List.map]; exact rfl) ?_
  refine dwp_adoptc (l' := [.val (.int .i64 w), .val (.int .i64 h), .arr 2]) 1 2 102 1 rfl rfl rfl rfl (by simp only [List.cons_append, List.nil_append, za, zaa]; exact rfl) ?_
  refine zad ?_
  refine zab rfl rfl rfl (zac (.inl rfl) (ev1 rfl)) ?_
  refine zab rfl rfl rfl (zac (.inl rfl) (ev1 rfl)) ?_
  refine zab rfl rfl rfl (op_mul' rfl (ev1 rfl) (ev1 rfl) (fun _ => IntWalk.i64_in _ (by omega))) ?_
  refine zab rfl rfl rfl (zac (.inl rfl) (ev1 rfl)) ?_
  refine zaf ?_
  refine zam ?_
  refine dwp_loopS ⟨hs0, rfl⟩ (α := List Nat) (fun A => [(21, .val (.int .i64 (A.length : Int)))]) [(7, _), (20, _)] (fun A => [(2, .arx 102 1 A.length (pinsR A (List.replicate A.length (nT zC4))))]) [_, _, .hole] (fun A => A.length ≤ n ∧ ∀ b ∈ A, ¬ s0.I b) (fun A => n - A.length) [] [0, 1, 2] (⟨Nat.zero_le _, fun b hb => by simp at hb⟩) rfl ⟨rfl, rfl, trivial⟩ ⟨rfl, trivial⟩ ⟨rfl, rfl, rfl, trivial⟩ ?_
  intro A hx
  simp only [upd, za, zaa, List.cons_append, List.nil_append]
  obtain ⟨hA, hAI⟩ := hx
  refine zae ?_
  refine zad ?_
  refine zab rfl rfl rfl (op_lss rfl (ev1 rfl) (ev1 rfl)) ?_
  refine zaf ?_
  refine zae ?_
  refine dwp_cond rfl (fun c2 => ?_) (fun c2 => ?_)
  · try simp only [decide_eq_true_eq, decide_eq_false_iff_not, beq_iff_eq, bne_iff_ne, beq_eq_false_iff_ne, bne_eq_false_iff_eq, Bool.not_eq_true', Bool.not_eq_false', Bool.and_eq_true, Bool.or_eq_true, Bool.or_eq_false_iff, ne_eq, Decidable.not_not, Int.not_lt, Int.not_le] at c2
    refine zal ?_
    refine zae ?_
    refine zam ?_
    refine zae ?_
    refine zak 1 (by simp only [holes, List.cons_append, List.nil_append]; exact rfl) ?_
    refine zad ?_
    refine zab rfl rfl rfl (op_build0 rfl fl87 zr87) ?_
    refine zab rfl rfl rfl (zah [] [] [] rfl (ev1 rfl) (ec (ev1 rfl) en) rfl rfl (new_d zC4) rfl rfl rfl rfl rfl rfl) ?_
    refine zan rfl rfl rfl (op_alloc 3 rfl zr116 rfl) (by simp only [upd, za, zaa]; exact rfl) ?_
    refine walk_s rfl rfl (op_stwa rfl tb116 (ev1 rfl) (ev1 rfl) rfl (tc_len _) (tc_oc _) ((tc_len _).trans (tc_len _).symm)) (by simp only [upd, za, zaa]; exact rfl) ?_
    refine zaf ?_
    refine dwp_pin 8 rfl rfl (by simp only [za, zaa]; exact rfl) fun b hb => ?_
    refine zak 1 (by simp only [holes, List.cons_append, List.nil_append]; exact rfl) ?_
    refine zad ?_
    refine zab rfl rfl rfl (zac (.inl rfl) (ev1 rfl)) ?_
    refine zab rfl rfl rfl (zac (.inl rfl) (ev1 rfl)) ?_
    refine zab rfl rfl rfl (op_nc rfl (ev1 rfl) (fun s v h => by cases h; exact ⟨_, rfl⟩)) ?_
    refine zab rfl rfl rfl (op_fa rfl fo80_1 (ev1 rfl)) ?_
    refine zab rfl rfl rfl (op_ldm rfl tb78 (ev1 rfl) rfl rfl) ?_
    refine zab rfl rfl rfl (op_bsr (ps := [(0, .tmp 8)]) rfl sl78 zr102 rfl (ec (ev1 rfl) en) rfl rfl rfl (by rfl) rfl (by decide) (by decide)) ?_
    refine zan rfl rfl rfl (op_appr (j := 4) rfl sl78 zr102 rfl (ev1 rfl) (ev1 rfl) rfl rfl (rfl) (fun _ => ⟨by omega, by omega⟩)) (by simp only [upd, za, zaa]; exact rfl) ?_
    refine zab rfl rfl rfl (op_nc rfl (ev1 rfl) (fun s v h => by cases h; exact ⟨_, rfl⟩)) ?_
    refine zab rfl rfl rfl (op_fa rfl fo80_1 (ev1 rfl)) ?_
    refine walk_s rfl rfl (op_stm rfl tb78 (ev1 rfl) (ev1 rfl) (fun s v h => by cases h <;> exact ⟨rfl, rfl⟩) rfl (by first | decide | exact Nat.le_of_ble_eq_true rfl | simp)) (by simp only [upd, za, zaa]; exact rfl) ?_
    refine zaf ?_
    refine zad ?_
    refine zab rfl rfl rfl (op_add' rfl (ev1 rfl) (ev1 rfl) (fun _ => IntWalk.i64_in _ (by omega))) ?_
    refine zab rfl rfl rfl (zac (.inl rfl) (ev1 rfl)) ?_
    refine zaf ?_
    refine ⟨A ++ [b], [0, 1, 4], ⟨by simp; omega, fun c hc => by
    rcases List.mem_append.1 hc with hc | hc
    · exact hAI c hc
    · simp at hc; subst hc; exact hb⟩, by simp; omega, rfl, ⟨by rw [List.length_append]; rfl, rfl, rfl, trivial⟩, ⟨rfl, rfl, arxn_fits (by rw [pinsR_rep]; exact (pinsR_ok (by simp)).nl) (by simp) (pinsR_rep _ _ _), trivial⟩⟩
  · try simp only [decide_eq_true_eq, decide_eq_false_iff_not, beq_iff_eq, bne_iff_ne, beq_eq_false_iff_ne, bne_eq_false_iff_eq, Bool.not_eq_true', Bool.not_eq_false', Bool.and_eq_true, Bool.or_eq_true, Bool.or_eq_false_iff, ne_eq, Decidable.not_not, Int.not_lt, Int.not_le] at c2
    refine dwp_exit ?_
    refine zae ?_
    refine zad ?_
    refine zab rfl rfl rfl (zac (.inl rfl) (ev1 rfl)) ?_
    refine zab rfl rfl rfl (zac (.inr rfl) (ev1 rfl)) ?_
    refine zab rfl rfl rfl (zac (.inr rfl) (ev1 rfl)) ?_
    refine zaf ?_
    refine dwp_givem 1 2 ((pinsR_ok (by simp)).nl) rfl rfl rfl (by simp only [za, zaa]; exact rfl) ?_
    refine dwp_ret ?_
    refine kendI (post := fun I => Okd (NewCv I w h (List.replicate n (nT zC4)))) (I := s0.I) (Mo := []) [] (rs2 rfl (rv_t rfl) (rv_t rfl)) rfl rfl ?_ trivial
    obtain rfl : A.length = n := by omega
    exact ⟨_, ⟨A, by simp, hAI, rfl⟩, by rw [cvD, pinsR_len (by simp), List.length_replicate]; rfl⟩
abbrev tlM (l : List TL) : List Mem := l.map fun t => .flat 116 (tc t)
abbrev ptN (f n : Nat) : List D := (List.range n).map fun k => .floc f k 0
theorem ptN_add (f n : Nat) : ptN f n ++ [.floc f n 0] = ptN f (n + 1) := by rw [ptN, ptN, List.range_succ, List.map_append]; rfl
theorem tlM_flat {l : List TL} : ∀ (k : Nat) B, (tlM l)[k]? = some B → ∃ T L, B = Mem.flat T L := fun k B h => by
  rw [List.getElem?_map] at h
  cases e : l[k]? with
  | none => rw [e] at h; cases h
  | some t => rw [e] at h; cases h; exact ⟨_, _, rfl⟩
end Go.Proofs.Ytmpodnadoebclaa
namespace Go.Proofs.Ytmpodnadoebclaa
set_option maxRecDepth 4000
set_option linter.unusedVariables false
set_option linter.unusedSimpArgs false
open Go.RowKit
theorem fo125_0 : fdO Try.prog 125 0 = some 0 := by kernel_rfl
theorem fo125_1 : fdO Try.prog 125 1 = some 2 := by kernel_rfl
theorem fo125_2 : fdO Try.prog 125 2 = some 3 := by kernel_rfl
theorem fo125_3 : fdO Try.prog 125 3 = some 4 := by kernel_rfl
theorem fo93_0 : fdO Try.prog 93 0 = some 0 := by kernel_rfl
theorem fo93_1 : fdO Try.prog 93 1 = some 1 := by kernel_rfl
theorem fo93_2 : fdO Try.prog 93 2 = some 2 := by kernel_rfl
theorem it3 : intT Try.prog 3 = some .i64 := by kernel_rfl
theorem mp123 : mpT Try.prog 123 = some (3, 102) := by kernel_rfl
theorem pt102 : ptT Try.prog 102 = some 116 := by kernel_rfl
theorem tb120 : tyB Try.prog 120 = some (false, 1) := by kernel_rfl
theorem tb123 : tyB Try.prog 123 = some (false, 1) := by kernel_rfl
theorem zv102 : zrV Try.prog 102 = some (.pointer none) := by kernel_rfl
def dotS (w h : Int) (ts : List TL) (s : List Nat × List TL) (d : Dt) : List Nat × List TL :=
  if onS w h d.x d.y = true then
    (if plN w d.x d.y ∈ s.1 then (s.1, s.2.set (s.1.idxOf (plN w d.x d.y)) ((s.2.getD (s.1.idxOf (plN w d.x d.y)) zT).set (pxN d.x d.y) d.c))
    else (s.1 ++ [plN w d.x d.y], s.2 ++ [(ts.getD (plN w d.x d.y) zT).set (pxN d.x d.y) d.c]))
  else s
theorem dotS_off {w h : Int} {ts : List TL} {s : List Nat × List TL} {d : Dt} (ho : onS w h d.x d.y = false) : dotS w h ts s d = s := by unfold dotS; rw [if_neg (by rw [ho]; decide)]
theorem dotS_in {w h : Int} {ts : List TL} {s : List Nat × List TL} {d : Dt} (ho : onS w h d.x d.y = true) (hi : plN w d.x d.y ∈ s.1) : dotS w h ts s d = (s.1, s.2.set (s.1.idxOf (plN w d.x d.y)) ((s.2.getD (s.1.idxOf (plN w d.x d.y)) zT).set (pxN d.x d.y) d.c)) := by unfold dotS; rw [if_pos ho, if_pos hi]
theorem dotS_new {w h : Int} {ts : List TL} {s : List Nat × List TL} {d : Dt} (ho : onS w h d.x d.y = true) (hi : plN w d.x d.y ∉ s.1) : dotS w h ts s d = (s.1 ++ [plN w d.x d.y], s.2 ++ [(ts.getD (plN w d.x d.y) zT).set (pxN d.x d.y) d.c]) := by unfold dotS; rw [if_pos ho, if_neg hi]
structure DotOk (ts us : List TL) (s : List Nat × List TL) : Prop where
  len : s.2.length = s.1.length
  nd : s.1.Nodup
  lt : ∀ p ∈ s.1, p < ts.length
  ul : us.length = ts.length
  val : ∀ (i p : Nat), s.1[i]? = some p → s.2[i]? = us[p]?
  oth : ∀ (p : Nat), p ∉ s.1 → us[p]? = ts[p]?
theorem dotOk_nil (ts : List TL) : DotOk ts ts ([], []) := ⟨rfl, List.nodup_nil, fun p hp => by simp at hp, rfl, fun i p h => by simp at h, fun p _ => rfl⟩
theorem idx_at {ks : List Nat} {p : Nat} (h : p ∈ ks) : ks[ks.idxOf p]? = some p ∧ ks.idxOf p < ks.length := by
  have h1 := List.idxOf_lt_length_of_mem h
  exact ⟨by rw [List.getElem?_eq_getElem h1, List.getElem_idxOf h1], h1⟩
theorem idx_of {ks : List Nat} (hn : ks.Nodup) {i p : Nat} (h : ks[i]? = some p) : ks.idxOf p = i := by
  have hm : p ∈ ks := List.mem_of_getElem? h
  obtain ⟨h1, h2⟩ := idx_at hm
  have hi := (List.getElem?_eq_some_iff.1 h).1
  exact ((List.getElem?_inj h2 hn).1 (h1.trans h.symm))
theorem DotOk.step {w h : Int} {ts us : List TL} {s : List Nat × List TL} (hc : CvOk w h ts) (hs : DotOk ts us s) (d : Dt) : DotOk ts (putC w h us d) (dotS w h ts s d) := by
  obtain ⟨ks, es⟩ := s
  obtain ⟨h1, h2, h3, h4, h5, h6⟩ := hs
  dsimp only at h1 h2 h3 h4 h5 h6
  cases ho : onS w h d.x d.y with
  | false =>
    rw [dotS_off ho, show putC w h us d = us by rw [putC, if_neg (by rw [ho]; decide)]]
    exact ⟨h1, h2, h3, h4, h5, h6⟩
  | true =>
    have hp := hc.pl ho
    rw [show putC w h us d = us.set (plN w d.x d.y) ((us.getD (plN w d.x d.y) zT).set (pxN d.x d.y) d.c) by rw [putC, if_pos ho]]
    by_cases hi : plN w d.x d.y ∈ ks
    · rw [dotS_in ho hi]
      dsimp only
      generalize plN w d.x d.y = p at hp hi ⊢
      obtain ⟨g1, g2⟩ := idx_at hi
      have e : es.getD (ks.idxOf p) zT = us.getD p zT := by rw [List.getD_eq_getElem?_getD, List.getD_eq_getElem?_getD, h5 _ p g1]
      rw [e]
      refine ⟨by simp [h1], h2, h3, by simp [h4], fun j r hj => ?_, fun r hr => ?_⟩
      · by_cases ej : ks.idxOf p = j
        · subst ej
          rw [g1] at hj
          cases hj
          rw [List.getElem?_set_self (by omega), List.getElem?_set_self (by omega)]
        · have er : p ≠ r := fun er => ej (by subst er; exact idx_of h2 hj)
          rw [List.getElem?_set_ne ej, List.getElem?_set_ne er]
          exact h5 j r hj
      · have er : p ≠ r := fun er => hr (by subst er; exact hi)
        rw [List.getElem?_set_ne er]
        exact h6 r hr
    · rw [dotS_new ho hi]
      dsimp only
      generalize plN w d.x d.y = p at hp hi ⊢
      have e : us.getD p zT = ts.getD p zT := by rw [List.getD_eq_getElem?_getD, List.getD_eq_getElem?_getD, h6 p hi]
      rw [e]
      refine ⟨by simp [h1], ?_, fun r hr => ?_, by simp [h4], fun j r hj => ?_, fun r hr => ?_⟩
      · rw [List.nodup_append]
        exact ⟨h2, by simp, fun a ha b hb => by simp at hb; subst hb; exact fun e => hi (e ▸ ha)⟩
      · rcases List.mem_append.1 hr with hr | hr
        · exact h3 r hr
        · simp at hr; subst hr; exact hp
      · by_cases hj2 : j < ks.length
        · rw [List.getElem?_append_left hj2] at hj
          rw [List.getElem?_append_left (by omega)]
          have er : p ≠ r := fun er => hi (by subst er; exact List.mem_of_getElem? hj)
          rw [List.getElem?_set_ne er]
          exact h5 j r hj
        · rw [List.getElem?_append_right (by omega)] at hj
          have hj3 : j - ks.length = 0 := by have := (List.getElem?_eq_some_iff.1 hj).1; simp at this; omega
          rw [hj3] at hj
          simp at hj
          subst hj
          rw [List.getElem?_append_right (by omega), h1, hj3, List.getElem?_set_self (by omega)]
          rfl
      · have er : p ≠ r := fun er => hr (by subst er; simp)
        rw [List.getElem?_set_ne er]
        exact h6 r fun hr2 => hr (by simp [hr2])
def dotsS (w h : Int) (ts : List TL) (l : List Dt) : List Nat × List TL := l.foldl (dotS w h ts) ([], [])
theorem dotsS_take {w h : Int} {ts : List TL} {l : List Dt} {k : Nat} (hk : k < l.length) : dotsS w h ts (l.take (k + 1)) = dotS w h ts (dotsS w h ts (l.take k)) l[k] := by
  rw [List.take_succ_eq_append_getElem hk, dotsS, List.foldl_append]; rfl
theorem dotsS_ok {w h : Int} {ts : List TL} (hc : CvOk w h ts) : ∀ (l : List Dt) (us : List TL) (s : List Nat × List TL), DotOk ts us s → DotOk ts (putsC w h us l) (l.foldl (dotS w h ts) s)
  | [], us, s, hs => hs
  | d :: l, us, s, hs => dotsS_ok hc l _ _ (hs.step hc d)
def rowS (f : Nat) (ts es : List TL) (ds : List D) (ks seen : List Nat) : List D := (List.range ds.length).map fun q => if q ∈ ks ∧ ks.idxOf q ∈ seen ∧ es[ks.idxOf q]? ≠ ts[q]? then .floc f (ks.idxOf q) 0 else ds.getD q .junk
theorem rowS_len (f : Nat) (ts es : List TL) (ds : List D) (ks seen : List Nat) : (rowS f ts es ds ks seen).length = ds.length := by simp [rowS]
theorem rowS_get {f : Nat} {ts es : List TL} {ds : List D} {ks seen : List Nat} {q : Nat} (hq : q < ds.length) : (rowS f ts es ds ks seen)[q]? = some (if q ∈ ks ∧ ks.idxOf q ∈ seen ∧ es[ks.idxOf q]? ≠ ts[q]? then .floc f (ks.idxOf q) 0 else ds.getD q .junk) := by
  unfold rowS
  rw [List.getElem?_map, List.getElem?_range hq]; rfl
theorem dsD {ds : List D} {q : Nat} (hq : q < ds.length) : ds[q]? = some (ds.getD q .junk) := by rw [List.getD_eq_getElem?_getD, List.getElem?_eq_getElem hq]; rfl
theorem rowS_nil (f : Nat) (ts es : List TL) (ds : List D) (ks : List Nat) : rowS f ts es ds ks [] = ds := by
  apply List.ext_getElem?
  intro q
  by_cases hq : q < ds.length
  · rw [rowS_get hq, if_neg (fun h => by simp at h), dsD hq]
  · rw [List.getElem?_eq_none (by rw [rowS_len]; omega), List.getElem?_eq_none (by omega)]
theorem rowS_at {f : Nat} {ts es : List TL} {ds : List D} {ks seen : List Nat} {p q : Nat} (hn : ks.Nodup) (hp : ks[p]? = some q) (hs : p ∉ seen) (hq : q < ds.length) : (rowS f ts es ds ks seen)[q]? = ds[q]? := by
  rw [rowS_get hq, if_neg (fun h => hs (by rw [← idx_of hn hp]; exact h.2.1)), dsD hq]
theorem rowS_step {f : Nat} {ts es : List TL} {ds : List D} {ks seen : List Nat} {p q : Nat} (hn : ks.Nodup) (hp : ks[p]? = some q) (hs : p ∉ seen) (hq : q < ds.length) :
    rowS f ts es ds ks (seen ++ [p]) = if es[p]? ≠ ts[q]? then (rowS f ts es ds ks seen).set q (.floc f p 0) else rowS f ts es ds ks seen := by
  have hi := idx_of hn hp
  apply List.ext_getElem?
  intro r
  by_cases hr : r < ds.length
  · by_cases er : q = r
    · subst er
      have hm : q ∈ ks := List.mem_of_getElem? hp
      rw [rowS_get hr, hi]
      by_cases hne : es[p]? ≠ ts[q]?
      · rw [if_pos hne, if_pos ⟨hm, by simp, hne⟩, List.getElem?_set_self (by rw [rowS_len]; exact hr)]
      · rw [if_neg hne, if_neg (fun h => hne h.2.2), rowS_get hr, hi, if_neg (fun h => hne h.2.2)]
    · have e : (if es[p]? ≠ ts[q]? then (rowS f ts es ds ks seen).set q (.floc f p 0) else rowS f ts es ds ks seen)[r]? = (rowS f ts es ds ks seen)[r]? := by
        split
        · rw [List.getElem?_set_ne er]
        · rfl
      rw [e, rowS_get hr, rowS_get hr]
      congr 1
      have hiff : (r ∈ ks ∧ ks.idxOf r ∈ seen ++ [p] ∧ es[ks.idxOf r]? ≠ ts[r]?) ↔ (r ∈ ks ∧ ks.idxOf r ∈ seen ∧ es[ks.idxOf r]? ≠ ts[r]?) := by
        refine ⟨fun ⟨h1, h2, h3⟩ => ⟨h1, ?_, h3⟩, fun ⟨h1, h2, h3⟩ => ⟨h1, by simp [h2], h3⟩⟩
        rcases List.mem_append.1 h2 with h2 | h2
        · exact h2
        · exfalso
          simp at h2
          have := (idx_at h1).1
          rw [h2, hp] at this
          exact er (Option.some.inj this)
      simp only [hiff]
  · rw [List.getElem?_eq_none (by rw [rowS_len]; omega), List.getElem?_eq_none (by split <;> simp [rowS_len] <;> omega)]
structure RowP (I : Nat → Prop) (ds ps : List D) (ts us : List TL) : Prop where
  len : ps.length = ds.length
  eq : ∀ (q : Nat), us[q]? = ts[q]? → ps[q]? = ds[q]?
  ne : ∀ (q : Nat) t, us[q]? = some t → ts[q]? ≠ some t → ∃ b, ¬ I b ∧ ps[q]? = some (.pin b (tc t))
theorem frz_nl {f : Nat} {ad : Nat → Nat} {Bs : List Mem} {d : D} (h : d.nl = true) : frz f ad Bs d = d := by
  cases d <;> first | rfl | (cases h)
theorem rowS_frz {I : Nat → Prop} {f : Nat} {ad : Nat → Nat} {ts es us : List TL} {ds : List D} {ks seen : List Nat} (hr : RowOk ds ts) (hs : DotOk ts us (ks, es)) (hall : ∀ p, p < ks.length → p ∈ seen) (had : ∀ k, k < es.length → ¬ I (ad k)) : RowP I ds ((rowS f ts es ds ks seen).map (frz f ad (tlM es))) ts us := by
  obtain ⟨h1, h2, h3, h4, h5, h6⟩ := hs
  dsimp only at h1 h2 h3 h4 h5 h6
  have hlen := hr.len
  refine ⟨by simp [rowS_len], fun q hq => ?_, fun q t hq hne => ?_⟩
  · by_cases hql : q < ds.length
    · rw [List.getElem?_map, rowS_get hql, if_neg, dsD hql]
      · have := nlL_mem hr.nl (dsD hql)
        rw [Option.map_some, frz_nl this]
      · rintro ⟨a1, a2, a3⟩
        obtain ⟨g1, g2⟩ := idx_at a1
        exact a3 (by rw [h5 _ q g1, hq])
    · rw [List.getElem?_eq_none (by simp [rowS_len]; omega), List.getElem?_eq_none (by omega)]
  · have hql : q < ds.length := by have := (List.getElem?_eq_some_iff.1 hq).1; omega
    have hm : q ∈ ks := Classical.byContradiction fun hno => hne (by rw [← h6 q hno]; exact hq)
    obtain ⟨g1, g2⟩ := idx_at hm
    have e5 := h5 _ q g1
    refine ⟨ad (ks.idxOf q), had _ (by omega), ?_⟩
    rw [List.getElem?_map, rowS_get hql, if_pos ⟨hm, hall _ g2, by rw [e5, hq]; exact fun e => hne e.symm⟩, Option.map_some]
    have e6 : (tlM es)[ks.idxOf q]? = some (.flat 116 (tc t)) := by rw [List.getElem?_map, e5, hq]; rfl
    simp only [frz, if_pos, e6]
theorem RowP.ok {I : Nat → Prop} {ds ps : List D} {ts us : List TL} (hr : RowOk ds ts) (hp : RowP I ds ps ts us) (hl : us.length = ts.length) : RowOk ps us := by
  have hq : ∀ (q : Nat) t, us[q]? = some t → ∃ d, ps[q]? = some d ∧ d.nl = true ∧ d.oc2 = true ∧ Wk d (.dpf (tc t)) := by
    intro q t ht
    have hql : q < ts.length := by have := (List.getElem?_eq_some_iff.1 ht).1; omega
    by_cases e : ts[q]? = some t
    · obtain ⟨d, g1, g2, g3, g4, g5⟩ := hr.at hql
      refine ⟨d, by rw [hp.eq q (by rw [ht, e]), g1], g3, g4, ?_⟩
      rw [List.getD_eq_getElem?_getD, e] at g5
      exact g5
    · obtain ⟨b, _, h2⟩ := hp.ne q t ht e
      exact ⟨_, h2, rfl, rfl, Wk.pin _ _⟩
  have hlen : ps.length = us.length := by rw [hp.len, hr.len, hl]
  have hm : ∀ d ∈ ps, ∃ (q : Nat) (t : TL), us[q]? = some t ∧ ps[q]? = some d := fun d hd => by
    obtain ⟨q, h1⟩ := List.getElem?_of_mem hd
    have : q < us.length := by rw [← hlen]; exact (List.getElem?_eq_some_iff.1 h1).1
    exact ⟨q, _, List.getElem?_eq_getElem this, h1⟩
  refine ⟨hlen, nlL_all fun d hd => ?_, List.all_eq_true.2 fun d hd => ?_, fun q d t h1 h2 => ?_⟩
  · obtain ⟨q, t, h1, h2⟩ := hm d hd
    obtain ⟨e, g1, g2, g3, g4⟩ := hq q t h1
    rw [h2] at g1; cases g1; exact g2
  · obtain ⟨q, t, h1, h2⟩ := hm d hd
    obtain ⟨e, g1, g2, g3, g4⟩ := hq q t h1
    rw [h2] at g1; cases g1; exact g3
  · obtain ⟨e, g1, g2, g3, g4⟩ := hq q t h2
    rw [h1] at g1; cases g1; exact g4
abbrev kI (ks : List Nat) : List Int := ks.map fun (k : Nat) => (k : Int)
theorem kI_nd {ks : List Nat} (h : ks.Nodup) : (kI ks).Nodup := by
  rw [List.nodup_iff_pairwise_ne, List.pairwise_map]
  exact (List.nodup_iff_pairwise_ne.1 h).imp fun hne e => hne (by omega)
theorem kI_no {ks : List Nat} {p : Nat} {z : Int} (hz : z = (p : Int)) (h : p ∉ ks) : z ∉ kI ks := fun hm => by
  obtain ⟨q, h1, h2⟩ := List.mem_map.1 hm
  exact h (by rw [show p = q by omega]; exact h1)
theorem kI_app (ks : List Nat) (p : Nat) : kI ks ++ [(p : Int)] = kI (ks ++ [p]) := by rw [kI, kI, List.map_append]; rfl
theorem kI_at {ks : List Nat} {p : Nat} (h : p ∈ ks) : (kI ks)[ks.idxOf p]? = some (p : Int) := by rw [List.getElem?_map, (idx_at h).1]; rfl
theorem ptN_at {f n k : Nat} (h : k < n) : (ptN f n)[k]? = some (.floc f k 0) := by rw [List.getElem?_map, List.getElem?_range h]; rfl
theorem ptN_mpd {σ : List Nat} {V : Nat → Bool} {M : List Blk} {ks ks' : List Int} {f g n : Nat} {l l' : List D} (hk : ks = ks') (hl : l = ptN f n) (hl' : l' = ptN g n) (hp : pos σ f = some g) : (vwL σ V M l).map (Blk.mpd ks) = some (Blk.mpd ks' l') := by
  subst hk hl hl'
  have h : ∀ r : List Nat, vwL σ V M (r.map fun k => D.floc f k 0) = some (r.map fun k => D.floc g k 0) := fun r => by
    induction r with
    | nil => rfl
    | cons a r ih =>
      rw [List.map_cons, vwL, ih]
      have : vw σ V M (.floc f a 0) = some (.floc g a 0) := by unfold vw; rw [hp]
      rw [this]; rfl
  rw [h]; rfl
theorem tlM_at {es : List TL} {k : Nat} (h : k < es.length) : (tlM es)[k]? = some (.flat 116 (tc (es.getD k zT))) := by rw [List.getElem?_map, List.getElem?_eq_getElem h, tl_at h]; rfl
theorem tlM_len (es : List TL) : (tlM es).length = es.length := by simp
theorem setT {t : TL} {q : Nat} {z : Int} {c : C4} (hz : z = (q : Int)) (hq : q < 64) : setL (tc t) (0 + z.toNat * 4) (c4 c) = tc (t.set q c) := by
  subst hz
  rw [Int.toNat_natCast, Nat.zero_add]
  exact flat_set c4_len (by rw [TL.h]; exact hq) c
theorem fitT {t : TL} {q : Nat} {z : Int} (hz : z = (q : Int)) (hq : q < 64) : 0 + z.toNat * 4 + 4 ≤ (tc t).length := by
  subst hz
  rw [Int.toNat_natCast, tc_len]; omega
theorem tlM_set {es : List TL} {k : Nat} {t : TL} : (tlM es).set k (.flat 116 (tc t)) = tlM (es.set k t) := by rw [tlM, tlM, List.map_set]
theorem tlM_app (es : List TL) (t : TL) : tlM es ++ [.flat 116 (tc t)] = tlM (es ++ [t]) := by rw [tlM, tlM, List.map_append]; rfl
theorem tlM_new (es : List TL) (t : TL) (q : Nat) (c : C4) : (tlM es ++ [Mem.flat 116 (tc t)]).set es.length (Mem.flat 116 (tc (((es ++ [t]).getD es.length zT).set q c))) = tlM (es ++ [t.set q c]) := by
  rw [tlM_app, tlM_set, tl_at (by simp), List.getElem_append_right (Nat.le_refl _), List.set_append_right _ _ (Nat.le_refl _)]
  simp
theorem arxd_fits {σ : List Nat} {V : Nat → Bool} {M : List Blk} {T : TypeId} {sz n : Nat} {ds : List D} {ts : List TL} (hr : RowOk ds ts) : (vwL σ V M ds).map (Blk.arx T sz n) = some (Blk.arx T sz n ds) := arxn_fits hr.nl rfl rfl
set_option maxRecDepth 4000 in
set_option maxHeartbeats 1000000 in
theorem dot_d (w h : Int) (ds : List D) (ts us : List TL) (hr : RowOk ds ts) (hc : CvOk w h ts) (s : List Nat × List TL) (hs : DotOk ts us s) (d : Dt) : DFun Try.prog 76 [.loc 0 0, .val (.agg (dtC d).toArray)] [.mix 125 [.val (.int .i64 w), .val (.int .i64 h), .fn (.func 83) [] [.loc 4 0, .loc 5 0], .arr 1, .hnd 2], .arx 102 1 ds.length ds, .mpd (kI s.1) (ptN 3 s.2.length), .fam (tlM s.2), .flat 3 [.int .i64 (w * 8)], .flat 3 [.int .i64 (h * 8)]] (.tup []) [.mix 125 [.val (.int .i64 w), .val (.int .i64 h), .fn (.func 83) [] [.loc 4 0, .loc 5 0], .arr 1, .hnd 2], .arx 102 1 ds.length ds, .mpd (kI (dotS w h ts s d).1) (ptN 3 (dotS w h ts s d).2.length), .fam (tlM (dotS w h ts s d).2), .flat 3 [.int .i64 (w * 8)], .flat 3 [.int .i64 (h * 8)]] := by
  refine zao (N := 61) 6 (by kernel_rfl) Try.func76 rfl rfl rfl (by simp only [fr0, Nat.zero_add, Nat.reduceAdd]; exact rfl) rfl fun s0 hs0 => ?_
  refine zae ?_
  refine zak 1 (by simp only [holes, List.cons_append, List.nil_append]; exact rfl) ?_
  refine zad ?_
  refine zan rfl rfl rfl (op_boxa 6 rfl (ev1 rfl) rfl) (by simp only [upd, za, zaa]; exact rfl) ?_
  refine zaf ?_
  refine zae ?_
  refine zae ?_
  refine dwp_draw [([], []), ([], []), ([], []), ([0], []), ([], []), ([6], []), ([], []), ([6], []), ([4, 5], [4, 5]), ([], [])] mixed (by kernel_rfl) ?_
  refine zag rfl rfl (zac (.inl rfl) (ev1 rfl)) ?_
  refine zag rfl rfl (op_nc rfl (ev1 rfl) (fun s v h => by cases h; exact ⟨_, rfl⟩)) ?_
  refine zag rfl rfl (op_fa rfl fo125_1 (ev1 rfl)) ?_
  refine zag rfl rfl (op_ldm rfl tb120 (ev1 rfl) rfl rfl) ?_
  refine zag rfl rfl (op_fa rfl fo93_0 (ev1 rfl)) ?_
  refine zag rfl rfl (op_ldo rfl tb3 (ev1 rfl) rfl rfl) ?_
  refine zag rfl rfl (op_fa rfl fo93_1 (ev1 rfl)) ?_
  refine zag rfl rfl (op_ldo rfl tb3 (ev1 rfl) rfl rfl) ?_
  refine lex_w rfl rfl (zah [4, 5] [] [] rfl (ev1 rfl) (ec (ev1 rfl) (ec (ev1 rfl) en)) rfl rfl (sask1_d d.x d.y w h) rfl rfl rfl rfl rfl rfl) rfl (by simp only [upd, za, zaa]; exact rfl) ?_
  refine zag rfl rfl (op_not rfl (ev1 rfl)) ?_
  refine lex_nil ?_
  refine dwp_cond rfl (fun c1 => ?_) (fun c1 => ?_)
  · have ho : onS w h d.x d.y = false := bn_t c1
    refine dwp_ret ?_
    rw [dotS_off ho]
    refine kend [0, 1, 2, 3, 4, 5] (res_none rfl) rfl rfl ?_ ⟨?_, ?_, ?_, ?_, ?_, ?_, trivial⟩
    rfl
    exact rfl
    exact arxd_fits hr
    exact ptN_mpd rfl rfl rfl rfl
    exact rfl
    exact rfl
    exact rfl
  · have ho : onS w h d.x d.y = true := bn_f c1
    have hpl := on_pl hc.may ho
    have hpt := hc.pl ho
    have hlen := hs.len
    refine zal ?_
    refine zae ?_
    refine dwp_draw [([], []), ([], []), ([], []), ([0], []), ([], []), ([6], []), ([], []), ([6], []), ([], []), ([], []), ([], []), ([], []), ([], []), ([], [])] mixed (by kernel_rfl) ?_
    refine zag rfl rfl (zac (.inl rfl) (ev1 rfl)) ?_
    refine zag rfl rfl (op_nc rfl (ev1 rfl) (fun s v h => by cases h; exact ⟨_, rfl⟩)) ?_
    refine zag rfl rfl (op_fa rfl fo125_0 (ev1 rfl)) ?_
    refine zag rfl rfl (op_ldmv (R := [_, _]) rfl tb77 (ev1 rfl) rfl rfl rfl) ?_
    refine zag rfl rfl (op_fa rfl fo93_0 (ev1 rfl)) ?_
    refine zag rfl rfl (op_ldo rfl tb3 (ev1 rfl) rfl rfl) ?_
    refine zag rfl rfl (op_fa rfl fo93_1 (ev1 rfl)) ?_
    refine zag rfl rfl (op_ldo rfl tb3 (ev1 rfl) rfl rfl) ?_
    refine zag rfl rfl (zah [] [] [] rfl (ev1 rfl) (ec (ev1 rfl) (ec (ev1 rfl) (ec (ev1 rfl) en))) rfl rfl (splace_d w h d.x d.y hc.may ho) rfl rfl rfl rfl rfl rfl) ?_
    refine zag rfl rfl (zac (.inl rfl) (ev1 rfl)) ?_
    refine zag rfl rfl (op_ext rfl (ev1 rfl) rfl) ?_
    refine zag rfl rfl (op_ext rfl (ev1 rfl) rfl) ?_
    refine zag rfl rfl (zac (.inr rfl) (ev1 rfl)) ?_
    refine zag rfl rfl (zac (.inr rfl) (ev1 rfl)) ?_
    refine lex_nil ?_
    refine zae ?_
    refine zae ?_
    by_cases hin : plN w d.x d.y ∈ s.1
    · obtain ⟨g1, g2⟩ := idx_at hin
      have g3 : s.1.idxOf (plN w d.x d.y) < s.2.length := by omega
      refine zad ?_
      refine zab rfl rfl rfl (zac (.inl rfl) (ev1 rfl)) ?_
      refine zab rfl rfl rfl (op_nc rfl (ev1 rfl) (fun s v h => by cases h; exact ⟨_, rfl⟩)) ?_
      refine zab rfl rfl rfl (op_fa rfl fo125_3 (ev1 rfl)) ?_
      refine zab rfl rfl rfl (op_ldm rfl tb123 (ev1 rfl) rfl rfl) ?_
      refine zab rfl rfl rfl (zac (.inl rfl) (ev1 rfl)) ?_
      refine zab rfl rfl rfl (op_lkdy (j := s.1.idxOf (plN w d.x d.y)) mp123 it3 rfl (ev1 rfl) (ev1 rfl) rfl (fun _ => kI_nd hs.nd) (fun _ => kI_at hin) (ptN_at g3)) ?_
      refine zab rfl rfl rfl (op_pnilf rfl pt102 (ev1 rfl)) ?_
      refine zaf ?_
      refine dwp_if_f rfl (rfl) ?_
      refine zal ?_
      refine dwp_draw [([], []), ([], []), ([], []), ([0], []), ([], []), ([2], []), ([], []), ([], []), ([6], []), ([], []), ([], []), ([3], [3])] mixed (by kernel_rfl) ?_
      refine zag rfl rfl (zac (.inl rfl) (ev1 rfl)) ?_
      refine zag rfl rfl (op_nc rfl (ev1 rfl) (fun s v h => by cases h; exact ⟨_, rfl⟩)) ?_
      refine zag rfl rfl (op_fa rfl fo125_3 (ev1 rfl)) ?_
      refine zag rfl rfl (op_ldm rfl tb123 (ev1 rfl) rfl rfl) ?_
      refine zag rfl rfl (zac (.inl rfl) (ev1 rfl)) ?_
      refine zag rfl rfl (op_lkdy (j := s.1.idxOf (plN w d.x d.y)) mp123 it3 rfl (ev1 rfl) (ev1 rfl) rfl (fun _ => kI_nd hs.nd) (fun _ => kI_at hin) (ptN_at g3)) ?_
      refine zag rfl rfl (zac (.inl rfl) (ev1 rfl)) ?_
      refine zag rfl rfl (op_fa rfl fo93_2 (ev1 rfl)) ?_
      refine zag rfl rfl (op_ldr rfl tb87 (ev1 rfl) rfl rfl rfl) ?_
      refine zag rfl rfl (op_nc rfl (ev1 rfl) (fun s v h => by cases h; exact ⟨_, rfl⟩)) ?_
      refine zag rfl rfl (op_ixfl rfl ar116 (ev1 rfl) (ev1 rfl) (fun _ => by omega)) ?_
      refine lex_s rfl rfl (op_stfp rfl tb87 (ev1 rfl) (ev1 rfl) rfl (tlM_at g3) rfl rfl rfl (fitT rfl hpl.2.2.2) (setT rfl hpl.2.2.2)) rfl (by simp only [upd, za, zaa]; exact rfl) ?_
      refine lex_nil ?_
      rw [dotS_in ho hin]
      refine kend [0, 1, 2, 3, 4, 5] (res_none rfl) rfl rfl ?_ ⟨?_, ?_, ?_, ?_, ?_, ?_, trivial⟩
      rfl
      exact rfl
      exact arxd_fits hr
      exact ptN_mpd rfl rfl (by rw [List.length_set]) rfl
      exact (by rw [tlM_set]; rfl)
      exact rfl
      exact rfl
    · refine zad ?_
      refine zab rfl rfl rfl (zac (.inl rfl) (ev1 rfl)) ?_
      refine zab rfl rfl rfl (op_nc rfl (ev1 rfl) (fun s v h => by cases h; exact ⟨_, rfl⟩)) ?_
      refine zab rfl rfl rfl (op_fa rfl fo125_3 (ev1 rfl)) ?_
      refine zab rfl rfl rfl (op_ldm rfl tb123 (ev1 rfl) rfl rfl) ?_
      refine zab rfl rfl rfl (zac (.inl rfl) (ev1 rfl)) ?_
      refine zab rfl rfl rfl (op_lkdn mp123 it3 zv102 rfl (ev1 rfl) (ev1 rfl) rfl (fun _ => kI_no rfl hin)) ?_
      refine zab rfl rfl rfl (op_pnil0 rfl pt102 (ev1 rfl)) ?_
      refine zaf ?_
      refine dwp_if_t rfl (rfl) ?_
      refine zae ?_
      obtain ⟨e, hd, _, _, _, hw⟩ := hr.at hpt
      refine zak 1 (by simp only [holes, List.cons_append, List.nil_append]; exact rfl) ?_
      refine zad ?_
      refine zab rfl rfl rfl (zac (.inl rfl) (ev1 rfl)) ?_
      refine zab rfl rfl rfl (op_nc rfl (ev1 rfl) (fun s v h => by cases h; exact ⟨_, rfl⟩)) ?_
      refine zab rfl rfl rfl (op_fa rfl fo125_2 (ev1 rfl)) ?_
      refine zab rfl rfl rfl (op_ldm rfl tb78 (ev1 rfl) rfl rfl) ?_
      refine zab rfl rfl rfl (zac (.inl rfl) (ev1 rfl)) ?_
      refine zab rfl rfl rfl (op_ixx (plN w d.x d.y) rfl sl78 (ev1 rfl) (ev1 rfl) rfl (fun _ => rfl) (fun _ => by rw [hr.len]; exact hpt)) ?_
      refine zab rfl rfl rfl ((op_ldx rfl tb102 (ev1 rfl) rfl (by rw [Nat.mul_one]; exact hd)).wk (hw)) ?_
      refine zab rfl rfl rfl (op_nc rfl (ev1 rfl) (fun s v h => by cases h; exact ⟨_, rfl⟩)) ?_
      refine zab rfl rfl rfl (op_ldwd rfl tb116 (ev1 rfl) (tc_len _)) ?_
      refine zan rfl rfl rfl (op_alloc 7 rfl zr116 rfl) (by simp only [upd, za, zaa]; exact rfl) ?_
      refine walk_s rfl rfl (op_stwa rfl tb116 (ev1 rfl) (ev1 rfl) rfl (tc_len _) (tc_oc _) ((tc_len _).trans (tc_len _).symm)) (by simp only [upd, za, zaa]; exact rfl) ?_
      refine zaf ?_
      refine dwp_absl 6 3 rfl rfl rfl (by simp only [za, zaa]; exact rfl) ?_
      refine zad ?_
      refine zab rfl rfl rfl (zac (.inl rfl) (ev1 rfl)) ?_
      refine zab rfl rfl rfl (op_nc rfl (ev1 rfl) (fun s v h => by cases h; exact ⟨_, rfl⟩)) ?_
      refine zab rfl rfl rfl (op_fa rfl fo125_3 (ev1 rfl)) ?_
      refine zab rfl rfl rfl (op_ldm rfl tb123 (ev1 rfl) rfl rfl) ?_
      refine zab rfl rfl rfl (zac (.inl rfl) (ev1 rfl)) ?_
      refine walk_s rfl rfl (op_mud mp123 it3 rfl (ev1 rfl) (ev1 rfl) (ev1 rfl) rfl (fun _ => kI_no rfl hin)) (by simp only [upd, za, zaa]; exact rfl) ?_
      refine zaf ?_
      refine dwp_draw [([], []), ([], []), ([], []), ([0], []), ([], []), ([2], []), ([], []), ([], []), ([6], []), ([], []), ([], []), ([3], [3])] mixed (by kernel_rfl) ?_
      refine zag rfl rfl (zac (.inl rfl) (ev1 rfl)) ?_
      refine zag rfl rfl (op_nc rfl (ev1 rfl) (fun s v h => by cases h; exact ⟨_, rfl⟩)) ?_
      refine zag rfl rfl (op_fa rfl fo125_3 (ev1 rfl)) ?_
      refine zag rfl rfl (op_ldm rfl tb123 (ev1 rfl) rfl rfl) ?_
      refine zag rfl rfl (zac (.inl rfl) (ev1 rfl)) ?_
      refine zag rfl rfl (op_lkdy (j := s.2.length) mp123 it3 rfl (ev1 rfl) (ev1 rfl) rfl (fun _ => by rw [kI_app]; exact kI_nd (hs.step hc d |>.nd |> fun h => by rw [dotS_new ho hin] at h; exact h)) (fun _ => by rw [kI_app, List.getElem?_map, List.getElem?_append_right (by omega), hlen, Nat.sub_self]; rfl) (by rw [tlM_len, ptN_add]; exact ptN_at (by omega))) ?_
      refine zag rfl rfl (zac (.inl rfl) (ev1 rfl)) ?_
      refine zag rfl rfl (op_fa rfl fo93_2 (ev1 rfl)) ?_
      refine zag rfl rfl (op_ldr rfl tb87 (ev1 rfl) rfl rfl rfl) ?_
      refine zag rfl rfl (op_nc rfl (ev1 rfl) (fun s v h => by cases h; exact ⟨_, rfl⟩)) ?_
      refine zag rfl rfl (op_ixfl rfl ar116 (ev1 rfl) (ev1 rfl) (fun _ => by omega)) ?_
      refine lex_s rfl rfl (op_stfp rfl tb87 (ev1 rfl) (ev1 rfl) rfl (by rw [tlM_app]; exact tlM_at (by simp)) rfl rfl rfl (fitT rfl hpl.2.2.2) (setT rfl hpl.2.2.2)) rfl (by simp only [upd, za, zaa]; exact rfl) ?_
      refine lex_nil ?_
      rw [dotS_new ho hin]
      refine kend [0, 1, 2, 3, 4, 5] (res_none rfl) rfl rfl ?_ ⟨?_, ?_, ?_, ?_, ?_, ?_, trivial⟩
      rfl
      exact rfl
      exact arxd_fits hr
      exact ptN_mpd (by rw [kI_app]) (by rw [tlM_len, ptN_add, List.length_append]; rfl) rfl rfl
      exact (by rw [tlM_new]; rfl)
      exact rfl
      exact rfl
end Go.Proofs.Ytmpodnadoebclaa
namespace Go.Proofs.Ytmpodnadoebclaa
set_option maxRecDepth 4000
set_option linter.unusedVariables false
set_option linter.unusedSimpArgs false
open Go.RowKit
theorem eq116 {t u : TL} : eqT Try.prog 9 116 (tc t) (tc u) = some (decide (t = u)) := by
  have h : ∀ a b : C4, eqT Try.prog 8 87 (c4 a) (c4 b) = some (decide (a = b)) := fun a b => by
    rw [← eqC_iff]
    exact (show eqT Try.prog 8 87 [.int .u8 a.r, .int .u8 a.g, .int .u8 a.b, .int .u8 a.a] [.int .u8 b.r, .int .u8 b.g, .int .u8 b.b, .int .u8 b.a] = some (eqC a b) by kernel_rfl)
  have h2 := eqA_row (en := c4) c4_len h t.l u.l (by rw [t.h, u.h])
  rw [t.h] at h2
  have h3 : eqT Try.prog 9 116 (tc t) (tc u) = eqA (eqT Try.prog 8 87) 4 64 (tc t) (tc u) := by
    have e1 : Try.prog.underlying 116 = some (.array 64 87) := by kernel_rfl
    obtain ⟨_, i, _, e3, _, e4⟩ := tyB_spec (show tyB Try.prog 87 = some (true, 4) by kernel_rfl)
    unfold eqT
    simp only [e1, e3, e4]
  refine h3.trans (h2.trans ?_)
  congr 1
  rw [Bool.eq_iff_iff]
  simp only [decide_eq_true_eq]
  exact ⟨TL.ext, fun e => by rw [e]⟩
theorem fl125 : fdL Try.prog 125 = some [(0, 2), (2, 1), (3, 1), (4, 1)] := by kernel_rfl
theorem gd116 : Try.prog.eqGuardType Try.prog.depth 116 = false := by kernel_rfl
theorem pt42 : ptT Try.prog 42 = some 80 := by kernel_rfl
theorem sl118 : slE Try.prog 118 = some (93, 6, 24) := by kernel_rfl
theorem tb93 : tyB Try.prog 93 = some (true, 6) := by kernel_rfl
theorem zr125 : zrC Try.prog 125 = some [.int .i64 0, .int .i64 0, .nilFunc, .slice none 0 0, .map none] := by kernel_rfl
theorem zr93 : zrC Try.prog 93 = some [.int .i64 0, .int .i64 0, .int .u8 0, .int .u8 0, .int .u8 0, .int .u8 0] := by kernel_rfl
theorem rowS_fits {f g n : Nat} {ts es : List TL} {ds : List D} {ks seen : List Nat} {σ : List Nat} {V : Nat → Bool} {M : List Blk} {T : TypeId} {l l' : List D} (hn : D.nlL ds = true) (hl : l = rowS f ts es ds ks seen) (hl' : l' = rowS g ts es ds ks seen) (hp : pos σ f = some g) : (vwL σ V M l).map (Blk.arx T 1 n) = some (Blk.arx T 1 n l') := by
  subst hl hl'
  have h : ∀ r : List Nat, (∀ q ∈ r, q < ds.length) → vwL σ V M (r.map fun q => if q ∈ ks ∧ ks.idxOf q ∈ seen ∧ es[ks.idxOf q]? ≠ ts[q]? then D.floc f (ks.idxOf q) 0 else ds.getD q .junk) = some (r.map fun q => if q ∈ ks ∧ ks.idxOf q ∈ seen ∧ es[ks.idxOf q]? ≠ ts[q]? then D.floc g (ks.idxOf q) 0 else ds.getD q .junk) := fun r hr => by
    induction r with
    | nil => rfl
    | cons a r ih =>
      rw [List.map_cons, vwL, ih fun q hq => hr q (by simp [hq])]
      have : vw σ V M (if a ∈ ks ∧ ks.idxOf a ∈ seen ∧ es[ks.idxOf a]? ≠ ts[a]? then D.floc f (ks.idxOf a) 0 else ds.getD a .junk) = some (if a ∈ ks ∧ ks.idxOf a ∈ seen ∧ es[ks.idxOf a]? ≠ ts[a]? then D.floc g (ks.idxOf a) 0 else ds.getD a .junk) := by
        split
        · unfold vw; rw [hp]
        · exact vw_nl σ V M _ (nlL_mem hn (dsD (hr a (by simp))))
      rw [this]; rfl
  have := h (List.range ds.length) fun q hq => by simpa using hq
  unfold rowS
  rw [this]; rfl
theorem tc_whole (t : TL) : ((tc t).drop 0).take 256 = tc t := by rw [List.drop_zero, List.take_of_length_le (by rw [tc_len]; exact Nat.le_refl _)]
theorem getq {l : List TL} {p : Nat} (h : p < l.length) : l[p]? = some (l.getD p zT) := by rw [List.getElem?_eq_getElem h, tl_at h]
theorem all_in : ∀ {n : Nat} {seen : List Nat} (h : seen.Nodup) (hl : ∀ p ∈ seen, p < n), seen.length ≤ n
  | 0, seen, h, hl => by
    cases seen with
    | nil => exact Nat.le_refl _
    | cons a l => exact absurd (hl a (by simp)) (Nat.not_lt_zero _)
  | n + 1, seen, h, hl => by
    have h1 := all_in (n := n) (seen := seen.erase n) (h.erase n) fun p hp => by
      have h2 := hl p (List.mem_of_mem_erase hp)
      have h3 : p ≠ n := fun e => by subst e; exact absurd hp (List.Nodup.not_mem_erase h)
      omega
    rw [List.length_erase] at h1
    split at h1 <;> omega
def FromCv (I : Nat → Prop) (w h : Int) (ds : List D) (ts us : List TL) (d : D) : Prop := ∃ ps, RowP I ds ps ts us ∧ d = cvD w h ps
set_option maxRecDepth 4000 in
set_option maxHeartbeats 1000000 in
theorem done_i (w h : Int) (ds : List D) (ts us : List TL) (hr : RowOk ds ts) (hc : CvOk w h ts) (s : List Nat × List TL) (hs : DotOk ts us s) : DFunI Try.prog 77 [.loc 0 0] [.mix 125 [.val (.int .i64 w), .val (.int .i64 h), .fn (.func 83) [] [.loc 4 0, .loc 5 0], .arr 1, .hnd 2], .arx 102 1 ds.length ds, .mpd (kI s.1) (ptN 3 s.2.length), .fam (tlM s.2), .flat 3 [.int .i64 (w * 8)], .flat 3 [.int .i64 (h * 8)]] (fun I => FromCv I w h ds ts us) [.gone, .gone, .gone, .gone, .gone, .gone] := by
  have hlen := hs.len
  have hdl := hr.len
  refine dcallsI_go (N := 45) 6 (by kernel_rfl) Try.func77 rfl rfl rfl (by simp only [fr0, Nat.zero_add, Nat.reduceAdd]; exact rfl) rfl fun s0 hs0 => ?_
  refine zae ?_
  refine zad ?_
  refine zab rfl rfl rfl (zac (.inr rfl) (ev1 rfl)) ?_
  refine zaf ?_
  refine zae ?_
  refine zae ?_
  refine zak 1 (by simp only [holes, List.cons_append, List.nil_append]; exact rfl) ?_
  refine zad ?_
  refine zab rfl rfl rfl (zac (.inl rfl) (ev1 rfl)) ?_
  refine zab rfl rfl rfl (op_nc rfl (ev1 rfl) (fun s v h => by cases h; exact ⟨_, rfl⟩)) ?_
  refine zab rfl rfl rfl (op_fa rfl fo125_3 (ev1 rfl)) ?_
  refine zab rfl rfl rfl (op_ldm rfl tb123 (ev1 rfl) rfl rfl) ?_
  refine zan rfl rfl rfl (op_rgd 6 rfl mp123 (ev1 rfl) rfl rfl) (by simp only [upd, za, zaa]; exact rfl) ?_
  refine zaf ?_
  refine zam ?_
  refine dwp_loopS ⟨hs0, rfl⟩ (α := List Nat) (fun sn => []) [(0, _), (9, _)] (fun sn => [(1, .arx 102 1 ds.length (rowS 3 ts s.2 ds s.1 sn)), (6, .mit (.hnd 2) (kI s.1).length sn)]) [_, .hole, _, _, _, _, .hole] (fun sn => sn.Nodup ∧ ∀ p ∈ sn, p < s.1.length) (fun sn => s.1.length - sn.length) [] [0, 1, 2, 3, 4, 5, 6] (⟨List.nodup_nil, fun p hp => by simp at hp⟩) rfl ⟨rfl, rfl, trivial⟩ trivial ⟨rfl, arxn_fits hr.nl rfl (rowS_nil ..).symm, ptN_mpd rfl rfl rfl rfl, rfl, rfl, rfl, rfl, trivial⟩ ?_
  intro sn hx
  simp only [upd, za, zaa, List.cons_append, List.nil_append]
  obtain ⟨hnd, hlt⟩ := hx
  refine zae ?_
  refine zad ?_
  refine walk_e rfl rfl rfl (op_nxd rfl (ev1 rfl) rfl rfl) ?_
  rintro d wr (⟨rfl, rfl, hall⟩ | ⟨p, kp, ep, hkp, hep, hnp, rfl, rfl⟩)
  · simp only [upd]
    refine zab rfl rfl rfl (op_ext rfl (ev1 rfl) rfl) ?_
    refine zaf ?_
    refine zae ?_
    refine dwp_if_f rfl (rfl) ?_
    refine dwp_exit ?_
    refine zae ?_
    refine dwp_frz 3 1 rfl rfl (tlM_flat) fun ad had => ?_
    simp only [za, zaa]
    have hP := rowS_frz (f := 3) (I := s0.I) (seen := sn) hr hs (fun p hp => hall p (by simpa using hp)) (fun k hk => had k (by simpa using hk))
    have hPk := hP.ok hr hs.ul
    refine dwp_givem 0 3 (hPk.nl) rfl rfl rfl (by simp only [za, zaa]; exact rfl) ?_
    refine dwp_draw [([], []), ([], []), ([], []), ([0], []), ([], []), ([], []), ([], []), ([0], []), ([], []), ([], []), ([], [])] mixed (by kernel_rfl) ?_
    refine zag rfl rfl (zac (.inl rfl) (ev1 rfl)) ?_
    refine zag rfl rfl (op_nc rfl (ev1 rfl) (fun s v h => by cases h; exact ⟨_, rfl⟩)) ?_
    refine zag rfl rfl (op_fa rfl fo125_0 (ev1 rfl)) ?_
    refine zag rfl rfl (op_ldmv (R := [_, _]) rfl tb77 (ev1 rfl) rfl rfl rfl) ?_
    refine zag rfl rfl (zac (.inl rfl) (ev1 rfl)) ?_
    refine zag rfl rfl (op_nc rfl (ev1 rfl) (fun s v h => by cases h; exact ⟨_, rfl⟩)) ?_
    refine zag rfl rfl (op_fa rfl fo125_2 (ev1 rfl)) ?_
    refine zag rfl rfl (op_ldm rfl tb78 (ev1 rfl) rfl rfl) ?_
    refine zag rfl rfl (op_bldD (ps := [(0, .tmp 38), (1, .tmp 42)]) rfl fl80 zr80 (ec (ev1 rfl) (ec (ev1 rfl) en)) rfl rfl rfl) ?_
    refine zag rfl rfl (op_boxf rfl rfl (ev1 rfl)) ?_
    refine zag rfl rfl (zac (.inr rfl) (ev1 rfl)) ?_
    refine lex_nil ?_
    refine dwp_gone 0 (by simp only [za, zaa]; exact rfl) ?_
    refine dwp_gone 2 (by simp only [za, zaa]; exact rfl) ?_
    refine dwp_gone 4 (by simp only [za, zaa]; exact rfl) ?_
    refine dwp_gone 5 (by simp only [za, zaa]; exact rfl) ?_
    refine dwp_ret ?_
    refine kendI (post := fun I => FromCv I w h ds ts us) (I := s0.I) (Mo := [.gone, .gone, .gone, .gone, .gone, .gone]) [0, 1, 2, 3, 4, 5] (rs1 rfl (rv_t rfl)) rfl rfl ?_ ⟨rfl, rfl, rfl, rfl, rfl, rfl, trivial⟩
    exact ⟨_, hP, by rw [cvD, hP.len]; rfl⟩
  · simp only [upd, za, zaa]
    have hp1 : p < s.1.length := by have := (List.getElem?_eq_some_iff.1 hkp).1; simpa using this
    obtain ⟨q, hq⟩ : ∃ q, s.1[p]? = some q := ⟨_, List.getElem?_eq_getElem hp1⟩
    obtain rfl : kp = (q : Int) := by rw [List.getElem?_map, hq] at hkp; exact (Option.some.inj hkp).symm
    obtain rfl : ep = .floc 3 p 0 := by rw [ptN_at (by omega)] at hep; exact (Option.some.inj hep).symm
    have hqt := hs.lt q (List.mem_of_getElem? hq)
    obtain ⟨e, hd, _, _, _, hw⟩ := hr.at hqt
    have hes := tlM_at (es := s.2) (k := p) (by omega)
    refine zab rfl rfl rfl (op_ext rfl (ev1 rfl) rfl) ?_
    refine zaf ?_
    refine zae ?_
    refine dwp_if_t rfl (rfl) ?_
    refine zal ?_
    refine zam ?_
    refine zae ?_
    refine zad ?_
    refine zab rfl rfl rfl (op_ent rfl (ev1 rfl) rfl rfl (hkp) (hep)) ?_
    refine zab rfl rfl rfl (op_ext rfl (ev1 rfl) rfl) ?_
    refine zab rfl rfl rfl (op_ext rfl (ev1 rfl) rfl) ?_
    refine zab rfl rfl rfl (zac (.inr rfl) (ev1 rfl)) ?_
    refine zab rfl rfl rfl (zac (.inr rfl) (ev1 rfl)) ?_
    refine zaf ?_
    refine zae ?_
    refine dwp_draw [([], []), ([], []), ([3], []), ([], []), ([], []), ([], []), ([0], []), ([], []), ([1], []), ([1], []), ([], []), ([], []), ([], [])] mixed (by kernel_rfl) ?_
    refine zag rfl rfl (zac (.inl rfl) (ev1 rfl)) ?_
    refine zag rfl rfl (op_nc rfl (ev1 rfl) (fun s v h => by cases h; exact ⟨_, rfl⟩)) ?_
    refine zag rfl rfl (op_ldfp rfl tb116 (ev1 rfl) rfl (hes) (tc_whole _) (tc_len _)) ?_
    refine zag rfl rfl (zac (.inl rfl) (ev1 rfl)) ?_
    refine zag rfl rfl (op_nc rfl (ev1 rfl) (fun s v h => by cases h; exact ⟨_, rfl⟩)) ?_
    refine zag rfl rfl (op_fa rfl fo125_2 (ev1 rfl)) ?_
    refine zag rfl rfl (op_ldm rfl tb78 (ev1 rfl) rfl rfl) ?_
    refine zag rfl rfl (zac (.inl rfl) (ev1 rfl)) ?_
    refine zag rfl rfl (op_ixx (q) rfl sl78 (ev1 rfl) (ev1 rfl) rfl (fun _ => rfl) (fun _ => by omega)) ?_
    refine zag rfl rfl ((op_ldx rfl tb102 (ev1 rfl) rfl (by rw [Nat.mul_one, rowS_at hs.nd hq hnp (by omega)]; exact hd)).wk (hw)) ?_
    refine zag rfl rfl (op_nc rfl (ev1 rfl) (fun s v h => by cases h; exact ⟨_, rfl⟩)) ?_
    refine zag rfl rfl (op_ldwd rfl tb116 (ev1 rfl) (tc_len _)) ?_
    refine zag rfl rfl (op_ner eq116 rfl gd116 tb116 (ev1 rfl) (ev1 rfl)) ?_
    refine lex_nil ?_
    have hle2 := all_in (n := s.1.length) (seen := sn ++ [p]) (by rw [List.nodup_append]; exact ⟨hnd, by simp, fun a ha b hb => by simp at hb; subst hb; exact fun e => hnp (e ▸ ha)⟩) (fun r hr => (List.mem_append.1 hr).elim (hlt r) fun h => by simp at h; subst h; exact hp1)
    rw [List.length_append] at hle2
    have hI : (sn ++ [p]).Nodup ∧ ∀ r ∈ sn ++ [p], r < s.1.length := ⟨by rw [List.nodup_append]; exact ⟨hnd, by simp, fun a ha b hb => by simp at hb; subst hb; exact fun e => hnp (e ▸ ha)⟩, fun r hr => (List.mem_append.1 hr).elim (hlt r) fun h => by simp at h; subst h; exact hp1⟩
    refine dwp_cond rfl (fun c2 => ?_) (fun c2 => ?_)
    · have hne : s.2[p]? ≠ ts[q]? := by rw [getq (by omega), getq hqt]; exact fun e => (show ¬ s.2.getD p zT = ts.getD q zT by simpa using c2) (Option.some.inj e)
      refine zad ?_
      refine zab rfl rfl rfl (zac (.inl rfl) (ev1 rfl)) ?_
      refine zab rfl rfl rfl (op_nc rfl (ev1 rfl) (fun s v h => by cases h; exact ⟨_, rfl⟩)) ?_
      refine zab rfl rfl rfl (op_fa rfl fo125_2 (ev1 rfl)) ?_
      refine zab rfl rfl rfl (op_ldm rfl tb78 (ev1 rfl) rfl rfl) ?_
      refine zab rfl rfl rfl (zac (.inl rfl) (ev1 rfl)) ?_
      refine zab rfl rfl rfl (zac (.inl rfl) (ev1 rfl)) ?_
      refine zab rfl rfl rfl (op_ixx (q) rfl sl78 (ev1 rfl) (ev1 rfl) rfl (fun _ => rfl) (fun _ => by omega)) ?_
      refine walk_s rfl rfl (op_stx0 (j := q) rfl tb102 (ev1 rfl) (ev1 rfl) rfl (by rw [rowS_len]; omega) (fun s v h => by cases h <;> exact ⟨rfl, rfl⟩)) (by simp only [upd, za, zaa]; exact rfl) ?_
      refine zaf ?_
      refine ⟨sn ++ [p], [0, 1, 2, 3, 4, 5, 6], hI, by simp only [List.length_append, List.length_cons, List.length_nil] at hle2 ⊢; omega, rfl, ⟨rfl, rfl, trivial⟩, ⟨rfl, rowS_fits hr.nl (by rw [rowS_step hs.nd hq hnp (by omega), if_pos hne]) rfl rfl, ptN_mpd rfl rfl rfl rfl, rfl, rfl, rfl, rfl, trivial⟩⟩
    · have hne : ¬ s.2[p]? ≠ ts[q]? := by rw [getq (by omega), getq hqt]; simpa using c2
      refine zal ?_
      refine ⟨sn ++ [p], [0, 1, 2, 3, 4, 5, 6], hI, by simp only [List.length_append, List.length_cons, List.length_nil] at hle2 ⊢; omega, rfl, ⟨rfl, rfl, trivial⟩, ⟨rfl, rowS_fits hr.nl rfl (by rw [rowS_step hs.nd hq hnp (by omega), if_neg hne]) rfl, ptN_mpd rfl rfl rfl rfl, rfl, rfl, rfl, rfl, trivial⟩⟩
theorem sb_ptNm {τ : List Nat} {ks : List Int} {f g n : Nat} (hp : τ[f]? = some g) : sbB τ (.mpd ks (ptN f n)) = some (.mpd ks (ptN g n)) := by
  have h : ∀ r : List Nat, sbL τ (r.map fun k => D.floc f k 0) = some (r.map fun k => D.floc g k 0) := fun r => by
    induction r with
    | nil => rfl
    | cons a r ih =>
      rw [List.map_cons, sbL, ih]
      have : sb τ (.floc f a 0) = some (.floc g a 0) := by unfold sb; rw [hp]; rfl
      rw [this]; rfl
  show (sbL τ _).map _ = _
  rw [h]; rfl
theorem FromCv.nl {I : Nat → Prop} {w h : Int} {ds : List D} {ts us : List TL} {d : D} (hr : RowOk ds ts) (hl : us.length = ts.length) (hf : FromCv I w h ds ts us d) : d.nl = true := by
  obtain ⟨ps, hp, rfl⟩ := hf
  rfl
set_option maxRecDepth 4000 in
set_option maxHeartbeats 1000000 in
theorem clonePt_d (ds : List D) (ts : List TL) (hr : RowOk ds ts) (h1 : 1 ≤ ts.length) (hn : ts.length ≤ 5000) : DFun Try.prog 75 [.slm 1 ds.length ds] [] (.arr 0) [.arx 102 1 ds.length ds] := by
  have hdl := hr.len
  refine zao (N := 8) 0 (by kernel_rfl) Try.func75 rfl rfl rfl (by simp only [fr0, Nat.zero_add, Nat.reduceAdd]; exact rfl) rfl fun s0 hs0 => ?_
  refine dwp_lenm (t := 0) rfl fun hl0 hL0 => ?_
  refine zae ?_
  refine zad ?_
  refine zab rfl rfl rfl (zac (.inr rfl) (ev1 rfl)) ?_
  refine zaf ?_
  refine zae ?_
  refine zae ?_
  refine zad ?_
  refine zab rfl rfl rfl (zac (.inl rfl) (ev1 rfl)) ?_
  refine walk_nilm? rfl rfl rfl rfl sl78 (ev1 rfl) fun nb4 hnb4 => ?_
  refine zaf ?_
  refine dwp_cond rfl (fun c1 => ?_) (fun c1 => ?_)
  · exact absurd (hnb4 c1).1 (by omega)
  · try simp only [decide_eq_true_eq, decide_eq_false_iff_not, beq_iff_eq, bne_iff_ne, beq_eq_false_iff_ne, bne_eq_false_iff_eq, Bool.not_eq_true', Bool.not_eq_false', Bool.and_eq_true, Bool.or_eq_true, Bool.or_eq_false_iff, ne_eq, Decidable.not_not, Int.not_lt, Int.not_le] at c1
    refine zal ?_
    refine zae ?_
    refine zak 2 (by simp only [holes, List.cons_append, List.nil_append]; exact rfl) ?_
    refine zad ?_
    refine zan rfl rfl rfl (op_bsx (ps := []) 0 (fun s d v hd hr => by simp at hd) rfl sl78 zr102 rfl en (by decide) rfl) (by simp only [upd, za, zaa]; exact rfl) ?_
    refine zab rfl rfl rfl (zac (.inl rfl) (ev1 rfl)) ?_
    refine zan rfl rfl rfl (op_appr (j := 1) rfl sl78 zr102 rfl (ev1 rfl) (ev1 rfl) rfl rfl (hr.oc) (fun _ => ⟨by omega, by omega⟩)) (by simp only [upd, za, zaa]; exact rfl) ?_
    refine zab rfl rfl rfl (zac (.inr rfl) (ev1 rfl)) ?_
    refine zaf ?_
    refine dwp_ret ?_
    refine kend [1] (rs1 rfl (rv_t rfl)) rfl rfl ?_ ⟨?_, trivial⟩
    rfl
    exact arxn_fits hr.nl (Nat.zero_add _) rfl
set_option maxRecDepth 4000 in
set_option maxHeartbeats 1000000 in
theorem with_i (w h : Int) (ds : List D) (ts : List TL) (hr : RowOk ds ts) (hc : CvOk w h ts) (l : List Dt) : DFunI Try.prog 50 [cvD w h ds, .slf 6 l.length (l.flatMap dtC)] [] (fun I => FromCv I w h ds ts (putsC w h ts l)) [] := by
  have hle := hc.le
  have hdl := hr.len
  refine dcallsI_go (N := 42) 0 (by kernel_rfl) Try.func50 rfl rfl rfl (by simp only [fr0, Nat.zero_add, Nat.reduceAdd]; exact rfl) rfl fun s0 hs0 => ?_
  refine dwp_len (t := 1) rfl fun hl1 hL1 => ?_
  refine zae ?_
  refine zad ?_
  refine zab rfl rfl rfl (zac (.inr rfl) (ev1 rfl)) ?_
  refine zaf ?_
  refine zae ?_
  refine zae ?_
  refine zad ?_
  refine zab rfl rfl rfl (zac (.inl rfl) (ev1 rfl)) ?_
  refine zab rfl rfl rfl (op_pnilm rfl pt42 (ev1 rfl)) ?_
  refine zaf ?_
  refine dwp_if_f rfl (rfl) ?_
  refine zal ?_
  refine zae ?_
  refine zak 5 (by simp only [holes, List.cons_append, List.nil_append]; exact rfl) ?_
  refine dwp_draw [([], []), ([], []), ([], []), ([], []), ([], []), ([], []), ([], []), ([], []), ([0, 1], [0, 1]), ([], []), ([], []), ([], []), ([], []), ([2], [2]), ([3], [3]), ([3], []), ([4], [4]), ([], [])] mixed (by kernel_rfl) ?_
  refine zag rfl rfl (zac (.inl rfl) (ev1 rfl)) ?_
  refine zag rfl rfl (op_nc rfl (ev1 rfl) (fun s v h => by cases h; exact ⟨_, rfl⟩)) ?_
  refine zag rfl rfl (op_fadm rfl fo80_0 (ev1 rfl)) ?_
  refine zag rfl rfl (op_lddv [_, _] rfl tb77 (ev1 rfl) rfl rfl) ?_
  refine zag rfl rfl (zac (.inl rfl) (ev1 rfl)) ?_
  refine zag rfl rfl (op_nc rfl (ev1 rfl) (fun s v h => by cases h; exact ⟨_, rfl⟩)) ?_
  refine zag rfl rfl (op_fadm rfl fo80_0 (ev1 rfl)) ?_
  refine zag rfl rfl (op_lddv [_, _] rfl tb77 (ev1 rfl) rfl rfl) ?_
  refine lex_w rfl rfl (zah [] [] [0, 1] rfl (ev1 rfl) (ec (ev1 rfl) en) rfl rfl (sasks_d w h hc.may) rfl rfl rfl rfl rfl rfl) rfl (by simp only [upd, za, zaa]; exact rfl) ?_
  refine zag rfl rfl (zac (.inl rfl) (ev1 rfl)) ?_
  refine zag rfl rfl (op_nc rfl (ev1 rfl) (fun s v h => by cases h; exact ⟨_, rfl⟩)) ?_
  refine zag rfl rfl (op_fadm rfl fo80_1 (ev1 rfl)) ?_
  refine zag rfl rfl (op_lddm rfl tb78 (ev1 rfl) rfl) ?_
  refine lex_w rfl rfl (zah [] [] [2] rfl (ev1 rfl) (ec (ev1 rfl) en) rfl rfl (clonePt_d ds ts hr hle.2 (by omega)) rfl rfl rfl (by exact (wrc (sb_arxn hr.nl) rfl)) rfl rfl) rfl (by simp only [upd, za, zaa]; exact rfl) ?_
  refine lex_w rfl rfl (op_mkd 3 rfl rfl) rfl (by simp only [upd, za, zaa]; exact rfl) ?_
  refine zag rfl rfl (op_bldDh (ps := [(0, .tmp 14), (1, .tmp 19), (2, .tmp 24), (3, .tmp 25)]) 3 rfl fl125 zr125 (ec (ev1 rfl) (ec (ev1 rfl) (ec (ev1 rfl) (ec (ev1 rfl) en)))) rfl rfl rfl rfl) ?_
  refine lex_w rfl rfl (op_boxam 4 rfl (ev1 rfl) rfl) rfl (by simp only [upd, za, zaa]; exact rfl) ?_
  refine zag rfl rfl (zac (.inr rfl) (ev1 rfl)) ?_
  refine lex_nil ?_
  refine zae ?_
  refine zad ?_
  refine zab rfl rfl rfl (zac (.inl rfl) (ev1 rfl)) ?_
  refine zab rfl rfl rfl (op_mkf rfl (ec (ev1 rfl) en) en) ?_
  refine zab rfl rfl rfl (zac (.inr rfl) (ev1 rfl)) ?_
  refine zaf ?_
  refine zae ?_
  refine zae ?_
  refine dwp_hole ?_
  refine dwp_fam 5 rfl (by simp only [List.cons_append, List.nil_append, za, zaa]; exact rfl) ?_
  refine zad ?_
  refine zab rfl rfl rfl (zac (.inl rfl) (ev1 rfl)) ?_
  refine zab rfl rfl rfl (op_len rfl sl118 (ev1 rfl)) ?_
  refine zab rfl rfl rfl (zac (.inl rfl) (ev1 rfl)) ?_
  refine zaf ?_
  refine zam ?_
  refine dwp_loopS ⟨hs0, rfl⟩ (α := Nat) (fun k => [(32, .val (.int .i64 (k : Int)))]) [(5, _), (6, _), (30, _), (31, _)] (fun k => [(3, .mpd (kI (dotsS w h ts (l.take k)).1) (ptN 5 (dotsS w h ts (l.take k)).2.length)), (5, .fam (tlM (dotsS w h ts (l.take k)).2))]) [_, _, _, .hole, _, .hole] (fun k => k ≤ l.length) (fun k => l.length - k) 0 [0, 1, 2, 3, 4, 5] (Nat.zero_le _) rfl ⟨rfl, rfl, rfl, rfl, trivial⟩ ⟨rfl, trivial⟩ ⟨rfl, rfl, arxd_fits hr, rfl, rfl, rfl, trivial⟩ ?_
  intro k hx
  simp only [upd, za, zaa, List.cons_append, List.nil_append]
  have hk := hx
  have hs := dotsS_ok hc (l.take k) ts _ (dotOk_nil ts)
  refine zae ?_
  refine zad ?_
  refine zab rfl rfl rfl (op_lss rfl (ev1 rfl) (ev1 rfl)) ?_
  refine zaf ?_
  refine zae ?_
  refine dwp_cond rfl (fun c2 => ?_) (fun c2 => ?_)
  · try simp only [decide_eq_true_eq, decide_eq_false_iff_not, beq_iff_eq, bne_iff_ne, beq_eq_false_iff_ne, bne_eq_false_iff_eq, Bool.not_eq_true', Bool.not_eq_false', Bool.and_eq_true, Bool.or_eq_true, Bool.or_eq_false_iff, ne_eq, Decidable.not_not, Int.not_lt, Int.not_le] at c2
    refine zal ?_
    refine zae ?_
    refine zam ?_
    refine zae ?_
    refine zak 1 (by simp only [holes, List.cons_append, List.nil_append]; exact rfl) ?_
    refine zad ?_
    refine zab rfl rfl rfl (op_ixsr (j := k) rfl sl118 (ev1 rfl) (ev1 rfl) (fun _ => rfl) (by decide) (by omega) (by omega)) ?_
    refine zab rfl rfl rfl (op_ldwd rfl tb93 (ev1 rfl) rfl) ?_
    refine zan rfl rfl rfl (op_alloc 6 rfl zr93 rfl) (by simp only [upd, za, zaa]; exact rfl) ?_
    refine walk_s rfl rfl (op_stwa rfl tb93 (ev1 rfl) (ev1 rfl) rfl rfl rfl rfl) (by simp only [upd, za, zaa]; exact rfl) ?_
    refine zaf ?_
    refine zad ?_
    refine zab rfl rfl rfl (zac (.inl rfl) (ev1 rfl)) ?_
    refine zab rfl rfl rfl (op_ldw rfl tb93 (ev1 rfl) rfl rfl) ?_
    refine zan rfl rfl rfl (zah [4, 2, 3, 5, 0, 1] [] [] rfl (ev1 rfl) (ec (ev1 rfl) en) rfl (by exact mfits _ _ ⟨rfl, arxd_fits hr, ptN_mpd rfl rfl rfl rfl, rfl, rfl, rfl, trivial⟩) (dot_d w h ds ts _ hr hc (dotsS w h ts (l.take k)) hs l[k]) rfl rfl rfl (by exact (wrc rfl (wrc (sb_arxn hr.nl) (wrc (sb_ptNm rfl) (wrc rfl (wrc rfl (wrc rfl rfl))))))) rfl rfl) (by simp only [upd, za, zaa]; exact rfl) ?_
    refine zaf ?_
    refine zad ?_
    refine zab rfl rfl rfl (op_add' rfl (ev1 rfl) (ev1 rfl) (fun _ => IntWalk.i64_in _ (by omega))) ?_
    refine zab rfl rfl rfl (zac (.inl rfl) (ev1 rfl)) ?_
    refine zaf ?_
    refine ⟨k + 1, [0, 1, 2, 3, 4, 5], by omega, by simp only []; omega, rfl, ⟨rfl, rfl, rfl, rfl, rfl, trivial⟩, ⟨rfl, rfl, arxd_fits hr, ptN_mpd (by rw [dotsS_take (by omega)]) rfl (by rw [dotsS_take (by omega)]) rfl, rfl, by rw [dotsS_take (by omega)]; rfl, trivial⟩⟩
  · try simp only [decide_eq_true_eq, decide_eq_false_iff_not, beq_iff_eq, bne_iff_ne, beq_eq_false_iff_ne, bne_eq_false_iff_eq, Bool.not_eq_true', Bool.not_eq_false', Bool.and_eq_true, Bool.or_eq_true, Bool.or_eq_false_iff, ne_eq, Decidable.not_not, Int.not_lt, Int.not_le] at c2
    refine dwp_exit ?_
    refine zae ?_
    rw [List.take_of_length_le (by omega)] at *
    refine zad ?_
    refine zab rfl rfl rfl (zac (.inl rfl) (ev1 rfl)) ?_
    refine walk_i rfl rfl rfl (dop_callI [4, 2, 3, 5, 0, 1] [] rfl (ev1 rfl) (ec (ev1 rfl) en) rfl (by exact mfits _ _ ⟨rfl, arxd_fits hr, ptN_mpd rfl rfl rfl rfl, rfl, rfl, rfl, trivial⟩) (done_i w h ds ts _ hr hc _ (dotsS_ok hc l ts _ (dotOk_nil ts))) rfl rfl rfl rfl (fun I d hf => hf.nl hr (putsC_len ..))) (by simp only [upd, za, zaa]; exact rfl) ?_
    rintro I _ hI hP ⟨ps, h1, rfl⟩
    refine zab rfl rfl rfl (zac (.inr rfl) (ev1 rfl)) ?_
    refine zaf ?_
    refine dwp_ret ?_
    refine kendI (post := fun I => FromCv I w h ds ts (putsC w h ts l)) (I := s0.I) (Mo := []) [] (rs1 rfl (rv_t rfl)) rfl rfl ?_ trivial
    exact ⟨ps, ⟨h1.len, h1.eq, fun q t h2 h3 => let ⟨b, h4, h5⟩ := h1.ne q t h2 h3; ⟨b, fun h6 => h4 (hI b h6), h5⟩⟩, rfl⟩
end Go.Proofs.Ytmpodnadoebclaa
namespace Go.Proofs.Ytmpodnadoebclaa
set_option maxRecDepth 4000
set_option linter.unusedVariables false
set_option linter.unusedSimpArgs false
open Go.RowKit
def D.adr : D → Nat
  | .pin b _ => b
  | _ => 0
def Pins (l : List D) : Prop := ∀ d ∈ l, ∃ b L, d = .pin b L
theorem Pins.at {l : List D} (h : Pins l) {k : Nat} (hk : k < l.length) : ∃ L, l[k] = .pin l[k].adr L := by
  obtain ⟨b, L, e⟩ := h l[k] (List.getElem_mem hk)
  rw [e]
  exact ⟨L, rfl⟩
end Go.Proofs.Ytmpodnadoebclaa
namespace Go.Proofs.Ytmpodnadoebclaa
set_option maxRecDepth 4000
set_option linter.unusedVariables false
set_option linter.unusedSimpArgs false
open Go.RowKit
theorem tb4 : tyB Try.prog 4 = some (false, 1) := by kernel_rfl
theorem tb42 : tyB Try.prog 42 = some (false, 1) := by kernel_rfl
theorem zr4 : zrC Try.prog 4 = some [.bool false] := by kernel_rfl
end Go.Proofs.Ytmpodnadoebclaa
