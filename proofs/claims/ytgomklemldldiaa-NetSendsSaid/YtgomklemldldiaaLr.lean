/- Strings: put together, cut, indexed, ranged over; numbers by their bits. No condition. -/
import Derived.Test.YtgomklemldldiaaLq
namespace Go.Proofs.Ytgomklemldldiaa
set_option linter.unusedVariables false
set_option linter.unusedSimpArgs false
open Go.RowKit

section
variable {P : Program} {pc : Bool} {o : Oper} {F : Fr} {M : List Blk}
theorem op_cat {T T' : TypeId} {x y : Operand} {p q : ByteArray} (ho : o.op = .binOp .add T x y T') (hx : Ev pc F x (.val (.string p))) (hy : Ev pc F y (.val (.string q))) (h : pc = true → p.size + q.size ≤ 9223372036854775807) : DOp P pc o F M [] (.val (.string (p ++ q))) [] := by
  refine op_val2 hx hy (by simp [ho, Op.operands]) fun hp a w e1 e2 => ?_
  unfold execOp
  simp only [ho, e1, e2]
  refine run_v ?_
  have hg : (eqGuard .add T x y (.string p) (.string q)).run P w = .ok () w := by unfold eqGuard; rfl
  rw [Sem.run_bind, hg]
  have h2 := h hp
  have h3 : ¬ (((p.size + q.size : Nat) : Int) > IntKind.i64.max) := by show ¬ (((p.size + q.size : Nat) : Int) > 9223372036854775807); omega
  simp only [Result.andThen, binOp, Op.stringOp]
  rw [if_neg h3]
  rfl
theorem op_slst {T : TypeId} {x : Operand} {lo hi : Option Operand} {p : ByteArray} {l h : Int} {i j : Nat} (ho : o.op = .slice T x lo hi none) (hT : P.underlying T = some .string) (hx : Ev pc F x (.val (.string p))) (hlo : Bd pc F lo 0 l) (hhi : Bd pc F hi p.size h)
    (hl : pc = true → l = (i : Int)) (hh : pc = true → h = (j : Int)) (hb : pc = true → i ≤ j ∧ j ≤ p.size) : DOp P pc o F M [] (.val (.string (p.extract i j))) [] := by
  intro hp a s hok hops _
  obtain ⟨b1, b2⟩ := hb hp
  have hr := ev_at hp hx (by simp [ho, Op.operands]) hops
  have hlo' := bd_at hp hlo (fun u e => by subst e; simp [ho, Op.operands]) hops
  have hhi' := bd_at hp hhi (fun u e => by subst e; simp [ho, Op.operands]) hops
  rw [hl hp] at hlo'
  rw [hh hp] at hhi'
  refine dg_val hok ?_ (.val _)
  unfold execOp
  simp only [ho, hr.val_eq]
  refine run_v ?_
  have sb : ∀ (k : IntKind) (z : Nat) (m : Nat) (cd : BoundsCode), z ≤ m → (Instr.sliceBound (.int k z) m cd).run P s.w = .ok z s.w := fun k z m cd b => by
    simp [Instr.sliceBound, asIntOf, b]
  have hbs : (Instr.sliceBounds false p.size p.size (lo.map a.eval) (hi.map a.eval) none).run P s.w = .ok (i, j, p.size) s.w := by
    rcases hlo' with ⟨q1, q3⟩ | ⟨kl, q1⟩ <;> rcases hhi' with ⟨q2, q4⟩ | ⟨kh, q2⟩ <;> rw [q1, q2]
    · have g1 : i = 0 := by omega
      have g2 : j = p.size := by omega
      simp [Instr.sliceBounds, g1, g2]
    · have g1 : i = 0 := by omega
      simp [Instr.sliceBounds, g1, sb kh j p.size _ b2]
    · have g2 : j = p.size := by omega
      simp [Instr.sliceBounds, g2, sb kl i p.size _ (by omega)]
    · simp [Instr.sliceBounds, sb kh j p.size _ b2, sb kl i j _ b1]
  simp [Instr.sliceAt, Instr.slice, run_underlying hT, Sem.run_bind, hbs]
theorem op_lenst {T : TypeId} {x : Operand} {p : ByteArray} (ho : o.op = .call { callee := .builtin .len, args := #[x], argTypes := #[T] }) (hT : P.underlying T = some .string) (hx : Ev pc F x (.val (.string p))) : DOp P pc o F M [] (.val (.int .i64 p.size)) [] := by
  refine op_val1 hx (by simp [ho, Op.operands, Call.operands]) fun _ a w e1 => run_builtin ho (fun cs => rfl) ?_
  simp [Builtin.len_, e1, run_underlying hT, goInt]
/-- a string that is ranged over -/
theorem op_rgs {T : TypeId} {x : Operand} {p : ByteArray} (j : Nat) (ho : o.op = .range T x) (hT : P.underlying T = some .string) (hx : Ev pc F x (.val (.string p))) (hj : M[j]? = some .hole) : DOp P pc o F M [j] (.loc j 0) [(j, .obj (.stringIter p 0))] := by
  intro hp a s hok hops hfp
  have hj' : s.M[j]? = some .hole := by rw [hfp j (by simp)]; exact hj
  have hjl : j < s.β.length := by rw [hok.len]; exact (List.getElem?_eq_some_iff.1 hj').1
  have hr := ev_at hp hx (by simp [ho, Op.operands]) hops
  have ht : Tr s ⟨s.β.set j (.pointer (some ⟨s.w.heap.size, 0, none⟩)), s.I, s.M.set j (.obj (.stringIter p 0)), s.w.alloc (.stringIter p 0)⟩ := by
    refine tr_new hok hj' _ _ _ (by simp) (fun b hb => by simpa [hb] using (Option.some.inj hb).symm) (fun b h => Below.heap_alloc _ _ _ h) (fun b hb => ?_) (by simp) rfl rfl rfl ⟨_, rfl, by simpa using heap_alloc_new s.w _, trivial⟩
    cases hb; simp
  refine dg_step (v := .pointer (some ⟨s.w.heap.size, 0, none⟩)) ?_ ht rfl (rep_new hjl rfl)
  unfold execOp
  simp only [ho, hr.val_eq]
  refine run_v ?_
  simp [Instr.range, run_underlying hT]
theorem obj_at {s : St} (hok : Ok s) {i b q : Nat} {ob : Obj} (hM : s.M[i]? = some (.obj ob)) (hβ : s.β[i]? = some (.pointer (some ⟨b, q, none⟩))) : s.w.heap[b]? = some ob := by
  obtain ⟨b', e1, e2, _⟩ := hok.blk i _ _ hM hβ
  cases e1
  exact e2
theorem tr_obj {s : St} (ho : Ok s) {i b : Nat} {ob ob' : Obj} (hM : s.M[i]? = some (.obj ob)) (hβ : s.β[i]? = some (.pointer (some ⟨b, 0, none⟩))) (hmh : mapH ob' (.pointer (some ⟨b, 0, none⟩))) : Tr s ⟨s.β, s.I, s.M.set i (.obj ob'), s.w.putObj b ob'⟩ := by
  have hil : i < s.M.length := (List.getElem?_eq_some_iff.1 hM).1
  have hlv : Live s b := live_of hM rfl hβ rfl
  have hbl := (ho.lt b hlv).1
  have := step_set ho i s.M (.pointer (some ⟨b, 0, none⟩)) (.obj ob') (s.w.putObj b ob') rfl (fun _ _ h => .inl h) hil (.inr (.inl hβ)) (by simp)
    ⟨b, rfl, World.putObj_heap_same hbl, hmh⟩
    (fun c hc j k h hne h1 h2 h3 h4 => by
      cases hc
      exact hne (ho.inj j i k _ h _ b h1 h2 h3 h4 hM rfl hβ rfl))
    (fun c hc => by cases hc; exact .inr hlv) (fun c hc => by cases hc; simpa using hbl) (fun _ => False) (fun _ h => h.elim)
    (fun c hc hne _ => World.putObj_heap_other (fun e => hne (by rw [e]; rfl))) rfl rfl rfl (by simp)
  have hil' : i < s.β.length := (List.getElem?_eq_some_iff.1 hβ).1
  have e : s.β.set i (.pointer (some ⟨b, 0, none⟩)) = s.β := by
    have : s.β[i] = .pointer (some ⟨b, 0, none⟩) := (List.getElem?_eq_some_iff.1 hβ).2
    rw [← this, List.set_getElem_self]
  rwa [e] at this
/-- the next letter of it -/
theorem op_nxs {x : Operand} {i q : Nat} {p : ByteArray} {c wd' : Nat} (ho : o.op = .next x true) (hx : Ev pc F x (.loc i 0)) (hM : M[i]? = some (.obj (.stringIter p q))) (hq : pc = true → q < p.size) (hd : Utf8.decode p q = (c, wd')) :
    DOp P pc o F M [i] (.tup [.val (.bool true), .val (.int .i64 q), .val (.int .i32 c)]) [(i, .obj (.stringIter p (q + wd')))] := by
  intro hp a s hok hops hfp
  have hM' : s.M[i]? = some (.obj (.stringIter p q)) := by rw [hfp i (by simp)]; exact hM
  have hr := ev_at hp hx (by simp [ho, Op.operands]) hops
  generalize hv : a.eval x = vx at hr
  cases hr with
  | @loc _ _ b hβ =>
    have hob := obj_at hok hM' hβ
    have ht := tr_obj (ob' := .stringIter p (q + wd')) hok hM' hβ trivial
    refine dg_step (v := .tuple #[.bool true, .int .i64 q, .int .i32 c]) ?_ ht rfl ?_
    · unfold execOp
      simp only [ho, hv]
      refine run_v ?_
      simp [Instr.next, getObj, setObj, Sem.run_bind, Sem.run, hob, Result.andThen, hq hp, hd, goInt, World.putObj]
    · exact Rep.tup (vs := [.bool true, .int .i64 q, .int .i32 c]) rfl fun j d v hj hv => by
        match j with
        | 0 => simp at hj hv; subst hj hv; exact .val _
        | 1 => simp at hj hv; subst hj hv; exact .val _
        | 2 => simp at hj hv; subst hj hv; exact .val _
        | j + 3 => simp at hj
theorem op_nxe {x : Operand} {i q : Nat} {p : ByteArray} (ho : o.op = .next x true) (hx : Ev pc F x (.loc i 0)) (hM : M[i]? = some (.obj (.stringIter p q))) (hq : pc = true → ¬ q < p.size) :
    DOp P pc o F M [i] (.tup [.val (.bool false)]) [] := by
  intro hp a s hok hops hfp
  have hM' : s.M[i]? = some (.obj (.stringIter p q)) := by rw [hfp i (by simp)]; exact hM
  have hr := ev_at hp hx (by simp [ho, Op.operands]) hops
  generalize hv : a.eval x = vx at hr
  cases hr with
  | @loc _ _ b hβ =>
    have hob := obj_at hok hM' hβ
    refine dg_val (v := .tuple #[.bool false]) hok ?_ (Rep.tup (vs := [.bool false]) rfl fun j d v hj hv => by
      match j with
      | 0 => simp at hj hv; subst hj hv; exact .val _
      | j + 1 => simp at hj)
    unfold execOp
    simp only [ho, hv]
    refine run_v ?_
    simp [Instr.next, getObj, Sem.run_bind, Sem.run, hob, Result.andThen, hq hp]
end
section
variable {P : Program} {pc : Bool} {o : Oper} {F : Fr} {M : List Blk}
/-- parts of a row that stays -/
theorem op_slmd {α : Type} {en : α → List Value} {r : List α} {T e : TypeId} {sz by' : Nat} {x : Operand} {lo hi : Option Operand} {l h : Int} {i j : Nat} (ho : o.op = .slice T x lo hi none) (hT : slE P T = some (e, sz, by')) (hx : Ev pc F x (.slf sz r.length (r.flatMap en))) (hlo : Bd pc F lo 0 l) (hhi : Bd pc F hi r.length h)
    (hl : pc = true → l = (i : Int)) (hh : pc = true → h = (j : Int)) (hij : pc = true → i ≤ j ∧ j ≤ r.length) (hen : ∀ a, (en a).length = sz) : DOp P pc o F M [] (.slf sz ((r.drop i).take (j - i)).length (((r.drop i).take (j - i)).flatMap en)) [] := fun hp => by
  have := hij hp
  rw [show ((r.drop i).take (j - i)).length = j - i by rw [List.length_take, List.length_drop]; omega]
  exact op_slsr hen ho hT hx hlo hhi (hl hp) (hh hp) hij hp
theorem op_sltk {α : Type} {en : α → List Value} {r : List α} {T e : TypeId} {sz by' : Nat} {x : Operand} {hi : Option Operand} {h : Int} {j : Nat} (ho : o.op = .slice T x none hi none) (hT : slE P T = some (e, sz, by')) (hx : Ev pc F x (.slf sz r.length (r.flatMap en))) (hhi : Bd pc F hi r.length h)
    (hh : pc = true → h = (j : Int)) (hij : pc = true → j ≤ r.length) (hen : ∀ a, (en a).length = sz) : DOp P pc o F M [] (.slf sz (r.take j).length ((r.take j).flatMap en)) [] :=
  op_slmd (i := 0) ho hT hx (bd_none (z := 0)) hhi (fun _ => rfl) hh (fun hp => ⟨Nat.zero_le _, hij hp⟩) hen
theorem op_sldr {α : Type} {en : α → List Value} {r : List α} {T e : TypeId} {sz by' : Nat} {x : Operand} {lo : Option Operand} {l : Int} {i : Nat} (ho : o.op = .slice T x lo none none) (hT : slE P T = some (e, sz, by')) (hx : Ev pc F x (.slf sz r.length (r.flatMap en))) (hlo : Bd pc F lo 0 l)
    (hl : pc = true → l = (i : Int)) (hij : pc = true → i ≤ r.length) (hen : ∀ a, (en a).length = sz) : DOp P pc o F M [] (.slf sz (r.drop i).length ((r.drop i).flatMap en)) [] := fun hp => by
  have h := op_slmd (M := M) (j := r.length) ho hT hx hlo bd_none hl (fun _ => rfl) (fun hp => ⟨hij hp, Nat.le_refl _⟩) hen hp
  rwa [List.take_of_length_le (by simp)] at h
/-- a field of an element of a row of its own -/
theorem op_ldaf {T T' : TypeId} {x : Operand} {i j c k sz n : Nat} {α : Type} {en : α → List Value} {l : List α} {v : Value} (a0 : α) (ho : o.op = .load T x) (hT : tyB P T = some (false, k)) (hx : Ev pc F x (.aloc i (j * sz + c))) (hM : M[i]? = some (.arr T' sz n (l.flatMap en))) (hen : ∀ a, (en a).length = sz) (hj : pc = true → j < l.length) (hc : c < sz) (hv : (en (l.getD j a0))[c]? = some v) : DOp P pc o F M [i] (.val v) [] := fun hp =>
  op_ldoa ho hT hx hM (by rw [flat_cell hen (hj hp) hc, ← getD_at (a0 := a0) (hj hp)]; exact hv) hp
theorem op_staf {T T' : TypeId} {x y : Operand} {i j c k sz n : Nat} {rw' : Bool} {α : Type} {en : α → List Value} {l : List α} {v : Value} {C : List Value} (a0 q : α) (ho : o.op = .store T x y) (hT : tyB P T = some (rw', k)) (hx : Ev pc F x (.aloc i (j * sz + c))) (hy : Ev pc F y (.val v)) (hM : M[i]? = some (.arr T' sz n (l.flatMap en))) (hC : v.cells.toList = C) (hk : C.length = k) (h1 : C.all (·.oneCell') = true) (hen : ∀ a, (en a).length = sz) (hj : pc = true → j < l.length) (hc : c + C.length ≤ sz)
    (hq : setL (en (l.getD j a0)) c C = en q) : DOp P pc o F M [i] .junk [(i, .arr T' sz n ((l.set j q).flatMap en))] := fun hp =>
  op_sta ho hT hx hy hM hC hk h1 (by rw [flat_len hen]; have := hj hp; calc j * sz + c + C.length ≤ j * sz + sz := by omega
    _ = (j + 1) * sz := by rw [Nat.succ_mul]
    _ ≤ l.length * sz := Nat.mul_le_mul_right _ this) (flat_set_part hen (hj hp) hc (by rw [← getD_at (a0 := a0) (hj hp)]; exact hq)) hp
end
/-- what it hands back, as memory that stays -/
theorem freeze {P : Program} {f : FuncId} {args : List D} {d d' : D} {Mout : List Blk} (h : DFun P f args [] d Mout) (hv : vw [] allv Mout d = some d') : DFun P f args [] d' [] := by
  refine ⟨h.1, fun s vs hok hM hr => (h.2 s vs hok hM hr).mono ?_⟩
  rintro e w' ⟨s', rfl, ht, hor⟩
  rcases hor with ⟨d0, v, rfl, hrep, rfl, hMo⟩ | ⟨d0, v, _, _, hf⟩
  · refine ⟨vst s' [] allv [], rfl, tr_vst hok ht (mfits [] [] trivial) (m := 0) (by rw [hM]; exact Nat.le_refl _) rfl, .inl ⟨d', v, rfl, vw_rep ht.ok hrep d' (by rw [hMo]; exact hv), rfl, rfl⟩⟩
  · exact hf.elim
end Go.Proofs.Ytgomklemldldiaa
