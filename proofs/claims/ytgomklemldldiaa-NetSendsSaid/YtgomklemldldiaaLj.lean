/- Operations that make memory, and write it. Conditions: what a type is, by the kernel. -/
import Derived.Test.YtgomklemldldiaaLi
import Derived.Laws.OwnMore
namespace Go.Proofs.Ytgomklemldldiaa
set_option linter.unusedVariables false
set_option linter.unusedSimpArgs false
open Go.RowKit

/-- a new block, in a place that was kept for it -/
theorem tr_new {s : St} (ho : Ok s) {j : Nat} (hj : s.M[j]? = some .hole) (h' : Value) (k' : Blk) (w' : World) (hn : h' ≠ .nilFunc) (hh : ∀ b, hb h' = some b → b = s.w.heap.size)
    (keep : ∀ b, b < s.w.heap.size → w'.heap[b]? = s.w.heap[b]?) (hlt : ∀ b, hb h' = some b → b < w'.heap.size) (hsz : s.w.heap.size ≤ w'.heap.size) (hos : w'.os = s.w.os) (htape : w'.tape = s.w.tape) (hout : w'.output = s.w.output)
    (hblk : BlkOk ⟨s.β.set j h', s.I, s.M.set j k', w'⟩ h' k') (hk : k'.nf = true := by rfl) : Tr s ⟨s.β.set j h', s.I, s.M.set j k', w'⟩ := by
  have hjl : j < s.M.length := (List.getElem?_eq_some_iff.1 hj).1
  have hβ : s.β[j]? = some .nilFunc := by
    have hjb : j < s.β.length := by rw [ho.len]; exact hjl
    have e : s.β[j]? = some s.β[j] := List.getElem?_eq_getElem hjb
    have : s.β[j] = .nilFunc := ho.blk j .hole _ hj e
    rw [e, this]
  refine step_set ho j s.M h' k' w' rfl (fun i k h => .inl h) hjl (.inl hβ) hn hblk (fun b hb i k h hne h1 h2 h3 h4 => ?_) (fun b hb => .inl (by rw [hh b ((owns_nf hk).1 hb)]; exact Nat.le_refl _)) (fun b hb => hlt b ((owns_nf hk).1 hb)) (fun _ => False) (fun _ h => h.elim) (fun b hb _ _ => keep b hb) hos htape hout hsz
  have := (ho.lt b (live_of h1 h2 h3 h4)).1
  rw [hh b ((owns_nf hk).1 hb)] at this
  omega

/-- cells set, one behind the other -/
def setL : List Value → Nat → List Value → List Value
  | L, _, [] => L
  | L, p, v :: r => setL (L.set p v) (p + 1) r
theorem setL_len : ∀ (C L : List Value) (p : Nat), (setL L p C).length = L.length
  | [], _, _ => rfl
  | v :: r, L, p => by rw [setL, setL_len r]; simp
theorem setL_eq : ∀ (C L : List Value) (p : Nat), p + C.length ≤ L.length → setL L p C = L.take p ++ C ++ L.drop (p + C.length)
  | [], L, p, _ => by simp [setL]
  | v :: r, L, p, h => by
    simp only [List.length_cons] at h
    rw [setL, setL_eq r _ (p + 1) (by simp; omega)]
    have h1 : p < L.length := by omega
    rw [List.take_set, List.drop_set_of_lt (by omega), List.take_succ_eq_append_getElem h1, List.set_append_right _ _ (by simp; omega)]
    simp [show min p L.length = p by omega, show p + 1 + r.length = p + (r.length + 1) by omega]
theorem setL_all {C L : List Value} (h : C.length = L.length) : setL L 0 C = C := by
  rw [setL_eq C L 0 (by omega)]; simp [h]
theorem flat_len {α : Type} {en : α → List Value} {sz : Nat} (hen : ∀ a, (en a).length = sz) : ∀ l : List α, (l.flatMap en).length = l.length * sz
  | [] => by simp
  | a :: l => by rw [List.flatMap_cons, List.length_append, hen, flat_len hen l, List.length_cons, Nat.succ_mul]; omega
theorem flat_drop {α : Type} {en : α → List Value} {sz : Nat} (hen : ∀ a, (en a).length = sz) : ∀ (l : List α) (k : Nat), (l.flatMap en).drop (k * sz) = (l.drop k).flatMap en
  | l, 0 => by simp
  | [], k + 1 => by simp
  | a :: l, k + 1 => by
    rw [List.flatMap_cons, List.drop_append, hen, Nat.succ_mul, List.drop_succ_cons, List.drop_eq_nil_of_le (by rw [hen]; omega), List.nil_append, show k * sz + sz - sz = k * sz by omega, flat_drop hen l k]
theorem flat_take {α : Type} {en : α → List Value} {sz : Nat} (hen : ∀ a, (en a).length = sz) : ∀ (l : List α) (k : Nat), (l.flatMap en).take (k * sz) = (l.take k).flatMap en
  | l, 0 => by simp
  | [], k + 1 => by simp
  | a :: l, k + 1 => by
    rw [List.flatMap_cons, List.take_append, hen, Nat.succ_mul, List.take_succ_cons, List.flatMap_cons, List.take_of_length_le (by rw [hen]; omega), show k * sz + sz - sz = k * sz by omega, flat_take hen l k]
/-- the cells of one of a row, and of a part of it -/
theorem flat_part {α : Type} {en : α → List Value} {sz : Nat} (hen : ∀ a, (en a).length = sz) {l : List α} {j c k : Nat} (hj : j < l.length) (hc : c + k ≤ sz) : ((l.flatMap en).drop (j * sz + c)).take k = ((en l[j]).drop c).take k := by
  rw [← List.drop_drop, flat_drop hen, List.drop_eq_getElem_cons hj, List.flatMap_cons, List.drop_append_of_le_length (by rw [hen]; omega), List.take_append_of_le_length (by rw [List.length_drop, hen]; omega)]
theorem flat_one {α : Type} {en : α → List Value} {sz : Nat} (hen : ∀ a, (en a).length = sz) {l : List α} {j : Nat} (hj : j < l.length) : ((l.flatMap en).drop (j * sz)).take sz = en l[j] := by
  have := flat_part hen (c := 0) (k := sz) hj (by omega)
  rw [Nat.add_zero] at this
  rw [this, List.drop_zero, List.take_of_length_le (by rw [hen]; exact Nat.le_refl _)]
theorem flat_cell {α : Type} {en : α → List Value} {sz : Nat} (hen : ∀ a, (en a).length = sz) {l : List α} {j c : Nat} (hj : j < l.length) (hc : c < sz) : (l.flatMap en)[j * sz + c]? = (en l[j])[c]? := by
  have := flat_part hen (c := c) (k := 1) hj (by omega)
  have h := congrArg (fun x : List Value => x[0]?) this
  simpa [List.getElem?_take, List.getElem?_drop] using h
theorem flat_set {α : Type} {en : α → List Value} {sz : Nat} (hen : ∀ a, (en a).length = sz) {l : List α} {j : Nat} (hj : j < l.length) (x : α) : setL (l.flatMap en) (j * sz) (en x) = (l.set j x).flatMap en := by
  have h1 : (j + 1) * sz ≤ l.length * sz := Nat.mul_le_mul_right _ hj
  rw [Nat.succ_mul] at h1
  rw [setL_eq _ _ _ (by rw [hen, flat_len hen]; exact h1), hen, show j * sz + sz = (j + 1) * sz by rw [Nat.succ_mul], flat_take hen, flat_drop hen]
  conv => rhs; rw [List.set_eq_take_append_cons_drop]
  rw [if_pos hj, List.flatMap_append, List.flatMap_cons, List.append_assoc]
theorem flat_set_part {α : Type} {en : α → List Value} {sz : Nat} (hen : ∀ a, (en a).length = sz) {l : List α} {j c : Nat} {C : List Value} (hj : j < l.length) (hc : c + C.length ≤ sz) {x : α} (hx : setL (en l[j]) c C = en x) : setL (l.flatMap en) (j * sz + c) C = (l.set j x).flatMap en := by
  rw [← flat_set hen hj, ← hx]
  have h1 : (j + 1) * sz ≤ l.length * sz := Nat.mul_le_mul_right _ hj
  rw [Nat.succ_mul] at h1
  have hl := flat_len hen l
  have e1 : l.flatMap en = (l.flatMap en).take (j * sz) ++ en l[j] ++ (l.flatMap en).drop (j * sz + sz) := by
    have h2 := flat_one hen hj
    rw [← h2, List.append_assoc, ← List.drop_drop, List.take_append_drop, List.take_append_drop]
  have hlen0 : ((l.flatMap en).take (j * sz)).length = j * sz := by rw [List.length_take, hl]; omega
  generalize hA : (l.flatMap en).take (j * sz) = A at e1 hlen0
  generalize hB : (l.flatMap en).drop (j * sz + sz) = B at e1
  generalize l.flatMap en = X at e1 hl
  subst e1
  have he := hen l[j]
  generalize en l[j] = E at *
  have hlE : (setL E c C).length = E.length := setL_len _ _ _
  rw [setL_eq C _ _ (by simp; omega), setL_eq (setL E c C) _ _ (by simp; omega), hlE, setL_eq C E c (by omega)]
  have t1 : (A ++ E ++ B).take (j * sz + c) = A ++ E.take c := by
    rw [List.append_assoc, List.take_append, List.take_of_length_le (by omega), hlen0, show j * sz + c - j * sz = c by omega, List.take_append_of_le_length (by omega)]
  have t2 : (A ++ E ++ B).drop (j * sz + c + C.length) = E.drop (c + C.length) ++ B := by
    rw [List.append_assoc, List.drop_append, List.drop_eq_nil_of_le (by omega), List.nil_append, hlen0, show j * sz + c + C.length - j * sz = c + C.length by omega, List.drop_append_of_le_length (by omega)]
  have t3 : (A ++ E ++ B).take (j * sz) = A := by
    rw [List.append_assoc, List.take_append_of_le_length (by omega), List.take_of_length_le (by omega)]
  have t4 : (A ++ E ++ B).drop (j * sz + E.length) = B := by
    rw [List.drop_append, List.drop_eq_nil_of_le (by simp; omega), List.nil_append]
    simp [hlen0]
  rw [t1, t2, t3, t4]
  simp

theorem setCells_block (b : Nat) : ∀ (C : List Value) (p : Nat) (w : World) (L : List Value) (T : TypeId), w.heap[b]? = some (.cells L.toArray T (0, 0)) → (w.setCells b p C).heap[b]? = some (.cells (setL L p C).toArray T (0, 0))
  | [], _, _, _, _, h => h
  | v :: r, p, w, L, T, h => by
    rw [World.setCells, setL]
    refine setCells_block b r (p + 1) _ _ T ?_
    simp only [World.setCell, Array.getElem?_modify]
    simp [h]
theorem setCells_other (b : Nat) : ∀ (C : List Value) (p : Nat) (w : World) (k : Nat), k ≠ b → (w.setCells b p C).heap[k]? = w.heap[k]?
  | [], _, _, _, _ => rfl
  | v :: r, p, w, k, h => by
    rw [World.setCells, setCells_other b r _ _ k h]
    exact Below.heap_setCell _ _ _ _ h
theorem setCells_rest (b : Nat) : ∀ (C : List Value) (p : Nat) (w : World), (w.setCells b p C).heap.size = w.heap.size ∧ (w.setCells b p C).os = w.os ∧ (w.setCells b p C).tape = w.tape ∧ (w.setCells b p C).output = w.output
  | [], _, _ => ⟨rfl, rfl, rfl, rfl⟩
  | v :: r, p, w => by
    rw [World.setCells]
    obtain ⟨h1, h2, h3, h4⟩ := setCells_rest b r (p + 1) (w.setCell ⟨b, p, none⟩ v)
    exact ⟨h1.trans (by simp [World.setCell]), h2, h3, h4⟩

/-- a store into a block that the call may write -/
theorem tr_store {s : St} (ho : Ok s) {i : Nat} {k k' : Blk} {h : Value} {b : Nat} (hi : s.M[i]? = some k) (hl : k.live = true) (hh : s.β[i]? = some h) (hbb : hb h = some b) (p : Nat) (C : List Value)
    (hblk : BlkOk ⟨s.β.set i h, s.I, s.M.set i k', s.w.setCells b p C⟩ h k') : Tr s ⟨s.β.set i h, s.I, s.M.set i k', s.w.setCells b p C⟩ := by
  have hil : i < s.M.length := (List.getElem?_eq_some_iff.1 hi).1
  obtain ⟨r1, r2, r3, r4⟩ := setCells_rest b C p s.w
  have hko := ho.blk i k h hi hh
  have tw : ∀ b', owns k' h b' → owns k h b' := fun b' q => (owns_blk hko hbb).2 (owns_hb hbb q)
  refine step_set ho i s.M h k' _ rfl (fun i k h => .inl h) hil (.inr (.inl hh)) ((ho.blk i k h hi hh).live_ne hl) hblk (fun b' hb' j kj hj hne h1 h2 h3 h4 => ?_) (fun b' hb' => .inr (live_of hi hl hh (tw b' hb'))) (fun b' hb' => ?_) (fun _ => False) (fun _ h => h.elim) (fun b' hlt hne _ => ?_) r2 r3 r4 (by rw [r1]; exact Nat.le_refl _)
  · exact hne (ho.inj j i kj k hj h b' h1 h2 h3 h4 hi hl hh (tw b' hb'))
  · rw [r1]; exact (ho.lt b' (live_of hi hl hh (tw b' hb'))).1
  · refine setCells_other b C p s.w b' fun e => hne ?_
    rw [e]; exact owns_of hblk hbb

section
variable {P : Program} {pc : Bool} {o : Oper} {F : Fr} {M : List Blk}

theorem dg_step {a : Act} {s s' : St} {d : D} {v : Value} {wr : List (Nat × Blk)} (h : (execOp a.eval o).run P s.w = .ok (.value v) s'.w) (ht : Tr s s') (hM : s'.M = upd s.M wr) (hr : Rep s' d v) : DGives P s (fun s' v => s'.M = upd s.M wr ∧ Rep s' d v) ((execOp a.eval o).run P s.w) := by
  rw [h]; exact ⟨s', rfl, ht, hM, hr⟩
theorem dg_skip {a : Act} {s s' : St} {wr : List (Nat × Blk)} (h : (execOp a.eval o).run P s.w = .ok .skip s'.w) (ht : Tr s s') (hM : s'.M = upd s.M wr) : DGives P s (fun s' v => s'.M = upd s.M wr ∧ Rep s' .junk v) ((execOp a.eval o).run P s.w) := by
  rw [h]; exact ⟨s', rfl, ht, hM, .junk _⟩

theorem run_newVar (t : TypeId) (v : Value) (w : World) : (newVar t v).run P w = .ok ⟨w.heap.size, 0, none⟩ (w.alloc (.cells v.cells t)) := rfl
theorem zrC_spec {T : TypeId} {Z : List Value} (h : zrC P T = some Z) : ∃ i z, P.info? T = some i ∧ i.zero = some z ∧ z.cells.toList = Z := by
  simp only [zrC, Option.bind_eq_some_iff, Option.map_eq_some_iff] at h
  obtain ⟨i, h1, z, h2, h3⟩ := h
  exact ⟨i, z, h1, h2, h3⟩
theorem new_flat {s : St} (ho : Ok s) {j : Nat} (hj : s.M[j]? = some .hole) (T : TypeId) (cs : Array Value) (L : List Value) (hL : cs.toList = L) :
    Tr s ⟨s.β.set j (.pointer (some ⟨s.w.heap.size, 0, none⟩)), s.I, s.M.set j (.flat T L), s.w.alloc (.cells cs T)⟩ := by
  subst hL
  refine tr_new ho hj _ _ _ (by simp) (fun b hb => by simpa [hb] using (Option.some.inj hb).symm) (fun b h => Below.heap_alloc _ _ _ h) (fun b hb => ?_) (by simp) rfl rfl rfl ⟨_, rfl, by simpa using heap_alloc_new s.w _⟩
  cases hb; simp
theorem rep_new {s : St} {j : Nat} {h : Value} {M' : List Blk} {w' : World} {b : Nat} (hj : j < s.β.length) (hh : h = .pointer (some ⟨b, 0, none⟩)) : Rep ⟨s.β.set j h, s.I, M', w'⟩ (.loc j 0) (.pointer (some ⟨b, 0, none⟩)) :=
  .loc (by simp [hj, hh])

/-- a new variable of zeros, in the place j -/
theorem op_alloc {T : TypeId} {Z : List Value} (j : Nat) (ho : o.op = .alloc T) (hT : zrC P T = some Z) (hj : M[j]? = some .hole) : DOp P pc o F M [j] (.loc j 0) [(j, .flat T Z)] := by
  intro hp a s hok hops hfp
  obtain ⟨i, z, e1, e2, e3⟩ := zrC_spec hT
  have hj' : s.M[j]? = some .hole := by rw [hfp j (by simp)]; exact hj
  have hjl : j < s.β.length := by rw [hok.len]; exact (List.getElem?_eq_some_iff.1 hj').1
  refine dg_step (v := .pointer (some ⟨s.w.heap.size, 0, none⟩)) ?_ (new_flat hok hj' T z.cells Z e3) rfl (rep_new hjl rfl)
  unfold execOp
  simp only [ho]
  exact run_v (by simp [Instr.alloc, zeroValue, typeInfo, e1, e2, Sem.run_bind, run_newVar])
/-- a new variable that holds a plain value -/
theorem op_box {T : TypeId} {x : Operand} {v : Value} {L : List Value} (j : Nat) (ho : o.op = .box T x) (hx : Ev pc F x (.val v)) (hL : v.cells.toList = L) (hj : M[j]? = some .hole) : DOp P pc o F M [j] (.loc j 0) [(j, .flat T L)] := by
  intro hp a s hok hops hfp
  have h1 := (ev_at hp hx (by simp [ho, Op.operands]) hops).val_eq
  have hj' : s.M[j]? = some .hole := by rw [hfp j (by simp)]; exact hj
  have hjl : j < s.β.length := by rw [hok.len]; exact (List.getElem?_eq_some_iff.1 hj').1
  refine dg_step (v := .pointer (some ⟨s.w.heap.size, 0, none⟩)) ?_ (new_flat hok hj' T v.cells L hL) rfl (rep_new hjl rfl)
  unfold execOp
  simp only [ho, h1]
  exact run_v (by simp only [Instr.box, Sem.run_bind, run_newVar, Result.andThen_ok, Sem.run_pure])
theorem op_boxa {T : TypeId} {x : Operand} {L : List Value} (j : Nat) (ho : o.op = .box T x) (hx : Ev pc F x (.val (.agg L.toArray))) (hj : M[j]? = some .hole) : DOp P pc o F M [j] (.loc j 0) [(j, .flat T L)] := op_box j ho hx rfl hj
theorem op_boxi {T : TypeId} {x : Operand} {k : IntKind} {z : Int} (j : Nat) (ho : o.op = .box T x) (hx : Ev pc F x (.val (.int k z))) (hj : M[j]? = some .hole) : DOp P pc o F M [j] (.loc j 0) [(j, .flat T [.int k z])] := op_box j ho hx rfl hj
theorem op_boxb {T : TypeId} {x : Operand} {z : Bool} (j : Nat) (ho : o.op = .box T x) (hx : Ev pc F x (.val (.bool z))) (hj : M[j]? = some .hole) : DOp P pc o F M [j] (.loc j 0) [(j, .flat T [.bool z])] := op_box j ho hx rfl hj
theorem op_boxs {T : TypeId} {x : Operand} {z : ByteArray} (j : Nat) (ho : o.op = .box T x) (hx : Ev pc F x (.val (.string z))) (hj : M[j]? = some .hole) : DOp P pc o F M [j] (.loc j 0) [(j, .flat T [.string z])] := op_box j ho hx rfl hj
/-- .. a value with addresses, of one cell -/
theorem op_boxm {T : TypeId} {x : Operand} {d : D} (j : Nat) (ho : o.op = .box T x) (hx : Ev pc F x d) (h1 : ∀ (s : St) v, Rep s d v → v.cells = #[v]) (hj : M[j]? = some .hole) : DOp P pc o F M [j] (.loc j 0) [(j, .mix T [d])] := by
  intro hp a s hok hops hfp
  have hr := ev_at hp hx (by simp [ho, Op.operands]) hops
  have hc := h1 s _ hr
  have hj' : s.M[j]? = some .hole := by rw [hfp j (by simp)]; exact hj
  have hjl : j < s.β.length := by rw [hok.len]; exact (List.getElem?_eq_some_iff.1 hj').1
  have hβ : s.β[j]? = some .nilFunc := by
    have e : s.β[j]? = some s.β[j] := List.getElem?_eq_getElem hjl
    have : s.β[j] = .nilFunc := hok.blk j .hole _ hj' e
    rw [e, this]
  have ht : Tr s ⟨s.β.set j (.pointer (some ⟨s.w.heap.size, 0, none⟩)), s.I, s.M.set j (.mix T [d]), s.w.alloc (.cells #[a.eval x] T)⟩ := by
    refine tr_new hok hj' _ _ _ (by simp) (fun b hb => by simpa [hb] using (Option.some.inj hb).symm) (fun b h => Below.heap_alloc _ _ _ h) (fun b hb => ?_) (by simp) rfl rfl rfl ⟨_, [a.eval x], rfl, heap_alloc_new s.w _, rfl, fun k e v hk hv => ?_⟩
    · cases hb; simp
    · cases k with
      | zero =>
        simp at hk hv
        subst hk; subst hv
        refine Rep.mono' (s := s) (s' := ⟨s.β.set j (.pointer (some ⟨s.w.heap.size, 0, none⟩)), s.I, s.M.set j (.mix T [d]), s.w.alloc (.cells #[a.eval x] T)⟩) (fun i h hi hne => ?_) (fun _ h => h) (fun b hI => Below.heap_alloc _ _ _ (hok.il b hI)) hr
        show (s.β.set j _)[i]? = some h
        by_cases e : j = i
        · subst e; rw [hi] at hβ; exact absurd (Option.some.inj hβ) hne
        · rw [List.getElem?_set_ne e]; exact hi
      | succ k => simp at hk
  refine dg_step (v := .pointer (some ⟨s.w.heap.size, 0, none⟩)) ?_ ht rfl (rep_new hjl rfl)
  unfold execOp
  simp only [ho]
  exact run_v (by simp only [Instr.box, Sem.run_bind, run_newVar, Result.andThen_ok, Sem.run_pure, hc])

/-- a plain value into a variable -/
theorem run_store {T : TypeId} {x y : Operand} {a : Act} {w : World} {b p k : Nat} {rw' : Bool} {v : Value} {C : List Value} (ho : o.op = .store T x y) (hT : tyB P T = some (rw', k)) (hx : a.eval x = .pointer (some ⟨b, p, none⟩)) (hy : a.eval y = v) (hC : v.cells.toList = C) (hk : C.length = k)
    (hc : ∀ j, j < C.length → (w.cell? ⟨b, p + j, none⟩).isSome = true) (hf : ∀ j, j < C.length → w.frozen? ⟨b, p + j, none⟩ = false) (h1 : ∀ u ∈ C, u.oneCell' = true) : (execOp a.eval o).run P w = .ok .skip (w.setCells b p C) := by
  obtain ⟨d, i, e1, e2, e3, e4⟩ := tyB_spec hT
  subst hC
  have := run_storeCells_cells (P := P) b p v.cells.toList 0 w (by simpa using hc) (by simpa using hf) h1
  simp only [Nat.add_zero] at this
  unfold execOp
  simp only [ho, hx, hy]
  refine run_u ?_
  have hs : v.cells.size = i.size := by rw [e4, ← hk]; simp
  simp [Instr.storeAt, Instr.sureAddr, storeVar, sizeOf, typeInfo, e2, hs, this]
theorem op_st {T T' : TypeId} {x y : Operand} {i p k : Nat} {rw' : Bool} {v : Value} {L C L' : List Value} (ho : o.op = .store T x y) (hT : tyB P T = some (rw', k)) (hx : Ev pc F x (.loc i p)) (hy : Ev pc F y (.val v)) (hM : M[i]? = some (.flat T' L)) (hC : v.cells.toList = C) (hk : C.length = k) (h1 : C.all (·.oneCell') = true)
    (hfit : p + C.length ≤ L.length) (hL : setL L p C = L') : DOp P pc o F M [i] .junk [(i, .flat T' L')] := by
  intro hp a s hok hops hfp
  have hr := ev_at hp hx (by simp [ho, Op.operands]) hops
  have h2 := (ev_at hp hy (by simp [ho, Op.operands]) hops).val_eq
  have hM' : s.M[i]? = some (.flat T' L) := by rw [hfp i (by simp)]; exact hM
  subst hL
  generalize hv : a.eval x = vx at hr
  cases hr with
  | @loc _ _ b h =>
    have hc := flat_cells hok hM' h rfl
    have hcell := cellsAt_block hc 0
    have hrun := run_store (P := P) (w := s.w) ho hT hv h2 hC hk (fun j hj => by
        have := hcell (p + j) _ (by simpa using List.getElem?_eq_getElem (by omega : p + j < L.length))
        rw [Nat.zero_add] at this
        rw [this]; rfl) (fun j hj => by simp [World.frozen?, hc]) (fun u hu => List.all_eq_true.1 h1 u hu)
    exact dg_skip (s' := ⟨s.β.set i (.pointer (some ⟨b, 0, none⟩)), s.I, s.M.set i (.flat T' (setL L p C)), s.w.setCells b p C⟩) hrun (tr_store hok hM' rfl h rfl p C ⟨b, rfl, setCells_block b C p s.w L T' hc⟩) rfl
/-- the whole variable -/
theorem op_stw {T T' : TypeId} {x y : Operand} {i k : Nat} {rw' : Bool} {v : Value} {L C : List Value} (ho : o.op = .store T x y) (hT : tyB P T = some (rw', k)) (hx : Ev pc F x (.loc i 0)) (hy : Ev pc F y (.val v)) (hM : M[i]? = some (.flat T' L)) (hC : v.cells.toList = C) (hk : C.length = k) (h1 : C.all (·.oneCell') = true)
    (hfit : C.length = L.length) : DOp P pc o F M [i] .junk [(i, .flat T' C)] := op_st ho hT hx hy hM hC hk h1 (by omega) (setL_all hfit)
theorem op_stwa {T T' : TypeId} {x y : Operand} {i k : Nat} {rw' : Bool} {L C : List Value} (ho : o.op = .store T x y) (hT : tyB P T = some (rw', k)) (hx : Ev pc F x (.loc i 0)) (hy : Ev pc F y (.val (.agg C.toArray))) (hM : M[i]? = some (.flat T' L)) (hk : C.length = k) (h1 : C.all (·.oneCell') = true)
    (hfit : C.length = L.length) : DOp P pc o F M [i] .junk [(i, .flat T' C)] := op_stw ho hT hx hy hM rfl hk h1 hfit
theorem op_stwi {T T' : TypeId} {x y : Operand} {i : Nat} {rw' : Bool} {kd : IntKind} {z : Int} {v : Value} (ho : o.op = .store T x y) (hT : tyB P T = some (rw', 1)) (hx : Ev pc F x (.loc i 0)) (hy : Ev pc F y (.val (.int kd z))) (hM : M[i]? = some (.flat T' [v])) : DOp P pc o F M [i] .junk [(i, .flat T' [.int kd z])] :=
  op_stw ho hT hx hy hM rfl rfl rfl rfl
theorem op_stwb {T T' : TypeId} {x y : Operand} {i : Nat} {rw' : Bool} {z : Bool} {v : Value} (ho : o.op = .store T x y) (hT : tyB P T = some (rw', 1)) (hx : Ev pc F x (.loc i 0)) (hy : Ev pc F y (.val (.bool z))) (hM : M[i]? = some (.flat T' [v])) : DOp P pc o F M [i] .junk [(i, .flat T' [.bool z])] :=
  op_stw ho hT hx hy hM rfl rfl rfl rfl
/-- one cell of a variable -/
theorem op_st1 {T T' : TypeId} {x y : Operand} {i p : Nat} {rw' : Bool} {kd : IntKind} {z : Int} {L L' : List Value} (ho : o.op = .store T x y) (hT : tyB P T = some (rw', 1)) (hx : Ev pc F x (.loc i p)) (hy : Ev pc F y (.val (.int kd z))) (hM : M[i]? = some (.flat T' L)) (hfit : p < L.length) (hL : L.set p (.int kd z) = L') : DOp P pc o F M [i] .junk [(i, .flat T' L')] :=
  op_st ho hT hx hy hM rfl rfl rfl hfit hL
theorem op_sta {T T' : TypeId} {x y : Operand} {i p k sz n : Nat} {rw' : Bool} {v : Value} {L C L' : List Value} (ho : o.op = .store T x y) (hT : tyB P T = some (rw', k)) (hx : Ev pc F x (.aloc i p)) (hy : Ev pc F y (.val v)) (hM : M[i]? = some (.arr T' sz n L)) (hC : v.cells.toList = C) (hk : C.length = k) (h1 : C.all (·.oneCell') = true)
    (hfit : p + C.length ≤ L.length) (hL : setL L p C = L') : DOp P pc o F M [i] .junk [(i, .arr T' sz n L')] := by
  intro hp a s hok hops hfp
  have hr := ev_at hp hx (by simp [ho, Op.operands]) hops
  have h2 := (ev_at hp hy (by simp [ho, Op.operands]) hops).val_eq
  have hM' : s.M[i]? = some (.arr T' sz n L) := by rw [hfp i (by simp)]; exact hM
  subst hL
  generalize hv : a.eval x = vx at hr
  cases hr with
  | @aloc _ _ n' c b h =>
    have hk' : s.w.ownsRow 0 T' sz _ n L := hok.blk i _ _ hM' h
    rcases hk'.2 with ⟨e1, e2⟩ | ⟨g, cap, cur, e1, e2, e3, e4, e5, e6, e7⟩
    · cases e1
    · cases e1
      have hle := Nat.mul_le_mul_right sz e4
      have hlL := hk'.1
      have hcell := cellsAt_block e3 0
      have hrun := run_store (P := P) (w := s.w) ho hT hv h2 hC hk (fun j hj => by
          have := hcell (p + j) _ (by simpa using List.getElem?_eq_getElem (by simp; omega : p + j < cur.toList.length))
          rw [Nat.zero_add] at this
          rw [this]; rfl) (fun j hj => by simp [World.frozen?, e3]) (fun u hu => List.all_eq_true.1 h1 u hu)
      refine dg_skip (s' := ⟨s.β.set i (.slice (some ⟨b, 0, none⟩) n c), s.I, s.M.set i (.arr T' sz n (setL L p C)), s.w.setCells b p C⟩) hrun (tr_store hok hM' rfl h rfl p C ?_) rfl
      have hsl := setL_len C cur.toList p
      refine ⟨by rw [setL_len]; exact hlL, .inr ⟨b, c, (setL cur.toList p C).toArray, rfl, e2, setCells_block b C p s.w cur.toList T' (by simpa using e3), e4, e5, by simp [hsl]; simpa using e6, ?_⟩⟩
      have hcurlen : cur.toList.length = c * sz := by simpa using e6
      rw [setL_eq C cur.toList p (by omega), setL_eq C L p hfit]
      have hcut : cur.toList = L ++ cur.toList.drop L.length := by
        have := List.take_append_drop (n * sz) cur.toList
        rw [e7, ← hlL] at this
        exact this.symm
      generalize cur.toList.drop L.length = R at hcut
      rw [hcut]
      have t1 : (L ++ R).take p = L.take p := List.take_append_of_le_length (by omega)
      have t2 : (L ++ R).drop (p + C.length) = L.drop (p + C.length) ++ R := List.drop_append_of_le_length (by omega)
      rw [t1, t2, ← hlL, ← List.append_assoc]
      refine List.take_left' ?_
      simp; omega
/-- a value of one cell into a cell of a variable with addresses -/
theorem op_stm {T T' : TypeId} {x y : Operand} {i p : Nat} {rw' : Bool} {d : D} {l : List D} (ho : o.op = .store T x y) (hT : tyB P T = some (rw', 1)) (hx : Ev pc F x (.loc i p)) (hy : Ev pc F y d) (h1 : ∀ (s : St) v, Rep s d v → v.cells = #[v] ∧ v.oneCell' = true) (hM : M[i]? = some (.mix T' l)) (hfit : p < l.length) : DOp P pc o F M [i] .junk [(i, .mix T' (l.set p d))] := by
  intro hp a s hok hops hfp
  have hr := ev_at hp hx (by simp [ho, Op.operands]) hops
  have hry := ev_at hp hy (by simp [ho, Op.operands]) hops
  obtain ⟨hc1, hc2⟩ := h1 s _ hry
  have hM' : s.M[i]? = some (.mix T' l) := by rw [hfp i (by simp)]; exact hM
  generalize hv : a.eval x = vx at hr
  cases hr with
  | @loc _ _ b h =>
    obtain ⟨b', vs, e1, e2, e3, e4⟩ := hok.blk i _ _ hM' h
    cases e1
    have hcell := cellsAt_block e2 0
    have hrun := run_store (P := P) (w := s.w) (C := [a.eval y]) ho hT hv rfl (by rw [hc1]) rfl (fun j hj => by
        have hj0 : j = 0 := by simp at hj; exact hj
        subst hj0
        have hp' : p < vs.length := by omega
        have := hcell p vs[p] (by simp [hp'])
        rw [Nat.zero_add] at this
        rw [Nat.add_zero, this]; rfl) (fun j hj => by simp [World.frozen?, e2]) (fun u hu => by rw [List.mem_singleton.1 hu]; exact hc2)
    refine dg_skip (s' := ⟨s.β.set i (.pointer (some ⟨b, 0, none⟩)), s.I, s.M.set i (.mix T' (l.set p d)), s.w.setCells b p [a.eval y]⟩) hrun (tr_store hok hM' rfl h rfl p _ ?_) rfl
    refine ⟨b, vs.set p (a.eval y), rfl, setCells_block b _ p s.w vs T' e2, by simp [e3], fun j e v hj hv' => ?_⟩
    have hβ : s.β.set i (.pointer (some ⟨b, 0, none⟩)) = s.β := by
      apply List.ext_getElem?
      intro k
      by_cases e : i = k
      · subst e; rw [List.getElem?_set_self (List.getElem?_eq_some_iff.1 h).1, h]
      · rw [List.getElem?_set_ne e]
    have lift : ∀ {e : D} {v : Value}, Rep s e v → Rep ⟨s.β.set i (.pointer (some ⟨b, 0, none⟩)), s.I, s.M.set i (.mix T' (l.set p d)), s.w.setCells b p [a.eval y]⟩ e v := by
      intro e v hr
      refine Rep.mono' (s := s) (s' := ⟨s.β.set i (.pointer (some ⟨b, 0, none⟩)), s.I, s.M.set i (.mix T' (l.set p d)), s.w.setCells b p [a.eval y]⟩) (fun k x hk _ => by show (s.β.set i _)[k]? = _; rw [hβ]; exact hk) (fun _ h => h) (fun b' hI => setCells_other b _ p s.w b' fun e => ?_) hr
      subst e
      exact (hok.lt b' (live_of hM' rfl h rfl)).2 hI
    by_cases e' : p = j
    · subst e'
      rw [List.getElem?_set_self hfit] at hj
      rw [List.getElem?_set_self (by omega)] at hv'
      cases hj; cases hv'
      exact lift hry
    · rw [List.getElem?_set_ne e'] at hj hv'
      exact lift (e4 j e v hj hv')
end
end Go.Proofs.Ytgomklemldldiaa
