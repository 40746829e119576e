/- Rows of one's own that hold data: made, measured, looked into; parts of rows of one's own, measured, looked into. No condition. -/
import Derived.Test.YtgomklemldldiaaLon
namespace Go.Proofs.Ytgomklemldldiaa
set_option linter.unusedVariables false
set_option linter.unusedSimpArgs false
open Go.RowKit

section
variable {P : Program} {pc : Bool} {o : Oper} {F : Fr} {M : List Blk}
theorem rep_own_cells {s : St} {i sz p n : Nat} {v : Value} (h : Rep s (.own i sz p n) v) : v.cells = #[v] := by cases h <;> rfl
theorem arx_cells {s : St} (hok : Ok s) {i : Nat} {T' : TypeId} {sz n n' c b : Nat} {l : List D} (h1 : s.M[i]? = some (.arx T' sz n l)) (h2 : s.β[i]? = some (.slice (some ⟨b, 0, none⟩) n' c)) : n' = n ∧ l.length = n * sz ∧ n ≤ c ∧ c ≤ maxLen ∧ ∃ vs : List Value, vs.length = l.length ∧ cellsAt s.w b 0 vs ∧ ∀ (j : Nat) d v, l[j]? = some d → vs[j]? = some v → Rep s d v := by
  obtain ⟨vs, hk, q3, q4⟩ := hok.blk i _ _ h1 h2
  rcases hk.2 with ⟨e1, e2⟩ | ⟨g, cap, cur, e1, e2, e3, e4, e5, e6, e7⟩
  · cases e1
  · cases e1
    have hc0 := cellsAt_sub (cellsAt_block e3 0) 0 (n * sz)
    exact ⟨rfl, by rw [← q3]; exact hk.1, e4, e5, vs, q3, by simpa [e7] using hc0, q4⟩
theorem op_lenx {T T' : TypeId} {x : Operand} {q : TypeId × Nat × Nat} {i sz n : Nat} {l : List D} (ho : o.op = .call { callee := .builtin .len, args := #[x], argTypes := #[T] }) (hT : slE P T = some q) (hx : Ev pc F x (.arr i)) (hM : M[i]? = some (.arx T' sz n l)) : DOp P pc o F M [i] (.val (.int .i64 n)) [] := by
  intro hp a s hok hops hfp
  obtain ⟨e1, _⟩ := slE_spec hT
  have hr := ev_at hp hx (by simp [ho, Op.operands, Call.operands]) hops
  generalize hv : a.eval x = vx at hr
  cases hr with
  | arr h =>
    have hM' : s.M[i]? = some (.arx T' sz n l) := by rw [hfp i (by simp)]; exact hM
    obtain ⟨vs, hk, _⟩ := hok.blk i _ _ hM' h
    refine dg_val hok (run_builtin ho (fun cs => rfl) ?_) (.val (.int .i64 n))
    rcases hk.2 with ⟨e2, e3⟩ | ⟨g, cap, cur, e2, _⟩
    · cases e2; simp [Builtin.len_, hv, run_underlying e1, goInt, e3]
    · cases e2; simp [Builtin.len_, hv, run_underlying e1, goInt]
/-- a part's length -/
theorem op_leno {T : TypeId} {x : Operand} {q : TypeId × Nat × Nat} {i sz p n : Nat} (ho : o.op = .call { callee := .builtin .len, args := #[x], argTypes := #[T] }) (hT : slE P T = some q) (hx : Ev pc F x (.own i sz p n)) : DOp P pc o F M [] (.val (.int .i64 n)) [] := by
  intro hp a s hok hops hfp
  obtain ⟨e1, _⟩ := slE_spec hT
  have hr := ev_at hp hx (by simp [ho, Op.operands, Call.operands]) hops
  generalize hv : a.eval x = vx at hr
  cases hr with
  | own h ha hN hz hn hc => exact dg_val hok (run_builtin ho (fun cs => rfl) (by simp [Builtin.len_, hv, run_underlying e1, goInt])) (.val _)
  | ownnil h => exact dg_val hok (run_builtin ho (fun cs => rfl) (by simp [Builtin.len_, hv, run_underlying e1, goInt])) (.val _)
/-- an element's place -/
theorem op_ixx {T T' e : TypeId} {x y : Operand} {i sz by' n : Nat} {l : List D} {k : IntKind} {z : Int} (j : Nat) (ho : o.op = .indexAddr T x y) (hT : slE P T = some (e, sz, by')) (hx : Ev pc F x (.arr i)) (hy : Ev pc F y (.val (.int k z))) (hM : M[i]? = some (.arx T' sz n l)) (hz : pc = true → z = (j : Int)) (hj : pc = true → j < n) : DOp P pc o F M [i] (.aloc i (j * sz)) [] := by
  intro hp a s hok hops hfp
  have hr := ev_at hp hx (by simp [ho, Op.operands]) hops
  have h2 := (ev_at hp hy (by simp [ho, Op.operands]) hops).val_eq
  have hz := hz hp
  have hj := hj hp
  subst hz
  generalize hv : a.eval x = vx at hr
  cases hr with
  | @arr _ ad n' c hb =>
    have hM' : s.M[i]? = some (.arx T' sz n l) := by rw [hfp i (by simp)]; exact hM
    obtain ⟨vs, hk, _⟩ := hok.blk i _ _ hM' hb
    rcases hk.2 with ⟨e1, e2⟩ | ⟨g, cap, cur, e1, e2, e3, e4, e5, e6, e7⟩
    · exfalso; omega
    · cases e1
      refine dg_val hok (run_index_sl ho hT hv h2 (by omega) (by omega)) ?_
      rw [Addr.add_mid, Nat.zero_add, Int.toNat_natCast]
      exact .aloc hb
/-- .. of a part of a row -/
theorem op_ixo {T e : TypeId} {x y : Operand} {i sz by' p n : Nat} {k : IntKind} {z : Int} (j : Nat) (ho : o.op = .indexAddr T x y) (hT : slE P T = some (e, sz, by')) (hx : Ev pc F x (.own i sz p n)) (hy : Ev pc F y (.val (.int k z))) (hz : pc = true → z = (j : Int)) (hj : pc = true → j < n) : DOp P pc o F M [] (.aloc i ((p + j) * sz)) [] := by
  intro hp a s hok hops hfp
  have hr := ev_at hp hx (by simp [ho, Op.operands]) hops
  have h2 := (ev_at hp hy (by simp [ho, Op.operands]) hops).val_eq
  have hz := hz hp
  have hj := hj hp
  subst hz
  generalize hv : a.eval x = vx at hr
  cases hr with
  | @own _ _ _ _ N cap c b ad h ha hN hzz hn hc =>
    rcases ha with e | e
    · omega
    · subst e
      refine dg_val hok (run_index_sl ho hT hv h2 (by omega) (by omega)) ?_
      rw [Addr.add_mid, Int.toNat_natCast, ← Nat.add_mul]
      exact .aloc h
  | ownnil h => omega
/-- an element of one cell -/
theorem op_ldx {T T' : TypeId} {x : Operand} {i p k sz n : Nat} {l : List D} {d : D} (ho : o.op = .load T x) (hT : tyB P T = some (false, k)) (hx : Ev pc F x (.aloc i p)) (hM : M[i]? = some (.arx T' sz n l)) (hR : l[p]? = some d) : DOp P pc o F M [i] d [] := by
  intro hp a s hok hops hfp
  have hr := ev_at hp hx (by simp [ho, Op.operands]) hops
  generalize hv : a.eval x = vx at hr
  cases hr with
  | @aloc _ _ n' c b h =>
    obtain ⟨_, hl, _, _, vs, q3, hc, q4⟩ := arx_cells hok (by rw [hfp i (by simp)]; exact hM) h
    have hpl : p < l.length := (List.getElem?_eq_some_iff.1 hR).1
    have hv' : vs[p]? = some vs[p] := List.getElem?_eq_getElem (by omega)
    exact dg_val hok (run_load_one ho hT hv (by simpa using hc p _ hv')) (q4 p d _ hR hv')
/-- made of data, each of one cell -/
theorem op_bsx {T e : TypeId} {n by' : Nat} {Z : List Value} {ps : List (Nat × Operand)} {ds : List D} (j : Nat) (h1 : ∀ (s : St) d v, d ∈ ds → Rep s d v → v.cells = #[v]) (ho : o.op = .buildSlice T n ps.toArray) (hT : slE P T = some (e, 1, by')) (hZ : zrC P e = some Z) (hi : ps.map (·.1) = List.range' 0 n) (hv : EvL pc F (ps.map (·.2)) ds) (hn : n ≤ 16777216) (hj : M[j]? = some .hole) :
    DOp P pc o F M [j] (.arr j) [(j, .arx e 1 n ds)] := by
  intro hp a s hok hops hfp
  obtain ⟨r1, r2⟩ := evL_reps (a := a) (s := s) hp _ _ hv (fun x hx => hops x (by rw [ho]; simpa [Op.operands] using hx))
  obtain ⟨vs, hvs⟩ : ∃ vs, vs = (ps.map (·.2)).map a.eval := ⟨_, rfl⟩
  rw [← hvs] at r1 r2
  have hcell : ∀ v ∈ vs, v.cells = #[v] := fun v hv' => by
    obtain ⟨j, hj, rfl⟩ := List.getElem_of_mem hv'
    have hj2 : j < ds.length := by omega
    exact h1 s _ _ (List.getElem_mem hj2) (r2 j _ _ (List.getElem?_eq_getElem hj2) (List.getElem?_eq_getElem hj))
  have hlen : vs.length = n := by
    rw [hvs, List.length_map, List.length_map]
    have := congrArg List.length hi
    simpa using this
  have hflat : ∀ us : List Value, (∀ v ∈ us, v.cells = #[v]) → (us.flatMap fun v => v.cells.toList) = us := fun us h => by
    induction us with
    | nil => rfl
    | cons u us ih => rw [List.flatMap_cons, h u (List.mem_cons_self ..), ih fun v hv => h v (List.mem_cons_of_mem _ hv)]; rfl
  have hrun := run_buildSlice (P := P) (w := s.w) ho hT hZ hi hvs.symm (fun v hv => by rw [hcell v hv]; rfl) (by omega)
  rw [hflat vs hcell] at hrun
  have hj' : s.M[j]? = some .hole := by rw [hfp j (by simp)]; exact hj
  have hjl : j < s.β.length := by rw [hok.len]; exact (List.getElem?_eq_some_iff.1 hj').1
  have hmono := step_imm hok (.cells vs.toArray e)
  refine dg_step (s' := ⟨s.β.set j (.slice (some ⟨s.w.heap.size, 0, none⟩) n n), s.I, s.M.set j (.arx e 1 n ds), _⟩) hrun (tr_new hok hj' _ _ _ (by simp) (fun b hb => by cases hb; rfl) (fun b h => Below.heap_alloc _ _ _ h) (fun b hb => by cases hb; simp) (by simp) rfl rfl rfl ?_) rfl (.arr (by simp [hjl]))
  have hrow := World.ownsRow_lit (base := 0) (e := e) (size := 1) s.w vs.toArray n (Nat.zero_le _) (by unfold maxLen; omega) (by simp [hlen])
  refine ⟨vs, by simpa using hrow, r1, fun j' d v h2 h3 => ?_⟩
  refine Rep.mono' (s := s) (s' := ⟨s.β.set j (.slice (some ⟨s.w.heap.size, 0, none⟩) n n), s.I, s.M.set j (.arx e 1 n ds), s.w.alloc (.cells vs.toArray e)⟩) (fun i h hi hne => ?_) (fun _ h => h) (fun b hb => Below.heap_alloc _ _ _ (hok.il b hb)) (r2 j' d v h2 h3)
  by_cases e' : i = j
  · subst e'
    exact absurd (hok.blk i _ h hj' hi) hne
  · rw [List.getElem?_set_ne (Ne.symm e')]; exact hi
end
end Go.Proofs.Ytgomklemldldiaa
