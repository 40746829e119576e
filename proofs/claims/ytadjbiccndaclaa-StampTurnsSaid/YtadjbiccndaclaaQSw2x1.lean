/- Operations, one behind the other; a call by its contract; Operations: numbers, bools, structs, memory that is read and written. Conditions: what a type is, by the kernel; Operations that make memory, and write it. Conditions: what a type is, by the kernel; Operations on slices: made, cut, grown; tuples; function values; structs. Conditions: what a type is, by the kernel; Ends of calls; structs built; bools and strings compared; least and greatest; slices taken over, and given up. Conditions: what a type is, by the kernel; Codes within a function; a loop's rounds one by one; strings; What is known of a value, told otherwise: nil slices as rows of nothing, plain structs as lists of cells; stamps; stamps turned, and flipped; turns and flips; stamps asked, made, and counted; stamps turned, flipped, and counted, by the document; arguments that are opened; stamps turned, and flipped, as the do. No condition. -/
import Derived.Test.YtadjbiccndaclaaQ5
import Derived.Test.YtadjbiccndaclaaRows
namespace Go.Proofs.Ytadjbiccndaclaa
set_option linter.unusedVariables false
set_option linter.unusedSimpArgs false
open Go.RowKit
section
variable {P : Program} {s0 : St} {n : Cx} {ops : Array Oper}
theorem gd_tt {o : Oper} {F : Fr} {j t : Nat} {g b : Bool} (h : o.guard = some (j, true)) (ht : (ops[j]?).bind (·.dst) = some t) (hl : lk F t = some (.opt g (.val (.bool b)))) : Gd ops o F (g && b) := by
  unfold Gd; rw [h]; exact ⟨t, g, b, ht, .inl hl, by simp⟩
end

/-! ### names turned back -/
end Go.Proofs.Ytadjbiccndaclaa
namespace Go.Proofs.Ytadjbiccndaclaa
set_option linter.unusedVariables false
set_option linter.unusedSimpArgs false
open Go.RowKit

/-! ### what a type is -/
section
variable {P : Program} {pc : Bool} {o : Oper} {F : Fr} {M : List Blk}
section
variable {T T' : TypeId} {x y : Operand} {k : IntKind} {p q : Int}
end
section
variable {T : TypeId} {x : Operand} {i p k : Nat} {L R : List Value} {v : Value}
theorem arr_cells {s : St} (hok : Ok s) {T' : TypeId} {sz n n' c b : Nat} (h1 : s.M[i]? = some (.arr T' sz n L)) (h2 : s.β[i]? = some (.slice (some ⟨b, 0, none⟩) n' c)) : n' = n ∧ L.length = n * sz ∧ n ≤ c ∧ c ≤ maxLen ∧ cellsAt s.w b 0 L ∧ ∃ cur, s.w.heap[b]? = some (.cells cur T' (0, 0)) ∧ L.length ≤ cur.size ∧ cur.toList.take L.length = L := by
  have hk : s.w.ownsRow 0 T' sz _ n L := hok.blk i _ _ h1 h2
  rcases hk.2 with ⟨e1, e2⟩ | ⟨g, cap, cur, e1, e2, e3, e4, e5, e6, e7⟩
  · cases e1
  · cases e1
    have hc0 := cellsAt_sub (cellsAt_block e3 0) 0 (n * sz)
    have hle := Nat.mul_le_mul_right sz e4
    exact ⟨rfl, hk.1, e4, e5, by simpa [e7] using hc0, cur, e3, by rw [hk.1, e6]; exact hle, by rw [hk.1]; exact e7⟩
theorem op_ldoa {T' : TypeId} {sz n : Nat} (ho : o.op = .load T x) (hT : tyB P T = some (false, k)) (hx : Ev pc F x (.aloc i p)) (hM : M[i]? = some (.arr T' sz n L)) (hR : L[p]? = some v) : DOp P pc o F M [i] (.val v) [] := by
  intro hp a s hok hops hfp
  have hr := ev_at hp hx (by simp [ho, Op.operands]) hops
  generalize hv : a.eval x = vx at hr
  cases hr with
  | @aloc _ _ n' c b h =>
    obtain ⟨_, _, _, _, hc, _⟩ := arr_cells hok (by rw [hfp i (by simp)]; exact hM) h
    exact dg_val hok (run_load_one ho hT hv (by simpa using hc p v hR)) (.val _)

/-! ### addresses -/
theorem op_faa {f q : Nat} (ho : o.op = .fieldAddr T x f) (hT : fdO P T f = some q) (hx : Ev pc F x (.aloc i p)) : DOp P pc o F M [] (.aloc i (p + q)) [] := by
  intro hp a s hok hops hfp
  have hr := ev_at hp hx (by simp [ho, Op.operands]) hops
  generalize hv : a.eval x = vx at hr
  cases hr with
  | @aloc _ _ n' c b h => exact dg_val hok (run_fieldAddr ho hT hv) (.aloc h)
end
section
variable {T : TypeId} {x y : Operand} {i p n sz : Nat} {k : IntKind} {z : Int} {L : List Value}
variable {e : TypeId} {by' m : Nat}
end
end
end Go.Proofs.Ytadjbiccndaclaa
namespace Go.Proofs.Ytadjbiccndaclaa
set_option linter.unusedVariables false
set_option linter.unusedSimpArgs false
open Go.RowKit
theorem flat_one {α : Type} {en : α → List Value} {sz : Nat} (hen : ∀ a, (en a).length = sz) {l : List α} {j : Nat} (hj : j < l.length) : ((l.flatMap en).drop (j * sz)).take sz = en l[j] := by
  have := flat_part hen (c := 0) (k := sz) hj (by omega)
  rw [Nat.add_zero] at this
  rw [this, List.drop_zero, List.take_of_length_le (by rw [hen]; exact Nat.le_refl _)]
theorem flat_set_part {α : Type} {en : α → List Value} {sz : Nat} (hen : ∀ a, (en a).length = sz) {l : List α} {j c : Nat} {C : List Value} (hj : j < l.length) (hc : c + C.length ≤ sz) {x : α} (hx : setL (en l[j]) c C = en x) : setL (l.flatMap en) (j * sz + c) C = (l.set j x).flatMap en := by
  rw [← flat_set hen hj, ← hx]
  have h1 : (j + 1) * sz ≤ l.length * sz := Nat.mul_le_mul_right _ hj
  rw [Nat.succ_mul] at h1
  have hl := flat_len hen l
  have e1 : l.flatMap en = (l.flatMap en).take (j * sz) ++ en l[j] ++ (l.flatMap en).drop (j * sz + sz) := by
    have h2 := flat_one hen hj
    rw [← h2, List.append_assoc, ← List.drop_drop, List.take_append_drop, List.take_append_drop]
  have hlen0 : ((l.flatMap en).take (j * sz)).length = j * sz := by rw [List.length_take, hl]; omega
  generalize hA : (l.flatMap en).take (j * sz) = A at e1 hlen0
  generalize hB : (l.flatMap en).drop (j * sz + sz) = B at e1
  generalize l.flatMap en = X at e1 hl
  subst e1
  have he := hen l[j]
  generalize en l[j] = E at *
  have hlE : (setL E c C).length = E.length := setL_len _ _ _
  rw [setL_eq C _ _ (by simp; omega), setL_eq (setL E c C) _ _ (by simp; omega), hlE, setL_eq C E c (by omega)]
  have t1 : (A ++ E ++ B).take (j * sz + c) = A ++ E.take c := by
    rw [List.append_assoc, List.take_append, List.take_of_length_le (by omega), hlen0, show j * sz + c - j * sz = c by omega, List.take_append_of_le_length (by omega)]
  have t2 : (A ++ E ++ B).drop (j * sz + c + C.length) = E.drop (c + C.length) ++ B := by
    rw [List.append_assoc, List.drop_append, List.drop_eq_nil_of_le (by omega), List.nil_append, hlen0, show j * sz + c + C.length - j * sz = c + C.length by omega, List.drop_append_of_le_length (by omega)]
  have t3 : (A ++ E ++ B).take (j * sz) = A := by
    rw [List.append_assoc, List.take_append_of_le_length (by omega), List.take_of_length_le (by omega)]
  have t4 : (A ++ E ++ B).drop (j * sz + E.length) = B := by
    rw [List.drop_append, List.drop_eq_nil_of_le (by simp; omega), List.nil_append]
    simp [hlen0]
  rw [t1, t2, t3, t4]
  simp
section
variable {P : Program} {pc : Bool} {o : Oper} {F : Fr} {M : List Blk}
end
end Go.Proofs.Ytadjbiccndaclaa
namespace Go.Proofs.Ytadjbiccndaclaa
set_option linter.unusedVariables false
set_option linter.unusedSimpArgs false
open Go.RowKit
section
variable {P : Program} {pc : Bool} {o : Oper} {F : Fr} {M : List Blk}
theorem op_lena {T T' : TypeId} {x : Operand} {q : TypeId × Nat × Nat} {i sz n : Nat} {L : List Value} (ho : o.op = .call { callee := .builtin .len, args := #[x], argTypes := #[T] }) (hT : slE P T = some q) (hx : Ev pc F x (.arr i)) (hM : M[i]? = some (.arr T' sz n L)) : DOp P pc o F M [i] (.val (.int .i64 n)) [] := by
  intro hp a s hok hops hfp
  obtain ⟨e1, _⟩ := slE_spec hT
  have hr := ev_at hp hx (by simp [ho, Op.operands, Call.operands]) hops
  generalize hv : a.eval x = vx at hr
  cases hr with
  | arr h =>
    have hM' : s.M[i]? = some (.arr T' sz n L) := by rw [hfp i (by simp)]; exact hM
    have hk : s.w.ownsRow 0 T' sz _ n L := hok.blk i _ _ hM' h
    refine dg_val hok (run_builtin ho (fun cs => rfl) ?_) (.val (.int .i64 n))
    rcases hk.2 with ⟨e2, e3⟩ | ⟨g, cap, cur, e2, _⟩
    · cases e2; simp [Builtin.len_, hv, run_underlying e1, goInt, e3]
    · cases e2; simp [Builtin.len_, hv, run_underlying e1, goInt]
section
variable {T e : TypeId} {sz by' n : Nat} {ps : List (Nat × Operand)} {vs Z : List Value}
end

/-! ### append -/
end
end Go.Proofs.Ytadjbiccndaclaa
namespace Go.Proofs.Ytadjbiccndaclaa
set_option linter.unusedVariables false
set_option linter.unusedSimpArgs false
open Go.RowKit
section
variable {P : Program} {fn : Func} {F : Fr} {M : List Blk} {t u v : Tmp} {d d' e f dr : D}
end
section
variable {P : Program} {pc : Bool} {o : Oper} {F : Fr} {M : List Blk}

/-! ### structs built -/
theorem op_neb {T T' : TypeId} {x y : Operand} {p q : Bool} (ho : o.op = .binOp .neq T x y T') (hT : P.underlying T = some .bool) (hx : Ev pc F x (.val (.bool p))) (hy : Ev pc F y (.val (.bool q))) : DOp P pc o F M [] (.val (.bool (p != q))) [] :=
  op_nev ho hx hy (fun w => by unfold eqGuard; rfl) fun w => by
    have h : ∀ d, (Op.equalIn (d + 1) T (.bool p) (.bool q)).run P w = .ok (p == q) w := fun d => by simp [Op.equalIn, run_underlying hT]
    show (do pure (Value.bool (!(← Op.equalIn (9999 + 1) T (.bool p) (.bool q)))) : Sem Value).run P w = _
    rw [Sem.run_bind, h 9999]; rfl
end
section
variable {P : Program} {s0 : St} {n : Cx}
end
end Go.Proofs.Ytadjbiccndaclaa
namespace Go.Proofs.Ytadjbiccndaclaa
set_option linter.unusedVariables false
set_option linter.unusedSimpArgs false
open Go.RowKit
theorem arr_eq {T : TypeId} {sz n n' : Nat} {L L' : List Value} (h : n = n') (h' : L = L') : some (Blk.arr T sz n L) = some (Blk.arr T sz n' L') := by rw [h, h']
section
variable {P : Program} {s0 : St} {n : Cx}
end
end Go.Proofs.Ytadjbiccndaclaa
namespace Go.Proofs.Ytadjbiccndaclaa
set_option linter.unusedVariables false
set_option linter.unusedSimpArgs false
open Go.RowKit
/-- .. of an operand -/
theorem evwk {pc : Bool} {F : Fr} {x : Operand} {d d' : D} (h : Ev pc F x d) (hw : Wk d d') : Ev pc F x d' := by
  obtain ⟨d0, e1, e2⟩ := h
  exact ⟨d0, e1, fun s v hp hr => hw _ _ (e2 s v hp hr)⟩
section
variable {P : Program} {s0 : St} {n : Cx}
end
section
variable {P : Program} {pc : Bool} {o : Oper} {F : Fr} {M : List Blk} {T : TypeId} {x : Operand}
end
end Go.Proofs.Ytadjbiccndaclaa
namespace Go.Proofs.Ytadjbiccndaclaa
set_option maxRecDepth 4000
set_option linter.unusedVariables false
set_option linter.unusedSimpArgs false
open Go.RowKit
set_option maxRecDepth 4000 in
set_option maxHeartbeats 1000000 in
theorem sides_d (w h : Int) : DFun Try.prog 24 [.val (.int .i64 w), .val (.int .i64 h)] [] (.val (.bool (sideB w && sideB h))) [] := by
  refine dcalls_go (N := 19) 0 (by kernel_rfl) Try.func24 rfl rfl rfl (by simp only [fr0, Nat.zero_add, Nat.reduceAdd]; exact rfl) rfl fun s0 hs0 => ?_
  refine zaf ?_
  refine zad ?_
  refine zab rfl rfl rfl (zac (.inr rfl) (ev1 rfl)) ?_
  refine zae ?_
  refine zaf ?_
  refine zad ?_
  refine zab rfl rfl rfl (zac (.inl rfl) (ev1 rfl)) ?_
  refine zab rfl rfl rfl (op_geq rfl (ev1 rfl) (ev1 rfl)) ?_
  refine zab rfl rfl rfl (zac (.inl rfl) (ev1 rfl)) ?_
  refine zah (gd_t rfl rfl rfl) rfl rfl rfl (zac (.inl rfl) (ev1 rfl)) ?_
  refine zah (gd_t rfl rfl rfl) rfl rfl rfl (op_leq rfl (ev2 rfl) (ev1 rfl)) ?_
  refine zab rfl rfl rfl (op_and rfl (ev1 rfl) (ev3 rfl id)) ?_
  refine zab rfl rfl rfl (zac (.inl rfl) (ev1 rfl)) ?_
  refine zah (gd_t rfl rfl rfl) rfl rfl rfl (zac (.inl rfl) (ev1 rfl)) ?_
  refine zah (gd_t rfl rfl rfl) rfl rfl rfl (op_geq rfl (ev2 rfl) (ev1 rfl)) ?_
  refine zab rfl rfl rfl (op_and rfl (ev1 rfl) (ev3 rfl id)) ?_
  refine zab rfl rfl rfl (zac (.inl rfl) (ev1 rfl)) ?_
  refine zah (gd_t rfl rfl rfl) rfl rfl rfl (zac (.inl rfl) (ev1 rfl)) ?_
  refine zah (gd_t rfl rfl rfl) rfl rfl rfl (op_leq rfl (ev2 rfl) (ev1 rfl)) ?_
  refine zab rfl rfl rfl (op_and rfl (ev1 rfl) (ev3 rfl id)) ?_
  refine zab rfl rfl rfl (zac (.inr rfl) (ev1 rfl)) ?_
  refine zae ?_
  refine dwp_ret ?_
  refine kend0 (rs1 rfl (rv_t rfl)) rfl ?_
  unfold sideB
  simp [Bool.and_assoc]
set_option maxRecDepth 4000 in
set_option maxHeartbeats 1000000 in
theorem sright_d (w h : Int) (l : List C4) : DFun Try.prog 10 [.agg [.val (.int .i64 w), .val (.int .i64 h), .slf 4 l.length (l.flatMap c4)]] [] (.val (.bool (rightS w h l))) [] := by
  refine dcalls_go (N := 19) 0 (by kernel_rfl) Try.func10 rfl rfl rfl (by simp only [fr0, Nat.zero_add, Nat.reduceAdd]; exact rfl) rfl fun s0 hs0 => ?_
  refine zaf ?_
  refine zai 1 (by simp only [holes, List.cons_append, List.nil_append]; exact rfl) ?_
  refine zad ?_
  refine zak rfl rfl rfl (op_boxam 0 rfl (ev1 rfl) rfl) (by simp only [upd, za, zaa]; exact rfl) ?_
  refine zab rfl rfl rfl (zac (.inr rfl) (ev1 rfl)) ?_
  refine zae ?_
  refine zaf ?_
  refine zad ?_
  refine zab rfl rfl rfl (op_fa rfl fo24_0 (ev1 rfl)) ?_
  refine zab rfl rfl rfl (op_ldm rfl tb3 (ev1 rfl) rfl rfl) ?_
  refine zab rfl rfl rfl (op_fa rfl fo24_1 (ev1 rfl)) ?_
  refine zab rfl rfl rfl (op_ldm rfl tb3 (ev1 rfl) rfl rfl) ?_
  refine zab rfl rfl rfl (zaj [] [] [] rfl (ev1 rfl) (ec (ev1 rfl) (ec (ev1 rfl) en)) rfl rfl (sides_d _ _) rfl rfl rfl rfl rfl rfl) ?_
  refine zab rfl rfl rfl (zac (.inl rfl) (ev1 rfl)) ?_
  refine zah (gd_t rfl rfl rfl) rfl rfl rfl (op_fa rfl fo24_2 (ev1 rfl)) ?_
  refine zah (gd_t rfl rfl rfl) rfl rfl rfl (op_ldm rfl tb22 (ev2 rfl) rfl rfl) ?_
  refine zah (gd_t rfl rfl rfl) rfl rfl rfl (op_len rfl sl22 (ev2 rfl)) ?_
  refine zah (gd_t rfl rfl rfl) rfl rfl rfl (op_fa rfl fo24_0 (ev1 rfl)) ?_
  refine zah (gd_t rfl rfl rfl) rfl rfl rfl (op_ldm rfl tb3 (ev2 rfl) rfl rfl) ?_
  refine zah (gd_t rfl rfl rfl) rfl rfl rfl (op_fa rfl fo24_1 (ev1 rfl)) ?_
  refine zah (gd_t rfl rfl rfl) rfl rfl rfl (op_ldm rfl tb3 (ev2 rfl) rfl rfl) ?_
  refine zah (gd_t rfl rfl rfl) rfl rfl rfl (op_mul rfl (ev2 rfl) (ev2 rfl)) ?_
  refine zah (gd_t rfl rfl rfl) rfl rfl rfl (op_eql rfl (ev2 rfl) (ev2 rfl)) ?_
  refine zab rfl rfl rfl (op_and rfl (ev1 rfl) (ev3 rfl id)) ?_
  refine zab rfl rfl rfl (zac (.inr rfl) (ev1 rfl)) ?_
  refine zae ?_
  refine dwp_ret ?_
  refine kend0 (rs1 rfl (rv_t rfl)) rfl ?_
  rw [D.val.injEq, Value.bool.injEq]
  cases hw : sideB w with
  | false => unfold rightS; rw [hw]; rfl
  | true =>
    cases hh : sideB h with
    | false => unfold rightS; rw [hw, hh]; rfl
    | true =>
      have hb := side_mul hw hh
      rw [IntWalk.i64_in _ (by omega)]
      unfold rightS
      rw [hw, hh, Bool.eq_iff_iff]
      simp
set_option maxRecDepth 4000 in
set_option maxHeartbeats 1000000 in
theorem srsame_d (w h w2 h2 : Int) (ts us : List C4) (hn : ts.length ≤ 5000) : DFun Try.prog 13 [.agg [.val (.int .i64 w), .val (.int .i64 h), .slf 4 ts.length (ts.flatMap c4)], .agg [.val (.int .i64 w2), .val (.int .i64 h2), .slf 4 us.length (us.flatMap c4)]] [] (.val (.bool (decide (w = w2 ∧ h = h2 ∧ ts = us)))) [] := by
  refine dcalls_go (N := 44) 0 (by kernel_rfl) Try.func13 rfl rfl rfl (by simp only [fr0, Nat.zero_add, Nat.reduceAdd]; exact rfl) rfl fun s0 hs0 => ?_
  refine zaf ?_
  refine zai 2 (by simp only [holes, List.cons_append, List.nil_append]; exact rfl) ?_
  refine zad ?_
  refine zak rfl rfl rfl (op_boxam 0 rfl (ev1 rfl) rfl) (by simp only [upd, za, zaa]; exact rfl) ?_
  refine zak rfl rfl rfl (op_boxam 1 rfl (ev1 rfl) rfl) (by simp only [upd, za, zaa]; exact rfl) ?_
  refine zab rfl rfl rfl (zac (.inr rfl) (ev1 rfl)) ?_
  refine zae ?_
  refine zaf ?_
  refine zaf ?_
  refine zad ?_
  refine zab rfl rfl rfl (op_fa rfl fo24_0 (ev1 rfl)) ?_
  refine zab rfl rfl rfl (op_ldm rfl tb3 (ev1 rfl) rfl rfl) ?_
  refine zab rfl rfl rfl (op_fa rfl fo24_0 (ev1 rfl)) ?_
  refine zab rfl rfl rfl (op_ldm rfl tb3 (ev1 rfl) rfl rfl) ?_
  refine zab rfl rfl rfl (op_neq rfl (ev1 rfl) (ev1 rfl)) ?_
  refine zab rfl rfl rfl (zac (.inl rfl) (ev1 rfl)) ?_
  refine zah (gd_f rfl rfl rfl) rfl rfl rfl (op_fa rfl fo24_1 (ev1 rfl)) ?_
  refine zah (gd_f rfl rfl rfl) rfl rfl rfl (op_ldm rfl tb3 (ev2 rfl) rfl rfl) ?_
  refine zah (gd_f rfl rfl rfl) rfl rfl rfl (op_fa rfl fo24_1 (ev1 rfl)) ?_
  refine zah (gd_f rfl rfl rfl) rfl rfl rfl (op_ldm rfl tb3 (ev2 rfl) rfl rfl) ?_
  refine zah (gd_f rfl rfl rfl) rfl rfl rfl (op_neq rfl (ev2 rfl) (ev2 rfl)) ?_
  refine zab rfl rfl rfl (op_or rfl (ev1 rfl) (ev3 rfl id)) ?_
  refine zab rfl rfl rfl (zac (.inl rfl) (ev1 rfl)) ?_
  refine zah (gd_f rfl rfl rfl) rfl rfl rfl (op_fa rfl fo24_2 (ev1 rfl)) ?_
  refine zah (gd_f rfl rfl rfl) rfl rfl rfl (op_ldm rfl tb22 (ev2 rfl) rfl rfl) ?_
  refine zah (gd_f rfl rfl rfl) rfl rfl rfl (op_len rfl sl22 (ev2 rfl)) ?_
  refine zah (gd_f rfl rfl rfl) rfl rfl rfl (op_fa rfl fo24_2 (ev1 rfl)) ?_
  refine zah (gd_f rfl rfl rfl) rfl rfl rfl (op_ldm rfl tb22 (ev2 rfl) rfl rfl) ?_
  refine zah (gd_f rfl rfl rfl) rfl rfl rfl (op_len rfl sl22 (ev2 rfl)) ?_
  refine zah (gd_f rfl rfl rfl) rfl rfl rfl (op_neq rfl (ev2 rfl) (ev2 rfl)) ?_
  refine zab rfl rfl rfl (op_or rfl (ev1 rfl) (ev3 rfl id)) ?_
  refine zae ?_
  refine dwp_cond rfl (fun c1 => ?_) (fun c1 => ?_)
  · have hne : ¬ (w = w2 ∧ h = h2 ∧ ts = us) := by
      rintro ⟨rfl, rfl, rfl⟩
      simp at c1
    refine zaf ?_
    refine zad ?_
    refine zab rfl rfl rfl (zac (.inr rfl) (ev1 rfl)) ?_
    refine zae ?_
    refine dwp_ret ?_
    refine kend0 (rs1 rfl (rv_t rfl)) rfl ?_
    rw [decide_eq_false hne]
  · obtain ⟨rfl, rfl, hlen⟩ : w = w2 ∧ h = h2 ∧ ts.length = us.length := by
      simp at c1
      omega
    refine dwp_skip ?_
    refine zaf ?_
    refine zaf ?_
    refine zad ?_
    refine zab rfl rfl rfl (op_fa rfl fo24_2 (ev1 rfl)) ?_
    refine zab rfl rfl rfl (op_ldm rfl tb22 (ev1 rfl) rfl rfl) ?_
    refine zab rfl rfl rfl (op_len rfl sl22 (ev1 rfl)) ?_
    refine zab rfl rfl rfl (zac (.inl rfl) (ev1 rfl)) ?_
    refine zae ?_
    refine dwp_block ?_
    refine dwp_loopS ⟨hs0, rfl⟩ (α := Nat) (fun k => [(31, .val (.int .i64 (k : Int)))]) [(3, _), (29, _), (30, _)] (fun k => []) [_, _] (fun k => k ≤ ts.length ∧ ts.take k = us.take k) (fun k => ts.length - k) 0 [0, 1] (by simp) rfl ⟨rfl, rfl, rfl, trivial⟩ ⟨rfl, trivial⟩ ⟨rfl, rfl, trivial⟩ ?_
    intro k hx
    simp only [upd, za, zaa, List.cons_append, List.nil_append]
    obtain ⟨hk, he⟩ := hx
    refine zaf ?_
    refine zad ?_
    refine zab rfl rfl rfl (op_lss rfl (ev1 rfl) (ev1 rfl)) ?_
    refine zae ?_
    refine zaf ?_
    refine dwp_cond rfl (fun c2 => ?_) (fun c2 => ?_)
    · try simp only [decide_eq_true_eq, decide_eq_false_iff_not, beq_iff_eq, bne_iff_ne, beq_eq_false_iff_ne, bne_eq_false_iff_eq, Bool.not_eq_true', Bool.not_eq_false', Bool.and_eq_true, Bool.or_eq_true, Bool.or_eq_false_iff, ne_eq, Decidable.not_not, Int.not_lt, Int.not_le] at c2
      refine dwp_skip ?_
      refine zaf ?_
      refine dwp_block ?_
      refine zaf ?_
      refine zai 1 (by simp only [holes, List.cons_append, List.nil_append]; exact rfl) ?_
      refine zad ?_
      refine zab rfl rfl rfl (zac (.inl rfl) (ev1 rfl)) ?_
      refine zab rfl rfl rfl (op_ixsr (j := k) rfl sl22 (ev1 rfl) (ev1 rfl) (fun _ => rfl) (by decide) (by omega) (by omega)) ?_
      refine zab rfl rfl rfl (op_ldwd rfl tb38 (ev1 rfl) rfl) ?_
      refine zak rfl rfl rfl (zal 2 rfl zr38 rfl) (by simp only [upd, za, zaa]; exact rfl) ?_
      refine zab rfl rfl rfl (zac (.inr rfl) (ev1 rfl)) ?_
      refine walk_s rfl rfl (op_stwa rfl tb38 (ev1 rfl) (ev1 rfl) rfl rfl rfl rfl) (by simp only [upd, za, zaa]; exact rfl) ?_
      refine zae ?_
      refine zaf ?_
      refine dwp_draw [([2], []), ([], []), ([1], []), ([], []), ([], []), ([], []), ([], [])] mixed (by kernel_rfl) ?_
      refine zag rfl rfl (op_ldw rfl tb38 (ev1 rfl) rfl rfl) ?_
      refine zag rfl rfl (op_fa rfl fo24_2 (ev1 rfl)) ?_
      refine zag rfl rfl (op_ldm rfl tb22 (ev1 rfl) rfl rfl) ?_
      refine zag rfl rfl (zac (.inl rfl) (ev1 rfl)) ?_
      refine zag rfl rfl (op_ixsr (j := k) rfl sl22 (ev1 rfl) (ev1 rfl) (fun _ => rfl) (by decide) (by omega) (by omega)) ?_
      refine zag rfl rfl (op_ldwd rfl tb38 (ev1 rfl) rfl) ?_
      refine zag rfl rfl (op_ner eq38 rfl gd38 tb38 (ev1 rfl) (ev1 rfl)) ?_
      refine lex_nil ?_
      refine dwp_cond rfl (fun c2 => ?_) (fun c2 => ?_)
      · have c3 : ts[k] ≠ us[k] := by simpa using c2
        refine zaf ?_
        refine zad ?_
        refine zab rfl rfl rfl (zac (.inr rfl) (ev1 rfl)) ?_
        refine zae ?_
        refine dwp_ret ?_
        refine kend0 (rs1 rfl (rv_t rfl)) rfl ?_
        have hne : ¬ (w = w ∧ h = h ∧ ts = us) := by
          rintro ⟨_, _, rfl⟩
          exact c3 rfl
        have hne : ts ≠ us := fun e => hne ⟨rfl, rfl, e⟩
        simp [hne]
      · have c3 : ts[k] = us[k] := by simpa using c2
        refine dwp_skip ?_
        refine zad ?_
        refine zab rfl rfl rfl (op_add' rfl (ev1 rfl) (ev1 rfl) (fun _ => IntWalk.i64_in _ (by omega))) ?_
        refine zab rfl rfl rfl (zac (.inl rfl) (ev1 rfl)) ?_
        refine zae ?_
        refine ⟨k + 1, [0, 1], ⟨by omega, by rw [List.take_succ_eq_append_getElem (by omega), List.take_succ_eq_append_getElem (by omega), he, c3]⟩, by simp only []; omega, rfl, ⟨rfl, rfl, rfl, rfl, trivial⟩, ⟨rfl, rfl, trivial⟩⟩
    · try simp only [decide_eq_true_eq, decide_eq_false_iff_not, beq_iff_eq, bne_iff_ne, beq_eq_false_iff_ne, bne_eq_false_iff_eq, Bool.not_eq_true', Bool.not_eq_false', Bool.and_eq_true, Bool.or_eq_true, Bool.or_eq_false_iff, ne_eq, Decidable.not_not, Int.not_lt, Int.not_le] at c2
      refine dwp_exit ?_
      refine zaf ?_
      refine zad ?_
      refine zab rfl rfl rfl (zac (.inr rfl) (ev1 rfl)) ?_
      refine zae ?_
      refine dwp_ret ?_
      refine kend0 (rs1 rfl (rv_t rfl)) rfl ?_
      have e : ts = us := by
        have h := he
        rw [List.take_of_length_le (by omega), List.take_of_length_le (by omega)] at h
        exact h
      simp [e]
set_option maxRecDepth 4000 in
set_option maxHeartbeats 1000000 in
theorem rsat_d (W H : Nat) (l : List C4) (hs : StOk W H l) (x y : Nat) (hx : x < W) (hy : y < H) : DFun Try.prog 21 [.agg [.val (.int .i64 (W : Int)), .val (.int .i64 (H : Int)), .slf 4 l.length (l.flatMap c4)], .val (.int .i64 (x : Int)), .val (.int .i64 (y : Int))] [] (.val (.agg (c4 (getS W l x y)).toArray)) [] := by
  have hix := ix_lt hx hy
  have hle := hs.le
  have hln := hs.len
  have hmw := hs.w
  have hmh := hs.h
  refine dcalls_go (N := 17) 0 (by kernel_rfl) Try.func21 rfl rfl rfl (by simp only [fr0, Nat.zero_add, Nat.reduceAdd]; exact rfl) rfl fun s0 hs0 => ?_
  refine zaf ?_
  refine zai 2 (by simp only [holes, List.cons_append, List.nil_append]; exact rfl) ?_
  refine zad ?_
  refine zak rfl rfl rfl (op_boxam 0 rfl (ev1 rfl) rfl) (by simp only [upd, za, zaa]; exact rfl) ?_
  refine zak rfl rfl rfl (zal 1 rfl zr38 rfl) (by simp only [upd, za, zaa]; exact rfl) ?_
  refine zae ?_
  refine zaf ?_
  refine zad ?_
  refine zab rfl rfl rfl (op_fa rfl fo24_2 (ev1 rfl)) ?_
  refine zab rfl rfl rfl (op_ldm rfl tb22 (ev1 rfl) rfl rfl) ?_
  refine zab rfl rfl rfl (zac (.inl rfl) (ev1 rfl)) ?_
  refine zab rfl rfl rfl (op_fa rfl fo24_0 (ev1 rfl)) ?_
  refine zab rfl rfl rfl (op_ldm rfl tb3 (ev1 rfl) rfl rfl) ?_
  refine zab rfl rfl rfl (op_mul' rfl (ev1 rfl) (ev1 rfl) (fun _ => IntWalk.i64_in _ (by omega))) ?_
  refine zab rfl rfl rfl (zac (.inl rfl) (ev1 rfl)) ?_
  refine zab rfl rfl rfl (op_add' rfl (ev1 rfl) (ev1 rfl) (fun _ => IntWalk.i64_in _ (by omega))) ?_
  refine zab rfl rfl rfl (op_ixsr (j := y * W + x) rfl sl22 (ev1 rfl) (ev1 rfl) (fun _ => rfl) (by decide) (by omega) (by omega)) ?_
  refine zab rfl rfl rfl (op_ldwd rfl tb38 (ev1 rfl) rfl) ?_
  refine walk_s rfl rfl (op_stwa rfl tb38 (ev1 rfl) (ev1 rfl) rfl rfl rfl rfl) (by simp only [upd, za, zaa]; exact rfl) ?_
  refine zae ?_
  refine dwp_ret ?_
  refine kend0 (rs1 rfl (rv_w tb38 rfl rfl rfl)) rfl ?_
  rw [getS, List.getD_eq_getElem?_getD, List.getElem?_eq_getElem (by omega)]; rfl
end Go.Proofs.Ytadjbiccndaclaa
namespace Go.Proofs.Ytadjbiccndaclaa
set_option maxRecDepth 4000
set_option linter.unusedVariables false
set_option linter.unusedSimpArgs false
open Go.RowKit
set_option maxRecDepth 4000 in
set_option maxHeartbeats 1000000 in
theorem sflip1_caught (e n : Int) : DDef Try.prog 42 [.loc 0 0] [.flat 29 [.int .i64 e]] (some (.ifc 92 (.val (.agg #[.int .i64 n])))) none [.flat 29 [.int .i64 n]] := by
  refine ddef_go1 (dr := .tup []) (t := 1) (N := 3) 1 (by kernel_rfl) Try.func42 rfl rfl rfl (by simp only [fr0, Nat.zero_add, Nat.reduceAdd]; exact rfl) rfl rfl rfl rfl rfl fun s0 hs0 => ?_
  refine zab rfl rfl rfl (zaj [] [] [] rfl (ev1 rfl) (ec (ev1 rfl) en) rfl rfl (stold_w n) rfl rfl rfl rfl rfl rfl) ?_
  refine walk_s rfl rfl (op_stwi rfl tb29 (ev1 rfl) (ev1 rfl) rfl) (by simp only [upd, za, zaa]; exact rfl) ?_
  refine zae ?_
  refine kend [0] (res_none rfl) rfl rfl ?_ ⟨rfl, trivial⟩
  rfl
end Go.Proofs.Ytadjbiccndaclaa
namespace Go.Proofs.Ytadjbiccndaclaa
set_option maxRecDepth 4000
set_option linter.unusedVariables false
set_option linter.unusedSimpArgs false
open Go.RowKit
set_option maxRecDepth 4000 in
set_option maxHeartbeats 1000000 in
theorem flip_no (w h : Int) (l : List C4) (hr : rightS w h l = false) : DFun Try.prog 16 [.agg [.val (.int .i64 w), .val (.int .i64 h), .slf 4 l.length (l.flatMap c4)]] [] (.tup [.val (.agg #[.int .i64 0, .int .i64 0, .slice none 0 0]), .val (.int .i64 190)]) [] := by
  refine dcalls_body (N := 11) 0 (by kernel_rfl) Try.func16 rfl rfl rfl (by simp only [fr0, Nat.zero_add, Nat.reduceAdd]; exact rfl) rfl fun s0 hs0 => ?_
  refine dbody_seq rfl hs0 ?_
  refine zai 3 (by simp only [holes, List.cons_append, List.nil_append]; exact rfl) ?_
  refine zad ?_
  refine zak rfl rfl rfl (op_boxam 0 rfl (ev1 rfl) rfl) (by simp only [upd, za, zaa]; exact rfl) ?_
  refine zak rfl rfl rfl (zal 1 rfl zr24 rfl) (by simp only [upd, za, zaa]; exact rfl) ?_
  refine zak rfl rfl rfl (zal 2 rfl zr29 rfl) (by simp only [upd, za, zaa]; exact rfl) ?_
  refine zae ?_
  refine dbody_defer (l0 := [_]) rfl rfl rfl rfl rfl hs0 ?_
  refine zab rfl rfl rfl (op_mkf rfl en (ec (ev1 rfl) en)) ?_
  refine zae ⟨_, _, _, 3, ev1 rfl, Nat.le_trans hs0 (by decide), rfl, ?_⟩
  have hs1 : s0.M.length ≤ 3 := Nat.le_trans hs0 (by decide)
  refine dbody_end rfl hs0 ?_
  refine zaf ?_
  refine zai 1 (by simp only [holes, List.cons_append, List.nil_append]; exact rfl) ?_
  refine zad ?_
  refine zab rfl rfl rfl (op_ldmw rfl tb24 (ev1 rfl) rfl rfl) ?_
  refine walk_p rfl (dop_callP [] [] [] rfl (ev1 rfl) (ec (ev1 rfl) en) rfl rfl (wOf_no w h l hr) rfl rfl rfl rfl rfl rfl) rfl ?_
  refine kdef (dturn_caught [2] [] rfl rfl rfl (sflip1_caught _ _) rfl rfl rfl rfl rfl) ?_
  refine kend0 (rs2 rfl (rv_w tb24 rfl rfl rfl) (rv_1 tb29 rfl rfl rfl)) rfl ?_
  rfl
end Go.Proofs.Ytadjbiccndaclaa
namespace Go.Proofs.Ytadjbiccndaclaa
set_option maxRecDepth 4000
set_option linter.unusedVariables false
set_option linter.unusedSimpArgs false
open Go.RowKit
set_option maxRecDepth 4000 in
set_option maxHeartbeats 1000000 in
theorem sat_ok (W H : Nat) (l : List C4) (hs : StOk W H l) (x y : Nat) (hx : x < W) (hy : y < H) : DFun Try.prog 18 [.agg [.val (.int .i64 (W : Int)), .val (.int .i64 (H : Int)), .slf 4 l.length (l.flatMap c4)], .val (.int .i64 (x : Int)), .val (.int .i64 (y : Int))] [] (.tup [.val (.agg (c4 (getS W l x y)).toArray), .val (.bool true)]) [] := by
  have hix := ix_lt hx hy
  have hle := hs.le
  have hln := hs.len
  have hmw := hs.w
  have hmh := hs.h
  have hr := hs.right
  have hrl := rwL_len hs hy
  refine dcalls_go (N := 41) 0 (by kernel_rfl) Try.func18 rfl rfl rfl (by simp only [fr0, Nat.zero_add, Nat.reduceAdd]; exact rfl) rfl fun s0 hs0 => ?_
  refine zaf ?_
  refine zai 2 (by simp only [holes, List.cons_append, List.nil_append]; exact rfl) ?_
  refine zad ?_
  refine zak rfl rfl rfl (op_boxam 0 rfl (ev1 rfl) rfl) (by simp only [upd, za, zaa]; exact rfl) ?_
  refine zak rfl rfl rfl (zal 1 rfl zr38 rfl) (by simp only [upd, za, zaa]; exact rfl) ?_
  refine zab rfl rfl rfl (zac (.inr rfl) (ev1 rfl)) ?_
  refine zae ?_
  refine zaf ?_
  refine zaf ?_
  refine zad ?_
  refine zab rfl rfl rfl (op_ldmw rfl tb24 (ev1 rfl) rfl rfl) ?_
  refine zab rfl rfl rfl (zaj [] [] [] rfl (ev1 rfl) (ec (ev1 rfl) en) rfl rfl (scheck_d _ _ _) rfl rfl rfl rfl rfl rfl) ?_
  refine zab rfl rfl rfl (op_neq rfl (ev1 rfl) (ev1 rfl)) ?_
  refine zab rfl rfl rfl (zac (.inl rfl) (ev1 rfl)) ?_
  refine zah (gd_f rfl rfl rfl) rfl rfl rfl (zac (.inl rfl) (ev1 rfl)) ?_
  refine zah (gd_f rfl rfl rfl) rfl rfl rfl (op_lss rfl (ev2 rfl) (ev1 rfl)) ?_
  refine zab rfl rfl rfl (op_or rfl (ev1 rfl) (ev3 rfl id)) ?_
  refine zab rfl rfl rfl (zac (.inl rfl) (ev1 rfl)) ?_
  refine zah (gd_f rfl rfl rfl) rfl rfl rfl (zac (.inl rfl) (ev1 rfl)) ?_
  refine zah (gd_f rfl rfl rfl) rfl rfl rfl (op_fa rfl fo24_0 (ev1 rfl)) ?_
  refine zah (gd_f rfl rfl rfl) rfl rfl rfl (op_ldm rfl tb3 (ev2 rfl) rfl rfl) ?_
  refine zah (gd_f rfl rfl rfl) rfl rfl rfl (op_geq rfl (ev2 rfl) (ev2 rfl)) ?_
  refine zab rfl rfl rfl (op_or rfl (ev1 rfl) (ev3 rfl id)) ?_
  refine zab rfl rfl rfl (zac (.inl rfl) (ev1 rfl)) ?_
  refine zah (gd_f rfl rfl rfl) rfl rfl rfl (zac (.inl rfl) (ev1 rfl)) ?_
  refine zah (gd_f rfl rfl rfl) rfl rfl rfl (op_lss rfl (ev2 rfl) (ev1 rfl)) ?_
  refine zab rfl rfl rfl (op_or rfl (ev1 rfl) (ev3 rfl id)) ?_
  refine zab rfl rfl rfl (zac (.inl rfl) (ev1 rfl)) ?_
  refine zah (gd_f rfl rfl rfl) rfl rfl rfl (zac (.inl rfl) (ev1 rfl)) ?_
  refine zah (gd_f rfl rfl rfl) rfl rfl rfl (op_fa rfl fo24_1 (ev1 rfl)) ?_
  refine zah (gd_f rfl rfl rfl) rfl rfl rfl (op_ldm rfl tb3 (ev2 rfl) rfl rfl) ?_
  refine zah (gd_f rfl rfl rfl) rfl rfl rfl (op_geq rfl (ev2 rfl) (ev2 rfl)) ?_
  refine zab rfl rfl rfl (op_or rfl (ev1 rfl) (ev3 rfl id)) ?_
  refine zae ?_
  refine dwp_if_f rfl (by rw [hr]; simp [errOr]; omega) ?_
  refine dwp_skip ?_
  refine zaf ?_
  refine zai 1 (by simp only [holes, List.cons_append, List.nil_append]; exact rfl) ?_
  refine zad ?_
  refine zab rfl rfl rfl (op_ldmw rfl tb24 (ev1 rfl) rfl rfl) ?_
  refine zab rfl rfl rfl (op_bldA rfl (ev1 rfl) fl83 zr83 rfl) ?_
  refine zak rfl rfl rfl (zal 2 rfl zr83 rfl) (by simp only [upd, za, zaa]; exact rfl) ?_
  refine walk_s rfl rfl (op_stam rfl tb83 (ev1 rfl) (ev1 rfl) rfl rfl rfl rfl) (by simp only [upd, za, zaa]; exact rfl) ?_
  refine zae ?_
  refine zaf ?_
  refine zad ?_
  refine zab rfl rfl rfl (op_ldmw rfl tb83 (ev1 rfl) rfl rfl) ?_
  refine zab rfl rfl rfl (zac (.inl rfl) (ev1 rfl)) ?_
  refine zab rfl rfl rfl (zaj [] [] [] rfl (ev1 rfl) (ec (ev1 rfl) (ec (ev1 rfl) en)) rfl rfl (row_d W H l hs y hy) rfl rfl rfl rfl rfl rfl) ?_
  refine zab rfl rfl rfl (zac (.inl rfl) (ev1 rfl)) ?_
  refine zab rfl rfl rfl (op_ixsr (j := x) rfl sl22 (ev1 rfl) (ev1 rfl) (fun _ => rfl) (by decide) (by omega) (by omega)) ?_
  refine zab rfl rfl rfl (op_ldwd rfl tb38 (ev1 rfl) rfl) ?_
  refine walk_s rfl rfl (op_stwa rfl tb38 (ev1 rfl) (ev1 rfl) rfl rfl rfl rfl) (by simp only [upd, za, zaa]; exact rfl) ?_
  refine zab rfl rfl rfl (zac (.inr rfl) (ev1 rfl)) ?_
  refine zae ?_
  refine dwp_ret ?_
  refine kend0 (rs2 rfl (rv_w tb38 rfl rfl rfl) (rv_t rfl)) rfl ?_
  rw [rwL_el hs hx hy]
def inS (w h : Int) (l : List C4) (x y : Int) : Bool := rightS w h l && (decide (0 ≤ x) && decide (x < w) && decide (0 ≤ y) && decide (y < h))
set_option maxRecDepth 4000 in
set_option maxHeartbeats 1000000 in
theorem sat_no (w h : Int) (l : List C4) (x y : Int) (hno : inS w h l x y = false) : DFun Try.prog 18 [.agg [.val (.int .i64 w), .val (.int .i64 h), .slf 4 l.length (l.flatMap c4)], .val (.int .i64 x), .val (.int .i64 y)] [] (.tup [.val (.agg (c4 zC4).toArray), .val (.bool false)]) [] := by
  refine dcalls_go (N := 41) 0 (by kernel_rfl) Try.func18 rfl rfl rfl (by simp only [fr0, Nat.zero_add, Nat.reduceAdd]; exact rfl) rfl fun s0 hs0 => ?_
  refine zaf ?_
  refine zai 2 (by simp only [holes, List.cons_append, List.nil_append]; exact rfl) ?_
  refine zad ?_
  refine zak rfl rfl rfl (op_boxam 0 rfl (ev1 rfl) rfl) (by simp only [upd, za, zaa]; exact rfl) ?_
  refine zak rfl rfl rfl (zal 1 rfl zr38 rfl) (by simp only [upd, za, zaa]; exact rfl) ?_
  refine zab rfl rfl rfl (zac (.inr rfl) (ev1 rfl)) ?_
  refine zae ?_
  refine zaf ?_
  refine zaf ?_
  refine zad ?_
  refine zab rfl rfl rfl (op_ldmw rfl tb24 (ev1 rfl) rfl rfl) ?_
  refine zab rfl rfl rfl (zaj [] [] [] rfl (ev1 rfl) (ec (ev1 rfl) en) rfl rfl (scheck_d _ _ _) rfl rfl rfl rfl rfl rfl) ?_
  refine zab rfl rfl rfl (op_neq rfl (ev1 rfl) (ev1 rfl)) ?_
  refine zab rfl rfl rfl (zac (.inl rfl) (ev1 rfl)) ?_
  refine zah (gd_f rfl rfl rfl) rfl rfl rfl (zac (.inl rfl) (ev1 rfl)) ?_
  refine zah (gd_f rfl rfl rfl) rfl rfl rfl (op_lss rfl (ev2 rfl) (ev1 rfl)) ?_
  refine zab rfl rfl rfl (op_or rfl (ev1 rfl) (ev3 rfl id)) ?_
  refine zab rfl rfl rfl (zac (.inl rfl) (ev1 rfl)) ?_
  refine zah (gd_f rfl rfl rfl) rfl rfl rfl (zac (.inl rfl) (ev1 rfl)) ?_
  refine zah (gd_f rfl rfl rfl) rfl rfl rfl (op_fa rfl fo24_0 (ev1 rfl)) ?_
  refine zah (gd_f rfl rfl rfl) rfl rfl rfl (op_ldm rfl tb3 (ev2 rfl) rfl rfl) ?_
  refine zah (gd_f rfl rfl rfl) rfl rfl rfl (op_geq rfl (ev2 rfl) (ev2 rfl)) ?_
  refine zab rfl rfl rfl (op_or rfl (ev1 rfl) (ev3 rfl id)) ?_
  refine zab rfl rfl rfl (zac (.inl rfl) (ev1 rfl)) ?_
  refine zah (gd_f rfl rfl rfl) rfl rfl rfl (zac (.inl rfl) (ev1 rfl)) ?_
  refine zah (gd_f rfl rfl rfl) rfl rfl rfl (op_lss rfl (ev2 rfl) (ev1 rfl)) ?_
  refine zab rfl rfl rfl (op_or rfl (ev1 rfl) (ev3 rfl id)) ?_
  refine zab rfl rfl rfl (zac (.inl rfl) (ev1 rfl)) ?_
  refine zah (gd_f rfl rfl rfl) rfl rfl rfl (zac (.inl rfl) (ev1 rfl)) ?_
  refine zah (gd_f rfl rfl rfl) rfl rfl rfl (op_fa rfl fo24_1 (ev1 rfl)) ?_
  refine zah (gd_f rfl rfl rfl) rfl rfl rfl (op_ldm rfl tb3 (ev2 rfl) rfl rfl) ?_
  refine zah (gd_f rfl rfl rfl) rfl rfl rfl (op_geq rfl (ev2 rfl) (ev2 rfl)) ?_
  refine zab rfl rfl rfl (op_or rfl (ev1 rfl) (ev3 rfl id)) ?_
  refine zae ?_
  refine dwp_if_t rfl (by
      unfold inS at hno
      cases hr : rightS w h l with
      | false => rfl
      | true =>
        rw [hr] at hno
        simp at hno
        simp [errOr]
        omega) ?_
  refine zaf ?_
  refine zad ?_
  refine zab rfl rfl rfl (op_build0 rfl fl38 zr38) ?_
  refine walk_s rfl rfl (op_stwa rfl tb38 (ev1 rfl) (ev1 rfl) rfl rfl rfl rfl) (by simp only [upd, za, zaa]; exact rfl) ?_
  refine zab rfl rfl rfl (zac (.inr rfl) (ev1 rfl)) ?_
  refine zae ?_
  refine dwp_ret ?_
  refine kend0 (rs2 rfl (rv_w tb38 rfl rfl rfl) (rv_t rfl)) rfl ?_
  rfl
set_option maxRecDepth 4000 in
set_option maxHeartbeats 1000000 in
theorem wears_no (w h : Int) (l : List C4) (hr : rightS w h l = false) : DFun Try.prog 15 [.agg [.val (.int .i64 w), .val (.int .i64 h), .slf 4 l.length (l.flatMap c4)]] [] (.val (.int .i64 0)) [] := by
  refine dcalls_go (N := 20) 0 (by kernel_rfl) Try.func15 rfl rfl rfl (by simp only [fr0, Nat.zero_add, Nat.reduceAdd]; exact rfl) rfl fun s0 hs0 => ?_
  refine zaf ?_
  refine zai 1 (by simp only [holes, List.cons_append, List.nil_append]; exact rfl) ?_
  refine zad ?_
  refine zak rfl rfl rfl (op_boxam 0 rfl (ev1 rfl) rfl) (by simp only [upd, za, zaa]; exact rfl) ?_
  refine zab rfl rfl rfl (zac (.inr rfl) (ev1 rfl)) ?_
  refine zae ?_
  refine zaf ?_
  refine zaf ?_
  refine zad ?_
  refine zab rfl rfl rfl (op_ldmw rfl tb24 (ev1 rfl) rfl rfl) ?_
  refine zab rfl rfl rfl (zaj [] [] [] rfl (ev1 rfl) (ec (ev1 rfl) en) rfl rfl (scheck_d _ _ _) rfl rfl rfl rfl rfl rfl) ?_
  refine zab rfl rfl rfl (op_neq rfl (ev1 rfl) (ev1 rfl)) ?_
  refine zae ?_
  refine dwp_if_t rfl (by rw [hr]; rfl) ?_
  refine zaf ?_
  refine zad ?_
  refine zab rfl rfl rfl (zac (.inr rfl) (ev1 rfl)) ?_
  refine zae ?_
  refine dwp_ret ?_
  refine kend0 (rs1 rfl (rv_t rfl)) rfl ?_
  rfl
end Go.Proofs.Ytadjbiccndaclaa
namespace Go.Proofs.Ytadjbiccndaclaa
set_option maxRecDepth 4000
set_option linter.unusedVariables false
set_option linter.unusedSimpArgs false
open Go.RowKit
theorem reb_arr9 {e : TypeId} {sz : Nat} : ∀ s h, BlkOk s h (.arx e sz 0 []) → BlkOk s h (.arr e sz 0 []) := fun s h hk => by
  obtain ⟨vs, h1, h2, _⟩ := hk
  obtain rfl : vs = [] := List.eq_nil_of_length_eq_zero (by simpa using h2)
  exact h1
theorem turnL_add {W H : Nat} {l : List C4} {x y : Nat} (hx : x < H) (hy : y < W) : (turnL W H l).take (y * H + (x + 1)) = (turnL W H l).take (y * H + x) ++ [getS W l y (H - 1 - x)] := by
  have hk : y * H + x < W * H := by rw [Nat.mul_comm W H]; exact ix_lt hx hy
  have e : (turnL W H l)[y * H + x]? = some (getS W l y (H - 1 - x)) := by
    rw [turnL, List.getElem?_map, List.getElem?_range hk]
    show some (getS W l ((y * H + x) / H) (H - 1 - (y * H + x) % H)) = _
    rw [ix_div hx, ix_mod hx]
  rw [← Nat.add_assoc, List.take_add_one, e]
  rfl
theorem flipL_add {W H : Nat} {l : List C4} {x y : Nat} (hx : x < W) (hy : y < H) : (flipL W H l).take (y * W + (x + 1)) = (flipL W H l).take (y * W + x) ++ [getS W l (W - 1 - x) y] := by
  have hk : y * W + x < W * H := ix_lt hx hy
  have e : (flipL W H l)[y * W + x]? = some (getS W l (W - 1 - x) y) := by
    rw [flipL, List.getElem?_map, List.getElem?_range hk]
    show some (getS W l (W - 1 - (y * W + x) % W) ((y * W + x) / W)) = _
    rw [ix_div hx, ix_mod hx]
  rw [← Nat.add_assoc, List.take_add_one, e]
  rfl
theorem int_cast {a b : Int} (h : a = b) : (D.val (.int .i64 a)) = .val (.int .i64 b) := by rw [h]
set_option maxRecDepth 4000 in
set_option maxHeartbeats 1000000 in
theorem quarter_o (W H : Nat) (l : List C4) (hs : StOk W H l) : DFun Try.prog 50 [.agg [.val (.int .i64 (W : Int)), .val (.int .i64 (H : Int)), .slf 4 l.length (l.flatMap c4)]] [] (.agg [.val (.int .i64 (H : Int)), .val (.int .i64 (W : Int)), .arr 0]) [.arr 38 4 (turnL W H l).length ((turnL W H l).flatMap c4)] := by
  have hle := hs.le
  have hln := hs.len
  have hmw := hs.w
  have hmh := hs.h
  have hfl := turnL_len W H l
  refine dcalls_go (N := 37) 0 (by kernel_rfl) Try.func50 rfl rfl rfl (by simp only [fr0, Nat.zero_add, Nat.reduceAdd]; exact rfl) rfl fun s0 hs0 => ?_
  refine zaf ?_
  refine zai 2 (by simp only [holes, List.cons_append, List.nil_append]; exact rfl) ?_
  refine zad ?_
  refine zak rfl rfl rfl (op_boxam 0 rfl (ev1 rfl) rfl) (by simp only [upd, za, zaa]; exact rfl) ?_
  refine zak rfl rfl rfl (zal 1 rfl zr24 rfl) (by simp only [upd, za, zaa]; exact rfl) ?_
  refine zae ?_
  refine zaf ?_
  refine zai 1 (by simp only [holes, List.cons_append, List.nil_append]; exact rfl) ?_
  refine zad ?_
  refine zab rfl rfl rfl (op_fa rfl fo24_1 (ev1 rfl)) ?_
  refine zab rfl rfl rfl (op_ldm rfl tb3 (ev1 rfl) rfl rfl) ?_
  refine zab rfl rfl rfl (op_fa rfl fo24_0 (ev1 rfl)) ?_
  refine zab rfl rfl rfl (op_ldm rfl tb3 (ev1 rfl) rfl rfl) ?_
  refine zab rfl rfl rfl (op_build (ps := [(0, .tmp 7), (1, .tmp 9)]) rfl fl24 zr24 (vc (ev1 rfl) (vc (ev1 rfl) vn)) rfl rfl) ?_
  refine zak rfl rfl rfl (zal 2 rfl zr24 rfl) (by simp only [upd, za, zaa]; exact rfl) ?_
  refine walk_s rfl rfl (op_stwa rfl tb24 (ev1 rfl) (ev1 rfl) rfl rfl rfl rfl) (by simp only [upd, za, zaa]; exact rfl) ?_
  refine zae ?_
  refine zaf ?_
  refine zaf ?_
  refine dwp_reb 2 reb_mix rfl rfl (by simp only [List.cons_append, List.nil_append, za, zaa, List.map]; exact rfl) ?_
  refine dwp_adoptc (l' := [.val (.int .i64 (H : Int)), .val (.int .i64 (W : Int)), .arr 3]) 2 2 38 4 rfl rfl rfl rfl (by simp only [List.cons_append, List.nil_append, za, zaa]; exact rfl) ?_
  refine dwp_reb 3 reb_arr9 rfl rfl (by simp only [List.cons_append, List.nil_append, za, zaa, List.map]; exact rfl) ?_
  refine zad ?_
  refine zab rfl rfl rfl (op_fa rfl fo24_1 (ev1 rfl)) ?_
  refine zab rfl rfl rfl (op_ldm rfl tb3 (ev1 rfl) rfl rfl) ?_
  refine zab rfl rfl rfl (zac (.inl rfl) (ev1 rfl)) ?_
  refine zae ?_
  refine dwp_block ?_
  refine dwp_loopS ⟨hs0, rfl⟩ (α := Nat) (fun y => [(13, .val (.int .i64 (y : Int)))]) [(1, _), (2, _), (3, _), (12, _)] (fun y => [(3, .arr 38 4 ((turnL W H l).take (y * H)).length (((turnL W H l).take (y * H)).flatMap c4))]) [_, _, _, .hole] (fun y => y ≤ W) (fun y => W - y) 0 [0, 1, 2, 3] (Nat.zero_le _) rfl ⟨rfl, rfl, rfl, rfl, trivial⟩ ⟨rfl, trivial⟩ ⟨rfl, rfl, rfl, by rw [Nat.zero_mul]; rfl, trivial⟩ ?_
  intro y hx
  simp only [upd, za, zaa, List.cons_append, List.nil_append]
  have hy0 := hx
  refine zaf ?_
  refine zad ?_
  refine zab rfl rfl rfl (op_lss rfl (ev1 rfl) (ev1 rfl)) ?_
  refine zae ?_
  refine zaf ?_
  refine dwp_cond rfl (fun c1 => ?_) (fun c1 => ?_)
  · try simp only [decide_eq_true_eq, decide_eq_false_iff_not, beq_iff_eq, bne_iff_ne, beq_eq_false_iff_ne, bne_eq_false_iff_eq, Bool.not_eq_true', Bool.not_eq_false', Bool.and_eq_true, Bool.or_eq_true, Bool.or_eq_false_iff, ne_eq, Decidable.not_not, Int.not_lt, Int.not_le] at c1
    refine dwp_skip ?_
    refine zaf ?_
    refine dwp_block ?_
    refine zaf ?_
    refine zad ?_
    refine zab rfl rfl rfl (zac (.inl rfl) (ev1 rfl)) ?_
    refine zab rfl rfl rfl (zac (.inr rfl) (ev1 rfl)) ?_
    refine zae ?_
    refine zaf ?_
    have hy : y < W := by omega
    refine zad ?_
    refine zab rfl rfl rfl (op_fa rfl fo24_0 (ev1 rfl)) ?_
    refine zab rfl rfl rfl (op_ldm rfl tb3 (ev1 rfl) rfl rfl) ?_
    refine zab rfl rfl rfl (zac (.inl rfl) (ev1 rfl)) ?_
    refine zae ?_
    refine dwp_block ?_
    refine dwp_loopS ⟨hs0, rfl⟩ (α := Nat) (fun x => [(18, .val (.int .i64 (x : Int)))]) [(1, _), (2, _), (3, _), (4, _), (12, _), (13, _), (17, _)] (fun x => [(2, .mix 24 [.val (.int .i64 (H : Int)), .val (.int .i64 (W : Int)), .arr 3]), (3, .arr 38 4 ((turnL W H l).take (y * H + x)).length (((turnL W H l).take (y * H + x)).flatMap c4))]) [_, _, .hole, .hole] (fun x => x ≤ H) (fun x => H - x) 0 [0, 1, 2, 3] (Nat.zero_le _) rfl ⟨rfl, rfl, rfl, rfl, rfl, rfl, rfl, trivial⟩ ⟨rfl, trivial⟩ ⟨rfl, rfl, rfl, by rw [Nat.add_zero]; rfl, trivial⟩ ?_
    intro x hx
    simp only [upd, za, zaa, List.cons_append, List.nil_append]
    have hx0 := hx
    clear hx
    have htl : ((turnL W H l).take (y * H + x)).length ≤ 64 := by rw [List.length_take, hfl]; exact Nat.le_trans (Nat.min_le_right _ _) (mul_le64 (by omega) (by omega))
    refine zaf ?_
    refine zad ?_
    refine zab rfl rfl rfl (op_lss rfl (ev1 rfl) (ev1 rfl)) ?_
    refine zae ?_
    refine zaf ?_
    refine dwp_cond rfl (fun c2 => ?_) (fun c2 => ?_)
    · try simp only [decide_eq_true_eq, decide_eq_false_iff_not, beq_iff_eq, bne_iff_ne, beq_eq_false_iff_ne, bne_eq_false_iff_eq, Bool.not_eq_true', Bool.not_eq_false', Bool.and_eq_true, Bool.or_eq_true, Bool.or_eq_false_iff, ne_eq, Decidable.not_not, Int.not_lt, Int.not_le] at c2
      refine dwp_skip ?_
      refine zaf ?_
      refine dwp_block ?_
      refine zaf ?_
      refine zad ?_
      refine zab rfl rfl rfl (zac (.inl rfl) (ev1 rfl)) ?_
      refine zab rfl rfl rfl (zac (.inr rfl) (ev1 rfl)) ?_
      refine zae ?_
      have hx : x < H := by omega
      refine zai 1 (by simp only [holes, List.cons_append, List.nil_append]; exact rfl) ?_
      refine dwp_draw [([], []), ([2], []), ([0], []), ([], []), ([], []), ([0], []), ([], []), ([], []), ([], []), ([], []), ([], []), ([3, 4], [3, 4]), ([], []), ([2], [2])] mixed (by kernel_rfl) ?_
      refine zag rfl rfl (op_fa rfl fo24_2 (ev1 rfl)) ?_
      refine zag rfl rfl (op_ldm rfl tb22 (ev1 rfl) rfl rfl) ?_
      refine zag rfl rfl (op_ldmw rfl tb24 (ev1 rfl) rfl rfl) ?_
      refine zag rfl rfl (zac (.inl rfl) (ev1 rfl)) ?_
      refine zag rfl rfl (op_fa rfl fo24_1 (ev1 rfl)) ?_
      refine zag rfl rfl (op_ldm rfl tb3 (ev1 rfl) rfl rfl) ?_
      refine zag rfl rfl (op_sub' rfl (ev1 rfl) (ev1 rfl) (fun _ => IntWalk.i64_in _ (by omega))) ?_
      refine zag rfl rfl (zac (.inl rfl) (ev1 rfl)) ?_
      refine zag rfl rfl ((op_sub' rfl (ev1 rfl) (ev1 rfl) (fun _ => IntWalk.i64_in _ (by omega))).cast (d' := .val (.int .i64 ((H - 1 - x : Nat) : Int))) (int_cast (by omega))) ?_
      refine zag rfl rfl (zaj [] [] [] rfl (ev1 rfl) (ec (ev1 rfl) (ec (ev1 rfl) (ec (ev1 rfl) en))) rfl rfl (rsat_d W H l hs y (H - 1 - x) hy (by omega)) rfl rfl rfl rfl rfl rfl) ?_
      refine zag rfl rfl (op_bs (ps := [(0, .tmp 30)]) rfl sl22 zr38 rfl (vc (ev1 rfl) vn) rfl (by decide) (by decide)) ?_
      refine lex_w rfl rfl (op_app (j := 4) rfl sl22 zr38 rfl (ev1 rfl) (ev1 rfl) src_slf rfl rfl (fun _ => rfl) (fun _ => ⟨by omega, by omega⟩)) rfl (by simp only [upd, za, zaa]; exact rfl) ?_
      refine zag rfl rfl (op_fa rfl fo24_2 (ev1 rfl)) ?_
      refine lex_s rfl rfl (op_stm rfl tb22 (ev1 rfl) (ev1 rfl) (fun s v h => by cases h <;> exact ⟨rfl, rfl⟩) rfl (by first | decide | exact Nat.le_of_ble_eq_true rfl | simp)) rfl (by simp only [upd, za, zaa]; exact rfl) ?_
      refine lex_nil ?_
      refine zad ?_
      refine zab rfl rfl rfl (op_add' rfl (ev1 rfl) (ev1 rfl) (fun _ => IntWalk.i64_in _ (by omega))) ?_
      refine zab rfl rfl rfl (zac (.inl rfl) (ev1 rfl)) ?_
      refine zae ?_
      refine ⟨x + 1, [0, 1, 2, 4], by omega, by simp only []; omega, rfl, ⟨rfl, rfl, rfl, rfl, rfl, rfl, rfl, rfl, trivial⟩, ⟨rfl, rfl, rfl, arr_eq (by rw [turnL_add hx hy, List.length_append]; rfl) (by rw [turnL_add hx hy, List.flatMap_append]; rfl), trivial⟩⟩
    · try simp only [decide_eq_true_eq, decide_eq_false_iff_not, beq_iff_eq, bne_iff_ne, beq_eq_false_iff_ne, bne_eq_false_iff_eq, Bool.not_eq_true', Bool.not_eq_false', Bool.and_eq_true, Bool.or_eq_true, Bool.or_eq_false_iff, ne_eq, Decidable.not_not, Int.not_lt, Int.not_le] at c2
      refine dwp_exit ?_
      refine zad ?_
      refine zab rfl rfl rfl (op_add' rfl (ev1 rfl) (ev1 rfl) (fun _ => IntWalk.i64_in _ (by omega))) ?_
      refine zab rfl rfl rfl (zac (.inl rfl) (ev1 rfl)) ?_
      refine zae ?_
      obtain rfl : x = H := by omega
      refine ⟨y + 1, [0, 1, 2, 3], by omega, by simp only []; omega, rfl, ⟨rfl, rfl, rfl, rfl, rfl, trivial⟩, ⟨rfl, rfl, rfl, by rw [Nat.succ_mul]; rfl, trivial⟩⟩
  · try simp only [decide_eq_true_eq, decide_eq_false_iff_not, beq_iff_eq, bne_iff_ne, beq_eq_false_iff_ne, bne_eq_false_iff_eq, Bool.not_eq_true', Bool.not_eq_false', Bool.and_eq_true, Bool.or_eq_true, Bool.or_eq_false_iff, ne_eq, Decidable.not_not, Int.not_lt, Int.not_le] at c1
    refine dwp_exit ?_
    refine zaf ?_
    refine zad ?_
    refine zab rfl rfl rfl (op_ldmw rfl tb24 (ev1 rfl) rfl rfl) ?_
    refine walk_s rfl rfl (op_stam rfl tb24 (ev1 rfl) (ev1 rfl) rfl rfl rfl rfl) (by simp only [upd, za, zaa]; exact rfl) ?_
    refine zae ?_
    refine dwp_ret ?_
    obtain rfl : y = W := by omega
    refine kend [3] (rs1 rfl (rv_mw tb24 rfl rfl rfl)) rfl rfl ?_ ⟨?_, trivial⟩
    rfl
    exact (by rw [List.take_of_length_le (by rw [hfl]; exact Nat.le_of_eq (by first | rfl | exact Nat.mul_comm ..))]; rfl)
set_option maxRecDepth 4000 in
set_option maxHeartbeats 1000000 in
theorem rflip_o (W H : Nat) (l : List C4) (hs : StOk W H l) : DFun Try.prog 17 [.agg [.val (.int .i64 (W : Int)), .val (.int .i64 (H : Int)), .slf 4 l.length (l.flatMap c4)]] [] (.agg [.val (.int .i64 (W : Int)), .val (.int .i64 (H : Int)), .arr 0]) [.arr 38 4 (flipL W H l).length ((flipL W H l).flatMap c4)] := by
  have hle := hs.le
  have hln := hs.len
  have hmw := hs.w
  have hmh := hs.h
  have hfl := flipL_len W H l
  refine dcalls_go (N := 37) 0 (by kernel_rfl) Try.func17 rfl rfl rfl (by simp only [fr0, Nat.zero_add, Nat.reduceAdd]; exact rfl) rfl fun s0 hs0 => ?_
  refine zaf ?_
  refine zai 2 (by simp only [holes, List.cons_append, List.nil_append]; exact rfl) ?_
  refine zad ?_
  refine zak rfl rfl rfl (op_boxam 0 rfl (ev1 rfl) rfl) (by simp only [upd, za, zaa]; exact rfl) ?_
  refine zak rfl rfl rfl (zal 1 rfl zr24 rfl) (by simp only [upd, za, zaa]; exact rfl) ?_
  refine zae ?_
  refine zaf ?_
  refine zai 1 (by simp only [holes, List.cons_append, List.nil_append]; exact rfl) ?_
  refine zad ?_
  refine zab rfl rfl rfl (op_fa rfl fo24_0 (ev1 rfl)) ?_
  refine zab rfl rfl rfl (op_ldm rfl tb3 (ev1 rfl) rfl rfl) ?_
  refine zab rfl rfl rfl (op_fa rfl fo24_1 (ev1 rfl)) ?_
  refine zab rfl rfl rfl (op_ldm rfl tb3 (ev1 rfl) rfl rfl) ?_
  refine zab rfl rfl rfl (op_build (ps := [(0, .tmp 7), (1, .tmp 9)]) rfl fl24 zr24 (vc (ev1 rfl) (vc (ev1 rfl) vn)) rfl rfl) ?_
  refine zak rfl rfl rfl (zal 2 rfl zr24 rfl) (by simp only [upd, za, zaa]; exact rfl) ?_
  refine walk_s rfl rfl (op_stwa rfl tb24 (ev1 rfl) (ev1 rfl) rfl rfl rfl rfl) (by simp only [upd, za, zaa]; exact rfl) ?_
  refine zae ?_
  refine zaf ?_
  refine zaf ?_
  refine dwp_reb 2 reb_mix rfl rfl (by simp only [List.cons_append, List.nil_append, za, zaa, List.map]; exact rfl) ?_
  refine dwp_adoptc (l' := [.val (.int .i64 (W : Int)), .val (.int .i64 (H : Int)), .arr 3]) 2 2 38 4 rfl rfl rfl rfl (by simp only [List.cons_append, List.nil_append, za, zaa]; exact rfl) ?_
  refine dwp_reb 3 reb_arr9 rfl rfl (by simp only [List.cons_append, List.nil_append, za, zaa, List.map]; exact rfl) ?_
  refine zad ?_
  refine zab rfl rfl rfl (op_fa rfl fo24_1 (ev1 rfl)) ?_
  refine zab rfl rfl rfl (op_ldm rfl tb3 (ev1 rfl) rfl rfl) ?_
  refine zab rfl rfl rfl (zac (.inl rfl) (ev1 rfl)) ?_
  refine zae ?_
  refine dwp_block ?_
  refine dwp_loopS ⟨hs0, rfl⟩ (α := Nat) (fun y => [(13, .val (.int .i64 (y : Int)))]) [(1, _), (2, _), (3, _), (12, _)] (fun y => [(3, .arr 38 4 ((flipL W H l).take (y * W)).length (((flipL W H l).take (y * W)).flatMap c4))]) [_, _, _, .hole] (fun y => y ≤ H) (fun y => H - y) 0 [0, 1, 2, 3] (Nat.zero_le _) rfl ⟨rfl, rfl, rfl, rfl, trivial⟩ ⟨rfl, trivial⟩ ⟨rfl, rfl, rfl, by rw [Nat.zero_mul]; rfl, trivial⟩ ?_
  intro y hx
  simp only [upd, za, zaa, List.cons_append, List.nil_append]
  have hy0 := hx
  refine zaf ?_
  refine zad ?_
  refine zab rfl rfl rfl (op_lss rfl (ev1 rfl) (ev1 rfl)) ?_
  refine zae ?_
  refine zaf ?_
  refine dwp_cond rfl (fun c1 => ?_) (fun c1 => ?_)
  · try simp only [decide_eq_true_eq, decide_eq_false_iff_not, beq_iff_eq, bne_iff_ne, beq_eq_false_iff_ne, bne_eq_false_iff_eq, Bool.not_eq_true', Bool.not_eq_false', Bool.and_eq_true, Bool.or_eq_true, Bool.or_eq_false_iff, ne_eq, Decidable.not_not, Int.not_lt, Int.not_le] at c1
    refine dwp_skip ?_
    refine zaf ?_
    refine dwp_block ?_
    refine zaf ?_
    refine zad ?_
    refine zab rfl rfl rfl (zac (.inl rfl) (ev1 rfl)) ?_
    refine zab rfl rfl rfl (zac (.inr rfl) (ev1 rfl)) ?_
    refine zae ?_
    refine zaf ?_
    have hy : y < H := by omega
    refine zad ?_
    refine zab rfl rfl rfl (op_fa rfl fo24_0 (ev1 rfl)) ?_
    refine zab rfl rfl rfl (op_ldm rfl tb3 (ev1 rfl) rfl rfl) ?_
    refine zab rfl rfl rfl (zac (.inl rfl) (ev1 rfl)) ?_
    refine zae ?_
    refine dwp_block ?_
    refine dwp_loopS ⟨hs0, rfl⟩ (α := Nat) (fun x => [(18, .val (.int .i64 (x : Int)))]) [(1, _), (2, _), (3, _), (4, _), (12, _), (13, _), (17, _)] (fun x => [(2, .mix 24 [.val (.int .i64 (W : Int)), .val (.int .i64 (H : Int)), .arr 3]), (3, .arr 38 4 ((flipL W H l).take (y * W + x)).length (((flipL W H l).take (y * W + x)).flatMap c4))]) [_, _, .hole, .hole] (fun x => x ≤ W) (fun x => W - x) 0 [0, 1, 2, 3] (Nat.zero_le _) rfl ⟨rfl, rfl, rfl, rfl, rfl, rfl, rfl, trivial⟩ ⟨rfl, trivial⟩ ⟨rfl, rfl, rfl, by rw [Nat.add_zero]; rfl, trivial⟩ ?_
    intro x hx
    simp only [upd, za, zaa, List.cons_append, List.nil_append]
    have hx0 := hx
    clear hx
    have htl : ((flipL W H l).take (y * W + x)).length ≤ 64 := by rw [List.length_take, hfl]; exact Nat.le_trans (Nat.min_le_right _ _) (mul_le64 (by omega) (by omega))
    refine zaf ?_
    refine zad ?_
    refine zab rfl rfl rfl (op_lss rfl (ev1 rfl) (ev1 rfl)) ?_
    refine zae ?_
    refine zaf ?_
    refine dwp_cond rfl (fun c2 => ?_) (fun c2 => ?_)
    · try simp only [decide_eq_true_eq, decide_eq_false_iff_not, beq_iff_eq, bne_iff_ne, beq_eq_false_iff_ne, bne_eq_false_iff_eq, Bool.not_eq_true', Bool.not_eq_false', Bool.and_eq_true, Bool.or_eq_true, Bool.or_eq_false_iff, ne_eq, Decidable.not_not, Int.not_lt, Int.not_le] at c2
      refine dwp_skip ?_
      refine zaf ?_
      refine dwp_block ?_
      refine zaf ?_
      refine zad ?_
      refine zab rfl rfl rfl (zac (.inl rfl) (ev1 rfl)) ?_
      refine zab rfl rfl rfl (zac (.inr rfl) (ev1 rfl)) ?_
      refine zae ?_
      have hx : x < W := by omega
      refine zai 1 (by simp only [holes, List.cons_append, List.nil_append]; exact rfl) ?_
      refine dwp_draw [([], []), ([2], []), ([0], []), ([], []), ([0], []), ([], []), ([], []), ([], []), ([], []), ([], []), ([], []), ([3, 4], [3, 4]), ([], []), ([2], [2])] mixed (by kernel_rfl) ?_
      refine zag rfl rfl (op_fa rfl fo24_2 (ev1 rfl)) ?_
      refine zag rfl rfl (op_ldm rfl tb22 (ev1 rfl) rfl rfl) ?_
      refine zag rfl rfl (op_ldmw rfl tb24 (ev1 rfl) rfl rfl) ?_
      refine zag rfl rfl (op_fa rfl fo24_0 (ev1 rfl)) ?_
      refine zag rfl rfl (op_ldm rfl tb3 (ev1 rfl) rfl rfl) ?_
      refine zag rfl rfl (op_sub' rfl (ev1 rfl) (ev1 rfl) (fun _ => IntWalk.i64_in _ (by omega))) ?_
      refine zag rfl rfl (zac (.inl rfl) (ev1 rfl)) ?_
      refine zag rfl rfl ((op_sub' rfl (ev1 rfl) (ev1 rfl) (fun _ => IntWalk.i64_in _ (by omega))).cast (d' := .val (.int .i64 ((W - 1 - x : Nat) : Int))) (int_cast (by omega))) ?_
      refine zag rfl rfl (zac (.inl rfl) (ev1 rfl)) ?_
      refine zag rfl rfl (zaj [] [] [] rfl (ev1 rfl) (ec (ev1 rfl) (ec (ev1 rfl) (ec (ev1 rfl) en))) rfl rfl (rsat_d W H l hs (W - 1 - x) y (by omega) hy) rfl rfl rfl rfl rfl rfl) ?_
      refine zag rfl rfl (op_bs (ps := [(0, .tmp 30)]) rfl sl22 zr38 rfl (vc (ev1 rfl) vn) rfl (by decide) (by decide)) ?_
      refine lex_w rfl rfl (op_app (j := 4) rfl sl22 zr38 rfl (ev1 rfl) (ev1 rfl) src_slf rfl rfl (fun _ => rfl) (fun _ => ⟨by omega, by omega⟩)) rfl (by simp only [upd, za, zaa]; exact rfl) ?_
      refine zag rfl rfl (op_fa rfl fo24_2 (ev1 rfl)) ?_
      refine lex_s rfl rfl (op_stm rfl tb22 (ev1 rfl) (ev1 rfl) (fun s v h => by cases h <;> exact ⟨rfl, rfl⟩) rfl (by first | decide | exact Nat.le_of_ble_eq_true rfl | simp)) rfl (by simp only [upd, za, zaa]; exact rfl) ?_
      refine lex_nil ?_
      refine zad ?_
      refine zab rfl rfl rfl (op_add' rfl (ev1 rfl) (ev1 rfl) (fun _ => IntWalk.i64_in _ (by omega))) ?_
      refine zab rfl rfl rfl (zac (.inl rfl) (ev1 rfl)) ?_
      refine zae ?_
      refine ⟨x + 1, [0, 1, 2, 4], by omega, by simp only []; omega, rfl, ⟨rfl, rfl, rfl, rfl, rfl, rfl, rfl, rfl, trivial⟩, ⟨rfl, rfl, rfl, arr_eq (by rw [flipL_add hx hy, List.length_append]; rfl) (by rw [flipL_add hx hy, List.flatMap_append]; rfl), trivial⟩⟩
    · try simp only [decide_eq_true_eq, decide_eq_false_iff_not, beq_iff_eq, bne_iff_ne, beq_eq_false_iff_ne, bne_eq_false_iff_eq, Bool.not_eq_true', Bool.not_eq_false', Bool.and_eq_true, Bool.or_eq_true, Bool.or_eq_false_iff, ne_eq, Decidable.not_not, Int.not_lt, Int.not_le] at c2
      refine dwp_exit ?_
      refine zad ?_
      refine zab rfl rfl rfl (op_add' rfl (ev1 rfl) (ev1 rfl) (fun _ => IntWalk.i64_in _ (by omega))) ?_
      refine zab rfl rfl rfl (zac (.inl rfl) (ev1 rfl)) ?_
      refine zae ?_
      obtain rfl : x = W := by omega
      refine ⟨y + 1, [0, 1, 2, 3], by omega, by simp only []; omega, rfl, ⟨rfl, rfl, rfl, rfl, rfl, trivial⟩, ⟨rfl, rfl, rfl, by rw [Nat.succ_mul]; rfl, trivial⟩⟩
  · try simp only [decide_eq_true_eq, decide_eq_false_iff_not, beq_iff_eq, bne_iff_ne, beq_eq_false_iff_ne, bne_eq_false_iff_eq, Bool.not_eq_true', Bool.not_eq_false', Bool.and_eq_true, Bool.or_eq_true, Bool.or_eq_false_iff, ne_eq, Decidable.not_not, Int.not_lt, Int.not_le] at c1
    refine dwp_exit ?_
    refine zaf ?_
    refine zad ?_
    refine zab rfl rfl rfl (op_ldmw rfl tb24 (ev1 rfl) rfl rfl) ?_
    refine walk_s rfl rfl (op_stam rfl tb24 (ev1 rfl) (ev1 rfl) rfl rfl rfl rfl) (by simp only [upd, za, zaa]; exact rfl) ?_
    refine zae ?_
    refine dwp_ret ?_
    obtain rfl : y = H := by omega
    refine kend [3] (rs1 rfl (rv_mw tb24 rfl rfl rfl)) rfl rfl ?_ ⟨?_, trivial⟩
    rfl
    exact (by rw [Nat.mul_comm y W, List.take_of_length_le (by rw [hfl]; exact Nat.le_of_eq (by first | rfl | exact Nat.mul_comm ..))]; rfl)
theorem quarter_d (W H : Nat) (l : List C4) (hs : StOk W H l) : DFun Try.prog 50 [.agg [.val (.int .i64 (W : Int)), .val (.int .i64 (H : Int)), .slf 4 l.length (l.flatMap c4)]] [] (.agg [.val (.int .i64 (H : Int)), .val (.int .i64 (W : Int)), .slf 4 (turnL W H l).length ((turnL W H l).flatMap c4)]) [] := freeze (quarter_o W H l hs) rfl
theorem rflip_d (W H : Nat) (l : List C4) (hs : StOk W H l) : DFun Try.prog 17 [.agg [.val (.int .i64 (W : Int)), .val (.int .i64 (H : Int)), .slf 4 l.length (l.flatMap c4)]] [] (.agg [.val (.int .i64 (W : Int)), .val (.int .i64 (H : Int)), .slf 4 (flipL W H l).length ((flipL W H l).flatMap c4)]) [] := freeze (rflip_o W H l hs) rfl
set_option maxRecDepth 4000 in
set_option maxHeartbeats 1000000 in
theorem rturn_d (s : StM) (hs : s.ok) (q : Int) : DFun Try.prog 20 [.agg [.val (.int .i64 (s.W : Int)), .val (.int .i64 (s.H : Int)), .slf 4 s.l.length (s.l.flatMap c4)], .val (.int .i64 q)] [] (.agg [.val (.int .i64 ((turnN (qN q) s).W : Int)), .val (.int .i64 ((turnN (qN q) s).H : Int)), .slf 4 (turnN (qN q) s).l.length ((turnN (qN q) s).l.flatMap c4)]) [] := by
  have hq := qN_eq q
  refine dcalls_go (N := 15) 0 (by kernel_rfl) Try.func20 rfl rfl rfl (by simp only [fr0, Nat.zero_add, Nat.reduceAdd]; exact rfl) rfl fun s0 hs0 => ?_
  refine zaf ?_
  refine zai 2 (by simp only [holes, List.cons_append, List.nil_append]; exact rfl) ?_
  refine zad ?_
  refine zak rfl rfl rfl (op_boxam 0 rfl (ev1 rfl) rfl) (by simp only [upd, za, zaa]; exact rfl) ?_
  refine zak rfl rfl rfl (zal 1 rfl zr24 rfl) (by simp only [upd, za, zaa]; exact rfl) ?_
  refine zae ?_
  refine zaf ?_
  refine zaf ?_
  refine zad ?_
  refine zab rfl rfl rfl (zac (.inl rfl) (ev1 rfl)) ?_
  refine zab rfl rfl rfl (op_rem rfl (ev1 rfl) (ev1 rfl) (fun _ => by omega)) ?_
  refine zab rfl rfl rfl (op_add' rfl (ev1 rfl) (ev1 rfl) (fun _ => IntWalk.i64_in _ (by omega))) ?_
  refine zab rfl rfl rfl (op_rem' rfl (ev1 rfl) (ev1 rfl) (fun _ => ⟨by omega, by omega⟩)) ?_
  refine zab rfl rfl rfl (zac (.inl rfl) (ev1 rfl)) ?_
  refine zae ?_
  refine dwp_block ?_
  refine dwp_loopS ⟨hs0, rfl⟩ (α := Nat) (fun k => [(9, .val (.int .i64 (k : Int)))]) [(2, _), (4, _), (8, _)] (fun k => [(0, .mix 24 [.val (.int .i64 ((turnN k s).W : Int)), .val (.int .i64 ((turnN k s).H : Int)), .slf 4 (turnN k s).l.length ((turnN k s).l.flatMap c4)])]) [.hole, _] (fun k => k ≤ qN q) (fun k => qN q - k) 0 [0, 1] (Nat.zero_le _) rfl ⟨rfl, rfl, rfl, trivial⟩ ⟨rfl, trivial⟩ ⟨rfl, rfl, trivial⟩ ?_
  intro k hx
  simp only [upd, za, zaa, List.cons_append, List.nil_append]
  have hk := hx
  have hok := turnN_ok k hs
  refine zaf ?_
  refine zad ?_
  refine zab rfl rfl rfl (op_lss rfl (ev1 rfl) (ev1 rfl)) ?_
  refine zae ?_
  refine zaf ?_
  refine dwp_cond rfl (fun c1 => ?_) (fun c1 => ?_)
  · try simp only [decide_eq_true_eq, decide_eq_false_iff_not, beq_iff_eq, bne_iff_ne, beq_eq_false_iff_ne, bne_eq_false_iff_eq, Bool.not_eq_true', Bool.not_eq_false', Bool.and_eq_true, Bool.or_eq_true, Bool.or_eq_false_iff, ne_eq, Decidable.not_not, Int.not_lt, Int.not_le] at c1
    refine dwp_skip ?_
    refine zaf ?_
    refine dwp_block ?_
    refine zad ?_
    refine zab rfl rfl rfl (op_ldmw rfl tb24 (ev1 rfl) rfl rfl) ?_
    refine zab rfl rfl rfl (zaj [] [] [] rfl (ev1 rfl) (ec (ev1 rfl) en) rfl rfl (quarter_d (turnN k s).W (turnN k s).H (turnN k s).l hok) rfl rfl rfl rfl rfl rfl) ?_
    refine walk_s rfl rfl (op_stmw rfl tb24 (ev1 rfl) (ev1 rfl) rfl rfl rfl rfl) (by simp only [upd, za, zaa]; exact rfl) ?_
    refine zae ?_
    refine zad ?_
    refine zab rfl rfl rfl (op_add' rfl (ev1 rfl) (ev1 rfl) (fun _ => IntWalk.i64_in _ (by omega))) ?_
    refine zab rfl rfl rfl (zac (.inl rfl) (ev1 rfl)) ?_
    refine zae ?_
    refine ⟨k + 1, [0, 1], by omega, by simp only []; omega, rfl, ⟨rfl, rfl, rfl, rfl, trivial⟩, ⟨by rw [turnN_succ]; rfl, rfl, trivial⟩⟩
  · try simp only [decide_eq_true_eq, decide_eq_false_iff_not, beq_iff_eq, bne_iff_ne, beq_eq_false_iff_ne, bne_eq_false_iff_eq, Bool.not_eq_true', Bool.not_eq_false', Bool.and_eq_true, Bool.or_eq_true, Bool.or_eq_false_iff, ne_eq, Decidable.not_not, Int.not_lt, Int.not_le] at c1
    refine dwp_exit ?_
    refine zaf ?_
    refine zad ?_
    refine zab rfl rfl rfl (op_ldmw rfl tb24 (ev1 rfl) rfl rfl) ?_
    refine walk_s rfl rfl (op_stam rfl tb24 (ev1 rfl) (ev1 rfl) rfl rfl rfl rfl) (by simp only [upd, za, zaa]; exact rfl) ?_
    refine zae ?_
    refine dwp_ret ?_
    obtain rfl : k = qN q := by omega
    refine kend0 (rs1 rfl (rv_mw tb24 rfl rfl rfl)) rfl ?_
    rfl
def seenN (l : List C4) : Nat := (l.filter fun c => decide (c.a ≠ 0)).length
theorem seenN_le (l : List C4) : seenN l ≤ l.length := List.length_filter_le ..
theorem seenN_add {l : List C4} {k : Nat} (h : k < l.length) : seenN (l.take (k + 1)) = seenN (l.take k) + if l[k].a ≠ 0 then 1 else 0 := by
  rw [List.take_succ_eq_append_getElem h, seenN, List.filter_append, List.length_append, seenN]
  congr 1
  by_cases e : l[k].a = 0
  · simp [e]
  · simp [e]
theorem seen_wear {l : List C4} (h : ∀ c ∈ l, c.rng) : seenN l = wearN l := by
  unfold seenN wearN
  rw [List.filter_congr fun c hc => ?_]
  have := (h c hc).2.2.2
  rw [decide_eq_decide]
  omega
set_option maxRecDepth 4000 in
set_option maxHeartbeats 1000000 in
theorem rwears_d (w h : Int) (l : List C4) (hl : l.length ≤ 5000) : DFun Try.prog 14 [.agg [.val (.int .i64 w), .val (.int .i64 h), .slf 4 l.length (l.flatMap c4)]] [] (.val (.int .i64 (seenN l : Int))) [] := by
  refine dcalls_go (N := 20) 0 (by kernel_rfl) Try.func14 rfl rfl rfl (by simp only [fr0, Nat.zero_add, Nat.reduceAdd]; exact rfl) rfl fun s0 hs0 => ?_
  refine zaf ?_
  refine zai 1 (by simp only [holes, List.cons_append, List.nil_append]; exact rfl) ?_
  refine zad ?_
  refine zak rfl rfl rfl (op_boxam 0 rfl (ev1 rfl) rfl) (by simp only [upd, za, zaa]; exact rfl) ?_
  refine zab rfl rfl rfl (zac (.inr rfl) (ev1 rfl)) ?_
  refine zae ?_
  refine zaf ?_
  refine zad ?_
  refine zab rfl rfl rfl (zac (.inr rfl) (ev1 rfl)) ?_
  refine zae ?_
  refine zaf ?_
  refine zaf ?_
  refine zad ?_
  refine zab rfl rfl rfl (op_fa rfl fo24_2 (ev1 rfl)) ?_
  refine zab rfl rfl rfl (op_ldm rfl tb22 (ev1 rfl) rfl rfl) ?_
  refine zab rfl rfl rfl (op_len rfl sl22 (ev1 rfl)) ?_
  refine zab rfl rfl rfl (zac (.inl rfl) (ev1 rfl)) ?_
  refine zae ?_
  refine dwp_block ?_
  refine dwp_loopS ⟨hs0, rfl⟩ (α := Nat) (fun k => [(3, .val (.int .i64 (seenN (l.take k) : Int))), (9, .val (.int .i64 (k : Int)))]) [(7, _), (8, _)] (fun k => []) [_] (fun k => k ≤ l.length) (fun k => l.length - k) 0 [0] (Nat.zero_le _) rfl ⟨rfl, rfl, trivial⟩ ⟨rfl, rfl, trivial⟩ ⟨rfl, trivial⟩ ?_
  intro k hx
  simp only [upd, za, zaa, List.cons_append, List.nil_append]
  have hk := hx
  have hsl := seenN_le (l.take k)
  rw [List.length_take] at hsl
  refine zaf ?_
  refine zad ?_
  refine zab rfl rfl rfl (op_lss rfl (ev1 rfl) (ev1 rfl)) ?_
  refine zae ?_
  refine zaf ?_
  refine dwp_cond rfl (fun c1 => ?_) (fun c1 => ?_)
  · try simp only [decide_eq_true_eq, decide_eq_false_iff_not, beq_iff_eq, bne_iff_ne, beq_eq_false_iff_ne, bne_eq_false_iff_eq, Bool.not_eq_true', Bool.not_eq_false', Bool.and_eq_true, Bool.or_eq_true, Bool.or_eq_false_iff, ne_eq, Decidable.not_not, Int.not_lt, Int.not_le] at c1
    refine dwp_skip ?_
    refine zaf ?_
    refine dwp_block ?_
    refine zaf ?_
    refine zai 1 (by simp only [holes, List.cons_append, List.nil_append]; exact rfl) ?_
    refine zad ?_
    refine zab rfl rfl rfl (op_ixsr (j := k) rfl sl22 (ev1 rfl) (ev1 rfl) (fun _ => rfl) (by decide) (by omega) (by omega)) ?_
    refine zab rfl rfl rfl (op_ldwd rfl tb38 (ev1 rfl) rfl) ?_
    refine zak rfl rfl rfl (zal 1 rfl zr38 rfl) (by simp only [upd, za, zaa]; exact rfl) ?_
    refine walk_s rfl rfl (op_stwa rfl tb38 (ev1 rfl) (ev1 rfl) rfl rfl rfl rfl) (by simp only [upd, za, zaa]; exact rfl) ?_
    refine zae ?_
    refine zaf ?_
    refine zad ?_
    refine zab rfl rfl rfl (op_fa rfl fo38_3 (ev1 rfl)) ?_
    refine zab rfl rfl rfl (op_ldo rfl tb5 (ev1 rfl) rfl rfl) ?_
    refine zab rfl rfl rfl (op_neq rfl (ev1 rfl) (ev1 rfl)) ?_
    refine zae ?_
    refine dwp_cond rfl (fun c2 => ?_) (fun c2 => ?_)
    · have c3 : l[k].a ≠ 0 := by simpa using c2
      refine zad ?_
      refine zab rfl rfl rfl (zac (.inl rfl) (ev1 rfl)) ?_
      refine zab rfl rfl rfl (op_add' rfl (ev1 rfl) (ev1 rfl) (fun _ => IntWalk.i64_in _ (by omega))) ?_
      refine zab rfl rfl rfl (zac (.inr rfl) (ev1 rfl)) ?_
      refine zae ?_
      refine zad ?_
      refine zab rfl rfl rfl (op_add' rfl (ev1 rfl) (ev1 rfl) (fun _ => IntWalk.i64_in _ (by omega))) ?_
      refine zab rfl rfl rfl (zac (.inl rfl) (ev1 rfl)) ?_
      refine zae ?_
      refine ⟨k + 1, [0], by omega, by simp only []; omega, rfl, ⟨by rw [seenN_add (by omega), if_pos c3]; rfl, rfl, rfl, rfl, trivial⟩, ⟨rfl, trivial⟩⟩
    · have c3 : ¬ l[k].a ≠ 0 := by simpa using c2
      refine dwp_skip ?_
      refine zad ?_
      refine zab rfl rfl rfl (op_add' rfl (ev1 rfl) (ev1 rfl) (fun _ => IntWalk.i64_in _ (by omega))) ?_
      refine zab rfl rfl rfl (zac (.inl rfl) (ev1 rfl)) ?_
      refine zae ?_
      refine ⟨k + 1, [0], by omega, by simp only []; omega, rfl, ⟨by rw [seenN_add (by omega), if_neg c3]; rfl, rfl, rfl, rfl, trivial⟩, ⟨rfl, trivial⟩⟩
  · try simp only [decide_eq_true_eq, decide_eq_false_iff_not, beq_iff_eq, bne_iff_ne, beq_eq_false_iff_ne, bne_eq_false_iff_eq, Bool.not_eq_true', Bool.not_eq_false', Bool.and_eq_true, Bool.or_eq_true, Bool.or_eq_false_iff, ne_eq, Decidable.not_not, Int.not_lt, Int.not_le] at c1
    refine dwp_exit ?_
    refine zaf ?_
    refine zad ?_
    refine zab rfl rfl rfl (zac (.inl rfl) (ev1 rfl)) ?_
    refine zab rfl rfl rfl (zac (.inr rfl) (ev1 rfl)) ?_
    refine zae ?_
    refine dwp_ret ?_
    rw [List.take_of_length_le (by omega)]
    refine kend0 (rs1 rfl (rv_t rfl)) rfl ?_
    rfl
end Go.Proofs.Ytadjbiccndaclaa
namespace Go.Proofs.Ytadjbiccndaclaa
set_option maxRecDepth 4000
set_option linter.unusedVariables false
set_option linter.unusedSimpArgs false
open Go.RowKit
open Go.ChangeShapes Go.WideShapes Go.ChangeAt Go.Joins Go.Deep
theorem fits_p2 (cs : List Value) (h : fitsP [.int .i64, .int .i64] cs) : ∃ p : P2, p.rng ∧ cs = p2 p := by
  obtain ⟨x0, r, rfl, h0, g1⟩ := fitsP_cons h
  obtain ⟨x1, r, rfl, h1, g2⟩ := fitsP_cons g1
  obtain rfl := fitsP_nil g2
  obtain ⟨x, wx, rfl⟩ := fits_prim_i64 h0
  obtain ⟨y, wy, rfl⟩ := fits_prim_i64 h1
  exact ⟨⟨x, y⟩, ⟨wx, wy⟩, rfl⟩
end Go.Proofs.Ytadjbiccndaclaa
namespace Go.Proofs.Ytadjbiccndaclaa
set_option maxRecDepth 4000
set_option linter.unusedVariables false
set_option linter.unusedSimpArgs false
open Go.RowKit
theorem un4 : Try.prog.underlying 4 = some .bool := by kernel_rfl
theorem sat_y (W H : Nat) (l : List C4) (hs : StOk W H l) (x y : Int) (hx : 0 ≤ x ∧ x < (W : Int)) (hy : 0 ≤ y ∧ y < (H : Int)) : DFun Try.prog 18 [.agg [.val (.int .i64 (W : Int)), .val (.int .i64 (H : Int)), .slf 4 l.length (l.flatMap c4)], .val (.int .i64 x), .val (.int .i64 y)] [] (.tup [.val (.agg (c4 (getS W l x.toNat y.toNat)).toArray), .val (.bool true)]) [] := by
  obtain ⟨i, rfl⟩ : ∃ i : Nat, x = (i : Int) := ⟨x.toNat, by omega⟩
  obtain ⟨j, rfl⟩ : ∃ j : Nat, y = (j : Int) := ⟨y.toNat, by omega⟩
  exact sat_ok W H l hs i j (by omega) (by omega)
theorem rsat_y (W H : Nat) (l : List C4) (hs : StOk W H l) (x y : Int) (hx : 0 ≤ x ∧ x < (W : Int)) (hy : 0 ≤ y ∧ y < (H : Int)) : DFun Try.prog 21 [.agg [.val (.int .i64 (W : Int)), .val (.int .i64 (H : Int)), .slf 4 l.length (l.flatMap c4)], .val (.int .i64 x), .val (.int .i64 y)] [] (.val (.agg (c4 (getS W l x.toNat y.toNat)).toArray)) [] := by
  obtain ⟨i, rfl⟩ : ∃ i : Nat, x = (i : Int) := ⟨x.toNat, by omega⟩
  obtain ⟨j, rfl⟩ : ∃ j : Nat, y = (j : Int) := ⟨y.toNat, by omega⟩
  exact rsat_d W H l hs i j (by omega) (by omega)
theorem setL_cr {l : List C4} {q : Nat} {v : Int} (hq : q < l.length) : setL (l.flatMap c4) (q * 4) [.int .u8 v] = (l.set q { l.getD q zC4 with r := v }).flatMap c4 := by
  refine flat_set_part (c := 0) c4_len hq (by show 0 + 1 ≤ 4; decide) ?_
  rw [List.getD_eq_getElem?_getD, List.getElem?_eq_getElem hq]
  rfl
theorem get_cr {l : List C4} {q : Nat} (hq : q < l.length) : (l.flatMap c4)[q * 4 + 0]? = some (.int .u8 (l.getD q zC4).r) := by
  rw [flat_cell c4_len hq (by decide), List.getD_eq_getElem?_getD, List.getElem?_eq_getElem hq]
  rfl
theorem wk_s0 : Wk (.val (.agg #[.int .i64 0, .int .i64 0, .slice none 0 0])) (.agg [.val (.int .i64 0), .val (.int .i64 0), .slf 4 ([] : List C4).length (([] : List C4).flatMap c4)]) := (Wk.vagg _).trans (Wk.agg (.cons (.refl _) (.cons (.refl _) (.cons (Wk.slf0 4) .nil))))
set_option maxRecDepth 4000 in
set_option maxHeartbeats 1000000 in
theorem sturns_d (w h : Int) (l : List C4) (hlr : ∀ c ∈ l, c.rng) (w2 h2 : Int) (r : List C4) (ps : List P2) : DFun Try.prog 3 [.agg [.val (.int .i64 w), .val (.int .i64 h), .slf 4 l.length (l.flatMap c4)], .agg [.val (.int .i64 w2), .val (.int .i64 h2), .slf 4 r.length (r.flatMap c4)], .slf 2 ps.length (ps.flatMap p2)] [] (.val (.bool true)) [] := by
  refine dcalls_go (N := 191) 0 (by kernel_rfl) Try.func3 rfl rfl rfl (by simp only [fr0, Nat.zero_add, Nat.reduceAdd]; exact rfl) rfl fun s0 hs0 => ?_
  refine dwp_len (t := 2) rfl fun hl2 hL2 => ?_
  refine zaf ?_
  refine zai 2 (by simp only [holes, List.cons_append, List.nil_append]; exact rfl) ?_
  refine zad ?_
  refine zak rfl rfl rfl (op_boxam 0 rfl (ev1 rfl) rfl) (by simp only [upd, za, zaa]; exact rfl) ?_
  refine zak rfl rfl rfl (op_boxam 1 rfl (ev1 rfl) rfl) (by simp only [upd, za, zaa]; exact rfl) ?_
  refine zab rfl rfl rfl (zac (.inr rfl) (ev1 rfl)) ?_
  refine zae ?_
  refine zaf ?_
  refine zaf ?_
  refine zad ?_
  refine zab rfl rfl rfl (zaj [] [] [] rfl (ev1 rfl) en rfl rfl (swakes_d) rfl rfl rfl rfl rfl rfl) ?_
  refine zab rfl rfl rfl (op_not rfl (ev1 rfl)) ?_
  refine zae ?_
  refine dwp_if_f rfl (rfl) ?_
  refine dwp_skip ?_
  refine zaf ?_
  obtain ⟨L, hL⟩ : ∃ L, L = l.take 66 := ⟨_, rfl⟩
  obtain ⟨R, hR⟩ : ∃ R, R = r.take 66 := ⟨_, rfl⟩
  have hLl : L.length ≤ 66 := by rw [hL, List.length_take]; omega
  have hLr : ∀ c ∈ L, c.rng := fun c hc => hlr c (List.mem_of_mem_take (hL ▸ hc))
  refine zai 2 (by simp only [holes, List.cons_append, List.nil_append]; exact rfl) ?_
  refine dwp_draw [([0], []), ([], []), ([1], []), ([], []), ([2], [2]), ([3], [3]), ([2], [2]), ([3], [3])] mixed (by kernel_rfl) ?_
  refine zag rfl rfl (op_ldmw rfl tb24 (ev1 rfl) rfl rfl) ?_
  refine zag rfl rfl (zaj [] [] [] rfl (ev1 rfl) (ec (ev1 rfl) en) rfl rfl ((by rw [hL]; exact sown_d w h l : DFun Try.prog 9 [.agg [.val (.int .i64 w), .val (.int .i64 h), .slf 4 l.length (l.flatMap c4)]] [] (.agg [.val (.int .i64 w), .val (.int .i64 h), .slf 4 L.length (L.flatMap c4)]) [])) rfl rfl rfl rfl rfl rfl) ?_
  refine zag rfl rfl (op_ldmw rfl tb24 (ev1 rfl) rfl rfl) ?_
  refine zag rfl rfl (zaj [] [] [] rfl (ev1 rfl) (ec (ev1 rfl) en) rfl rfl ((by rw [hR]; exact sown_d w2 h2 r : DFun Try.prog 9 [.agg [.val (.int .i64 w2), .val (.int .i64 h2), .slf 4 r.length (r.flatMap c4)]] [] (.agg [.val (.int .i64 w2), .val (.int .i64 h2), .slf 4 R.length (R.flatMap c4)]) [])) rfl rfl rfl rfl rfl rfl) ?_
  refine lex_w rfl rfl (zal 2 rfl zr24 rfl) rfl (by simp only [upd, za, zaa]; exact rfl) ?_
  refine lex_w rfl rfl (zal 3 rfl zr24 rfl) rfl (by simp only [upd, za, zaa]; exact rfl) ?_
  refine lex_s rfl rfl (op_stam rfl tb24 (ev1 rfl) (ev1 rfl) rfl rfl rfl rfl) rfl (by simp only [upd, za, zaa]; exact rfl) ?_
  refine lex_s rfl rfl (op_stam rfl tb24 (ev1 rfl) (ev1 rfl) rfl rfl rfl rfl) rfl (by simp only [upd, za, zaa]; exact rfl) ?_
  refine lex_nil ?_
  refine zaf ?_
  refine zad ?_
  refine zab rfl rfl rfl (op_ldmw rfl tb24 (ev1 rfl) rfl rfl) ?_
  refine zab rfl rfl rfl (zaj [] [] [] rfl (ev1 rfl) (ec (ev1 rfl) en) rfl rfl (sright_d w h L) rfl rfl rfl rfl rfl rfl) ?_
  refine zab rfl rfl rfl (zac (.inr rfl) (ev1 rfl)) ?_
  refine zae ?_
  refine zaf ?_
  refine zaf ?_
  refine zad ?_
  refine zab rfl rfl rfl (op_ldmw rfl tb24 (ev1 rfl) rfl rfl) ?_
  refine zab rfl rfl rfl (zaj [] [] [] rfl (ev1 rfl) (ec (ev1 rfl) en) rfl rfl (scheck_d w h L) rfl rfl rfl rfl rfl rfl) ?_
  refine zab rfl rfl rfl (zac (.inr rfl) (ev1 rfl)) ?_
  refine zae ?_
  refine zaf ?_
  refine dwp_draw [([], []), ([], []), ([], []), ([], []), ([], []), ([], []), ([], []), ([], []), ([], []), ([], []), ([], []), ([], []), ([], []), ([2], []), ([3], []), ([], []), ([2], []), ([3], []), ([], []), ([], []), ([], []), ([], []), ([2], []), ([0], []), ([], []), ([], []), ([], []), ([], [])] mixed (by kernel_rfl) ?_
  refine zag rfl rfl (zac (.inl rfl) (ev1 rfl)) ?_
  refine zag rfl rfl (op_eql rfl (ev1 rfl) (ev1 rfl)) ?_
  refine zag rfl rfl (zac (.inl rfl) (ev1 rfl)) ?_
  refine zag rfl rfl (op_neb rfl un4 (ev1 rfl) (ev1 rfl)) ?_
  refine zag rfl rfl (zac (.inl rfl) (ev1 rfl)) ?_
  refine lex_gr (gd_f rfl rfl rfl) rfl rfl (zac (.inl rfl) (ev1 rfl)) ?_
  refine lex_gr (gd_f rfl rfl rfl) rfl rfl (op_neq rfl (ev2 rfl) (ev1 rfl)) ?_
  refine lex_gr (gd_f rfl rfl rfl) rfl rfl (zac (.inl rfl) (ev2 rfl)) ?_
  refine lex_gr (gd_tt rfl rfl rfl) rfl rfl (zac (.inl rfl) (ev1 rfl)) ?_
  refine lex_gr (gd_tt rfl rfl rfl) rfl rfl (op_neq rfl (ev2 rfl) (ev1 rfl)) ?_
  refine lex_gr (gd_f rfl rfl rfl) rfl rfl (op_and rfl (ev2 rfl) (ev2 rfl)) ?_
  refine zag rfl rfl (op_or rfl (ev1 rfl) (ev3 rfl id)) ?_
  refine zag rfl rfl (zac (.inl rfl) (ev1 rfl)) ?_
  refine lex_gr (gd_f rfl rfl rfl) rfl rfl (op_ldmw rfl tb24 (ev1 rfl) rfl rfl) ?_
  refine lex_gr (gd_f rfl rfl rfl) rfl rfl (op_ldmw rfl tb24 (ev1 rfl) rfl rfl) ?_
  refine lex_gr (gd_f rfl rfl rfl) rfl rfl (zaj [] [] [] rfl (ev1 rfl) (ec (ev2 rfl) (ec (ev2 rfl) en)) rfl rfl (ssame_d w h w2 h2 L R) rfl rfl rfl rfl rfl rfl) ?_
  refine lex_gr (gd_f rfl rfl rfl) rfl rfl (op_ldmw rfl tb24 (ev1 rfl) rfl rfl) ?_
  refine lex_gr (gd_f rfl rfl rfl) rfl rfl (op_ldmw rfl tb24 (ev1 rfl) rfl rfl) ?_
  refine lex_gr (gd_f rfl rfl rfl) rfl rfl (zaj [] [] [] rfl (ev1 rfl) (ec (ev2 rfl) (ec (ev2 rfl) en)) rfl rfl (srsame_d w h w2 h2 L R (by omega)) rfl rfl rfl rfl rfl rfl) ?_
  refine lex_gr (gd_f rfl rfl rfl) rfl rfl (op_neb rfl un4 (ev2 rfl) (ev2 rfl)) ?_
  refine zag rfl rfl (op_or rfl (ev1 rfl) (ev3 rfl id)) ?_
  refine zag rfl rfl (zac (.inl rfl) (ev1 rfl)) ?_
  refine lex_gr (gd_f rfl rfl rfl) rfl rfl (op_ldmw rfl tb24 (ev1 rfl) rfl rfl) ?_
  refine lex_gr (gd_f rfl rfl rfl) rfl rfl (op_ldmw rfl tb24 (ev1 rfl) rfl rfl) ?_
  refine lex_gr (gd_f rfl rfl rfl) rfl rfl (zaj [] [] [] rfl (ev1 rfl) (ec (ev2 rfl) en) rfl rfl ((by rw [hL]; exact sown_d w h l : DFun Try.prog 9 [.agg [.val (.int .i64 w), .val (.int .i64 h), .slf 4 l.length (l.flatMap c4)]] [] (.agg [.val (.int .i64 w), .val (.int .i64 h), .slf 4 L.length (L.flatMap c4)]) [])) rfl rfl rfl rfl rfl rfl) ?_
  refine lex_gr (gd_f rfl rfl rfl) rfl rfl (zaj [] [] [] rfl (ev1 rfl) (ec (ev2 rfl) (ec (ev2 rfl) en)) rfl rfl (ssame_d w h w h L L) rfl rfl rfl rfl rfl rfl) ?_
  refine lex_gr (gd_f rfl rfl rfl) rfl rfl (op_not rfl (ev2 rfl)) ?_
  refine zag rfl rfl (op_or rfl (ev1 rfl) (ev3 rfl id)) ?_
  refine lex_nil ?_
  refine dwp_if_f rfl (by cases hrr : rightS w h L <;> simp [errOr]) ?_
  refine dwp_skip ?_
  refine zaf ?_
  by_cases hright : rightS w h L = true
  · obtain ⟨W, H, rfl, rfl, hs⟩ := rightS_ok hright
    obtain ⟨s, hse⟩ : ∃ s : StM, s = ⟨W, H, L⟩ := ⟨_, rfl⟩
    have hsk : s.ok := by rw [hse]; exact hs
    obtain ⟨rfl, rfl, rfl⟩ : W = s.W ∧ H = s.H ∧ L = s.l := by rw [hse]; exact ⟨rfl, rfl, rfl⟩
    have hfl : (flipL s.W s.H s.l).length ≤ 64 := by rw [flipL_len]; exact mul_le64 hs.w.2 hs.h.2
    refine zad ?_
    refine zab rfl rfl rfl (zac (.inr rfl) (ev1 rfl)) ?_
    refine zae ?_
    refine zaf ?_
    refine zaf ?_
    refine zad ?_
    refine zab rfl rfl rfl (zac (.inl rfl) (ev1 rfl)) ?_
    refine zae ?_
    refine dwp_if_t rfl (hright) ?_
    refine zad ?_
    refine zab rfl rfl rfl (op_ldmw rfl tb24 (ev1 rfl) rfl rfl) ?_
    refine zab rfl rfl rfl (zaj [] [] [] rfl (ev1 rfl) (ec (ev1 rfl) en) rfl rfl (rwears_d (s.W : Int) (s.H : Int) s.l (by omega)) rfl rfl rfl rfl rfl rfl) ?_
    refine zab rfl rfl rfl (zac (.inr rfl) (ev1 rfl)) ?_
    refine zae ?_
    refine zaf ?_
    refine zaf ?_
    refine zad ?_
    refine zab rfl rfl rfl (op_ldmw rfl tb24 (ev1 rfl) rfl rfl) ?_
    refine zab rfl rfl rfl (zaj [] [] [] rfl (ev1 rfl) (ec (ev1 rfl) en) rfl rfl (wears_ok s.W s.H s.l hs) rfl rfl rfl rfl rfl rfl) ?_
    refine zab rfl rfl rfl (zac (.inl rfl) (ev1 rfl)) ?_
    refine zab rfl rfl rfl (op_neq rfl (ev1 rfl) (ev1 rfl)) ?_
    refine zae ?_
    refine dwp_if_f rfl (by rw [seen_wear hLr]; simp) ?_
    refine dwp_skip ?_
    refine zaf ?_
    refine zai 1 (by simp only [holes, List.cons_append, List.nil_append]; exact rfl) ?_
    refine zad ?_
    refine zab rfl rfl rfl (op_ldmw rfl tb24 (ev1 rfl) rfl rfl) ?_
    refine zab rfl rfl rfl (zaj [] [] [] rfl (ev1 rfl) (ec (ev1 rfl) en) rfl rfl (flip_d s hsk) rfl rfl rfl rfl rfl rfl) ?_
    refine zab rfl rfl rfl (zac (.inl rfl) (ev1 rfl)) ?_
    refine zab rfl rfl rfl (op_ext rfl (ev1 rfl) rfl) ?_
    refine zab rfl rfl rfl (op_ext rfl (ev1 rfl) rfl) ?_
    refine zak rfl rfl rfl (zal 4 rfl zr24 rfl) (by simp only [upd, za, zaa]; exact rfl) ?_
    refine walk_s rfl rfl (op_stam rfl tb24 (ev1 rfl) (ev1 rfl) rfl rfl rfl rfl) (by simp only [upd, za, zaa]; exact rfl) ?_
    refine zab rfl rfl rfl (zac (.inr rfl) (ev1 rfl)) ?_
    refine zae ?_
    refine zaf ?_
    refine zai 1 (by simp only [holes, List.cons_append, List.nil_append]; exact rfl) ?_
    refine zad ?_
    refine zak rfl rfl rfl (zal 5 rfl zr24 rfl) (by simp only [upd, za, zaa]; exact rfl) ?_
    refine zae ?_
    refine zaf ?_
    refine zad ?_
    refine zab rfl rfl rfl (zac (.inr rfl) (ev1 rfl)) ?_
    refine zae ?_
    refine zaf ?_
    refine zaf ?_
    refine zad ?_
    refine zab rfl rfl rfl (zac (.inl rfl) (ev1 rfl)) ?_
    refine zae ?_
    refine dwp_if_t rfl (hright) ?_
    refine dwp_reb 5 reb_mix rfl rfl (by simp only [List.cons_append, List.nil_append, za, zaa, List.map]; exact rfl) ?_
    refine zad ?_
    refine zab rfl rfl rfl (op_ldmw rfl tb24 (ev1 rfl) rfl rfl) ?_
    refine zab rfl rfl rfl (zaj [] [] [] rfl (ev1 rfl) (ec (ev1 rfl) en) rfl rfl (rflip_d s.W s.H s.l hs) rfl rfl rfl rfl rfl rfl) ?_
    refine walk_s rfl rfl (op_stmw rfl tb24 (ev1 rfl) (ev1 rfl) rfl rfl rfl rfl) (by simp only [upd, za, zaa]; exact rfl) ?_
    refine zab rfl rfl rfl (zac (.inr rfl) (ev1 rfl)) ?_
    refine zae ?_
    refine zaf ?_
    refine zaf ?_
    refine zad ?_
    refine zab rfl rfl rfl (zac (.inl rfl) (ev1 rfl)) ?_
    refine zab rfl rfl rfl (zac (.inl rfl) (ev1 rfl)) ?_
    refine zab rfl rfl rfl (op_neq rfl (ev1 rfl) (ev1 rfl)) ?_
    refine zab rfl rfl rfl (zac (.inl rfl) (ev1 rfl)) ?_
    refine zah (gd_f rfl rfl rfl) rfl rfl rfl (op_ldmw rfl tb24 (ev1 rfl) rfl rfl) ?_
    refine zah (gd_f rfl rfl rfl) rfl rfl rfl (op_ldmw rfl tb24 (ev1 rfl) rfl rfl) ?_
    refine zah (gd_f rfl rfl rfl) rfl rfl rfl (zaj [] [] [] rfl (ev1 rfl) (ec (ev2 rfl) (ec (ev2 rfl) en)) rfl rfl (srsame_d _ _ _ _ (flipL s.W s.H s.l) (flipL s.W s.H s.l) (by omega)) rfl rfl rfl rfl rfl rfl) ?_
    refine zah (gd_f rfl rfl rfl) rfl rfl rfl (op_not rfl (ev2 rfl)) ?_
    refine zab rfl rfl rfl (op_or rfl (ev1 rfl) (ev3 rfl id)) ?_
    refine zae ?_
    refine dwp_if_f rfl (by simp [flipS]) ?_
    refine dwp_skip ?_
    refine zaf ?_
    refine zaf ?_
    refine zad ?_
    refine zab rfl rfl rfl (zac (.inl rfl) (ev1 rfl)) ?_
    refine zab rfl rfl rfl (op_len rfl sl25 (ev1 rfl)) ?_
    refine zab rfl rfl rfl (zac (.inl rfl) (ev1 rfl)) ?_
    refine zae ?_
    refine dwp_block ?_
    refine dwp_loopS ⟨hs0, rfl⟩ (α := Nat) (fun k => [(90, .val (.int .i64 (k : Int)))]) [(3, _), (7, _), (9, _), (15, _), (88, _), (89, _)] (fun k => []) [_, _, _, _, _, _] (fun k => k ≤ ps.length) (fun k => ps.length - k) 0 [0, 1, 2, 3, 4, 5] (Nat.zero_le _) rfl ⟨rfl, rfl, rfl, rfl, rfl, rfl, trivial⟩ ⟨rfl, trivial⟩ ⟨rfl, rfl, rfl, rfl, rfl, rfl, trivial⟩ ?_
    intro k hx
    simp only [upd, za, zaa, List.cons_append, List.nil_append]
    have hk := hx
    refine zaf ?_
    refine zad ?_
    refine zab rfl rfl rfl (op_lss rfl (ev1 rfl) (ev1 rfl)) ?_
    refine zae ?_
    refine zaf ?_
    refine dwp_cond rfl (fun c7 => ?_) (fun c7 => ?_)
    · try simp only [decide_eq_true_eq, decide_eq_false_iff_not, beq_iff_eq, bne_iff_ne, beq_eq_false_iff_ne, bne_eq_false_iff_eq, Bool.not_eq_true', Bool.not_eq_false', Bool.and_eq_true, Bool.or_eq_true, Bool.or_eq_false_iff, ne_eq, Decidable.not_not, Int.not_lt, Int.not_le] at c7
      refine dwp_skip ?_
      refine zaf ?_
      refine dwp_block ?_
      refine zaf ?_
      refine zai 1 (by simp only [holes, List.cons_append, List.nil_append]; exact rfl) ?_
      refine zad ?_
      refine zab rfl rfl rfl (zac (.inl rfl) (ev1 rfl)) ?_
      refine zab rfl rfl rfl (op_ixsr (j := k) rfl sl25 (ev1 rfl) (ev1 rfl) (fun _ => rfl) (by decide) (by omega) (by omega)) ?_
      refine zab rfl rfl rfl (op_ldwd rfl tb36 (ev1 rfl) rfl) ?_
      refine zak rfl rfl rfl (zal 6 rfl zr36 rfl) (by simp only [upd, za, zaa]; exact rfl) ?_
      refine zab rfl rfl rfl (zac (.inr rfl) (ev1 rfl)) ?_
      refine walk_s rfl rfl (op_stwa rfl tb36 (ev1 rfl) (ev1 rfl) rfl rfl rfl rfl) (by simp only [upd, za, zaa]; exact rfl) ?_
      refine zae ?_
      refine zaf ?_
      refine zaf ?_
      refine zad ?_
      refine zab rfl rfl rfl (zac (.inl rfl) (ev1 rfl)) ?_
      refine zab rfl rfl rfl (op_eql rfl (ev1 rfl) (ev1 rfl)) ?_
      refine zae ?_
      refine dwp_cond rfl (fun c8 => ?_) (fun c8 => ?_)
      · try simp only [decide_eq_true_eq, decide_eq_false_iff_not, beq_iff_eq, bne_iff_ne, beq_eq_false_iff_ne, bne_eq_false_iff_eq, Bool.not_eq_true', Bool.not_eq_false', Bool.and_eq_true, Bool.or_eq_true, Bool.or_eq_false_iff, ne_eq, Decidable.not_not, Int.not_lt, Int.not_le] at c8
        refine dwp_exit ?_
        refine zaf ?_
        refine dwp_draw [([2], []), ([0], []), ([], []), ([], []), ([], [])] mixed (by kernel_rfl) ?_
        refine zag rfl rfl (op_ldmw rfl tb24 (ev1 rfl) rfl rfl) ?_
        refine zag rfl rfl (op_ldmw rfl tb24 (ev1 rfl) rfl rfl) ?_
        refine zag rfl rfl (zaj [] [] [] rfl (ev1 rfl) (ec (ev1 rfl) en) rfl rfl ((by rw [hL]; exact sown_d (s.W : Int) (s.H : Int) l : DFun Try.prog 9 [.agg [.val (.int .i64 (s.W : Int)), .val (.int .i64 (s.H : Int)), .slf 4 l.length (l.flatMap c4)]] [] (.agg [.val (.int .i64 (s.W : Int)), .val (.int .i64 (s.H : Int)), .slf 4 s.l.length (s.l.flatMap c4)]) [])) rfl rfl rfl rfl rfl rfl) ?_
        refine zag rfl rfl (zaj [] [] [] rfl (ev1 rfl) (ec (ev1 rfl) (ec (ev1 rfl) en)) rfl rfl (srsame_d _ _ _ _ s.l s.l (by omega)) rfl rfl rfl rfl rfl rfl) ?_
        refine zag rfl rfl (zac (.inr rfl) (ev1 rfl)) ?_
        refine lex_nil ?_
        refine dwp_ret ?_
        refine kend0 (rs1 rfl (rv_t rfl)) rfl ?_
        first | rfl | simp
      · try simp only [decide_eq_true_eq, decide_eq_false_iff_not, beq_iff_eq, bne_iff_ne, beq_eq_false_iff_ne, bne_eq_false_iff_eq, Bool.not_eq_true', Bool.not_eq_false', Bool.and_eq_true, Bool.or_eq_true, Bool.or_eq_false_iff, ne_eq, Decidable.not_not, Int.not_lt, Int.not_le] at c8
        refine dwp_skip ?_
        refine zaf ?_
        by_cases hin : (0 ≤ ps[k].x ∧ ps[k].x < (s.W : Int)) ∧ (0 ≤ ps[k].y ∧ ps[k].y < (s.H : Int))
        · refine zai 1 (by simp only [holes, List.cons_append, List.nil_append]; exact rfl) ?_
          refine zad ?_
          refine zab rfl rfl rfl (op_ldmw rfl tb24 (ev1 rfl) rfl rfl) ?_
          refine zab rfl rfl rfl (op_fa rfl fo36_0 (ev1 rfl)) ?_
          refine zab rfl rfl rfl (op_ldo rfl tb3 (ev1 rfl) rfl rfl) ?_
          refine zab rfl rfl rfl (op_fa rfl fo36_1 (ev1 rfl)) ?_
          refine zab rfl rfl rfl (op_ldo rfl tb3 (ev1 rfl) rfl rfl) ?_
          refine zab rfl rfl rfl (zaj [] [] [] rfl (ev1 rfl) (ec (ev1 rfl) (ec (ev1 rfl) (ec (ev1 rfl) en))) rfl rfl (sat_y s.W s.H s.l hs ps[k].x ps[k].y hin.1 hin.2) rfl rfl rfl rfl rfl rfl) ?_
          refine zab rfl rfl rfl (zac (.inl rfl) (ev1 rfl)) ?_
          refine zab rfl rfl rfl (op_ext rfl (ev1 rfl) rfl) ?_
          refine zab rfl rfl rfl (op_ext rfl (ev1 rfl) rfl) ?_
          refine zak rfl rfl rfl (zal 7 rfl zr38 rfl) (by simp only [upd, za, zaa]; exact rfl) ?_
          refine walk_s rfl rfl (op_stwa rfl tb38 (ev1 rfl) (ev1 rfl) rfl rfl rfl rfl) (by simp only [upd, za, zaa]; exact rfl) ?_
          refine zab rfl rfl rfl (zac (.inr rfl) (ev1 rfl)) ?_
          refine zae ?_
          refine zaf ?_
          refine zai 1 (by simp only [holes, List.cons_append, List.nil_append]; exact rfl) ?_
          refine dwp_draw [([], []), ([], []), ([], []), ([], []), ([6], []), ([], []), ([], []), ([], []), ([], []), ([6], []), ([], []), ([2], []), ([], []), ([], []), ([], []), ([], []), ([6], []), ([], []), ([], []), ([], []), ([], []), ([6], []), ([], []), ([2], []), ([], []), ([], []), ([8], [8]), ([8], [8]), ([], [])] mixed (by kernel_rfl) ?_
          refine zag rfl rfl ((op_build0 rfl fl38 zr38).cast (d' := .val (.agg (c4 zC4).toArray)) (rfl)) ?_
          refine zag rfl rfl (zac (.inl rfl) (ev1 rfl)) ?_
          refine zag rfl rfl (zac (.inl rfl) (ev1 rfl)) ?_
          refine lex_gr (gd_t rfl rfl rfl) rfl rfl (op_fa rfl fo36_0 (ev1 rfl)) ?_
          refine lex_gr (gd_t rfl rfl rfl) rfl rfl (op_ldo rfl tb3 (ev2 rfl) rfl rfl) ?_
          refine lex_gr (gd_t rfl rfl rfl) rfl rfl (op_geq rfl (ev2 rfl) (ev1 rfl)) ?_
          refine zag rfl rfl (op_and rfl (ev1 rfl) (ev3 rfl id)) ?_
          refine zag rfl rfl (zac (.inl rfl) (ev1 rfl)) ?_
          refine lex_gr (gd_t rfl rfl rfl) rfl rfl (op_fa rfl fo36_0 (ev1 rfl)) ?_
          refine lex_gr (gd_t rfl rfl rfl) rfl rfl (op_ldo rfl tb3 (ev2 rfl) rfl rfl) ?_
          refine lex_gr (gd_t rfl rfl rfl) rfl rfl (op_fa rfl fo24_0 (ev1 rfl)) ?_
          refine lex_gr (gd_t rfl rfl rfl) rfl rfl (op_ldm rfl tb3 (ev2 rfl) rfl rfl) ?_
          refine lex_gr (gd_t rfl rfl rfl) rfl rfl (op_lss rfl (ev2 rfl) (ev2 rfl)) ?_
          refine zag rfl rfl (op_and rfl (ev1 rfl) (ev3 rfl id)) ?_
          refine zag rfl rfl (zac (.inl rfl) (ev1 rfl)) ?_
          refine lex_gr (gd_t rfl rfl rfl) rfl rfl (op_fa rfl fo36_1 (ev1 rfl)) ?_
          refine lex_gr (gd_t rfl rfl rfl) rfl rfl (op_ldo rfl tb3 (ev2 rfl) rfl rfl) ?_
          refine lex_gr (gd_t rfl rfl rfl) rfl rfl (op_geq rfl (ev2 rfl) (ev1 rfl)) ?_
          refine zag rfl rfl (op_and rfl (ev1 rfl) (ev3 rfl id)) ?_
          refine zag rfl rfl (zac (.inl rfl) (ev1 rfl)) ?_
          refine lex_gr (gd_t rfl rfl rfl) rfl rfl (op_fa rfl fo36_1 (ev1 rfl)) ?_
          refine lex_gr (gd_t rfl rfl rfl) rfl rfl (op_ldo rfl tb3 (ev2 rfl) rfl rfl) ?_
          refine lex_gr (gd_t rfl rfl rfl) rfl rfl (op_fa rfl fo24_1 (ev1 rfl)) ?_
          refine lex_gr (gd_t rfl rfl rfl) rfl rfl (op_ldm rfl tb3 (ev2 rfl) rfl rfl) ?_
          refine lex_gr (gd_t rfl rfl rfl) rfl rfl (op_lss rfl (ev2 rfl) (ev2 rfl)) ?_
          refine zag rfl rfl (op_and rfl (ev1 rfl) (ev3 rfl id)) ?_
          refine lex_w rfl rfl (zal 8 rfl zr38 rfl) rfl (by simp only [upd, za, zaa]; exact rfl) ?_
          refine lex_s rfl rfl (op_stwa rfl tb38 (ev1 rfl) (ev1 rfl) rfl rfl rfl rfl) rfl (by simp only [upd, za, zaa]; exact rfl) ?_
          refine zag rfl rfl (zac (.inr rfl) (ev1 rfl)) ?_
          refine lex_nil ?_
          refine zaf ?_
          have htk := turnN_ok (qN ps[k].x) hsk
          have htl : (turnN (qN ps[k].x) s).l.length ≤ 64 := (StOk.le htk).1
          refine zai 2 (by simp only [holes, List.cons_append, List.nil_append]; exact rfl) ?_
          refine zad ?_
          refine zab rfl rfl rfl (op_ldmw rfl tb24 (ev1 rfl) rfl rfl) ?_
          refine zab rfl rfl rfl (op_fa rfl fo36_0 (ev1 rfl)) ?_
          refine zab rfl rfl rfl (op_ldo rfl tb3 (ev1 rfl) rfl rfl) ?_
          refine zak rfl rfl rfl (zaj [] [] [9] rfl (ev1 rfl) (ec (ev1 rfl) (ec (ev1 rfl) en)) rfl rfl (turn_o s hsk ps[k].x) rfl rfl rfl rfl rfl rfl) (by simp only [upd, za, zaa]; exact rfl) ?_
          refine zab rfl rfl rfl (zac (.inl rfl) (ev1 rfl)) ?_
          refine zab rfl rfl rfl (op_ext rfl (ev1 rfl) rfl) ?_
          refine zab rfl rfl rfl (op_ext rfl (ev1 rfl) rfl) ?_
          refine zak rfl rfl rfl (zal 10 rfl zr24 rfl) (by simp only [upd, za, zaa]; exact rfl) ?_
          refine walk_s rfl rfl (op_stam rfl tb24 (ev1 rfl) (ev1 rfl) rfl rfl rfl rfl) (by simp only [upd, za, zaa]; exact rfl) ?_
          refine zab rfl rfl rfl (zac (.inr rfl) (ev1 rfl)) ?_
          refine zae ?_
          refine zaf ?_
          refine zai 1 (by simp only [holes, List.cons_append, List.nil_append]; exact rfl) ?_
          refine zad ?_
          refine zak rfl rfl rfl (zal 11 rfl zr24 rfl) (by simp only [upd, za, zaa]; exact rfl) ?_
          refine zae ?_
          refine zaf ?_
          refine zaf ?_
          refine zad ?_
          refine zab rfl rfl rfl (zac (.inl rfl) (ev1 rfl)) ?_
          refine zae ?_
          refine dwp_if_t rfl (hright) ?_
          refine zad ?_
          refine zab rfl rfl rfl (op_ldmw rfl tb24 (ev1 rfl) rfl rfl) ?_
          refine zab rfl rfl rfl (op_fa rfl fo36_0 (ev1 rfl)) ?_
          refine zab rfl rfl rfl (op_ldo rfl tb3 (ev1 rfl) rfl rfl) ?_
          refine zab rfl rfl rfl (zaj [] [] [] rfl (ev1 rfl) (ec (ev1 rfl) (ec (ev1 rfl) en)) rfl rfl (rturn_d s hsk ps[k].x) rfl rfl rfl rfl rfl rfl) ?_
          refine walk_s rfl rfl (op_stam rfl tb24 (ev1 rfl) (ev1 rfl) rfl rfl rfl rfl) (by simp only [upd, za, zaa]; exact rfl) ?_
          refine zae ?_
          refine zaf ?_
          refine zaf ?_
          refine zad ?_
          refine zab rfl rfl rfl (zac (.inl rfl) (ev1 rfl)) ?_
          refine zae ?_
          refine dwp_if_t rfl (by simp [hright]; omega) ?_
          refine zad ?_
          refine zab rfl rfl rfl (op_ldmw rfl tb24 (ev1 rfl) rfl rfl) ?_
          refine zab rfl rfl rfl (op_fa rfl fo36_0 (ev1 rfl)) ?_
          refine zab rfl rfl rfl (op_ldo rfl tb3 (ev1 rfl) rfl rfl) ?_
          refine zab rfl rfl rfl (op_fa rfl fo36_1 (ev1 rfl)) ?_
          refine zab rfl rfl rfl (op_ldo rfl tb3 (ev1 rfl) rfl rfl) ?_
          refine zab rfl rfl rfl (zaj [] [] [] rfl (ev1 rfl) (ec (ev1 rfl) (ec (ev1 rfl) (ec (ev1 rfl) en))) rfl rfl (rsat_y s.W s.H s.l hs ps[k].x ps[k].y hin.1 hin.2) rfl rfl rfl rfl rfl rfl) ?_
          refine walk_s rfl rfl (op_stwa rfl tb38 (ev1 rfl) (ev1 rfl) rfl rfl rfl rfl) (by simp only [upd, za, zaa]; exact rfl) ?_
          refine zae ?_
          refine zaf ?_
          refine zaf ?_
          refine zad ?_
          refine zab rfl rfl rfl (op_ldw rfl tb38 (ev1 rfl) rfl rfl) ?_
          refine zab rfl rfl rfl (op_ldw rfl tb38 (ev1 rfl) rfl rfl) ?_
          refine zab rfl rfl rfl (op_ner eq38 rfl gd38 tb38 (ev1 rfl) (ev1 rfl)) ?_
          refine zab rfl rfl rfl (zac (.inl rfl) (ev1 rfl)) ?_
          refine zah (gd_f rfl rfl rfl) rfl rfl rfl (zac (.inl rfl) (ev1 rfl)) ?_
          refine zah (gd_f rfl rfl rfl) rfl rfl rfl (zac (.inl rfl) (ev1 rfl)) ?_
          refine zah (gd_f rfl rfl rfl) rfl rfl rfl (op_neb rfl un4 (ev2 rfl) (ev2 rfl)) ?_
          refine zab rfl rfl rfl (op_or rfl (ev1 rfl) (ev3 rfl id)) ?_
          refine zab rfl rfl rfl (zac (.inl rfl) (ev1 rfl)) ?_
          refine zah (gd_f rfl rfl rfl) rfl rfl rfl (zac (.inl rfl) (ev1 rfl)) ?_
          refine zah (gd_f rfl rfl rfl) rfl rfl rfl (zac (.inl rfl) (ev1 rfl)) ?_
          refine zah (gd_f rfl rfl rfl) rfl rfl rfl (op_neq rfl (ev2 rfl) (ev2 rfl)) ?_
          refine zab rfl rfl rfl (op_or rfl (ev1 rfl) (ev3 rfl id)) ?_
          refine zab rfl rfl rfl (zac (.inl rfl) (ev1 rfl)) ?_
          refine zah (gd_f rfl rfl rfl) rfl rfl rfl (op_ldmw rfl tb24 (ev1 rfl) rfl rfl) ?_
          refine zah (gd_f rfl rfl rfl) rfl rfl rfl (op_ldmw rfl tb24 (ev1 rfl) rfl rfl) ?_
          refine zah (gd_f rfl rfl rfl) rfl rfl rfl (zaj [] [9] [] rfl (ev1 rfl) (ec (ev2 rfl) (ec (ev2 rfl) en)) rfl rfl (srsame_d _ _ _ _ (turnN (qN ps[k].x) s).l (turnN (qN ps[k].x) s).l (by omega)) rfl rfl rfl rfl rfl rfl) ?_
          refine zah (gd_f rfl rfl rfl) rfl rfl rfl (op_not rfl (ev2 rfl)) ?_
          refine zab rfl rfl rfl (op_or rfl (ev1 rfl) (ev3 rfl id)) ?_
          refine zae ?_
          refine dwp_if_f rfl (by simp [hright]; omega) ?_
          refine dwp_skip ?_
          refine zaf ?_
          refine zad ?_
          refine zab rfl rfl rfl (op_fa rfl fo24_2 (ev1 rfl)) ?_
          refine zab rfl rfl rfl (op_ldm rfl tb22 (ev1 rfl) rfl rfl) ?_
          refine zab rfl rfl rfl (op_lena rfl sl22 (ev1 rfl) rfl) ?_
          refine zab rfl rfl rfl (zac (.inl rfl) (ev1 rfl)) ?_
          refine zae ?_
          refine dwp_block ?_
          refine dwp_loopS ⟨hs0, rfl⟩ (α := Nat × List C4) (fun x => [(173, .val (.int .i64 (x.1 : Int)))]) [(3, _), (7, _), (9, _), (15, _), (22, _), (88, _), (89, _), (90, _), (172, _)] (fun x => [(9, .arr 38 4 (turnN (qN ps[k].x) s).l.length (x.2.flatMap c4))]) [_, _, _, _, _, _, _, _, _, .hole, _, _] (fun x => x.1 ≤ (turnN (qN ps[k].x) s).l.length ∧ x.2.length = (turnN (qN ps[k].x) s).l.length) (fun x => (turnN (qN ps[k].x) s).l.length - x.1) (0, (turnN (qN ps[k].x) s).l) [0, 1, 2, 3, 4, 5, 6, 7, 8, 9, 10, 11] (⟨Nat.zero_le _, rfl⟩) rfl ⟨rfl, rfl, rfl, rfl, rfl, rfl, rfl, rfl, rfl, trivial⟩ ⟨rfl, trivial⟩ ⟨rfl, rfl, rfl, rfl, rfl, rfl, rfl, rfl, rfl, rfl, rfl, rfl, trivial⟩ ?_
          intro x hx
          simp only [upd, za, zaa, List.cons_append, List.nil_append]
          obtain ⟨k2, V⟩ := x
          obtain ⟨hk2, hV⟩ := hx
          dsimp only at hk2 hV ⊢
          refine zaf ?_
          refine zad ?_
          refine zab rfl rfl rfl (op_lss rfl (ev1 rfl) (ev1 rfl)) ?_
          refine zae ?_
          refine zaf ?_
          refine dwp_cond rfl (fun c12 => ?_) (fun c12 => ?_)
          · try simp only [decide_eq_true_eq, decide_eq_false_iff_not, beq_iff_eq, bne_iff_ne, beq_eq_false_iff_ne, bne_eq_false_iff_eq, Bool.not_eq_true', Bool.not_eq_false', Bool.and_eq_true, Bool.or_eq_true, Bool.or_eq_false_iff, ne_eq, Decidable.not_not, Int.not_lt, Int.not_le] at c12
            refine dwp_skip ?_
            refine zaf ?_
            refine dwp_block ?_
            refine zaf ?_
            refine zad ?_
            refine zab rfl rfl rfl (zac (.inl rfl) (ev1 rfl)) ?_
            refine zab rfl rfl rfl (zac (.inr rfl) (ev1 rfl)) ?_
            refine zae ?_
            refine zad ?_
            refine zab rfl rfl rfl (op_fa rfl fo24_2 (ev1 rfl)) ?_
            refine zab rfl rfl rfl (op_ldm rfl tb22 (ev1 rfl) rfl rfl) ?_
            refine zab rfl rfl rfl (zac (.inl rfl) (ev1 rfl)) ?_
            refine zab rfl rfl rfl (op_ixar (j := k2) rfl sl22 (ev1 rfl) (ev1 rfl) rfl (fun _ => by first | rfl | omega) (fun _ => by omega)) ?_
            refine zab rfl rfl rfl (op_faa rfl fo38_0 (ev1 rfl)) ?_
            refine zab rfl rfl rfl (op_ldoa rfl tb5 (ev1 rfl) rfl (get_cr (q := k2) (by omega))) ?_
            refine zab rfl rfl rfl (op_add rfl (ev1 rfl) (ev1 rfl)) ?_
            refine zab rfl rfl rfl (op_ixar (j := k2) rfl sl22 (ev1 rfl) (ev1 rfl) rfl (fun _ => by first | rfl | omega) (fun _ => by omega)) ?_
            refine zab rfl rfl rfl (op_faa rfl fo38_0 (ev1 rfl)) ?_
            refine walk_s rfl rfl (op_sta rfl tb5 (ev1 rfl) (ev1 rfl) rfl rfl rfl (by rfl) (by rw [flat_len c4_len]; simp [Value.cells]; omega) (setL_cr (q := k2) (by omega))) (by simp only [upd, za, zaa]; exact rfl) ?_
            refine zae ?_
            refine zad ?_
            refine zab rfl rfl rfl (op_add' rfl (ev1 rfl) (ev1 rfl) (fun _ => IntWalk.i64_in _ (by omega))) ?_
            refine zab rfl rfl rfl (zac (.inl rfl) (ev1 rfl)) ?_
            refine zae ?_
            refine ⟨(k2 + 1, V.set k2 { V.getD k2 zC4 with r := IntKind.u8.wrap ((V.getD k2 zC4).r + 1) }), [0, 1, 2, 3, 4, 5, 6, 7, 8, 9, 10, 11], ⟨by dsimp only; omega, by dsimp only; rw [List.length_set]; exact hV⟩, by dsimp only; omega, rfl, ⟨rfl, rfl, rfl, rfl, rfl, rfl, rfl, rfl, rfl, rfl, trivial⟩, ⟨rfl, rfl, rfl, rfl, rfl, rfl, rfl, rfl, rfl, rfl, rfl, rfl, trivial⟩⟩
          · try simp only [decide_eq_true_eq, decide_eq_false_iff_not, beq_iff_eq, bne_iff_ne, beq_eq_false_iff_ne, bne_eq_false_iff_eq, Bool.not_eq_true', Bool.not_eq_false', Bool.and_eq_true, Bool.or_eq_true, Bool.or_eq_false_iff, ne_eq, Decidable.not_not, Int.not_lt, Int.not_le] at c12
            refine dwp_exit ?_
            refine zad ?_
            refine zab rfl rfl rfl (op_add' rfl (ev1 rfl) (ev1 rfl) (fun _ => IntWalk.i64_in _ (by omega))) ?_
            refine zab rfl rfl rfl (zac (.inl rfl) (ev1 rfl)) ?_
            refine zae ?_
            refine ⟨k + 1, [0, 1, 2, 3, 4, 5], by omega, by simp only []; omega, rfl, ⟨rfl, rfl, rfl, rfl, rfl, rfl, rfl, trivial⟩, ⟨rfl, rfl, rfl, rfl, rfl, rfl, trivial⟩⟩
        · refine zai 1 (by simp only [holes, List.cons_append, List.nil_append]; exact rfl) ?_
          refine zad ?_
          refine zab rfl rfl rfl (op_ldmw rfl tb24 (ev1 rfl) rfl rfl) ?_
          refine zab rfl rfl rfl (op_fa rfl fo36_0 (ev1 rfl)) ?_
          refine zab rfl rfl rfl (op_ldo rfl tb3 (ev1 rfl) rfl rfl) ?_
          refine zab rfl rfl rfl (op_fa rfl fo36_1 (ev1 rfl)) ?_
          refine zab rfl rfl rfl (op_ldo rfl tb3 (ev1 rfl) rfl rfl) ?_
          refine zab rfl rfl rfl (zaj [] [] [] rfl (ev1 rfl) (ec (ev1 rfl) (ec (ev1 rfl) (ec (ev1 rfl) en))) rfl rfl (sat_no (s.W : Int) (s.H : Int) s.l ps[k].x ps[k].y (by unfold inS; rw [hright]; simp; omega)) rfl rfl rfl rfl rfl rfl) ?_
          refine zab rfl rfl rfl (zac (.inl rfl) (ev1 rfl)) ?_
          refine zab rfl rfl rfl (op_ext rfl (ev1 rfl) rfl) ?_
          refine zab rfl rfl rfl (op_ext rfl (ev1 rfl) rfl) ?_
          refine zak rfl rfl rfl (zal 7 rfl zr38 rfl) (by simp only [upd, za, zaa]; exact rfl) ?_
          refine walk_s rfl rfl (op_stwa rfl tb38 (ev1 rfl) (ev1 rfl) rfl rfl rfl rfl) (by simp only [upd, za, zaa]; exact rfl) ?_
          refine zab rfl rfl rfl (zac (.inr rfl) (ev1 rfl)) ?_
          refine zae ?_
          refine zaf ?_
          refine zai 1 (by simp only [holes, List.cons_append, List.nil_append]; exact rfl) ?_
          refine dwp_draw [([], []), ([], []), ([], []), ([], []), ([6], []), ([], []), ([], []), ([], []), ([], []), ([6], []), ([], []), ([2], []), ([], []), ([], []), ([], []), ([], []), ([6], []), ([], []), ([], []), ([], []), ([], []), ([6], []), ([], []), ([2], []), ([], []), ([], []), ([8], [8]), ([8], [8]), ([], [])] mixed (by kernel_rfl) ?_
          refine zag rfl rfl ((op_build0 rfl fl38 zr38).cast (d' := .val (.agg (c4 zC4).toArray)) (rfl)) ?_
          refine zag rfl rfl (zac (.inl rfl) (ev1 rfl)) ?_
          refine zag rfl rfl (zac (.inl rfl) (ev1 rfl)) ?_
          refine lex_gr (gd_t rfl rfl rfl) rfl rfl (op_fa rfl fo36_0 (ev1 rfl)) ?_
          refine lex_gr (gd_t rfl rfl rfl) rfl rfl (op_ldo rfl tb3 (ev2 rfl) rfl rfl) ?_
          refine lex_gr (gd_t rfl rfl rfl) rfl rfl (op_geq rfl (ev2 rfl) (ev1 rfl)) ?_
          refine zag rfl rfl (op_and rfl (ev1 rfl) (ev3 rfl id)) ?_
          refine zag rfl rfl (zac (.inl rfl) (ev1 rfl)) ?_
          refine lex_gr (gd_t rfl rfl rfl) rfl rfl (op_fa rfl fo36_0 (ev1 rfl)) ?_
          refine lex_gr (gd_t rfl rfl rfl) rfl rfl (op_ldo rfl tb3 (ev2 rfl) rfl rfl) ?_
          refine lex_gr (gd_t rfl rfl rfl) rfl rfl (op_fa rfl fo24_0 (ev1 rfl)) ?_
          refine lex_gr (gd_t rfl rfl rfl) rfl rfl (op_ldm rfl tb3 (ev2 rfl) rfl rfl) ?_
          refine lex_gr (gd_t rfl rfl rfl) rfl rfl (op_lss rfl (ev2 rfl) (ev2 rfl)) ?_
          refine zag rfl rfl (op_and rfl (ev1 rfl) (ev3 rfl id)) ?_
          refine zag rfl rfl (zac (.inl rfl) (ev1 rfl)) ?_
          refine lex_gr (gd_t rfl rfl rfl) rfl rfl (op_fa rfl fo36_1 (ev1 rfl)) ?_
          refine lex_gr (gd_t rfl rfl rfl) rfl rfl (op_ldo rfl tb3 (ev2 rfl) rfl rfl) ?_
          refine lex_gr (gd_t rfl rfl rfl) rfl rfl (op_geq rfl (ev2 rfl) (ev1 rfl)) ?_
          refine zag rfl rfl (op_and rfl (ev1 rfl) (ev3 rfl id)) ?_
          refine zag rfl rfl (zac (.inl rfl) (ev1 rfl)) ?_
          refine lex_gr (gd_t rfl rfl rfl) rfl rfl (op_fa rfl fo36_1 (ev1 rfl)) ?_
          refine lex_gr (gd_t rfl rfl rfl) rfl rfl (op_ldo rfl tb3 (ev2 rfl) rfl rfl) ?_
          refine lex_gr (gd_t rfl rfl rfl) rfl rfl (op_fa rfl fo24_1 (ev1 rfl)) ?_
          refine lex_gr (gd_t rfl rfl rfl) rfl rfl (op_ldm rfl tb3 (ev2 rfl) rfl rfl) ?_
          refine lex_gr (gd_t rfl rfl rfl) rfl rfl (op_lss rfl (ev2 rfl) (ev2 rfl)) ?_
          refine zag rfl rfl (op_and rfl (ev1 rfl) (ev3 rfl id)) ?_
          refine lex_w rfl rfl (zal 8 rfl zr38 rfl) rfl (by simp only [upd, za, zaa]; exact rfl) ?_
          refine lex_s rfl rfl (op_stwa rfl tb38 (ev1 rfl) (ev1 rfl) rfl rfl rfl rfl) rfl (by simp only [upd, za, zaa]; exact rfl) ?_
          refine zag rfl rfl (zac (.inr rfl) (ev1 rfl)) ?_
          refine lex_nil ?_
          refine zaf ?_
          have htk := turnN_ok (qN ps[k].x) hsk
          have htl : (turnN (qN ps[k].x) s).l.length ≤ 64 := (StOk.le htk).1
          refine zai 2 (by simp only [holes, List.cons_append, List.nil_append]; exact rfl) ?_
          refine zad ?_
          refine zab rfl rfl rfl (op_ldmw rfl tb24 (ev1 rfl) rfl rfl) ?_
          refine zab rfl rfl rfl (op_fa rfl fo36_0 (ev1 rfl)) ?_
          refine zab rfl rfl rfl (op_ldo rfl tb3 (ev1 rfl) rfl rfl) ?_
          refine zak rfl rfl rfl (zaj [] [] [9] rfl (ev1 rfl) (ec (ev1 rfl) (ec (ev1 rfl) en)) rfl rfl (turn_o s hsk ps[k].x) rfl rfl rfl rfl rfl rfl) (by simp only [upd, za, zaa]; exact rfl) ?_
          refine zab rfl rfl rfl (zac (.inl rfl) (ev1 rfl)) ?_
          refine zab rfl rfl rfl (op_ext rfl (ev1 rfl) rfl) ?_
          refine zab rfl rfl rfl (op_ext rfl (ev1 rfl) rfl) ?_
          refine zak rfl rfl rfl (zal 10 rfl zr24 rfl) (by simp only [upd, za, zaa]; exact rfl) ?_
          refine walk_s rfl rfl (op_stam rfl tb24 (ev1 rfl) (ev1 rfl) rfl rfl rfl rfl) (by simp only [upd, za, zaa]; exact rfl) ?_
          refine zab rfl rfl rfl (zac (.inr rfl) (ev1 rfl)) ?_
          refine zae ?_
          refine zaf ?_
          refine zai 1 (by simp only [holes, List.cons_append, List.nil_append]; exact rfl) ?_
          refine zad ?_
          refine zak rfl rfl rfl (zal 11 rfl zr24 rfl) (by simp only [upd, za, zaa]; exact rfl) ?_
          refine zae ?_
          refine zaf ?_
          refine zaf ?_
          refine zad ?_
          refine zab rfl rfl rfl (zac (.inl rfl) (ev1 rfl)) ?_
          refine zae ?_
          refine dwp_if_t rfl (hright) ?_
          refine zad ?_
          refine zab rfl rfl rfl (op_ldmw rfl tb24 (ev1 rfl) rfl rfl) ?_
          refine zab rfl rfl rfl (op_fa rfl fo36_0 (ev1 rfl)) ?_
          refine zab rfl rfl rfl (op_ldo rfl tb3 (ev1 rfl) rfl rfl) ?_
          refine zab rfl rfl rfl (zaj [] [] [] rfl (ev1 rfl) (ec (ev1 rfl) (ec (ev1 rfl) en)) rfl rfl (rturn_d s hsk ps[k].x) rfl rfl rfl rfl rfl rfl) ?_
          refine walk_s rfl rfl (op_stam rfl tb24 (ev1 rfl) (ev1 rfl) rfl rfl rfl rfl) (by simp only [upd, za, zaa]; exact rfl) ?_
          refine zae ?_
          refine zaf ?_
          refine zaf ?_
          refine zad ?_
          refine zab rfl rfl rfl (zac (.inl rfl) (ev1 rfl)) ?_
          refine zae ?_
          refine dwp_if_f rfl (by simp [hright]; omega) ?_
          refine dwp_skip ?_
          refine zaf ?_
          refine zaf ?_
          refine zad ?_
          refine zab rfl rfl rfl (op_ldw rfl tb38 (ev1 rfl) rfl rfl) ?_
          refine zab rfl rfl rfl (op_ldw rfl tb38 (ev1 rfl) rfl rfl) ?_
          refine zab rfl rfl rfl (op_ner eq38 rfl gd38 tb38 (ev1 rfl) (ev1 rfl)) ?_
          refine zab rfl rfl rfl (zac (.inl rfl) (ev1 rfl)) ?_
          refine zah (gd_f rfl rfl rfl) rfl rfl rfl (zac (.inl rfl) (ev1 rfl)) ?_
          refine zah (gd_f rfl rfl rfl) rfl rfl rfl (zac (.inl rfl) (ev1 rfl)) ?_
          refine zah (gd_f rfl rfl rfl) rfl rfl rfl (op_neb rfl un4 (ev2 rfl) (ev2 rfl)) ?_
          refine zab rfl rfl rfl (op_or rfl (ev1 rfl) (ev3 rfl id)) ?_
          refine zab rfl rfl rfl (zac (.inl rfl) (ev1 rfl)) ?_
          refine zah (gd_f rfl rfl rfl) rfl rfl rfl (zac (.inl rfl) (ev1 rfl)) ?_
          refine zah (gd_f rfl rfl rfl) rfl rfl rfl (zac (.inl rfl) (ev1 rfl)) ?_
          refine zah (gd_f rfl rfl rfl) rfl rfl rfl (op_neq rfl (ev2 rfl) (ev2 rfl)) ?_
          refine zab rfl rfl rfl (op_or rfl (ev1 rfl) (ev3 rfl id)) ?_
          refine zab rfl rfl rfl (zac (.inl rfl) (ev1 rfl)) ?_
          refine zah (gd_f rfl rfl rfl) rfl rfl rfl (op_ldmw rfl tb24 (ev1 rfl) rfl rfl) ?_
          refine zah (gd_f rfl rfl rfl) rfl rfl rfl (op_ldmw rfl tb24 (ev1 rfl) rfl rfl) ?_
          refine zah (gd_f rfl rfl rfl) rfl rfl rfl (zaj [] [9] [] rfl (ev1 rfl) (ec (ev2 rfl) (ec (ev2 rfl) en)) rfl rfl (srsame_d _ _ _ _ (turnN (qN ps[k].x) s).l (turnN (qN ps[k].x) s).l (by omega)) rfl rfl rfl rfl rfl rfl) ?_
          refine zah (gd_f rfl rfl rfl) rfl rfl rfl (op_not rfl (ev2 rfl)) ?_
          refine zab rfl rfl rfl (op_or rfl (ev1 rfl) (ev3 rfl id)) ?_
          refine zae ?_
          refine dwp_if_f rfl (by simp [hright]; omega) ?_
          refine dwp_skip ?_
          refine zaf ?_
          refine zad ?_
          refine zab rfl rfl rfl (op_fa rfl fo24_2 (ev1 rfl)) ?_
          refine zab rfl rfl rfl (op_ldm rfl tb22 (ev1 rfl) rfl rfl) ?_
          refine zab rfl rfl rfl (op_lena rfl sl22 (ev1 rfl) rfl) ?_
          refine zab rfl rfl rfl (zac (.inl rfl) (ev1 rfl)) ?_
          refine zae ?_
          refine dwp_block ?_
          refine dwp_loopS ⟨hs0, rfl⟩ (α := Nat × List C4) (fun x => [(173, .val (.int .i64 (x.1 : Int)))]) [(3, _), (7, _), (9, _), (15, _), (22, _), (88, _), (89, _), (90, _), (172, _)] (fun x => [(9, .arr 38 4 (turnN (qN ps[k].x) s).l.length (x.2.flatMap c4))]) [_, _, _, _, _, _, _, _, _, .hole, _, _] (fun x => x.1 ≤ (turnN (qN ps[k].x) s).l.length ∧ x.2.length = (turnN (qN ps[k].x) s).l.length) (fun x => (turnN (qN ps[k].x) s).l.length - x.1) (0, (turnN (qN ps[k].x) s).l) [0, 1, 2, 3, 4, 5, 6, 7, 8, 9, 10, 11] (⟨Nat.zero_le _, rfl⟩) rfl ⟨rfl, rfl, rfl, rfl, rfl, rfl, rfl, rfl, rfl, trivial⟩ ⟨rfl, trivial⟩ ⟨rfl, rfl, rfl, rfl, rfl, rfl, rfl, rfl, rfl, rfl, rfl, rfl, trivial⟩ ?_
          intro x hx
          simp only [upd, za, zaa, List.cons_append, List.nil_append]
          obtain ⟨k2, V⟩ := x
          obtain ⟨hk2, hV⟩ := hx
          dsimp only at hk2 hV ⊢
          refine zaf ?_
          refine zad ?_
          refine zab rfl rfl rfl (op_lss rfl (ev1 rfl) (ev1 rfl)) ?_
          refine zae ?_
          refine zaf ?_
          refine dwp_cond rfl (fun c16 => ?_) (fun c16 => ?_)
          · try simp only [decide_eq_true_eq, decide_eq_false_iff_not, beq_iff_eq, bne_iff_ne, beq_eq_false_iff_ne, bne_eq_false_iff_eq, Bool.not_eq_true', Bool.not_eq_false', Bool.and_eq_true, Bool.or_eq_true, Bool.or_eq_false_iff, ne_eq, Decidable.not_not, Int.not_lt, Int.not_le] at c16
            refine dwp_skip ?_
            refine zaf ?_
            refine dwp_block ?_
            refine zaf ?_
            refine zad ?_
            refine zab rfl rfl rfl (zac (.inl rfl) (ev1 rfl)) ?_
            refine zab rfl rfl rfl (zac (.inr rfl) (ev1 rfl)) ?_
            refine zae ?_
            refine zad ?_
            refine zab rfl rfl rfl (op_fa rfl fo24_2 (ev1 rfl)) ?_
            refine zab rfl rfl rfl (op_ldm rfl tb22 (ev1 rfl) rfl rfl) ?_
            refine zab rfl rfl rfl (zac (.inl rfl) (ev1 rfl)) ?_
            refine zab rfl rfl rfl (op_ixar (j := k2) rfl sl22 (ev1 rfl) (ev1 rfl) rfl (fun _ => by first | rfl | omega) (fun _ => by omega)) ?_
            refine zab rfl rfl rfl (op_faa rfl fo38_0 (ev1 rfl)) ?_
            refine zab rfl rfl rfl (op_ldoa rfl tb5 (ev1 rfl) rfl (get_cr (q := k2) (by omega))) ?_
            refine zab rfl rfl rfl (op_add rfl (ev1 rfl) (ev1 rfl)) ?_
            refine zab rfl rfl rfl (op_ixar (j := k2) rfl sl22 (ev1 rfl) (ev1 rfl) rfl (fun _ => by first | rfl | omega) (fun _ => by omega)) ?_
            refine zab rfl rfl rfl (op_faa rfl fo38_0 (ev1 rfl)) ?_
            refine walk_s rfl rfl (op_sta rfl tb5 (ev1 rfl) (ev1 rfl) rfl rfl rfl (by rfl) (by rw [flat_len c4_len]; simp [Value.cells]; omega) (setL_cr (q := k2) (by omega))) (by simp only [upd, za, zaa]; exact rfl) ?_
            refine zae ?_
            refine zad ?_
            refine zab rfl rfl rfl (op_add' rfl (ev1 rfl) (ev1 rfl) (fun _ => IntWalk.i64_in _ (by omega))) ?_
            refine zab rfl rfl rfl (zac (.inl rfl) (ev1 rfl)) ?_
            refine zae ?_
            refine ⟨(k2 + 1, V.set k2 { V.getD k2 zC4 with r := IntKind.u8.wrap ((V.getD k2 zC4).r + 1) }), [0, 1, 2, 3, 4, 5, 6, 7, 8, 9, 10, 11], ⟨by dsimp only; omega, by dsimp only; rw [List.length_set]; exact hV⟩, by dsimp only; omega, rfl, ⟨rfl, rfl, rfl, rfl, rfl, rfl, rfl, rfl, rfl, rfl, trivial⟩, ⟨rfl, rfl, rfl, rfl, rfl, rfl, rfl, rfl, rfl, rfl, rfl, rfl, trivial⟩⟩
          · try simp only [decide_eq_true_eq, decide_eq_false_iff_not, beq_iff_eq, bne_iff_ne, beq_eq_false_iff_ne, bne_eq_false_iff_eq, Bool.not_eq_true', Bool.not_eq_false', Bool.and_eq_true, Bool.or_eq_true, Bool.or_eq_false_iff, ne_eq, Decidable.not_not, Int.not_lt, Int.not_le] at c16
            refine dwp_exit ?_
            refine zad ?_
            refine zab rfl rfl rfl (op_add' rfl (ev1 rfl) (ev1 rfl) (fun _ => IntWalk.i64_in _ (by omega))) ?_
            refine zab rfl rfl rfl (zac (.inl rfl) (ev1 rfl)) ?_
            refine zae ?_
            refine ⟨k + 1, [0, 1, 2, 3, 4, 5], by omega, by simp only []; omega, rfl, ⟨rfl, rfl, rfl, rfl, rfl, rfl, rfl, trivial⟩, ⟨rfl, rfl, rfl, rfl, rfl, rfl, trivial⟩⟩
    · try simp only [decide_eq_true_eq, decide_eq_false_iff_not, beq_iff_eq, bne_iff_ne, beq_eq_false_iff_ne, bne_eq_false_iff_eq, Bool.not_eq_true', Bool.not_eq_false', Bool.and_eq_true, Bool.or_eq_true, Bool.or_eq_false_iff, ne_eq, Decidable.not_not, Int.not_lt, Int.not_le] at c7
      refine dwp_exit ?_
      refine zaf ?_
      refine dwp_draw [([2], []), ([0], []), ([], []), ([], []), ([], [])] mixed (by kernel_rfl) ?_
      refine zag rfl rfl (op_ldmw rfl tb24 (ev1 rfl) rfl rfl) ?_
      refine zag rfl rfl (op_ldmw rfl tb24 (ev1 rfl) rfl rfl) ?_
      refine zag rfl rfl (zaj [] [] [] rfl (ev1 rfl) (ec (ev1 rfl) en) rfl rfl ((by rw [hL]; exact sown_d (s.W : Int) (s.H : Int) l : DFun Try.prog 9 [.agg [.val (.int .i64 (s.W : Int)), .val (.int .i64 (s.H : Int)), .slf 4 l.length (l.flatMap c4)]] [] (.agg [.val (.int .i64 (s.W : Int)), .val (.int .i64 (s.H : Int)), .slf 4 s.l.length (s.l.flatMap c4)]) [])) rfl rfl rfl rfl rfl rfl) ?_
      refine zag rfl rfl (zaj [] [] [] rfl (ev1 rfl) (ec (ev1 rfl) (ec (ev1 rfl) en)) rfl rfl (srsame_d _ _ _ _ s.l s.l (by omega)) rfl rfl rfl rfl rfl rfl) ?_
      refine zag rfl rfl (zac (.inr rfl) (ev1 rfl)) ?_
      refine lex_nil ?_
      refine dwp_ret ?_
      refine kend0 (rs1 rfl (rv_t rfl)) rfl ?_
      first | rfl | simp
  · have hno : rightS w h L = false := by simpa using hright
    refine zad ?_
    refine zab rfl rfl rfl (zac (.inr rfl) (ev1 rfl)) ?_
    refine zae ?_
    refine zaf ?_
    refine zaf ?_
    refine zad ?_
    refine zab rfl rfl rfl (zac (.inl rfl) (ev1 rfl)) ?_
    refine zae ?_
    refine dwp_if_f rfl (hno) ?_
    refine dwp_skip ?_
    refine zaf ?_
    refine zaf ?_
    refine zad ?_
    refine zab rfl rfl rfl (op_ldmw rfl tb24 (ev1 rfl) rfl rfl) ?_
    refine zab rfl rfl rfl (zaj [] [] [] rfl (ev1 rfl) (ec (ev1 rfl) en) rfl rfl (wears_no w h L hno) rfl rfl rfl rfl rfl rfl) ?_
    refine zab rfl rfl rfl (zac (.inl rfl) (ev1 rfl)) ?_
    refine zab rfl rfl rfl (op_neq rfl (ev1 rfl) (ev1 rfl)) ?_
    refine zae ?_
    refine dwp_if_f rfl (rfl) ?_
    refine dwp_skip ?_
    refine zaf ?_
    refine zai 1 (by simp only [holes, List.cons_append, List.nil_append]; exact rfl) ?_
    refine zad ?_
    refine zab rfl rfl rfl (op_ldmw rfl tb24 (ev1 rfl) rfl rfl) ?_
    refine zab rfl rfl rfl (zaj [] [] [] rfl (ev1 rfl) (ec (ev1 rfl) en) rfl rfl ((flip_no w h L hno).wk (wk_zst 190)) rfl rfl rfl rfl rfl rfl) ?_
    refine zab rfl rfl rfl (zac (.inl rfl) (ev1 rfl)) ?_
    refine zab rfl rfl rfl (op_ext rfl (ev1 rfl) rfl) ?_
    refine zab rfl rfl rfl (op_ext rfl (ev1 rfl) rfl) ?_
    refine zak rfl rfl rfl (zal 4 rfl zr24 rfl) (by simp only [upd, za, zaa]; exact rfl) ?_
    refine walk_s rfl rfl (op_stam rfl tb24 (ev1 rfl) (ev1 rfl) rfl rfl rfl rfl) (by simp only [upd, za, zaa]; exact rfl) ?_
    refine zab rfl rfl rfl (zac (.inr rfl) (ev1 rfl)) ?_
    refine zae ?_
    refine zaf ?_
    refine zai 1 (by simp only [holes, List.cons_append, List.nil_append]; exact rfl) ?_
    refine zad ?_
    refine zak rfl rfl rfl (zal 5 rfl zr24 rfl) (by simp only [upd, za, zaa]; exact rfl) ?_
    refine zae ?_
    refine zaf ?_
    refine zad ?_
    refine zab rfl rfl rfl (zac (.inr rfl) (ev1 rfl)) ?_
    refine zae ?_
    refine zaf ?_
    refine zaf ?_
    refine zad ?_
    refine zab rfl rfl rfl (zac (.inl rfl) (ev1 rfl)) ?_
    refine zae ?_
    refine dwp_if_f rfl (hno) ?_
    refine dwp_skip ?_
    refine zaf ?_
    refine zaf ?_
    refine zad ?_
    refine zab rfl rfl rfl (zac (.inl rfl) (ev1 rfl)) ?_
    refine zab rfl rfl rfl (zac (.inl rfl) (ev1 rfl)) ?_
    refine zab rfl rfl rfl (op_neq rfl (ev1 rfl) (ev1 rfl)) ?_
    refine zab rfl rfl rfl (zac (.inl rfl) (ev1 rfl)) ?_
    refine zah (gd_f rfl rfl rfl) rfl rfl rfl (op_ldmw rfl tb24 (ev1 rfl) rfl rfl) ?_
    refine zah (gd_f rfl rfl rfl) rfl rfl rfl (op_ldw rfl tb24 (ev1 rfl) rfl rfl) ?_
    refine zah (gd_f rfl rfl rfl) rfl rfl rfl (zaj [] [] [] rfl (ev1 rfl) (ec (ev2 rfl) (ec (evwk (ev2 rfl) wk_s0) en)) rfl rfl (srsame_d 0 0 0 0 [] [] (by simp)) rfl rfl rfl rfl rfl rfl) ?_
    refine zah (gd_f rfl rfl rfl) rfl rfl rfl (op_not rfl (ev2 rfl)) ?_
    refine zab rfl rfl rfl (op_or rfl (ev1 rfl) (ev3 rfl id)) ?_
    refine zae ?_
    refine dwp_if_f rfl (by simp) ?_
    refine dwp_skip ?_
    refine zaf ?_
    refine zaf ?_
    refine zad ?_
    refine zab rfl rfl rfl (zac (.inl rfl) (ev1 rfl)) ?_
    refine zab rfl rfl rfl (op_len rfl sl25 (ev1 rfl)) ?_
    refine zab rfl rfl rfl (zac (.inl rfl) (ev1 rfl)) ?_
    refine zae ?_
    refine dwp_block ?_
    refine dwp_loopS ⟨hs0, rfl⟩ (α := Nat) (fun k => [(90, .val (.int .i64 (k : Int)))]) [(3, _), (7, _), (9, _), (15, _), (88, _), (89, _)] (fun k => []) [_, _, _, _, _, _] (fun k => k ≤ ps.length) (fun k => ps.length - k) 0 [0, 1, 2, 3, 4, 5] (Nat.zero_le _) rfl ⟨rfl, rfl, rfl, rfl, rfl, rfl, trivial⟩ ⟨rfl, trivial⟩ ⟨rfl, rfl, rfl, rfl, rfl, rfl, trivial⟩ ?_
    intro k hx
    simp only [upd, za, zaa, List.cons_append, List.nil_append]
    have hk := hx
    refine zaf ?_
    refine zad ?_
    refine zab rfl rfl rfl (op_lss rfl (ev1 rfl) (ev1 rfl)) ?_
    refine zae ?_
    refine zaf ?_
    refine dwp_cond rfl (fun c21 => ?_) (fun c21 => ?_)
    · try simp only [decide_eq_true_eq, decide_eq_false_iff_not, beq_iff_eq, bne_iff_ne, beq_eq_false_iff_ne, bne_eq_false_iff_eq, Bool.not_eq_true', Bool.not_eq_false', Bool.and_eq_true, Bool.or_eq_true, Bool.or_eq_false_iff, ne_eq, Decidable.not_not, Int.not_lt, Int.not_le] at c21
      refine dwp_skip ?_
      refine zaf ?_
      refine dwp_block ?_
      refine zaf ?_
      refine zai 1 (by simp only [holes, List.cons_append, List.nil_append]; exact rfl) ?_
      refine zad ?_
      refine zab rfl rfl rfl (zac (.inl rfl) (ev1 rfl)) ?_
      refine zab rfl rfl rfl (op_ixsr (j := k) rfl sl25 (ev1 rfl) (ev1 rfl) (fun _ => rfl) (by decide) (by omega) (by omega)) ?_
      refine zab rfl rfl rfl (op_ldwd rfl tb36 (ev1 rfl) rfl) ?_
      refine zak rfl rfl rfl (zal 6 rfl zr36 rfl) (by simp only [upd, za, zaa]; exact rfl) ?_
      refine zab rfl rfl rfl (zac (.inr rfl) (ev1 rfl)) ?_
      refine walk_s rfl rfl (op_stwa rfl tb36 (ev1 rfl) (ev1 rfl) rfl rfl rfl rfl) (by simp only [upd, za, zaa]; exact rfl) ?_
      refine zae ?_
      refine zaf ?_
      refine zaf ?_
      refine zad ?_
      refine zab rfl rfl rfl (zac (.inl rfl) (ev1 rfl)) ?_
      refine zab rfl rfl rfl (op_eql rfl (ev1 rfl) (ev1 rfl)) ?_
      refine zae ?_
      refine dwp_cond rfl (fun c22 => ?_) (fun c22 => ?_)
      · try simp only [decide_eq_true_eq, decide_eq_false_iff_not, beq_iff_eq, bne_iff_ne, beq_eq_false_iff_ne, bne_eq_false_iff_eq, Bool.not_eq_true', Bool.not_eq_false', Bool.and_eq_true, Bool.or_eq_true, Bool.or_eq_false_iff, ne_eq, Decidable.not_not, Int.not_lt, Int.not_le] at c22
        refine dwp_exit ?_
        refine zaf ?_
        refine dwp_draw [([2], []), ([0], []), ([], []), ([], []), ([], [])] mixed (by kernel_rfl) ?_
        refine zag rfl rfl (op_ldmw rfl tb24 (ev1 rfl) rfl rfl) ?_
        refine zag rfl rfl (op_ldmw rfl tb24 (ev1 rfl) rfl rfl) ?_
        refine zag rfl rfl (zaj [] [] [] rfl (ev1 rfl) (ec (ev1 rfl) en) rfl rfl ((by rw [hL]; exact sown_d w h l : DFun Try.prog 9 [.agg [.val (.int .i64 w), .val (.int .i64 h), .slf 4 l.length (l.flatMap c4)]] [] (.agg [.val (.int .i64 w), .val (.int .i64 h), .slf 4 L.length (L.flatMap c4)]) [])) rfl rfl rfl rfl rfl rfl) ?_
        refine zag rfl rfl (zaj [] [] [] rfl (ev1 rfl) (ec (ev1 rfl) (ec (ev1 rfl) en)) rfl rfl (srsame_d w h w h L L (by omega)) rfl rfl rfl rfl rfl rfl) ?_
        refine zag rfl rfl (zac (.inr rfl) (ev1 rfl)) ?_
        refine lex_nil ?_
        refine dwp_ret ?_
        refine kend0 (rs1 rfl (rv_t rfl)) rfl ?_
        first | rfl | simp
      · try simp only [decide_eq_true_eq, decide_eq_false_iff_not, beq_iff_eq, bne_iff_ne, beq_eq_false_iff_ne, bne_eq_false_iff_eq, Bool.not_eq_true', Bool.not_eq_false', Bool.and_eq_true, Bool.or_eq_true, Bool.or_eq_false_iff, ne_eq, Decidable.not_not, Int.not_lt, Int.not_le] at c22
        refine dwp_skip ?_
        refine zaf ?_
        refine zai 1 (by simp only [holes, List.cons_append, List.nil_append]; exact rfl) ?_
        refine zad ?_
        refine zab rfl rfl rfl (op_ldmw rfl tb24 (ev1 rfl) rfl rfl) ?_
        refine zab rfl rfl rfl (op_fa rfl fo36_0 (ev1 rfl)) ?_
        refine zab rfl rfl rfl (op_ldo rfl tb3 (ev1 rfl) rfl rfl) ?_
        refine zab rfl rfl rfl (op_fa rfl fo36_1 (ev1 rfl)) ?_
        refine zab rfl rfl rfl (op_ldo rfl tb3 (ev1 rfl) rfl rfl) ?_
        refine zab rfl rfl rfl (zaj [] [] [] rfl (ev1 rfl) (ec (ev1 rfl) (ec (ev1 rfl) (ec (ev1 rfl) en))) rfl rfl (sat_no w h L ps[k].x ps[k].y (by unfold inS; rw [hno]; rfl)) rfl rfl rfl rfl rfl rfl) ?_
        refine zab rfl rfl rfl (zac (.inl rfl) (ev1 rfl)) ?_
        refine zab rfl rfl rfl (op_ext rfl (ev1 rfl) rfl) ?_
        refine zab rfl rfl rfl (op_ext rfl (ev1 rfl) rfl) ?_
        refine zak rfl rfl rfl (zal 7 rfl zr38 rfl) (by simp only [upd, za, zaa]; exact rfl) ?_
        refine walk_s rfl rfl (op_stwa rfl tb38 (ev1 rfl) (ev1 rfl) rfl rfl rfl rfl) (by simp only [upd, za, zaa]; exact rfl) ?_
        refine zab rfl rfl rfl (zac (.inr rfl) (ev1 rfl)) ?_
        refine zae ?_
        refine zaf ?_
        refine zai 1 (by simp only [holes, List.cons_append, List.nil_append]; exact rfl) ?_
        refine dwp_draw [([], []), ([], []), ([], []), ([], []), ([6], []), ([], []), ([], []), ([], []), ([], []), ([6], []), ([], []), ([2], []), ([], []), ([], []), ([], []), ([], []), ([6], []), ([], []), ([], []), ([], []), ([], []), ([6], []), ([], []), ([2], []), ([], []), ([], []), ([8], [8]), ([8], [8]), ([], [])] mixed (by kernel_rfl) ?_
        refine zag rfl rfl ((op_build0 rfl fl38 zr38).cast (d' := .val (.agg (c4 zC4).toArray)) (rfl)) ?_
        refine zag rfl rfl (zac (.inl rfl) (ev1 rfl)) ?_
        refine zag rfl rfl (zac (.inl rfl) (ev1 rfl)) ?_
        refine lex_gr (gd_t rfl rfl rfl) rfl rfl (op_fa rfl fo36_0 (ev1 rfl)) ?_
        refine lex_gr (gd_t rfl rfl rfl) rfl rfl (op_ldo rfl tb3 (ev2 rfl) rfl rfl) ?_
        refine lex_gr (gd_t rfl rfl rfl) rfl rfl (op_geq rfl (ev2 rfl) (ev1 rfl)) ?_
        refine zag rfl rfl (op_and rfl (ev1 rfl) (ev3 rfl id)) ?_
        refine zag rfl rfl (zac (.inl rfl) (ev1 rfl)) ?_
        refine lex_gr (gd_t rfl rfl rfl) rfl rfl (op_fa rfl fo36_0 (ev1 rfl)) ?_
        refine lex_gr (gd_t rfl rfl rfl) rfl rfl (op_ldo rfl tb3 (ev2 rfl) rfl rfl) ?_
        refine lex_gr (gd_t rfl rfl rfl) rfl rfl (op_fa rfl fo24_0 (ev1 rfl)) ?_
        refine lex_gr (gd_t rfl rfl rfl) rfl rfl (op_ldm rfl tb3 (ev2 rfl) rfl rfl) ?_
        refine lex_gr (gd_t rfl rfl rfl) rfl rfl (op_lss rfl (ev2 rfl) (ev2 rfl)) ?_
        refine zag rfl rfl (op_and rfl (ev1 rfl) (ev3 rfl id)) ?_
        refine zag rfl rfl (zac (.inl rfl) (ev1 rfl)) ?_
        refine lex_gr (gd_t rfl rfl rfl) rfl rfl (op_fa rfl fo36_1 (ev1 rfl)) ?_
        refine lex_gr (gd_t rfl rfl rfl) rfl rfl (op_ldo rfl tb3 (ev2 rfl) rfl rfl) ?_
        refine lex_gr (gd_t rfl rfl rfl) rfl rfl (op_geq rfl (ev2 rfl) (ev1 rfl)) ?_
        refine zag rfl rfl (op_and rfl (ev1 rfl) (ev3 rfl id)) ?_
        refine zag rfl rfl (zac (.inl rfl) (ev1 rfl)) ?_
        refine lex_gr (gd_t rfl rfl rfl) rfl rfl (op_fa rfl fo36_1 (ev1 rfl)) ?_
        refine lex_gr (gd_t rfl rfl rfl) rfl rfl (op_ldo rfl tb3 (ev2 rfl) rfl rfl) ?_
        refine lex_gr (gd_t rfl rfl rfl) rfl rfl (op_fa rfl fo24_1 (ev1 rfl)) ?_
        refine lex_gr (gd_t rfl rfl rfl) rfl rfl (op_ldm rfl tb3 (ev2 rfl) rfl rfl) ?_
        refine lex_gr (gd_t rfl rfl rfl) rfl rfl (op_lss rfl (ev2 rfl) (ev2 rfl)) ?_
        refine zag rfl rfl (op_and rfl (ev1 rfl) (ev3 rfl id)) ?_
        refine lex_w rfl rfl (zal 8 rfl zr38 rfl) rfl (by simp only [upd, za, zaa]; exact rfl) ?_
        refine lex_s rfl rfl (op_stwa rfl tb38 (ev1 rfl) (ev1 rfl) rfl rfl rfl rfl) rfl (by simp only [upd, za, zaa]; exact rfl) ?_
        refine zag rfl rfl (zac (.inr rfl) (ev1 rfl)) ?_
        refine lex_nil ?_
        refine zaf ?_
        refine zai 1 (by simp only [holes, List.cons_append, List.nil_append]; exact rfl) ?_
        refine zad ?_
        refine zab rfl rfl rfl (op_ldmw rfl tb24 (ev1 rfl) rfl rfl) ?_
        refine zab rfl rfl rfl (op_fa rfl fo36_0 (ev1 rfl)) ?_
        refine zab rfl rfl rfl (op_ldo rfl tb3 (ev1 rfl) rfl rfl) ?_
        refine zab rfl rfl rfl (zaj [] [] [] rfl (ev1 rfl) (ec (ev1 rfl) (ec (ev1 rfl) en)) rfl rfl ((turn_no w h L ps[k].x hno).wk (wk_zst 190)) rfl rfl rfl rfl rfl rfl) ?_
        refine zab rfl rfl rfl (zac (.inl rfl) (ev1 rfl)) ?_
        refine zab rfl rfl rfl (op_ext rfl (ev1 rfl) rfl) ?_
        refine zab rfl rfl rfl (op_ext rfl (ev1 rfl) rfl) ?_
        refine zak rfl rfl rfl (zal 9 rfl zr24 rfl) (by simp only [upd, za, zaa]; exact rfl) ?_
        refine walk_s rfl rfl (op_stam rfl tb24 (ev1 rfl) (ev1 rfl) rfl rfl rfl rfl) (by simp only [upd, za, zaa]; exact rfl) ?_
        refine zab rfl rfl rfl (zac (.inr rfl) (ev1 rfl)) ?_
        refine zae ?_
        refine zaf ?_
        refine zai 1 (by simp only [holes, List.cons_append, List.nil_append]; exact rfl) ?_
        refine zad ?_
        refine zak rfl rfl rfl (zal 10 rfl zr24 rfl) (by simp only [upd, za, zaa]; exact rfl) ?_
        refine zae ?_
        refine zaf ?_
        refine zaf ?_
        refine zad ?_
        refine zab rfl rfl rfl (zac (.inl rfl) (ev1 rfl)) ?_
        refine zae ?_
        refine dwp_if_f rfl (hno) ?_
        refine dwp_skip ?_
        refine zaf ?_
        refine zaf ?_
        refine zad ?_
        refine zab rfl rfl rfl (zac (.inl rfl) (ev1 rfl)) ?_
        refine zae ?_
        refine dwp_if_f rfl (by rw [hno]; rfl) ?_
        refine dwp_skip ?_
        refine zaf ?_
        refine zaf ?_
        refine zad ?_
        refine zab rfl rfl rfl (op_ldw rfl tb38 (ev1 rfl) rfl rfl) ?_
        refine zab rfl rfl rfl (op_ldw rfl tb38 (ev1 rfl) rfl rfl) ?_
        refine zab rfl rfl rfl (op_ner eq38 rfl gd38 tb38 (ev1 rfl) (ev1 rfl)) ?_
        refine zab rfl rfl rfl (zac (.inl rfl) (ev1 rfl)) ?_
        refine zah (gd_f rfl rfl rfl) rfl rfl rfl (zac (.inl rfl) (ev1 rfl)) ?_
        refine zah (gd_f rfl rfl rfl) rfl rfl rfl (zac (.inl rfl) (ev1 rfl)) ?_
        refine zah (gd_f rfl rfl rfl) rfl rfl rfl (op_neb rfl un4 (ev2 rfl) (ev2 rfl)) ?_
        refine zab rfl rfl rfl (op_or rfl (ev1 rfl) (ev3 rfl id)) ?_
        refine zab rfl rfl rfl (zac (.inl rfl) (ev1 rfl)) ?_
        refine zah (gd_f rfl rfl rfl) rfl rfl rfl (zac (.inl rfl) (ev1 rfl)) ?_
        refine zah (gd_f rfl rfl rfl) rfl rfl rfl (zac (.inl rfl) (ev1 rfl)) ?_
        refine zah (gd_f rfl rfl rfl) rfl rfl rfl (op_neq rfl (ev2 rfl) (ev2 rfl)) ?_
        refine zab rfl rfl rfl (op_or rfl (ev1 rfl) (ev3 rfl id)) ?_
        refine zab rfl rfl rfl (zac (.inl rfl) (ev1 rfl)) ?_
        refine zah (gd_f rfl rfl rfl) rfl rfl rfl (op_ldmw rfl tb24 (ev1 rfl) rfl rfl) ?_
        refine zah (gd_f rfl rfl rfl) rfl rfl rfl (op_ldw rfl tb24 (ev1 rfl) rfl rfl) ?_
        refine zah (gd_f rfl rfl rfl) rfl rfl rfl (zaj [] [] [] rfl (ev1 rfl) (ec (ev2 rfl) (ec (evwk (ev2 rfl) wk_s0) en)) rfl rfl (srsame_d 0 0 0 0 [] [] (by simp)) rfl rfl rfl rfl rfl rfl) ?_
        refine zah (gd_f rfl rfl rfl) rfl rfl rfl (op_not rfl (ev2 rfl)) ?_
        refine zab rfl rfl rfl (op_or rfl (ev1 rfl) (ev3 rfl id)) ?_
        refine zae ?_
        refine dwp_if_f rfl (by simp [hno]) ?_
        refine dwp_skip ?_
        refine zaf ?_
        refine zad ?_
        refine zab rfl rfl rfl (op_fa rfl fo24_2 (ev1 rfl)) ?_
        refine zab rfl rfl rfl (op_ldm rfl tb22 (ev1 rfl) rfl rfl) ?_
        refine zab rfl rfl rfl (op_len rfl sl22 (ev1 rfl)) ?_
        refine zab rfl rfl rfl (zac (.inl rfl) (ev1 rfl)) ?_
        refine zae ?_
        refine dwp_block ?_
        refine dwp_dloop (dloop_step ?_)
        refine zaf ?_
        refine zad ?_
        refine zab rfl rfl rfl (op_lss rfl (ev1 rfl) (ev1 rfl)) ?_
        refine zae ?_
        refine zaf ?_
        refine dwp_if_f rfl (rfl) ?_
        refine dwp_exit ?_
        refine zad ?_
        refine zab rfl rfl rfl (op_add' rfl (ev1 rfl) (ev1 rfl) (fun _ => IntWalk.i64_in _ (by omega))) ?_
        refine zab rfl rfl rfl (zac (.inl rfl) (ev1 rfl)) ?_
        refine zae ?_
        refine ⟨k + 1, [0, 1, 2, 3, 4, 5], by omega, by simp only []; omega, rfl, ⟨rfl, rfl, rfl, rfl, rfl, rfl, rfl, trivial⟩, ⟨rfl, rfl, rfl, rfl, rfl, rfl, trivial⟩⟩
    · try simp only [decide_eq_true_eq, decide_eq_false_iff_not, beq_iff_eq, bne_iff_ne, beq_eq_false_iff_ne, bne_eq_false_iff_eq, Bool.not_eq_true', Bool.not_eq_false', Bool.and_eq_true, Bool.or_eq_true, Bool.or_eq_false_iff, ne_eq, Decidable.not_not, Int.not_lt, Int.not_le] at c21
      refine dwp_exit ?_
      refine zaf ?_
      refine dwp_draw [([2], []), ([0], []), ([], []), ([], []), ([], [])] mixed (by kernel_rfl) ?_
      refine zag rfl rfl (op_ldmw rfl tb24 (ev1 rfl) rfl rfl) ?_
      refine zag rfl rfl (op_ldmw rfl tb24 (ev1 rfl) rfl rfl) ?_
      refine zag rfl rfl (zaj [] [] [] rfl (ev1 rfl) (ec (ev1 rfl) en) rfl rfl ((by rw [hL]; exact sown_d w h l : DFun Try.prog 9 [.agg [.val (.int .i64 w), .val (.int .i64 h), .slf 4 l.length (l.flatMap c4)]] [] (.agg [.val (.int .i64 w), .val (.int .i64 h), .slf 4 L.length (L.flatMap c4)]) [])) rfl rfl rfl rfl rfl rfl) ?_
      refine zag rfl rfl (zaj [] [] [] rfl (ev1 rfl) (ec (ev1 rfl) (ec (ev1 rfl) en)) rfl rfl (srsame_d w h w h L L (by omega)) rfl rfl rfl rfl rfl rfl) ?_
      refine zag rfl rfl (zac (.inr rfl) (ev1 rfl)) ?_
      refine lex_nil ?_
      refine dwp_ret ?_
      refine kend0 (rs1 rfl (rv_t rfl)) rfl ?_
      first | rfl | simp
end Go.Proofs.Ytadjbiccndaclaa
