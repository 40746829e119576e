/- Operations, one behind the other; a call by its contract; Operations: numbers, bools, structs, memory that is read and written. Conditions: what a type is, by the kernel; Ends of calls; structs built; bools and strings compared; least and greatest; slices taken over, and given up. Conditions: what a type is, by the kernel; Codes within a function; a loop's rounds one by one; strings; Strings: put together, cut, indexed, ranged over; numbers by their bits; From a contract to the statement: a law whose call returns true whatever its arguments read as; with listed variables, too.  but the kernel's look at the program; Memory that stays from now on, within a call; arrays as rows of elements; parts of arrays; Rows made by make, and copied into; parts of arrays with their room cut; Structs of data that stay: boxed; arrays in them, looked into and cut; What is known of a value, told otherwise: . No condition. -/
import Derived.Test.YtmpodnadoebclaaQ5
import Derived.Test.YtmpodnadoebclaaRows
namespace Go.Proofs.Ytmpodnadoebclaa
set_option linter.unusedVariables false
set_option linter.unusedSimpArgs false
open Go.RowKit
section
variable {P : Program} {s0 : St} {n : Cx} {ops : Array Oper}
theorem gd_tt {o : Oper} {F : Fr} {j t : Nat} {g b : Bool} (h : o.guard = some (j, true)) (ht : (ops[j]?).bind (·.dst) = some t) (hl : lk F t = some (.opt g (.val (.bool b)))) : Gd ops o F (g && b) := by
  unfold Gd; rw [h]; exact ⟨t, g, b, ht, .inl hl, by simp⟩
theorem gd_ff {o : Oper} {F : Fr} {j t : Nat} {g b : Bool} (h : o.guard = some (j, false)) (ht : (ops[j]?).bind (·.dst) = some t) (hl : lk F t = some (.opt g (.val (.bool b)))) : Gd ops o F (g && !b) := by
  unfold Gd; rw [h]; exact ⟨t, g, b, ht, .inl hl, by simp⟩
end

/-! ### names turned back -/
end Go.Proofs.Ytmpodnadoebclaa
namespace Go.Proofs.Ytmpodnadoebclaa
set_option linter.unusedVariables false
set_option linter.unusedSimpArgs false
open Go.RowKit

/-! ### what a type is -/
section
variable {P : Program} {pc : Bool} {o : Oper} {F : Fr} {M : List Blk}
section
variable {T T' : TypeId} {x y : Operand} {k : IntKind} {p q : Int}
end
section
variable {T : TypeId} {x : Operand} {i p k : Nat} {L R : List Value} {v : Value}
end
section
variable {T : TypeId} {x y : Operand} {i p n sz : Nat} {k : IntKind} {z : Int} {L : List Value}
theorem op_ixd (ho : o.op = .indexAddr T x y) (hT : arE P T = some (n, sz)) (hx : Ev pc F x (.dpf L)) (hy : Ev pc F y (.val (.int k z))) (h : pc = true → 0 ≤ z ∧ z < n) : DOp P pc o F M [] (.dpf (L.drop (z.toNat * sz))) [] := by
  intro hp a s hok hops hfp
  have hr := ev_at hp hx (by simp [ho, Op.operands]) hops
  have h2 := (ev_at hp hy (by simp [ho, Op.operands]) hops).val_eq
  generalize hv : a.eval x = vx at hr
  cases hr with
  | @dpf b c _ hI hc =>
    refine dg_val hok (run_index_arr ho hT hv h2 (h hp).1 (h hp).2) (.dpf hI fun j v hj => ?_)
    rw [List.getElem?_drop] at hj
    rw [Nat.add_assoc]
    exact hc _ v hj
variable {e : TypeId} {by' m : Nat}
end
end
end Go.Proofs.Ytmpodnadoebclaa
namespace Go.Proofs.Ytmpodnadoebclaa
set_option linter.unusedVariables false
set_option linter.unusedSimpArgs false
open Go.RowKit
section
variable {P : Program} {fn : Func} {F : Fr} {M : List Blk} {t u v : Tmp} {d d' e f dr : D}
end
section
variable {P : Program} {pc : Bool} {o : Oper} {F : Fr} {M : List Blk}

/-! ### structs built -/
theorem op_neb {T T' : TypeId} {x y : Operand} {p q : Bool} (ho : o.op = .binOp .neq T x y T') (hT : P.underlying T = some .bool) (hx : Ev pc F x (.val (.bool p))) (hy : Ev pc F y (.val (.bool q))) : DOp P pc o F M [] (.val (.bool (p != q))) [] :=
  op_nev ho hx hy (fun w => by unfold eqGuard; rfl) fun w => by
    have h : ∀ d, (Op.equalIn (d + 1) T (.bool p) (.bool q)).run P w = .ok (p == q) w := fun d => by simp [Op.equalIn, run_underlying hT]
    show (do pure (Value.bool (!(← Op.equalIn (9999 + 1) T (.bool p) (.bool q)))) : Sem Value).run P w = _
    rw [Sem.run_bind, h 9999]; rfl
end
section
variable {P : Program} {s0 : St} {n : Cx}
end
end Go.Proofs.Ytmpodnadoebclaa
namespace Go.Proofs.Ytmpodnadoebclaa
set_option linter.unusedVariables false
set_option linter.unusedSimpArgs false
open Go.RowKit
/-- an element, where there is one -/
theorem op_ixsg {P : Program} {pc : Bool} {o : Oper} {F : Fr} {M : List Blk} {T e : TypeId} {sz by' : Nat} {x y : Operand} {k : IntKind} {z : Int} {α : Type} {en : α → List Value} {l : List α} {j : Nat} (a0 : α) (ho : o.op = .indexAddr T x y) (hT : slE P T = some (e, sz, by')) (hx : Ev pc F x (.slf sz l.length (l.flatMap en))) (hy : Ev pc F y (.val (.int k z))) (hen : ∀ a, (en a).length = sz) (hsz : 0 < sz) (hz : pc = true → z = (j : Int)) (hj : pc = true → j < l.length) : DOp P pc o F M [] (.dpf (en (l.getD j a0))) [] := fun hp => by
  have h := op_ixsr (M := M) ho hT hx hy hen hsz (hz hp) (hj hp) hp
  rw [show l.getD j a0 = l[j]'(hj hp) by simp [List.getD_eq_getElem?_getD, hj hp]]
  exact h
theorem getD_at {α : Type} {l : List α} {j : Nat} {a0 : α} (h : j < l.length) : l.getD j a0 = l[j] := by simp [List.getD_eq_getElem?_getD, h]
section
variable {P : Program} {s0 : St} {n : Cx}
end
end Go.Proofs.Ytmpodnadoebclaa
namespace Go.Proofs.Ytmpodnadoebclaa
set_option linter.unusedVariables false
set_option linter.unusedSimpArgs false
open Go.RowKit
section
variable {P : Program} {pc : Bool} {o : Oper} {F : Fr} {M : List Blk}
end
section
variable {P : Program} {pc : Bool} {o : Oper} {F : Fr} {M : List Blk}
theorem op_sldr {α : Type} {en : α → List Value} {r : List α} {T e : TypeId} {sz by' : Nat} {x : Operand} {lo : Option Operand} {l : Int} {i : Nat} (ho : o.op = .slice T x lo none none) (hT : slE P T = some (e, sz, by')) (hx : Ev pc F x (.slf sz r.length (r.flatMap en))) (hlo : Bd pc F lo 0 l)
    (hl : pc = true → l = (i : Int)) (hij : pc = true → i ≤ r.length) (hen : ∀ a, (en a).length = sz) : DOp P pc o F M [] (.slf sz (r.drop i).length ((r.drop i).flatMap en)) [] := fun hp => by
  have h := op_slmd (M := M) (j := r.length) ho hT hx hlo bd_none hl (fun _ => rfl) (fun hp => ⟨hij hp, Nat.le_refl _⟩) hen hp
  rwa [List.take_of_length_le (by simp)] at h
end
end Go.Proofs.Ytmpodnadoebclaa
namespace Go.Proofs.Ytmpodnadoebclaa
set_option linter.unusedVariables false
set_option linter.unusedSimpArgs false
open Go.ChangeShapes Go.WideShapes Go.ChangeAt Go.RowKit Go.Joins Go.Deep
set_option maxRecDepth 100000
section
variable {H : Type} {enc : TypeId × Value → H} {w : World} {base b0 : Nat} {r : Reach} {spare : Nat → Bool} {held : Bool} {v : Value} {d : DataW H} {p : List MemPlace}
theorem open_prim {α : Type} {t : TypeId} {q : Prim} (mk : α → Value) (ok : α → Prop) (hP : ∀ v, q.is v → ∃ a, ok a ∧ v = mk a) (hf : flatT Try.prog 1 t = some [q]) (hv : ∃ u : Value, v = u ∧ u.cells = #[u]) (h : DataW.Trod enc Try.prog w base spare held t v d p) : ∃ a, ok a ∧ v = mk a := by
  obtain ⟨u, rfl, hc⟩ := hv
  obtain ⟨fuel, hfu⟩ := h
  have hfit := flat_trod 1 _ _ _ _ _ hf hfu
  rw [hc] at hfit
  exact hP v hfit.1
end
end Go.Proofs.Ytmpodnadoebclaa
namespace Go.Proofs.Ytmpodnadoebclaa
set_option linter.unusedVariables false
set_option linter.unusedSimpArgs false
open Go.RowKit
section
variable {P : Program} {s0 : St} {n : Cx}
end
section
variable {P : Program} {pc : Bool} {o : Oper} {F : Fr} {M : List Blk} {T T' : TypeId} {x y : Operand} {i n sz : Nat} {k : IntKind} {z : Int} {α : Type} {en : α → List Value} {l : List α} {j : Nat}
/-- .. of one that stays -/
theorem op_ixdr (a0 : α) (ho : o.op = .indexAddr T x y) (hT : arE P T = some (n, sz)) (hx : Ev pc F x (.dpf (l.flatMap en))) (hy : Ev pc F y (.val (.int k z))) (hz : pc = true → z = (j : Int)) (hj : pc = true → j < n) (hl : l.length = n) (hen : ∀ a, (en a).length = sz) : DOp P pc o F M [] (.dpf (en (l.getD j a0))) [] := by
  intro hp a s hok hops hfp
  have h1 := op_ixd (M := M) ho hT hx hy (fun hp => by have := hz hp; have := hj hp; omega) hp a s hok hops hfp
  have hjl : j < l.length := by rw [hl]; exact hj hp
  have hz' : z.toNat = j := by have := hz hp; omega
  rw [hz'] at h1
  have key : ∀ (s' : St) v, Rep s' (.dpf ((l.flatMap en).drop (j * sz))) v → Rep s' (.dpf (en (l.getD j a0))) v := by
    intro s' v hr
    cases hr with
    | dpf hI hc =>
      refine .dpf hI fun q v hq => hc q v ?_
      have hql : q < sz := by rw [← hen (l.getD j a0)]; exact (List.getElem?_eq_some_iff.1 hq).1
      rw [List.getElem?_drop, flat_cell hen hjl hql, ← getD_at (a0 := a0) hjl]
      exact hq
  revert h1
  generalize (execOp a.eval o).run P s.w = r
  intro h1
  cases r with
  | halt x w' => exact h1
  | ok nx w' =>
    cases nx with
    | value v => obtain ⟨s', a1, a2, a3, a4⟩ := h1; exact ⟨s', a1, a2, a3, key s' v a4⟩
    | skip => obtain ⟨s', a1, a2, a3, a4⟩ := h1; exact ⟨s', a1, a2, a3, key s' _ a4⟩
    | enter f args => exact ⟨h1.1, h1.2.mono fun e w'' ⟨s', v, b1, b2, b3, b4, b5⟩ => ⟨s', v, b1, b2, b3, b4, key s' v b5⟩⟩
    | round l f tmps asg body => exact ⟨h1.1, h1.2.mono fun e w'' ⟨s', v, b1, b2, b3, b4, b5⟩ => ⟨s', v, b1, b2, b3, b4, key s' v b5⟩⟩
    | _ => exact h1
end
section
variable {P : Program} {pc : Bool} {o : Oper} {F : Fr} {M : List Blk}
end
section
variable {P : Program} {s0 : St} {n : Cx}
end
end Go.Proofs.Ytmpodnadoebclaa
namespace Go.Proofs.Ytmpodnadoebclaa
set_option linter.unusedVariables false
set_option linter.unusedSimpArgs false
open Go.RowKit
section
variable {P : Program} {pc : Bool} {o : Oper} {F : Fr} {M : List Blk} {T e : TypeId} {by' : Nat} {x y : Operand}
end
section
variable {P : Program} {pc : Bool} {o : Oper} {F : Fr} {M : List Blk} {T T' : TypeId} {x y : Operand} {k k' : IntKind} {p q : Int}
end
section
variable {P : Program} {pc : Bool} {o : Oper} {F : Fr} {M : List Blk} {T : TypeId} {x lo hi mx : Operand} {n sz : Nat} {α : Type} {en : α → List Value} {l : List α} {k k1 k2 : IntKind} {lz hz mz : Int}
end
section
variable {P : Program} {pc : Bool} {o : Oper} {F : Fr} {M : List Blk} {T e : TypeId} {by' n : Nat} {ds : List D} {Z : List Value}
theorem nlL_at : ∀ {l : List D} {j : Nat} {d : D}, D.nlL l = true → l[j]? = some d → d.nl = true
  | [], j, d, _, h => by simp at h
  | a :: l, j, d, h, hj => by
    unfold D.nlL at h
    rw [Bool.and_eq_true] at h
    cases j with
    | zero => simp at hj; subst hj; exact h.1
    | succ j => exact nlL_at h.2 (by simpa using hj)
/-- an element of a slice of slices -/
theorem op_ixm {x y : Operand} {k : IntKind} {z : Int} {d : D} (j : Nat) (ho : o.op = .indexAddr T x y) (hT : slE P T = some (e, 1, by')) (hx : Ev pc F x (.slm 1 n ds)) (hy : Ev pc F y (.val (.int k z))) (hz : pc = true → z = (j : Int)) (hd : ds[j]? = some d) : DOp P pc o F M [] (.dpm [d]) [] := by
  intro hp a s hok hops _
  have hr := ev_at hp hx (by simp [ho, Op.operands]) hops
  have h2 := (ev_at hp hy (by simp [ho, Op.operands]) hops).val_eq
  have hjl : j < ds.length := (List.getElem?_eq_some_iff.1 hd).1
  have hz' := hz hp
  generalize hv : a.eval x = vx at hr
  cases hr with
  | @slm _ _ cap ad _ vs hnl hl hn hc ha hvl h hm =>
    rcases hm with hm | ⟨b, q, rfl, hI, hcl⟩
    · rw [hm] at hjl; simp at hjl
    · have hrun := run_index_sl (P := P) (w := s.w) ho hT hv h2 (by omega) (by omega)
      rw [Addr.add_mid] at hrun
      have hjv : j < vs.length := by omega
      refine dg_val hok hrun (.dpm (vs := [vs[j]]) ?_ hI (fun i v hi => ?_) rfl (fun i d' v h1 h2 => ?_))
      · unfold D.nlL
        rw [nlL_at hnl hd]; rfl
      · cases i with
        | zero =>
          simp at hi
          subst hi
          have e : q + z.toNat * 1 + 0 = q + j := by omega
          rw [e]
          exact hcl j _ (List.getElem?_eq_getElem hjv)
        | succ i => simp at hi
      · cases i with
        | zero =>
          simp at h1 h2
          subst h1 h2
          exact h j _ _ hd (List.getElem?_eq_getElem hjv)
        | succ i => simp at h1
end
section
variable {P : Program} {pc : Bool} {o : Oper} {F : Fr} {M : List Blk}
end
section
variable {P : Program} {pc : Bool} {o : Oper} {F : Fr} {M : List Blk}
end
section
variable {P : Program} {pc : Bool} {o : Oper} {F : Fr} {M : List Blk}
end
end Go.Proofs.Ytmpodnadoebclaa
namespace Go.Proofs.Ytmpodnadoebclaa
set_option linter.unusedVariables false
set_option linter.unusedSimpArgs false
open Go.RowKit
section
variable {P : Program} {pc : Bool} {o : Oper} {F : Fr} {M : List Blk}
end
theorem upd_app : ∀ (a b : List (Nat × Blk)) (M : List Blk), upd M (a ++ b) = upd (upd M a) b
  | [], _, _ => rfl
  | (i, k) :: a, b, M => by rw [List.cons_append, upd, upd, upd_app a b]
/-- what an operation makes is given up at once: it stays -/
theorem DOp.giveA {P : Program} {pc : Bool} {o : Oper} {F : Fr} {M : List Blk} {fp : List Nat} {j sz n : Nat} {T : TypeId} {L : List Value} (wr : List (Nat × Blk)) (h : DOp P pc o F M fp (.arr j) (wr ++ [(j, .arr T sz n L)])) (hj : M[j]? = some .hole) (hf : fp.contains j = true) : DOp P pc o F M fp (.slf sz n L) (wr ++ [(j, .gone)]) := by
  intro hp a s hok hops hfp
  refine (h hp a s hok hops hfp).map fun s' v ho' ⟨e1, e2⟩ => ?_
  have hjl : j < s.M.length := by
    have h1 := hfp j (by simpa using hf)
    rw [hj] at h1
    exact (List.getElem?_eq_some_iff.1 h1).1
  have hM : s'.M[j]? = some (.arr T sz n L) := by
    rw [e1, upd_app]
    show ((upd s.M wr).set j _)[j]? = _
    rw [List.getElem?_set_self (by rw [upd_len]; exact hjl)]
  obtain ⟨I', t1, r1⟩ := tr_giveA ho' hM e2
  refine ⟨⟨s'.β, I', s'.M.set j .gone, s'.w⟩, rfl, t1, ?_, r1⟩
  show s'.M.set j .gone = _
  rw [e1, upd_app, upd_app]
  show ((upd s.M wr).set j _).set j .gone = (upd s.M wr).set j .gone
  rw [List.set_set]
theorem DOp.giveA2 {P : Program} {pc : Bool} {o : Oper} {F : Fr} {M : List Blk} {fp : List Nat} {i j sz n : Nat} {T : TypeId} {L : List Value} (h : DOp P pc o F M fp (.arr j) [(i, .gone), (j, .arr T sz n L)]) (hj : M[j]? = some .hole) (hf : fp.contains j = true) : DOp P pc o F M fp (.slf sz n L) [(i, .gone), (j, .gone)] := DOp.giveA [(i, .gone)] h hj hf
section
variable {P : Program} {s0 : St} {n : Cx}
end
section
variable {P : Program} {s0 : St} {n : Cx}
end
end Go.Proofs.Ytmpodnadoebclaa
namespace Go.Proofs.Ytmpodnadoebclaa
set_option linter.unusedVariables false
set_option linter.unusedSimpArgs false
open Go.RowKit
theorem Wk.of_eq {d d' : D} (h : d = d') : Wk d d' := h ▸ Wk.refl d
section
variable {P : Program} {s0 : St} {n : Cx}
end
section
variable {P : Program} {pc : Bool} {o : Oper} {F : Fr} {M : List Blk} {T : TypeId} {x : Operand}
end
end Go.Proofs.Ytmpodnadoebclaa
namespace Go.Proofs.Ytmpodnadoebclaa
set_option maxRecDepth 4000
set_option linter.unusedVariables false
set_option linter.unusedSimpArgs false
open Go.RowKit
def TL.get (t : TL) (i : Nat) : C4 := t.l.getD i zC4
def getC (w : Int) (ts : List TL) (x y : Int) : C4 := (ts.getD (plN w x y) zT).get (pxN x y)
end Go.Proofs.Ytmpodnadoebclaa
namespace Go.Proofs.Ytmpodnadoebclaa
set_option maxRecDepth 4000
set_option linter.unusedVariables false
set_option linter.unusedSimpArgs false
open Go.RowKit
theorem fo85_0 : fdO Try.prog 85 0 = some 0 := by kernel_rfl
theorem fo85_1 : fdO Try.prog 85 1 = some 1 := by kernel_rfl
set_option maxRecDepth 4000 in
set_option maxHeartbeats 1000000 in
theorem color_d (w h : Int) (ds : List D) (ts : List TL) (hr : RowOk ds ts) (hc : CvOk w h ts) (x y : Int) (ho : onS w h x y = true) : DFun Try.prog 48 [cvD w h ds, .val (.agg #[.int .i64 x, .int .i64 y])] [] (.val (.agg (c4 (getC w ts x y)).toArray)) [] := by
  refine zao (N := 30) 0 (by kernel_rfl) Try.func48 rfl rfl rfl (by simp only [fr0, Nat.zero_add, Nat.reduceAdd]; exact rfl) rfl fun s0 hs0 => ?_
  refine zae ?_
  refine zak 2 (by simp only [holes, List.cons_append, List.nil_append]; exact rfl) ?_
  refine zad ?_
  refine zan rfl rfl rfl (op_boxa 0 rfl (ev1 rfl) rfl) (by simp only [upd, za, zaa]; exact rfl) ?_
  refine zan rfl rfl rfl (op_alloc 1 rfl zr87 rfl) (by simp only [upd, za, zaa]; exact rfl) ?_
  refine zaf ?_
  refine zae ?_
  refine dwp_draw [([], []), ([], []), ([], []), ([], []), ([], []), ([0], []), ([], []), ([0], []), ([], []), ([], []), ([], []), ([], []), ([], []), ([], [])] mixed (by kernel_rfl) ?_
  refine zag rfl rfl (zac (.inl rfl) (ev1 rfl)) ?_
  refine zag rfl rfl (op_nc rfl (ev1 rfl) (fun s v h => by cases h; exact ⟨_, rfl⟩)) ?_
  refine zag rfl rfl (op_fadm rfl fo80_0 (ev1 rfl)) ?_
  refine zag rfl rfl (op_lddv [_, _] rfl tb77 (ev1 rfl) rfl rfl) ?_
  refine zag rfl rfl (op_fa rfl fo85_0 (ev1 rfl)) ?_
  refine zag rfl rfl (op_ldo rfl tb3 (ev1 rfl) rfl rfl) ?_
  refine zag rfl rfl (op_fa rfl fo85_1 (ev1 rfl)) ?_
  refine zag rfl rfl (op_ldo rfl tb3 (ev1 rfl) rfl rfl) ?_
  refine zag rfl rfl (zah [] [] [] rfl (ev1 rfl) (ec (ev1 rfl) (ec (ev1 rfl) (ec (ev1 rfl) en))) rfl rfl (splace_d w h x y hc.may ho) rfl rfl rfl rfl rfl rfl) ?_
  refine zag rfl rfl (zac (.inl rfl) (ev1 rfl)) ?_
  refine zag rfl rfl (op_ext rfl (ev1 rfl) rfl) ?_
  refine zag rfl rfl (op_ext rfl (ev1 rfl) rfl) ?_
  refine zag rfl rfl (zac (.inr rfl) (ev1 rfl)) ?_
  refine zag rfl rfl (zac (.inr rfl) (ev1 rfl)) ?_
  refine lex_nil ?_
  refine zae ?_
  obtain ⟨d, hd, _, _, _, hw⟩ := hr.at (hc.pl ho)
  have hpx := (on_pl hc.may ho).2.2.2
  refine zad ?_
  refine zab rfl rfl rfl (zac (.inl rfl) (ev1 rfl)) ?_
  refine zab rfl rfl rfl (op_nc rfl (ev1 rfl) (fun s v h => by cases h; exact ⟨_, rfl⟩)) ?_
  refine zab rfl rfl rfl (op_fadm rfl fo80_1 (ev1 rfl)) ?_
  refine zab rfl rfl rfl (op_lddm rfl tb78 (ev1 rfl) rfl) ?_
  refine zab rfl rfl rfl (zac (.inl rfl) (ev1 rfl)) ?_
  refine zab rfl rfl rfl (op_ixm (plN w x y) rfl sl78 (ev1 rfl) (ev1 rfl) (fun _ => rfl) (hd)) ?_
  refine zab rfl rfl rfl ((op_lddm rfl tb102 (ev1 rfl) rfl).wk (hw)) ?_
  refine zab rfl rfl rfl (zac (.inl rfl) (ev1 rfl)) ?_
  refine zab rfl rfl rfl (op_nc rfl (ev1 rfl) (fun s v h => by cases h; exact ⟨_, rfl⟩)) ?_
  refine zab rfl rfl rfl (op_ixdr (j := pxN x y) (zC4) rfl ar116 (ev1 rfl) (ev1 rfl) (fun _ => by omega) (fun _ => by omega) ((TL.h _)) (fun _ => rfl)) ?_
  refine zab rfl rfl rfl (op_ldwd rfl tb87 (ev1 rfl) rfl) ?_
  refine walk_s rfl rfl (op_stwa rfl tb87 (ev1 rfl) (ev1 rfl) rfl rfl rfl rfl) (by simp only [upd, za, zaa]; exact rfl) ?_
  refine zaf ?_
  refine dwp_ret ?_
  refine kend0 (rs1 rfl (rv_w tb87 rfl rfl rfl)) rfl ?_
  rfl
end Go.Proofs.Ytmpodnadoebclaa
namespace Go.Proofs.Ytmpodnadoebclaa
set_option maxRecDepth 4000
set_option linter.unusedVariables false
set_option linter.unusedSimpArgs false
open Go.RowKit
theorem eq77 {a0 : Int} {a1 : Int} {b0 : Int} {b1 : Int} : eqT Try.prog 9 77 [.int .i64 a0, .int .i64 a1] [.int .i64 b0, .int .i64 b1] = some ((a0 == b0) && ((a1 == b1) && true)) := by kernel_rfl
theorem gd77 : Try.prog.eqGuardType Try.prog.depth 77 = false := by kernel_rfl
end Go.Proofs.Ytmpodnadoebclaa
namespace Go.Proofs.Ytmpodnadoebclaa
set_option maxRecDepth 4000
set_option linter.unusedVariables false
set_option linter.unusedSimpArgs false
open Go.RowKit
theorem eq87 {a b : C4} : eqT Try.prog 9 87 (c4 a) (c4 b) = some (decide (a = b)) := by
  rw [← eqC_iff]
  exact (show eqT Try.prog 9 87 [.int .u8 a.r, .int .u8 a.g, .int .u8 a.b, .int .u8 a.a] [.int .u8 b.r, .int .u8 b.g, .int .u8 b.b, .int .u8 b.a] = some (eqC a b) by kernel_rfl)
theorem fl85 : fdL Try.prog 85 = some [(0, 1), (1, 1)] := by kernel_rfl
theorem gd87 : Try.prog.eqGuardType Try.prog.depth 87 = false := by kernel_rfl
theorem tb85 : tyB Try.prog 85 = some (true, 2) := by kernel_rfl
theorem zr85 : zrC Try.prog 85 = some [.int .i64 0, .int .i64 0] := by kernel_rfl
def rowEq (w : Int) (ts us : List TL) (y n : Nat) : Bool := (List.range n).all fun (x : Nat) => decide (getC w ts (x : Int) (y : Int) = getC w us (x : Int) (y : Int))
def allEq (w : Int) (ts us : List TL) (W n : Nat) : Bool := (List.range n).all fun (y : Nat) => rowEq w ts us y W
def sameF (w h : Int) (ts us : List TL) : Bool := allEq w ts us (w * 8).toNat (h * 8).toNat
theorem rowEq_succ (w : Int) (ts us : List TL) (y n : Nat) : rowEq w ts us y (n + 1) = (rowEq w ts us y n && decide (getC w ts (n : Int) (y : Int) = getC w us (n : Int) (y : Int))) := by
  unfold rowEq
  rw [List.range_succ, List.all_append]
  simp
theorem allEq_succ (w : Int) (ts us : List TL) (W n : Nat) : allEq w ts us W (n + 1) = (allEq w ts us W n && rowEq w ts us n W) := by
  unfold allEq
  rw [List.range_succ, List.all_append]
  simp
theorem sameF_no {w h : Int} {ts us : List TL} {x y : Nat} (hx : x < (w * 8).toNat) (hy : y < (h * 8).toNat) (hne : getC w ts (x : Int) (y : Int) ≠ getC w us (x : Int) (y : Int)) : sameF w h ts us = false := by
  rw [← Bool.not_eq_true]
  intro h1
  have h2 := List.all_eq_true.1 h1 y (List.mem_range.2 hy)
  have h3 := List.all_eq_true.1 h2 x (List.mem_range.2 hx)
  exact hne (by simpa using h3)
theorem pl_back {w : Int} {p q : Nat} (hw : 1 ≤ w) (hq : q < 64) : plN w ((p : Int) % w * 8 + (q : Int) % 8) ((p : Int) / w * 8 + (q : Int) / 8) = p ∧ pxN ((p : Int) % w * 8 + (q : Int) % 8) ((p : Int) / w * 8 + (q : Int) / 8) = q := by
  have h1 := Int.emod_nonneg (p : Int) (show w ≠ 0 by omega)
  have h2 : (0 : Int) ≤ (p : Int) / w := Int.ediv_nonneg (by omega) (by omega)
  have e := Int.mul_ediv_add_emod (p : Int) w
  unfold plN pxN
  generalize (p : Int) % w = r at h1 e ⊢
  generalize (p : Int) / w = d at h2 e ⊢
  have e1 : (d * 8 + (q : Int) / 8) / 8 = d := by omega
  have e2 : (r * 8 + (q : Int) % 8) / 8 = r := by omega
  have e3 : (d * 8 + (q : Int) / 8) % 8 = (q : Int) / 8 := by omega
  have e4 : (r * 8 + (q : Int) % 8) % 8 = (q : Int) % 8 := by omega
  rw [e1, e2, e3, e4, Int.mul_comm d w]
  omega
theorem on_back {w h : Int} {p q : Nat} (hm : mayS w h = true) (hp : (p : Int) < w * h) (hq : q < 64) : onS w h ((p : Int) % w * 8 + (q : Int) % 8) ((p : Int) / w * 8 + (q : Int) / 8) = true := by
  have hb := mayS_b hm
  have h1 := Int.emod_nonneg (p : Int) (show w ≠ 0 by omega)
  have h3 := Int.emod_lt_of_pos (p : Int) (show 0 < w by omega)
  have h2 : (0 : Int) ≤ (p : Int) / w := Int.ediv_nonneg (by omega) (by omega)
  have h4 : (p : Int) / w < h := Int.ediv_lt_of_lt_mul (by omega) (by rw [Int.mul_comm h w]; exact hp)
  exact onS_iff.2 ⟨by omega, by omega⟩
theorem sameF_iff {w h : Int} {ts us : List TL} (hc : CvOk w h ts) (hd : CvOk w h us) : sameF w h ts us = decide (ts = us) := by
  rw [Bool.eq_iff_iff]
  have hb := mayS_b hc.may
  have l1 := hc.len
  have l2 := hd.len
  constructor
  · intro h1
    rw [decide_eq_true_eq]
    apply List.ext_getElem (by omega)
    intro p hp hp2
    apply TL.ext
    apply List.ext_getElem (by rw [TL.h, TL.h])
    intro q hq hq2
    rw [TL.h] at hq
    have ho := on_back (p := p) (q := q) hc.may (by omega) hq
    obtain ⟨e1, e2⟩ := pl_back (w := w) (p := p) (q := q) (by omega) hq
    have hxy := onS_iff.1 ho
    generalize hX : (p : Int) % w * 8 + (q : Int) % 8 = X at ho e1 e2 hxy
    generalize hY : (p : Int) / w * 8 + (q : Int) / 8 = Y at ho e1 e2 hxy
    have h2 := List.all_eq_true.1 h1 Y.toNat (List.mem_range.2 (by omega))
    have h3 := List.all_eq_true.1 h2 X.toNat (List.mem_range.2 (by omega))
    rw [decide_eq_true_eq, show ((X.toNat : Nat) : Int) = X by omega, show ((Y.toNat : Nat) : Int) = Y by omega] at h3
    unfold getC at h3
    rw [e1, e2, tl_at hp, tl_at hp2] at h3
    unfold TL.get at h3
    rw [List.getD_eq_getElem?_getD, List.getD_eq_getElem?_getD, List.getElem?_eq_getElem (by rw [TL.h]; exact hq), List.getElem?_eq_getElem (by rw [TL.h]; exact hq)] at h3
    exact h3
  · intro h1
    have h1 : ts = us := by simpa using h1
    subst h1
    exact List.all_eq_true.2 fun y _ => List.all_eq_true.2 fun x _ => by simp
set_option maxRecDepth 4000 in
set_option maxHeartbeats 1000000 in
theorem points_d (w h : Int) (hm : mayS w h = true) : DFun Try.prog 47 [.val (.agg #[.int .i64 w, .int .i64 h])] [] (.fn (.func 70) [] [.loc 0 0, .loc 1 0]) [.flat 3 [.int .i64 (h * 8)], .flat 3 [.int .i64 (w * 8)]] := by
  refine zao (N := 11) 0 (by kernel_rfl) Try.func47 rfl rfl rfl (by simp only [fr0, Nat.zero_add, Nat.reduceAdd]; exact rfl) rfl fun s0 hs0 => ?_
  refine zae ?_
  refine zak 1 (by simp only [holes, List.cons_append, List.nil_append]; exact rfl) ?_
  refine zad ?_
  refine zan rfl rfl rfl (op_boxa 0 rfl (ev1 rfl) rfl) (by simp only [upd, za, zaa]; exact rfl) ?_
  refine zab rfl rfl rfl (zac (.inr rfl) (ev1 rfl)) ?_
  refine zaf ?_
  refine zae ?_
  refine zak 2 (by simp only [holes, List.cons_append, List.nil_append]; exact rfl) ?_
  refine zad ?_
  refine zab rfl rfl rfl (op_ldw rfl tb77 (ev1 rfl) rfl rfl) ?_
  refine zab rfl rfl rfl (zah [] [] [] rfl (ev1 rfl) (ec (ev1 rfl) en) rfl rfl (spix_d w h hm) rfl rfl rfl rfl rfl rfl) ?_
  refine zab rfl rfl rfl (zac (.inl rfl) (ev1 rfl)) ?_
  refine zab rfl rfl rfl (op_ext rfl (ev1 rfl) rfl) ?_
  refine zab rfl rfl rfl (op_ext rfl (ev1 rfl) rfl) ?_
  refine zan rfl rfl rfl (op_alloc 1 rfl zr3 rfl) (by simp only [upd, za, zaa]; exact rfl) ?_
  refine zan rfl rfl rfl (op_alloc 2 rfl zr3 rfl) (by simp only [upd, za, zaa]; exact rfl) ?_
  refine walk_s rfl rfl (op_stwi rfl tb3 (ev1 rfl) (ev1 rfl) rfl) (by simp only [upd, za, zaa]; exact rfl) ?_
  refine walk_s rfl rfl (op_stwi rfl tb3 (ev1 rfl) (ev1 rfl) rfl) (by simp only [upd, za, zaa]; exact rfl) ?_
  refine zaf ?_
  refine zae ?_
  refine zad ?_
  refine zab rfl rfl rfl (op_mkf rfl en (ec (ev1 rfl) (ec (ev1 rfl) en))) ?_
  refine zab rfl rfl rfl (zac (.inr rfl) (ev1 rfl)) ?_
  refine zaf ?_
  refine dwp_ret ?_
  refine kend [2, 1] (rs1 rfl (rv_t rfl)) rfl rfl ?_ ⟨rfl, rfl, trivial⟩
  rfl
noncomputable def samA : Code := rfA (pth [1, 0, 1, 1, 1, 1, 0, 1, 0] (bodyOf Try.f18))
noncomputable def samB : Code := rfB (pth [1, 0, 1, 1, 1, 1, 0, 1, 0] (bodyOf Try.f18))
set_option maxRecDepth 4000 in
set_option maxHeartbeats 1000000 in
theorem samRound_true (w h : Int) (da db : List D) (ts us : List TL) (ra : RowOk da ts) (rb : RowOk db us) (ca : CvOk w h ts) (cb : CvOk w h us) (x y : Int) (ho : onS w h x y = true) (b : Bool) (h1 : getC w ts x y = getC w us x y) : DRound Try.prog 0 [.val (.agg #[.int .i64 x, .int .i64 y])] [.lp 42 [(2, .loc 1 0), (3, .loc 2 0), (5, .loc 3 0)] #[33] samA samB .ready none, .mix 42 [cvD w h da], .mix 42 [cvD w h db], .flat 4 [.bool b]] true [.lp 42 [(2, .loc 1 0), (3, .loc 2 0), (5, .loc 3 0)] #[33] samA samB .ready none, .mix 42 [cvD w h da], .mix 42 [cvD w h db], .flat 4 [.bool b]] := by
  refine dround_go 4 rfl rfl (by simp) rfl rfl fun s0 hs0 => ?_
  refine zak 1 (by simp only [holes, List.cons_append, List.nil_append]; exact rfl) ?_
  refine zad ?_
  refine zan rfl rfl rfl (op_alloc 4 rfl zr85 rfl) (by simp only [upd, za, zaa]; exact rfl) ?_
  refine walk_s rfl rfl (op_stwa rfl tb85 (ev1 rfl) (ev1 rfl) rfl rfl rfl rfl) (by simp only [upd, za, zaa]; exact rfl) ?_
  refine zaf ?_
  refine ⟨rfl, ?_⟩
  simp only [za, zaa]
  refine zam ?_
  refine zae ?_
  refine dwp_draw [([1], []), ([4], []), ([], []), ([2], []), ([4], []), ([], []), ([], [])] mixed (by kernel_rfl) ?_
  refine zag rfl rfl (op_ldm rfl tb42 (ev1 rfl) rfl rfl) ?_
  refine zag rfl rfl (op_ldw rfl tb85 (ev1 rfl) rfl rfl) ?_
  refine zag rfl rfl (zah [] [] [] rfl (ev1 rfl) (ec (ev1 rfl) (ec (ev1 rfl) en)) rfl rfl (color_d w h da ts ra ca x y ho) rfl rfl rfl rfl rfl rfl) ?_
  refine zag rfl rfl (op_ldm rfl tb42 (ev1 rfl) rfl rfl) ?_
  refine zag rfl rfl (op_ldw rfl tb85 (ev1 rfl) rfl rfl) ?_
  refine zag rfl rfl (zah [] [] [] rfl (ev1 rfl) (ec (ev1 rfl) (ec (ev1 rfl) en)) rfl rfl (color_d w h db us rb cb x y ho) rfl rfl rfl rfl rfl rfl) ?_
  refine zag rfl rfl (op_ner eq87 rfl gd87 tb87 (ev1 rfl) (ev1 rfl)) ?_
  refine lex_nil ?_
  refine dwp_if_f rfl (by simpa using h1) ?_
  refine zal ?_
  refine ⟨by first | rfl | assumption | simp_all, rfl, [0, 1, 2, 3], rfl, ⟨rfl, rfl, rfl, rfl, trivial⟩⟩
set_option maxRecDepth 4000 in
set_option maxHeartbeats 1000000 in
theorem samRound_false (w h : Int) (da db : List D) (ts us : List TL) (ra : RowOk da ts) (rb : RowOk db us) (ca : CvOk w h ts) (cb : CvOk w h us) (x y : Int) (ho : onS w h x y = true) (b : Bool) (h1 : getC w ts x y ≠ getC w us x y) : DRound Try.prog 0 [.val (.agg #[.int .i64 x, .int .i64 y])] [.lp 42 [(2, .loc 1 0), (3, .loc 2 0), (5, .loc 3 0)] #[33] samA samB .ready none, .mix 42 [cvD w h da], .mix 42 [cvD w h db], .flat 4 [.bool b]] false [.lp 42 [(2, .loc 1 0), (3, .loc 2 0), (5, .loc 3 0)] #[33] samA samB .done (some (.exit 0)), .mix 42 [cvD w h da], .mix 42 [cvD w h db], .flat 4 [.bool false]] := by
  refine dround_go 4 rfl rfl (by simp) rfl rfl fun s0 hs0 => ?_
  refine zak 1 (by simp only [holes, List.cons_append, List.nil_append]; exact rfl) ?_
  refine zad ?_
  refine zan rfl rfl rfl (op_alloc 4 rfl zr85 rfl) (by simp only [upd, za, zaa]; exact rfl) ?_
  refine walk_s rfl rfl (op_stwa rfl tb85 (ev1 rfl) (ev1 rfl) rfl rfl rfl rfl) (by simp only [upd, za, zaa]; exact rfl) ?_
  refine zaf ?_
  refine ⟨rfl, ?_⟩
  simp only [za, zaa]
  refine zam ?_
  refine zae ?_
  refine dwp_draw [([1], []), ([4], []), ([], []), ([2], []), ([4], []), ([], []), ([], [])] mixed (by kernel_rfl) ?_
  refine zag rfl rfl (op_ldm rfl tb42 (ev1 rfl) rfl rfl) ?_
  refine zag rfl rfl (op_ldw rfl tb85 (ev1 rfl) rfl rfl) ?_
  refine zag rfl rfl (zah [] [] [] rfl (ev1 rfl) (ec (ev1 rfl) (ec (ev1 rfl) en)) rfl rfl (color_d w h da ts ra ca x y ho) rfl rfl rfl rfl rfl rfl) ?_
  refine zag rfl rfl (op_ldm rfl tb42 (ev1 rfl) rfl rfl) ?_
  refine zag rfl rfl (op_ldw rfl tb85 (ev1 rfl) rfl rfl) ?_
  refine zag rfl rfl (zah [] [] [] rfl (ev1 rfl) (ec (ev1 rfl) (ec (ev1 rfl) en)) rfl rfl (color_d w h db us rb cb x y ho) rfl rfl rfl rfl rfl rfl) ?_
  refine zag rfl rfl (op_ner eq87 rfl gd87 tb87 (ev1 rfl) (ev1 rfl)) ?_
  refine lex_nil ?_
  refine dwp_if_t rfl (by simpa using h1) ?_
  refine zae ?_
  refine zad ?_
  refine walk_s rfl rfl (op_stwb rfl tb4 (ev1 rfl) (ev1 rfl) rfl) (by simp only [upd, za, zaa]; exact rfl) ?_
  refine zaf ?_
  refine dwp_exit ?_
  refine ⟨by first | rfl | assumption | simp_all, rfl, [0, 1, 2, 3], rfl, ⟨rfl, rfl, rfl, rfl, trivial⟩⟩
theorem samRound (w h : Int) (da db : List D) (ts us : List TL) (ra : RowOk da ts) (rb : RowOk db us) (ca : CvOk w h ts) (cb : CvOk w h us) (x y : Int) (ho : onS w h x y = true) (b : Bool) : DRound Try.prog 0 [.val (.agg #[.int .i64 x, .int .i64 y])] [.lp 42 [(2, .loc 1 0), (3, .loc 2 0), (5, .loc 3 0)] #[33] samA samB .ready none, .mix 42 [cvD w h da], .mix 42 [cvD w h db], .flat 4 [.bool b]] (decide (getC w ts x y = getC w us x y)) [.lp 42 [(2, .loc 1 0), (3, .loc 2 0), (5, .loc 3 0)] #[33] samA samB (rst (decide (getC w ts x y = getC w us x y))) (rpe (.exit 0) (decide (getC w ts x y = getC w us x y))), .mix 42 [cvD w h da], .mix 42 [cvD w h db], .flat 4 [.bool (b && decide (getC w ts x y = getC w us x y))]] := by
  by_cases h1 : getC w ts x y = getC w us x y
  · rw [decide_eq_true h1, Bool.and_true]
    exact samRound_true w h da db ts us ra rb ca cb x y ho b h1
  · rw [decide_eq_false h1, Bool.and_false]
    exact samRound_false w h da db ts us ra rb ca cb x y ho b h1
set_option maxRecDepth 4000 in
set_option maxHeartbeats 1000000 in
theorem pts_same (w h : Int) (da db : List D) (ts us : List TL) (ra : RowOk da ts) (rb : RowOk db us) (ca : CvOk w h ts) (cb : CvOk w h us) (b : Bool) : DFun Try.prog 70 [.yld 0, .loc 4 0, .loc 5 0] [.lp 42 [(2, .loc 1 0), (3, .loc 2 0), (5, .loc 3 0)] #[33] samA samB .ready none, .mix 42 [cvD w h da], .mix 42 [cvD w h db], .flat 4 [.bool b], .flat 3 [.int .i64 (h * 8)], .flat 3 [.int .i64 (w * 8)]] (.tup []) [.lp 42 [(2, .loc 1 0), (3, .loc 2 0), (5, .loc 3 0)] #[33] samA samB (rst (sameF w h ts us)) (rpe (.exit 0) (sameF w h ts us)), .mix 42 [cvD w h da], .mix 42 [cvD w h db], .flat 4 [.bool (b && (sameF w h ts us))], .flat 3 [.int .i64 (h * 8)], .flat 3 [.int .i64 (w * 8)]] := by
  have hb := mayS_b ca.may
  refine zao (N := 22) 6 (by kernel_rfl) Try.func70 rfl rfl rfl (by simp only [fr0, Nat.zero_add, Nat.reduceAdd]; exact rfl) rfl fun s0 hs0 => ?_
  refine zae ?_
  refine zad ?_
  refine zab rfl rfl rfl (op_ldo rfl tb3 (ev1 rfl) rfl rfl) ?_
  refine zab rfl rfl rfl (zac (.inl rfl) (ev1 rfl)) ?_
  refine zaf ?_
  refine zam ?_
  refine dwp_loopS ⟨hs0, rfl⟩ (α := Nat) (fun y => [(7, .val (.int .i64 (y : Int)))]) [(0, _), (2, _), (6, _)] (fun y => []) [_, _, _, _, _, _] (fun y => (y : Int) ≤ h * 8 ∧ allEq w ts us (w * 8).toNat y = true) (fun y => (h * 8).toNat - y) 0 [0, 1, 2, 3, 4, 5] (⟨by omega, rfl⟩) rfl ⟨rfl, rfl, rfl, trivial⟩ ⟨rfl, trivial⟩ ⟨rfl, rfl, rfl, rfl, rfl, rfl, trivial⟩ ?_
  intro y hx
  simp only [upd, za, zaa, List.cons_append, List.nil_append]
  obtain ⟨hy, hey⟩ := hx
  refine zae ?_
  refine zad ?_
  refine zab rfl rfl rfl (op_lss rfl (ev1 rfl) (ev1 rfl)) ?_
  refine zaf ?_
  refine zae ?_
  refine dwp_cond rfl (fun c1 => ?_) (fun c1 => ?_)
  · try simp only [decide_eq_true_eq, decide_eq_false_iff_not, beq_iff_eq, bne_iff_ne, beq_eq_false_iff_ne, bne_eq_false_iff_eq, Bool.not_eq_true', Bool.not_eq_false', Bool.and_eq_true, Bool.or_eq_true, Bool.or_eq_false_iff, ne_eq, Decidable.not_not, Int.not_lt, Int.not_le] at c1
    refine zal ?_
    refine zae ?_
    refine zam ?_
    refine zae ?_
    refine zad ?_
    refine zab rfl rfl rfl (zac (.inl rfl) (ev1 rfl)) ?_
    refine zab rfl rfl rfl (zac (.inr rfl) (ev1 rfl)) ?_
    refine zaf ?_
    refine zae ?_
    refine zad ?_
    refine zab rfl rfl rfl (op_ldo rfl tb3 (ev1 rfl) rfl rfl) ?_
    refine zab rfl rfl rfl (zac (.inl rfl) (ev1 rfl)) ?_
    refine zaf ?_
    refine zam ?_
    refine dwp_loopS ⟨hs0, rfl⟩ (α := Nat) (fun x => [(11, .val (.int .i64 (x : Int)))]) [(0, _), (2, _), (4, _), (6, _), (7, _), (10, _)] (fun x => []) [_, _, _, _, _, _] (fun x => (x : Int) ≤ w * 8 ∧ rowEq w ts us y x = true) (fun x => (w * 8).toNat - x) 0 [0, 1, 2, 3, 4, 5] (⟨by omega, rfl⟩) rfl ⟨rfl, rfl, rfl, rfl, rfl, rfl, trivial⟩ ⟨rfl, trivial⟩ ⟨rfl, rfl, rfl, rfl, rfl, rfl, trivial⟩ ?_
    intro x hx
    simp only [upd, za, zaa, List.cons_append, List.nil_append]
    obtain ⟨hx2, hex⟩ := hx
    refine zae ?_
    refine zad ?_
    refine zab rfl rfl rfl (op_lss rfl (ev1 rfl) (ev1 rfl)) ?_
    refine zaf ?_
    refine zae ?_
    refine dwp_cond rfl (fun c2 => ?_) (fun c2 => ?_)
    · try simp only [decide_eq_true_eq, decide_eq_false_iff_not, beq_iff_eq, bne_iff_ne, beq_eq_false_iff_ne, bne_eq_false_iff_eq, Bool.not_eq_true', Bool.not_eq_false', Bool.and_eq_true, Bool.or_eq_true, Bool.or_eq_false_iff, ne_eq, Decidable.not_not, Int.not_lt, Int.not_le] at c2
      refine zal ?_
      refine zae ?_
      refine zam ?_
      refine zae ?_
      refine zad ?_
      refine zab rfl rfl rfl (zac (.inl rfl) (ev1 rfl)) ?_
      refine zab rfl rfl rfl (zac (.inr rfl) (ev1 rfl)) ?_
      refine zaf ?_
      refine zae ?_
      have ho : onS w h (x : Int) (y : Int) = true := onS_iff.2 ⟨by omega, by omega⟩
      refine zad ?_
      refine zab rfl rfl rfl (zac (.inl rfl) (ev1 rfl)) ?_
      refine zab rfl rfl rfl (zac (.inl rfl) (ev1 rfl)) ?_
      refine zab rfl rfl rfl (zac (.inl rfl) (ev1 rfl)) ?_
      refine zab rfl rfl rfl (op_build (ps := [(0, .tmp 15), (1, .tmp 16)]) rfl fl85 zr85 (vc (ev1 rfl) (vc (ev1 rfl) vn)) rfl rfl) ?_
      refine zan rfl rfl rfl (op_y (i := 0) [0, 1, 2, 3] [] [] rfl (ev1 rfl) (ec (ev1 rfl) en) rfl rfl rfl (samRound w h da db ts us ra rb ca cb x y ho b) rfl rfl rfl rfl rfl) (by simp only [upd, za, zaa]; exact rfl) ?_
      refine zab rfl rfl rfl (op_not rfl (ev1 rfl)) ?_
      refine zaf ?_
      refine dwp_cond rfl (fun c3 => ?_) (fun c3 => ?_)
      · have e1 : decide (getC w ts (x : Int) (y : Int) = getC w us (x : Int) (y : Int)) = false := by simpa using c3
        refine dwp_ret ?_
        have e2 : sameF w h ts us = false := sameF_no (x := x) (y := y) (by omega) (by omega) (by simpa using e1)
        rw [e2, e1]
        refine kend [0, 1, 2, 3, 4, 5] (res_none rfl) rfl rfl ?_ ⟨rfl, rfl, rfl, rfl, rfl, rfl, trivial⟩
        rfl
      · have e1 : decide (getC w ts (x : Int) (y : Int) = getC w us (x : Int) (y : Int)) = true := by simpa using c3
        refine zal ?_
        refine zad ?_
        refine zab rfl rfl rfl (op_add' rfl (ev1 rfl) (ev1 rfl) (fun _ => IntWalk.i64_in _ (by omega))) ?_
        refine zab rfl rfl rfl (zac (.inl rfl) (ev1 rfl)) ?_
        refine zaf ?_
        rw [e1, Bool.and_true]
        refine ⟨x + 1, [0, 1, 2, 3, 4, 5], ⟨by omega, by rw [rowEq_succ, hex, e1]; rfl⟩, by simp only []; omega, rfl, ⟨rfl, rfl, rfl, rfl, rfl, rfl, rfl, trivial⟩, ⟨rfl, rfl, rfl, rfl, rfl, rfl, trivial⟩⟩
    · try simp only [decide_eq_true_eq, decide_eq_false_iff_not, beq_iff_eq, bne_iff_ne, beq_eq_false_iff_ne, bne_eq_false_iff_eq, Bool.not_eq_true', Bool.not_eq_false', Bool.and_eq_true, Bool.or_eq_true, Bool.or_eq_false_iff, ne_eq, Decidable.not_not, Int.not_lt, Int.not_le] at c2
      refine dwp_exit ?_
      refine zad ?_
      refine zab rfl rfl rfl (op_add' rfl (ev1 rfl) (ev1 rfl) (fun _ => IntWalk.i64_in _ (by omega))) ?_
      refine zab rfl rfl rfl (zac (.inl rfl) (ev1 rfl)) ?_
      refine zaf ?_
      obtain rfl : x = (w * 8).toNat := by omega
      refine ⟨y + 1, [0, 1, 2, 3, 4, 5], ⟨by omega, by rw [allEq_succ, hey, hex]; rfl⟩, by simp only []; omega, rfl, ⟨rfl, rfl, rfl, rfl, trivial⟩, ⟨rfl, rfl, rfl, rfl, rfl, rfl, trivial⟩⟩
  · try simp only [decide_eq_true_eq, decide_eq_false_iff_not, beq_iff_eq, bne_iff_ne, beq_eq_false_iff_ne, bne_eq_false_iff_eq, Bool.not_eq_true', Bool.not_eq_false', Bool.and_eq_true, Bool.or_eq_true, Bool.or_eq_false_iff, ne_eq, Decidable.not_not, Int.not_lt, Int.not_le] at c1
    refine dwp_exit ?_
    have e2 : sameF w h ts us = true := by rw [sameF, show (h * 8).toNat = y by omega]; exact hey
    rw [e2, Bool.and_true]
    refine kend [0, 1, 2, 3, 4, 5] (res_none rfl) rfl rfl ?_ ⟨rfl, rfl, rfl, rfl, rfl, rfl, trivial⟩
    rfl
set_option maxRecDepth 4000 in
set_option maxHeartbeats 1000000 in
theorem same_cv (w h : Int) (da db : List D) (ts us : List TL) (ra : RowOk da ts) (rb : RowOk db us) (ca : CvOk w h ts) (cb : CvOk w h us)  : DFun Try.prog 18 [cvD w h da, cvD w h db] [] (.val (.bool (decide (ts = us)))) [] := by
  refine zao (N := 42) 0 (by kernel_rfl) Try.func18 rfl rfl rfl (by simp only [fr0, Nat.zero_add, Nat.reduceAdd]; exact rfl) rfl fun s0 hs0 => ?_
  refine zae ?_
  refine zak 2 (by simp only [holes, List.cons_append, List.nil_append]; exact rfl) ?_
  refine zad ?_
  refine zan rfl rfl rfl (op_boxm 0 rfl (ev1 rfl) (fun s v h => by cases h <;> rfl) rfl) (by simp only [upd, za, zaa]; exact rfl) ?_
  refine zan rfl rfl rfl (op_boxm 1 rfl (ev1 rfl) (fun s v h => by cases h <;> rfl) rfl) (by simp only [upd, za, zaa]; exact rfl) ?_
  refine zab rfl rfl rfl (zac (.inr rfl) (ev1 rfl)) ?_
  refine zaf ?_
  refine dwp_scope ?_
  refine zae ?_
  refine zae ?_
  refine zad ?_
  refine zab rfl rfl rfl (op_ldm rfl tb42 (ev1 rfl) rfl rfl) ?_
  refine zab rfl rfl rfl (op_pnilm rfl pt42 (ev1 rfl)) ?_
  refine zab rfl rfl rfl (zac (.inl rfl) (ev1 rfl)) ?_
  refine zaj (gd_f rfl rfl rfl) rfl rfl rfl (op_ldm rfl tb42 (ev1 rfl) rfl rfl) ?_
  refine zaj (gd_f rfl rfl rfl) rfl rfl rfl (op_pnilm rfl pt42 (ev2 rfl)) ?_
  refine zab rfl rfl rfl (op_or rfl (ev1 rfl) (ev3 rfl id)) ?_
  refine zaf ?_
  refine dwp_if_f rfl (by simp) ?_
  refine zal ?_
  refine zae ?_
  refine zae ?_
  refine dwp_draw [([0], []), ([], []), ([], []), ([], []), ([1], []), ([], []), ([], []), ([], []), ([], [])] mixed (by kernel_rfl) ?_
  refine zag rfl rfl (op_ldm rfl tb42 (ev1 rfl) rfl rfl) ?_
  refine zag rfl rfl (op_nc rfl (ev1 rfl) (fun s v h => by cases h; exact ⟨_, rfl⟩)) ?_
  refine zag rfl rfl (op_fadm rfl fo80_0 (ev1 rfl)) ?_
  refine zag rfl rfl (op_lddv [_, _] rfl tb77 (ev1 rfl) rfl rfl) ?_
  refine zag rfl rfl (op_ldm rfl tb42 (ev1 rfl) rfl rfl) ?_
  refine zag rfl rfl (op_nc rfl (ev1 rfl) (fun s v h => by cases h; exact ⟨_, rfl⟩)) ?_
  refine zag rfl rfl (op_fadm rfl fo80_0 (ev1 rfl)) ?_
  refine zag rfl rfl (op_lddv [_, _] rfl tb77 (ev1 rfl) rfl rfl) ?_
  refine zag rfl rfl (op_ner eq77 rfl gd77 tb77 (ev1 rfl) (ev1 rfl)) ?_
  refine lex_nil ?_
  refine dwp_if_f rfl (by simp) ?_
  refine zal ?_
  refine zae ?_
  refine zak 1 (by simp only [holes, List.cons_append, List.nil_append]; exact rfl) ?_
  refine zad ?_
  refine zan rfl rfl rfl (op_alloc 2 rfl zr4 rfl) (by simp only [upd, za, zaa]; exact rfl) ?_
  refine walk_s rfl rfl (op_stwb rfl tb4 (ev1 rfl) (ev1 rfl) rfl) (by simp only [upd, za, zaa]; exact rfl) ?_
  refine zaf ?_
  refine zae ?_
  refine dwp_label ?_
  refine zae ?_
  refine zae ?_
  refine zak 2 (by simp only [holes, List.cons_append, List.nil_append]; exact rfl) ?_
  refine zad ?_
  refine zab rfl rfl rfl (op_ldm rfl tb42 (ev1 rfl) rfl rfl) ?_
  refine zab rfl rfl rfl (op_nc rfl (ev1 rfl) (fun s v h => by cases h; exact ⟨_, rfl⟩)) ?_
  refine zab rfl rfl rfl (op_fadm rfl fo80_0 (ev1 rfl)) ?_
  refine zab rfl rfl rfl (op_lddv [_, _] rfl tb77 (ev1 rfl) rfl rfl) ?_
  refine zan rfl rfl rfl (zah [] [] [3, 4] rfl (ev1 rfl) (ec (ev1 rfl) en) rfl rfl (points_d w h ca.may) rfl rfl rfl rfl rfl rfl) (by simp only [upd, za, zaa]; exact rfl) ?_
  refine zaf ?_
  refine zam ?_
  refine dwp_hole ?_
  simp only [List.cons_append, List.nil_append]
  refine dwp_rf (FL := [(2, _), (3, _), (5, _)]) (st := (rst (sameF w h ts us))) (pe := (rpe (.exit 0) (sameF w h ts us))) [5, 0, 1, 2, 3, 4] [] [] 5 rfl rfl (ev1 rfl) rfl (subF_lk ⟨rfl, rfl, rfl, trivial⟩) rfl rfl rfl (pts_same w h da db ts us ra rb ca cb _) rfl rfl rfl rfl rfl rfl rfl (rst_busy _) (fun e => ?_) (fun c e => ?_)
  · simp only [upd, za, zaa]
    refine zae ?_
    refine zad ?_
    refine zab rfl rfl rfl (op_ldo rfl tb4 (ev1 rfl) rfl rfl) ?_
    refine zab rfl rfl rfl (zac (.inr rfl) (ev1 rfl)) ?_
    refine zaf ?_
    refine dwp_ret ?_
    refine kend0 (rs1 rfl (rv_t rfl)) rfl ?_
    rw [← sameF_iff ca cb]
    rfl
  · obtain ⟨e1, rfl⟩ : sameF w h ts us = false ∧ c = .exit 0 := by
      cases h : sameF w h ts us <;> simp_all [rpe]
    simp only [upd, za, zaa]
    refine dwp_exit ?_
    refine zae ?_
    refine zad ?_
    refine zab rfl rfl rfl (op_ldo rfl tb4 (ev1 rfl) rfl rfl) ?_
    refine zab rfl rfl rfl (zac (.inr rfl) (ev1 rfl)) ?_
    refine zaf ?_
    refine dwp_ret ?_
    refine kend0 (rs1 rfl (rv_t rfl)) rfl ?_
    rw [← sameF_iff ca cb]
    rfl
end Go.Proofs.Ytmpodnadoebclaa
namespace Go.Proofs.Ytmpodnadoebclaa
set_option maxRecDepth 4000
set_option linter.unusedVariables false
set_option linter.unusedSimpArgs false
open Go.RowKit
set_option maxRecDepth 4000 in
set_option maxHeartbeats 1000000 in
theorem refSite_d (n : Int) : DFun Try.prog 43 [.val (.int .i64 n)] [] (.val (.bool (isSt n))) [] := by
  refine zao (N := 9) 0 (by kernel_rfl) Try.func43 rfl rfl rfl (by simp only [fr0, Nat.zero_add, Nat.reduceAdd]; exact rfl) rfl fun s0 hs0 => ?_
  refine zae ?_
  refine zad ?_
  refine zab rfl rfl rfl (zac (.inr rfl) (ev1 rfl)) ?_
  refine zaf ?_
  refine zae ?_
  refine zad ?_
  refine zab rfl rfl rfl (zac (.inl rfl) (ev1 rfl)) ?_
  refine zab rfl rfl rfl (op_geq rfl (ev1 rfl) (ev1 rfl)) ?_
  refine zab rfl rfl rfl (zac (.inl rfl) (ev1 rfl)) ?_
  refine zaj (gd_t rfl rfl rfl) rfl rfl rfl (zac (.inl rfl) (ev1 rfl)) ?_
  refine zaj (gd_t rfl rfl rfl) rfl rfl rfl (op_leq rfl (ev2 rfl) (ev1 rfl)) ?_
  refine zab rfl rfl rfl (op_and rfl (ev1 rfl) (ev3 rfl id)) ?_
  refine zab rfl rfl rfl (zac (.inr rfl) (ev1 rfl)) ?_
  refine zaf ?_
  refine dwp_ret ?_
  refine kend0 (rs1 rfl (rv_t rfl)) rfl ?_
  rfl
set_option maxRecDepth 4000 in
set_option maxHeartbeats 1000000 in
theorem refRight_d (i : I3) : DFun Try.prog 14 [.val (.agg (idc i).toArray)] [] (.val (.bool (mayR i))) [] := by
  refine zao (N := 26) 0 (by kernel_rfl) Try.func14 rfl rfl rfl (by simp only [fr0, Nat.zero_add, Nat.reduceAdd]; exact rfl) rfl fun s0 hs0 => ?_
  refine zae ?_
  refine zak 1 (by simp only [holes, List.cons_append, List.nil_append]; exact rfl) ?_
  refine zad ?_
  refine zan rfl rfl rfl (op_boxa 0 rfl (ev1 rfl) rfl) (by simp only [upd, za, zaa]; exact rfl) ?_
  refine zab rfl rfl rfl (zac (.inr rfl) (ev1 rfl)) ?_
  refine zaf ?_
  refine zae ?_
  refine zad ?_
  refine zab rfl rfl rfl (op_fa rfl fo35_0 (ev1 rfl)) ?_
  refine zab rfl rfl rfl (op_ldo rfl tb33 (ev1 rfl) rfl rfl) ?_
  refine zab rfl rfl rfl (op_geq rfl (ev1 rfl) (ev1 rfl)) ?_
  refine zab rfl rfl rfl (zac (.inl rfl) (ev1 rfl)) ?_
  refine zaj (gd_t rfl rfl rfl) rfl rfl rfl (op_fa rfl fo35_0 (ev1 rfl)) ?_
  refine zaj (gd_t rfl rfl rfl) rfl rfl rfl (op_ldo rfl tb33 (ev2 rfl) rfl rfl) ?_
  refine zaj (gd_t rfl rfl rfl) rfl rfl rfl (op_leq rfl (ev2 rfl) (ev1 rfl)) ?_
  refine zab rfl rfl rfl (op_and rfl (ev1 rfl) (ev3 rfl id)) ?_
  refine zab rfl rfl rfl (zac (.inl rfl) (ev1 rfl)) ?_
  refine zaj (gd_t rfl rfl rfl) rfl rfl rfl (op_fa rfl fo35_1 (ev1 rfl)) ?_
  refine zaj (gd_t rfl rfl rfl) rfl rfl rfl (op_ldo rfl tb3 (ev2 rfl) rfl rfl) ?_
  refine zaj (gd_t rfl rfl rfl) rfl rfl rfl (zah [] [] [] rfl (ev1 rfl) (ec (ev2 rfl) en) rfl rfl (refSite_d _) rfl rfl rfl rfl rfl rfl) ?_
  refine zab rfl rfl rfl (op_and rfl (ev1 rfl) (ev3 rfl id)) ?_
  refine zab rfl rfl rfl (zac (.inl rfl) (ev1 rfl)) ?_
  refine zaj (gd_t rfl rfl rfl) rfl rfl rfl (op_fa rfl fo35_2 (ev1 rfl)) ?_
  refine zaj (gd_t rfl rfl rfl) rfl rfl rfl (op_ldo rfl tb33 (ev2 rfl) rfl rfl) ?_
  refine zaj (gd_t rfl rfl rfl) rfl rfl rfl (op_geq rfl (ev2 rfl) (ev1 rfl)) ?_
  refine zab rfl rfl rfl (op_and rfl (ev1 rfl) (ev3 rfl id)) ?_
  refine zab rfl rfl rfl (zac (.inl rfl) (ev1 rfl)) ?_
  refine zaj (gd_t rfl rfl rfl) rfl rfl rfl (op_fa rfl fo35_2 (ev1 rfl)) ?_
  refine zaj (gd_t rfl rfl rfl) rfl rfl rfl (op_ldo rfl tb33 (ev2 rfl) rfl rfl) ?_
  refine zaj (gd_t rfl rfl rfl) rfl rfl rfl (op_leq rfl (ev2 rfl) (ev1 rfl)) ?_
  refine zab rfl rfl rfl (op_and rfl (ev1 rfl) (ev3 rfl id)) ?_
  refine zab rfl rfl rfl (zac (.inr rfl) (ev1 rfl)) ?_
  refine zaf ?_
  refine dwp_ret ?_
  refine kend0 (rs1 rfl (rv_t rfl)) rfl ?_
  simp [mayR, isNum, Bool.and_assoc]
set_option maxRecDepth 4000 in
set_option maxHeartbeats 1000000 in
theorem refLess_d (a b : I3) : DFun Try.prog 54 [.val (.agg (idc a).toArray), .val (.agg (idc b).toArray)] [] (.val (.bool (lessR a b))) [] := by
  refine zao (N := 30) 0 (by kernel_rfl) Try.func54 rfl rfl rfl (by simp only [fr0, Nat.zero_add, Nat.reduceAdd]; exact rfl) rfl fun s0 hs0 => ?_
  refine zae ?_
  refine zak 2 (by simp only [holes, List.cons_append, List.nil_append]; exact rfl) ?_
  refine zad ?_
  refine zan rfl rfl rfl (op_boxa 0 rfl (ev1 rfl) rfl) (by simp only [upd, za, zaa]; exact rfl) ?_
  refine zan rfl rfl rfl (op_boxa 1 rfl (ev1 rfl) rfl) (by simp only [upd, za, zaa]; exact rfl) ?_
  refine zab rfl rfl rfl (zac (.inr rfl) (ev1 rfl)) ?_
  refine zaf ?_
  refine zae ?_
  refine zae ?_
  refine zad ?_
  refine zab rfl rfl rfl (op_fa rfl fo35_0 (ev1 rfl)) ?_
  refine zab rfl rfl rfl (op_ldo rfl tb33 (ev1 rfl) rfl rfl) ?_
  refine zab rfl rfl rfl (op_fa rfl fo35_0 (ev1 rfl)) ?_
  refine zab rfl rfl rfl (op_ldo rfl tb33 (ev1 rfl) rfl rfl) ?_
  refine zab rfl rfl rfl (op_neq rfl (ev1 rfl) (ev1 rfl)) ?_
  refine zaf ?_
  refine dwp_cond rfl (fun c1 => ?_) (fun c1 => ?_)
  · try simp only [decide_eq_true_eq, decide_eq_false_iff_not, beq_iff_eq, bne_iff_ne, beq_eq_false_iff_ne, bne_eq_false_iff_eq, Bool.not_eq_true', Bool.not_eq_false', Bool.and_eq_true, Bool.or_eq_true, Bool.or_eq_false_iff, ne_eq, Decidable.not_not, Int.not_lt, Int.not_le] at c1
    refine zae ?_
    refine zad ?_
    refine zab rfl rfl rfl (op_fa rfl fo35_0 (ev1 rfl)) ?_
    refine zab rfl rfl rfl (op_ldo rfl tb33 (ev1 rfl) rfl rfl) ?_
    refine zab rfl rfl rfl (op_fa rfl fo35_0 (ev1 rfl)) ?_
    refine zab rfl rfl rfl (op_ldo rfl tb33 (ev1 rfl) rfl rfl) ?_
    refine zab rfl rfl rfl (op_lss rfl (ev1 rfl) (ev1 rfl)) ?_
    refine zab rfl rfl rfl (zac (.inr rfl) (ev1 rfl)) ?_
    refine zaf ?_
    refine dwp_ret ?_
    refine kend0 (rs1 rfl (rv_t rfl)) rfl ?_
    simp_all [lessR]
  · try simp only [decide_eq_true_eq, decide_eq_false_iff_not, beq_iff_eq, bne_iff_ne, beq_eq_false_iff_ne, bne_eq_false_iff_eq, Bool.not_eq_true', Bool.not_eq_false', Bool.and_eq_true, Bool.or_eq_true, Bool.or_eq_false_iff, ne_eq, Decidable.not_not, Int.not_lt, Int.not_le] at c1
    refine zal ?_
    refine zae ?_
    refine zae ?_
    refine zad ?_
    refine zab rfl rfl rfl (op_fa rfl fo35_1 (ev1 rfl)) ?_
    refine zab rfl rfl rfl (op_ldo rfl tb3 (ev1 rfl) rfl rfl) ?_
    refine zab rfl rfl rfl (op_fa rfl fo35_1 (ev1 rfl)) ?_
    refine zab rfl rfl rfl (op_ldo rfl tb3 (ev1 rfl) rfl rfl) ?_
    refine zab rfl rfl rfl (op_neq rfl (ev1 rfl) (ev1 rfl)) ?_
    refine zaf ?_
    refine dwp_cond rfl (fun c2 => ?_) (fun c2 => ?_)
    · try simp only [decide_eq_true_eq, decide_eq_false_iff_not, beq_iff_eq, bne_iff_ne, beq_eq_false_iff_ne, bne_eq_false_iff_eq, Bool.not_eq_true', Bool.not_eq_false', Bool.and_eq_true, Bool.or_eq_true, Bool.or_eq_false_iff, ne_eq, Decidable.not_not, Int.not_lt, Int.not_le] at c2
      refine zae ?_
      refine zad ?_
      refine zab rfl rfl rfl (op_fa rfl fo35_1 (ev1 rfl)) ?_
      refine zab rfl rfl rfl (op_ldo rfl tb3 (ev1 rfl) rfl rfl) ?_
      refine zab rfl rfl rfl (op_fa rfl fo35_1 (ev1 rfl)) ?_
      refine zab rfl rfl rfl (op_ldo rfl tb3 (ev1 rfl) rfl rfl) ?_
      refine zab rfl rfl rfl (op_lss rfl (ev1 rfl) (ev1 rfl)) ?_
      refine zab rfl rfl rfl (zac (.inr rfl) (ev1 rfl)) ?_
      refine zaf ?_
      refine dwp_ret ?_
      refine kend0 (rs1 rfl (rv_t rfl)) rfl ?_
      simp_all [lessR]
    · try simp only [decide_eq_true_eq, decide_eq_false_iff_not, beq_iff_eq, bne_iff_ne, beq_eq_false_iff_ne, bne_eq_false_iff_eq, Bool.not_eq_true', Bool.not_eq_false', Bool.and_eq_true, Bool.or_eq_true, Bool.or_eq_false_iff, ne_eq, Decidable.not_not, Int.not_lt, Int.not_le] at c2
      refine zal ?_
      refine zae ?_
      refine zad ?_
      refine zab rfl rfl rfl (op_fa rfl fo35_2 (ev1 rfl)) ?_
      refine zab rfl rfl rfl (op_ldo rfl tb33 (ev1 rfl) rfl rfl) ?_
      refine zab rfl rfl rfl (op_fa rfl fo35_2 (ev1 rfl)) ?_
      refine zab rfl rfl rfl (op_ldo rfl tb33 (ev1 rfl) rfl rfl) ?_
      refine zab rfl rfl rfl (op_lss rfl (ev1 rfl) (ev1 rfl)) ?_
      refine zab rfl rfl rfl (zac (.inr rfl) (ev1 rfl)) ?_
      refine zaf ?_
      refine dwp_ret ?_
      refine kend0 (rs1 rfl (rv_t rfl)) rfl ?_
      simp_all [lessR]
end Go.Proofs.Ytmpodnadoebclaa
namespace Go.Proofs.Ytmpodnadoebclaa
set_option maxRecDepth 4000
set_option linter.unusedVariables false
set_option linter.unusedSimpArgs false
open Go.RowKit
set_option maxRecDepth 4000 in
set_option maxHeartbeats 1000000 in
theorem told_belv (l : List Mk) (h : l.length ≤ 5000) (i : I3) (hc : chkM l = false) : DFun Try.prog 78 [.yld 0, .loc 4 0] [.lp 23 [(3, .loc 1 0), (6, .loc 2 0), (7, .loc 3 0)] #[13, 14] belA belB .ready none, .flat 35 (idc i), .mix 44 ([.val (.int .u64 0), .val (.int .i64 0), .val (.int .u64 0), .val (.pointer none)]), .flat 4 [.bool false], .mix 26 [.slm 4 (l).length ((l).flatMap mkC)]] (.tup []) [.lp 23 [(3, .loc 1 0), (6, .loc 2 0), (7, .loc 3 0)] #[13, 14] belA belB .ready none, .flat 35 (idc i), .mix 44 ([.val (.int .u64 0), .val (.int .i64 0), .val (.int .u64 0), .val (.pointer none)]), .flat 4 [.bool false], .mix 26 [.slm 4 (l).length ((l).flatMap mkC)]] := by
  refine zao (N := 21) 5 (by kernel_rfl) Try.func78 rfl rfl rfl (by simp only [fr0, Nat.zero_add, Nat.reduceAdd]; exact rfl) rfl fun s0 hs0 => ?_
  refine zae ?_
  refine zae ?_
  refine zad ?_
  refine zab rfl rfl rfl (op_ldm rfl tb26 (ev1 rfl) rfl rfl) ?_
  refine zab rfl rfl rfl (zah [] [] [] rfl (ev1 rfl) (ec (ev1 rfl) en) rfl rfl (mcheck_d _ (by omega)) rfl rfl rfl rfl rfl rfl) ?_
  refine zab rfl rfl rfl (op_neq rfl (ev1 rfl) (ev1 rfl)) ?_
  refine zaf ?_
  refine dwp_if_t rfl (by rw [hc]; rfl) ?_
  refine dwp_ret ?_
  refine kend [0, 1, 2, 3, 4] (res_none rfl) rfl rfl ?_ ⟨rfl, rfl, rfl, rfl, rfl, trivial⟩
  rfl
set_option maxRecDepth 4000 in
set_option maxHeartbeats 1000000 in
theorem below_v (l : List Mk) (h : l.length ≤ 5000) (i : I3) (hc : chkM l = false) : DFun Try.prog 21 [.slm 4 (l).length ((l).flatMap mkC), .val (.agg (idc i).toArray)] [] (.tup [.agg [.val (.int .u64 0), .val (.int .i64 0), .val (.int .u64 0), .val (.pointer none)], .val (.bool false)]) [] := by
  refine zao (N := 23) 0 (by kernel_rfl) Try.func21 rfl rfl rfl (by simp only [fr0, Nat.zero_add, Nat.reduceAdd]; exact rfl) rfl fun s0 hs0 => ?_
  refine dwp_lenm (t := 0) rfl fun hl0 hL0 => ?_
  refine zae ?_
  refine zak 2 (by simp only [holes, List.cons_append, List.nil_append]; exact rfl) ?_
  refine zad ?_
  refine zan rfl rfl rfl (op_boxa 0 rfl (ev1 rfl) rfl) (by simp only [upd, za, zaa]; exact rfl) ?_
  refine zan rfl rfl rfl (op_alloc 1 rfl zr44 rfl) (by simp only [upd, za, zaa]; exact rfl) ?_
  refine zab rfl rfl rfl (zac (.inr rfl) (ev1 rfl)) ?_
  refine zaf ?_
  refine dwp_scope ?_
  refine zae ?_
  refine zak 2 (by simp only [holes, List.cons_append, List.nil_append]; exact rfl) ?_
  refine zad ?_
  refine zab rfl rfl rfl (op_build0 rfl fl44 zr44) ?_
  refine zan rfl rfl rfl (op_alloc 2 rfl zr44 rfl) (by simp only [upd, za, zaa]; exact rfl) ?_
  refine zan rfl rfl rfl (op_alloc 3 rfl zr4 rfl) (by simp only [upd, za, zaa]; exact rfl) ?_
  refine walk_s rfl rfl (op_stwa rfl tb44 (ev1 rfl) (ev1 rfl) rfl rfl rfl rfl) (by simp only [upd, za, zaa]; exact rfl) ?_
  refine walk_s rfl rfl (op_stwb rfl tb4 (ev1 rfl) (ev1 rfl) rfl) (by simp only [upd, za, zaa]; exact rfl) ?_
  refine zaf ?_
  refine zae ?_
  refine dwp_label ?_
  refine zae ?_
  refine zae ?_
  refine zak 1 (by simp only [holes, List.cons_append, List.nil_append]; exact rfl) ?_
  refine zad ?_
  refine zab rfl rfl rfl (zac (.inl rfl) (ev1 rfl)) ?_
  refine zan rfl rfl rfl (zah [] [] [4] rfl (ev1 rfl) (ec (ev1 rfl) en) rfl rfl (told_d l) rfl rfl rfl rfl rfl rfl) (by simp only [upd, za, zaa]; exact rfl) ?_
  refine zaf ?_
  refine zam ?_
  refine dwp_reb 2 reb_mix rfl rfl (by simp only [List.cons_append, List.nil_append, za, zaa, List.map]; exact rfl) ?_
  refine dwp_hole ?_
  simp only [List.cons_append, List.nil_append]
  refine dwp_rf (FL := [(3, _), (6, _), (7, _)]) (st := .ready) (pe := none) [5, 0, 2, 3, 4] [] [] 5 rfl rfl (ev1 rfl) rfl (subF_lk ⟨rfl, rfl, rfl, trivial⟩) rfl rfl rfl (told_belv l h i hc) rfl rfl rfl rfl rfl rfl rfl (by simp) (fun e => ?_) (fun c e => ?_)
  · simp only [upd, za, zaa]
    refine zae ?_
    refine dwp_draw [([2], []), ([3], []), ([1], [1]), ([], [])] mixed (by kernel_rfl) ?_
    refine zag rfl rfl (op_ldmw rfl tb44 (ev1 rfl) rfl rfl) ?_
    refine zag rfl rfl (op_ldo rfl tb4 (ev1 rfl) rfl rfl) ?_
    refine lex_s rfl rfl (op_stam rfl tb44 (ev1 rfl) (ev1 rfl) rfl rfl rfl rfl) rfl (by simp only [upd, za, zaa]; exact rfl) ?_
    refine zag rfl rfl (zac (.inr rfl) (ev1 rfl)) ?_
    refine lex_nil ?_
    refine dwp_ret ?_
    refine kend0 (rs2 rfl (rv_mw tb44 rfl rfl rfl) (rv_t rfl)) rfl ?_
    rfl
  · cases e
end Go.Proofs.Ytmpodnadoebclaa
namespace Go.Proofs.Ytmpodnadoebclaa
set_option maxRecDepth 4000
set_option linter.unusedVariables false
set_option linter.unusedSimpArgs false
open Go.RowKit
def rsN (l : List I3) : Nat → Bool
  | 0 => true
  | k + 1 => rsN l k && (mayR (l.getD k zI3) && (decide (k = 0) || lessR (l.getD (k - 1) zI3) (l.getD k zI3)))
def rsB (l : List I3) : Bool := rsN l l.length
theorem rsN_no {l : List I3} : ∀ (n k : Nat), k < n → (mayR (l.getD k zI3) && (decide (k = 0) || lessR (l.getD (k - 1) zI3) (l.getD k zI3))) = false → rsN l n = false
  | 0, k, h, _ => absurd h (by omega)
  | n + 1, k, h, hl => by
    unfold rsN
    by_cases e : k = n
    · subst e; rw [hl, Bool.and_false]
    · rw [rsN_no n k (by omega) hl, Bool.false_and]
theorem rsN_split {l : List I3} : ∀ n, n ≤ l.length → rsN l n = ((l.take n).all mayR && risN l n)
  | 0, _ => rfl
  | 1, h => by
    rw [rsN, rsN, List.take_succ_eq_append_getElem (by omega), gI (by omega)]
    simp [risN]
  | n + 2, h => by
    rw [rsN, rsN_split (n + 1) (by omega), List.take_succ_eq_append_getElem (i := n + 1) (by omega), List.all_append, risN, gI (k := n + 1) (by omega)]
    rw [Nat.add_sub_cancel, decide_eq_false (Nat.succ_ne_zero n), Bool.false_or, List.all_cons, List.all_nil, Bool.and_true]
    cases (l.take (n + 1)).all mayR <;> cases risN l (n + 1) <;> cases mayR l[n + 1] <;> simp
theorem rsB_ok {l : List I3} : rsB l = true ↔ okI l := by
  unfold rsB
  rw [rsN_split _ (Nat.le_refl _), List.take_length, Bool.and_eq_true]
  constructor
  · rintro ⟨h1, h2⟩; exact (ris_ok h1).1 h2
  · intro h
    have h1 : l.all mayR = true := List.all_eq_true.2 h.1
    exact ⟨h1, (ris_ok h1).2 h⟩
def rtB (l : List I3) : Bool := rsB l && decide (l.length ≤ 6)
theorem rtB_ok {l : List I3} : rtB l = true ↔ l.length ≤ 6 ∧ okI l := by
  unfold rtB
  rw [Bool.and_eq_true, rsB_ok, decide_eq_true_eq]
  exact And.comm
theorem chk_rt (l : List Mk) : chkM l = rtB (idsK l) := by
  rw [Bool.eq_iff_iff, chk_ok, rtB_ok, List.length_map]
set_option maxRecDepth 4000 in
set_option maxHeartbeats 1000000 in
theorem rises_d (l : List I3) : DFun Try.prog 26 [.slf 3 l.length (l.flatMap idc)] [] (.val (.bool (rsB l))) [] := by
  refine zao (N := 30) 0 (by kernel_rfl) Try.func26 rfl rfl rfl (by simp only [fr0, Nat.zero_add, Nat.reduceAdd]; exact rfl) rfl fun s0 hs0 => ?_
  refine dwp_len (t := 0) rfl fun hl0 hL0 => ?_
  refine zae ?_
  refine zad ?_
  refine zab rfl rfl rfl (zac (.inr rfl) (ev1 rfl)) ?_
  refine zaf ?_
  refine zae ?_
  refine zae ?_
  refine zad ?_
  refine zab rfl rfl rfl (zac (.inl rfl) (ev1 rfl)) ?_
  refine zab rfl rfl rfl (op_len rfl sl22 (ev1 rfl)) ?_
  refine zab rfl rfl rfl (zac (.inl rfl) (ev1 rfl)) ?_
  refine zaf ?_
  refine zam ?_
  refine dwp_loopS ⟨hs0, rfl⟩ (α := Nat) (fun k => [(7, .val (.int .i64 (k : Int)))]) [(0, _), (5, _), (6, _)] (fun k => []) [] (fun k => k ≤ l.length ∧ rsN l k = true) (fun k => l.length - k) 0 [] (⟨Nat.zero_le _, rfl⟩) rfl ⟨rfl, rfl, rfl, trivial⟩ ⟨rfl, trivial⟩ trivial ?_
  intro k hx
  simp only [upd, za, zaa, List.cons_append, List.nil_append]
  obtain ⟨hk, he⟩ := hx
  refine zae ?_
  refine zad ?_
  refine zab rfl rfl rfl (op_lss rfl (ev1 rfl) (ev1 rfl)) ?_
  refine zaf ?_
  refine zae ?_
  refine dwp_cond rfl (fun c1 => ?_) (fun c1 => ?_)
  · try simp only [decide_eq_true_eq, decide_eq_false_iff_not, beq_iff_eq, bne_iff_ne, beq_eq_false_iff_ne, bne_eq_false_iff_eq, Bool.not_eq_true', Bool.not_eq_false', Bool.and_eq_true, Bool.or_eq_true, Bool.or_eq_false_iff, ne_eq, Decidable.not_not, Int.not_lt, Int.not_le] at c1
    refine zal ?_
    refine zae ?_
    refine zam ?_
    refine zae ?_
    refine zak 1 (by simp only [holes, List.cons_append, List.nil_append]; exact rfl) ?_
    refine zad ?_
    refine zab rfl rfl rfl (zac (.inl rfl) (ev1 rfl)) ?_
    refine zab rfl rfl rfl (op_ixsr (j := k) rfl sl22 (ev1 rfl) (ev1 rfl) (fun _ => rfl) (by decide) (by omega) (by omega)) ?_
    refine zab rfl rfl rfl (op_ldwd rfl tb35 (ev1 rfl) rfl) ?_
    refine zan rfl rfl rfl (op_alloc 0 rfl zr35 rfl) (by simp only [upd, za, zaa]; exact rfl) ?_
    refine zab rfl rfl rfl (zac (.inr rfl) (ev1 rfl)) ?_
    refine walk_s rfl rfl (op_stwa rfl tb35 (ev1 rfl) (ev1 rfl) rfl rfl rfl rfl) (by simp only [upd, za, zaa]; exact rfl) ?_
    refine zaf ?_
    refine zae ?_
    have hkl : k < l.length := by omega
    refine dwp_draw [([0], []), ([], []), ([], []), ([], []), ([], []), ([], []), ([], []), ([], []), ([], []), ([], []), ([], []), ([], []), ([0], []), ([], []), ([], []), ([], []), ([], [])] mixed (by kernel_rfl) ?_
    refine zag rfl rfl (op_ldw rfl tb35 (ev1 rfl) rfl rfl) ?_
    refine zag rfl rfl (zah [] [] [] rfl (ev1 rfl) (ec (ev1 rfl) en) rfl rfl (refRight_d _) rfl rfl rfl rfl rfl rfl) ?_
    refine zag rfl rfl (op_not rfl (ev1 rfl)) ?_
    refine zag rfl rfl (zac (.inl rfl) (ev1 rfl)) ?_
    refine zai (gd_f rfl rfl rfl) rfl rfl (zac (.inl rfl) (ev1 rfl)) ?_
    refine zai (gd_f rfl rfl rfl) rfl rfl (op_gtr rfl (ev2 rfl) (ev1 rfl)) ?_
    refine zai (gd_f rfl rfl rfl) rfl rfl (zac (.inl rfl) (ev2 rfl)) ?_
    refine zai (gd_tt rfl rfl rfl) rfl rfl (zac (.inl rfl) (ev1 rfl)) ?_
    refine zai (gd_tt rfl rfl rfl) rfl rfl (zac (.inl rfl) (ev1 rfl)) ?_
    refine zai (gd_tt rfl rfl rfl) rfl rfl (op_sub' rfl (ev2 rfl) (ev1 rfl) (fun hp => IntWalk.i64_in _ (by first | omega | (simp at hp; omega)))) ?_
    refine zai (gd_tt rfl rfl rfl) rfl rfl (op_ixsg (j := k - 1) (zI3) rfl sl22 (ev2 rfl) (ev2 rfl) (fun _ => rfl) (by decide) (fun hp => by first | omega | (simp at hp; omega)) (fun hp => by first | omega | (simp at hp; omega))) ?_
    refine zai (gd_tt rfl rfl rfl) rfl rfl (op_ldwd rfl tb35 (ev2 rfl) rfl) ?_
    refine zai (gd_tt rfl rfl rfl) rfl rfl (op_ldw rfl tb35 (ev1 rfl) rfl rfl) ?_
    refine zai (gd_tt rfl rfl rfl) rfl rfl (zah [] [] [] rfl (ev1 rfl) (ec (ev2 rfl) (ec (ev2 rfl) en)) rfl rfl (refLess_d _ _) rfl rfl rfl rfl rfl rfl) ?_
    refine zai (gd_tt rfl rfl rfl) rfl rfl (op_not rfl (ev2 rfl)) ?_
    refine zai (gd_f rfl rfl rfl) rfl rfl (op_and rfl (ev2 rfl) (ev2 rfl)) ?_
    refine zag rfl rfl (op_or rfl (ev1 rfl) (ev3 rfl id)) ?_
    refine lex_nil ?_
    refine dwp_cond rfl (fun c2 => ?_) (fun c2 => ?_)
    · have e0 : decide (0 < (k : Int)) = !decide (k = 0) := by
        rw [Bool.eq_iff_iff, Bool.not_eq_true', decide_eq_true_eq, decide_eq_false_iff_not]
        omega
      have c3 : (mayR (l.getD k zI3) && (decide (k = 0) || lessR (l.getD (k - 1) zI3) (l.getD k zI3))) = false := by
        rw [gI (k := k) (by omega)]
        rw [e0] at c2
        generalize lessR (l.getD (k - 1) zI3) l[k] = z at c2 ⊢
        generalize mayR l[k] = y at c2 ⊢
        generalize decide (k = 0) = x at c2 ⊢
        cases x <;> cases y <;> cases z <;> simp_all
      refine zae ?_
      refine zad ?_
      refine zab rfl rfl rfl (zac (.inr rfl) (ev1 rfl)) ?_
      refine zaf ?_
      refine dwp_ret ?_
      refine kend0 (rs1 rfl (rv_t rfl)) rfl ?_
      first | (rw [show rsB l = false from rsN_no l.length k (by omega) c3]) | (rw [show rsB l = true by unfold rsB; rw [show l.length = k by omega]; exact he])
    · have e0 : decide (0 < (k : Int)) = !decide (k = 0) := by
        rw [Bool.eq_iff_iff, Bool.not_eq_true', decide_eq_true_eq, decide_eq_false_iff_not]
        omega
      have c3 : (mayR (l.getD k zI3) && (decide (k = 0) || lessR (l.getD (k - 1) zI3) (l.getD k zI3))) = true := by
        rw [gI (k := k) (by omega)]
        rw [e0] at c2
        generalize lessR (l.getD (k - 1) zI3) l[k] = z at c2 ⊢
        generalize mayR l[k] = y at c2 ⊢
        generalize decide (k = 0) = x at c2 ⊢
        cases x <;> cases y <;> cases z <;> simp_all
      refine zal ?_
      refine zad ?_
      refine zab rfl rfl rfl (op_add' rfl (ev1 rfl) (ev1 rfl) (fun _ => IntWalk.i64_in _ (by omega))) ?_
      refine zab rfl rfl rfl (zac (.inl rfl) (ev1 rfl)) ?_
      refine zaf ?_
      refine ⟨k + 1, [], ⟨by omega, by rw [rsN, he, c3]; rfl⟩, by simp only []; omega, rfl, ⟨rfl, rfl, rfl, rfl, trivial⟩, trivial⟩
  · try simp only [decide_eq_true_eq, decide_eq_false_iff_not, beq_iff_eq, bne_iff_ne, beq_eq_false_iff_ne, bne_eq_false_iff_eq, Bool.not_eq_true', Bool.not_eq_false', Bool.and_eq_true, Bool.or_eq_true, Bool.or_eq_false_iff, ne_eq, Decidable.not_not, Int.not_lt, Int.not_le] at c1
    refine dwp_exit ?_
    refine zae ?_
    refine zad ?_
    refine zab rfl rfl rfl (zac (.inr rfl) (ev1 rfl)) ?_
    refine zaf ?_
    refine dwp_ret ?_
    refine kend0 (rs1 rfl (rv_t rfl)) rfl ?_
    first | (rw [show rsB l = false from rsN_no l.length k (by omega) c3]) | (rw [show rsB l = true by unfold rsB; rw [show l.length = k by omega]; exact he])
set_option maxRecDepth 4000 in
set_option maxHeartbeats 1000000 in
theorem rright_d (l : List I3) : DFun Try.prog 11 [.slf 3 l.length (l.flatMap idc)] [] (.val (.bool (rtB l))) [] := by
  refine zao (N := 10) 0 (by kernel_rfl) Try.func11 rfl rfl rfl (by simp only [fr0, Nat.zero_add, Nat.reduceAdd]; exact rfl) rfl fun s0 hs0 => ?_
  refine dwp_len (t := 0) rfl fun hl0 hL0 => ?_
  refine zae ?_
  refine zad ?_
  refine zab rfl rfl rfl (zac (.inr rfl) (ev1 rfl)) ?_
  refine zaf ?_
  refine zae ?_
  refine zad ?_
  refine zab rfl rfl rfl (zac (.inl rfl) (ev1 rfl)) ?_
  refine zab rfl rfl rfl (zah [] [] [] rfl (ev1 rfl) (ec (ev1 rfl) en) rfl rfl (rises_d _) rfl rfl rfl rfl rfl rfl) ?_
  refine zab rfl rfl rfl (zac (.inl rfl) (ev1 rfl)) ?_
  refine zaj (gd_t rfl rfl rfl) rfl rfl rfl (zac (.inl rfl) (ev1 rfl)) ?_
  refine zaj (gd_t rfl rfl rfl) rfl rfl rfl (op_len rfl sl22 (ev2 rfl)) ?_
  refine zaj (gd_t rfl rfl rfl) rfl rfl rfl (op_leq rfl (ev2 rfl) (ev1 rfl)) ?_
  refine zab rfl rfl rfl (op_and rfl (ev1 rfl) (ev3 rfl id)) ?_
  refine zab rfl rfl rfl (zac (.inr rfl) (ev1 rfl)) ?_
  refine zaf ?_
  refine dwp_ret ?_
  refine kend0 (rs1 rfl (rv_t rfl)) rfl ?_
  unfold rtB
  rw [show decide ((l.length : Int) ≤ 6) = decide (l.length ≤ 6) by rw [Bool.eq_iff_iff, decide_eq_true_eq, decide_eq_true_eq]; omega]
theorem plI_take {l : List I3} {i : I3} {k : Nat} (h : k < l.length) : plI (l.take (k + 1)) i = plI (l.take k) i + if lessR l[k] i = true then 1 else 0 := by
  unfold plI
  rw [filt_take h, List.length_append]
  split <;> rfl
theorem mem_take {l : List I3} {i : I3} {k : Nat} (h : k < l.length) : decide (i ∈ l.take (k + 1)) = (decide (i ∈ l.take k) || decide (l[k] = i)) := by
  rw [List.take_succ_eq_append_getElem h, Bool.eq_iff_iff, Bool.or_eq_true, decide_eq_true_eq, decide_eq_true_eq, decide_eq_true_eq, List.mem_append, List.mem_singleton]
  exact or_congr Iff.rfl ⟨Eq.symm, Eq.symm⟩
set_option maxRecDepth 4000 in
set_option maxHeartbeats 1000000 in
theorem place_d (l : List I3) (i : I3) : DFun Try.prog 44 [.slf 3 l.length (l.flatMap idc), .val (.agg (idc i).toArray)] [] (.tup [.val (.int .i64 (plI l i : Int)), .val (.bool (decide (i ∈ l)))]) [] := by
  refine zao (N := 30) 0 (by kernel_rfl) Try.func44 rfl rfl rfl (by simp only [fr0, Nat.zero_add, Nat.reduceAdd]; exact rfl) rfl fun s0 hs0 => ?_
  refine dwp_len (t := 0) rfl fun hl0 hL0 => ?_
  refine zae ?_
  refine zak 1 (by simp only [holes, List.cons_append, List.nil_append]; exact rfl) ?_
  refine zad ?_
  refine zan rfl rfl rfl (op_boxa 0 rfl (ev1 rfl) rfl) (by simp only [upd, za, zaa]; exact rfl) ?_
  refine zab rfl rfl rfl (zac (.inr rfl) (ev1 rfl)) ?_
  refine zab rfl rfl rfl (zac (.inr rfl) (ev1 rfl)) ?_
  refine zaf ?_
  refine zae ?_
  refine zad ?_
  refine zab rfl rfl rfl (zac (.inr rfl) (ev1 rfl)) ?_
  refine zab rfl rfl rfl (zac (.inr rfl) (ev1 rfl)) ?_
  refine zaf ?_
  refine zae ?_
  refine zae ?_
  refine zad ?_
  refine zab rfl rfl rfl (zac (.inl rfl) (ev1 rfl)) ?_
  refine zab rfl rfl rfl (op_len rfl sl22 (ev1 rfl)) ?_
  refine zab rfl rfl rfl (zac (.inl rfl) (ev1 rfl)) ?_
  refine zaf ?_
  refine zam ?_
  refine dwp_loopS ⟨hs0, rfl⟩ (α := Nat) (fun k => [(6, .val (.int .i64 (plI (l.take k) i : Int))), (7, .val (.bool (decide (i ∈ l.take k)))), (12, .val (.int .i64 (k : Int)))]) [(3, _), (10, _), (11, _)] (fun k => []) [_] (fun k => k ≤ l.length) (fun k => l.length - k) 0 [0] (Nat.zero_le _) rfl ⟨rfl, rfl, rfl, trivial⟩ ⟨rfl, by rw [List.take_zero, decide_eq_false (by simp)]; rfl, rfl, trivial⟩ ⟨rfl, trivial⟩ ?_
  intro k hx
  simp only [upd, za, zaa, List.cons_append, List.nil_append]
  have hk := hx
  have hpl := plI_le (l.take k) i
  rw [List.length_take] at hpl
  refine zae ?_
  refine zad ?_
  refine zab rfl rfl rfl (op_lss rfl (ev1 rfl) (ev1 rfl)) ?_
  refine zaf ?_
  refine zae ?_
  refine dwp_cond rfl (fun c1 => ?_) (fun c1 => ?_)
  · try simp only [decide_eq_true_eq, decide_eq_false_iff_not, beq_iff_eq, bne_iff_ne, beq_eq_false_iff_ne, bne_eq_false_iff_eq, Bool.not_eq_true', Bool.not_eq_false', Bool.and_eq_true, Bool.or_eq_true, Bool.or_eq_false_iff, ne_eq, Decidable.not_not, Int.not_lt, Int.not_le] at c1
    refine zal ?_
    refine zae ?_
    refine zam ?_
    refine zae ?_
    refine zak 1 (by simp only [holes, List.cons_append, List.nil_append]; exact rfl) ?_
    refine zad ?_
    refine zab rfl rfl rfl (op_ixsr (j := k) rfl sl22 (ev1 rfl) (ev1 rfl) (fun _ => rfl) (by decide) (by omega) (by omega)) ?_
    refine zab rfl rfl rfl (op_ldwd rfl tb35 (ev1 rfl) rfl) ?_
    refine zan rfl rfl rfl (op_alloc 1 rfl zr35 rfl) (by simp only [upd, za, zaa]; exact rfl) ?_
    refine walk_s rfl rfl (op_stwa rfl tb35 (ev1 rfl) (ev1 rfl) rfl rfl rfl rfl) (by simp only [upd, za, zaa]; exact rfl) ?_
    refine zaf ?_
    refine zae ?_
    refine zae ?_
    refine zad ?_
    refine zab rfl rfl rfl (op_ldw rfl tb35 (ev1 rfl) rfl rfl) ?_
    refine zab rfl rfl rfl (op_ldw rfl tb35 (ev1 rfl) rfl rfl) ?_
    refine zab rfl rfl rfl (zah [] [] [] rfl (ev1 rfl) (ec (ev1 rfl) (ec (ev1 rfl) en)) rfl rfl (refLess_d _ _) rfl rfl rfl rfl rfl rfl) ?_
    refine zaf ?_
    refine dwp_cond rfl (fun c2 => ?_) (fun c2 => ?_)
    · have c3 : lessR l[k] i = true := c2
      refine zad ?_
      refine zab rfl rfl rfl (zac (.inl rfl) (ev1 rfl)) ?_
      refine zab rfl rfl rfl (op_add' rfl (ev1 rfl) (ev1 rfl) (fun _ => IntWalk.i64_in _ (by omega))) ?_
      refine zab rfl rfl rfl (zac (.inr rfl) (ev1 rfl)) ?_
      refine zaf ?_
      refine zad ?_
      refine zab rfl rfl rfl (zac (.inl rfl) (ev1 rfl)) ?_
      refine zab rfl rfl rfl (zac (.inl rfl) (ev1 rfl)) ?_
      refine zaj (gd_f rfl rfl rfl) rfl rfl rfl (op_ldw rfl tb35 (ev1 rfl) rfl rfl) ?_
      refine zaj (gd_f rfl rfl rfl) rfl rfl rfl (op_ldw rfl tb35 (ev1 rfl) rfl rfl) ?_
      refine zaj (gd_f rfl rfl rfl) rfl rfl rfl (op_eqr eq35 rfl gd35 tb35 (ev2 rfl) (ev2 rfl)) ?_
      refine zab rfl rfl rfl (op_or rfl (ev1 rfl) (ev3 rfl id)) ?_
      refine zab rfl rfl rfl (zac (.inr rfl) (ev1 rfl)) ?_
      refine zaf ?_
      refine zad ?_
      refine zab rfl rfl rfl (op_add' rfl (ev1 rfl) (ev1 rfl) (fun _ => IntWalk.i64_in _ (by omega))) ?_
      refine zab rfl rfl rfl (zac (.inl rfl) (ev1 rfl)) ?_
      refine zaf ?_
      refine ⟨k + 1, [0], by omega, by simp only []; omega, rfl, ⟨by rw [plI_take (by omega), if_pos c3]; rfl, by rw [mem_take (by omega)]; rfl, rfl, rfl, rfl, rfl, trivial⟩, ⟨rfl, trivial⟩⟩
    · have c3 : ¬ lessR l[k] i = true := by rw [c2]; decide
      refine zal ?_
      refine zad ?_
      refine zab rfl rfl rfl (zac (.inl rfl) (ev1 rfl)) ?_
      refine zab rfl rfl rfl (zac (.inl rfl) (ev1 rfl)) ?_
      refine zaj (gd_f rfl rfl rfl) rfl rfl rfl (op_ldw rfl tb35 (ev1 rfl) rfl rfl) ?_
      refine zaj (gd_f rfl rfl rfl) rfl rfl rfl (op_ldw rfl tb35 (ev1 rfl) rfl rfl) ?_
      refine zaj (gd_f rfl rfl rfl) rfl rfl rfl (op_eqr eq35 rfl gd35 tb35 (ev2 rfl) (ev2 rfl)) ?_
      refine zab rfl rfl rfl (op_or rfl (ev1 rfl) (ev3 rfl id)) ?_
      refine zab rfl rfl rfl (zac (.inr rfl) (ev1 rfl)) ?_
      refine zaf ?_
      refine zad ?_
      refine zab rfl rfl rfl (op_add' rfl (ev1 rfl) (ev1 rfl) (fun _ => IntWalk.i64_in _ (by omega))) ?_
      refine zab rfl rfl rfl (zac (.inl rfl) (ev1 rfl)) ?_
      refine zaf ?_
      refine ⟨k + 1, [0], by omega, by simp only []; omega, rfl, ⟨by rw [plI_take (by omega), if_neg c3]; rfl, by rw [mem_take (by omega)]; rfl, rfl, rfl, rfl, rfl, trivial⟩, ⟨rfl, trivial⟩⟩
  · try simp only [decide_eq_true_eq, decide_eq_false_iff_not, beq_iff_eq, bne_iff_ne, beq_eq_false_iff_ne, bne_eq_false_iff_eq, Bool.not_eq_true', Bool.not_eq_false', Bool.and_eq_true, Bool.or_eq_true, Bool.or_eq_false_iff, ne_eq, Decidable.not_not, Int.not_lt, Int.not_le] at c1
    refine dwp_exit ?_
    refine zae ?_
    refine zad ?_
    refine zab rfl rfl rfl (zac (.inl rfl) (ev1 rfl)) ?_
    refine zab rfl rfl rfl (zac (.inl rfl) (ev1 rfl)) ?_
    refine zab rfl rfl rfl (zac (.inr rfl) (ev1 rfl)) ?_
    refine zab rfl rfl rfl (zac (.inr rfl) (ev1 rfl)) ?_
    refine zaf ?_
    refine dwp_ret ?_
    refine kend0 (rs2 rfl (rv_t rfl) (rv_t rfl)) rfl ?_
    rw [List.take_of_length_le (by omega)]
set_option maxRecDepth 4000 in
set_option maxHeartbeats 1000000 in
theorem rbelow_d (l : List I3) (i : I3) : DFun Try.prog 24 [.slf 3 l.length (l.flatMap idc), .val (.agg (idc i).toArray)] [] (.val (.int .i64 ((plI l i : Int) - 1))) [] := by
  have hpl := plI_le l i
  refine zao (N := 15) 0 (by kernel_rfl) Try.func24 rfl rfl rfl (by simp only [fr0, Nat.zero_add, Nat.reduceAdd]; exact rfl) rfl fun s0 hs0 => ?_
  refine dwp_len (t := 0) rfl fun hl0 hL0 => ?_
  refine zae ?_
  refine zak 1 (by simp only [holes, List.cons_append, List.nil_append]; exact rfl) ?_
  refine zad ?_
  refine zan rfl rfl rfl (op_boxa 0 rfl (ev1 rfl) rfl) (by simp only [upd, za, zaa]; exact rfl) ?_
  refine zab rfl rfl rfl (zac (.inr rfl) (ev1 rfl)) ?_
  refine zaf ?_
  refine zae ?_
  refine zad ?_
  refine zab rfl rfl rfl (zac (.inl rfl) (ev1 rfl)) ?_
  refine zab rfl rfl rfl (op_ldw rfl tb35 (ev1 rfl) rfl rfl) ?_
  refine zab rfl rfl rfl (zah [] [] [] rfl (ev1 rfl) (ec (ev1 rfl) (ec (ev1 rfl) en)) rfl rfl (place_d _ _) rfl rfl rfl rfl rfl rfl) ?_
  refine zab rfl rfl rfl (zac (.inl rfl) (ev1 rfl)) ?_
  refine zab rfl rfl rfl (op_ext rfl (ev1 rfl) rfl) ?_
  refine zab rfl rfl rfl (op_ext rfl (ev1 rfl) rfl) ?_
  refine zab rfl rfl rfl (zac (.inr rfl) (ev1 rfl)) ?_
  refine zab rfl rfl rfl (zac (.inr rfl) (ev1 rfl)) ?_
  refine zaf ?_
  refine zae ?_
  refine zad ?_
  refine zab rfl rfl rfl (zac (.inl rfl) (ev1 rfl)) ?_
  refine zab rfl rfl rfl (op_sub' rfl (ev1 rfl) (ev1 rfl) (fun _ => IntWalk.i64_in _ (by omega))) ?_
  refine zab rfl rfl rfl (zac (.inr rfl) (ev1 rfl)) ?_
  refine zaf ?_
  refine dwp_ret ?_
  refine kend0 (rs1 rfl (rv_t rfl)) rfl ?_
  rfl
def foN (l : List I3) (t : Int) : Nat := (l.filter fun i => decide (i.t ≤ t)).length
set_option maxRecDepth 4000 in
set_option maxHeartbeats 1000000 in
theorem folded_d (l : List I3) (t : Int) : DFun Try.prog 25 [.slf 3 l.length (l.flatMap idc), .val (.int .u64 t)] [] (.val (.int .i64 (foN l t : Int))) [] := by
  refine zao (N := 22) 0 (by kernel_rfl) Try.func25 rfl rfl rfl (by simp only [fr0, Nat.zero_add, Nat.reduceAdd]; exact rfl) rfl fun s0 hs0 => ?_
  refine dwp_len (t := 0) rfl fun hl0 hL0 => ?_
  refine zae ?_
  refine zad ?_
  refine zab rfl rfl rfl (zac (.inr rfl) (ev1 rfl)) ?_
  refine zaf ?_
  refine zae ?_
  refine zad ?_
  refine zab rfl rfl rfl (zac (.inr rfl) (ev1 rfl)) ?_
  refine zaf ?_
  refine zae ?_
  refine zae ?_
  refine zad ?_
  refine zab rfl rfl rfl (zac (.inl rfl) (ev1 rfl)) ?_
  refine zab rfl rfl rfl (op_len rfl sl22 (ev1 rfl)) ?_
  refine zab rfl rfl rfl (zac (.inl rfl) (ev1 rfl)) ?_
  refine zaf ?_
  refine zam ?_
  refine dwp_loopS ⟨hs0, rfl⟩ (α := Nat) (fun k => [(5, .val (.int .i64 (foN (l.take k) t : Int))), (10, .val (.int .i64 (k : Int)))]) [(1, _), (8, _), (9, _)] (fun k => []) [] (fun k => k ≤ l.length) (fun k => l.length - k) 0 [] (Nat.zero_le _) rfl ⟨rfl, rfl, rfl, trivial⟩ ⟨rfl, rfl, trivial⟩ trivial ?_
  intro k hx
  simp only [upd, za, zaa, List.cons_append, List.nil_append]
  have hk := hx
  have hpl : foN (l.take k) t ≤ k := filt_tl
  refine zae ?_
  refine zad ?_
  refine zab rfl rfl rfl (op_lss rfl (ev1 rfl) (ev1 rfl)) ?_
  refine zaf ?_
  refine zae ?_
  refine dwp_cond rfl (fun c1 => ?_) (fun c1 => ?_)
  · try simp only [decide_eq_true_eq, decide_eq_false_iff_not, beq_iff_eq, bne_iff_ne, beq_eq_false_iff_ne, bne_eq_false_iff_eq, Bool.not_eq_true', Bool.not_eq_false', Bool.and_eq_true, Bool.or_eq_true, Bool.or_eq_false_iff, ne_eq, Decidable.not_not, Int.not_lt, Int.not_le] at c1
    refine zal ?_
    refine zae ?_
    refine zam ?_
    refine zae ?_
    refine zak 1 (by simp only [holes, List.cons_append, List.nil_append]; exact rfl) ?_
    refine zad ?_
    refine zab rfl rfl rfl (op_ixsr (j := k) rfl sl22 (ev1 rfl) (ev1 rfl) (fun _ => rfl) (by decide) (by omega) (by omega)) ?_
    refine zab rfl rfl rfl (op_ldwd rfl tb35 (ev1 rfl) rfl) ?_
    refine zan rfl rfl rfl (op_alloc 0 rfl zr35 rfl) (by simp only [upd, za, zaa]; exact rfl) ?_
    refine walk_s rfl rfl (op_stwa rfl tb35 (ev1 rfl) (ev1 rfl) rfl rfl rfl rfl) (by simp only [upd, za, zaa]; exact rfl) ?_
    refine zaf ?_
    refine zae ?_
    refine zad ?_
    refine zab rfl rfl rfl (op_fa rfl fo35_0 (ev1 rfl)) ?_
    refine zab rfl rfl rfl (op_ldo rfl tb33 (ev1 rfl) rfl rfl) ?_
    refine zab rfl rfl rfl (zac (.inl rfl) (ev1 rfl)) ?_
    refine zab rfl rfl rfl (op_leq rfl (ev1 rfl) (ev1 rfl)) ?_
    refine zaf ?_
    refine dwp_cond rfl (fun c2 => ?_) (fun c2 => ?_)
    · have c3 : l[k].t ≤ t := of_decide_eq_true c2
      refine zad ?_
      refine zab rfl rfl rfl (zac (.inl rfl) (ev1 rfl)) ?_
      refine zab rfl rfl rfl (op_add' rfl (ev1 rfl) (ev1 rfl) (fun _ => IntWalk.i64_in _ (by omega))) ?_
      refine zab rfl rfl rfl (zac (.inr rfl) (ev1 rfl)) ?_
      refine zaf ?_
      refine zad ?_
      refine zab rfl rfl rfl (op_add' rfl (ev1 rfl) (ev1 rfl) (fun _ => IntWalk.i64_in _ (by omega))) ?_
      refine zab rfl rfl rfl (zac (.inl rfl) (ev1 rfl)) ?_
      refine zaf ?_
      refine ⟨k + 1, [], by omega, by simp only []; omega, rfl, ⟨by unfold foN; rw [filt_take (by omega), if_pos (by simpa using c3), List.length_append]; rfl, rfl, rfl, rfl, rfl, trivial⟩, trivial⟩
    · have c3 : ¬ l[k].t ≤ t := of_decide_eq_false c2
      refine zal ?_
      refine zad ?_
      refine zab rfl rfl rfl (op_add' rfl (ev1 rfl) (ev1 rfl) (fun _ => IntWalk.i64_in _ (by omega))) ?_
      refine zab rfl rfl rfl (zac (.inl rfl) (ev1 rfl)) ?_
      refine zaf ?_
      refine ⟨k + 1, [], by omega, by simp only []; omega, rfl, ⟨by unfold foN; rw [filt_take (by omega), if_neg (by simpa using c3), List.append_nil]; rfl, rfl, rfl, rfl, rfl, trivial⟩, trivial⟩
  · try simp only [decide_eq_true_eq, decide_eq_false_iff_not, beq_iff_eq, bne_iff_ne, beq_eq_false_iff_ne, bne_eq_false_iff_eq, Bool.not_eq_true', Bool.not_eq_false', Bool.and_eq_true, Bool.or_eq_true, Bool.or_eq_false_iff, ne_eq, Decidable.not_not, Int.not_lt, Int.not_le] at c1
    refine dwp_exit ?_
    refine zae ?_
    refine zad ?_
    refine zab rfl rfl rfl (zac (.inl rfl) (ev1 rfl)) ?_
    refine zab rfl rfl rfl (zac (.inr rfl) (ev1 rfl)) ?_
    refine zaf ?_
    refine dwp_ret ?_
    refine kend0 (rs1 rfl (rv_t rfl)) rfl ?_
    rw [List.take_of_length_le (by omega)]
def kpI (ms l : List I3) : List I3 := l.filter (fun i : I3 => decide (ms.length = 0) || lessR (ms.getD (ms.length - 1) zI3) i)
theorem dueT_app {e : Int} {a : List I3} {x : I3} : ∀ k, k ≤ a.length → dueT e (a ++ [x]) k = dueT e a k
  | 0, _ => rfl
  | k + 1, h => by
    rw [dueT, dueT, dueT_app k (by omega), gI (by simp; omega), gI (by omega), List.getElem_append_left (by omega)]
theorem dueL_add {e : Int} {a : List I3} {x : I3} : dueL e (a ++ [x]) = dueL e a ++ if ((a.length : Int) + 1) % e = 0 then [x] else [] := by
  unfold dueL
  rw [List.length_append, List.length_singleton, dueT, dueT_app _ (Nat.le_refl _), gI (by simp), List.getElem_append_right (Nat.le_refl _)]
  simp
theorem kp_y {ms l : List I3} {k : Nat} (h : k < l.length) (h1 : (decide (ms.length = 0) || lessR (ms.getD (ms.length - 1) zI3) l[k]) = true) : kpI ms (l.take (k + 1)) = kpI ms (l.take k) ++ [l[k]] := by unfold kpI; rw [filt_take h, if_pos h1]
theorem kp_n {ms l : List I3} {k : Nat} (h : k < l.length) (h1 : (decide (ms.length = 0) || lessR (ms.getD (ms.length - 1) zI3) l[k]) = false) : kpI ms (l.take (k + 1)) = kpI ms (l.take k) := by unfold kpI; rw [filt_take h, if_neg (by rw [h1]; decide), List.append_nil]
theorem dueL_len (e : Int) (l : List I3) : (dueL e l).length ≤ l.length := dueT_len e l l.length
set_option maxRecDepth 4000 in
set_option maxHeartbeats 1000000 in
theorem rdue_d (ms l : List I3) (e : Int) (h : l.length ≤ 5000) (he : 1 ≤ e) : DFun Try.prog 27 [.slf 3 ms.length (ms.flatMap idc), .slf 3 l.length (l.flatMap idc), .val (.int .i64 e)] [] (.slf 3 (dueL e (kpI ms l)).length ((dueL e (kpI ms l)).flatMap idc)) [] := by
  refine zao (N := 43) 0 (by kernel_rfl) Try.func27 rfl rfl rfl (by simp only [fr0, Nat.zero_add, Nat.reduceAdd]; exact rfl) rfl fun s0 hs0 => ?_
  refine dwp_len (t := 0) rfl fun hl0 hL0 => ?_
  refine dwp_len (t := 1) rfl fun hl1 hL1 => ?_
  refine zae ?_
  refine zad ?_
  refine zab rfl rfl rfl (zac (.inr rfl) (ev1 rfl)) ?_
  refine zaf ?_
  refine zae ?_
  refine zad ?_
  refine zab rfl rfl rfl (zac (.inr rfl) (ev1 rfl)) ?_
  refine zaf ?_
  refine zae ?_
  refine zad ?_
  refine zab rfl rfl rfl (zac (.inr rfl) (ev1 rfl)) ?_
  refine zaf ?_
  refine zae ?_
  refine zae ?_
  refine zad ?_
  refine zab rfl rfl rfl (zac (.inl rfl) (ev1 rfl)) ?_
  refine zab rfl rfl rfl (op_len rfl sl22 (ev1 rfl)) ?_
  refine zab rfl rfl rfl (zac (.inl rfl) (ev1 rfl)) ?_
  refine zaf ?_
  refine zam ?_
  refine dwp_adopt 7 35 3 rfl rfl rfl ?_
  refine dwp_loopS ⟨hs0, rfl⟩ (α := Nat) (fun k => [(8, .val (.int .i64 ((kpI ms (l.take k)).length : Int))), (13, .val (.int .i64 (k : Int)))]) [(0, _), (2, _), (7, _), (11, _), (12, _)] (fun k => [(0, .arr 35 3 ((dueL e (kpI ms (l.take k)))).length (((dueL e (kpI ms (l.take k)))).flatMap idc))]) [.hole] (fun k => k ≤ l.length) (fun k => l.length - k) 0 [0] (Nat.zero_le _) rfl ⟨rfl, rfl, rfl, rfl, rfl, trivial⟩ ⟨rfl, rfl, trivial⟩ ⟨rfl, trivial⟩ ?_
  intro k hx
  simp only [upd, za, zaa, List.cons_append, List.nil_append]
  have hk := hx
  have hkl : (kpI ms (l.take k)).length ≤ k := filt_tl
  have hdl := dueL_len e (kpI ms (l.take k))
  refine zae ?_
  refine zad ?_
  refine zab rfl rfl rfl (op_lss rfl (ev1 rfl) (ev1 rfl)) ?_
  refine zaf ?_
  refine zae ?_
  refine dwp_cond rfl (fun c1 => ?_) (fun c1 => ?_)
  · try simp only [decide_eq_true_eq, decide_eq_false_iff_not, beq_iff_eq, bne_iff_ne, beq_eq_false_iff_ne, bne_eq_false_iff_eq, Bool.not_eq_true', Bool.not_eq_false', Bool.and_eq_true, Bool.or_eq_true, Bool.or_eq_false_iff, ne_eq, Decidable.not_not, Int.not_lt, Int.not_le] at c1
    refine zal ?_
    refine zae ?_
    refine zam ?_
    refine zae ?_
    refine zak 1 (by simp only [holes, List.cons_append, List.nil_append]; exact rfl) ?_
    refine zad ?_
    refine zab rfl rfl rfl (op_ixsr (j := k) rfl sl22 (ev1 rfl) (ev1 rfl) (fun _ => rfl) (by decide) (by omega) (by omega)) ?_
    refine zab rfl rfl rfl (op_ldwd rfl tb35 (ev1 rfl) rfl) ?_
    refine zan rfl rfl rfl (op_alloc 1 rfl zr35 rfl) (by simp only [upd, za, zaa]; exact rfl) ?_
    refine walk_s rfl rfl (op_stwa rfl tb35 (ev1 rfl) (ev1 rfl) rfl rfl rfl rfl) (by simp only [upd, za, zaa]; exact rfl) ?_
    refine zaf ?_
    refine zae ?_
    refine zae ?_
    have hkk : k < l.length := by omega
    refine dwp_draw [([], []), ([], []), ([], []), ([], []), ([], []), ([], []), ([], []), ([], []), ([], []), ([], []), ([1], []), ([], []), ([], []), ([], [])] mixed (by kernel_rfl) ?_
    refine zag rfl rfl (zac (.inl rfl) (ev1 rfl)) ?_
    refine zag rfl rfl (op_len rfl sl22 (ev1 rfl)) ?_
    refine zag rfl rfl (op_gtr rfl (ev1 rfl) (ev1 rfl)) ?_
    refine zag rfl rfl (zac (.inl rfl) (ev1 rfl)) ?_
    refine zai (gd_t rfl rfl rfl) rfl rfl (zac (.inl rfl) (ev1 rfl)) ?_
    refine zai (gd_t rfl rfl rfl) rfl rfl (zac (.inl rfl) (ev1 rfl)) ?_
    refine zai (gd_t rfl rfl rfl) rfl rfl (op_len rfl sl22 (ev2 rfl)) ?_
    refine zai (gd_t rfl rfl rfl) rfl rfl (op_sub' rfl (ev2 rfl) (ev1 rfl) (fun hp => IntWalk.i64_in _ (by first | omega | (simp at hp; omega)))) ?_
    refine zai (gd_t rfl rfl rfl) rfl rfl (op_ixsg (j := ms.length - 1) (zI3) rfl sl22 (ev2 rfl) (ev2 rfl) (fun _ => rfl) (by decide) (fun hp => by first | omega | (simp at hp; omega)) (fun hp => by first | omega | (simp at hp; omega))) ?_
    refine zai (gd_t rfl rfl rfl) rfl rfl (op_ldwd rfl tb35 (ev2 rfl) rfl) ?_
    refine zai (gd_t rfl rfl rfl) rfl rfl (op_ldw rfl tb35 (ev1 rfl) rfl rfl) ?_
    refine zai (gd_t rfl rfl rfl) rfl rfl (zah [] [] [] rfl (ev1 rfl) (ec (ev2 rfl) (ec (ev2 rfl) en)) rfl rfl (refLess_d _ _) rfl rfl rfl rfl rfl rfl) ?_
    refine zai (gd_t rfl rfl rfl) rfl rfl (op_not rfl (ev2 rfl)) ?_
    refine zag rfl rfl (op_and rfl (ev1 rfl) (ev3 rfl id)) ?_
    refine lex_nil ?_
    refine dwp_cond rfl (fun c2 => ?_) (fun c2 => ?_)
    · have e0 : decide (0 < (ms.length : Int)) = !decide (ms.length = 0) := by
        rw [Bool.eq_iff_iff, Bool.not_eq_true', decide_eq_true_eq, decide_eq_false_iff_not]
        omega
      have c3 : (decide (ms.length = 0) || lessR (ms.getD (ms.length - 1) zI3) l[k]) = false := by
        rw [e0] at c2
        generalize lessR (ms.getD (ms.length - 1) zI3) l[k] = z at c2 ⊢
        generalize decide (ms.length = 0) = x at c2 ⊢
        cases x <;> cases z <;> simp_all
      refine dwp_exit ?_
      refine zad ?_
      refine zab rfl rfl rfl (op_add' rfl (ev1 rfl) (ev1 rfl) (fun _ => IntWalk.i64_in _ (by omega))) ?_
      refine zab rfl rfl rfl (zac (.inl rfl) (ev1 rfl)) ?_
      refine zaf ?_
      refine ⟨k + 1, [0], by omega, by simp only []; omega, rfl, ⟨by rw [kp_n (by omega) c3]; rfl, rfl, rfl, rfl, rfl, rfl, rfl, trivial⟩, ⟨by rw [kp_n (by omega) c3]; rfl, trivial⟩⟩
    · have e0 : decide (0 < (ms.length : Int)) = !decide (ms.length = 0) := by
        rw [Bool.eq_iff_iff, Bool.not_eq_true', decide_eq_true_eq, decide_eq_false_iff_not]
        omega
      have c3 : (decide (ms.length = 0) || lessR (ms.getD (ms.length - 1) zI3) l[k]) = true := by
        rw [e0] at c2
        generalize lessR (ms.getD (ms.length - 1) zI3) l[k] = z at c2 ⊢
        generalize decide (ms.length = 0) = x at c2 ⊢
        cases x <;> cases z <;> simp_all
      refine zal ?_
      refine zae ?_
      refine zad ?_
      refine zab rfl rfl rfl (zac (.inl rfl) (ev1 rfl)) ?_
      refine zab rfl rfl rfl (op_add' rfl (ev1 rfl) (ev1 rfl) (fun _ => IntWalk.i64_in _ (by omega))) ?_
      refine zab rfl rfl rfl (zac (.inr rfl) (ev1 rfl)) ?_
      refine zaf ?_
      refine zae ?_
      refine zad ?_
      refine zab rfl rfl rfl (zac (.inl rfl) (ev1 rfl)) ?_
      refine zab rfl rfl rfl (zac (.inl rfl) (ev1 rfl)) ?_
      refine zab rfl rfl rfl (op_rem' rfl (ev1 rfl) (ev1 rfl) (fun _ => ⟨by omega, by omega⟩)) ?_
      refine zab rfl rfl rfl (op_eql rfl (ev1 rfl) (ev1 rfl)) ?_
      refine zaf ?_
      refine dwp_cond rfl (fun c4 => ?_) (fun c4 => ?_)
      · have c5 : (((kpI ms (l.take k)).length : Int) + 1) % e = 0 := of_decide_eq_true c4
        refine zak 2 (by simp only [holes, List.cons_append, List.nil_append]; exact rfl) ?_
        refine zad ?_
        refine zab rfl rfl rfl (zac (.inl rfl) (ev1 rfl)) ?_
        refine zab rfl rfl rfl (op_ldw rfl tb35 (ev1 rfl) rfl rfl) ?_
        refine zan rfl rfl rfl (op_bsa (ps := [(0, .tmp 38)]) 2 rfl sl22 zr35 rfl (vc (ev1 rfl) vn) rfl (by decide) (by decide) rfl) (by simp only [upd, za, zaa]; exact rfl) ?_
        refine zan rfl rfl rfl (op_app (j := 3) rfl sl22 zr35 rfl (ev1 rfl) (ev1 rfl) (src_arr rfl) rfl rfl (fun _ => rfl) (fun _ => ⟨by omega, by omega⟩)) (by simp only [upd, za, zaa]; exact rfl) ?_
        refine zab rfl rfl rfl (zac (.inr rfl) (ev1 rfl)) ?_
        refine zaf ?_
        refine zad ?_
        refine zab rfl rfl rfl (op_add' rfl (ev1 rfl) (ev1 rfl) (fun _ => IntWalk.i64_in _ (by omega))) ?_
        refine zab rfl rfl rfl (zac (.inl rfl) (ev1 rfl)) ?_
        refine zaf ?_
        refine ⟨k + 1, [3], by omega, by simp only []; omega, rfl, ⟨by rw [kp_y (by omega) c3, List.length_append]; rfl, rfl, rfl, rfl, rfl, rfl, rfl, trivial⟩, ⟨arr_eq (by rw [kp_y (by omega) c3, dueL_add, if_pos c5, List.length_append]; rfl) (by rw [kp_y (by omega) c3, dueL_add, if_pos c5, List.flatMap_append]; rfl), trivial⟩⟩
      · have c5 : ¬ (((kpI ms (l.take k)).length : Int) + 1) % e = 0 := of_decide_eq_false c4
        refine zal ?_
        refine zad ?_
        refine zab rfl rfl rfl (op_add' rfl (ev1 rfl) (ev1 rfl) (fun _ => IntWalk.i64_in _ (by omega))) ?_
        refine zab rfl rfl rfl (zac (.inl rfl) (ev1 rfl)) ?_
        refine zaf ?_
        refine ⟨k + 1, [0], by omega, by simp only []; omega, rfl, ⟨by rw [kp_y (by omega) c3, List.length_append]; rfl, rfl, rfl, rfl, rfl, rfl, rfl, trivial⟩, ⟨by rw [kp_y (by omega) c3, dueL_add, if_neg c5, List.append_nil]; rfl, trivial⟩⟩
  · try simp only [decide_eq_true_eq, decide_eq_false_iff_not, beq_iff_eq, bne_iff_ne, beq_eq_false_iff_ne, bne_eq_false_iff_eq, Bool.not_eq_true', Bool.not_eq_false', Bool.and_eq_true, Bool.or_eq_true, Bool.or_eq_false_iff, ne_eq, Decidable.not_not, Int.not_lt, Int.not_le] at c1
    refine dwp_exit ?_
    refine zae ?_
    refine dwp_giveA 7 rfl rfl (by simp only [za, zaa]; exact rfl) ?_
    refine zad ?_
    refine zab rfl rfl rfl (zac (.inl rfl) (ev1 rfl)) ?_
    refine zab rfl rfl rfl (zac (.inr rfl) (ev1 rfl)) ?_
    refine zaf ?_
    refine dwp_ret ?_
    rw [List.take_of_length_le (by omega)]
    refine kend0 (rs1 rfl (rv_t rfl)) rfl ?_
    rfl
end Go.Proofs.Ytmpodnadoebclaa
namespace Go.Proofs.Ytmpodnadoebclaa
set_option maxRecDepth 4000
set_option linter.unusedVariables false
set_option linter.unusedSimpArgs false
open Go.RowKit
theorem rowM_at {ids : List I3} {b : Int} {k : Nat} (h : k < (rowM ids b).length) : (rowM ids b)[k] = mkN (ids.getD k zI3) (b + (k : Int)) := by simp [rowM]
theorem rowM_ids (ids : List I3) (b : Int) : idsK (rowM ids b) = ids := by
  apply List.ext_getElem?
  intro k
  rw [idsK, List.getElem?_map]
  by_cases h : k < ids.length
  · rw [List.getElem?_eq_getElem (by rw [rowM_len]; exact h), List.getElem?_eq_getElem h, rowM_at]
    exact congrArg some (gI h)
  · rw [List.getElem?_eq_none (by rw [rowM_len]; omega), List.getElem?_eq_none (by omega)]; rfl
end Go.Proofs.Ytmpodnadoebclaa
namespace Go.Proofs.Ytmpodnadoebclaa
set_option maxRecDepth 4000
set_option linter.unusedVariables false
set_option linter.unusedSimpArgs false
open Go.RowKit
def fromN (b : Int) (n : Nat) : List Int := (List.range n).map fun (k : Nat) => b + (k : Int)
theorem fromN_len (b : Int) (n : Nat) : (fromN b n).length = n := by simp [fromN]
theorem fromN_add (b : Int) (n : Nat) : fromN b (n + 1) = fromN b n ++ [b + (n : Int)] := by unfold fromN; rw [List.range_succ, List.map_append]; rfl
set_option maxRecDepth 4000 in
set_option maxHeartbeats 1000000 in
theorem from_o (b : Int) (n : Nat) (h : n ≤ 1000) (hb : 0 ≤ b ∧ b ≤ 1000) : DFun Try.prog 13 [.val (.int .i64 b), .val (.int .i64 (n : Int))] [] (.arr 0) [.arr 3 1 ((fromN b n)).length (((fromN b n)).flatMap inI)] := by
  refine zao (N := 19) 0 (by kernel_rfl) Try.func13 rfl rfl rfl (by simp only [fr0, Nat.zero_add, Nat.reduceAdd]; exact rfl) rfl fun s0 hs0 => ?_
  refine zae ?_
  refine zad ?_
  refine zab rfl rfl rfl (zac (.inr rfl) (ev1 rfl)) ?_
  refine zaf ?_
  refine zae ?_
  refine zad ?_
  refine zab rfl rfl rfl (zac (.inr rfl) (ev1 rfl)) ?_
  refine zaf ?_
  refine zae ?_
  refine zae ?_
  refine zad ?_
  refine zab rfl rfl rfl (zac (.inl rfl) (ev1 rfl)) ?_
  refine zab rfl rfl rfl (zac (.inl rfl) (ev1 rfl)) ?_
  refine zaf ?_
  refine zam ?_
  refine dwp_adopt 5 3 1 rfl rfl rfl ?_
  refine dwp_loopS ⟨hs0, rfl⟩ (α := Nat) (fun k => [(8, .val (.int .i64 (k : Int)))]) [(0, _), (5, _), (7, _)] (fun k => [(0, .arr 3 1 ((fromN b k)).length (((fromN b k)).flatMap inI))]) [.hole] (fun k => k ≤ n) (fun k => n - k) 0 [0] (Nat.zero_le _) rfl ⟨rfl, rfl, rfl, trivial⟩ ⟨rfl, trivial⟩ ⟨rfl, trivial⟩ ?_
  intro k hx
  simp only [upd, za, zaa, List.cons_append, List.nil_append]
  have hk := hx
  have hrl := fromN_len b k
  refine zae ?_
  refine zad ?_
  refine zab rfl rfl rfl (op_lss rfl (ev1 rfl) (ev1 rfl)) ?_
  refine zaf ?_
  refine zae ?_
  refine dwp_cond rfl (fun c1 => ?_) (fun c1 => ?_)
  · try simp only [decide_eq_true_eq, decide_eq_false_iff_not, beq_iff_eq, bne_iff_ne, beq_eq_false_iff_ne, bne_eq_false_iff_eq, Bool.not_eq_true', Bool.not_eq_false', Bool.and_eq_true, Bool.or_eq_true, Bool.or_eq_false_iff, ne_eq, Decidable.not_not, Int.not_lt, Int.not_le] at c1
    refine zal ?_
    refine zae ?_
    refine zam ?_
    refine zae ?_
    refine zad ?_
    refine zab rfl rfl rfl (zac (.inl rfl) (ev1 rfl)) ?_
    refine zab rfl rfl rfl (zac (.inr rfl) (ev1 rfl)) ?_
    refine zaf ?_
    refine zak 2 (by simp only [holes, List.cons_append, List.nil_append]; exact rfl) ?_
    refine zad ?_
    refine zab rfl rfl rfl (zac (.inl rfl) (ev1 rfl)) ?_
    refine zab rfl rfl rfl (zac (.inl rfl) (ev1 rfl)) ?_
    refine zab rfl rfl rfl (zac (.inl rfl) (ev1 rfl)) ?_
    refine zab rfl rfl rfl (op_add' rfl (ev1 rfl) (ev1 rfl) (fun _ => IntWalk.i64_in _ (by omega))) ?_
    refine zan rfl rfl rfl (op_bsa (ps := [(0, .tmp 14)]) 1 rfl sl31 zr3 rfl (vc (ev1 rfl) vn) rfl (by decide) (by decide) rfl) (by simp only [upd, za, zaa]; exact rfl) ?_
    refine zan rfl rfl rfl (op_app (j := 2) rfl sl31 zr3 rfl (ev1 rfl) (ev1 rfl) (src_arr rfl) rfl rfl (fun _ => rfl) (fun _ => ⟨by omega, by omega⟩)) (by simp only [upd, za, zaa]; exact rfl) ?_
    refine zab rfl rfl rfl (zac (.inr rfl) (ev1 rfl)) ?_
    refine zaf ?_
    refine zad ?_
    refine zab rfl rfl rfl (op_add' rfl (ev1 rfl) (ev1 rfl) (fun _ => IntWalk.i64_in _ (by omega))) ?_
    refine zab rfl rfl rfl (zac (.inl rfl) (ev1 rfl)) ?_
    refine zaf ?_
    refine ⟨k + 1, [2], by omega, by simp only []; omega, rfl, ⟨rfl, rfl, rfl, rfl, trivial⟩, ⟨arr_eq (by rw [fromN_add, List.length_append]; rfl) (by rw [fromN_add, List.flatMap_append]; rfl), trivial⟩⟩
  · try simp only [decide_eq_true_eq, decide_eq_false_iff_not, beq_iff_eq, bne_iff_ne, beq_eq_false_iff_ne, bne_eq_false_iff_eq, Bool.not_eq_true', Bool.not_eq_false', Bool.and_eq_true, Bool.or_eq_true, Bool.or_eq_false_iff, ne_eq, Decidable.not_not, Int.not_lt, Int.not_le] at c1
    refine dwp_exit ?_
    refine zae ?_
    refine zad ?_
    refine zab rfl rfl rfl (zac (.inl rfl) (ev1 rfl)) ?_
    refine zab rfl rfl rfl (zac (.inr rfl) (ev1 rfl)) ?_
    refine zaf ?_
    refine dwp_ret ?_
    have e1 : k = n := by omega
    subst e1
    refine kend [0] (rs1 rfl (rv_t rfl)) rfl rfl ?_ ⟨rfl, trivial⟩
    rfl
theorem from_d (b : Int) (n : Nat) (h : n ≤ 1000) (hb : 0 ≤ b ∧ b ≤ 1000) : DFun Try.prog 13 [.val (.int .i64 b), .val (.int .i64 (n : Int))] [] (.slf 1 (fromN b n).length ((fromN b n).flatMap inI)) [] := freeze (from_o b n h hb) rfl
abbrev tsK (l : List Mk) : List (List TL) := l.map Mk.ts
abbrev tsN (l : List Int) : List (List TL) := l.map pnT
def shB (m : List Mk) (l : List I3) (ns : List Int) : Bool := decide (idsC m = l) && decide (tsK m = tsN ns)
set_option maxRecDepth 4000 in
set_option maxHeartbeats 1000000 in
theorem shows_d (m : List Mk) (l : List I3) (ns : List Int) (h : m.length ≤ 5000) : DFun Try.prog 17 [.slm 4 (m).length ((m).flatMap mkC), .slf 3 l.length (l.flatMap idc), .slf 1 (ns).length ((ns).flatMap inI)] [] (.val (.bool (shB m l ns))) [] := by
  refine zao (N := 46) 0 (by kernel_rfl) Try.func17 rfl rfl rfl (by simp only [fr0, Nat.zero_add, Nat.reduceAdd]; exact rfl) rfl fun s0 hs0 => ?_
  refine dwp_lenm (t := 0) rfl fun hl0 hL0 => ?_
  refine dwp_len (t := 1) rfl fun hl1 hL1 => ?_
  refine dwp_len (t := 2) rfl fun hl2 hL2 => ?_
  refine zae ?_
  refine zad ?_
  refine zab rfl rfl rfl (zac (.inr rfl) (ev1 rfl)) ?_
  refine zaf ?_
  refine zae ?_
  refine zae ?_
  refine zad ?_
  refine zab rfl rfl rfl (zac (.inl rfl) (ev1 rfl)) ?_
  refine zab rfl rfl rfl (zah [] [] [] rfl (ev1 rfl) (ec (ev1 rfl) en) rfl rfl (Ids_d _ (by omega)) rfl rfl rfl rfl rfl rfl) ?_
  refine zab rfl rfl rfl (zac (.inl rfl) (ev1 rfl)) ?_
  refine zab rfl rfl rfl (zah [] [] [] rfl (ev1 rfl) (ec (ev1 rfl) (ec (ev1 rfl) en)) rfl rfl (equalI _ _) rfl rfl rfl rfl rfl rfl) ?_
  refine zab rfl rfl rfl (op_not rfl (ev1 rfl)) ?_
  refine zab rfl rfl rfl (zac (.inl rfl) (ev1 rfl)) ?_
  refine zaj (gd_f rfl rfl rfl) rfl rfl rfl (zac (.inl rfl) (ev1 rfl)) ?_
  refine zaj (gd_f rfl rfl rfl) rfl rfl rfl (op_lenm rfl sl26 (ev2 rfl)) ?_
  refine zaj (gd_f rfl rfl rfl) rfl rfl rfl (zac (.inl rfl) (ev1 rfl)) ?_
  refine zaj (gd_f rfl rfl rfl) rfl rfl rfl (op_len rfl sl31 (ev2 rfl)) ?_
  refine zaj (gd_f rfl rfl rfl) rfl rfl rfl (op_neq rfl (ev2 rfl) (ev2 rfl)) ?_
  refine zab rfl rfl rfl (op_or rfl (ev1 rfl) (ev3 rfl id)) ?_
  refine zaf ?_
  refine dwp_cond rfl (fun c1 => ?_) (fun c1 => ?_)
  · have hno : shB m l ns = false := by
      unfold shB
      cases g : decide (idsC m = l) with
      | false => rfl
      | true =>
        rw [g] at c1
        have g2 : tsK m ≠ tsN ns := fun e => by
          have e2 : (tsK m).length = (tsN ns).length := by rw [e]
          rw [List.length_map, List.length_map] at e2
          rw [e2] at c1
          simp at c1
        rw [decide_eq_false g2]; rfl
    refine zae ?_
    refine zad ?_
    refine zab rfl rfl rfl (zac (.inr rfl) (ev1 rfl)) ?_
    refine zaf ?_
    refine dwp_ret ?_
    refine kend0 (rs1 rfl (rv_t rfl)) rfl ?_
    rw [hno]
  · have hy : idsC m = l ∧ m.length = ns.length := by
      cases g : decide (idsC m = l) with
      | false => rw [g] at c1; simp at c1
      | true =>
        rw [g] at c1
        simp at c1
        exact ⟨of_decide_eq_true g, by omega⟩
    obtain ⟨hy1, hy2⟩ := hy
    refine zal ?_
    refine zae ?_
    refine zae ?_
    refine zad ?_
    refine zab rfl rfl rfl (zac (.inl rfl) (ev1 rfl)) ?_
    refine zab rfl rfl rfl (op_len rfl sl31 (ev1 rfl)) ?_
    refine zab rfl rfl rfl (zac (.inl rfl) (ev1 rfl)) ?_
    refine zaf ?_
    refine zam ?_
    refine dwp_loopS ⟨hs0, rfl⟩ (α := Nat) (fun k => [(23, .val (.int .i64 (k : Int)))]) [(0, _), (21, _), (22, _)] (fun k => []) [] (fun k => k ≤ ns.length ∧ tsK (m.take k) = tsN (ns.take k)) (fun k => ns.length - k) 0 [] (⟨Nat.zero_le _, rfl⟩) rfl ⟨rfl, rfl, rfl, trivial⟩ ⟨rfl, trivial⟩ trivial ?_
    intro k hx
    simp only [upd, za, zaa, List.cons_append, List.nil_append]
    obtain ⟨hk, he⟩ := hx
    refine zae ?_
    refine zad ?_
    refine zab rfl rfl rfl (op_lss rfl (ev1 rfl) (ev1 rfl)) ?_
    refine zaf ?_
    refine zae ?_
    refine dwp_cond rfl (fun c2 => ?_) (fun c2 => ?_)
    · try simp only [decide_eq_true_eq, decide_eq_false_iff_not, beq_iff_eq, bne_iff_ne, beq_eq_false_iff_ne, bne_eq_false_iff_eq, Bool.not_eq_true', Bool.not_eq_false', Bool.and_eq_true, Bool.or_eq_true, Bool.or_eq_false_iff, ne_eq, Decidable.not_not, Int.not_lt, Int.not_le] at c2
      refine zal ?_
      refine zae ?_
      refine zam ?_
      refine zae ?_
      refine zad ?_
      refine zab rfl rfl rfl (zac (.inl rfl) (ev1 rfl)) ?_
      refine zab rfl rfl rfl (op_ixsr (j := k) rfl sl31 (ev1 rfl) (ev1 rfl) (fun _ => rfl) (by decide) (by omega) (by omega)) ?_
      refine zab rfl rfl rfl (op_ldod rfl tb3 (ev1 rfl) rfl) ?_
      refine zab rfl rfl rfl (zac (.inr rfl) (ev1 rfl)) ?_
      refine zab rfl rfl rfl (zac (.inr rfl) (ev1 rfl)) ?_
      refine zaf ?_
      refine zae ?_
      have hkm : k < m.length := by omega
      refine dwp_draw [([], []), ([], []), ([], []), ([], []), ([], []), ([], []), ([], []), ([], []), ([], []), ([], []), ([], []), ([], []), ([], []), ([], []), ([], []), ([], []), ([], [])] mixed (by kernel_rfl) ?_
      refine zag rfl rfl (zac (.inl rfl) (ev1 rfl)) ?_
      refine zag rfl rfl (zac (.inl rfl) (ev1 rfl)) ?_
      refine zag rfl rfl (op_ixmr (k) (by decide) rfl sl26 (ev1 rfl) (ev1 rfl) (fun _ => rfl) (by omega) (fun _ => rfl)) ?_
      refine zag rfl rfl (op_fadm rfl fo44_1 (ev1 rfl)) ?_
      refine zag rfl rfl (op_lddm rfl tb42 (ev1 rfl) rfl) ?_
      refine zag rfl rfl (op_pnilm rfl pt42 (ev1 rfl)) ?_
      refine zag rfl rfl (zac (.inl rfl) (ev1 rfl)) ?_
      refine zai (gd_f rfl rfl rfl) rfl rfl (zac (.inl rfl) (ev1 rfl)) ?_
      refine zai (gd_f rfl rfl rfl) rfl rfl (zac (.inl rfl) (ev1 rfl)) ?_
      refine zai (gd_f rfl rfl rfl) rfl rfl (op_ixmr (k) (by decide) rfl sl26 (ev2 rfl) (ev2 rfl) (fun _ => rfl) (by omega) (fun _ => rfl)) ?_
      refine zai (gd_f rfl rfl rfl) rfl rfl (op_fadm rfl fo44_1 (ev2 rfl)) ?_
      refine zai (gd_f rfl rfl rfl) rfl rfl (op_lddm rfl tb42 (ev2 rfl) rfl) ?_
      refine zai (gd_f rfl rfl rfl) rfl rfl (zac (.inl rfl) (ev1 rfl)) ?_
      refine zai (gd_f rfl rfl rfl) rfl rfl (zah [] [] [] rfl (ev1 rfl) (ec (ev2 rfl) en) rfl rfl (painted_d ns[k]) rfl rfl rfl rfl rfl rfl) ?_
      refine zai (gd_f rfl rfl rfl) rfl rfl (zah [] [] [] rfl (ev1 rfl) (ec (ev2 rfl) (ec (ev2 rfl) en)) rfl rfl (same_cv 2 1 m[k].ds _ m[k].ts _ m[k].ok (pipR_ok _) m[k].cv (pnT_ok ns[k])) rfl rfl rfl rfl rfl rfl) ?_
      refine zai (gd_f rfl rfl rfl) rfl rfl (op_not rfl (ev2 rfl)) ?_
      refine zag rfl rfl (op_or rfl (ev1 rfl) (ev3 rfl id)) ?_
      refine lex_nil ?_
      refine dwp_cond rfl (fun c2 => ?_) (fun c2 => ?_)
      · have c3 : m[k].ts ≠ pnT ns[k] := by simpa using c2
        refine zae ?_
        refine zad ?_
        refine zab rfl rfl rfl (zac (.inr rfl) (ev1 rfl)) ?_
        refine zaf ?_
        refine dwp_ret ?_
        refine kend0 (rs1 rfl (rv_t rfl)) rfl ?_
        have g2 : tsK m ≠ tsN ns := fun e => by
          have e2 : (tsK m)[k]? = (tsN ns)[k]? := by rw [e]
          rw [List.getElem?_map, List.getElem?_map, List.getElem?_eq_getElem hkm, List.getElem?_eq_getElem (by omega)] at e2
          exact c3 (Option.some.inj e2)
        unfold shB
        rw [decide_eq_false g2, Bool.and_false]
      · have c3 : m[k].ts = pnT ns[k] := by simpa using c2
        refine zal ?_
        refine zad ?_
        refine zab rfl rfl rfl (op_add' rfl (ev1 rfl) (ev1 rfl) (fun _ => IntWalk.i64_in _ (by omega))) ?_
        refine zab rfl rfl rfl (zac (.inl rfl) (ev1 rfl)) ?_
        refine zaf ?_
        refine ⟨k + 1, [], ⟨by omega, by rw [List.take_succ_eq_append_getElem (by omega), List.take_succ_eq_append_getElem (by omega), tsK, List.map_append, tsN, List.map_append, ← tsK, ← tsN, he, List.map_cons, List.map_cons, c3]; rfl⟩, by simp only []; omega, rfl, ⟨rfl, rfl, rfl, rfl, trivial⟩, trivial⟩
    · try simp only [decide_eq_true_eq, decide_eq_false_iff_not, beq_iff_eq, bne_iff_ne, beq_eq_false_iff_ne, bne_eq_false_iff_eq, Bool.not_eq_true', Bool.not_eq_false', Bool.and_eq_true, Bool.or_eq_true, Bool.or_eq_false_iff, ne_eq, Decidable.not_not, Int.not_lt, Int.not_le] at c2
      refine dwp_exit ?_
      refine zae ?_
      refine zad ?_
      refine zab rfl rfl rfl (zac (.inr rfl) (ev1 rfl)) ?_
      refine zaf ?_
      refine dwp_ret ?_
      refine kend0 (rs1 rfl (rv_t rfl)) rfl ?_
      rw [List.take_of_length_le (by omega), List.take_of_length_le (by omega)] at he
      unfold shB
      rw [decide_eq_true hy1, decide_eq_true he]
      rfl
end Go.Proofs.Ytmpodnadoebclaa
namespace Go.Proofs.Ytmpodnadoebclaa
set_option maxRecDepth 4000
set_option linter.unusedVariables false
set_option linter.unusedSimpArgs false
open Go.RowKit
attribute [local irreducible] rowM
def qB (n : Nat) (last : I3) (i : I3) : Bool := decide (n = 0) || lessR last i
theorem filt_cut {α : Type} {q : α → Bool} {l : List α} {a0 : α} {p : Nat} (hp : p ≤ l.length) (h1 : ∀ k, k < p → q (l.getD k a0) = false) (h2 : ∀ k, p ≤ k → k < l.length → q (l.getD k a0) = true) : l.filter q = l.drop p := by
  have e : l = l.take p ++ l.drop p := (List.take_append_drop p l).symm
  have g : ∀ {k : Nat} (h : k < l.length), l.getD k a0 = l[k] := fun h => by rw [List.getD_eq_getElem?_getD, List.getElem?_eq_getElem h]; rfl
  have e1 : (l.take p).filter q = [] := List.filter_eq_nil_iff.2 fun x hx => by
    obtain ⟨k, hk, rfl⟩ := List.mem_take_iff_getElem.1 hx
    have := h1 k (by omega)
    rw [g (by omega)] at this
    rw [this]; decide
  have e2 : (l.drop p).filter q = l.drop p := List.filter_eq_self.2 fun x hx => by
    obtain ⟨k, hk, rfl⟩ := List.mem_drop_iff_getElem.1 hx
    have := h2 (k + p) (by omega) (by omega)
    rw [g (by omega)] at this
    rw [show l[p + k]'(by omega) = l[k + p]'(by omega) by congr 1; omega]
    exact this
  conv => lhs; rw [e]
  rw [List.filter_append, e1, e2, List.nil_append]
theorem behI_q (m : List Mk) (l : List I3) : behI m l = l.filter fun i => qB m.length (m.getD (m.length - 1) zMk).i i := by
  unfold behI qB
  split
  · rename_i h
    rw [h]
    exact (List.filter_eq_self.2 fun a _ => rfl).symm
  · rename_i h
    rw [decide_eq_false h]
    rfl
end Go.Proofs.Ytmpodnadoebclaa
namespace Go.Proofs.Ytmpodnadoebclaa
set_option maxRecDepth 4000
set_option linter.unusedVariables false
set_option linter.unusedSimpArgs false
open Go.RowKit
theorem row0 {ids : List I3} {k : Nat} (h : k < (rowM ids 0).length) : (rowM ids 0)[k].i = ids.getD k zI3 ∧ (rowM ids 0)[k].ts = pnT (k : Int) := by
  rw [rowM_at]
  exact ⟨rfl, by show pnT (0 + (k : Int)) = _; rw [Int.zero_add]⟩
end Go.Proofs.Ytmpodnadoebclaa
namespace Go.Proofs.Ytmpodnadoebclaa
set_option maxRecDepth 4000
set_option linter.unusedVariables false
set_option linter.unusedSimpArgs false
open Go.RowKit
attribute [local irreducible] rowM
theorem un4 : Try.prog.underlying 4 = some .bool := by kernel_rfl
end Go.Proofs.Ytmpodnadoebclaa
namespace Go.Proofs.Ytmpodnadoebclaa
set_option maxRecDepth 4000
set_option linter.unusedVariables false
set_option linter.unusedSimpArgs false
open Go.RowKit
attribute [local irreducible] pnT
theorem filt_pre {α : Type} {q : α → Bool} {l : List α} {a0 : α} {p : Nat} (hp : p ≤ l.length) (h1 : ∀ k, k < p → q (l.getD k a0) = true) (h2 : ∀ k, p ≤ k → k < l.length → q (l.getD k a0) = false) : l.filter q = l.take p := by
  have e : l = l.take p ++ l.drop p := (List.take_append_drop p l).symm
  have g : ∀ {k : Nat} (h : k < l.length), l.getD k a0 = l[k] := fun h => by rw [List.getD_eq_getElem?_getD, List.getElem?_eq_getElem h]; rfl
  have e1 : (l.take p).filter q = l.take p := List.filter_eq_self.2 fun x hx => by
    obtain ⟨k, hk, rfl⟩ := List.mem_take_iff_getElem.1 hx
    have := h1 k (by omega)
    rwa [g (by omega)] at this
  have e2 : (l.drop p).filter q = [] := List.filter_eq_nil_iff.2 fun x hx => by
    obtain ⟨k, hk, rfl⟩ := List.mem_drop_iff_getElem.1 hx
    have := h2 (k + p) (by omega) (by omega)
    rw [g (by omega)] at this
    rw [show l[p + k]'(by omega) = l[k + p]'(by omega) by congr 1; omega, this]
    decide
  conv => lhs; rw [e]
  rw [List.filter_append, e1, e2, List.append_nil]
def nxI (t : Int) : I3 := ⟨t + 1, 0, 0⟩
theorem less_nx {x : I3} (h : mayR x = true) (t : Int) : lessR x (nxI t) = true ↔ x.t ≤ t := by
  rw [less_iff]
  simp only [mayR, isNum, isSt, Bool.and_eq_true, decide_eq_true_eq] at h
  unfold nxI
  dsimp only
  omega
theorem fo_pl {l : List I3} (h : ∀ x ∈ l, mayR x = true) (t : Int) : foN l t = plI l (nxI t) := by
  unfold foN plI
  congr 1
  refine List.filter_congr fun x hx => ?_
  rw [Bool.eq_iff_iff, decide_eq_true_eq, less_nx (h x hx)]
theorem mK {l : List Mk} {k : Nat} (h : k < l.length) : (l.getD k zMk).i = (idsK l).getD k zI3 := by rw [gM h, gIM h]
theorem bN_pl {m : List Mk} (h : okI (idsK m)) (d : I3) : bN m d = plI (idsK m) d := by
  obtain ⟨h3, h4⟩ := h.split d
  have hp := plI_le (idsK m) d
  have hl : (idsK m).length = m.length := List.length_map _
  have hall : ∀ p, p ≤ plI (idsK m) d → (m.take p).all (fun m => lessR m.i d) = true := fun p hp2 => List.all_eq_true.2 fun x hx => by
    obtain ⟨k, hk, rfl⟩ := List.mem_take_iff_getElem.1 hx
    have := h3 k (by omega)
    rwa [gIM (by omega)] at this
  rcases Nat.lt_or_ge (plI (idsK m) d) m.length with g | g
  · refine bN_stop g (hall _ (Nat.le_refl _)) ?_
    have := h4 _ (Nat.le_refl _) (by omega)
    rwa [gIM g] at this
  · have := hall _ (Nat.le_refl _)
    rw [List.take_of_length_le g] at this
    rw [bN_all this]; omega
theorem drop_take {m : List Mk} (h : okI (idsK m)) (d : I3) : (m.filter fun x => lessR x.i d) = m.take (plI (idsK m) d) := by
  obtain ⟨h3, h4⟩ := h.split d
  have hl : (idsK m).length = m.length := List.length_map _
  have hp := plI_le (idsK m) d
  exact filt_pre (a0 := zMk) (by omega) (fun k hk => by rw [mK (by omega)]; exact h3 k hk) (fun k hk hk2 => by rw [mK hk2]; exact h4 k hk (by omega))
theorem fold_drop {m : List Mk} (h : okI (idsK m)) (t : Int) : (m.filter fun x => decide (t < x.i.t)) = m.drop (foN (idsK m) t) := by
  obtain ⟨h3, h4⟩ := h.split (nxI t)
  have hl : (idsK m).length = m.length := List.length_map _
  have hp := plI_le (idsK m) (nxI t)
  rw [fo_pl h.1]
  have hm : ∀ k, k < m.length → mayR ((idsK m).getD k zI3) = true := fun k hk => h.1 _ (by rw [gI (by omega)]; exact List.getElem_mem _)
  refine filt_cut (a0 := zMk) (by omega) (fun k hk => ?_) (fun k hk hk2 => ?_)
  · rw [mK (by omega), decide_eq_false_iff_not]
    have := (less_nx (hm k (by omega)) t).1 (h3 k hk)
    omega
  · rw [mK hk2, decide_eq_true_eq]
    have := h4 k hk (by omega)
    rw [← Bool.not_eq_true, less_nx (hm k hk2)] at this
    omega
theorem chk_sub {m n : List Mk} (h : chkM m = true) (hs : n.Sublist m) : chkM n = true := by
  obtain ⟨h1, h2⟩ := chk_ok.1 h
  exact chk_ok.2 ⟨Nat.le_trans hs.length_le h1, h2.sub (hs.map _)⟩
theorem ts_row (ids : List I3) (b : Int) : tsK (rowM ids b) = (List.range ids.length).map fun (k : Nat) => pnT (b + (k : Int)) := by unfold rowM tsK; rw [List.map_map]; rfl
theorem sh_take {ids : List I3} (h : chkM (rowM ids 0) = true) {p : Nat} (hp : p ≤ ids.length) : shB ((rowM ids 0).take p) (ids.take p) (fromN 0 p) = true := by
  have h1 := chk_sub h (List.take_sublist p (rowM ids 0))
  have e1 : idsC ((rowM ids 0).take p) = ids.take p := by
    unfold idsC
    rw [if_pos h1, idsK, List.map_take, ← idsK, rowM_ids]
  have e2 : tsK ((rowM ids 0).take p) = tsN (fromN 0 p) := by
    rw [tsK, List.map_take, ← tsK, ts_row, ← List.map_take, List.take_range, Nat.min_eq_left hp, tsN, fromN, List.map_map]
    rfl
  unfold shB
  rw [decide_eq_true e1, decide_eq_true e2]; rfl
theorem rng_drop {β : Type} (f : Int → β) {n p : Nat} (hp : p ≤ n) : ((List.range n).map fun (k : Nat) => f (0 + (k : Int))).drop p = (((List.range (n - p)).map fun (k : Nat) => (p : Int) + (k : Int)).map f) := by
  apply List.ext_getElem?
  intro k
  rw [List.getElem?_drop, List.getElem?_map, List.map_map, List.getElem?_map]
  by_cases g : k < n - p
  · rw [List.getElem?_range (by omega), List.getElem?_range g]
    show some (f (0 + ((p + k : Nat) : Int))) = some (f ((p : Int) + (k : Int)))
    rw [show (0 : Int) + ((p + k : Nat) : Int) = (p : Int) + (k : Int) by omega]
  · rw [List.getElem?_eq_none (by simp; omega), List.getElem?_eq_none (by simp; omega)]; rfl
theorem sh_drop {ids : List I3} (h : chkM (rowM ids 0) = true) {p : Nat} (hp : p ≤ ids.length) : shB ((rowM ids 0).drop p) (ids.drop p) (fromN (p : Int) (ids.length - p)) = true := by
  have h1 := chk_sub h (List.drop_sublist p (rowM ids 0))
  have e1 : idsC ((rowM ids 0).drop p) = ids.drop p := by
    unfold idsC
    rw [if_pos h1, idsK, List.map_drop, ← idsK, rowM_ids]
  have e2 : tsK ((rowM ids 0).drop p) = tsN (fromN (p : Int) (ids.length - p)) := by
    rw [tsK, List.map_drop, ← tsK, ts_row]
    exact rng_drop pnT hp
  unfold shB
  rw [decide_eq_true e1, decide_eq_true e2]; rfl
theorem sh_nil : shB [] [] [] = true := by
  unfold shB
  rw [decide_eq_true (show idsC [] = [] by unfold idsC; split <;> rfl)]
  rfl
theorem behI_kp {m : List Mk} {ms : List I3} (h : idsK m = ms) (l : List I3) : behI m l = kpI ms l := by
  subst h
  rw [behI_q]
  unfold kpI qB
  have hl : (idsK m).length = m.length := List.length_map _
  refine List.filter_congr fun i _ => ?_
  rw [hl]
  rcases Nat.eq_zero_or_pos m.length with g | g
  · rw [decide_eq_true g]; rfl
  · rw [mK (by omega)]
theorem dueB_rt {ids more : List I3} {e : Int} : dueB (rowM ids 0) more e = (rtB ids && (decide (1 ≤ e) && rsB more)) := by
  unfold dueB
  rw [chk_rt, rowM_ids]
  have : rsB more = (risL more && more.all mayR) := by unfold rsB risL; rw [rsN_split _ (Nat.le_refl _), List.take_length, Bool.and_comm]
  rw [this]
  cases rtB ids <;> cases decide (1 ≤ e) <;> cases risL more <;> cases more.all mayR <;> rfl
theorem eqZ : eqT Try.prog 9 44 [.int .u64 0, .int .i64 0, .int .u64 0, .pointer none] [.int .u64 0, .int .i64 0, .int .u64 0, .pointer none] = some true := by kernel_rfl
theorem wkZ : Wk (.tup [.agg [.val (.int .u64 0), .val (.int .i64 0), .val (.int .u64 0), .val (.pointer none)], .val (.bool false)]) (.tup [.val (.agg #[.int .u64 0, .int .i64 0, .int .u64 0, .pointer none]), .val (.bool false)]) := Wk.tup (.cons (by exact Wk.aggv [.int .u64 0, .int .i64 0, .int .u64 0, .pointer none]) (.cons (.refl _) .nil))
set_option maxRecDepth 4000 in
set_option maxHeartbeats 1000000 in
theorem few_o (l : List I3) (n : Nat) (hn : n ≤ 1000) : DFun Try.prog 9 [.slf 3 l.length (l.flatMap idc), .val (.int .i64 (n : Int))] [] (.arr 0) [.arr 35 3 ((l.take n)).length (((l.take n)).flatMap idc)] := by
  refine zao (N := 12) 0 (by kernel_rfl) Try.func9 rfl rfl rfl (by simp only [fr0, Nat.zero_add, Nat.reduceAdd]; exact rfl) rfl fun s0 hs0 => ?_
  refine dwp_len (t := 0) rfl fun hl0 hL0 => ?_
  refine zae ?_
  refine zad ?_
  refine zab rfl rfl rfl (zac (.inr rfl) (ev1 rfl)) ?_
  refine zaf ?_
  refine zae ?_
  refine zak 1 (by simp only [holes, List.cons_append, List.nil_append]; exact rfl) ?_
  refine zad ?_
  refine zab rfl rfl rfl (zac (.inl rfl) (ev1 rfl)) ?_
  refine zab rfl rfl rfl (zac (.inl rfl) (ev1 rfl)) ?_
  refine zab rfl rfl rfl (op_len rfl sl22 (ev1 rfl)) ?_
  refine zab rfl rfl rfl (zac (.inl rfl) (ev1 rfl)) ?_
  refine zab rfl rfl rfl (op_min rfl (ev1 rfl) (ev1 rfl)) ?_
  refine zab rfl rfl rfl (op_sltk (j := min l.length n) rfl sl22 (ev1 rfl) (bd_some (ev1 rfl)) (fun _ => by omega) (fun _ => by omega) (fun _ => rfl)) ?_
  refine zan rfl rfl rfl (zah [] [] [0] rfl (ev1 rfl) (ec (ev1 rfl) en) rfl rfl (cloneI _ (by rw [List.length_take]; omega)) rfl rfl rfl rfl rfl rfl) (by simp only [upd, za, zaa]; exact rfl) ?_
  refine zab rfl rfl rfl (zac (.inr rfl) (ev1 rfl)) ?_
  refine zaf ?_
  refine dwp_ret ?_
  refine kend [0] (rs1 rfl (rv_t rfl)) rfl rfl ?_ ⟨?_, trivial⟩
  rfl
  exact (by rw [tkmin]; rfl)
end Go.Proofs.Ytmpodnadoebclaa
namespace Go.Proofs.Ytmpodnadoebclaa
set_option maxRecDepth 4000
set_option linter.unusedVariables false
set_option linter.unusedSimpArgs false
open Go.RowKit
attribute [local irreducible] rowM fromN
theorem gd44 : Try.prog.eqGuardType Try.prog.depth 44 = false := by kernel_rfl
set_option maxRecDepth 4000 in
set_option maxHeartbeats 1000000 in
theorem ltells_d (x y : List I3) (e : Int) : DFun Try.prog 4 [.slf 3 x.length (x.flatMap idc), .slf 3 y.length (y.flatMap idc), .val (.int .i64 e)] [] (.val (.bool true)) [] := by
  refine zao (N := 149) 0 (by kernel_rfl) Try.func4 rfl rfl rfl (by simp only [fr0, Nat.zero_add, Nat.reduceAdd]; exact rfl) rfl fun s0 hs0 => ?_
  refine dwp_len (t := 0) rfl fun hl0 hL0 => ?_
  refine dwp_len (t := 1) rfl fun hl1 hL1 => ?_
  refine zae ?_
  refine zad ?_
  refine zab rfl rfl rfl (zac (.inr rfl) (ev1 rfl)) ?_
  refine zaf ?_
  refine zae ?_
  refine zae ?_
  refine zad ?_
  refine zab rfl rfl rfl (zah [] [] [] rfl (ev1 rfl) en rfl rfl (wakes_d) rfl rfl rfl rfl rfl rfl) ?_
  refine zab rfl rfl rfl ((op_not rfl (ev1 rfl)).cast (d' := .val (.bool false)) (by kernel_rfl)) ?_
  refine zaf ?_
  refine dwp_if_f rfl (rfl) ?_
  refine zal ?_
  refine zae ?_
  refine zad ?_
  refine zab rfl rfl rfl (zac (.inl rfl) (ev1 rfl)) ?_
  refine zab rfl rfl rfl (zah [] [] [] rfl (ev1 rfl) (ec (ev1 rfl) (ec (ev1 rfl) en)) rfl rfl (few_d x 8 (by decide)) rfl rfl rfl rfl rfl rfl) ?_
  refine zab rfl rfl rfl (zac (.inl rfl) (ev1 rfl)) ?_
  refine zab rfl rfl rfl (zah [] [] [] rfl (ev1 rfl) (ec (ev1 rfl) (ec (ev1 rfl) en)) rfl rfl (few_d y 20 (by decide)) rfl rfl rfl rfl rfl rfl) ?_
  refine zab rfl rfl rfl (zac (.inr rfl) (ev1 rfl)) ?_
  refine zab rfl rfl rfl (zac (.inr rfl) (ev1 rfl)) ?_
  refine zaf ?_
  refine zae ?_
  have h6 : (x.take 8).length ≤ 8 := by rw [List.length_take]; omega
  have h60 : (y.take 20).length ≤ 20 := by rw [List.length_take]; omega
  generalize x.take 8 = ids at h6 ⊢
  generalize y.take 20 = more at h60 ⊢
  have hcr : chkM (rowM ids 0) = rtB ids := by rw [chk_rt, rowM_ids]
  have hrl := rowM_len ids 0
  refine zad ?_
  refine zab rfl rfl rfl (zac (.inl rfl) (ev1 rfl)) ?_
  refine zab rfl rfl rfl (zah [] [] [] rfl (ev1 rfl) (ec (ev1 rfl) (ec (ev1 rfl) en)) rfl rfl (row_d ids 0 (by omega) (by decide)) rfl rfl rfl rfl rfl rfl) ?_
  refine zab rfl rfl rfl (zac (.inr rfl) (ev1 rfl)) ?_
  refine zaf ?_
  refine zae ?_
  refine zad ?_
  refine zab rfl rfl rfl (zac (.inl rfl) (ev1 rfl)) ?_
  refine zab rfl rfl rfl (zah [] [] [] rfl (ev1 rfl) (ec (ev1 rfl) en) rfl rfl (rright_d _) rfl rfl rfl rfl rfl rfl) ?_
  refine zab rfl rfl rfl (zac (.inr rfl) (ev1 rfl)) ?_
  refine zaf ?_
  refine zae ?_
  refine zae ?_
  by_cases hr : rtB ids = true
  · obtain ⟨hl6, hok⟩ := rtB_ok.1 hr
    have hoi : okI (idsK (rowM ids 0)) := by rw [rowM_ids]; exact hok
    have hcl : chkM (rowM ids 0) = true := by rw [hcr]; exact hr
    have hrrl : (more.take 6 ++ [(⟨4, 1, 1⟩ : I3)]).length ≤ 7 := by rw [List.length_append, List.length_take]; simp; omega
    refine zak 2 (by simp only [holes, List.cons_append, List.nil_append]; exact rfl) ?_
    refine zad ?_
    refine zab rfl rfl rfl (zac (.inl rfl) (ev1 rfl)) ?_
    refine zan rfl rfl rfl (zah [] [] [0] rfl (ev1 rfl) (ec (ev1 rfl) (ec (ev1 rfl) en)) rfl rfl (few_o more 6 (by decide)) rfl rfl rfl rfl rfl rfl) (by simp only [upd, za, zaa]; exact rfl) ?_
    refine zab rfl rfl rfl (zah [] [] [] rfl (ev1 rfl) (ec (ev1 rfl) en) rfl rfl (id_d 4) rfl rfl rfl rfl rfl rfl) ?_
    refine zab rfl rfl rfl (op_bs (ps := [(0, .tmp 33)]) rfl sl22 zr35 rfl (vc (ev1 rfl) vn) rfl (by decide) (by decide)) ?_
    refine zan rfl rfl rfl (((op_app (j := 1) rfl sl22 zr35 rfl (ev1 rfl) (ev1 rfl) src_slf rfl rfl (fun _ => rfl) (fun _ => ⟨by rw [List.length_take]; omega, by rw [List.length_take]; omega⟩)).giveA2 rfl rfl).cast (d' := .slf 3 (more.take 6 ++ [(⟨4, 1, 1⟩ : I3)]).length ((more.take 6 ++ [(⟨4, 1, 1⟩ : I3)]).flatMap idc)) (by rw [List.length_append, List.flatMap_append]; rfl)) (by simp only [upd, za, zaa]; exact rfl) ?_
    refine zab rfl rfl rfl (op_len rfl sl22 (ev1 rfl)) ?_
    refine zab rfl rfl rfl (zac (.inl rfl) (ev1 rfl)) ?_
    refine zaf ?_
    refine zam ?_
    refine dwp_loopS ⟨hs0, rfl⟩ (α := Nat) (fun k => [(37, .val (.int .i64 (k : Int)))]) [(2, _), (7, _), (8, _), (9, _), (10, _), (35, _), (36, _)] (fun k => []) [_, _] (fun k => k ≤ (more.take 6 ++ [(⟨4, 1, 1⟩ : I3)]).length) (fun k => (more.take 6 ++ [(⟨4, 1, 1⟩ : I3)]).length - k) 0 [0, 1] (Nat.zero_le _) rfl ⟨rfl, rfl, rfl, rfl, rfl, rfl, rfl, trivial⟩ ⟨rfl, trivial⟩ ⟨rfl, rfl, trivial⟩ ?_
    intro k hx
    simp only [upd, za, zaa, List.cons_append, List.nil_append]
    have hk := hx
    refine zae ?_
    refine zad ?_
    refine zab rfl rfl rfl (op_lss rfl (ev1 rfl) (ev1 rfl)) ?_
    refine zaf ?_
    refine zae ?_
    refine dwp_cond rfl (fun c2 => ?_) (fun c2 => ?_)
    · try simp only [decide_eq_true_eq, decide_eq_false_iff_not, beq_iff_eq, bne_iff_ne, beq_eq_false_iff_ne, bne_eq_false_iff_eq, Bool.not_eq_true', Bool.not_eq_false', Bool.and_eq_true, Bool.or_eq_true, Bool.or_eq_false_iff, ne_eq, Decidable.not_not, Int.not_lt, Int.not_le] at c2
      refine zal ?_
      refine zae ?_
      refine zam ?_
      refine zae ?_
      have hkl0 : k < (more.take 6 ++ [(⟨4, 1, 1⟩ : I3)]).length := by omega
      refine zak 1 (by simp only [holes, List.cons_append, List.nil_append]; exact rfl) ?_
      refine zad ?_
      refine zab rfl rfl rfl (op_ixsr (j := k) rfl sl22 (ev1 rfl) (ev1 rfl) (fun _ => rfl) (by decide) (by omega) (by omega)) ?_
      refine zab rfl rfl rfl (op_ldwd rfl tb35 (ev1 rfl) rfl) ?_
      refine zan rfl rfl rfl (op_alloc 2 rfl zr35 rfl) (by simp only [upd, za, zaa]; exact rfl) ?_
      refine walk_s rfl rfl (op_stwa rfl tb35 (ev1 rfl) (ev1 rfl) rfl rfl rfl rfl) (by simp only [upd, za, zaa]; exact rfl) ?_
      refine zaf ?_
      refine zae ?_
      by_cases hb : 0 < plI ids ((more.take 6 ++ [(⟨4, 1, 1⟩ : I3)]).getD k zI3)
      · rw [gI (by omega)] at hb
        have hkl : k < (more.take 6 ++ [(⟨4, 1, 1⟩ : I3)]).length := by omega
        have hpl := plI_le ids (more.take 6 ++ [(⟨4, 1, 1⟩ : I3)])[k]
        have hfl : foN ids ((more.take 6 ++ [(⟨4, 1, 1⟩ : I3)])[k]).t ≤ ids.length := List.length_filter_le _ _
        have hbp : bN (rowM ids 0) (more.take 6 ++ [(⟨4, 1, 1⟩ : I3)])[k] = plI ids (more.take 6 ++ [(⟨4, 1, 1⟩ : I3)])[k] := by rw [bN_pl hoi, rowM_ids]
        have hdm : dropM (rowM ids 0) (more.take 6 ++ [(⟨4, 1, 1⟩ : I3)])[k] = (rowM ids 0).take (plI ids (more.take 6 ++ [(⟨4, 1, 1⟩ : I3)])[k]) := by unfold dropM; rw [if_pos hcl, drop_take hoi, rowM_ids]
        have hfm : foldM (rowM ids 0) ((more.take 6 ++ [(⟨4, 1, 1⟩ : I3)])[k]).t = (rowM ids 0).drop (foN ids ((more.take 6 ++ [(⟨4, 1, 1⟩ : I3)])[k]).t) := by unfold foldM; rw [if_pos hcl, fold_drop hoi, rowM_ids]
        have hdl : (dropM (rowM ids 0) (more.take 6 ++ [(⟨4, 1, 1⟩ : I3)])[k]).length ≤ 5000 := by rw [hdm, List.length_take]; omega
        have hfll : (foldM (rowM ids 0) ((more.take 6 ++ [(⟨4, 1, 1⟩ : I3)])[k]).t).length ≤ 5000 := by rw [hfm, List.length_drop, rowM_len]; omega
        have hsd : shB (dropM (rowM ids 0) (more.take 6 ++ [(⟨4, 1, 1⟩ : I3)])[k]) (ids.take (plI ids (more.take 6 ++ [(⟨4, 1, 1⟩ : I3)])[k])) (fromN 0 (plI ids (more.take 6 ++ [(⟨4, 1, 1⟩ : I3)])[k])) = true := by rw [hdm]; exact sh_take hcl hpl
        have hsf : shB (foldM (rowM ids 0) ((more.take 6 ++ [(⟨4, 1, 1⟩ : I3)])[k]).t) (ids.drop (foN ids ((more.take 6 ++ [(⟨4, 1, 1⟩ : I3)])[k]).t)) (fromN (foN ids ((more.take 6 ++ [(⟨4, 1, 1⟩ : I3)])[k]).t : Int) (ids.length - foN ids ((more.take 6 ++ [(⟨4, 1, 1⟩ : I3)])[k]).t)) = true := by rw [hfm]; exact sh_drop hcl hfl
        have hbm : bN (rowM ids 0) (more.take 6 ++ [(⟨4, 1, 1⟩ : I3)])[k] - 1 < (rowM ids 0).length := by omega
        obtain ⟨e1, e2⟩ := row0 hbm
        rw [gI (by omega)] at e1
        refine zak 1 (by simp only [holes, List.cons_append, List.nil_append]; exact rfl) ?_
        refine zad ?_
        refine zab rfl rfl rfl (zac (.inl rfl) (ev1 rfl)) ?_
        refine zab rfl rfl rfl (op_ldw rfl tb35 (ev1 rfl) rfl rfl) ?_
        refine zab rfl rfl rfl (zah [] [] [] rfl (ev1 rfl) (ec (ev1 rfl) (ec (ev1 rfl) en)) rfl rfl (below_p (rowM ids 0) (by omega) (more.take 6 ++ [(⟨4, 1, 1⟩ : I3)])[k] hcl (by omega)) rfl rfl rfl rfl rfl rfl) ?_
        refine zab rfl rfl rfl (zac (.inl rfl) (ev1 rfl)) ?_
        refine zab rfl rfl rfl (op_ext rfl (ev1 rfl) rfl) ?_
        refine zab rfl rfl rfl (op_ext rfl (ev1 rfl) rfl) ?_
        refine zan rfl rfl rfl (op_alloc 3 rfl zr44 rfl) (by simp only [upd, za, zaa]; exact rfl) ?_
        refine walk_s rfl rfl (op_stam2 rfl tb44 (ev1 rfl) (ev1 rfl) rfl rfl rfl rfl) (by simp only [upd, za, zaa]; exact rfl) ?_
        refine zab rfl rfl rfl (zac (.inr rfl) (ev1 rfl)) ?_
        refine zaf ?_
        refine zae ?_
        refine dwp_draw [([], []), ([2], []), ([], []), ([], []), ([], []), ([2], []), ([], []), ([], []), ([], [])] mixed (by kernel_rfl) ?_
        refine zag rfl rfl (zac (.inl rfl) (ev1 rfl)) ?_
        refine zag rfl rfl (op_ldw rfl tb35 (ev1 rfl) rfl rfl) ?_
        refine zag rfl rfl (zah [] [] [] rfl (ev1 rfl) (ec (ev1 rfl) (ec (ev1 rfl) en)) rfl rfl (drop_d (rowM ids 0) (by omega) (more.take 6 ++ [(⟨4, 1, 1⟩ : I3)])[k]) rfl rfl rfl rfl rfl rfl) ?_
        refine zag rfl rfl (zac (.inl rfl) (ev1 rfl)) ?_
        refine zag rfl rfl (op_fa rfl fo35_0 (ev1 rfl)) ?_
        refine zag rfl rfl (op_ldo rfl tb33 (ev1 rfl) rfl rfl) ?_
        refine zag rfl rfl (zah [] [] [] rfl (ev1 rfl) (ec (ev1 rfl) (ec (ev1 rfl) en)) rfl rfl (fold_d (rowM ids 0) (by omega) ((more.take 6 ++ [(⟨4, 1, 1⟩ : I3)])[k]).t) rfl rfl rfl rfl rfl rfl) ?_
        refine zag rfl rfl (zac (.inr rfl) (ev1 rfl)) ?_
        refine zag rfl rfl (zac (.inr rfl) (ev1 rfl)) ?_
        refine lex_nil ?_
        refine zae ?_
        refine zad ?_
        refine zab rfl rfl rfl (zac (.inl rfl) (ev1 rfl)) ?_
        refine zab rfl rfl rfl (op_len rfl sl22 (ev1 rfl)) ?_
        refine zab rfl rfl rfl (zac (.inr rfl) (ev1 rfl)) ?_
        refine zab rfl rfl rfl (zac (.inr rfl) (ev1 rfl)) ?_
        refine zaf ?_
        refine zae ?_
        refine zae ?_
        refine zad ?_
        refine zab rfl rfl rfl (zac (.inl rfl) (ev1 rfl)) ?_
        refine zaf ?_
        refine dwp_if_t rfl (by rw [hr]) ?_
        refine dwp_draw [([], []), ([2], []), ([], []), ([], []), ([], []), ([2], []), ([], []), ([], []), ([], [])] mixed (by kernel_rfl) ?_
        refine zag rfl rfl (zac (.inl rfl) (ev1 rfl)) ?_
        refine zag rfl rfl (op_ldw rfl tb35 (ev1 rfl) rfl rfl) ?_
        refine zag rfl rfl (zah [] [] [] rfl (ev1 rfl) (ec (ev1 rfl) (ec (ev1 rfl) en)) rfl rfl (rbelow_d _ _) rfl rfl rfl rfl rfl rfl) ?_
        refine zag rfl rfl (zac (.inl rfl) (ev1 rfl)) ?_
        refine zag rfl rfl (op_fa rfl fo35_0 (ev1 rfl)) ?_
        refine zag rfl rfl (op_ldo rfl tb33 (ev1 rfl) rfl rfl) ?_
        refine zag rfl rfl (zah [] [] [] rfl (ev1 rfl) (ec (ev1 rfl) (ec (ev1 rfl) en)) rfl rfl (folded_d _ _) rfl rfl rfl rfl rfl rfl) ?_
        refine zag rfl rfl (zac (.inr rfl) (ev1 rfl)) ?_
        refine zag rfl rfl (zac (.inr rfl) (ev1 rfl)) ?_
        refine lex_nil ?_
        refine zae ?_
        refine zae ?_
        have e3 : ((bN (rowM ids 0) (more.take 6 ++ [(⟨4, 1, 1⟩ : I3)])[k] - 1 : Nat) : Int) = (plI ids (more.take 6 ++ [(⟨4, 1, 1⟩ : I3)])[k] : Int) - 1 := by omega
        refine dwp_draw [([], []), ([], []), ([], []), ([], []), ([], []), ([], []), ([], []), ([], []), ([3], []), ([], []), ([], []), ([], []), ([], []), ([], []), ([], []), ([], []), ([3], []), ([], []), ([], []), ([], []), ([], []), ([], []), ([], []), ([], []), ([], []), ([], []), ([], []), ([], []), ([3], []), ([], []), ([], []), ([], []), ([], [])] mixed (by kernel_rfl) ?_
        refine zag rfl rfl (zac (.inl rfl) (ev1 rfl)) ?_
        refine zag rfl rfl (zac (.inl rfl) (ev1 rfl)) ?_
        refine zag rfl rfl (op_geq rfl (ev1 rfl) (ev1 rfl)) ?_
        refine zag rfl rfl (op_neb rfl un4 (ev1 rfl) (ev1 rfl)) ?_
        refine zag rfl rfl (zac (.inl rfl) (ev1 rfl)) ?_
        refine zai (gd_f rfl rfl rfl) rfl rfl (zac (.inl rfl) (ev1 rfl)) ?_
        refine zai (gd_f rfl rfl rfl) rfl rfl (zac (.inl rfl) (ev2 rfl)) ?_
        refine zai (gd_tt rfl rfl rfl) rfl rfl (op_fa rfl fo44_0 (ev1 rfl)) ?_
        refine zai (gd_tt rfl rfl rfl) rfl rfl (op_ldmv (R := [_, _, _]) rfl tb35 (ev2 rfl) rfl rfl rfl) ?_
        refine zai (gd_tt rfl rfl rfl) rfl rfl (zac (.inl rfl) (ev1 rfl)) ?_
        refine zai (gd_tt rfl rfl rfl) rfl rfl (zac (.inl rfl) (ev1 rfl)) ?_
        refine zai (gd_tt rfl rfl rfl) rfl rfl (op_ixsg (j := bN (rowM ids 0) (more.take 6 ++ [(⟨4, 1, 1⟩ : I3)])[k] - 1) (zI3) rfl sl22 (ev2 rfl) (ev2 rfl) (fun _ => rfl) (by decide) (fun _ => by omega) (fun _ => by omega)) ?_
        refine zai (gd_tt rfl rfl rfl) rfl rfl (op_ldwd rfl tb35 (ev2 rfl) rfl) ?_
        refine zai (gd_tt rfl rfl rfl) rfl rfl (op_ner eq35 rfl gd35 tb35 (ev2 rfl) (ev2 rfl)) ?_
        refine zai (gd_tt rfl rfl rfl) rfl rfl (zac (.inl rfl) (ev2 rfl)) ?_
        refine zai (gd_ff rfl rfl rfl) rfl rfl (op_fa rfl fo44_1 (ev1 rfl)) ?_
        refine zai (gd_ff rfl rfl rfl) rfl rfl (op_ldm rfl tb42 (ev2 rfl) rfl rfl) ?_
        refine zai (gd_ff rfl rfl rfl) rfl rfl (zac (.inl rfl) (ev1 rfl)) ?_
        refine zai (gd_ff rfl rfl rfl) rfl rfl (zah [] [] [] rfl (ev1 rfl) (ec (ev2 rfl) en) rfl rfl (painted_d _) rfl rfl rfl rfl rfl rfl) ?_
        refine zai (gd_ff rfl rfl rfl) rfl rfl (zah [] [] [] rfl (ev1 rfl) (ec (ev2 rfl) (ec (ev2 rfl) en)) rfl rfl (same_cv 2 1 _ _ _ _ ((rowM ids 0).getD (bN (rowM ids 0) (more.take 6 ++ [(⟨4, 1, 1⟩ : I3)])[k] - 1) zMk).ok (pipR_ok _) ((rowM ids 0).getD (bN (rowM ids 0) (more.take 6 ++ [(⟨4, 1, 1⟩ : I3)])[k] - 1) zMk).cv (pnT_ok _)) rfl rfl rfl rfl rfl rfl) ?_
        refine zai (gd_ff rfl rfl rfl) rfl rfl (op_not rfl (ev2 rfl)) ?_
        refine zai (gd_tt rfl rfl rfl) rfl rfl (op_or rfl (ev2 rfl) (ev2 rfl)) ?_
        refine zai (gd_f rfl rfl rfl) rfl rfl (op_and rfl (ev2 rfl) (ev2 rfl)) ?_
        refine zag rfl rfl (op_or rfl (ev1 rfl) (ev3 rfl id)) ?_
        refine zag rfl rfl (zac (.inl rfl) (ev1 rfl)) ?_
        refine zai (gd_f rfl rfl rfl) rfl rfl (zac (.inl rfl) (ev1 rfl)) ?_
        refine zai (gd_f rfl rfl rfl) rfl rfl ((op_not rfl (ev2 rfl)).cast (d' := .val (.bool false)) (by kernel_rfl)) ?_
        refine zai (gd_f rfl rfl rfl) rfl rfl (zac (.inl rfl) (ev2 rfl)) ?_
        refine zai (gd_tt rfl rfl rfl) rfl rfl (op_ldmw rfl tb44 (ev1 rfl) rfl rfl) ?_
        refine zai (gd_tt rfl rfl rfl) rfl rfl (op_build0 rfl fl44 zr44) ?_
        refine zai (gd_tt rfl rfl rfl) rfl rfl ((fun hp => absurd hp (by simp) : DOp _ _ _ _ _ [] (.val (.bool false)) [])) ?_
        refine zai (gd_f rfl rfl rfl) rfl rfl ((op_and rfl (ev2 rfl) (ev2 rfl)).cast (d' := .val (.bool false)) (by rfl)) ?_
        refine zag rfl rfl (op_or rfl (ev1 rfl) (ev3 rfl id)) ?_
        refine lex_nil ?_
        refine dwp_if_f rfl (by rw [gM hbm, e2, gI (by omega), e1, e3]; simp; omega) ?_
        refine zal ?_
        refine zae ?_
        refine dwp_draw [([], []), ([], []), ([], []), ([], []), ([], []), ([], []), ([], []), ([], []), ([], []), ([], []), ([], []), ([], []), ([], []), ([], []), ([], []), ([], []), ([], []), ([], []), ([], []), ([], []), ([], []), ([], []), ([], []), ([], [])] mixed (by kernel_rfl) ?_
        refine zag rfl rfl (zac (.inl rfl) (ev1 rfl)) ?_
        refine zag rfl rfl (zac (.inl rfl) (ev1 rfl)) ?_
        refine zag rfl rfl (zac (.inl rfl) (ev1 rfl)) ?_
        refine zag rfl rfl (op_add' rfl (ev1 rfl) (ev1 rfl) (fun _ => IntWalk.i64_in _ (by omega))) ?_
        refine zag rfl rfl (op_sltk (j := plI ids (more.take 6 ++ [(⟨4, 1, 1⟩ : I3)])[k]) rfl sl22 (ev1 rfl) (bd_some (ev1 rfl)) (fun _ => by omega) (fun _ => by omega) (fun _ => rfl)) ?_
        refine zag rfl rfl (zac (.inl rfl) (ev1 rfl)) ?_
        refine zag rfl rfl (op_add' rfl (ev1 rfl) (ev1 rfl) (fun _ => IntWalk.i64_in _ (by omega))) ?_
        refine zag rfl rfl (zah [] [] [] rfl (ev1 rfl) (ec (ev1 rfl) (ec (evwk (ev1 rfl) (Wk.of_eq (by rw [show (plI ids (more.take 6 ++ [(⟨4, 1, 1⟩ : I3)])[k] : Int) - 1 + 1 = (plI ids (more.take 6 ++ [(⟨4, 1, 1⟩ : I3)])[k] : Int) by omega]))) en)) rfl rfl (from_d 0 (plI ids (more.take 6 ++ [(⟨4, 1, 1⟩ : I3)])[k]) (by omega) (by decide)) rfl rfl rfl rfl rfl rfl) ?_
        refine zag rfl rfl (zah [] [] [] rfl (ev1 rfl) (ec (ev1 rfl) (ec (ev1 rfl) (ec (ev1 rfl) en))) rfl rfl (shows_d (dropM (rowM ids 0) (more.take 6 ++ [(⟨4, 1, 1⟩ : I3)])[k]) (ids.take (plI ids (more.take 6 ++ [(⟨4, 1, 1⟩ : I3)])[k])) (fromN 0 (plI ids (more.take 6 ++ [(⟨4, 1, 1⟩ : I3)])[k])) (by omega)) rfl rfl rfl rfl rfl rfl) ?_
        refine zag rfl rfl (op_not rfl (ev1 rfl)) ?_
        refine zag rfl rfl (zac (.inl rfl) (ev1 rfl)) ?_
        refine zai (gd_f rfl rfl rfl) rfl rfl (zac (.inl rfl) (ev1 rfl)) ?_
        refine zai (gd_f rfl rfl rfl) rfl rfl (zac (.inl rfl) (ev1 rfl)) ?_
        refine zai (gd_f rfl rfl rfl) rfl rfl (zac (.inl rfl) (ev1 rfl)) ?_
        refine zai (gd_f rfl rfl rfl) rfl rfl (op_sldr (i := foN ids ((more.take 6 ++ [(⟨4, 1, 1⟩ : I3)])[k]).t) rfl sl22 (ev2 rfl) (bd_some (ev2 rfl)) (fun _ => rfl) (fun _ => by omega) (fun _ => rfl)) ?_
        refine zai (gd_f rfl rfl rfl) rfl rfl (zac (.inl rfl) (ev1 rfl)) ?_
        refine zai (gd_f rfl rfl rfl) rfl rfl (zac (.inl rfl) (ev1 rfl)) ?_
        refine zai (gd_f rfl rfl rfl) rfl rfl (op_len rfl sl22 (ev2 rfl)) ?_
        refine zai (gd_f rfl rfl rfl) rfl rfl (zac (.inl rfl) (ev1 rfl)) ?_
        refine zai (gd_f rfl rfl rfl) rfl rfl (op_sub' rfl (ev2 rfl) (ev2 rfl) (fun hp => IntWalk.i64_in _ (by first | omega | (simp at hp; omega)))) ?_
        refine zai (gd_f rfl rfl rfl) rfl rfl (zah [] [] [] rfl (ev1 rfl) (ec (ev2 rfl) (ec (evwk (ev2 rfl) (Wk.of_eq (by rw [show (ids.length : Int) - (foN ids ((more.take 6 ++ [(⟨4, 1, 1⟩ : I3)])[k]).t : Int) = ((ids.length - foN ids ((more.take 6 ++ [(⟨4, 1, 1⟩ : I3)])[k]).t : Nat) : Int) by omega]))) en)) rfl rfl (from_d (foN ids ((more.take 6 ++ [(⟨4, 1, 1⟩ : I3)])[k]).t : Int) (ids.length - foN ids ((more.take 6 ++ [(⟨4, 1, 1⟩ : I3)])[k]).t) (by omega) (by omega)) rfl rfl rfl rfl rfl rfl) ?_
        refine zai (gd_f rfl rfl rfl) rfl rfl (zah [] [] [] rfl (ev1 rfl) (ec (ev2 rfl) (ec (ev2 rfl) (ec (ev2 rfl) en))) rfl rfl (shows_d (foldM (rowM ids 0) ((more.take 6 ++ [(⟨4, 1, 1⟩ : I3)])[k]).t) (ids.drop (foN ids ((more.take 6 ++ [(⟨4, 1, 1⟩ : I3)])[k]).t)) _ (by omega)) rfl rfl rfl rfl rfl rfl) ?_
        refine zai (gd_f rfl rfl rfl) rfl rfl (op_not rfl (ev2 rfl)) ?_
        refine zag rfl rfl (op_or rfl (ev1 rfl) (ev3 rfl id)) ?_
        refine lex_nil ?_
        refine dwp_if_f rfl (by rw [hsd, hsf]; rfl) ?_
        refine zal ?_
        refine zad ?_
        refine zab rfl rfl rfl (op_add' rfl (ev1 rfl) (ev1 rfl) (fun _ => IntWalk.i64_in _ (by omega))) ?_
        refine zab rfl rfl rfl (zac (.inl rfl) (ev1 rfl)) ?_
        refine zaf ?_
        refine ⟨k + 1, [0, 1], by omega, by simp only []; omega, rfl, ⟨rfl, rfl, rfl, rfl, rfl, rfl, rfl, rfl, trivial⟩, ⟨rfl, rfl, trivial⟩⟩
      · rw [gI (by omega)] at hb
        have hkl : k < (more.take 6 ++ [(⟨4, 1, 1⟩ : I3)]).length := by omega
        have hpl := plI_le ids (more.take 6 ++ [(⟨4, 1, 1⟩ : I3)])[k]
        have hfl : foN ids ((more.take 6 ++ [(⟨4, 1, 1⟩ : I3)])[k]).t ≤ ids.length := List.length_filter_le _ _
        have hbp : bN (rowM ids 0) (more.take 6 ++ [(⟨4, 1, 1⟩ : I3)])[k] = plI ids (more.take 6 ++ [(⟨4, 1, 1⟩ : I3)])[k] := by rw [bN_pl hoi, rowM_ids]
        have hdm : dropM (rowM ids 0) (more.take 6 ++ [(⟨4, 1, 1⟩ : I3)])[k] = (rowM ids 0).take (plI ids (more.take 6 ++ [(⟨4, 1, 1⟩ : I3)])[k]) := by unfold dropM; rw [if_pos hcl, drop_take hoi, rowM_ids]
        have hfm : foldM (rowM ids 0) ((more.take 6 ++ [(⟨4, 1, 1⟩ : I3)])[k]).t = (rowM ids 0).drop (foN ids ((more.take 6 ++ [(⟨4, 1, 1⟩ : I3)])[k]).t) := by unfold foldM; rw [if_pos hcl, fold_drop hoi, rowM_ids]
        have hdl : (dropM (rowM ids 0) (more.take 6 ++ [(⟨4, 1, 1⟩ : I3)])[k]).length ≤ 5000 := by rw [hdm, List.length_take]; omega
        have hfll : (foldM (rowM ids 0) ((more.take 6 ++ [(⟨4, 1, 1⟩ : I3)])[k]).t).length ≤ 5000 := by rw [hfm, List.length_drop, rowM_len]; omega
        have hsd : shB (dropM (rowM ids 0) (more.take 6 ++ [(⟨4, 1, 1⟩ : I3)])[k]) (ids.take (plI ids (more.take 6 ++ [(⟨4, 1, 1⟩ : I3)])[k])) (fromN 0 (plI ids (more.take 6 ++ [(⟨4, 1, 1⟩ : I3)])[k])) = true := by rw [hdm]; exact sh_take hcl hpl
        have hsf : shB (foldM (rowM ids 0) ((more.take 6 ++ [(⟨4, 1, 1⟩ : I3)])[k]).t) (ids.drop (foN ids ((more.take 6 ++ [(⟨4, 1, 1⟩ : I3)])[k]).t)) (fromN (foN ids ((more.take 6 ++ [(⟨4, 1, 1⟩ : I3)])[k]).t : Int) (ids.length - foN ids ((more.take 6 ++ [(⟨4, 1, 1⟩ : I3)])[k]).t)) = true := by rw [hfm]; exact sh_drop hcl hfl
        refine zak 1 (by simp only [holes, List.cons_append, List.nil_append]; exact rfl) ?_
        refine zad ?_
        refine zab rfl rfl rfl (zac (.inl rfl) (ev1 rfl)) ?_
        refine zab rfl rfl rfl (op_ldw rfl tb35 (ev1 rfl) rfl rfl) ?_
        refine zab rfl rfl rfl (zah [] [] [] rfl (ev1 rfl) (ec (ev1 rfl) (ec (ev1 rfl) en)) rfl rfl ((below_0 (rowM ids 0) (by omega) (more.take 6 ++ [(⟨4, 1, 1⟩ : I3)])[k] hcl (by omega)).wk wkZ) rfl rfl rfl rfl rfl rfl) ?_
        refine zab rfl rfl rfl (zac (.inl rfl) (ev1 rfl)) ?_
        refine zab rfl rfl rfl (op_ext rfl (ev1 rfl) rfl) ?_
        refine zab rfl rfl rfl (op_ext rfl (ev1 rfl) rfl) ?_
        refine zan rfl rfl rfl (op_alloc 3 rfl zr44 rfl) (by simp only [upd, za, zaa]; exact rfl) ?_
        refine walk_s rfl rfl (op_stwa rfl tb44 (ev1 rfl) (ev1 rfl) rfl rfl rfl rfl) (by simp only [upd, za, zaa]; exact rfl) ?_
        refine zab rfl rfl rfl (zac (.inr rfl) (ev1 rfl)) ?_
        refine zaf ?_
        refine zae ?_
        refine dwp_draw [([], []), ([2], []), ([], []), ([], []), ([], []), ([2], []), ([], []), ([], []), ([], [])] mixed (by kernel_rfl) ?_
        refine zag rfl rfl (zac (.inl rfl) (ev1 rfl)) ?_
        refine zag rfl rfl (op_ldw rfl tb35 (ev1 rfl) rfl rfl) ?_
        refine zag rfl rfl (zah [] [] [] rfl (ev1 rfl) (ec (ev1 rfl) (ec (ev1 rfl) en)) rfl rfl (drop_d (rowM ids 0) (by omega) (more.take 6 ++ [(⟨4, 1, 1⟩ : I3)])[k]) rfl rfl rfl rfl rfl rfl) ?_
        refine zag rfl rfl (zac (.inl rfl) (ev1 rfl)) ?_
        refine zag rfl rfl (op_fa rfl fo35_0 (ev1 rfl)) ?_
        refine zag rfl rfl (op_ldo rfl tb33 (ev1 rfl) rfl rfl) ?_
        refine zag rfl rfl (zah [] [] [] rfl (ev1 rfl) (ec (ev1 rfl) (ec (ev1 rfl) en)) rfl rfl (fold_d (rowM ids 0) (by omega) ((more.take 6 ++ [(⟨4, 1, 1⟩ : I3)])[k]).t) rfl rfl rfl rfl rfl rfl) ?_
        refine zag rfl rfl (zac (.inr rfl) (ev1 rfl)) ?_
        refine zag rfl rfl (zac (.inr rfl) (ev1 rfl)) ?_
        refine lex_nil ?_
        refine zae ?_
        refine zad ?_
        refine zab rfl rfl rfl (zac (.inl rfl) (ev1 rfl)) ?_
        refine zab rfl rfl rfl (op_len rfl sl22 (ev1 rfl)) ?_
        refine zab rfl rfl rfl (zac (.inr rfl) (ev1 rfl)) ?_
        refine zab rfl rfl rfl (zac (.inr rfl) (ev1 rfl)) ?_
        refine zaf ?_
        refine zae ?_
        refine zae ?_
        refine zad ?_
        refine zab rfl rfl rfl (zac (.inl rfl) (ev1 rfl)) ?_
        refine zaf ?_
        refine dwp_if_t rfl (by rw [hr]) ?_
        refine dwp_draw [([], []), ([2], []), ([], []), ([], []), ([], []), ([2], []), ([], []), ([], []), ([], [])] mixed (by kernel_rfl) ?_
        refine zag rfl rfl (zac (.inl rfl) (ev1 rfl)) ?_
        refine zag rfl rfl (op_ldw rfl tb35 (ev1 rfl) rfl rfl) ?_
        refine zag rfl rfl (zah [] [] [] rfl (ev1 rfl) (ec (ev1 rfl) (ec (ev1 rfl) en)) rfl rfl (rbelow_d _ _) rfl rfl rfl rfl rfl rfl) ?_
        refine zag rfl rfl (zac (.inl rfl) (ev1 rfl)) ?_
        refine zag rfl rfl (op_fa rfl fo35_0 (ev1 rfl)) ?_
        refine zag rfl rfl (op_ldo rfl tb33 (ev1 rfl) rfl rfl) ?_
        refine zag rfl rfl (zah [] [] [] rfl (ev1 rfl) (ec (ev1 rfl) (ec (ev1 rfl) en)) rfl rfl (folded_d _ _) rfl rfl rfl rfl rfl rfl) ?_
        refine zag rfl rfl (zac (.inr rfl) (ev1 rfl)) ?_
        refine zag rfl rfl (zac (.inr rfl) (ev1 rfl)) ?_
        refine lex_nil ?_
        refine zae ?_
        refine zae ?_
        refine dwp_draw [([], []), ([], []), ([], []), ([], []), ([], []), ([], []), ([], []), ([], []), ([3], []), ([], []), ([], []), ([], []), ([], []), ([], []), ([], []), ([], []), ([3], []), ([], []), ([], []), ([], []), ([], []), ([], []), ([], []), ([], []), ([], []), ([], []), ([], []), ([], []), ([3], []), ([], []), ([], []), ([], []), ([], [])] mixed (by kernel_rfl) ?_
        refine zag rfl rfl (zac (.inl rfl) (ev1 rfl)) ?_
        refine zag rfl rfl (zac (.inl rfl) (ev1 rfl)) ?_
        refine zag rfl rfl (op_geq rfl (ev1 rfl) (ev1 rfl)) ?_
        refine zag rfl rfl (op_neb rfl un4 (ev1 rfl) (ev1 rfl)) ?_
        refine zag rfl rfl (zac (.inl rfl) (ev1 rfl)) ?_
        refine zai (gd_f rfl rfl rfl) rfl rfl (zac (.inl rfl) (ev1 rfl)) ?_
        refine zai (gd_f rfl rfl rfl) rfl rfl (zac (.inl rfl) (ev2 rfl)) ?_
        refine zai (gd_tt rfl rfl rfl) rfl rfl (op_fa rfl fo44_0 (ev1 rfl)) ?_
        refine zai (gd_tt rfl rfl rfl) rfl rfl (op_ldr rfl tb35 (ev2 rfl) rfl rfl rfl) ?_
        refine zai (gd_tt rfl rfl rfl) rfl rfl (zac (.inl rfl) (ev1 rfl)) ?_
        refine zai (gd_tt rfl rfl rfl) rfl rfl (zac (.inl rfl) (ev1 rfl)) ?_
        refine zai (gd_tt rfl rfl rfl) rfl rfl (op_ixsg (j := 0) (zI3) rfl sl22 (ev2 rfl) (ev2 rfl) (fun _ => rfl) (by decide) (fun hp => absurd hp (by simp)) (fun hp => absurd hp (by simp))) ?_
        refine zai (gd_tt rfl rfl rfl) rfl rfl (op_ldwd rfl tb35 (ev2 rfl) rfl) ?_
        refine zai (gd_tt rfl rfl rfl) rfl rfl ((fun hp => absurd hp (by simp) : DOp _ _ _ _ _ [] (.val (.bool false)) [])) ?_
        refine zai (gd_tt rfl rfl rfl) rfl rfl (zac (.inl rfl) (ev2 rfl)) ?_
        refine zai (gd_ff rfl rfl rfl) rfl rfl (op_fa rfl fo44_1 (ev1 rfl)) ?_
        refine zai (gd_ff rfl rfl rfl) rfl rfl (op_ldo rfl tb42 (ev2 rfl) rfl rfl) ?_
        refine zai (gd_ff rfl rfl rfl) rfl rfl (zac (.inl rfl) (ev1 rfl)) ?_
        refine zai (gd_ff rfl rfl rfl) rfl rfl (zah [] [] [] rfl (ev1 rfl) (ec (ev2 rfl) en) rfl rfl (painted_d _) rfl rfl rfl rfl rfl rfl) ?_
        refine zai (gd_ff rfl rfl rfl) rfl rfl ((fun hp => absurd hp (by simp) : DOp _ _ _ _ _ [] (.val (.bool false)) [])) ?_
        refine zai (gd_ff rfl rfl rfl) rfl rfl (op_not rfl (ev2 rfl)) ?_
        refine zai (gd_tt rfl rfl rfl) rfl rfl (op_or rfl (ev2 rfl) (ev2 rfl)) ?_
        refine zai (gd_f rfl rfl rfl) rfl rfl ((op_and rfl (ev2 rfl) (ev2 rfl)).cast (d' := .val (.bool false)) (by rfl)) ?_
        refine zag rfl rfl (op_or rfl (ev1 rfl) (ev3 rfl id)) ?_
        refine zag rfl rfl (zac (.inl rfl) (ev1 rfl)) ?_
        refine zai (gd_f rfl rfl rfl) rfl rfl (zac (.inl rfl) (ev1 rfl)) ?_
        refine zai (gd_f rfl rfl rfl) rfl rfl ((op_not rfl (ev2 rfl)).cast (d' := .val (.bool true)) (by kernel_rfl)) ?_
        refine zai (gd_f rfl rfl rfl) rfl rfl (zac (.inl rfl) (ev2 rfl)) ?_
        refine zai (gd_tt rfl rfl rfl) rfl rfl (op_ldw rfl tb44 (ev1 rfl) rfl rfl) ?_
        refine zai (gd_tt rfl rfl rfl) rfl rfl (op_build0 rfl fl44 zr44) ?_
        refine zai (gd_tt rfl rfl rfl) rfl rfl (op_ner eqZ rfl gd44 tb44 (ev2 rfl) (ev2 rfl)) ?_
        refine zai (gd_f rfl rfl rfl) rfl rfl (op_and rfl (ev2 rfl) (ev2 rfl)) ?_
        refine zag rfl rfl (op_or rfl (ev1 rfl) (ev3 rfl id)) ?_
        refine lex_nil ?_
        refine dwp_if_f rfl (by simp; omega) ?_
        refine zal ?_
        refine zae ?_
        refine dwp_draw [([], []), ([], []), ([], []), ([], []), ([], []), ([], []), ([], []), ([], []), ([], []), ([], []), ([], []), ([], []), ([], []), ([], []), ([], []), ([], []), ([], []), ([], []), ([], []), ([], []), ([], []), ([], []), ([], []), ([], [])] mixed (by kernel_rfl) ?_
        refine zag rfl rfl (zac (.inl rfl) (ev1 rfl)) ?_
        refine zag rfl rfl (zac (.inl rfl) (ev1 rfl)) ?_
        refine zag rfl rfl (zac (.inl rfl) (ev1 rfl)) ?_
        refine zag rfl rfl (op_add' rfl (ev1 rfl) (ev1 rfl) (fun _ => IntWalk.i64_in _ (by omega))) ?_
        refine zag rfl rfl (op_sltk (j := plI ids (more.take 6 ++ [(⟨4, 1, 1⟩ : I3)])[k]) rfl sl22 (ev1 rfl) (bd_some (ev1 rfl)) (fun _ => by omega) (fun _ => by omega) (fun _ => rfl)) ?_
        refine zag rfl rfl (zac (.inl rfl) (ev1 rfl)) ?_
        refine zag rfl rfl (op_add' rfl (ev1 rfl) (ev1 rfl) (fun _ => IntWalk.i64_in _ (by omega))) ?_
        refine zag rfl rfl (zah [] [] [] rfl (ev1 rfl) (ec (ev1 rfl) (ec (evwk (ev1 rfl) (Wk.of_eq (by rw [show (plI ids (more.take 6 ++ [(⟨4, 1, 1⟩ : I3)])[k] : Int) - 1 + 1 = (plI ids (more.take 6 ++ [(⟨4, 1, 1⟩ : I3)])[k] : Int) by omega]))) en)) rfl rfl (from_d 0 (plI ids (more.take 6 ++ [(⟨4, 1, 1⟩ : I3)])[k]) (by omega) (by decide)) rfl rfl rfl rfl rfl rfl) ?_
        refine zag rfl rfl (zah [] [] [] rfl (ev1 rfl) (ec (ev1 rfl) (ec (ev1 rfl) (ec (ev1 rfl) en))) rfl rfl (shows_d (dropM (rowM ids 0) (more.take 6 ++ [(⟨4, 1, 1⟩ : I3)])[k]) (ids.take (plI ids (more.take 6 ++ [(⟨4, 1, 1⟩ : I3)])[k])) (fromN 0 (plI ids (more.take 6 ++ [(⟨4, 1, 1⟩ : I3)])[k])) (by omega)) rfl rfl rfl rfl rfl rfl) ?_
        refine zag rfl rfl (op_not rfl (ev1 rfl)) ?_
        refine zag rfl rfl (zac (.inl rfl) (ev1 rfl)) ?_
        refine zai (gd_f rfl rfl rfl) rfl rfl (zac (.inl rfl) (ev1 rfl)) ?_
        refine zai (gd_f rfl rfl rfl) rfl rfl (zac (.inl rfl) (ev1 rfl)) ?_
        refine zai (gd_f rfl rfl rfl) rfl rfl (zac (.inl rfl) (ev1 rfl)) ?_
        refine zai (gd_f rfl rfl rfl) rfl rfl (op_sldr (i := foN ids ((more.take 6 ++ [(⟨4, 1, 1⟩ : I3)])[k]).t) rfl sl22 (ev2 rfl) (bd_some (ev2 rfl)) (fun _ => rfl) (fun _ => by omega) (fun _ => rfl)) ?_
        refine zai (gd_f rfl rfl rfl) rfl rfl (zac (.inl rfl) (ev1 rfl)) ?_
        refine zai (gd_f rfl rfl rfl) rfl rfl (zac (.inl rfl) (ev1 rfl)) ?_
        refine zai (gd_f rfl rfl rfl) rfl rfl (op_len rfl sl22 (ev2 rfl)) ?_
        refine zai (gd_f rfl rfl rfl) rfl rfl (zac (.inl rfl) (ev1 rfl)) ?_
        refine zai (gd_f rfl rfl rfl) rfl rfl (op_sub' rfl (ev2 rfl) (ev2 rfl) (fun hp => IntWalk.i64_in _ (by first | omega | (simp at hp; omega)))) ?_
        refine zai (gd_f rfl rfl rfl) rfl rfl (zah [] [] [] rfl (ev1 rfl) (ec (ev2 rfl) (ec (evwk (ev2 rfl) (Wk.of_eq (by rw [show (ids.length : Int) - (foN ids ((more.take 6 ++ [(⟨4, 1, 1⟩ : I3)])[k]).t : Int) = ((ids.length - foN ids ((more.take 6 ++ [(⟨4, 1, 1⟩ : I3)])[k]).t : Nat) : Int) by omega]))) en)) rfl rfl (from_d (foN ids ((more.take 6 ++ [(⟨4, 1, 1⟩ : I3)])[k]).t : Int) (ids.length - foN ids ((more.take 6 ++ [(⟨4, 1, 1⟩ : I3)])[k]).t) (by omega) (by omega)) rfl rfl rfl rfl rfl rfl) ?_
        refine zai (gd_f rfl rfl rfl) rfl rfl (zah [] [] [] rfl (ev1 rfl) (ec (ev2 rfl) (ec (ev2 rfl) (ec (ev2 rfl) en))) rfl rfl (shows_d (foldM (rowM ids 0) ((more.take 6 ++ [(⟨4, 1, 1⟩ : I3)])[k]).t) (ids.drop (foN ids ((more.take 6 ++ [(⟨4, 1, 1⟩ : I3)])[k]).t)) _ (by omega)) rfl rfl rfl rfl rfl rfl) ?_
        refine zai (gd_f rfl rfl rfl) rfl rfl (op_not rfl (ev2 rfl)) ?_
        refine zag rfl rfl (op_or rfl (ev1 rfl) (ev3 rfl id)) ?_
        refine lex_nil ?_
        refine dwp_if_f rfl (by rw [hsd, hsf]; rfl) ?_
        refine zal ?_
        refine zad ?_
        refine zab rfl rfl rfl (op_add' rfl (ev1 rfl) (ev1 rfl) (fun _ => IntWalk.i64_in _ (by omega))) ?_
        refine zab rfl rfl rfl (zac (.inl rfl) (ev1 rfl)) ?_
        refine zaf ?_
        refine ⟨k + 1, [0, 1], by omega, by simp only []; omega, rfl, ⟨rfl, rfl, rfl, rfl, rfl, rfl, rfl, rfl, trivial⟩, ⟨rfl, rfl, trivial⟩⟩
    · try simp only [decide_eq_true_eq, decide_eq_false_iff_not, beq_iff_eq, bne_iff_ne, beq_eq_false_iff_ne, bne_eq_false_iff_eq, Bool.not_eq_true', Bool.not_eq_false', Bool.and_eq_true, Bool.or_eq_true, Bool.or_eq_false_iff, ne_eq, Decidable.not_not, Int.not_lt, Int.not_le] at c2
      refine dwp_exit ?_
      refine zae ?_
      by_cases hd : (decide (1 ≤ e) && rsB more) = true
      · have hdb : dueB (rowM ids 0) more e = true := by rw [dueB_rt, hr, hd]; rfl
        have he1 : 1 ≤ e := by simp at hd; omega
        have hdm : dueM (rowM ids 0) more e = dueL e (kpI ids more) := by unfold dueM; rw [if_pos hdb, behI_kp (rowM_ids ids 0)]
        refine zad ?_
        refine zab rfl rfl rfl (zac (.inr rfl) (ev1 rfl)) ?_
        refine zaf ?_
        refine zae ?_
        refine zae ?_
        refine zad ?_
        refine zab rfl rfl rfl (zac (.inl rfl) (ev1 rfl)) ?_
        refine zab rfl rfl rfl (zac (.inl rfl) (ev1 rfl)) ?_
        refine zaj (gd_t rfl rfl rfl) rfl rfl rfl (zac (.inl rfl) (ev1 rfl)) ?_
        refine zaj (gd_t rfl rfl rfl) rfl rfl rfl (op_geq rfl (ev2 rfl) (ev1 rfl)) ?_
        refine zab rfl rfl rfl (op_and rfl (ev1 rfl) (ev3 rfl id)) ?_
        refine zab rfl rfl rfl (zac (.inl rfl) (ev1 rfl)) ?_
        refine zaj (gd_t rfl rfl rfl) rfl rfl rfl (zac (.inl rfl) (ev1 rfl)) ?_
        refine zaj (gd_t rfl rfl rfl) rfl rfl rfl (zah [] [] [] rfl (ev1 rfl) (ec (ev2 rfl) en) rfl rfl (rises_d _) rfl rfl rfl rfl rfl rfl) ?_
        refine zab rfl rfl rfl (op_and rfl (ev1 rfl) (ev3 rfl id)) ?_
        refine zaf ?_
        refine dwp_if_t rfl (by rw [hr]; exact hd) ?_
        refine zad ?_
        refine zab rfl rfl rfl (zac (.inl rfl) (ev1 rfl)) ?_
        refine zab rfl rfl rfl (zac (.inl rfl) (ev1 rfl)) ?_
        refine zab rfl rfl rfl (zac (.inl rfl) (ev1 rfl)) ?_
        refine zab rfl rfl rfl (zah [] [] [] rfl (ev1 rfl) (ec (ev1 rfl) (ec (ev1 rfl) (ec (ev1 rfl) en))) rfl rfl (rdue_d ids more e (by omega) he1) rfl rfl rfl rfl rfl rfl) ?_
        refine zab rfl rfl rfl (zac (.inr rfl) (ev1 rfl)) ?_
        refine zaf ?_
        refine zae ?_
        refine zad ?_
        refine zab rfl rfl rfl (zac (.inr rfl) (ev1 rfl)) ?_
        refine zaf ?_
        refine zae ?_
        refine zae ?_
        refine zad ?_
        refine zab rfl rfl rfl (zac (.inl rfl) (ev1 rfl)) ?_
        refine zaf ?_
        refine dwp_if_t rfl (by rw [hr]) ?_
        refine zad ?_
        refine zab rfl rfl rfl (zac (.inl rfl) (ev1 rfl)) ?_
        refine zab rfl rfl rfl (zac (.inr rfl) (ev1 rfl)) ?_
        refine zaf ?_
        refine zae ?_
        refine zad ?_
        refine zab rfl rfl rfl (zac (.inl rfl) (ev1 rfl)) ?_
        refine zab rfl rfl rfl (zac (.inl rfl) (ev1 rfl)) ?_
        refine zab rfl rfl rfl (zac (.inl rfl) (ev1 rfl)) ?_
        refine zab rfl rfl rfl (zah [] [] [] rfl (ev1 rfl) (ec (ev1 rfl) (ec (ev1 rfl) (ec (ev1 rfl) en))) rfl rfl (due_d (rowM ids 0) more e (by omega) (by omega)) rfl rfl rfl rfl rfl rfl) ?_
        refine zab rfl rfl rfl (zac (.inl rfl) (ev1 rfl)) ?_
        refine zab rfl rfl rfl (zah [] [] [] rfl (ev1 rfl) (ec (ev1 rfl) (ec (ev1 rfl) en)) rfl rfl (equalI (dueM (rowM ids 0) more e) (dueL e (kpI ids more))) rfl rfl rfl rfl rfl rfl) ?_
        refine zab rfl rfl rfl (zac (.inl rfl) (ev1 rfl)) ?_
        refine zaj (gd_t rfl rfl rfl) rfl rfl rfl (zac (.inl rfl) (ev1 rfl)) ?_
        refine zaj (gd_t rfl rfl rfl) rfl rfl rfl (zah [] [] [] rfl (ev1 rfl) (ec (ev2 rfl) en) rfl rfl (Ids_d (rowM ids 0) (by omega)) rfl rfl rfl rfl rfl rfl) ?_
        refine zaj (gd_t rfl rfl rfl) rfl rfl rfl (zac (.inl rfl) (ev1 rfl)) ?_
        refine zaj (gd_t rfl rfl rfl) rfl rfl rfl (zah [] [] [] rfl (ev1 rfl) (ec (ev2 rfl) (ec (ev2 rfl) en)) rfl rfl (equalI (idsC (rowM ids 0)) ids) rfl rfl rfl rfl rfl rfl) ?_
        refine zab rfl rfl rfl (op_and rfl (ev1 rfl) (ev3 rfl id)) ?_
        refine zab rfl rfl rfl (zac (.inr rfl) (ev1 rfl)) ?_
        refine zaf ?_
        refine dwp_ret ?_
        refine kend0 (rs1 rfl (rv_t rfl)) rfl ?_
        have hic : idsC (rowM ids 0) = ids := by unfold idsC; rw [if_pos hcl, rowM_ids]
        rw [hdm, hic]
        simp
      · have hdb : dueB (rowM ids 0) more e = false := by rw [dueB_rt, hr, Bool.not_eq_true _ |>.mp hd]; rfl
        have hdm : dueM (rowM ids 0) more e = [] := by unfold dueM; rw [if_neg (by rw [hdb]; decide)]
        refine zad ?_
        refine zab rfl rfl rfl (zac (.inr rfl) (ev1 rfl)) ?_
        refine zaf ?_
        refine zae ?_
        refine zae ?_
        refine zad ?_
        refine zab rfl rfl rfl (zac (.inl rfl) (ev1 rfl)) ?_
        refine zab rfl rfl rfl (zac (.inl rfl) (ev1 rfl)) ?_
        refine zaj (gd_t rfl rfl rfl) rfl rfl rfl (zac (.inl rfl) (ev1 rfl)) ?_
        refine zaj (gd_t rfl rfl rfl) rfl rfl rfl (op_geq rfl (ev2 rfl) (ev1 rfl)) ?_
        refine zab rfl rfl rfl (op_and rfl (ev1 rfl) (ev3 rfl id)) ?_
        refine zab rfl rfl rfl (zac (.inl rfl) (ev1 rfl)) ?_
        refine zaj (gd_t rfl rfl rfl) rfl rfl rfl (zac (.inl rfl) (ev1 rfl)) ?_
        refine zaj (gd_t rfl rfl rfl) rfl rfl rfl (zah [] [] [] rfl (ev1 rfl) (ec (ev2 rfl) en) rfl rfl (rises_d _) rfl rfl rfl rfl rfl rfl) ?_
        refine zab rfl rfl rfl (op_and rfl (ev1 rfl) (ev3 rfl id)) ?_
        refine zaf ?_
        refine dwp_if_f rfl (by rw [hr]; exact Bool.not_eq_true _ |>.mp hd) ?_
        refine zal ?_
        refine zae ?_
        refine zad ?_
        refine zab rfl rfl rfl (zac (.inr rfl) (ev1 rfl)) ?_
        refine zaf ?_
        refine zae ?_
        refine zae ?_
        refine zad ?_
        refine zab rfl rfl rfl (zac (.inl rfl) (ev1 rfl)) ?_
        refine zaf ?_
        refine dwp_if_t rfl (by rw [hr]) ?_
        refine zad ?_
        refine zab rfl rfl rfl (zac (.inl rfl) (ev1 rfl)) ?_
        refine zab rfl rfl rfl (zac (.inr rfl) (ev1 rfl)) ?_
        refine zaf ?_
        refine zae ?_
        refine zad ?_
        refine zab rfl rfl rfl (zac (.inl rfl) (ev1 rfl)) ?_
        refine zab rfl rfl rfl (zac (.inl rfl) (ev1 rfl)) ?_
        refine zab rfl rfl rfl (zac (.inl rfl) (ev1 rfl)) ?_
        refine zab rfl rfl rfl (zah [] [] [] rfl (ev1 rfl) (ec (ev1 rfl) (ec (ev1 rfl) (ec (ev1 rfl) en))) rfl rfl (due_d (rowM ids 0) more e (by omega) (by omega)) rfl rfl rfl rfl rfl rfl) ?_
        refine zab rfl rfl rfl (zac (.inl rfl) (ev1 rfl)) ?_
        refine zab rfl rfl rfl (zah [] [] [] rfl (ev1 rfl) (ec (ev1 rfl) (ec (evwk (ev1 rfl) (Wk.slf0 3)) en)) rfl rfl (equalI (dueM (rowM ids 0) more e) []) rfl rfl rfl rfl rfl rfl) ?_
        refine zab rfl rfl rfl (zac (.inl rfl) (ev1 rfl)) ?_
        refine zaj (gd_t rfl rfl rfl) rfl rfl rfl (zac (.inl rfl) (ev1 rfl)) ?_
        refine zaj (gd_t rfl rfl rfl) rfl rfl rfl (zah [] [] [] rfl (ev1 rfl) (ec (ev2 rfl) en) rfl rfl (Ids_d (rowM ids 0) (by omega)) rfl rfl rfl rfl rfl rfl) ?_
        refine zaj (gd_t rfl rfl rfl) rfl rfl rfl (zac (.inl rfl) (ev1 rfl)) ?_
        refine zaj (gd_t rfl rfl rfl) rfl rfl rfl (zah [] [] [] rfl (ev1 rfl) (ec (ev2 rfl) (ec (ev2 rfl) en)) rfl rfl (equalI (idsC (rowM ids 0)) ids) rfl rfl rfl rfl rfl rfl) ?_
        refine zab rfl rfl rfl (op_and rfl (ev1 rfl) (ev3 rfl id)) ?_
        refine zab rfl rfl rfl (zac (.inr rfl) (ev1 rfl)) ?_
        refine zaf ?_
        refine dwp_ret ?_
        refine kend0 (rs1 rfl (rv_t rfl)) rfl ?_
        have hic : idsC (rowM ids 0) = ids := by unfold idsC; rw [if_pos hcl, rowM_ids]
        rw [hdm, hic]
        simp
  · have hrf := Bool.not_eq_true _ |>.mp hr
    have hcl : chkM (rowM ids 0) = false := by rw [hcr]; exact hrf
    have hrrl : (more.take 6 ++ [(⟨4, 1, 1⟩ : I3)]).length ≤ 7 := by rw [List.length_append, List.length_take]; simp; omega
    refine zak 2 (by simp only [holes, List.cons_append, List.nil_append]; exact rfl) ?_
    refine zad ?_
    refine zab rfl rfl rfl (zac (.inl rfl) (ev1 rfl)) ?_
    refine zan rfl rfl rfl (zah [] [] [0] rfl (ev1 rfl) (ec (ev1 rfl) (ec (ev1 rfl) en)) rfl rfl (few_o more 6 (by decide)) rfl rfl rfl rfl rfl rfl) (by simp only [upd, za, zaa]; exact rfl) ?_
    refine zab rfl rfl rfl (zah [] [] [] rfl (ev1 rfl) (ec (ev1 rfl) en) rfl rfl (id_d 4) rfl rfl rfl rfl rfl rfl) ?_
    refine zab rfl rfl rfl (op_bs (ps := [(0, .tmp 33)]) rfl sl22 zr35 rfl (vc (ev1 rfl) vn) rfl (by decide) (by decide)) ?_
    refine zan rfl rfl rfl (((op_app (j := 1) rfl sl22 zr35 rfl (ev1 rfl) (ev1 rfl) src_slf rfl rfl (fun _ => rfl) (fun _ => ⟨by rw [List.length_take]; omega, by rw [List.length_take]; omega⟩)).giveA2 rfl rfl).cast (d' := .slf 3 (more.take 6 ++ [(⟨4, 1, 1⟩ : I3)]).length ((more.take 6 ++ [(⟨4, 1, 1⟩ : I3)]).flatMap idc)) (by rw [List.length_append, List.flatMap_append]; rfl)) (by simp only [upd, za, zaa]; exact rfl) ?_
    refine zab rfl rfl rfl (op_len rfl sl22 (ev1 rfl)) ?_
    refine zab rfl rfl rfl (zac (.inl rfl) (ev1 rfl)) ?_
    refine zaf ?_
    refine zam ?_
    refine dwp_loopS ⟨hs0, rfl⟩ (α := Nat) (fun k => [(37, .val (.int .i64 (k : Int)))]) [(2, _), (7, _), (8, _), (9, _), (10, _), (35, _), (36, _)] (fun k => []) [_, _] (fun k => k ≤ (more.take 6 ++ [(⟨4, 1, 1⟩ : I3)]).length) (fun k => (more.take 6 ++ [(⟨4, 1, 1⟩ : I3)]).length - k) 0 [0, 1] (Nat.zero_le _) rfl ⟨rfl, rfl, rfl, rfl, rfl, rfl, rfl, trivial⟩ ⟨rfl, trivial⟩ ⟨rfl, rfl, trivial⟩ ?_
    intro k hx
    simp only [upd, za, zaa, List.cons_append, List.nil_append]
    have hk := hx
    refine zae ?_
    refine zad ?_
    refine zab rfl rfl rfl (op_lss rfl (ev1 rfl) (ev1 rfl)) ?_
    refine zaf ?_
    refine zae ?_
    refine dwp_cond rfl (fun c13 => ?_) (fun c13 => ?_)
    · try simp only [decide_eq_true_eq, decide_eq_false_iff_not, beq_iff_eq, bne_iff_ne, beq_eq_false_iff_ne, bne_eq_false_iff_eq, Bool.not_eq_true', Bool.not_eq_false', Bool.and_eq_true, Bool.or_eq_true, Bool.or_eq_false_iff, ne_eq, Decidable.not_not, Int.not_lt, Int.not_le] at c13
      refine zal ?_
      refine zae ?_
      refine zam ?_
      refine zae ?_
      have hkl0 : k < (more.take 6 ++ [(⟨4, 1, 1⟩ : I3)]).length := by omega
      refine zak 1 (by simp only [holes, List.cons_append, List.nil_append]; exact rfl) ?_
      refine zad ?_
      refine zab rfl rfl rfl (op_ixsr (j := k) rfl sl22 (ev1 rfl) (ev1 rfl) (fun _ => rfl) (by decide) (by omega) (by omega)) ?_
      refine zab rfl rfl rfl (op_ldwd rfl tb35 (ev1 rfl) rfl) ?_
      refine zan rfl rfl rfl (op_alloc 2 rfl zr35 rfl) (by simp only [upd, za, zaa]; exact rfl) ?_
      refine walk_s rfl rfl (op_stwa rfl tb35 (ev1 rfl) (ev1 rfl) rfl rfl rfl rfl) (by simp only [upd, za, zaa]; exact rfl) ?_
      refine zaf ?_
      refine zae ?_
      have hdm : dropM (rowM ids 0) (more.take 6 ++ [(⟨4, 1, 1⟩ : I3)])[k] = [] := by unfold dropM; rw [if_neg (by rw [hcl]; decide)]
      have hfm : foldM (rowM ids 0) ((more.take 6 ++ [(⟨4, 1, 1⟩ : I3)])[k]).t = [] := by unfold foldM; rw [if_neg (by rw [hcl]; decide)]
      have hdl : (dropM (rowM ids 0) (more.take 6 ++ [(⟨4, 1, 1⟩ : I3)])[k]).length ≤ 5000 := by rw [hdm]; decide
      have hfll : (foldM (rowM ids 0) ((more.take 6 ++ [(⟨4, 1, 1⟩ : I3)])[k]).t).length ≤ 5000 := by rw [hfm]; decide
      refine zak 1 (by simp only [holes, List.cons_append, List.nil_append]; exact rfl) ?_
      refine zad ?_
      refine zab rfl rfl rfl (zac (.inl rfl) (ev1 rfl)) ?_
      refine zab rfl rfl rfl (op_ldw rfl tb35 (ev1 rfl) rfl rfl) ?_
      refine zab rfl rfl rfl (zah [] [] [] rfl (ev1 rfl) (ec (ev1 rfl) (ec (ev1 rfl) en)) rfl rfl ((below_v (rowM ids 0) (by omega) (more.take 6 ++ [(⟨4, 1, 1⟩ : I3)])[k] hcl).wk wkZ) rfl rfl rfl rfl rfl rfl) ?_
      refine zab rfl rfl rfl (zac (.inl rfl) (ev1 rfl)) ?_
      refine zab rfl rfl rfl (op_ext rfl (ev1 rfl) rfl) ?_
      refine zab rfl rfl rfl (op_ext rfl (ev1 rfl) rfl) ?_
      refine zan rfl rfl rfl (op_alloc 3 rfl zr44 rfl) (by simp only [upd, za, zaa]; exact rfl) ?_
      refine walk_s rfl rfl (op_stwa rfl tb44 (ev1 rfl) (ev1 rfl) rfl rfl rfl rfl) (by simp only [upd, za, zaa]; exact rfl) ?_
      refine zab rfl rfl rfl (zac (.inr rfl) (ev1 rfl)) ?_
      refine zaf ?_
      refine zae ?_
      refine dwp_draw [([], []), ([2], []), ([], []), ([], []), ([], []), ([2], []), ([], []), ([], []), ([], [])] mixed (by kernel_rfl) ?_
      refine zag rfl rfl (zac (.inl rfl) (ev1 rfl)) ?_
      refine zag rfl rfl (op_ldw rfl tb35 (ev1 rfl) rfl rfl) ?_
      refine zag rfl rfl (zah [] [] [] rfl (ev1 rfl) (ec (ev1 rfl) (ec (ev1 rfl) en)) rfl rfl (drop_d (rowM ids 0) (by omega) (more.take 6 ++ [(⟨4, 1, 1⟩ : I3)])[k]) rfl rfl rfl rfl rfl rfl) ?_
      refine zag rfl rfl (zac (.inl rfl) (ev1 rfl)) ?_
      refine zag rfl rfl (op_fa rfl fo35_0 (ev1 rfl)) ?_
      refine zag rfl rfl (op_ldo rfl tb33 (ev1 rfl) rfl rfl) ?_
      refine zag rfl rfl (zah [] [] [] rfl (ev1 rfl) (ec (ev1 rfl) (ec (ev1 rfl) en)) rfl rfl (fold_d (rowM ids 0) (by omega) ((more.take 6 ++ [(⟨4, 1, 1⟩ : I3)])[k]).t) rfl rfl rfl rfl rfl rfl) ?_
      refine zag rfl rfl (zac (.inr rfl) (ev1 rfl)) ?_
      refine zag rfl rfl (zac (.inr rfl) (ev1 rfl)) ?_
      refine lex_nil ?_
      refine zae ?_
      refine zad ?_
      refine zab rfl rfl rfl (zac (.inl rfl) (ev1 rfl)) ?_
      refine zab rfl rfl rfl (op_len rfl sl22 (ev1 rfl)) ?_
      refine zab rfl rfl rfl (zac (.inr rfl) (ev1 rfl)) ?_
      refine zab rfl rfl rfl (zac (.inr rfl) (ev1 rfl)) ?_
      refine zaf ?_
      refine zae ?_
      refine zae ?_
      refine zad ?_
      refine zab rfl rfl rfl (zac (.inl rfl) (ev1 rfl)) ?_
      refine zaf ?_
      refine dwp_if_f rfl (by rw [hrf]) ?_
      refine zal ?_
      refine zae ?_
      refine zae ?_
      refine dwp_draw [([], []), ([], []), ([], []), ([], []), ([], []), ([], []), ([], []), ([], []), ([], []), ([], []), ([], []), ([], []), ([], []), ([], []), ([], []), ([], []), ([], []), ([], []), ([], []), ([], []), ([], []), ([], []), ([], []), ([], []), ([], []), ([], []), ([], []), ([], []), ([3], []), ([], []), ([], []), ([], []), ([], [])] mixed (by kernel_rfl) ?_
      refine zag rfl rfl (zac (.inl rfl) (ev1 rfl)) ?_
      refine zag rfl rfl (zac (.inl rfl) (ev1 rfl)) ?_
      refine zag rfl rfl ((op_geq rfl (ev1 rfl) (ev1 rfl)).cast (d' := .val (.bool false)) (by kernel_rfl)) ?_
      refine zag rfl rfl ((op_neb rfl un4 (ev1 rfl) (ev1 rfl)).cast (d' := .val (.bool false)) (by kernel_rfl)) ?_
      refine zag rfl rfl (zac (.inl rfl) (ev1 rfl)) ?_
      refine lex_k (gd_f (b := false) rfl rfl rfl) rfl rfl (zac (.inl rfl) (ev1 rfl)) rfl (by simp only [upd, za, zaa]; exact rfl) ?_
      refine lex_k (gd_f (b := false) rfl rfl rfl) rfl rfl (zac (.inl rfl) (ev2 rfl)) rfl (by simp only [upd, za, zaa]; exact rfl) ?_
      refine zai (gd_tt (g := true) (b := false) rfl rfl rfl) rfl rfl (dop_never (d := .junk)) ?_
      refine zai (gd_tt (g := true) (b := false) rfl rfl rfl) rfl rfl (dop_never (d := .junk)) ?_
      refine zai (gd_tt (g := true) (b := false) rfl rfl rfl) rfl rfl (dop_never (d := .junk)) ?_
      refine zai (gd_tt (g := true) (b := false) rfl rfl rfl) rfl rfl (dop_never (d := .junk)) ?_
      refine zai (gd_tt (g := true) (b := false) rfl rfl rfl) rfl rfl (dop_never (d := .junk)) ?_
      refine zai (gd_tt (g := true) (b := false) rfl rfl rfl) rfl rfl (dop_never (d := .junk)) ?_
      refine zai (gd_tt (g := true) (b := false) rfl rfl rfl) rfl rfl (dop_never (d := .val (.bool false))) ?_
      refine zai (gd_tt (g := true) (b := false) rfl rfl rfl) rfl rfl (dop_never (d := .val (.bool false))) ?_
      refine zai (gd_ff (g := false) (b := false) rfl rfl rfl) rfl rfl (dop_never (d := .junk)) ?_
      refine zai (gd_ff (g := false) (b := false) rfl rfl rfl) rfl rfl (dop_never (d := .junk)) ?_
      refine zai (gd_ff (g := false) (b := false) rfl rfl rfl) rfl rfl (dop_never (d := .junk)) ?_
      refine zai (gd_ff (g := false) (b := false) rfl rfl rfl) rfl rfl (dop_never (d := .junk)) ?_
      refine zai (gd_ff (g := false) (b := false) rfl rfl rfl) rfl rfl (dop_never (d := .val (.bool false))) ?_
      refine zai (gd_ff (g := false) (b := false) rfl rfl rfl) rfl rfl (dop_never (d := .val (.bool false))) ?_
      refine zai (gd_tt (g := true) (b := false) rfl rfl rfl) rfl rfl (dop_never (d := .val (.bool false))) ?_
      refine lex_k (gd_f (b := false) rfl rfl rfl) rfl rfl ((op_and rfl (ev2 rfl) (ev3 rfl id)).cast (d' := .val (.bool false)) (by rfl)) rfl (by simp only [upd, za, zaa]; exact rfl) ?_
      refine zag rfl rfl ((op_or rfl (ev1 rfl) (ev3 rfl (fun _ => rfl))).cast (d' := .val (.bool false)) (by rfl)) ?_
      refine zag rfl rfl (zac (.inl rfl) (ev1 rfl)) ?_
      refine lex_k (gd_f (b := false) rfl rfl rfl) rfl rfl (zac (.inl rfl) (ev1 rfl)) rfl (by simp only [upd, za, zaa]; exact rfl) ?_
      refine lex_k (gd_f (b := false) rfl rfl rfl) rfl rfl ((op_not rfl (ev2 rfl)).cast (d' := .val (.bool true)) (by kernel_rfl)) rfl (by simp only [upd, za, zaa]; exact rfl) ?_
      refine lex_k (gd_f (b := false) rfl rfl rfl) rfl rfl (zac (.inl rfl) (ev2 rfl)) rfl (by simp only [upd, za, zaa]; exact rfl) ?_
      refine lex_k (gd_tt (g := true) (b := true) rfl rfl rfl) rfl rfl (op_ldw rfl tb44 (ev1 rfl) rfl rfl) rfl (by simp only [upd, za, zaa]; exact rfl) ?_
      refine lex_k (gd_tt (g := true) (b := true) rfl rfl rfl) rfl rfl (op_build0 rfl fl44 zr44) rfl (by simp only [upd, za, zaa]; exact rfl) ?_
      refine lex_k (gd_tt (g := true) (b := true) rfl rfl rfl) rfl rfl (op_ner eqZ rfl gd44 tb44 (ev2 rfl) (ev2 rfl)) rfl (by simp only [upd, za, zaa]; exact rfl) ?_
      refine lex_k (gd_f (b := false) rfl rfl rfl) rfl rfl (op_and rfl (ev2 rfl) (ev3 rfl (fun _ => rfl))) rfl (by simp only [upd, za, zaa]; exact rfl) ?_
      refine zag rfl rfl (op_or rfl (ev1 rfl) (ev3 rfl (fun _ => rfl))) ?_
      refine lex_nil ?_
      refine dwp_if_f rfl (by simp) ?_
      refine zal ?_
      refine zae ?_
      refine dwp_draw [([], []), ([], []), ([], []), ([], []), ([], []), ([], []), ([], []), ([], []), ([], []), ([], []), ([], []), ([], []), ([], []), ([], []), ([], []), ([], []), ([], []), ([], []), ([], []), ([], []), ([], []), ([], []), ([], []), ([], [])] mixed (by kernel_rfl) ?_
      refine zag rfl rfl (zac (.inl rfl) (ev1 rfl)) ?_
      refine zag rfl rfl (zac (.inl rfl) (ev1 rfl)) ?_
      refine zag rfl rfl (zac (.inl rfl) (ev1 rfl)) ?_
      refine zag rfl rfl ((op_add' rfl (ev1 rfl) (ev1 rfl) (fun _ => IntWalk.i64_in _ (by omega))).cast (d' := .val (.int .i64 0)) (by kernel_rfl)) ?_
      refine zag rfl rfl (op_sltk (j := 0) rfl sl22 (ev1 rfl) (bd_some (ev1 rfl)) (fun _ => by omega) (fun _ => by omega) (fun _ => rfl)) ?_
      refine zag rfl rfl (zac (.inl rfl) (ev1 rfl)) ?_
      refine zag rfl rfl ((op_add' rfl (ev1 rfl) (ev1 rfl) (fun _ => IntWalk.i64_in _ (by omega))).cast (d' := .val (.int .i64 0)) (by kernel_rfl)) ?_
      refine zag rfl rfl (zah [] [] [] rfl (ev1 rfl) (ec (ev1 rfl) (ec (ev1 rfl) en)) rfl rfl (from_d 0 0 (by decide) (by decide)) rfl rfl rfl rfl rfl rfl) ?_
      refine zag rfl rfl (zah [] [] [] rfl (ev1 rfl) (ec (ev1 rfl) (ec (ev1 rfl) (ec (ev1 rfl) en))) rfl rfl (shows_d (dropM (rowM ids 0) (more.take 6 ++ [(⟨4, 1, 1⟩ : I3)])[k]) (ids.take 0) (fromN 0 0) (by omega)) rfl rfl rfl rfl rfl rfl) ?_
      refine zag rfl rfl (op_not rfl (ev1 rfl)) ?_
      refine zag rfl rfl (zac (.inl rfl) (ev1 rfl)) ?_
      refine zai (gd_f rfl rfl rfl) rfl rfl (zac (.inl rfl) (ev1 rfl)) ?_
      refine zai (gd_f rfl rfl rfl) rfl rfl (zac (.inl rfl) (ev1 rfl)) ?_
      refine zai (gd_f rfl rfl rfl) rfl rfl (zac (.inl rfl) (ev1 rfl)) ?_
      refine zai (gd_f rfl rfl rfl) rfl rfl (op_sldr (i := ids.length) rfl sl22 (ev2 rfl) (bd_some (ev2 rfl)) (fun _ => rfl) (fun _ => by omega) (fun _ => rfl)) ?_
      refine zai (gd_f rfl rfl rfl) rfl rfl (zac (.inl rfl) (ev1 rfl)) ?_
      refine zai (gd_f rfl rfl rfl) rfl rfl (zac (.inl rfl) (ev1 rfl)) ?_
      refine zai (gd_f rfl rfl rfl) rfl rfl (op_len rfl sl22 (ev2 rfl)) ?_
      refine zai (gd_f rfl rfl rfl) rfl rfl (zac (.inl rfl) (ev1 rfl)) ?_
      refine zai (gd_f rfl rfl rfl) rfl rfl (op_sub' rfl (ev2 rfl) (ev2 rfl) (fun hp => IntWalk.i64_in _ (by first | omega | (simp at hp; omega)))) ?_
      refine zai (gd_f rfl rfl rfl) rfl rfl (zah [] [] [] rfl (ev1 rfl) (ec (ev2 rfl) (ec (evwk (ev2 rfl) (Wk.of_eq (by rw [Int.sub_self]))) en)) rfl rfl (from_d (ids.length : Int) 0 (by decide) (by omega)) rfl rfl rfl rfl rfl rfl) ?_
      refine zai (gd_f rfl rfl rfl) rfl rfl (zah [] [] [] rfl (ev1 rfl) (ec (ev2 rfl) (ec (ev2 rfl) (ec (ev2 rfl) en))) rfl rfl (shows_d (foldM (rowM ids 0) ((more.take 6 ++ [(⟨4, 1, 1⟩ : I3)])[k]).t) (ids.drop ids.length) (fromN (ids.length : Int) 0) (by omega)) rfl rfl rfl rfl rfl rfl) ?_
      refine zai (gd_f rfl rfl rfl) rfl rfl (op_not rfl (ev2 rfl)) ?_
      refine zag rfl rfl (op_or rfl (ev1 rfl) (ev3 rfl id)) ?_
      refine lex_nil ?_
      refine dwp_if_f rfl (by rw [hdm, hfm, List.take_zero, List.drop_length]; rw [show fromN 0 0 = [] from by unfold fromN; rfl, show fromN (ids.length : Int) 0 = [] from by unfold fromN; rfl, sh_nil]; rfl) ?_
      refine zal ?_
      refine zad ?_
      refine zab rfl rfl rfl (op_add' rfl (ev1 rfl) (ev1 rfl) (fun _ => IntWalk.i64_in _ (by omega))) ?_
      refine zab rfl rfl rfl (zac (.inl rfl) (ev1 rfl)) ?_
      refine zaf ?_
      refine ⟨k + 1, [0, 1], by omega, by simp only []; omega, rfl, ⟨rfl, rfl, rfl, rfl, rfl, rfl, rfl, rfl, trivial⟩, ⟨rfl, rfl, trivial⟩⟩
    · try simp only [decide_eq_true_eq, decide_eq_false_iff_not, beq_iff_eq, bne_iff_ne, beq_eq_false_iff_ne, bne_eq_false_iff_eq, Bool.not_eq_true', Bool.not_eq_false', Bool.and_eq_true, Bool.or_eq_true, Bool.or_eq_false_iff, ne_eq, Decidable.not_not, Int.not_lt, Int.not_le] at c13
      refine dwp_exit ?_
      refine zae ?_
      have hdm : dueM (rowM ids 0) more e = [] := by unfold dueM; rw [if_neg (by rw [dueB_rt, hrf]; simp)]
      refine zad ?_
      refine zab rfl rfl rfl (zac (.inr rfl) (ev1 rfl)) ?_
      refine zaf ?_
      refine zae ?_
      refine zae ?_
      refine zad ?_
      refine zab rfl rfl rfl (zac (.inl rfl) (ev1 rfl)) ?_
      refine zab rfl rfl rfl (zac (.inl rfl) (ev1 rfl)) ?_
      refine zaj (gd_t rfl rfl rfl) rfl rfl rfl (zac (.inl rfl) (ev1 rfl)) ?_
      refine zaj (gd_t rfl rfl rfl) rfl rfl rfl (op_geq rfl (ev2 rfl) (ev1 rfl)) ?_
      refine zab rfl rfl rfl (op_and rfl (ev1 rfl) (ev3 rfl id)) ?_
      refine zab rfl rfl rfl (zac (.inl rfl) (ev1 rfl)) ?_
      refine zaj (gd_t rfl rfl rfl) rfl rfl rfl (zac (.inl rfl) (ev1 rfl)) ?_
      refine zaj (gd_t rfl rfl rfl) rfl rfl rfl (zah [] [] [] rfl (ev1 rfl) (ec (ev2 rfl) en) rfl rfl (rises_d _) rfl rfl rfl rfl rfl rfl) ?_
      refine zab rfl rfl rfl (op_and rfl (ev1 rfl) (ev3 rfl id)) ?_
      refine zaf ?_
      refine dwp_if_f rfl (by rw [hrf]; rfl) ?_
      refine zal ?_
      refine zae ?_
      refine zad ?_
      refine zab rfl rfl rfl (zac (.inr rfl) (ev1 rfl)) ?_
      refine zaf ?_
      refine zae ?_
      refine zae ?_
      refine zad ?_
      refine zab rfl rfl rfl (zac (.inl rfl) (ev1 rfl)) ?_
      refine zaf ?_
      refine dwp_if_f rfl (by rw [hrf]) ?_
      refine zal ?_
      refine zae ?_
      refine zad ?_
      refine zab rfl rfl rfl (zac (.inl rfl) (ev1 rfl)) ?_
      refine zab rfl rfl rfl (zac (.inl rfl) (ev1 rfl)) ?_
      refine zab rfl rfl rfl (zac (.inl rfl) (ev1 rfl)) ?_
      refine zab rfl rfl rfl (zah [] [] [] rfl (ev1 rfl) (ec (ev1 rfl) (ec (ev1 rfl) (ec (ev1 rfl) en))) rfl rfl (due_d (rowM ids 0) more e (by omega) (by omega)) rfl rfl rfl rfl rfl rfl) ?_
      refine zab rfl rfl rfl (zac (.inl rfl) (ev1 rfl)) ?_
      refine zab rfl rfl rfl (zah [] [] [] rfl (ev1 rfl) (ec (ev1 rfl) (ec (evwk (ev1 rfl) (Wk.slf0 3)) en)) rfl rfl (equalI (dueM (rowM ids 0) more e) []) rfl rfl rfl rfl rfl rfl) ?_
      refine zab rfl rfl rfl (zac (.inl rfl) (ev1 rfl)) ?_
      refine zaj (gd_t rfl rfl rfl) rfl rfl rfl (zac (.inl rfl) (ev1 rfl)) ?_
      refine zaj (gd_t rfl rfl rfl) rfl rfl rfl (zah [] [] [] rfl (ev1 rfl) (ec (ev2 rfl) en) rfl rfl (Ids_d (rowM ids 0) (by omega)) rfl rfl rfl rfl rfl rfl) ?_
      refine zaj (gd_t rfl rfl rfl) rfl rfl rfl (zac (.inl rfl) (ev1 rfl)) ?_
      refine zaj (gd_t rfl rfl rfl) rfl rfl rfl (zah [] [] [] rfl (ev1 rfl) (ec (ev2 rfl) (ec (evwk (ev2 rfl) (Wk.slf0 3)) en)) rfl rfl (equalI (idsC (rowM ids 0)) []) rfl rfl rfl rfl rfl rfl) ?_
      refine zab rfl rfl rfl (op_and rfl (ev1 rfl) (ev3 rfl id)) ?_
      refine zab rfl rfl rfl (zac (.inr rfl) (ev1 rfl)) ?_
      refine zaf ?_
      refine dwp_ret ?_
      refine kend0 (rs1 rfl (rv_t rfl)) rfl ?_
      have hic : idsC (rowM ids 0) = [] := by unfold idsC; rw [if_neg (by rw [hcl]; decide)]
      rw [hdm, hic]
      simp
end Go.Proofs.Ytmpodnadoebclaa
