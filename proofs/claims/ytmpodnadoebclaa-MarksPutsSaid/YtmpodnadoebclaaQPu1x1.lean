/- Operations, one behind the other; a call by its contract; Operations: numbers, bools, structs, memory that is read and written. Conditions: what a type is, by the kernel; Operations on slices: made, cut, grown; tuples; function values; structs. Conditions: what a type is, by the kernel; Ends of calls; structs built; bools and strings compared; least and greatest; slices taken over, and given up. Conditions: what a type is, by the kernel; Codes within a function; a loop's rounds one by one; strings; Strings: put together, cut, indexed, ranged over; numbers by their bits; Memory that stays from now on, within a call; arrays as rows of elements; parts of arrays; Rows made by make, and copied into; parts of arrays with their room cut; Rows of one's own that hold data: begun as nil, appended to, given up; Structs of data: built, in rows, looked at, stored; Parts of structs of data that hold p. No condition. -/
import Derived.Test.YtmpodnadoebclaaQ5
import Derived.Test.YtmpodnadoebclaaRows
namespace Go.Proofs.Ytmpodnadoebclaa
set_option linter.unusedVariables false
set_option linter.unusedSimpArgs false
open Go.RowKit
section
variable {P : Program} {s0 : St} {n : Cx} {ops : Array Oper}
theorem gd_tt {o : Oper} {F : Fr} {j t : Nat} {g b : Bool} (h : o.guard = some (j, true)) (ht : (ops[j]?).bind (·.dst) = some t) (hl : lk F t = some (.opt g (.val (.bool b)))) : Gd ops o F (g && b) := by
  unfold Gd; rw [h]; exact ⟨t, g, b, ht, .inl hl, by simp⟩
end

/-! ### names turned back -/
end Go.Proofs.Ytmpodnadoebclaa
namespace Go.Proofs.Ytmpodnadoebclaa
set_option linter.unusedVariables false
set_option linter.unusedSimpArgs false
open Go.RowKit

/-! ### what a type is -/
section
variable {P : Program} {pc : Bool} {o : Oper} {F : Fr} {M : List Blk}
section
variable {T T' : TypeId} {x y : Operand} {k : IntKind} {p q : Int}
end
section
variable {T : TypeId} {x : Operand} {i p k : Nat} {L R : List Value} {v : Value}
theorem op_fad {f q : Nat} (ho : o.op = .fieldAddr T x f) (hT : fdO P T f = some q) (hx : Ev pc F x (.dpf L)) : DOp P pc o F M [] (.dpf (L.drop q)) [] := by
  intro hp a s hok hops hfp
  have hr := ev_at hp hx (by simp [ho, Op.operands]) hops
  generalize hv : a.eval x = vx at hr
  cases hr with
  | @dpf b c _ hI h =>
    refine dg_val hok (run_fieldAddr ho hT hv) (.dpf hI fun j v hj => ?_)
    rw [List.getElem?_drop] at hj
    rw [Nat.add_assoc]
    exact h _ v hj
end
section
variable {T : TypeId} {x y : Operand} {i p n sz : Nat} {k : IntKind} {z : Int} {L : List Value}
theorem op_ixd (ho : o.op = .indexAddr T x y) (hT : arE P T = some (n, sz)) (hx : Ev pc F x (.dpf L)) (hy : Ev pc F y (.val (.int k z))) (h : pc = true → 0 ≤ z ∧ z < n) : DOp P pc o F M [] (.dpf (L.drop (z.toNat * sz))) [] := by
  intro hp a s hok hops hfp
  have hr := ev_at hp hx (by simp [ho, Op.operands]) hops
  have h2 := (ev_at hp hy (by simp [ho, Op.operands]) hops).val_eq
  generalize hv : a.eval x = vx at hr
  cases hr with
  | @dpf b c _ hI hc =>
    refine dg_val hok (run_index_arr ho hT hv h2 (h hp).1 (h hp).2) (.dpf hI fun j v hj => ?_)
    rw [List.getElem?_drop] at hj
    rw [Nat.add_assoc]
    exact hc _ v hj
variable {e : TypeId} {by' m : Nat}
end
end
end Go.Proofs.Ytmpodnadoebclaa
namespace Go.Proofs.Ytmpodnadoebclaa
set_option linter.unusedVariables false
set_option linter.unusedSimpArgs false
open Go.RowKit
section
variable {P : Program} {pc : Bool} {o : Oper} {F : Fr} {M : List Blk}
theorem op_lena {T T' : TypeId} {x : Operand} {q : TypeId × Nat × Nat} {i sz n : Nat} {L : List Value} (ho : o.op = .call { callee := .builtin .len, args := #[x], argTypes := #[T] }) (hT : slE P T = some q) (hx : Ev pc F x (.arr i)) (hM : M[i]? = some (.arr T' sz n L)) : DOp P pc o F M [i] (.val (.int .i64 n)) [] := by
  intro hp a s hok hops hfp
  obtain ⟨e1, _⟩ := slE_spec hT
  have hr := ev_at hp hx (by simp [ho, Op.operands, Call.operands]) hops
  generalize hv : a.eval x = vx at hr
  cases hr with
  | arr h =>
    have hM' : s.M[i]? = some (.arr T' sz n L) := by rw [hfp i (by simp)]; exact hM
    have hk : s.w.ownsRow 0 T' sz _ n L := hok.blk i _ _ hM' h
    refine dg_val hok (run_builtin ho (fun cs => rfl) ?_) (.val (.int .i64 n))
    rcases hk.2 with ⟨e2, e3⟩ | ⟨g, cap, cur, e2, _⟩
    · cases e2; simp [Builtin.len_, hv, run_underlying e1, goInt, e3]
    · cases e2; simp [Builtin.len_, hv, run_underlying e1, goInt]
section
variable {T e : TypeId} {sz by' n : Nat} {ps : List (Nat × Operand)} {vs Z : List Value}
end

/-! ### append -/
end
end Go.Proofs.Ytmpodnadoebclaa
namespace Go.Proofs.Ytmpodnadoebclaa
set_option linter.unusedVariables false
set_option linter.unusedSimpArgs false
open Go.RowKit
section
variable {P : Program} {fn : Func} {F : Fr} {M : List Blk} {t u v : Tmp} {d d' e f dr : D}
end
section
variable {P : Program} {pc : Bool} {o : Oper} {F : Fr} {M : List Blk}

/-! ### structs built -/
theorem op_neb {T T' : TypeId} {x y : Operand} {p q : Bool} (ho : o.op = .binOp .neq T x y T') (hT : P.underlying T = some .bool) (hx : Ev pc F x (.val (.bool p))) (hy : Ev pc F y (.val (.bool q))) : DOp P pc o F M [] (.val (.bool (p != q))) [] :=
  op_nev ho hx hy (fun w => by unfold eqGuard; rfl) fun w => by
    have h : ∀ d, (Op.equalIn (d + 1) T (.bool p) (.bool q)).run P w = .ok (p == q) w := fun d => by simp [Op.equalIn, run_underlying hT]
    show (do pure (Value.bool (!(← Op.equalIn (9999 + 1) T (.bool p) (.bool q)))) : Sem Value).run P w = _
    rw [Sem.run_bind, h 9999]; rfl
end
section
variable {P : Program} {s0 : St} {n : Cx}
end
end Go.Proofs.Ytmpodnadoebclaa
namespace Go.Proofs.Ytmpodnadoebclaa
set_option linter.unusedVariables false
set_option linter.unusedSimpArgs false
open Go.RowKit
/-- an element, where there is one -/
theorem op_ixsg {P : Program} {pc : Bool} {o : Oper} {F : Fr} {M : List Blk} {T e : TypeId} {sz by' : Nat} {x y : Operand} {k : IntKind} {z : Int} {α : Type} {en : α → List Value} {l : List α} {j : Nat} (a0 : α) (ho : o.op = .indexAddr T x y) (hT : slE P T = some (e, sz, by')) (hx : Ev pc F x (.slf sz l.length (l.flatMap en))) (hy : Ev pc F y (.val (.int k z))) (hen : ∀ a, (en a).length = sz) (hsz : 0 < sz) (hz : pc = true → z = (j : Int)) (hj : pc = true → j < l.length) : DOp P pc o F M [] (.dpf (en (l.getD j a0))) [] := fun hp => by
  have h := op_ixsr (M := M) ho hT hx hy hen hsz (hz hp) (hj hp) hp
  rw [show l.getD j a0 = l[j]'(hj hp) by simp [List.getD_eq_getElem?_getD, hj hp]]
  exact h
theorem getD_at {α : Type} {l : List α} {j : Nat} {a0 : α} (h : j < l.length) : l.getD j a0 = l[j] := by simp [List.getD_eq_getElem?_getD, h]
section
variable {P : Program} {s0 : St} {n : Cx}
end
end Go.Proofs.Ytmpodnadoebclaa
namespace Go.Proofs.Ytmpodnadoebclaa
set_option linter.unusedVariables false
set_option linter.unusedSimpArgs false
open Go.RowKit
section
variable {P : Program} {pc : Bool} {o : Oper} {F : Fr} {M : List Blk}
end
section
variable {P : Program} {pc : Bool} {o : Oper} {F : Fr} {M : List Blk}
theorem op_sldr {α : Type} {en : α → List Value} {r : List α} {T e : TypeId} {sz by' : Nat} {x : Operand} {lo : Option Operand} {l : Int} {i : Nat} (ho : o.op = .slice T x lo none none) (hT : slE P T = some (e, sz, by')) (hx : Ev pc F x (.slf sz r.length (r.flatMap en))) (hlo : Bd pc F lo 0 l)
    (hl : pc = true → l = (i : Int)) (hij : pc = true → i ≤ r.length) (hen : ∀ a, (en a).length = sz) : DOp P pc o F M [] (.slf sz (r.drop i).length ((r.drop i).flatMap en)) [] := fun hp => by
  have h := op_slmd (M := M) (j := r.length) ho hT hx hlo bd_none hl (fun _ => rfl) (fun hp => ⟨hij hp, Nat.le_refl _⟩) hen hp
  rwa [List.take_of_length_le (by simp)] at h
end
end Go.Proofs.Ytmpodnadoebclaa
namespace Go.Proofs.Ytmpodnadoebclaa
set_option linter.unusedVariables false
set_option linter.unusedSimpArgs false
open Go.RowKit
section
variable {P : Program} {s0 : St} {n : Cx}
end
section
variable {P : Program} {pc : Bool} {o : Oper} {F : Fr} {M : List Blk} {T T' : TypeId} {x y : Operand} {i n sz : Nat} {k : IntKind} {z : Int} {α : Type} {en : α → List Value} {l : List α} {j : Nat}
/-- .. of one that stays -/
theorem op_ixdr (a0 : α) (ho : o.op = .indexAddr T x y) (hT : arE P T = some (n, sz)) (hx : Ev pc F x (.dpf (l.flatMap en))) (hy : Ev pc F y (.val (.int k z))) (hz : pc = true → z = (j : Int)) (hj : pc = true → j < n) (hl : l.length = n) (hen : ∀ a, (en a).length = sz) : DOp P pc o F M [] (.dpf (en (l.getD j a0))) [] := by
  intro hp a s hok hops hfp
  have h1 := op_ixd (M := M) ho hT hx hy (fun hp => by have := hz hp; have := hj hp; omega) hp a s hok hops hfp
  have hjl : j < l.length := by rw [hl]; exact hj hp
  have hz' : z.toNat = j := by have := hz hp; omega
  rw [hz'] at h1
  have key : ∀ (s' : St) v, Rep s' (.dpf ((l.flatMap en).drop (j * sz))) v → Rep s' (.dpf (en (l.getD j a0))) v := by
    intro s' v hr
    cases hr with
    | dpf hI hc =>
      refine .dpf hI fun q v hq => hc q v ?_
      have hql : q < sz := by rw [← hen (l.getD j a0)]; exact (List.getElem?_eq_some_iff.1 hq).1
      rw [List.getElem?_drop, flat_cell hen hjl hql, ← getD_at (a0 := a0) hjl]
      exact hq
  revert h1
  generalize (execOp a.eval o).run P s.w = r
  intro h1
  cases r with
  | halt x w' => exact h1
  | ok nx w' =>
    cases nx with
    | value v => obtain ⟨s', a1, a2, a3, a4⟩ := h1; exact ⟨s', a1, a2, a3, key s' v a4⟩
    | skip => obtain ⟨s', a1, a2, a3, a4⟩ := h1; exact ⟨s', a1, a2, a3, key s' _ a4⟩
    | enter f args => exact ⟨h1.1, h1.2.mono fun e w'' ⟨s', v, b1, b2, b3, b4, b5⟩ => ⟨s', v, b1, b2, b3, b4, key s' v b5⟩⟩
    | round l f tmps asg body => exact ⟨h1.1, h1.2.mono fun e w'' ⟨s', v, b1, b2, b3, b4, b5⟩ => ⟨s', v, b1, b2, b3, b4, key s' v b5⟩⟩
    | _ => exact h1
end
section
variable {P : Program} {pc : Bool} {o : Oper} {F : Fr} {M : List Blk}
end
section
variable {P : Program} {s0 : St} {n : Cx}
end
end Go.Proofs.Ytmpodnadoebclaa
namespace Go.Proofs.Ytmpodnadoebclaa
set_option linter.unusedVariables false
set_option linter.unusedSimpArgs false
open Go.RowKit
section
variable {P : Program} {pc : Bool} {o : Oper} {F : Fr} {M : List Blk} {T e : TypeId} {by' : Nat} {x y : Operand}
end
section
variable {P : Program} {pc : Bool} {o : Oper} {F : Fr} {M : List Blk} {T T' : TypeId} {x y : Operand} {k k' : IntKind} {p q : Int}
end
section
variable {P : Program} {pc : Bool} {o : Oper} {F : Fr} {M : List Blk} {T : TypeId} {x lo hi mx : Operand} {n sz : Nat} {α : Type} {en : α → List Value} {l : List α} {k k1 k2 : IntKind} {lz hz mz : Int}
end
section
variable {P : Program} {pc : Bool} {o : Oper} {F : Fr} {M : List Blk} {T e : TypeId} {by' n : Nat} {ds : List D} {Z : List Value}
theorem nlL_at : ∀ {l : List D} {j : Nat} {d : D}, D.nlL l = true → l[j]? = some d → d.nl = true
  | [], j, d, _, h => by simp at h
  | a :: l, j, d, h, hj => by
    unfold D.nlL at h
    rw [Bool.and_eq_true] at h
    cases j with
    | zero => simp at hj; subst hj; exact h.1
    | succ j => exact nlL_at h.2 (by simpa using hj)
/-- an element of a slice of slices -/
theorem op_ixm {x y : Operand} {k : IntKind} {z : Int} {d : D} (j : Nat) (ho : o.op = .indexAddr T x y) (hT : slE P T = some (e, 1, by')) (hx : Ev pc F x (.slm 1 n ds)) (hy : Ev pc F y (.val (.int k z))) (hz : pc = true → z = (j : Int)) (hd : ds[j]? = some d) : DOp P pc o F M [] (.dpm [d]) [] := by
  intro hp a s hok hops _
  have hr := ev_at hp hx (by simp [ho, Op.operands]) hops
  have h2 := (ev_at hp hy (by simp [ho, Op.operands]) hops).val_eq
  have hjl : j < ds.length := (List.getElem?_eq_some_iff.1 hd).1
  have hz' := hz hp
  generalize hv : a.eval x = vx at hr
  cases hr with
  | @slm _ _ cap ad _ vs hnl hl hn hc ha hvl h hm =>
    rcases hm with hm | ⟨b, q, rfl, hI, hcl⟩
    · rw [hm] at hjl; simp at hjl
    · have hrun := run_index_sl (P := P) (w := s.w) ho hT hv h2 (by omega) (by omega)
      rw [Addr.add_mid] at hrun
      have hjv : j < vs.length := by omega
      refine dg_val hok hrun (.dpm (vs := [vs[j]]) ?_ hI (fun i v hi => ?_) rfl (fun i d' v h1 h2 => ?_))
      · unfold D.nlL
        rw [nlL_at hnl hd]; rfl
      · cases i with
        | zero =>
          simp at hi
          subst hi
          have e : q + z.toNat * 1 + 0 = q + j := by omega
          rw [e]
          exact hcl j _ (List.getElem?_eq_getElem hjv)
        | succ i => simp at hi
      · cases i with
        | zero =>
          simp at h1 h2
          subst h1 h2
          exact h j _ _ hd (List.getElem?_eq_getElem hjv)
        | succ i => simp at h1
end
section
variable {P : Program} {pc : Bool} {o : Oper} {F : Fr} {M : List Blk}
end
section
variable {P : Program} {pc : Bool} {o : Oper} {F : Fr} {M : List Blk}
end
section
variable {P : Program} {pc : Bool} {o : Oper} {F : Fr} {M : List Blk}
end
end Go.Proofs.Ytmpodnadoebclaa
namespace Go.Proofs.Ytmpodnadoebclaa
set_option linter.unusedVariables false
set_option linter.unusedSimpArgs false
open Go.RowKit
section
variable {P : Program} {s0 : St} {n : Cx}
theorem nlL_flat1 {α : Type} {f : α → D} (h : ∀ a, (f a).nl = true) : ∀ l : List α, D.nlL (l.flatMap fun a => [f a]) = true
  | [] => rfl
  | a :: l => by
    rw [List.flatMap_cons]
    show ((f a).nl && D.nlL (l.flatMap fun a => [f a])) = true
    rw [h a, nlL_flat1 h l]
    rfl
end
section
variable {P : Program} {pc : Bool} {o : Oper} {F : Fr} {M : List Blk}
end
end Go.Proofs.Ytmpodnadoebclaa
namespace Go.Proofs.Ytmpodnadoebclaa
set_option linter.unusedVariables false
set_option linter.unusedSimpArgs false
open Go.RowKit
section
variable {P : Program} {pc : Bool} {o : Oper} {F : Fr} {M : List Blk}
/-- .. stored there -/
theorem op_stxr {α : Type} {mk : α → List D} {l : List α} {q : α} {T T' : TypeId} {x y : Operand} {i j sz n : Nat} {rw' : Bool} (ho : o.op = .store T x y) (hT : tyB P T = some (rw', sz)) (hx : Ev pc F x (.aloc i (j * sz))) (hy : Ev pc F y (.agg (mk q))) (hM : M[i]? = some (.arx T' sz n (l.flatMap mk))) (hmk : ∀ a, (mk a).length = sz) (hj : j < l.length) (h1 : (mk q).all D.oc2 = true) :
    DOp P pc o F M [i] .junk [(i, .arx T' sz n ((l.set j q).flatMap mk))] := by
  intro hp a s hok hops hfp
  have hr := ev_at hp hx (by simp [ho, Op.operands]) hops
  have hry := ev_at hp hy (by simp [ho, Op.operands]) hops
  have hM' : s.M[i]? = some (.arx T' sz n (l.flatMap mk)) := by rw [hfp i (by simp)]; exact hM
  generalize hv : a.eval x = vx at hr
  generalize hvy : a.eval y = vy at hry
  cases hr with
  | @aloc _ _ n' c b h =>
    cases hry with
    | @agg _ us hul hu =>
      obtain ⟨vs, hk, q3, q4⟩ := hok.blk i _ _ hM' h
      rcases hk.2 with ⟨e1, e2⟩ | ⟨g, cap, cur, e1, e2, e3, e4, e5, e6, e7⟩
      · cases e1
      · cases e1
        have hflat : (l.flatMap mk).length = l.length * sz := flatM_len' hmk l
        have hle := Nat.mul_le_mul_right sz e4
        have hjs : (j + 1) * sz ≤ l.length * sz := Nat.mul_le_mul_right _ hj
        rw [Nat.succ_mul] at hjs
        have hlV := hk.1
        have husz : us.length = sz := by rw [hul, hmk]
        have hcell := cellsAt_block e3 0
        have hoc : ∀ u ∈ us, u.oneCell' = true := fun u hu' => by
          obtain ⟨p, hp', rfl⟩ := List.getElem_of_mem hu'
          have hp2 : p < (mk q).length := by omega
          exact oc2_one (hu p _ _ (List.getElem?_eq_getElem hp2) (List.getElem?_eq_getElem hp')) (List.all_eq_true.1 h1 _ (List.getElem_mem hp2))
        have hcurlen : cur.toList.length = c * sz := by simpa using e6
        have hrun := run_store (P := P) (w := s.w) (C := us) ho hT hv hvy rfl husz (fun p hp' => by
            have := hcell (j * sz + p) _ (by simpa using List.getElem?_eq_getElem (by simp at hcurlen ⊢; omega : j * sz + p < cur.toList.length))
            rw [Nat.zero_add] at this
            rw [this]; rfl) (fun p hp' => by simp [World.frozen?, e3]) hoc
        have hβ : s.β.set i (.slice (some ⟨b, 0, none⟩) n c) = s.β := by
          apply List.ext_getElem?
          intro k
          by_cases e : i = k
          · subst e; rw [List.getElem?_set_self (List.getElem?_eq_some_iff.1 h).1, h]
          · rw [List.getElem?_set_ne e]
        have lift : ∀ {e : D} {v : Value}, Rep s e v → Rep ⟨s.β.set i (.slice (some ⟨b, 0, none⟩) n c), s.I, s.M.set i (.arx T' sz n ((l.set j q).flatMap mk)), s.w.setCells b (j * sz) us⟩ e v := by
          intro e v hr
          refine Rep.mono' (s := s) (s' := ⟨s.β.set i (.slice (some ⟨b, 0, none⟩) n c), s.I, s.M.set i (.arx T' sz n ((l.set j q).flatMap mk)), s.w.setCells b (j * sz) us⟩) (fun k x hk _ => by show (s.β.set i _)[k]? = _; rw [hβ]; exact hk) (fun _ h => h) (fun b' hI => setCells_other b _ _ s.w b' fun e => ?_) hr
          subst e
          exact (hok.lt b' (live_of hM' rfl h rfl)).2 hI
        refine dg_skip (s' := ⟨s.β.set i (.slice (some ⟨b, 0, none⟩) n c), s.I, s.M.set i (.arx T' sz n ((l.set j q).flatMap mk)), s.w.setCells b (j * sz) us⟩) hrun (tr_store hok hM' rfl h rfl _ us ?_) rfl
        have hsl := setL_len us cur.toList (j * sz)
        refine ⟨setL vs (j * sz) us, ⟨by rw [setL_len]; exact hlV, .inr ⟨b, c, (setL cur.toList (j * sz) us).toArray, rfl, e2, setCells_block b us _ s.w cur.toList T' (by simpa using e3), e4, e5, by simp [hsl]; simpa using e6, ?_⟩⟩, ?_, ?_⟩
        · rw [setL_eq us cur.toList _ (by omega), setL_eq us vs _ (by omega)]
          have hcut : cur.toList = vs ++ cur.toList.drop vs.length := by
            have := List.take_append_drop (n * sz) cur.toList
            rw [e7, ← hlV] at this
            exact this.symm
          generalize cur.toList.drop vs.length = R at hcut
          rw [hcut]
          have t1 : (vs ++ R).take (j * sz) = vs.take (j * sz) := List.take_append_of_le_length (by omega)
          have t2 : (vs ++ R).drop (j * sz + us.length) = vs.drop (j * sz + us.length) ++ R := List.drop_append_of_le_length (by omega)
          rw [t1, t2, ← hlV, ← List.append_assoc]
          refine List.take_left' ?_
          simp; omega
        · rw [setL_len, q3, hflat, flatM_len' hmk, List.length_set]
        · have key : ((l.set j q).flatMap mk) = (l.flatMap mk).take (j * sz) ++ mk q ++ (l.flatMap mk).drop (j * sz + sz) := by
            rw [flatM_take hmk, show j * sz + sz = (j + 1) * sz by rw [Nat.succ_mul], flatM_drop hmk, List.set_eq_take_append_cons_drop, if_pos hj, List.flatMap_append, List.flatMap_cons, List.append_assoc]
          rw [key, setL_eq us vs _ (by omega), husz]
          have hA : Reps ⟨s.β.set i (.slice (some ⟨b, 0, none⟩) n c), s.I, s.M.set i (.arx T' sz n ((l.flatMap mk).take (j * sz) ++ mk q ++ (l.flatMap mk).drop (j * sz + sz))), s.w.setCells b (j * sz) us⟩ ((l.flatMap mk).take (j * sz) ++ mk q ++ (l.flatMap mk).drop (j * sz + sz)) (vs.take (j * sz) ++ us ++ vs.drop (j * sz + sz)) := by
            rw [key] at lift
            refine reps_app3 (reps_app3 ⟨by simp [q3], fun p d v g1 g2 => ?_⟩ ⟨hul, fun p d v g1 g2 => lift (hu p d v g1 g2)⟩) ⟨by simp [q3], fun p d v g1 g2 => ?_⟩
            · rw [List.getElem?_take] at g1 g2
              split at g1
              · rename_i hp'
                rw [if_pos hp'] at g2
                exact lift (q4 p d v g1 g2)
              · cases g1
            · rw [List.getElem?_drop] at g1 g2
              exact lift (q4 _ d v g1 g2)
          exact hA.2
end
section
variable {P : Program} {s0 : St} {n : Cx}
end
theorem nlL_app' : ∀ {a b : List D}, D.nlL a = true → D.nlL b = true → D.nlL (a ++ b) = true
  | [], _, _, h => h
  | d :: a, b, h, h' => by
    rw [D.nlL, Bool.and_eq_true] at h
    rw [List.cons_append, D.nlL, h.1, nlL_app' h.2 h']
    rfl
theorem nlL_flatR {α : Type} {mk : α → List D} (h : ∀ a, D.nlL (mk a) = true) : ∀ l : List α, D.nlL (l.flatMap mk) = true
  | [] => rfl
  | a :: l => by rw [List.flatMap_cons]; exact nlL_app' (h a) (nlL_flatR h l)
section
variable {P : Program} {pc : Bool} {o : Oper} {F : Fr} {M : List Blk} {T : TypeId} {x y : Operand} {n : Nat} {k : IntKind} {z : Int} {j : Nat}
end
end Go.Proofs.Ytmpodnadoebclaa
namespace Go.Proofs.Ytmpodnadoebclaa
set_option linter.unusedVariables false
set_option linter.unusedSimpArgs false
open Go.RowKit
section
variable {P : Program} {pc : Bool} {o : Oper} {F : Fr} {M : List Blk}
end
theorem vwL_cons' {σ : List Nat} {V : Nat → Bool} {M : List Blk} {d d' : D} {l l' : List D} (h1 : vw σ V M d = some d') (h2 : vwL σ V M l = some l') : vwL σ V M (d :: l) = some (d' :: l') := by rw [vwL, h1, h2]
end Go.Proofs.Ytmpodnadoebclaa
namespace Go.Proofs.Ytmpodnadoebclaa
set_option linter.unusedVariables false
set_option linter.unusedSimpArgs false
open Go.RowKit
theorem Wk.vagg (l : List Value) : Wk (.val (.agg l.toArray)) (.agg (l.map D.val)) := fun s v hr => by
  cases hr with
  | val =>
    refine .agg (by simp) fun j d v h1 h2 => ?_
    rw [List.getElem?_map, h2] at h1
    cases h1
    exact .val v
section
variable {P : Program} {s0 : St} {n : Cx}
end
section
variable {P : Program} {pc : Bool} {o : Oper} {F : Fr} {M : List Blk} {T : TypeId} {x : Operand}
end
end Go.Proofs.Ytmpodnadoebclaa
namespace Go.Proofs.Ytmpodnadoebclaa
set_option linter.unusedVariables false
set_option linter.unusedSimpArgs false
open Go.RowKit
section
variable {P : Program} {pc : Bool} {o : Oper} {F : Fr} {M : List Blk} {T : TypeId} {x y : Operand} {k : IntKind} {z : Int} {n : Nat}
end
/-- behind a guard that is known to hold -/
theorem walk_k {P : Program} {s0 : St} {n : Cx} {ops : Array Oper} {o : Oper} {rest : List Oper} {F : Fr} {M M' : List Blk} {K : Cont} {fp : List Nat} {d : D} {t : Nat} {wr : List (Nat × Blk)} (hg : Gd ops o F true) (hng : o.guard.isSome = true) (hd : o.dst = some t) (ht : Nat.blt t n.n = true) (h : DOp P true o F M fp d wr) (hM : upd M wr = M')
    (hk : Walk P s0 n ops rest ((t, .opt true d) :: F) M' K) (hnd : noDef o.op = true := by rfl) : Walk P s0 n ops (o :: rest) F M K := by
  subst hM
  have hb : dstB n.n o.dst = true := by rw [hd]; exact ht
  have hk : Walk P s0 n ops rest (putF o.dst (.opt true d) F) (upd M wr) K := by rw [hd]; exact hk
  intro a w hi
  obtain ⟨h0, s, h1, h2, h3, h4, h5, h6⟩ := hi
  subst h1 h2
  show if Region.wanted o (yielded ops a.tmps) then _ else _
  rw [gd_wanted hg (fun t d _ hd => h4 t d hd)]
  rw [if_pos rfl]
  refine dgives_in hnd (h rfl a s h3.ok (fun x _ d hd => ev_rep h4 hd) (fun _ _ => rfl)) fun s' v ht ⟨e1, e2⟩ => ?_
  exact hk _ _ ⟨h0, s', e1, rfl, h3.trans ht, (h4.mono h3.ok ht).putF h5 hb (.opt (fun _ => e2) (fun h => by cases h)), by rw [put_size]; exact h5, by rw [put_def]; exact h6.mono h3.ok ht⟩
end Go.Proofs.Ytmpodnadoebclaa
namespace Go.Proofs.Ytmpodnadoebclaa
set_option linter.unusedVariables false
set_option linter.unusedSimpArgs false
open Go.RowKit
section
variable {P : Program} {s0 : St} {n : Cx}
end
section
variable {P : Program} {pc : Bool} {o : Oper} {F : Fr} {M : List Blk}
end
section
variable {P : Program} {s0 : St} {n : Cx}
end
section
variable {P : Program} {pc : Bool} {o : Oper} {F : Fr} {M : List Blk}
theorem op_pnil0n {T T' e : TypeId} {x : Operand} (ho : o.op = .binOp .neq T x (.const (.pointer none)) T') (hT : ptT P T = some e) (hx : Ev pc F x (.val (.pointer none))) : DOp P pc o F M [] (.val (.bool false)) [] := by
  intro hp a s hok hops hfp
  have hr := (ev_at hp hx (by simp [ho, Op.operands]) hops).val_eq
  refine dg_val (v := .bool false) hok ?_ (.val _)
  unfold execOp
  simp only [ho, hr]
  refine run_v ?_
  have hc : a.eval (.const (.pointer none)) = .pointer none := rfl
  rw [hc]
  have hg : (eqGuard .neq T x (.const (.pointer none)) (.pointer none) (.pointer none)).run P s.w = .ok () s.w := by unfold eqGuard; rfl
  rw [Sem.run_bind, hg]
  have he := run_equal_pointer_nil (P := P) s.w T none (by rw [show P.pointee T = e by simp [Program.pointee, ptT_spec hT]]; exact ptT_spec hT)
  simp only [Result.andThen, binOp, Sem.run_bind, he]
  rfl
end
end Go.Proofs.Ytmpodnadoebclaa
namespace Go.Proofs.Ytmpodnadoebclaa
set_option maxRecDepth 4000
set_option linter.unusedVariables false
set_option linter.unusedSimpArgs false
open Go.RowKit
def TL.get (t : TL) (i : Nat) : C4 := t.l.getD i zC4
def getC (w : Int) (ts : List TL) (x y : Int) : C4 := (ts.getD (plN w x y) zT).get (pxN x y)
end Go.Proofs.Ytmpodnadoebclaa
namespace Go.Proofs.Ytmpodnadoebclaa
set_option maxRecDepth 4000
set_option linter.unusedVariables false
set_option linter.unusedSimpArgs false
open Go.RowKit
theorem fo85_0 : fdO Try.prog 85 0 = some 0 := by kernel_rfl
theorem fo85_1 : fdO Try.prog 85 1 = some 1 := by kernel_rfl
set_option maxRecDepth 4000 in
set_option maxHeartbeats 1000000 in
theorem color_d (w h : Int) (ds : List D) (ts : List TL) (hr : RowOk ds ts) (hc : CvOk w h ts) (x y : Int) (ho : onS w h x y = true) : DFun Try.prog 48 [cvD w h ds, .val (.agg #[.int .i64 x, .int .i64 y])] [] (.val (.agg (c4 (getC w ts x y)).toArray)) [] := by
  refine zao (N := 30) 0 (by kernel_rfl) Try.func48 rfl rfl rfl (by simp only [fr0, Nat.zero_add, Nat.reduceAdd]; exact rfl) rfl fun s0 hs0 => ?_
  refine zae ?_
  refine zak 2 (by simp only [holes, List.cons_append, List.nil_append]; exact rfl) ?_
  refine zad ?_
  refine zan rfl rfl rfl (op_boxa 0 rfl (ev1 rfl) rfl) (by simp only [upd, za, zaa]; exact rfl) ?_
  refine zan rfl rfl rfl (op_alloc 1 rfl zr87 rfl) (by simp only [upd, za, zaa]; exact rfl) ?_
  refine zaf ?_
  refine zae ?_
  refine dwp_draw [([], []), ([], []), ([], []), ([], []), ([], []), ([0], []), ([], []), ([0], []), ([], []), ([], []), ([], []), ([], []), ([], []), ([], [])] mixed (by kernel_rfl) ?_
  refine zag rfl rfl (zac (.inl rfl) (ev1 rfl)) ?_
  refine zag rfl rfl (op_nc rfl (ev1 rfl) (fun s v h => by cases h; exact ⟨_, rfl⟩)) ?_
  refine zag rfl rfl (op_fadm rfl fo80_0 (ev1 rfl)) ?_
  refine zag rfl rfl (op_lddv [_, _] rfl tb77 (ev1 rfl) rfl rfl) ?_
  refine zag rfl rfl (op_fa rfl fo85_0 (ev1 rfl)) ?_
  refine zag rfl rfl (op_ldo rfl tb3 (ev1 rfl) rfl rfl) ?_
  refine zag rfl rfl (op_fa rfl fo85_1 (ev1 rfl)) ?_
  refine zag rfl rfl (op_ldo rfl tb3 (ev1 rfl) rfl rfl) ?_
  refine zag rfl rfl (zah [] [] [] rfl (ev1 rfl) (ec (ev1 rfl) (ec (ev1 rfl) (ec (ev1 rfl) en))) rfl rfl (splace_d w h x y hc.may ho) rfl rfl rfl rfl rfl rfl) ?_
  refine zag rfl rfl (zac (.inl rfl) (ev1 rfl)) ?_
  refine zag rfl rfl (op_ext rfl (ev1 rfl) rfl) ?_
  refine zag rfl rfl (op_ext rfl (ev1 rfl) rfl) ?_
  refine zag rfl rfl (zac (.inr rfl) (ev1 rfl)) ?_
  refine zag rfl rfl (zac (.inr rfl) (ev1 rfl)) ?_
  refine lex_nil ?_
  refine zae ?_
  obtain ⟨d, hd, _, _, _, hw⟩ := hr.at (hc.pl ho)
  have hpx := (on_pl hc.may ho).2.2.2
  refine zad ?_
  refine zab rfl rfl rfl (zac (.inl rfl) (ev1 rfl)) ?_
  refine zab rfl rfl rfl (op_nc rfl (ev1 rfl) (fun s v h => by cases h; exact ⟨_, rfl⟩)) ?_
  refine zab rfl rfl rfl (op_fadm rfl fo80_1 (ev1 rfl)) ?_
  refine zab rfl rfl rfl (op_lddm rfl tb78 (ev1 rfl) rfl) ?_
  refine zab rfl rfl rfl (zac (.inl rfl) (ev1 rfl)) ?_
  refine zab rfl rfl rfl (op_ixm (plN w x y) rfl sl78 (ev1 rfl) (ev1 rfl) (fun _ => rfl) (hd)) ?_
  refine zab rfl rfl rfl ((op_lddm rfl tb102 (ev1 rfl) rfl).wk (hw)) ?_
  refine zab rfl rfl rfl (zac (.inl rfl) (ev1 rfl)) ?_
  refine zab rfl rfl rfl (op_nc rfl (ev1 rfl) (fun s v h => by cases h; exact ⟨_, rfl⟩)) ?_
  refine zab rfl rfl rfl (op_ixdr (j := pxN x y) (zC4) rfl ar116 (ev1 rfl) (ev1 rfl) (fun _ => by omega) (fun _ => by omega) ((TL.h _)) (fun _ => rfl)) ?_
  refine zab rfl rfl rfl (op_ldwd rfl tb87 (ev1 rfl) rfl) ?_
  refine walk_s rfl rfl (op_stwa rfl tb87 (ev1 rfl) (ev1 rfl) rfl rfl rfl rfl) (by simp only [upd, za, zaa]; exact rfl) ?_
  refine zaf ?_
  refine dwp_ret ?_
  refine kend0 (rs1 rfl (rv_w tb87 rfl rfl rfl)) rfl ?_
  rfl
end Go.Proofs.Ytmpodnadoebclaa
namespace Go.Proofs.Ytmpodnadoebclaa
set_option maxRecDepth 4000
set_option linter.unusedVariables false
set_option linter.unusedSimpArgs false
open Go.RowKit
theorem eq77 {a0 : Int} {a1 : Int} {b0 : Int} {b1 : Int} : eqT Try.prog 9 77 [.int .i64 a0, .int .i64 a1] [.int .i64 b0, .int .i64 b1] = some ((a0 == b0) && ((a1 == b1) && true)) := by kernel_rfl
theorem gd77 : Try.prog.eqGuardType Try.prog.depth 77 = false := by kernel_rfl
end Go.Proofs.Ytmpodnadoebclaa
namespace Go.Proofs.Ytmpodnadoebclaa
set_option maxRecDepth 4000
set_option linter.unusedVariables false
set_option linter.unusedSimpArgs false
open Go.RowKit
theorem eq87 {a b : C4} : eqT Try.prog 9 87 (c4 a) (c4 b) = some (decide (a = b)) := by
  rw [← eqC_iff]
  exact (show eqT Try.prog 9 87 [.int .u8 a.r, .int .u8 a.g, .int .u8 a.b, .int .u8 a.a] [.int .u8 b.r, .int .u8 b.g, .int .u8 b.b, .int .u8 b.a] = some (eqC a b) by kernel_rfl)
theorem fl85 : fdL Try.prog 85 = some [(0, 1), (1, 1)] := by kernel_rfl
theorem gd87 : Try.prog.eqGuardType Try.prog.depth 87 = false := by kernel_rfl
theorem tb85 : tyB Try.prog 85 = some (true, 2) := by kernel_rfl
theorem zr85 : zrC Try.prog 85 = some [.int .i64 0, .int .i64 0] := by kernel_rfl
def rowEq (w : Int) (ts us : List TL) (y n : Nat) : Bool := (List.range n).all fun (x : Nat) => decide (getC w ts (x : Int) (y : Int) = getC w us (x : Int) (y : Int))
def allEq (w : Int) (ts us : List TL) (W n : Nat) : Bool := (List.range n).all fun (y : Nat) => rowEq w ts us y W
def sameF (w h : Int) (ts us : List TL) : Bool := allEq w ts us (w * 8).toNat (h * 8).toNat
theorem rowEq_succ (w : Int) (ts us : List TL) (y n : Nat) : rowEq w ts us y (n + 1) = (rowEq w ts us y n && decide (getC w ts (n : Int) (y : Int) = getC w us (n : Int) (y : Int))) := by
  unfold rowEq
  rw [List.range_succ, List.all_append]
  simp
theorem allEq_succ (w : Int) (ts us : List TL) (W n : Nat) : allEq w ts us W (n + 1) = (allEq w ts us W n && rowEq w ts us n W) := by
  unfold allEq
  rw [List.range_succ, List.all_append]
  simp
theorem sameF_no {w h : Int} {ts us : List TL} {x y : Nat} (hx : x < (w * 8).toNat) (hy : y < (h * 8).toNat) (hne : getC w ts (x : Int) (y : Int) ≠ getC w us (x : Int) (y : Int)) : sameF w h ts us = false := by
  rw [← Bool.not_eq_true]
  intro h1
  have h2 := List.all_eq_true.1 h1 y (List.mem_range.2 hy)
  have h3 := List.all_eq_true.1 h2 x (List.mem_range.2 hx)
  exact hne (by simpa using h3)
theorem pl_back {w : Int} {p q : Nat} (hw : 1 ≤ w) (hq : q < 64) : plN w ((p : Int) % w * 8 + (q : Int) % 8) ((p : Int) / w * 8 + (q : Int) / 8) = p ∧ pxN ((p : Int) % w * 8 + (q : Int) % 8) ((p : Int) / w * 8 + (q : Int) / 8) = q := by
  have h1 := Int.emod_nonneg (p : Int) (show w ≠ 0 by omega)
  have h2 : (0 : Int) ≤ (p : Int) / w := Int.ediv_nonneg (by omega) (by omega)
  have e := Int.mul_ediv_add_emod (p : Int) w
  unfold plN pxN
  generalize (p : Int) % w = r at h1 e ⊢
  generalize (p : Int) / w = d at h2 e ⊢
  have e1 : (d * 8 + (q : Int) / 8) / 8 = d := by omega
  have e2 : (r * 8 + (q : Int) % 8) / 8 = r := by omega
  have e3 : (d * 8 + (q : Int) / 8) % 8 = (q : Int) / 8 := by omega
  have e4 : (r * 8 + (q : Int) % 8) % 8 = (q : Int) % 8 := by omega
  rw [e1, e2, e3, e4, Int.mul_comm d w]
  omega
theorem on_back {w h : Int} {p q : Nat} (hm : mayS w h = true) (hp : (p : Int) < w * h) (hq : q < 64) : onS w h ((p : Int) % w * 8 + (q : Int) % 8) ((p : Int) / w * 8 + (q : Int) / 8) = true := by
  have hb := mayS_b hm
  have h1 := Int.emod_nonneg (p : Int) (show w ≠ 0 by omega)
  have h3 := Int.emod_lt_of_pos (p : Int) (show 0 < w by omega)
  have h2 : (0 : Int) ≤ (p : Int) / w := Int.ediv_nonneg (by omega) (by omega)
  have h4 : (p : Int) / w < h := Int.ediv_lt_of_lt_mul (by omega) (by rw [Int.mul_comm h w]; exact hp)
  exact onS_iff.2 ⟨by omega, by omega⟩
theorem sameF_iff {w h : Int} {ts us : List TL} (hc : CvOk w h ts) (hd : CvOk w h us) : sameF w h ts us = decide (ts = us) := by
  rw [Bool.eq_iff_iff]
  have hb := mayS_b hc.may
  have l1 := hc.len
  have l2 := hd.len
  constructor
  · intro h1
    rw [decide_eq_true_eq]
    apply List.ext_getElem (by omega)
    intro p hp hp2
    apply TL.ext
    apply List.ext_getElem (by rw [TL.h, TL.h])
    intro q hq hq2
    rw [TL.h] at hq
    have ho := on_back (p := p) (q := q) hc.may (by omega) hq
    obtain ⟨e1, e2⟩ := pl_back (w := w) (p := p) (q := q) (by omega) hq
    have hxy := onS_iff.1 ho
    generalize hX : (p : Int) % w * 8 + (q : Int) % 8 = X at ho e1 e2 hxy
    generalize hY : (p : Int) / w * 8 + (q : Int) / 8 = Y at ho e1 e2 hxy
    have h2 := List.all_eq_true.1 h1 Y.toNat (List.mem_range.2 (by omega))
    have h3 := List.all_eq_true.1 h2 X.toNat (List.mem_range.2 (by omega))
    rw [decide_eq_true_eq, show ((X.toNat : Nat) : Int) = X by omega, show ((Y.toNat : Nat) : Int) = Y by omega] at h3
    unfold getC at h3
    rw [e1, e2, tl_at hp, tl_at hp2] at h3
    unfold TL.get at h3
    rw [List.getD_eq_getElem?_getD, List.getD_eq_getElem?_getD, List.getElem?_eq_getElem (by rw [TL.h]; exact hq), List.getElem?_eq_getElem (by rw [TL.h]; exact hq)] at h3
    exact h3
  · intro h1
    have h1 : ts = us := by simpa using h1
    subst h1
    exact List.all_eq_true.2 fun y _ => List.all_eq_true.2 fun x _ => by simp
set_option maxRecDepth 4000 in
set_option maxHeartbeats 1000000 in
theorem points_d (w h : Int) (hm : mayS w h = true) : DFun Try.prog 47 [.val (.agg #[.int .i64 w, .int .i64 h])] [] (.fn (.func 70) [] [.loc 0 0, .loc 1 0]) [.flat 3 [.int .i64 (h * 8)], .flat 3 [.int .i64 (w * 8)]] := by
  refine zao (N := 11) 0 (by kernel_rfl) Try.func47 rfl rfl rfl (by simp only [fr0, Nat.zero_add, Nat.reduceAdd]; exact rfl) rfl fun s0 hs0 => ?_
  refine zae ?_
  refine zak 1 (by simp only [holes, List.cons_append, List.nil_append]; exact rfl) ?_
  refine zad ?_
  refine zan rfl rfl rfl (op_boxa 0 rfl (ev1 rfl) rfl) (by simp only [upd, za, zaa]; exact rfl) ?_
  refine zab rfl rfl rfl (zac (.inr rfl) (ev1 rfl)) ?_
  refine zaf ?_
  refine zae ?_
  refine zak 2 (by simp only [holes, List.cons_append, List.nil_append]; exact rfl) ?_
  refine zad ?_
  refine zab rfl rfl rfl (op_ldw rfl tb77 (ev1 rfl) rfl rfl) ?_
  refine zab rfl rfl rfl (zah [] [] [] rfl (ev1 rfl) (ec (ev1 rfl) en) rfl rfl (spix_d w h hm) rfl rfl rfl rfl rfl rfl) ?_
  refine zab rfl rfl rfl (zac (.inl rfl) (ev1 rfl)) ?_
  refine zab rfl rfl rfl (op_ext rfl (ev1 rfl) rfl) ?_
  refine zab rfl rfl rfl (op_ext rfl (ev1 rfl) rfl) ?_
  refine zan rfl rfl rfl (op_alloc 1 rfl zr3 rfl) (by simp only [upd, za, zaa]; exact rfl) ?_
  refine zan rfl rfl rfl (op_alloc 2 rfl zr3 rfl) (by simp only [upd, za, zaa]; exact rfl) ?_
  refine walk_s rfl rfl (op_stwi rfl tb3 (ev1 rfl) (ev1 rfl) rfl) (by simp only [upd, za, zaa]; exact rfl) ?_
  refine walk_s rfl rfl (op_stwi rfl tb3 (ev1 rfl) (ev1 rfl) rfl) (by simp only [upd, za, zaa]; exact rfl) ?_
  refine zaf ?_
  refine zae ?_
  refine zad ?_
  refine zab rfl rfl rfl (op_mkf rfl en (ec (ev1 rfl) (ec (ev1 rfl) en))) ?_
  refine zab rfl rfl rfl (zac (.inr rfl) (ev1 rfl)) ?_
  refine zaf ?_
  refine dwp_ret ?_
  refine kend [2, 1] (rs1 rfl (rv_t rfl)) rfl rfl ?_ ⟨rfl, rfl, trivial⟩
  rfl
noncomputable def samA : Code := rfA (pth [1, 0, 1, 1, 1, 1, 0, 1, 0] (bodyOf Try.f18))
noncomputable def samB : Code := rfB (pth [1, 0, 1, 1, 1, 1, 0, 1, 0] (bodyOf Try.f18))
set_option maxRecDepth 4000 in
set_option maxHeartbeats 1000000 in
theorem samRound_true (w h : Int) (da db : List D) (ts us : List TL) (ra : RowOk da ts) (rb : RowOk db us) (ca : CvOk w h ts) (cb : CvOk w h us) (x y : Int) (ho : onS w h x y = true) (b : Bool) (h1 : getC w ts x y = getC w us x y) : DRound Try.prog 0 [.val (.agg #[.int .i64 x, .int .i64 y])] [.lp 42 [(2, .loc 1 0), (3, .loc 2 0), (5, .loc 3 0)] #[33] samA samB .ready none, .mix 42 [cvD w h da], .mix 42 [cvD w h db], .flat 4 [.bool b]] true [.lp 42 [(2, .loc 1 0), (3, .loc 2 0), (5, .loc 3 0)] #[33] samA samB .ready none, .mix 42 [cvD w h da], .mix 42 [cvD w h db], .flat 4 [.bool b]] := by
  refine dround_go 4 rfl rfl (by simp) rfl rfl fun s0 hs0 => ?_
  refine zak 1 (by simp only [holes, List.cons_append, List.nil_append]; exact rfl) ?_
  refine zad ?_
  refine zan rfl rfl rfl (op_alloc 4 rfl zr85 rfl) (by simp only [upd, za, zaa]; exact rfl) ?_
  refine walk_s rfl rfl (op_stwa rfl tb85 (ev1 rfl) (ev1 rfl) rfl rfl rfl rfl) (by simp only [upd, za, zaa]; exact rfl) ?_
  refine zaf ?_
  refine ⟨rfl, ?_⟩
  simp only [za, zaa]
  refine zam ?_
  refine zae ?_
  refine dwp_draw [([1], []), ([4], []), ([], []), ([2], []), ([4], []), ([], []), ([], [])] mixed (by kernel_rfl) ?_
  refine zag rfl rfl (op_ldm rfl tb42 (ev1 rfl) rfl rfl) ?_
  refine zag rfl rfl (op_ldw rfl tb85 (ev1 rfl) rfl rfl) ?_
  refine zag rfl rfl (zah [] [] [] rfl (ev1 rfl) (ec (ev1 rfl) (ec (ev1 rfl) en)) rfl rfl (color_d w h da ts ra ca x y ho) rfl rfl rfl rfl rfl rfl) ?_
  refine zag rfl rfl (op_ldm rfl tb42 (ev1 rfl) rfl rfl) ?_
  refine zag rfl rfl (op_ldw rfl tb85 (ev1 rfl) rfl rfl) ?_
  refine zag rfl rfl (zah [] [] [] rfl (ev1 rfl) (ec (ev1 rfl) (ec (ev1 rfl) en)) rfl rfl (color_d w h db us rb cb x y ho) rfl rfl rfl rfl rfl rfl) ?_
  refine zag rfl rfl (op_ner eq87 rfl gd87 tb87 (ev1 rfl) (ev1 rfl)) ?_
  refine lex_nil ?_
  refine dwp_if_f rfl (by simpa using h1) ?_
  refine zal ?_
  refine ⟨by first | rfl | assumption | simp_all, rfl, [0, 1, 2, 3], rfl, ⟨rfl, rfl, rfl, rfl, trivial⟩⟩
set_option maxRecDepth 4000 in
set_option maxHeartbeats 1000000 in
theorem samRound_false (w h : Int) (da db : List D) (ts us : List TL) (ra : RowOk da ts) (rb : RowOk db us) (ca : CvOk w h ts) (cb : CvOk w h us) (x y : Int) (ho : onS w h x y = true) (b : Bool) (h1 : getC w ts x y ≠ getC w us x y) : DRound Try.prog 0 [.val (.agg #[.int .i64 x, .int .i64 y])] [.lp 42 [(2, .loc 1 0), (3, .loc 2 0), (5, .loc 3 0)] #[33] samA samB .ready none, .mix 42 [cvD w h da], .mix 42 [cvD w h db], .flat 4 [.bool b]] false [.lp 42 [(2, .loc 1 0), (3, .loc 2 0), (5, .loc 3 0)] #[33] samA samB .done (some (.exit 0)), .mix 42 [cvD w h da], .mix 42 [cvD w h db], .flat 4 [.bool false]] := by
  refine dround_go 4 rfl rfl (by simp) rfl rfl fun s0 hs0 => ?_
  refine zak 1 (by simp only [holes, List.cons_append, List.nil_append]; exact rfl) ?_
  refine zad ?_
  refine zan rfl rfl rfl (op_alloc 4 rfl zr85 rfl) (by simp only [upd, za, zaa]; exact rfl) ?_
  refine walk_s rfl rfl (op_stwa rfl tb85 (ev1 rfl) (ev1 rfl) rfl rfl rfl rfl) (by simp only [upd, za, zaa]; exact rfl) ?_
  refine zaf ?_
  refine ⟨rfl, ?_⟩
  simp only [za, zaa]
  refine zam ?_
  refine zae ?_
  refine dwp_draw [([1], []), ([4], []), ([], []), ([2], []), ([4], []), ([], []), ([], [])] mixed (by kernel_rfl) ?_
  refine zag rfl rfl (op_ldm rfl tb42 (ev1 rfl) rfl rfl) ?_
  refine zag rfl rfl (op_ldw rfl tb85 (ev1 rfl) rfl rfl) ?_
  refine zag rfl rfl (zah [] [] [] rfl (ev1 rfl) (ec (ev1 rfl) (ec (ev1 rfl) en)) rfl rfl (color_d w h da ts ra ca x y ho) rfl rfl rfl rfl rfl rfl) ?_
  refine zag rfl rfl (op_ldm rfl tb42 (ev1 rfl) rfl rfl) ?_
  refine zag rfl rfl (op_ldw rfl tb85 (ev1 rfl) rfl rfl) ?_
  refine zag rfl rfl (zah [] [] [] rfl (ev1 rfl) (ec (ev1 rfl) (ec (ev1 rfl) en)) rfl rfl (color_d w h db us rb cb x y ho) rfl rfl rfl rfl rfl rfl) ?_
  refine zag rfl rfl (op_ner eq87 rfl gd87 tb87 (ev1 rfl) (ev1 rfl)) ?_
  refine lex_nil ?_
  refine dwp_if_t rfl (by simpa using h1) ?_
  refine zae ?_
  refine zad ?_
  refine walk_s rfl rfl (op_stwb rfl tb4 (ev1 rfl) (ev1 rfl) rfl) (by simp only [upd, za, zaa]; exact rfl) ?_
  refine zaf ?_
  refine dwp_exit ?_
  refine ⟨by first | rfl | assumption | simp_all, rfl, [0, 1, 2, 3], rfl, ⟨rfl, rfl, rfl, rfl, trivial⟩⟩
theorem samRound (w h : Int) (da db : List D) (ts us : List TL) (ra : RowOk da ts) (rb : RowOk db us) (ca : CvOk w h ts) (cb : CvOk w h us) (x y : Int) (ho : onS w h x y = true) (b : Bool) : DRound Try.prog 0 [.val (.agg #[.int .i64 x, .int .i64 y])] [.lp 42 [(2, .loc 1 0), (3, .loc 2 0), (5, .loc 3 0)] #[33] samA samB .ready none, .mix 42 [cvD w h da], .mix 42 [cvD w h db], .flat 4 [.bool b]] (decide (getC w ts x y = getC w us x y)) [.lp 42 [(2, .loc 1 0), (3, .loc 2 0), (5, .loc 3 0)] #[33] samA samB (rst (decide (getC w ts x y = getC w us x y))) (rpe (.exit 0) (decide (getC w ts x y = getC w us x y))), .mix 42 [cvD w h da], .mix 42 [cvD w h db], .flat 4 [.bool (b && decide (getC w ts x y = getC w us x y))]] := by
  by_cases h1 : getC w ts x y = getC w us x y
  · rw [decide_eq_true h1, Bool.and_true]
    exact samRound_true w h da db ts us ra rb ca cb x y ho b h1
  · rw [decide_eq_false h1, Bool.and_false]
    exact samRound_false w h da db ts us ra rb ca cb x y ho b h1
set_option maxRecDepth 4000 in
set_option maxHeartbeats 1000000 in
theorem pts_same (w h : Int) (da db : List D) (ts us : List TL) (ra : RowOk da ts) (rb : RowOk db us) (ca : CvOk w h ts) (cb : CvOk w h us) (b : Bool) : DFun Try.prog 70 [.yld 0, .loc 4 0, .loc 5 0] [.lp 42 [(2, .loc 1 0), (3, .loc 2 0), (5, .loc 3 0)] #[33] samA samB .ready none, .mix 42 [cvD w h da], .mix 42 [cvD w h db], .flat 4 [.bool b], .flat 3 [.int .i64 (h * 8)], .flat 3 [.int .i64 (w * 8)]] (.tup []) [.lp 42 [(2, .loc 1 0), (3, .loc 2 0), (5, .loc 3 0)] #[33] samA samB (rst (sameF w h ts us)) (rpe (.exit 0) (sameF w h ts us)), .mix 42 [cvD w h da], .mix 42 [cvD w h db], .flat 4 [.bool (b && (sameF w h ts us))], .flat 3 [.int .i64 (h * 8)], .flat 3 [.int .i64 (w * 8)]] := by
  have hb := mayS_b ca.may
  refine zao (N := 22) 6 (by kernel_rfl) Try.func70 rfl rfl rfl (by simp only [fr0, Nat.zero_add, Nat.reduceAdd]; exact rfl) rfl fun s0 hs0 => ?_
  refine zae ?_
  refine zad ?_
  refine zab rfl rfl rfl (op_ldo rfl tb3 (ev1 rfl) rfl rfl) ?_
  refine zab rfl rfl rfl (zac (.inl rfl) (ev1 rfl)) ?_
  refine zaf ?_
  refine zam ?_
  refine dwp_loopS ⟨hs0, rfl⟩ (α := Nat) (fun y => [(7, .val (.int .i64 (y : Int)))]) [(0, _), (2, _), (6, _)] (fun y => []) [_, _, _, _, _, _] (fun y => (y : Int) ≤ h * 8 ∧ allEq w ts us (w * 8).toNat y = true) (fun y => (h * 8).toNat - y) 0 [0, 1, 2, 3, 4, 5] (⟨by omega, rfl⟩) rfl ⟨rfl, rfl, rfl, trivial⟩ ⟨rfl, trivial⟩ ⟨rfl, rfl, rfl, rfl, rfl, rfl, trivial⟩ ?_
  intro y hx
  simp only [upd, za, zaa, List.cons_append, List.nil_append]
  obtain ⟨hy, hey⟩ := hx
  refine zae ?_
  refine zad ?_
  refine zab rfl rfl rfl (op_lss rfl (ev1 rfl) (ev1 rfl)) ?_
  refine zaf ?_
  refine zae ?_
  refine dwp_cond rfl (fun c1 => ?_) (fun c1 => ?_)
  · try simp only [decide_eq_true_eq, decide_eq_false_iff_not, beq_iff_eq, bne_iff_ne, beq_eq_false_iff_ne, bne_eq_false_iff_eq, Bool.not_eq_true', Bool.not_eq_false', Bool.and_eq_true, Bool.or_eq_true, Bool.or_eq_false_iff, ne_eq, Decidable.not_not, Int.not_lt, Int.not_le] at c1
    refine zal ?_
    refine zae ?_
    refine zam ?_
    refine zae ?_
    refine zad ?_
    refine zab rfl rfl rfl (zac (.inl rfl) (ev1 rfl)) ?_
    refine zab rfl rfl rfl (zac (.inr rfl) (ev1 rfl)) ?_
    refine zaf ?_
    refine zae ?_
    refine zad ?_
    refine zab rfl rfl rfl (op_ldo rfl tb3 (ev1 rfl) rfl rfl) ?_
    refine zab rfl rfl rfl (zac (.inl rfl) (ev1 rfl)) ?_
    refine zaf ?_
    refine zam ?_
    refine dwp_loopS ⟨hs0, rfl⟩ (α := Nat) (fun x => [(11, .val (.int .i64 (x : Int)))]) [(0, _), (2, _), (4, _), (6, _), (7, _), (10, _)] (fun x => []) [_, _, _, _, _, _] (fun x => (x : Int) ≤ w * 8 ∧ rowEq w ts us y x = true) (fun x => (w * 8).toNat - x) 0 [0, 1, 2, 3, 4, 5] (⟨by omega, rfl⟩) rfl ⟨rfl, rfl, rfl, rfl, rfl, rfl, trivial⟩ ⟨rfl, trivial⟩ ⟨rfl, rfl, rfl, rfl, rfl, rfl, trivial⟩ ?_
    intro x hx
    simp only [upd, za, zaa, List.cons_append, List.nil_append]
    obtain ⟨hx2, hex⟩ := hx
    refine zae ?_
    refine zad ?_
    refine zab rfl rfl rfl (op_lss rfl (ev1 rfl) (ev1 rfl)) ?_
    refine zaf ?_
    refine zae ?_
    refine dwp_cond rfl (fun c2 => ?_) (fun c2 => ?_)
    · try simp only [decide_eq_true_eq, decide_eq_false_iff_not, beq_iff_eq, bne_iff_ne, beq_eq_false_iff_ne, bne_eq_false_iff_eq, Bool.not_eq_true', Bool.not_eq_false', Bool.and_eq_true, Bool.or_eq_true, Bool.or_eq_false_iff, ne_eq, Decidable.not_not, Int.not_lt, Int.not_le] at c2
      refine zal ?_
      refine zae ?_
      refine zam ?_
      refine zae ?_
      refine zad ?_
      refine zab rfl rfl rfl (zac (.inl rfl) (ev1 rfl)) ?_
      refine zab rfl rfl rfl (zac (.inr rfl) (ev1 rfl)) ?_
      refine zaf ?_
      refine zae ?_
      have ho : onS w h (x : Int) (y : Int) = true := onS_iff.2 ⟨by omega, by omega⟩
      refine zad ?_
      refine zab rfl rfl rfl (zac (.inl rfl) (ev1 rfl)) ?_
      refine zab rfl rfl rfl (zac (.inl rfl) (ev1 rfl)) ?_
      refine zab rfl rfl rfl (zac (.inl rfl) (ev1 rfl)) ?_
      refine zab rfl rfl rfl (op_build (ps := [(0, .tmp 15), (1, .tmp 16)]) rfl fl85 zr85 (vc (ev1 rfl) (vc (ev1 rfl) vn)) rfl rfl) ?_
      refine zan rfl rfl rfl (op_y (i := 0) [0, 1, 2, 3] [] [] rfl (ev1 rfl) (ec (ev1 rfl) en) rfl rfl rfl (samRound w h da db ts us ra rb ca cb x y ho b) rfl rfl rfl rfl rfl) (by simp only [upd, za, zaa]; exact rfl) ?_
      refine zab rfl rfl rfl (op_not rfl (ev1 rfl)) ?_
      refine zaf ?_
      refine dwp_cond rfl (fun c3 => ?_) (fun c3 => ?_)
      · have e1 : decide (getC w ts (x : Int) (y : Int) = getC w us (x : Int) (y : Int)) = false := by simpa using c3
        refine dwp_ret ?_
        have e2 : sameF w h ts us = false := sameF_no (x := x) (y := y) (by omega) (by omega) (by simpa using e1)
        rw [e2, e1]
        refine kend [0, 1, 2, 3, 4, 5] (res_none rfl) rfl rfl ?_ ⟨rfl, rfl, rfl, rfl, rfl, rfl, trivial⟩
        rfl
      · have e1 : decide (getC w ts (x : Int) (y : Int) = getC w us (x : Int) (y : Int)) = true := by simpa using c3
        refine zal ?_
        refine zad ?_
        refine zab rfl rfl rfl (op_add' rfl (ev1 rfl) (ev1 rfl) (fun _ => IntWalk.i64_in _ (by omega))) ?_
        refine zab rfl rfl rfl (zac (.inl rfl) (ev1 rfl)) ?_
        refine zaf ?_
        rw [e1, Bool.and_true]
        refine ⟨x + 1, [0, 1, 2, 3, 4, 5], ⟨by omega, by rw [rowEq_succ, hex, e1]; rfl⟩, by simp only []; omega, rfl, ⟨rfl, rfl, rfl, rfl, rfl, rfl, rfl, trivial⟩, ⟨rfl, rfl, rfl, rfl, rfl, rfl, trivial⟩⟩
    · try simp only [decide_eq_true_eq, decide_eq_false_iff_not, beq_iff_eq, bne_iff_ne, beq_eq_false_iff_ne, bne_eq_false_iff_eq, Bool.not_eq_true', Bool.not_eq_false', Bool.and_eq_true, Bool.or_eq_true, Bool.or_eq_false_iff, ne_eq, Decidable.not_not, Int.not_lt, Int.not_le] at c2
      refine dwp_exit ?_
      refine zad ?_
      refine zab rfl rfl rfl (op_add' rfl (ev1 rfl) (ev1 rfl) (fun _ => IntWalk.i64_in _ (by omega))) ?_
      refine zab rfl rfl rfl (zac (.inl rfl) (ev1 rfl)) ?_
      refine zaf ?_
      obtain rfl : x = (w * 8).toNat := by omega
      refine ⟨y + 1, [0, 1, 2, 3, 4, 5], ⟨by omega, by rw [allEq_succ, hey, hex]; rfl⟩, by simp only []; omega, rfl, ⟨rfl, rfl, rfl, rfl, trivial⟩, ⟨rfl, rfl, rfl, rfl, rfl, rfl, trivial⟩⟩
  · try simp only [decide_eq_true_eq, decide_eq_false_iff_not, beq_iff_eq, bne_iff_ne, beq_eq_false_iff_ne, bne_eq_false_iff_eq, Bool.not_eq_true', Bool.not_eq_false', Bool.and_eq_true, Bool.or_eq_true, Bool.or_eq_false_iff, ne_eq, Decidable.not_not, Int.not_lt, Int.not_le] at c1
    refine dwp_exit ?_
    have e2 : sameF w h ts us = true := by rw [sameF, show (h * 8).toNat = y by omega]; exact hey
    rw [e2, Bool.and_true]
    refine kend [0, 1, 2, 3, 4, 5] (res_none rfl) rfl rfl ?_ ⟨rfl, rfl, rfl, rfl, rfl, rfl, trivial⟩
    rfl
set_option maxRecDepth 4000 in
set_option maxHeartbeats 1000000 in
theorem same_cv (w h : Int) (da db : List D) (ts us : List TL) (ra : RowOk da ts) (rb : RowOk db us) (ca : CvOk w h ts) (cb : CvOk w h us)  : DFun Try.prog 18 [cvD w h da, cvD w h db] [] (.val (.bool (decide (ts = us)))) [] := by
  refine zao (N := 42) 0 (by kernel_rfl) Try.func18 rfl rfl rfl (by simp only [fr0, Nat.zero_add, Nat.reduceAdd]; exact rfl) rfl fun s0 hs0 => ?_
  refine zae ?_
  refine zak 2 (by simp only [holes, List.cons_append, List.nil_append]; exact rfl) ?_
  refine zad ?_
  refine zan rfl rfl rfl (op_boxm 0 rfl (ev1 rfl) (fun s v h => by cases h <;> rfl) rfl) (by simp only [upd, za, zaa]; exact rfl) ?_
  refine zan rfl rfl rfl (op_boxm 1 rfl (ev1 rfl) (fun s v h => by cases h <;> rfl) rfl) (by simp only [upd, za, zaa]; exact rfl) ?_
  refine zab rfl rfl rfl (zac (.inr rfl) (ev1 rfl)) ?_
  refine zaf ?_
  refine dwp_scope ?_
  refine zae ?_
  refine zae ?_
  refine zad ?_
  refine zab rfl rfl rfl (op_ldm rfl tb42 (ev1 rfl) rfl rfl) ?_
  refine zab rfl rfl rfl (op_pnilm rfl pt42 (ev1 rfl)) ?_
  refine zab rfl rfl rfl (zac (.inl rfl) (ev1 rfl)) ?_
  refine zaj (gd_f rfl rfl rfl) rfl rfl rfl (op_ldm rfl tb42 (ev1 rfl) rfl rfl) ?_
  refine zaj (gd_f rfl rfl rfl) rfl rfl rfl (op_pnilm rfl pt42 (ev2 rfl)) ?_
  refine zab rfl rfl rfl (op_or rfl (ev1 rfl) (ev3 rfl id)) ?_
  refine zaf ?_
  refine dwp_if_f rfl (by simp) ?_
  refine zal ?_
  refine zae ?_
  refine zae ?_
  refine dwp_draw [([0], []), ([], []), ([], []), ([], []), ([1], []), ([], []), ([], []), ([], []), ([], [])] mixed (by kernel_rfl) ?_
  refine zag rfl rfl (op_ldm rfl tb42 (ev1 rfl) rfl rfl) ?_
  refine zag rfl rfl (op_nc rfl (ev1 rfl) (fun s v h => by cases h; exact ⟨_, rfl⟩)) ?_
  refine zag rfl rfl (op_fadm rfl fo80_0 (ev1 rfl)) ?_
  refine zag rfl rfl (op_lddv [_, _] rfl tb77 (ev1 rfl) rfl rfl) ?_
  refine zag rfl rfl (op_ldm rfl tb42 (ev1 rfl) rfl rfl) ?_
  refine zag rfl rfl (op_nc rfl (ev1 rfl) (fun s v h => by cases h; exact ⟨_, rfl⟩)) ?_
  refine zag rfl rfl (op_fadm rfl fo80_0 (ev1 rfl)) ?_
  refine zag rfl rfl (op_lddv [_, _] rfl tb77 (ev1 rfl) rfl rfl) ?_
  refine zag rfl rfl (op_ner eq77 rfl gd77 tb77 (ev1 rfl) (ev1 rfl)) ?_
  refine lex_nil ?_
  refine dwp_if_f rfl (by simp) ?_
  refine zal ?_
  refine zae ?_
  refine zak 1 (by simp only [holes, List.cons_append, List.nil_append]; exact rfl) ?_
  refine zad ?_
  refine zan rfl rfl rfl (op_alloc 2 rfl zr4 rfl) (by simp only [upd, za, zaa]; exact rfl) ?_
  refine walk_s rfl rfl (op_stwb rfl tb4 (ev1 rfl) (ev1 rfl) rfl) (by simp only [upd, za, zaa]; exact rfl) ?_
  refine zaf ?_
  refine zae ?_
  refine dwp_label ?_
  refine zae ?_
  refine zae ?_
  refine zak 2 (by simp only [holes, List.cons_append, List.nil_append]; exact rfl) ?_
  refine zad ?_
  refine zab rfl rfl rfl (op_ldm rfl tb42 (ev1 rfl) rfl rfl) ?_
  refine zab rfl rfl rfl (op_nc rfl (ev1 rfl) (fun s v h => by cases h; exact ⟨_, rfl⟩)) ?_
  refine zab rfl rfl rfl (op_fadm rfl fo80_0 (ev1 rfl)) ?_
  refine zab rfl rfl rfl (op_lddv [_, _] rfl tb77 (ev1 rfl) rfl rfl) ?_
  refine zan rfl rfl rfl (zah [] [] [3, 4] rfl (ev1 rfl) (ec (ev1 rfl) en) rfl rfl (points_d w h ca.may) rfl rfl rfl rfl rfl rfl) (by simp only [upd, za, zaa]; exact rfl) ?_
  refine zaf ?_
  refine zam ?_
  refine dwp_hole ?_
  simp only [List.cons_append, List.nil_append]
  refine dwp_rf (FL := [(2, _), (3, _), (5, _)]) (st := (rst (sameF w h ts us))) (pe := (rpe (.exit 0) (sameF w h ts us))) [5, 0, 1, 2, 3, 4] [] [] 5 rfl rfl (ev1 rfl) rfl (subF_lk ⟨rfl, rfl, rfl, trivial⟩) rfl rfl rfl (pts_same w h da db ts us ra rb ca cb _) rfl rfl rfl rfl rfl rfl rfl (rst_busy _) (fun e => ?_) (fun c e => ?_)
  · simp only [upd, za, zaa]
    refine zae ?_
    refine zad ?_
    refine zab rfl rfl rfl (op_ldo rfl tb4 (ev1 rfl) rfl rfl) ?_
    refine zab rfl rfl rfl (zac (.inr rfl) (ev1 rfl)) ?_
    refine zaf ?_
    refine dwp_ret ?_
    refine kend0 (rs1 rfl (rv_t rfl)) rfl ?_
    rw [← sameF_iff ca cb]
    rfl
  · obtain ⟨e1, rfl⟩ : sameF w h ts us = false ∧ c = .exit 0 := by
      cases h : sameF w h ts us <;> simp_all [rpe]
    simp only [upd, za, zaa]
    refine dwp_exit ?_
    refine zae ?_
    refine zad ?_
    refine zab rfl rfl rfl (op_ldo rfl tb4 (ev1 rfl) rfl rfl) ?_
    refine zab rfl rfl rfl (zac (.inr rfl) (ev1 rfl)) ?_
    refine zaf ?_
    refine dwp_ret ?_
    refine kend0 (rs1 rfl (rv_t rfl)) rfl ?_
    rw [← sameF_iff ca cb]
    rfl
end Go.Proofs.Ytmpodnadoebclaa
namespace Go.Proofs.Ytmpodnadoebclaa
set_option maxRecDepth 4000
set_option linter.unusedVariables false
set_option linter.unusedSimpArgs false
open Go.RowKit
set_option maxRecDepth 4000 in
set_option maxHeartbeats 1000000 in
theorem refSite_d (n : Int) : DFun Try.prog 43 [.val (.int .i64 n)] [] (.val (.bool (isSt n))) [] := by
  refine zao (N := 9) 0 (by kernel_rfl) Try.func43 rfl rfl rfl (by simp only [fr0, Nat.zero_add, Nat.reduceAdd]; exact rfl) rfl fun s0 hs0 => ?_
  refine zae ?_
  refine zad ?_
  refine zab rfl rfl rfl (zac (.inr rfl) (ev1 rfl)) ?_
  refine zaf ?_
  refine zae ?_
  refine zad ?_
  refine zab rfl rfl rfl (zac (.inl rfl) (ev1 rfl)) ?_
  refine zab rfl rfl rfl (op_geq rfl (ev1 rfl) (ev1 rfl)) ?_
  refine zab rfl rfl rfl (zac (.inl rfl) (ev1 rfl)) ?_
  refine zaj (gd_t rfl rfl rfl) rfl rfl rfl (zac (.inl rfl) (ev1 rfl)) ?_
  refine zaj (gd_t rfl rfl rfl) rfl rfl rfl (op_leq rfl (ev2 rfl) (ev1 rfl)) ?_
  refine zab rfl rfl rfl (op_and rfl (ev1 rfl) (ev3 rfl id)) ?_
  refine zab rfl rfl rfl (zac (.inr rfl) (ev1 rfl)) ?_
  refine zaf ?_
  refine dwp_ret ?_
  refine kend0 (rs1 rfl (rv_t rfl)) rfl ?_
  rfl
set_option maxRecDepth 4000 in
set_option maxHeartbeats 1000000 in
theorem refRight_d (i : I3) : DFun Try.prog 14 [.val (.agg (idc i).toArray)] [] (.val (.bool (mayR i))) [] := by
  refine zao (N := 26) 0 (by kernel_rfl) Try.func14 rfl rfl rfl (by simp only [fr0, Nat.zero_add, Nat.reduceAdd]; exact rfl) rfl fun s0 hs0 => ?_
  refine zae ?_
  refine zak 1 (by simp only [holes, List.cons_append, List.nil_append]; exact rfl) ?_
  refine zad ?_
  refine zan rfl rfl rfl (op_boxa 0 rfl (ev1 rfl) rfl) (by simp only [upd, za, zaa]; exact rfl) ?_
  refine zab rfl rfl rfl (zac (.inr rfl) (ev1 rfl)) ?_
  refine zaf ?_
  refine zae ?_
  refine zad ?_
  refine zab rfl rfl rfl (op_fa rfl fo35_0 (ev1 rfl)) ?_
  refine zab rfl rfl rfl (op_ldo rfl tb33 (ev1 rfl) rfl rfl) ?_
  refine zab rfl rfl rfl (op_geq rfl (ev1 rfl) (ev1 rfl)) ?_
  refine zab rfl rfl rfl (zac (.inl rfl) (ev1 rfl)) ?_
  refine zaj (gd_t rfl rfl rfl) rfl rfl rfl (op_fa rfl fo35_0 (ev1 rfl)) ?_
  refine zaj (gd_t rfl rfl rfl) rfl rfl rfl (op_ldo rfl tb33 (ev2 rfl) rfl rfl) ?_
  refine zaj (gd_t rfl rfl rfl) rfl rfl rfl (op_leq rfl (ev2 rfl) (ev1 rfl)) ?_
  refine zab rfl rfl rfl (op_and rfl (ev1 rfl) (ev3 rfl id)) ?_
  refine zab rfl rfl rfl (zac (.inl rfl) (ev1 rfl)) ?_
  refine zaj (gd_t rfl rfl rfl) rfl rfl rfl (op_fa rfl fo35_1 (ev1 rfl)) ?_
  refine zaj (gd_t rfl rfl rfl) rfl rfl rfl (op_ldo rfl tb3 (ev2 rfl) rfl rfl) ?_
  refine zaj (gd_t rfl rfl rfl) rfl rfl rfl (zah [] [] [] rfl (ev1 rfl) (ec (ev2 rfl) en) rfl rfl (refSite_d _) rfl rfl rfl rfl rfl rfl) ?_
  refine zab rfl rfl rfl (op_and rfl (ev1 rfl) (ev3 rfl id)) ?_
  refine zab rfl rfl rfl (zac (.inl rfl) (ev1 rfl)) ?_
  refine zaj (gd_t rfl rfl rfl) rfl rfl rfl (op_fa rfl fo35_2 (ev1 rfl)) ?_
  refine zaj (gd_t rfl rfl rfl) rfl rfl rfl (op_ldo rfl tb33 (ev2 rfl) rfl rfl) ?_
  refine zaj (gd_t rfl rfl rfl) rfl rfl rfl (op_geq rfl (ev2 rfl) (ev1 rfl)) ?_
  refine zab rfl rfl rfl (op_and rfl (ev1 rfl) (ev3 rfl id)) ?_
  refine zab rfl rfl rfl (zac (.inl rfl) (ev1 rfl)) ?_
  refine zaj (gd_t rfl rfl rfl) rfl rfl rfl (op_fa rfl fo35_2 (ev1 rfl)) ?_
  refine zaj (gd_t rfl rfl rfl) rfl rfl rfl (op_ldo rfl tb33 (ev2 rfl) rfl rfl) ?_
  refine zaj (gd_t rfl rfl rfl) rfl rfl rfl (op_leq rfl (ev2 rfl) (ev1 rfl)) ?_
  refine zab rfl rfl rfl (op_and rfl (ev1 rfl) (ev3 rfl id)) ?_
  refine zab rfl rfl rfl (zac (.inr rfl) (ev1 rfl)) ?_
  refine zaf ?_
  refine dwp_ret ?_
  refine kend0 (rs1 rfl (rv_t rfl)) rfl ?_
  simp [mayR, isNum, Bool.and_assoc]
set_option maxRecDepth 4000 in
set_option maxHeartbeats 1000000 in
theorem refLess_d (a b : I3) : DFun Try.prog 54 [.val (.agg (idc a).toArray), .val (.agg (idc b).toArray)] [] (.val (.bool (lessR a b))) [] := by
  refine zao (N := 30) 0 (by kernel_rfl) Try.func54 rfl rfl rfl (by simp only [fr0, Nat.zero_add, Nat.reduceAdd]; exact rfl) rfl fun s0 hs0 => ?_
  refine zae ?_
  refine zak 2 (by simp only [holes, List.cons_append, List.nil_append]; exact rfl) ?_
  refine zad ?_
  refine zan rfl rfl rfl (op_boxa 0 rfl (ev1 rfl) rfl) (by simp only [upd, za, zaa]; exact rfl) ?_
  refine zan rfl rfl rfl (op_boxa 1 rfl (ev1 rfl) rfl) (by simp only [upd, za, zaa]; exact rfl) ?_
  refine zab rfl rfl rfl (zac (.inr rfl) (ev1 rfl)) ?_
  refine zaf ?_
  refine zae ?_
  refine zae ?_
  refine zad ?_
  refine zab rfl rfl rfl (op_fa rfl fo35_0 (ev1 rfl)) ?_
  refine zab rfl rfl rfl (op_ldo rfl tb33 (ev1 rfl) rfl rfl) ?_
  refine zab rfl rfl rfl (op_fa rfl fo35_0 (ev1 rfl)) ?_
  refine zab rfl rfl rfl (op_ldo rfl tb33 (ev1 rfl) rfl rfl) ?_
  refine zab rfl rfl rfl (op_neq rfl (ev1 rfl) (ev1 rfl)) ?_
  refine zaf ?_
  refine dwp_cond rfl (fun c1 => ?_) (fun c1 => ?_)
  · try simp only [decide_eq_true_eq, decide_eq_false_iff_not, beq_iff_eq, bne_iff_ne, beq_eq_false_iff_ne, bne_eq_false_iff_eq, Bool.not_eq_true', Bool.not_eq_false', Bool.and_eq_true, Bool.or_eq_true, Bool.or_eq_false_iff, ne_eq, Decidable.not_not, Int.not_lt, Int.not_le] at c1
    refine zae ?_
    refine zad ?_
    refine zab rfl rfl rfl (op_fa rfl fo35_0 (ev1 rfl)) ?_
    refine zab rfl rfl rfl (op_ldo rfl tb33 (ev1 rfl) rfl rfl) ?_
    refine zab rfl rfl rfl (op_fa rfl fo35_0 (ev1 rfl)) ?_
    refine zab rfl rfl rfl (op_ldo rfl tb33 (ev1 rfl) rfl rfl) ?_
    refine zab rfl rfl rfl (op_lss rfl (ev1 rfl) (ev1 rfl)) ?_
    refine zab rfl rfl rfl (zac (.inr rfl) (ev1 rfl)) ?_
    refine zaf ?_
    refine dwp_ret ?_
    refine kend0 (rs1 rfl (rv_t rfl)) rfl ?_
    simp_all [lessR]
  · try simp only [decide_eq_true_eq, decide_eq_false_iff_not, beq_iff_eq, bne_iff_ne, beq_eq_false_iff_ne, bne_eq_false_iff_eq, Bool.not_eq_true', Bool.not_eq_false', Bool.and_eq_true, Bool.or_eq_true, Bool.or_eq_false_iff, ne_eq, Decidable.not_not, Int.not_lt, Int.not_le] at c1
    refine zal ?_
    refine zae ?_
    refine zae ?_
    refine zad ?_
    refine zab rfl rfl rfl (op_fa rfl fo35_1 (ev1 rfl)) ?_
    refine zab rfl rfl rfl (op_ldo rfl tb3 (ev1 rfl) rfl rfl) ?_
    refine zab rfl rfl rfl (op_fa rfl fo35_1 (ev1 rfl)) ?_
    refine zab rfl rfl rfl (op_ldo rfl tb3 (ev1 rfl) rfl rfl) ?_
    refine zab rfl rfl rfl (op_neq rfl (ev1 rfl) (ev1 rfl)) ?_
    refine zaf ?_
    refine dwp_cond rfl (fun c2 => ?_) (fun c2 => ?_)
    · try simp only [decide_eq_true_eq, decide_eq_false_iff_not, beq_iff_eq, bne_iff_ne, beq_eq_false_iff_ne, bne_eq_false_iff_eq, Bool.not_eq_true', Bool.not_eq_false', Bool.and_eq_true, Bool.or_eq_true, Bool.or_eq_false_iff, ne_eq, Decidable.not_not, Int.not_lt, Int.not_le] at c2
      refine zae ?_
      refine zad ?_
      refine zab rfl rfl rfl (op_fa rfl fo35_1 (ev1 rfl)) ?_
      refine zab rfl rfl rfl (op_ldo rfl tb3 (ev1 rfl) rfl rfl) ?_
      refine zab rfl rfl rfl (op_fa rfl fo35_1 (ev1 rfl)) ?_
      refine zab rfl rfl rfl (op_ldo rfl tb3 (ev1 rfl) rfl rfl) ?_
      refine zab rfl rfl rfl (op_lss rfl (ev1 rfl) (ev1 rfl)) ?_
      refine zab rfl rfl rfl (zac (.inr rfl) (ev1 rfl)) ?_
      refine zaf ?_
      refine dwp_ret ?_
      refine kend0 (rs1 rfl (rv_t rfl)) rfl ?_
      simp_all [lessR]
    · try simp only [decide_eq_true_eq, decide_eq_false_iff_not, beq_iff_eq, bne_iff_ne, beq_eq_false_iff_ne, bne_eq_false_iff_eq, Bool.not_eq_true', Bool.not_eq_false', Bool.and_eq_true, Bool.or_eq_true, Bool.or_eq_false_iff, ne_eq, Decidable.not_not, Int.not_lt, Int.not_le] at c2
      refine zal ?_
      refine zae ?_
      refine zad ?_
      refine zab rfl rfl rfl (op_fa rfl fo35_2 (ev1 rfl)) ?_
      refine zab rfl rfl rfl (op_ldo rfl tb33 (ev1 rfl) rfl rfl) ?_
      refine zab rfl rfl rfl (op_fa rfl fo35_2 (ev1 rfl)) ?_
      refine zab rfl rfl rfl (op_ldo rfl tb33 (ev1 rfl) rfl rfl) ?_
      refine zab rfl rfl rfl (op_lss rfl (ev1 rfl) (ev1 rfl)) ?_
      refine zab rfl rfl rfl (zac (.inr rfl) (ev1 rfl)) ?_
      refine zaf ?_
      refine dwp_ret ?_
      refine kend0 (rs1 rfl (rv_t rfl)) rfl ?_
      simp_all [lessR]
end Go.Proofs.Ytmpodnadoebclaa
namespace Go.Proofs.Ytmpodnadoebclaa
set_option maxRecDepth 4000
set_option linter.unusedVariables false
set_option linter.unusedSimpArgs false
open Go.RowKit
theorem clN_pos (g : Nat → Int) : ∀ n, 0 < n → 0 < clN g n
  | 0, h => absurd h (by omega)
  | n + 1, _ => by
    unfold clN
    split
    · omega
    · rename_i h; omega
set_option maxRecDepth 4000 in
set_option maxHeartbeats 1000000 in
theorem mput_no (l r : List Mk) (h : l.length ≤ 5000) (h2 : r.length ≤ 5000) (hno : (chkM l && r.all isMk) = false) : DFun Try.prog 16 [.slm 4 (l).length ((l).flatMap mkC), .slm 4 (r).length ((r).flatMap mkC)] [] (.tup [.val (.slice none 0 0), .val (.int .i64 260)]) [] := by
  refine zao (N := 37) 0 (by kernel_rfl) Try.func16 rfl rfl rfl (by simp only [fr0, Nat.zero_add, Nat.reduceAdd]; exact rfl) rfl fun s0 hs0 => ?_
  refine dwp_lenm (t := 0) rfl fun hl0 hL0 => ?_
  refine dwp_lenm (t := 1) rfl fun hl1 hL1 => ?_
  refine zae ?_
  refine zad ?_
  refine zab rfl rfl rfl (zac (.inr rfl) (ev1 rfl)) ?_
  refine zab rfl rfl rfl (zac (.inr rfl) (ev1 rfl)) ?_
  refine zaf ?_
  refine zae ?_
  refine zae ?_
  refine zad ?_
  refine zab rfl rfl rfl (zac (.inl rfl) (ev1 rfl)) ?_
  refine zab rfl rfl rfl (zah [] [] [] rfl (ev1 rfl) (ec (ev1 rfl) en) rfl rfl (mcheck_d _ (by omega)) rfl rfl rfl rfl rfl rfl) ?_
  refine zab rfl rfl rfl (op_neq rfl (ev1 rfl) (ev1 rfl)) ?_
  refine zab rfl rfl rfl (zac (.inl rfl) (ev1 rfl)) ?_
  refine zaj (gd_f rfl rfl rfl) rfl rfl rfl (zac (.inl rfl) (ev1 rfl)) ?_
  refine zaj (gd_f rfl rfl rfl) rfl rfl rfl (zah [] [] [] rfl (ev1 rfl) (ec (ev2 rfl) (ec (ev1 rfl) en)) rfl rfl (stay_d r (by omega)) rfl rfl rfl rfl rfl rfl) ?_
  refine zaj (gd_f rfl rfl rfl) rfl rfl rfl (op_lenm rfl sl25 (ev2 rfl)) ?_
  refine zaj (gd_f rfl rfl rfl) rfl rfl rfl (zac (.inl rfl) (ev1 rfl)) ?_
  refine zaj (gd_f rfl rfl rfl) rfl rfl rfl (op_lenm rfl sl25 (ev2 rfl)) ?_
  refine zaj (gd_f rfl rfl rfl) rfl rfl rfl (op_lss rfl (ev2 rfl) (ev2 rfl)) ?_
  refine zab rfl rfl rfl (op_or rfl (ev1 rfl) (ev3 rfl id)) ?_
  refine zaf ?_
  refine dwp_if_t rfl (by rw [filt_len]; cases g1 : chkM l <;> cases g2 : r.all isMk <;> simp_all [errOr]) ?_
  refine zae ?_
  refine zad ?_
  refine zab rfl rfl rfl (zac (.inr rfl) (ev1 rfl)) ?_
  refine zab rfl rfl rfl (zac (.inr rfl) (ev1 rfl)) ?_
  refine zaf ?_
  refine dwp_ret ?_
  refine kend0 (rs2 rfl (rv_t rfl) (rv_t rfl)) rfl ?_
  rfl
end Go.Proofs.Ytmpodnadoebclaa
namespace Go.Proofs.Ytmpodnadoebclaa
set_option maxRecDepth 4000
set_option linter.unusedVariables false
set_option linter.unusedSimpArgs false
open Go.RowKit
def rsN (l : List I3) : Nat → Bool
  | 0 => true
  | k + 1 => rsN l k && (mayR (l.getD k zI3) && (decide (k = 0) || lessR (l.getD (k - 1) zI3) (l.getD k zI3)))
def rsB (l : List I3) : Bool := rsN l l.length
theorem rsN_no {l : List I3} : ∀ (n k : Nat), k < n → (mayR (l.getD k zI3) && (decide (k = 0) || lessR (l.getD (k - 1) zI3) (l.getD k zI3))) = false → rsN l n = false
  | 0, k, h, _ => absurd h (by omega)
  | n + 1, k, h, hl => by
    unfold rsN
    by_cases e : k = n
    · subst e; rw [hl, Bool.and_false]
    · rw [rsN_no n k (by omega) hl, Bool.false_and]
theorem rsN_split {l : List I3} : ∀ n, n ≤ l.length → rsN l n = ((l.take n).all mayR && risN l n)
  | 0, _ => rfl
  | 1, h => by
    rw [rsN, rsN, List.take_succ_eq_append_getElem (by omega), gI (by omega)]
    simp [risN]
  | n + 2, h => by
    rw [rsN, rsN_split (n + 1) (by omega), List.take_succ_eq_append_getElem (i := n + 1) (by omega), List.all_append, risN, gI (k := n + 1) (by omega)]
    rw [Nat.add_sub_cancel, decide_eq_false (Nat.succ_ne_zero n), Bool.false_or, List.all_cons, List.all_nil, Bool.and_true]
    cases (l.take (n + 1)).all mayR <;> cases risN l (n + 1) <;> cases mayR l[n + 1] <;> simp
theorem rsB_ok {l : List I3} : rsB l = true ↔ okI l := by
  unfold rsB
  rw [rsN_split _ (Nat.le_refl _), List.take_length, Bool.and_eq_true]
  constructor
  · rintro ⟨h1, h2⟩; exact (ris_ok h1).1 h2
  · intro h
    have h1 : l.all mayR = true := List.all_eq_true.2 h.1
    exact ⟨h1, (ris_ok h1).2 h⟩
def rtB (l : List I3) : Bool := rsB l && decide (l.length ≤ 6)
theorem rtB_ok {l : List I3} : rtB l = true ↔ l.length ≤ 6 ∧ okI l := by
  unfold rtB
  rw [Bool.and_eq_true, rsB_ok, decide_eq_true_eq]
  exact And.comm
theorem chk_rt (l : List Mk) : chkM l = rtB (idsK l) := by
  rw [Bool.eq_iff_iff, chk_ok, rtB_ok, List.length_map]
set_option maxRecDepth 4000 in
set_option maxHeartbeats 1000000 in
theorem rises_d (l : List I3) : DFun Try.prog 26 [.slf 3 l.length (l.flatMap idc)] [] (.val (.bool (rsB l))) [] := by
  refine zao (N := 30) 0 (by kernel_rfl) Try.func26 rfl rfl rfl (by simp only [fr0, Nat.zero_add, Nat.reduceAdd]; exact rfl) rfl fun s0 hs0 => ?_
  refine dwp_len (t := 0) rfl fun hl0 hL0 => ?_
  refine zae ?_
  refine zad ?_
  refine zab rfl rfl rfl (zac (.inr rfl) (ev1 rfl)) ?_
  refine zaf ?_
  refine zae ?_
  refine zae ?_
  refine zad ?_
  refine zab rfl rfl rfl (zac (.inl rfl) (ev1 rfl)) ?_
  refine zab rfl rfl rfl (op_len rfl sl22 (ev1 rfl)) ?_
  refine zab rfl rfl rfl (zac (.inl rfl) (ev1 rfl)) ?_
  refine zaf ?_
  refine zam ?_
  refine dwp_loopS ⟨hs0, rfl⟩ (α := Nat) (fun k => [(7, .val (.int .i64 (k : Int)))]) [(0, _), (5, _), (6, _)] (fun k => []) [] (fun k => k ≤ l.length ∧ rsN l k = true) (fun k => l.length - k) 0 [] (⟨Nat.zero_le _, rfl⟩) rfl ⟨rfl, rfl, rfl, trivial⟩ ⟨rfl, trivial⟩ trivial ?_
  intro k hx
  simp only [upd, za, zaa, List.cons_append, List.nil_append]
  obtain ⟨hk, he⟩ := hx
  refine zae ?_
  refine zad ?_
  refine zab rfl rfl rfl (op_lss rfl (ev1 rfl) (ev1 rfl)) ?_
  refine zaf ?_
  refine zae ?_
  refine dwp_cond rfl (fun c1 => ?_) (fun c1 => ?_)
  · try simp only [decide_eq_true_eq, decide_eq_false_iff_not, beq_iff_eq, bne_iff_ne, beq_eq_false_iff_ne, bne_eq_false_iff_eq, Bool.not_eq_true', Bool.not_eq_false', Bool.and_eq_true, Bool.or_eq_true, Bool.or_eq_false_iff, ne_eq, Decidable.not_not, Int.not_lt, Int.not_le] at c1
    refine zal ?_
    refine zae ?_
    refine zam ?_
    refine zae ?_
    refine zak 1 (by simp only [holes, List.cons_append, List.nil_append]; exact rfl) ?_
    refine zad ?_
    refine zab rfl rfl rfl (zac (.inl rfl) (ev1 rfl)) ?_
    refine zab rfl rfl rfl (op_ixsr (j := k) rfl sl22 (ev1 rfl) (ev1 rfl) (fun _ => rfl) (by decide) (by omega) (by omega)) ?_
    refine zab rfl rfl rfl (op_ldwd rfl tb35 (ev1 rfl) rfl) ?_
    refine zan rfl rfl rfl (op_alloc 0 rfl zr35 rfl) (by simp only [upd, za, zaa]; exact rfl) ?_
    refine zab rfl rfl rfl (zac (.inr rfl) (ev1 rfl)) ?_
    refine walk_s rfl rfl (op_stwa rfl tb35 (ev1 rfl) (ev1 rfl) rfl rfl rfl rfl) (by simp only [upd, za, zaa]; exact rfl) ?_
    refine zaf ?_
    refine zae ?_
    have hkl : k < l.length := by omega
    refine dwp_draw [([0], []), ([], []), ([], []), ([], []), ([], []), ([], []), ([], []), ([], []), ([], []), ([], []), ([], []), ([], []), ([0], []), ([], []), ([], []), ([], []), ([], [])] mixed (by kernel_rfl) ?_
    refine zag rfl rfl (op_ldw rfl tb35 (ev1 rfl) rfl rfl) ?_
    refine zag rfl rfl (zah [] [] [] rfl (ev1 rfl) (ec (ev1 rfl) en) rfl rfl (refRight_d _) rfl rfl rfl rfl rfl rfl) ?_
    refine zag rfl rfl (op_not rfl (ev1 rfl)) ?_
    refine zag rfl rfl (zac (.inl rfl) (ev1 rfl)) ?_
    refine zai (gd_f rfl rfl rfl) rfl rfl (zac (.inl rfl) (ev1 rfl)) ?_
    refine zai (gd_f rfl rfl rfl) rfl rfl (op_gtr rfl (ev2 rfl) (ev1 rfl)) ?_
    refine zai (gd_f rfl rfl rfl) rfl rfl (zac (.inl rfl) (ev2 rfl)) ?_
    refine zai (gd_tt rfl rfl rfl) rfl rfl (zac (.inl rfl) (ev1 rfl)) ?_
    refine zai (gd_tt rfl rfl rfl) rfl rfl (zac (.inl rfl) (ev1 rfl)) ?_
    refine zai (gd_tt rfl rfl rfl) rfl rfl (op_sub' rfl (ev2 rfl) (ev1 rfl) (fun hp => IntWalk.i64_in _ (by first | omega | (simp at hp; omega)))) ?_
    refine zai (gd_tt rfl rfl rfl) rfl rfl (op_ixsg (j := k - 1) (zI3) rfl sl22 (ev2 rfl) (ev2 rfl) (fun _ => rfl) (by decide) (fun hp => by first | omega | (simp at hp; omega)) (fun hp => by first | omega | (simp at hp; omega))) ?_
    refine zai (gd_tt rfl rfl rfl) rfl rfl (op_ldwd rfl tb35 (ev2 rfl) rfl) ?_
    refine zai (gd_tt rfl rfl rfl) rfl rfl (op_ldw rfl tb35 (ev1 rfl) rfl rfl) ?_
    refine zai (gd_tt rfl rfl rfl) rfl rfl (zah [] [] [] rfl (ev1 rfl) (ec (ev2 rfl) (ec (ev2 rfl) en)) rfl rfl (refLess_d _ _) rfl rfl rfl rfl rfl rfl) ?_
    refine zai (gd_tt rfl rfl rfl) rfl rfl (op_not rfl (ev2 rfl)) ?_
    refine zai (gd_f rfl rfl rfl) rfl rfl (op_and rfl (ev2 rfl) (ev2 rfl)) ?_
    refine zag rfl rfl (op_or rfl (ev1 rfl) (ev3 rfl id)) ?_
    refine lex_nil ?_
    refine dwp_cond rfl (fun c2 => ?_) (fun c2 => ?_)
    · have e0 : decide (0 < (k : Int)) = !decide (k = 0) := by
        rw [Bool.eq_iff_iff, Bool.not_eq_true', decide_eq_true_eq, decide_eq_false_iff_not]
        omega
      have c3 : (mayR (l.getD k zI3) && (decide (k = 0) || lessR (l.getD (k - 1) zI3) (l.getD k zI3))) = false := by
        rw [gI (k := k) (by omega)]
        rw [e0] at c2
        generalize lessR (l.getD (k - 1) zI3) l[k] = z at c2 ⊢
        generalize mayR l[k] = y at c2 ⊢
        generalize decide (k = 0) = x at c2 ⊢
        cases x <;> cases y <;> cases z <;> simp_all
      refine zae ?_
      refine zad ?_
      refine zab rfl rfl rfl (zac (.inr rfl) (ev1 rfl)) ?_
      refine zaf ?_
      refine dwp_ret ?_
      refine kend0 (rs1 rfl (rv_t rfl)) rfl ?_
      first | (rw [show rsB l = false from rsN_no l.length k (by omega) c3]) | (rw [show rsB l = true by unfold rsB; rw [show l.length = k by omega]; exact he])
    · have e0 : decide (0 < (k : Int)) = !decide (k = 0) := by
        rw [Bool.eq_iff_iff, Bool.not_eq_true', decide_eq_true_eq, decide_eq_false_iff_not]
        omega
      have c3 : (mayR (l.getD k zI3) && (decide (k = 0) || lessR (l.getD (k - 1) zI3) (l.getD k zI3))) = true := by
        rw [gI (k := k) (by omega)]
        rw [e0] at c2
        generalize lessR (l.getD (k - 1) zI3) l[k] = z at c2 ⊢
        generalize mayR l[k] = y at c2 ⊢
        generalize decide (k = 0) = x at c2 ⊢
        cases x <;> cases y <;> cases z <;> simp_all
      refine zal ?_
      refine zad ?_
      refine zab rfl rfl rfl (op_add' rfl (ev1 rfl) (ev1 rfl) (fun _ => IntWalk.i64_in _ (by omega))) ?_
      refine zab rfl rfl rfl (zac (.inl rfl) (ev1 rfl)) ?_
      refine zaf ?_
      refine ⟨k + 1, [], ⟨by omega, by rw [rsN, he, c3]; rfl⟩, by simp only []; omega, rfl, ⟨rfl, rfl, rfl, rfl, trivial⟩, trivial⟩
  · try simp only [decide_eq_true_eq, decide_eq_false_iff_not, beq_iff_eq, bne_iff_ne, beq_eq_false_iff_ne, bne_eq_false_iff_eq, Bool.not_eq_true', Bool.not_eq_false', Bool.and_eq_true, Bool.or_eq_true, Bool.or_eq_false_iff, ne_eq, Decidable.not_not, Int.not_lt, Int.not_le] at c1
    refine dwp_exit ?_
    refine zae ?_
    refine zad ?_
    refine zab rfl rfl rfl (zac (.inr rfl) (ev1 rfl)) ?_
    refine zaf ?_
    refine dwp_ret ?_
    refine kend0 (rs1 rfl (rv_t rfl)) rfl ?_
    first | (rw [show rsB l = false from rsN_no l.length k (by omega) c3]) | (rw [show rsB l = true by unfold rsB; rw [show l.length = k by omega]; exact he])
set_option maxRecDepth 4000 in
set_option maxHeartbeats 1000000 in
theorem rright_d (l : List I3) : DFun Try.prog 11 [.slf 3 l.length (l.flatMap idc)] [] (.val (.bool (rtB l))) [] := by
  refine zao (N := 10) 0 (by kernel_rfl) Try.func11 rfl rfl rfl (by simp only [fr0, Nat.zero_add, Nat.reduceAdd]; exact rfl) rfl fun s0 hs0 => ?_
  refine dwp_len (t := 0) rfl fun hl0 hL0 => ?_
  refine zae ?_
  refine zad ?_
  refine zab rfl rfl rfl (zac (.inr rfl) (ev1 rfl)) ?_
  refine zaf ?_
  refine zae ?_
  refine zad ?_
  refine zab rfl rfl rfl (zac (.inl rfl) (ev1 rfl)) ?_
  refine zab rfl rfl rfl (zah [] [] [] rfl (ev1 rfl) (ec (ev1 rfl) en) rfl rfl (rises_d _) rfl rfl rfl rfl rfl rfl) ?_
  refine zab rfl rfl rfl (zac (.inl rfl) (ev1 rfl)) ?_
  refine zaj (gd_t rfl rfl rfl) rfl rfl rfl (zac (.inl rfl) (ev1 rfl)) ?_
  refine zaj (gd_t rfl rfl rfl) rfl rfl rfl (op_len rfl sl22 (ev2 rfl)) ?_
  refine zaj (gd_t rfl rfl rfl) rfl rfl rfl (op_leq rfl (ev2 rfl) (ev1 rfl)) ?_
  refine zab rfl rfl rfl (op_and rfl (ev1 rfl) (ev3 rfl id)) ?_
  refine zab rfl rfl rfl (zac (.inr rfl) (ev1 rfl)) ?_
  refine zaf ?_
  refine dwp_ret ?_
  refine kend0 (rs1 rfl (rv_t rfl)) rfl ?_
  unfold rtB
  rw [show decide ((l.length : Int) ≤ 6) = decide (l.length ≤ 6) by rw [Bool.eq_iff_iff, decide_eq_true_eq, decide_eq_true_eq]; omega]
theorem plI_take {l : List I3} {i : I3} {k : Nat} (h : k < l.length) : plI (l.take (k + 1)) i = plI (l.take k) i + if lessR l[k] i = true then 1 else 0 := by
  unfold plI
  rw [filt_take h, List.length_append]
  split <;> rfl
theorem mem_take {l : List I3} {i : I3} {k : Nat} (h : k < l.length) : decide (i ∈ l.take (k + 1)) = (decide (i ∈ l.take k) || decide (l[k] = i)) := by
  rw [List.take_succ_eq_append_getElem h, Bool.eq_iff_iff, Bool.or_eq_true, decide_eq_true_eq, decide_eq_true_eq, decide_eq_true_eq, List.mem_append, List.mem_singleton]
  exact or_congr Iff.rfl ⟨Eq.symm, Eq.symm⟩
set_option maxRecDepth 4000 in
set_option maxHeartbeats 1000000 in
theorem place_d (l : List I3) (i : I3) : DFun Try.prog 44 [.slf 3 l.length (l.flatMap idc), .val (.agg (idc i).toArray)] [] (.tup [.val (.int .i64 (plI l i : Int)), .val (.bool (decide (i ∈ l)))]) [] := by
  refine zao (N := 30) 0 (by kernel_rfl) Try.func44 rfl rfl rfl (by simp only [fr0, Nat.zero_add, Nat.reduceAdd]; exact rfl) rfl fun s0 hs0 => ?_
  refine dwp_len (t := 0) rfl fun hl0 hL0 => ?_
  refine zae ?_
  refine zak 1 (by simp only [holes, List.cons_append, List.nil_append]; exact rfl) ?_
  refine zad ?_
  refine zan rfl rfl rfl (op_boxa 0 rfl (ev1 rfl) rfl) (by simp only [upd, za, zaa]; exact rfl) ?_
  refine zab rfl rfl rfl (zac (.inr rfl) (ev1 rfl)) ?_
  refine zab rfl rfl rfl (zac (.inr rfl) (ev1 rfl)) ?_
  refine zaf ?_
  refine zae ?_
  refine zad ?_
  refine zab rfl rfl rfl (zac (.inr rfl) (ev1 rfl)) ?_
  refine zab rfl rfl rfl (zac (.inr rfl) (ev1 rfl)) ?_
  refine zaf ?_
  refine zae ?_
  refine zae ?_
  refine zad ?_
  refine zab rfl rfl rfl (zac (.inl rfl) (ev1 rfl)) ?_
  refine zab rfl rfl rfl (op_len rfl sl22 (ev1 rfl)) ?_
  refine zab rfl rfl rfl (zac (.inl rfl) (ev1 rfl)) ?_
  refine zaf ?_
  refine zam ?_
  refine dwp_loopS ⟨hs0, rfl⟩ (α := Nat) (fun k => [(6, .val (.int .i64 (plI (l.take k) i : Int))), (7, .val (.bool (decide (i ∈ l.take k)))), (12, .val (.int .i64 (k : Int)))]) [(3, _), (10, _), (11, _)] (fun k => []) [_] (fun k => k ≤ l.length) (fun k => l.length - k) 0 [0] (Nat.zero_le _) rfl ⟨rfl, rfl, rfl, trivial⟩ ⟨rfl, by rw [List.take_zero, decide_eq_false (by simp)]; rfl, rfl, trivial⟩ ⟨rfl, trivial⟩ ?_
  intro k hx
  simp only [upd, za, zaa, List.cons_append, List.nil_append]
  have hk := hx
  have hpl := plI_le (l.take k) i
  rw [List.length_take] at hpl
  refine zae ?_
  refine zad ?_
  refine zab rfl rfl rfl (op_lss rfl (ev1 rfl) (ev1 rfl)) ?_
  refine zaf ?_
  refine zae ?_
  refine dwp_cond rfl (fun c1 => ?_) (fun c1 => ?_)
  · try simp only [decide_eq_true_eq, decide_eq_false_iff_not, beq_iff_eq, bne_iff_ne, beq_eq_false_iff_ne, bne_eq_false_iff_eq, Bool.not_eq_true', Bool.not_eq_false', Bool.and_eq_true, Bool.or_eq_true, Bool.or_eq_false_iff, ne_eq, Decidable.not_not, Int.not_lt, Int.not_le] at c1
    refine zal ?_
    refine zae ?_
    refine zam ?_
    refine zae ?_
    refine zak 1 (by simp only [holes, List.cons_append, List.nil_append]; exact rfl) ?_
    refine zad ?_
    refine zab rfl rfl rfl (op_ixsr (j := k) rfl sl22 (ev1 rfl) (ev1 rfl) (fun _ => rfl) (by decide) (by omega) (by omega)) ?_
    refine zab rfl rfl rfl (op_ldwd rfl tb35 (ev1 rfl) rfl) ?_
    refine zan rfl rfl rfl (op_alloc 1 rfl zr35 rfl) (by simp only [upd, za, zaa]; exact rfl) ?_
    refine walk_s rfl rfl (op_stwa rfl tb35 (ev1 rfl) (ev1 rfl) rfl rfl rfl rfl) (by simp only [upd, za, zaa]; exact rfl) ?_
    refine zaf ?_
    refine zae ?_
    refine zae ?_
    refine zad ?_
    refine zab rfl rfl rfl (op_ldw rfl tb35 (ev1 rfl) rfl rfl) ?_
    refine zab rfl rfl rfl (op_ldw rfl tb35 (ev1 rfl) rfl rfl) ?_
    refine zab rfl rfl rfl (zah [] [] [] rfl (ev1 rfl) (ec (ev1 rfl) (ec (ev1 rfl) en)) rfl rfl (refLess_d _ _) rfl rfl rfl rfl rfl rfl) ?_
    refine zaf ?_
    refine dwp_cond rfl (fun c2 => ?_) (fun c2 => ?_)
    · have c3 : lessR l[k] i = true := c2
      refine zad ?_
      refine zab rfl rfl rfl (zac (.inl rfl) (ev1 rfl)) ?_
      refine zab rfl rfl rfl (op_add' rfl (ev1 rfl) (ev1 rfl) (fun _ => IntWalk.i64_in _ (by omega))) ?_
      refine zab rfl rfl rfl (zac (.inr rfl) (ev1 rfl)) ?_
      refine zaf ?_
      refine zad ?_
      refine zab rfl rfl rfl (zac (.inl rfl) (ev1 rfl)) ?_
      refine zab rfl rfl rfl (zac (.inl rfl) (ev1 rfl)) ?_
      refine zaj (gd_f rfl rfl rfl) rfl rfl rfl (op_ldw rfl tb35 (ev1 rfl) rfl rfl) ?_
      refine zaj (gd_f rfl rfl rfl) rfl rfl rfl (op_ldw rfl tb35 (ev1 rfl) rfl rfl) ?_
      refine zaj (gd_f rfl rfl rfl) rfl rfl rfl (op_eqr eq35 rfl gd35 tb35 (ev2 rfl) (ev2 rfl)) ?_
      refine zab rfl rfl rfl (op_or rfl (ev1 rfl) (ev3 rfl id)) ?_
      refine zab rfl rfl rfl (zac (.inr rfl) (ev1 rfl)) ?_
      refine zaf ?_
      refine zad ?_
      refine zab rfl rfl rfl (op_add' rfl (ev1 rfl) (ev1 rfl) (fun _ => IntWalk.i64_in _ (by omega))) ?_
      refine zab rfl rfl rfl (zac (.inl rfl) (ev1 rfl)) ?_
      refine zaf ?_
      refine ⟨k + 1, [0], by omega, by simp only []; omega, rfl, ⟨by rw [plI_take (by omega), if_pos c3]; rfl, by rw [mem_take (by omega)]; rfl, rfl, rfl, rfl, rfl, trivial⟩, ⟨rfl, trivial⟩⟩
    · have c3 : ¬ lessR l[k] i = true := by rw [c2]; decide
      refine zal ?_
      refine zad ?_
      refine zab rfl rfl rfl (zac (.inl rfl) (ev1 rfl)) ?_
      refine zab rfl rfl rfl (zac (.inl rfl) (ev1 rfl)) ?_
      refine zaj (gd_f rfl rfl rfl) rfl rfl rfl (op_ldw rfl tb35 (ev1 rfl) rfl rfl) ?_
      refine zaj (gd_f rfl rfl rfl) rfl rfl rfl (op_ldw rfl tb35 (ev1 rfl) rfl rfl) ?_
      refine zaj (gd_f rfl rfl rfl) rfl rfl rfl (op_eqr eq35 rfl gd35 tb35 (ev2 rfl) (ev2 rfl)) ?_
      refine zab rfl rfl rfl (op_or rfl (ev1 rfl) (ev3 rfl id)) ?_
      refine zab rfl rfl rfl (zac (.inr rfl) (ev1 rfl)) ?_
      refine zaf ?_
      refine zad ?_
      refine zab rfl rfl rfl (op_add' rfl (ev1 rfl) (ev1 rfl) (fun _ => IntWalk.i64_in _ (by omega))) ?_
      refine zab rfl rfl rfl (zac (.inl rfl) (ev1 rfl)) ?_
      refine zaf ?_
      refine ⟨k + 1, [0], by omega, by simp only []; omega, rfl, ⟨by rw [plI_take (by omega), if_neg c3]; rfl, by rw [mem_take (by omega)]; rfl, rfl, rfl, rfl, rfl, trivial⟩, ⟨rfl, trivial⟩⟩
  · try simp only [decide_eq_true_eq, decide_eq_false_iff_not, beq_iff_eq, bne_iff_ne, beq_eq_false_iff_ne, bne_eq_false_iff_eq, Bool.not_eq_true', Bool.not_eq_false', Bool.and_eq_true, Bool.or_eq_true, Bool.or_eq_false_iff, ne_eq, Decidable.not_not, Int.not_lt, Int.not_le] at c1
    refine dwp_exit ?_
    refine zae ?_
    refine zad ?_
    refine zab rfl rfl rfl (zac (.inl rfl) (ev1 rfl)) ?_
    refine zab rfl rfl rfl (zac (.inl rfl) (ev1 rfl)) ?_
    refine zab rfl rfl rfl (zac (.inr rfl) (ev1 rfl)) ?_
    refine zab rfl rfl rfl (zac (.inr rfl) (ev1 rfl)) ?_
    refine zaf ?_
    refine dwp_ret ?_
    refine kend0 (rs2 rfl (rv_t rfl) (rv_t rfl)) rfl ?_
    rw [List.take_of_length_le (by omega)]
end Go.Proofs.Ytmpodnadoebclaa
namespace Go.Proofs.Ytmpodnadoebclaa
set_option maxRecDepth 4000
set_option linter.unusedVariables false
set_option linter.unusedSimpArgs false
open Go.RowKit
def zpL (l : List I3) : List (I3 × Int) := (List.range l.length).map fun k => (l.getD k zI3, (k : Int))
theorem zp_len (l : List I3) : (zpL l).length = l.length := by simp [zpL]
theorem zp_fst (l : List I3) : (zpL l).map Prod.fst = l := by
  unfold zpL
  rw [List.map_map]
  apply List.ext_getElem?
  intro k
  rw [List.getElem?_map]
  by_cases h : k < l.length
  · rw [List.getElem?_range h, List.getElem?_eq_getElem h]
    exact congrArg some (gI h)
  · rw [List.getElem?_eq_none (by simpa using h), List.getElem?_eq_none (by simpa using h)]; rfl
theorem zp_at {l : List I3} {k : Nat} (h : k < (zpL l).length) : (zpL l)[k] = (l.getD k zI3, (k : Int)) := by simp [zpL]
def qT (l : List I3) (i : I3) (k : Nat) : List (I3 × Int) := (zpL l).take (min k (plI l i)) ++ if plI l i < k then (i, -1) :: ((zpL l).take k).drop (if i ∈ l then plI l i + 1 else plI l i) else []
def qA (l : List I3) (i : I3) : List (I3 × Int) := insK Prod.fst (zpL l) (i, -1)
theorem qT_0 (l : List I3) (i : I3) : qT l i 0 = [] := by simp [qT]
theorem qT_lo {l : List I3} {i : I3} {k : Nat} (hk : k < l.length) (h : k < plI l i) : qT l i (k + 1) = qT l i k ++ [(l.getD k zI3, (k : Int))] := by
  unfold qT
  rw [if_neg (by omega), if_neg (by omega), List.append_nil, List.append_nil, Nat.min_eq_left (by omega), Nat.min_eq_left (by omega), List.take_succ_eq_append_getElem (by rw [zp_len]; exact hk), zp_at]
theorem qT_in {l : List I3} {i : I3} {k : Nat} (hk : k < l.length) (h : k = plI l i) (hm : i ∈ l) : qT l i (k + 1) = qT l i k ++ [(i, -1)] := by
  unfold qT
  rw [if_pos (show plI l i < k + 1 by omega), if_neg (show ¬ plI l i < k by omega), List.append_nil, if_pos hm, ← h, List.drop_of_length_le (by simp; omega), Nat.min_eq_right (by omega), Nat.min_self]
theorem qT_no {l : List I3} {i : I3} {k : Nat} (hk : k < l.length) (h : k = plI l i) (hm : i ∉ l) : qT l i (k + 1) = qT l i k ++ [(i, -1)] ++ [(l.getD k zI3, (k : Int))] := by
  unfold qT
  rw [if_pos (show plI l i < k + 1 by omega), if_neg (show ¬ plI l i < k by omega), List.append_nil, if_neg hm, ← h, Nat.min_eq_right (by omega), Nat.min_self, List.take_succ_eq_append_getElem (by rw [zp_len]; exact hk), zp_at]
  rw [List.drop_append_of_le_length (by rw [List.length_take, zp_len]; omega), List.drop_of_length_le (by rw [List.length_take]; omega), List.append_assoc]
  rfl
theorem qT_hi {l : List I3} {i : I3} {k : Nat} (hk : k < l.length) (h : plI l i < k) : qT l i (k + 1) = qT l i k ++ [(l.getD k zI3, (k : Int))] := by
  unfold qT
  rw [if_pos (by omega), if_pos h, Nat.min_eq_right (by omega), Nat.min_eq_right (by omega), List.append_assoc, List.cons_append]
  have e : ((zpL l).take (k + 1)).drop (if i ∈ l then plI l i + 1 else plI l i) = ((zpL l).take k).drop (if i ∈ l then plI l i + 1 else plI l i) ++ [(l.getD k zI3, (k : Int))] := by
    rw [List.take_succ_eq_append_getElem (by rw [zp_len]; exact hk), zp_at, List.drop_append_of_le_length]
    rw [List.length_take, zp_len]
    split <;> omega
  rw [e]
theorem qT_end {l : List I3} {i : I3} (h : plI l i < l.length) : qT l i l.length = qA l i := by
  unfold qT qA insK
  rw [zp_fst, if_pos h, Nat.min_eq_right (by omega), List.take_of_length_le (i := l.length) (by rw [zp_len]; exact Nat.le_refl _)]
theorem qT_last {l : List I3} {i : I3} (ho : okI l) (h : plI l i = l.length) : qT l i l.length ++ [(i, -1)] = qA l i := by
  have hm : i ∉ l := fun hm => by have := (ho.mem i).1 hm; omega
  unfold qT qA insK
  rw [zp_fst, if_neg (by omega), List.append_nil, Nat.min_eq_left (by omega), if_neg (by exact hm), h]
  rw [List.drop_of_length_le (by rw [zp_len]; exact Nat.le_refl _)]
theorem qT_len {l : List I3} {i : I3} (k : Nat) : (qT l i k).length ≤ k + 1 := by
  unfold qT
  split <;> simp <;> (try split) <;> omega
theorem qA_ids (l : List I3) (i : I3) : (qA l i).map Prod.fst = insK id l i := by
  have h := insK_map (key := Prod.fst) (key2 := id) (f := Prod.fst) (fun _ => rfl) (zpL l) (i, (-1 : Int))
  rw [zp_fst] at h
  exact h
def qP (l : List I3) (i : I3) : List (I3 × Int) := putK Prod.fst (zpL l) (i, -1)
theorem qP_ids (l : List I3) (i : I3) : (qP l i).map Prod.fst = putK id l i := by
  have h := putK_map (key := Prod.fst) (key2 := id) (f := Prod.fst) (fun _ => rfl) (zpL l) (i, (-1 : Int))
  rw [zp_fst] at h
  exact h
theorem qP_le {l : List I3} {i : I3} (h : (qA l i).length ≤ 6) : qP l i = qA l i := by unfold qP putK lessK; rw [if_neg (by unfold qA at h; omega)]; rfl
theorem qP_gt {l : List I3} {i : I3} (h : 6 < (qA l i).length) : qP l i = (qA l i).take (closI ((qA l i).map Prod.fst)) ++ (qA l i).drop (closI ((qA l i).map Prod.fst) + 1) := by unfold qP putK lessK; exact if_pos h
theorem blkA {T : TypeId} {z n m : Nat} {L R : List Value} (h : n = m) (h2 : L = R) : Blk.arr T z n L = Blk.arr T z m R := by rw [h, h2]
theorem clN_y {g : Nat → Int} {n : Nat} (h : clN g n = 0 ∨ g (n + 1) < g (clN g n)) : clN g (n + 1) = n + 1 := by rw [clN, if_pos h]
theorem clN_n {g : Nat → Int} {n : Nat} (h : ¬ (clN g n = 0 ∨ g (n + 1) < g (clN g n))) : clN g (n + 1) = clN g n := by rw [clN, if_neg h]
theorem ap1 {α β : Type} {f : α → β} {en : β → List Value} {q q2 : List α} {b : β} (x : α) (h : q2 = q ++ [x]) (hb : f x = b) : (q2.map f).length = (q.map f).length + 1 ∧ (q2.map f).flatMap en = (q.map f).flatMap en ++ en b := by
  subst h hb
  rw [List.map_append, List.length_append, List.flatMap_append]
  exact ⟨rfl, by simp⟩
theorem ap2 {α β : Type} {f : α → β} {en : β → List Value} {q q2 : List α} {b c : β} (x y : α) (h : q2 = q ++ [x] ++ [y]) (hb : f x = b) (hc : f y = c) : (q2.map f).length = (q.map f).length + 1 + 1 ∧ (q2.map f).flatMap en = (q.map f).flatMap en ++ en b ++ en c := by
  subst h hb hc
  rw [List.map_append, List.map_append, List.length_append, List.length_append, List.flatMap_append, List.flatMap_append]
  exact ⟨rfl, by simp⟩
set_option maxRecDepth 4000 in
set_option maxHeartbeats 1000000 in
theorem rput_o (l : List I3) (i : I3) (hl : l.length ≤ 6) (ho : okI l) (hi : mayR i = true) : DFun Try.prog 15 [.slf 3 l.length (l.flatMap idc), .val (.agg (idc i).toArray)] [] (.tup [.arr 0, .arr 1]) [.arr 3 1 (((qP l i).map Prod.snd)).length ((((qP l i).map Prod.snd)).flatMap inI), .arr 35 3 (((qP l i).map Prod.fst)).length ((((qP l i).map Prod.fst)).flatMap idc)] := by
  have hpl := plI_le l i
  have hoi := ho.ins hi
  have hil : (qA l i).length ≤ 7 := by
    have h1 := ins_len ho i
    rw [← qA_ids, List.length_map] at h1
    split at h1 <;> omega
  have hid := qA_ids l i
  have hill : (insK id l i).length = (qA l i).length := by rw [← hid, List.length_map]
  refine zao (N := 118) 0 (by kernel_rfl) Try.func15 rfl rfl rfl (by simp only [fr0, Nat.zero_add, Nat.reduceAdd]; exact rfl) rfl fun s0 hs0 => ?_
  refine dwp_len (t := 0) rfl fun hl0 hL0 => ?_
  refine zae ?_
  refine zak 1 (by simp only [holes, List.cons_append, List.nil_append]; exact rfl) ?_
  refine zad ?_
  refine zan rfl rfl rfl (op_boxa 0 rfl (ev1 rfl) rfl) (by simp only [upd, za, zaa]; exact rfl) ?_
  refine zab rfl rfl rfl (zac (.inr rfl) (ev1 rfl)) ?_
  refine zab rfl rfl rfl (zac (.inr rfl) (ev1 rfl)) ?_
  refine zaf ?_
  refine zae ?_
  refine zad ?_
  refine zab rfl rfl rfl (zac (.inr rfl) (ev1 rfl)) ?_
  refine zaf ?_
  refine zae ?_
  refine zad ?_
  refine zab rfl rfl rfl (zac (.inr rfl) (ev1 rfl)) ?_
  refine zaf ?_
  refine zae ?_
  refine zad ?_
  refine zab rfl rfl rfl (zac (.inl rfl) (ev1 rfl)) ?_
  refine zab rfl rfl rfl (op_ldw rfl tb35 (ev1 rfl) rfl rfl) ?_
  refine zab rfl rfl rfl (zah [] [] [] rfl (ev1 rfl) (ec (ev1 rfl) (ec (ev1 rfl) en)) rfl rfl (place_d _ _) rfl rfl rfl rfl rfl rfl) ?_
  refine zab rfl rfl rfl (zac (.inl rfl) (ev1 rfl)) ?_
  refine zab rfl rfl rfl (op_ext rfl (ev1 rfl) rfl) ?_
  refine zab rfl rfl rfl (op_ext rfl (ev1 rfl) rfl) ?_
  refine zab rfl rfl rfl (zac (.inr rfl) (ev1 rfl)) ?_
  refine zab rfl rfl rfl (zac (.inr rfl) (ev1 rfl)) ?_
  refine zaf ?_
  refine zae ?_
  refine zae ?_
  refine zad ?_
  refine zab rfl rfl rfl (zac (.inl rfl) (ev1 rfl)) ?_
  refine zab rfl rfl rfl (op_len rfl sl22 (ev1 rfl)) ?_
  refine zab rfl rfl rfl (zac (.inl rfl) (ev1 rfl)) ?_
  refine zaf ?_
  refine zam ?_
  refine dwp_adopt 6 3 1 rfl rfl rfl ?_
  refine dwp_adopt 7 35 3 rfl rfl rfl ?_
  refine dwp_loopS ⟨hs0, rfl⟩ (α := Nat) (fun k => [(22, .val (.int .i64 (k : Int)))]) [(0, _), (3, _), (6, _), (7, _), (8, _), (9, _), (20, _), (21, _)] (fun k => [(1, .arr 3 1 ((((qT l i k)).map Prod.snd)).length (((((qT l i k)).map Prod.snd)).flatMap inI)), (2, .arr 35 3 ((((qT l i k)).map Prod.fst)).length (((((qT l i k)).map Prod.fst)).flatMap idc))]) [_, .hole, .hole] (fun k => k ≤ l.length) (fun k => l.length - k) 0 [0, 1, 2] (Nat.zero_le _) rfl ⟨rfl, rfl, rfl, rfl, rfl, rfl, rfl, rfl, trivial⟩ ⟨rfl, trivial⟩ ⟨rfl, by rw [qT_0]; rfl, by rw [qT_0]; rfl, trivial⟩ ?_
  intro k hx
  simp only [upd, za, zaa, List.cons_append, List.nil_append]
  have hk := hx
  have hql := qT_len (l := l) (i := i) k
  refine zae ?_
  refine zad ?_
  refine zab rfl rfl rfl (op_lss rfl (ev1 rfl) (ev1 rfl)) ?_
  refine zaf ?_
  refine zae ?_
  refine dwp_cond rfl (fun c1 => ?_) (fun c1 => ?_)
  · try simp only [decide_eq_true_eq, decide_eq_false_iff_not, beq_iff_eq, bne_iff_ne, beq_eq_false_iff_ne, bne_eq_false_iff_eq, Bool.not_eq_true', Bool.not_eq_false', Bool.and_eq_true, Bool.or_eq_true, Bool.or_eq_false_iff, ne_eq, Decidable.not_not, Int.not_lt, Int.not_le] at c1
    refine zal ?_
    refine zae ?_
    refine zam ?_
    refine zae ?_
    refine zak 1 (by simp only [holes, List.cons_append, List.nil_append]; exact rfl) ?_
    refine zad ?_
    refine zab rfl rfl rfl (zac (.inl rfl) (ev1 rfl)) ?_
    refine zab rfl rfl rfl (op_ixsr (j := k) rfl sl22 (ev1 rfl) (ev1 rfl) (fun _ => rfl) (by decide) (by omega) (by omega)) ?_
    refine zab rfl rfl rfl (op_ldwd rfl tb35 (ev1 rfl) rfl) ?_
    refine zan rfl rfl rfl (op_alloc 3 rfl zr35 rfl) (by simp only [upd, za, zaa]; exact rfl) ?_
    refine zab rfl rfl rfl (zac (.inr rfl) (ev1 rfl)) ?_
    refine walk_s rfl rfl (op_stwa rfl tb35 (ev1 rfl) (ev1 rfl) rfl rfl rfl rfl) (by simp only [upd, za, zaa]; exact rfl) ?_
    refine zaf ?_
    refine zae ?_
    refine zae ?_
    refine zad ?_
    refine zab rfl rfl rfl (zac (.inl rfl) (ev1 rfl)) ?_
    refine zab rfl rfl rfl (zac (.inl rfl) (ev1 rfl)) ?_
    refine zab rfl rfl rfl (op_eql rfl (ev1 rfl) (ev1 rfl)) ?_
    refine zaf ?_
    refine dwp_cond rfl (fun c2 => ?_) (fun c2 => ?_)
    · have hn : k = plI l i := by
        have h9 := c2
        simp at h9
        omega
      refine zae ?_
      refine zak 4 (by simp only [holes, List.cons_append, List.nil_append]; exact rfl) ?_
      refine dwp_draw [([], []), ([4], [4]), ([1, 5, 4], [1, 5]), ([], []), ([0], []), ([6], [6]), ([2, 7, 6], [2, 7]), ([], []), ([], [])] mixed (by kernel_rfl) ?_
      refine zag rfl rfl (zac (.inl rfl) (ev1 rfl)) ?_
      refine lex_w rfl rfl (op_bsa (ps := [(0, .const (.int .i64 (-1)))]) 4 rfl sl31 zr3 rfl (vc (ev1 rfl) vn) rfl (by decide) (by decide) rfl) rfl (by simp only [upd, za, zaa]; exact rfl) ?_
      refine lex_w rfl rfl (op_app (j := 5) rfl sl31 zr3 rfl (ev1 rfl) (ev1 rfl) (src_arr rfl) rfl rfl (fun _ => rfl) (fun _ => ⟨by simp only [List.length_map]; omega, by simp only [List.length_map]; omega⟩)) rfl (by simp only [upd, za, zaa]; exact rfl) ?_
      refine zag rfl rfl (zac (.inl rfl) (ev1 rfl)) ?_
      refine zag rfl rfl (op_ldw rfl tb35 (ev1 rfl) rfl rfl) ?_
      refine lex_w rfl rfl (op_bsa (ps := [(0, .tmp 34)]) 6 rfl sl22 zr35 rfl (vc (ev1 rfl) vn) rfl (by decide) (by decide) rfl) rfl (by simp only [upd, za, zaa]; exact rfl) ?_
      refine lex_w rfl rfl (op_app (j := 7) rfl sl22 zr35 rfl (ev1 rfl) (ev1 rfl) (src_arr rfl) rfl rfl (fun _ => rfl) (fun _ => ⟨by simp only [List.length_map]; omega, by simp only [List.length_map]; omega⟩)) rfl (by simp only [upd, za, zaa]; exact rfl) ?_
      refine zag rfl rfl (zac (.inr rfl) (ev1 rfl)) ?_
      refine zag rfl rfl (zac (.inr rfl) (ev1 rfl)) ?_
      refine lex_nil ?_
      refine zae ?_
      refine zad ?_
      refine zab rfl rfl rfl (zac (.inl rfl) (ev1 rfl)) ?_
      refine zaf ?_
      refine dwp_cond rfl (fun c3 => ?_) (fun c3 => ?_)
      · have hm : i ∈ l := by simpa using c3
        refine dwp_exit ?_
        refine zad ?_
        refine zab rfl rfl rfl (op_add' rfl (ev1 rfl) (ev1 rfl) (fun _ => IntWalk.i64_in _ (by omega))) ?_
        refine zab rfl rfl rfl (zac (.inl rfl) (ev1 rfl)) ?_
        refine zaf ?_
        refine ⟨k + 1, [0, 5, 7], by omega, by simp only []; omega, rfl, ⟨rfl, rfl, rfl, rfl, rfl, rfl, rfl, rfl, rfl, trivial⟩, ⟨rfl, arr_eq (ap1 (en := inI) ((i, -1)) (qT_in (by omega) hn hm) rfl).1.symm (ap1 (en := inI) ((i, -1)) (qT_in (by omega) hn hm) rfl).2.symm, arr_eq (ap1 (en := idc) ((i, -1)) (qT_in (by omega) hn hm) rfl).1.symm (ap1 (en := idc) ((i, -1)) (qT_in (by omega) hn hm) rfl).2.symm, trivial⟩⟩
      · have hm : i ∉ l := by simpa using c3
        refine zal ?_
        refine zak 4 (by simp only [holes, List.cons_append, List.nil_append]; exact rfl) ?_
        refine dwp_draw [([], []), ([], []), ([8], [8]), ([5, 9, 8], [5, 9]), ([], []), ([3], []), ([10], [10]), ([7, 11, 10], [7, 11]), ([], []), ([], [])] mixed (by kernel_rfl) ?_
        refine zag rfl rfl (zac (.inl rfl) (ev1 rfl)) ?_
        refine zag rfl rfl (zac (.inl rfl) (ev1 rfl)) ?_
        refine lex_w rfl rfl (op_bsa (ps := [(0, .tmp 39)]) 8 rfl sl31 zr3 rfl (vc (ev1 rfl) vn) rfl (by decide) (by decide) rfl) rfl (by simp only [upd, za, zaa]; exact rfl) ?_
        refine lex_w rfl rfl (op_app (j := 9) rfl sl31 zr3 rfl (ev1 rfl) (ev1 rfl) (src_arr rfl) rfl rfl (fun _ => rfl) (fun _ => ⟨by simp only [List.length_map]; omega, by simp only [List.length_map]; omega⟩)) rfl (by simp only [upd, za, zaa]; exact rfl) ?_
        refine zag rfl rfl (zac (.inl rfl) (ev1 rfl)) ?_
        refine zag rfl rfl (op_ldw rfl tb35 (ev1 rfl) rfl rfl) ?_
        refine lex_w rfl rfl (op_bsa (ps := [(0, .tmp 43)]) 10 rfl sl22 zr35 rfl (vc (ev1 rfl) vn) rfl (by decide) (by decide) rfl) rfl (by simp only [upd, za, zaa]; exact rfl) ?_
        refine lex_w rfl rfl (op_app (j := 11) rfl sl22 zr35 rfl (ev1 rfl) (ev1 rfl) (src_arr rfl) rfl rfl (fun _ => rfl) (fun _ => ⟨by simp only [List.length_map]; omega, by simp only [List.length_map]; omega⟩)) rfl (by simp only [upd, za, zaa]; exact rfl) ?_
        refine zag rfl rfl (zac (.inr rfl) (ev1 rfl)) ?_
        refine zag rfl rfl (zac (.inr rfl) (ev1 rfl)) ?_
        refine lex_nil ?_
        refine zad ?_
        refine zab rfl rfl rfl (op_add' rfl (ev1 rfl) (ev1 rfl) (fun _ => IntWalk.i64_in _ (by omega))) ?_
        refine zab rfl rfl rfl (zac (.inl rfl) (ev1 rfl)) ?_
        refine zaf ?_
        refine ⟨k + 1, [0, 9, 11], by omega, by simp only []; omega, rfl, ⟨rfl, rfl, rfl, rfl, rfl, rfl, rfl, rfl, rfl, trivial⟩, ⟨rfl, arr_eq (ap2 (en := inI) ((i, -1)) ((l[k], (k : Int))) (by rw [qT_no (by omega) hn hm, gI (by omega)]) rfl rfl).1.symm (ap2 (en := inI) ((i, -1)) ((l[k], (k : Int))) (by rw [qT_no (by omega) hn hm, gI (by omega)]) rfl rfl).2.symm, arr_eq (ap2 (en := idc) ((i, -1)) ((l[k], (k : Int))) (by rw [qT_no (by omega) hn hm, gI (by omega)]) rfl rfl).1.symm (ap2 (en := idc) ((i, -1)) ((l[k], (k : Int))) (by rw [qT_no (by omega) hn hm, gI (by omega)]) rfl rfl).2.symm, trivial⟩⟩
    · have hn : k ≠ plI l i := by
        have h9 := c2
        simp at h9
        omega
      have hqs : qT l i (k + 1) = qT l i k ++ [(l.getD k zI3, (k : Int))] := by
        rcases Nat.lt_or_ge k (plI l i) with g | g
        · exact qT_lo (by omega) g
        · exact qT_hi (by omega) (by omega)
      refine zal ?_
      refine zak 4 (by simp only [holes, List.cons_append, List.nil_append]; exact rfl) ?_
      refine dwp_draw [([], []), ([], []), ([4], [4]), ([1, 5, 4], [1, 5]), ([], []), ([3], []), ([6], [6]), ([2, 7, 6], [2, 7]), ([], []), ([], [])] mixed (by kernel_rfl) ?_
      refine zag rfl rfl (zac (.inl rfl) (ev1 rfl)) ?_
      refine zag rfl rfl (zac (.inl rfl) (ev1 rfl)) ?_
      refine lex_w rfl rfl (op_bsa (ps := [(0, .tmp 39)]) 4 rfl sl31 zr3 rfl (vc (ev1 rfl) vn) rfl (by decide) (by decide) rfl) rfl (by simp only [upd, za, zaa]; exact rfl) ?_
      refine lex_w rfl rfl (op_app (j := 5) rfl sl31 zr3 rfl (ev1 rfl) (ev1 rfl) (src_arr rfl) rfl rfl (fun _ => rfl) (fun _ => ⟨by simp only [List.length_map]; omega, by simp only [List.length_map]; omega⟩)) rfl (by simp only [upd, za, zaa]; exact rfl) ?_
      refine zag rfl rfl (zac (.inl rfl) (ev1 rfl)) ?_
      refine zag rfl rfl (op_ldw rfl tb35 (ev1 rfl) rfl rfl) ?_
      refine lex_w rfl rfl (op_bsa (ps := [(0, .tmp 43)]) 6 rfl sl22 zr35 rfl (vc (ev1 rfl) vn) rfl (by decide) (by decide) rfl) rfl (by simp only [upd, za, zaa]; exact rfl) ?_
      refine lex_w rfl rfl (op_app (j := 7) rfl sl22 zr35 rfl (ev1 rfl) (ev1 rfl) (src_arr rfl) rfl rfl (fun _ => rfl) (fun _ => ⟨by simp only [List.length_map]; omega, by simp only [List.length_map]; omega⟩)) rfl (by simp only [upd, za, zaa]; exact rfl) ?_
      refine zag rfl rfl (zac (.inr rfl) (ev1 rfl)) ?_
      refine zag rfl rfl (zac (.inr rfl) (ev1 rfl)) ?_
      refine lex_nil ?_
      refine zad ?_
      refine zab rfl rfl rfl (op_add' rfl (ev1 rfl) (ev1 rfl) (fun _ => IntWalk.i64_in _ (by omega))) ?_
      refine zab rfl rfl rfl (zac (.inl rfl) (ev1 rfl)) ?_
      refine zaf ?_
      refine ⟨k + 1, [0, 5, 7], by omega, by simp only []; omega, rfl, ⟨rfl, rfl, rfl, rfl, rfl, rfl, rfl, rfl, rfl, trivial⟩, ⟨rfl, arr_eq (ap1 (en := inI) ((l[k], (k : Int))) (by rw [hqs, gI (by omega)]) rfl).1.symm (ap1 (en := inI) ((l[k], (k : Int))) (by rw [hqs, gI (by omega)]) rfl).2.symm, arr_eq (ap1 (en := idc) ((l[k], (k : Int))) (by rw [hqs, gI (by omega)]) rfl).1.symm (ap1 (en := idc) ((l[k], (k : Int))) (by rw [hqs, gI (by omega)]) rfl).2.symm, trivial⟩⟩
  · try simp only [decide_eq_true_eq, decide_eq_false_iff_not, beq_iff_eq, bne_iff_ne, beq_eq_false_iff_ne, bne_eq_false_iff_eq, Bool.not_eq_true', Bool.not_eq_false', Bool.and_eq_true, Bool.or_eq_true, Bool.or_eq_false_iff, ne_eq, Decidable.not_not, Int.not_lt, Int.not_le] at c1
    refine dwp_exit ?_
    refine zae ?_
    refine zae ?_
    have hke : k = l.length := by omega
    subst hke
    refine zad ?_
    refine zab rfl rfl rfl (zac (.inl rfl) (ev1 rfl)) ?_
    refine zab rfl rfl rfl (zac (.inl rfl) (ev1 rfl)) ?_
    refine zab rfl rfl rfl (op_len rfl sl22 (ev1 rfl)) ?_
    refine zab rfl rfl rfl (op_eql rfl (ev1 rfl) (ev1 rfl)) ?_
    refine zaf ?_
    refine dwp_cond rfl (fun c4 => ?_) (fun c4 => ?_)
    · have hn : plI l i = l.length := by
        have h9 := c4
        simp at h9
        omega
      have hqe := qT_last ho hn
      refine zak 4 (by simp only [holes, List.cons_append, List.nil_append]; exact rfl) ?_
      refine dwp_draw [([], []), ([3], [3]), ([1, 4, 3], [1, 4]), ([], []), ([0], []), ([5], [5]), ([2, 6, 5], [2, 6]), ([], []), ([], [])] mixed (by kernel_rfl) ?_
      refine zag rfl rfl (zac (.inl rfl) (ev1 rfl)) ?_
      refine lex_w rfl rfl (op_bsa (ps := [(0, .const (.int .i64 (-1)))]) 3 rfl sl31 zr3 rfl (vc (ev1 rfl) vn) rfl (by decide) (by decide) rfl) rfl (by simp only [upd, za, zaa]; exact rfl) ?_
      refine lex_w rfl rfl (op_app (j := 4) rfl sl31 zr3 rfl (ev1 rfl) (ev1 rfl) (src_arr rfl) rfl rfl (fun _ => rfl) (fun _ => ⟨by simp only [List.length_map]; omega, by simp only [List.length_map]; omega⟩)) rfl (by simp only [upd, za, zaa]; exact rfl) ?_
      refine zag rfl rfl (zac (.inl rfl) (ev1 rfl)) ?_
      refine zag rfl rfl (op_ldw rfl tb35 (ev1 rfl) rfl rfl) ?_
      refine lex_w rfl rfl (op_bsa (ps := [(0, .tmp 55)]) 5 rfl sl22 zr35 rfl (vc (ev1 rfl) vn) rfl (by decide) (by decide) rfl) rfl (by simp only [upd, za, zaa]; exact rfl) ?_
      refine lex_w rfl rfl (op_app (j := 6) rfl sl22 zr35 rfl (ev1 rfl) (ev1 rfl) (src_arr rfl) rfl rfl (fun _ => rfl) (fun _ => ⟨by simp only [List.length_map]; omega, by simp only [List.length_map]; omega⟩)) rfl (by simp only [upd, za, zaa]; exact rfl) ?_
      refine zag rfl rfl (zac (.inr rfl) (ev1 rfl)) ?_
      refine zag rfl rfl (zac (.inr rfl) (ev1 rfl)) ?_
      refine lex_nil ?_
      refine zae ?_
      refine zae ?_
      refine dwp_eqB 4 (show Blk.arr 3 1 _ _ = .arr 3 1 (((qA l i).map Prod.snd)).length ((((qA l i).map Prod.snd)).flatMap inI) from by rw [← hqe]; exact blkA (ap1 (en := inI) (f := Prod.snd) (i, -1) rfl rfl).1.symm (ap1 (en := inI) (f := Prod.snd) (i, -1) rfl rfl).2.symm) rfl (by simp only [List.cons_append, List.nil_append, za, zaa]; exact rfl) ?_
      refine dwp_eqB 6 (show Blk.arr 35 3 _ _ = .arr 35 3 ((insK id l i)).length (((insK id l i)).flatMap idc) from by rw [← hid, ← hqe]; exact blkA (ap1 (en := idc) (f := Prod.fst) (i, -1) rfl rfl).1.symm (ap1 (en := idc) (f := Prod.fst) (i, -1) rfl rfl).2.symm) rfl (by simp only [List.cons_append, List.nil_append, za, zaa]; exact rfl) ?_
      refine zad ?_
      refine zab rfl rfl rfl (zac (.inl rfl) (ev1 rfl)) ?_
      refine zab rfl rfl rfl (op_lena rfl sl22 (ev1 rfl) rfl) ?_
      refine zab rfl rfl rfl (op_leq rfl (ev1 rfl) (ev1 rfl)) ?_
      refine zaf ?_
      refine dwp_cond rfl (fun c5 => ?_) (fun c5 => ?_)
      · have hle : (qA l i).length ≤ 6 := by
          have h1 := of_decide_eq_true c5
          omega
        refine zae ?_
        refine zad ?_
        refine zab rfl rfl rfl (zac (.inl rfl) (ev1 rfl)) ?_
        refine zab rfl rfl rfl (zac (.inl rfl) (ev1 rfl)) ?_
        refine zab rfl rfl rfl (zac (.inr rfl) (ev1 rfl)) ?_
        refine zab rfl rfl rfl (zac (.inr rfl) (ev1 rfl)) ?_
        refine zaf ?_
        refine dwp_ret ?_
        refine kend [4, 6] (rs2 rfl (rv_t rfl) (rv_t rfl)) rfl rfl ?_ ⟨?_, ?_, trivial⟩
        rfl
        exact (by rw [qP_le hle]; rfl)
        exact (by rw [qP_le hle, hid]; rfl)
      · have hgt : 6 < (qA l i).length := by
          have h1 := of_decide_eq_false c5
          omega
        refine zal ?_
        refine zae ?_
        refine dwp_giveA 6 rfl rfl (by simp only [za, zaa]; exact rfl) ?_
        refine dwp_giveA 7 rfl rfl (by simp only [za, zaa]; exact rfl) ?_
        refine zad ?_
        refine zab rfl rfl rfl (zac (.inr rfl) (ev1 rfl)) ?_
        refine zaf ?_
        refine zae ?_
        refine zae ?_
        refine zad ?_
        refine zab rfl rfl rfl (zac (.inr rfl) (ev1 rfl)) ?_
        refine zaf ?_
        refine zam ?_
        refine dwp_loopS ⟨hs0, rfl⟩ (α := Nat) (fun k => [(12, .val (.int .i64 (clN (gapI (insK id l i)) (k + 1) : Int))), (13, .val (.int .i64 ((k + 2 : Nat) : Int)))]) [(6, _), (7, _)] (fun k => []) [_, _, _, _, _, _, _] (fun k => k ≤ 4) (fun k => 4 - k) 0 [0, 1, 2, 3, 4, 5, 6] (Nat.zero_le _) rfl ⟨rfl, rfl, trivial⟩ ⟨rfl, rfl, trivial⟩ ⟨rfl, rfl, rfl, rfl, rfl, rfl, rfl, trivial⟩ ?_
        intro k hx
        simp only [upd, za, zaa, List.cons_append, List.nil_append]
        have hk2 := hx
        have hcl := clN_le (gapI (insK id l i)) (k + 1)
        have hcp := clN_pos (gapI (insK id l i)) (k + 1) (by omega)
        refine zae ?_
        refine zae ?_
        refine zad ?_
        refine zab rfl rfl rfl (zac (.inl rfl) (ev1 rfl)) ?_
        refine zab rfl rfl rfl (zac (.inl rfl) (ev1 rfl)) ?_
        refine zab rfl rfl rfl (op_len rfl sl22 (ev1 rfl)) ?_
        refine zab rfl rfl rfl (op_sub' rfl (ev1 rfl) (ev1 rfl) (fun _ => IntWalk.i64_in _ (by omega))) ?_
        refine zab rfl rfl rfl (op_lss rfl (ev1 rfl) (ev1 rfl)) ?_
        refine zaf ?_
        refine dwp_cond rfl (fun c6 => ?_) (fun c6 => ?_)
        · try simp only [decide_eq_true_eq, decide_eq_false_iff_not, beq_iff_eq, bne_iff_ne, beq_eq_false_iff_ne, bne_eq_false_iff_eq, Bool.not_eq_true', Bool.not_eq_false', Bool.and_eq_true, Bool.or_eq_true, Bool.or_eq_false_iff, ne_eq, Decidable.not_not, Int.not_lt, Int.not_le] at c6
          refine zal ?_
          refine zae ?_
          refine zam ?_
          refine zae ?_
          have hb1 := hoi.t (a := k + 2 - 1) (b := k + 2 + 1) (by omega) (by omega)
          have hb2 := hoi.t (a := clN (gapI (insK id l i)) (k + 1) - 1) (b := clN (gapI (insK id l i)) (k + 1) + 1) (by omega) (by omega)
          have hgp1 : gapI (insK id l i) (k + 1 + 1) = ((insK id l i)[k + 2 + 1]).t - ((insK id l i)[k + 2 - 1]).t := by unfold gapI; rw [gI (by omega), gI (by omega)]
          have hgp2 : gapI (insK id l i) (clN (gapI (insK id l i)) (k + 1)) = ((insK id l i)[clN (gapI (insK id l i)) (k + 1) + 1]).t - ((insK id l i)[clN (gapI (insK id l i)) (k + 1) - 1]).t := by
            show ((insK id l i).getD (clN (gapI (insK id l i)) (k + 1) + 1) zI3).t - ((insK id l i).getD (clN (gapI (insK id l i)) (k + 1) - 1) zI3).t = _
            rw [gI (by omega), gI (by omega)]
          rw [gI (by omega), gI (by omega)] at hb1 hb2
          refine dwp_draw [([], []), ([], []), ([], []), ([], []), ([], []), ([], []), ([], []), ([], []), ([], []), ([], []), ([], []), ([], []), ([], []), ([], []), ([], []), ([], []), ([], []), ([], []), ([], []), ([], []), ([], []), ([], []), ([], []), ([], []), ([], []), ([], []), ([], [])] mixed (by kernel_rfl) ?_
          refine zag rfl rfl (zac (.inl rfl) (ev1 rfl)) ?_
          refine zag rfl rfl (zac (.inl rfl) (ev1 rfl)) ?_
          refine zag rfl rfl (op_add' rfl (ev1 rfl) (ev1 rfl) (fun _ => IntWalk.i64_in _ (by omega))) ?_
          refine zag rfl rfl (op_ixsr (j := k + 2 + 1) rfl sl22 (ev1 rfl) (ev1 rfl) (fun _ => rfl) (by decide) (by omega) (by omega)) ?_
          refine zag rfl rfl (op_fad rfl fo35_0 (ev1 rfl)) ?_
          refine zag rfl rfl (op_ldod rfl tb33 (ev1 rfl) rfl) ?_
          refine zag rfl rfl (zac (.inl rfl) (ev1 rfl)) ?_
          refine zag rfl rfl (zac (.inl rfl) (ev1 rfl)) ?_
          refine zag rfl rfl (op_sub' rfl (ev1 rfl) (ev1 rfl) (fun _ => IntWalk.i64_in _ (by omega))) ?_
          refine zag rfl rfl (op_ixsr (j := k + 2 - 1) rfl sl22 (ev1 rfl) (ev1 rfl) (fun _ => rfl) (by decide) (by omega) (by omega)) ?_
          refine zag rfl rfl (op_fad rfl fo35_0 (ev1 rfl)) ?_
          refine zag rfl rfl (op_ldod rfl tb33 (ev1 rfl) rfl) ?_
          refine zag rfl rfl ((op_sub' rfl (ev1 rfl) (ev1 rfl) (fun _ => IntWalk.u64_in _ (by omega))).cast (d' := .val (.int .u64 (gapI (insK id l i) (k + 1 + 1)))) (by rw [hgp1])) ?_
          refine zag rfl rfl (zac (.inl rfl) (ev1 rfl)) ?_
          refine zag rfl rfl (zac (.inl rfl) (ev1 rfl)) ?_
          refine zag rfl rfl (op_add' rfl (ev1 rfl) (ev1 rfl) (fun _ => IntWalk.i64_in _ (by omega))) ?_
          refine zag rfl rfl (op_ixsr (j := clN (gapI (insK id l i)) (k + 1) + 1) rfl sl22 (ev1 rfl) (ev1 rfl) (fun _ => rfl) (by decide) (by omega) (by omega)) ?_
          refine zag rfl rfl (op_fad rfl fo35_0 (ev1 rfl)) ?_
          refine zag rfl rfl (op_ldod rfl tb33 (ev1 rfl) rfl) ?_
          refine zag rfl rfl (zac (.inl rfl) (ev1 rfl)) ?_
          refine zag rfl rfl (zac (.inl rfl) (ev1 rfl)) ?_
          refine zag rfl rfl (op_sub' rfl (ev1 rfl) (ev1 rfl) (fun _ => IntWalk.i64_in _ (by omega))) ?_
          refine zag rfl rfl (op_ixsr (j := clN (gapI (insK id l i)) (k + 1) - 1) rfl sl22 (ev1 rfl) (ev1 rfl) (fun _ => rfl) (by decide) (by omega) (by omega)) ?_
          refine zag rfl rfl (op_fad rfl fo35_0 (ev1 rfl)) ?_
          refine zag rfl rfl (op_ldod rfl tb33 (ev1 rfl) rfl) ?_
          refine zag rfl rfl ((op_sub' rfl (ev1 rfl) (ev1 rfl) (fun _ => IntWalk.u64_in _ (by omega))).cast (d' := .val (.int .u64 (gapI (insK id l i) (clN (gapI (insK id l i)) (k + 1))))) (by rw [hgp2])) ?_
          refine zag rfl rfl (op_lss rfl (ev1 rfl) (ev1 rfl)) ?_
          refine lex_nil ?_
          refine dwp_cond rfl (fun c6 => ?_) (fun c6 => ?_)
          · have c7 : gapI (insK id l i) (k + 1 + 1) < gapI (insK id l i) (clN (gapI (insK id l i)) (k + 1)) := of_decide_eq_true c6
            refine zad ?_
            refine zab rfl rfl rfl (zac (.inl rfl) (ev1 rfl)) ?_
            refine zab rfl rfl rfl (zac (.inr rfl) (ev1 rfl)) ?_
            refine zaf ?_
            refine zad ?_
            refine zab rfl rfl rfl (zac (.inl rfl) (ev1 rfl)) ?_
            refine zab rfl rfl rfl (op_add' rfl (ev1 rfl) (ev1 rfl) (fun _ => IntWalk.i64_in _ (by omega))) ?_
            refine zab rfl rfl rfl (zac (.inr rfl) (ev1 rfl)) ?_
            refine zaf ?_
            refine ⟨k + 1, [0, 1, 2, 3, 4, 5, 6], by omega, by simp only []; omega, rfl, ⟨congrArg (fun z : Nat => some (D.val (.int .i64 (z : Int)))) (clN_y (.inr c7)).symm, rfl, rfl, rfl, trivial⟩, ⟨rfl, rfl, rfl, rfl, rfl, rfl, rfl, trivial⟩⟩
          · have c7 : ¬ gapI (insK id l i) (k + 1 + 1) < gapI (insK id l i) (clN (gapI (insK id l i)) (k + 1)) := of_decide_eq_false c6
            refine zal ?_
            refine zad ?_
            refine zab rfl rfl rfl (zac (.inl rfl) (ev1 rfl)) ?_
            refine zab rfl rfl rfl (op_add' rfl (ev1 rfl) (ev1 rfl) (fun _ => IntWalk.i64_in _ (by omega))) ?_
            refine zab rfl rfl rfl (zac (.inr rfl) (ev1 rfl)) ?_
            refine zaf ?_
            refine ⟨k + 1, [0, 1, 2, 3, 4, 5, 6], by omega, by simp only []; omega, rfl, ⟨congrArg (fun z : Nat => some (D.val (.int .i64 (z : Int)))) (clN_n (by rintro (g | g); omega; exact c7 g)).symm, rfl, rfl, rfl, trivial⟩, ⟨rfl, rfl, rfl, rfl, rfl, rfl, rfl, trivial⟩⟩
        · try simp only [decide_eq_true_eq, decide_eq_false_iff_not, beq_iff_eq, bne_iff_ne, beq_eq_false_iff_ne, bne_eq_false_iff_eq, Bool.not_eq_true', Bool.not_eq_false', Bool.and_eq_true, Bool.or_eq_true, Bool.or_eq_false_iff, ne_eq, Decidable.not_not, Int.not_lt, Int.not_le] at c6
          refine dwp_exit ?_
          refine zae ?_
          have hk4 : k = 4 := by omega
          subst hk4
          have hcc : closI (insK id l i) = clN (gapI (insK id l i)) (4 + 1) := by unfold closI; rw [show (insK id l i).length - 2 = 4 + 1 by omega]
          refine zak 6 (by simp only [holes, List.cons_append, List.nil_append]; exact rfl) ?_
          refine dwp_draw [([7], [7]), ([], []), ([], []), ([], []), ([7, 8], [7, 8]), ([], []), ([], []), ([], []), ([], []), ([8, 9], [8, 9]), ([10], [10]), ([], []), ([], []), ([], []), ([10, 11], [10, 11]), ([], []), ([], []), ([], []), ([], []), ([11, 12], [11, 12]), ([], []), ([], [])] mixed (by kernel_rfl) ?_
          refine lex_w rfl rfl (op_bsa (ps := []) 7 rfl sl31 zr3 rfl vn rfl (by decide) (by decide) rfl) rfl (by simp only [upd, za, zaa]; exact rfl) ?_
          refine zag rfl rfl (zac (.inl rfl) (ev1 rfl)) ?_
          refine zag rfl rfl (zac (.inl rfl) (ev1 rfl)) ?_
          refine zag rfl rfl (op_sltk (j := clN (gapI (insK id l i)) (4 + 1)) rfl sl31 (ev1 rfl) (bd_some (ev1 rfl)) (fun _ => by omega) (fun _ => by rw [List.length_map]; omega) (fun _ => rfl)) ?_
          refine lex_w rfl rfl (op_app (j := 8) rfl sl31 zr3 rfl (ev1 rfl) (ev1 rfl) src_slf rfl rfl (fun _ => flat_oc (fun _ => rfl) _) (fun _ => ⟨by simp only [List.length_take, List.length_drop, List.length_map]; omega, by simp only [List.length_take, List.length_drop, List.length_map]; omega⟩)) rfl (by simp only [upd, za, zaa]; exact rfl) ?_
          refine zag rfl rfl (zac (.inl rfl) (ev1 rfl)) ?_
          refine zag rfl rfl (zac (.inl rfl) (ev1 rfl)) ?_
          refine zag rfl rfl (op_add' rfl (ev1 rfl) (ev1 rfl) (fun _ => IntWalk.i64_in _ (by omega))) ?_
          refine zag rfl rfl (op_sldr (i := clN (gapI (insK id l i)) (4 + 1) + 1) rfl sl31 (ev1 rfl) (bd_some (ev1 rfl)) (fun _ => by omega) (fun _ => by rw [List.length_map]; omega) (fun _ => rfl)) ?_
          refine lex_w rfl rfl (op_app (j := 9) rfl sl31 zr3 rfl (ev1 rfl) (ev1 rfl) src_slf rfl rfl (fun _ => flat_oc (fun _ => rfl) _) (fun _ => ⟨by simp only [List.length_take, List.length_drop, List.length_map]; omega, by simp only [List.length_take, List.length_drop, List.length_map]; omega⟩)) rfl (by simp only [upd, za, zaa]; exact rfl) ?_
          refine lex_w rfl rfl (op_bsa (ps := []) 10 rfl sl22 zr35 rfl vn rfl (by decide) (by decide) rfl) rfl (by simp only [upd, za, zaa]; exact rfl) ?_
          refine zag rfl rfl (zac (.inl rfl) (ev1 rfl)) ?_
          refine zag rfl rfl (zac (.inl rfl) (ev1 rfl)) ?_
          refine zag rfl rfl (op_sltk (j := clN (gapI (insK id l i)) (4 + 1)) rfl sl22 (ev1 rfl) (bd_some (ev1 rfl)) (fun _ => by omega) (fun _ => by omega) (fun _ => rfl)) ?_
          refine lex_w rfl rfl (op_app (j := 11) rfl sl22 zr35 rfl (ev1 rfl) (ev1 rfl) src_slf rfl rfl (fun _ => flat_oc (fun _ => rfl) _) (fun _ => ⟨by simp only [List.length_take, List.length_drop, List.length_map]; omega, by simp only [List.length_take, List.length_drop, List.length_map]; omega⟩)) rfl (by simp only [upd, za, zaa]; exact rfl) ?_
          refine zag rfl rfl (zac (.inl rfl) (ev1 rfl)) ?_
          refine zag rfl rfl (zac (.inl rfl) (ev1 rfl)) ?_
          refine zag rfl rfl (op_add' rfl (ev1 rfl) (ev1 rfl) (fun _ => IntWalk.i64_in _ (by omega))) ?_
          refine zag rfl rfl (op_sldr (i := clN (gapI (insK id l i)) (4 + 1) + 1) rfl sl22 (ev1 rfl) (bd_some (ev1 rfl)) (fun _ => by omega) (fun _ => by omega) (fun _ => rfl)) ?_
          refine lex_w rfl rfl (op_app (j := 12) rfl sl22 zr35 rfl (ev1 rfl) (ev1 rfl) src_slf rfl rfl (fun _ => flat_oc (fun _ => rfl) _) (fun _ => ⟨by simp only [List.length_take, List.length_drop, List.length_map]; omega, by simp only [List.length_take, List.length_drop, List.length_map]; omega⟩)) rfl (by simp only [upd, za, zaa]; exact rfl) ?_
          refine zag rfl rfl (zac (.inr rfl) (ev1 rfl)) ?_
          refine zag rfl rfl (zac (.inr rfl) (ev1 rfl)) ?_
          refine lex_nil ?_
          refine dwp_ret ?_
          refine kend [9, 12] (rs2 rfl (rv_t rfl) (rv_t rfl)) rfl rfl ?_ ⟨?_, ?_, trivial⟩
          rfl
          exact (arr_eq (by rw [qP_gt hgt, hid, hcc, List.map_append, List.map_take, List.map_drop, List.length_append, Nat.zero_add]) (by rw [qP_gt hgt, hid, hcc, List.map_append, List.map_take, List.map_drop, List.flatMap_append]; rfl))
          exact (arr_eq (by rw [qP_gt hgt, List.map_append, List.map_take, List.map_drop, hid, hcc, List.length_append, Nat.zero_add]) (by rw [qP_gt hgt, List.map_append, List.map_take, List.map_drop, hid, hcc, List.flatMap_append]; rfl))
    · have hn : plI l i < l.length := by
        have h9 := c4
        simp at h9
        omega
      have hqe := qT_end hn
      refine zal ?_
      refine zae ?_
      refine zae ?_
      refine dwp_eqB 1 (show .arr 3 1 (((qT l i l.length).map Prod.snd)).length ((((qT l i l.length).map Prod.snd)).flatMap inI) = .arr 3 1 (((qA l i).map Prod.snd)).length ((((qA l i).map Prod.snd)).flatMap inI) from by rw [hqe]) rfl (by simp only [List.cons_append, List.nil_append, za, zaa]; exact rfl) ?_
      refine dwp_eqB 2 (show .arr 35 3 (((qT l i l.length).map Prod.fst)).length ((((qT l i l.length).map Prod.fst)).flatMap idc) = .arr 35 3 ((insK id l i)).length (((insK id l i)).flatMap idc) from by rw [hqe, hid]) rfl (by simp only [List.cons_append, List.nil_append, za, zaa]; exact rfl) ?_
      refine zad ?_
      refine zab rfl rfl rfl (zac (.inl rfl) (ev1 rfl)) ?_
      refine zab rfl rfl rfl (op_lena rfl sl22 (ev1 rfl) rfl) ?_
      refine zab rfl rfl rfl (op_leq rfl (ev1 rfl) (ev1 rfl)) ?_
      refine zaf ?_
      refine dwp_cond rfl (fun c5 => ?_) (fun c5 => ?_)
      · have hle : (qA l i).length ≤ 6 := by
          have h1 := of_decide_eq_true c5
          omega
        refine zae ?_
        refine zad ?_
        refine zab rfl rfl rfl (zac (.inl rfl) (ev1 rfl)) ?_
        refine zab rfl rfl rfl (zac (.inl rfl) (ev1 rfl)) ?_
        refine zab rfl rfl rfl (zac (.inr rfl) (ev1 rfl)) ?_
        refine zab rfl rfl rfl (zac (.inr rfl) (ev1 rfl)) ?_
        refine zaf ?_
        refine dwp_ret ?_
        refine kend [1, 2] (rs2 rfl (rv_t rfl) (rv_t rfl)) rfl rfl ?_ ⟨?_, ?_, trivial⟩
        rfl
        exact (by rw [qP_le hle]; rfl)
        exact (by rw [qP_le hle, hid]; rfl)
      · have hgt : 6 < (qA l i).length := by
          have h1 := of_decide_eq_false c5
          omega
        refine zal ?_
        refine zae ?_
        refine dwp_giveA 6 rfl rfl (by simp only [za, zaa]; exact rfl) ?_
        refine dwp_giveA 7 rfl rfl (by simp only [za, zaa]; exact rfl) ?_
        refine zad ?_
        refine zab rfl rfl rfl (zac (.inr rfl) (ev1 rfl)) ?_
        refine zaf ?_
        refine zae ?_
        refine zae ?_
        refine zad ?_
        refine zab rfl rfl rfl (zac (.inr rfl) (ev1 rfl)) ?_
        refine zaf ?_
        refine zam ?_
        refine dwp_loopS ⟨hs0, rfl⟩ (α := Nat) (fun k => [(12, .val (.int .i64 (clN (gapI (insK id l i)) (k + 1) : Int))), (13, .val (.int .i64 ((k + 2 : Nat) : Int)))]) [(6, _), (7, _)] (fun k => []) [_, _, _] (fun k => k ≤ 4) (fun k => 4 - k) 0 [0, 1, 2] (Nat.zero_le _) rfl ⟨rfl, rfl, trivial⟩ ⟨rfl, rfl, trivial⟩ ⟨rfl, rfl, rfl, trivial⟩ ?_
        intro k hx
        simp only [upd, za, zaa, List.cons_append, List.nil_append]
        have hk2 := hx
        have hcl := clN_le (gapI (insK id l i)) (k + 1)
        have hcp := clN_pos (gapI (insK id l i)) (k + 1) (by omega)
        refine zae ?_
        refine zae ?_
        refine zad ?_
        refine zab rfl rfl rfl (zac (.inl rfl) (ev1 rfl)) ?_
        refine zab rfl rfl rfl (zac (.inl rfl) (ev1 rfl)) ?_
        refine zab rfl rfl rfl (op_len rfl sl22 (ev1 rfl)) ?_
        refine zab rfl rfl rfl (op_sub' rfl (ev1 rfl) (ev1 rfl) (fun _ => IntWalk.i64_in _ (by omega))) ?_
        refine zab rfl rfl rfl (op_lss rfl (ev1 rfl) (ev1 rfl)) ?_
        refine zaf ?_
        refine dwp_cond rfl (fun c9 => ?_) (fun c9 => ?_)
        · try simp only [decide_eq_true_eq, decide_eq_false_iff_not, beq_iff_eq, bne_iff_ne, beq_eq_false_iff_ne, bne_eq_false_iff_eq, Bool.not_eq_true', Bool.not_eq_false', Bool.and_eq_true, Bool.or_eq_true, Bool.or_eq_false_iff, ne_eq, Decidable.not_not, Int.not_lt, Int.not_le] at c9
          refine zal ?_
          refine zae ?_
          refine zam ?_
          refine zae ?_
          have hb1 := hoi.t (a := k + 2 - 1) (b := k + 2 + 1) (by omega) (by omega)
          have hb2 := hoi.t (a := clN (gapI (insK id l i)) (k + 1) - 1) (b := clN (gapI (insK id l i)) (k + 1) + 1) (by omega) (by omega)
          have hgp1 : gapI (insK id l i) (k + 1 + 1) = ((insK id l i)[k + 2 + 1]).t - ((insK id l i)[k + 2 - 1]).t := by unfold gapI; rw [gI (by omega), gI (by omega)]
          have hgp2 : gapI (insK id l i) (clN (gapI (insK id l i)) (k + 1)) = ((insK id l i)[clN (gapI (insK id l i)) (k + 1) + 1]).t - ((insK id l i)[clN (gapI (insK id l i)) (k + 1) - 1]).t := by
            show ((insK id l i).getD (clN (gapI (insK id l i)) (k + 1) + 1) zI3).t - ((insK id l i).getD (clN (gapI (insK id l i)) (k + 1) - 1) zI3).t = _
            rw [gI (by omega), gI (by omega)]
          rw [gI (by omega), gI (by omega)] at hb1 hb2
          refine dwp_draw [([], []), ([], []), ([], []), ([], []), ([], []), ([], []), ([], []), ([], []), ([], []), ([], []), ([], []), ([], []), ([], []), ([], []), ([], []), ([], []), ([], []), ([], []), ([], []), ([], []), ([], []), ([], []), ([], []), ([], []), ([], []), ([], []), ([], [])] mixed (by kernel_rfl) ?_
          refine zag rfl rfl (zac (.inl rfl) (ev1 rfl)) ?_
          refine zag rfl rfl (zac (.inl rfl) (ev1 rfl)) ?_
          refine zag rfl rfl (op_add' rfl (ev1 rfl) (ev1 rfl) (fun _ => IntWalk.i64_in _ (by omega))) ?_
          refine zag rfl rfl (op_ixsr (j := k + 2 + 1) rfl sl22 (ev1 rfl) (ev1 rfl) (fun _ => rfl) (by decide) (by omega) (by omega)) ?_
          refine zag rfl rfl (op_fad rfl fo35_0 (ev1 rfl)) ?_
          refine zag rfl rfl (op_ldod rfl tb33 (ev1 rfl) rfl) ?_
          refine zag rfl rfl (zac (.inl rfl) (ev1 rfl)) ?_
          refine zag rfl rfl (zac (.inl rfl) (ev1 rfl)) ?_
          refine zag rfl rfl (op_sub' rfl (ev1 rfl) (ev1 rfl) (fun _ => IntWalk.i64_in _ (by omega))) ?_
          refine zag rfl rfl (op_ixsr (j := k + 2 - 1) rfl sl22 (ev1 rfl) (ev1 rfl) (fun _ => rfl) (by decide) (by omega) (by omega)) ?_
          refine zag rfl rfl (op_fad rfl fo35_0 (ev1 rfl)) ?_
          refine zag rfl rfl (op_ldod rfl tb33 (ev1 rfl) rfl) ?_
          refine zag rfl rfl ((op_sub' rfl (ev1 rfl) (ev1 rfl) (fun _ => IntWalk.u64_in _ (by omega))).cast (d' := .val (.int .u64 (gapI (insK id l i) (k + 1 + 1)))) (by rw [hgp1])) ?_
          refine zag rfl rfl (zac (.inl rfl) (ev1 rfl)) ?_
          refine zag rfl rfl (zac (.inl rfl) (ev1 rfl)) ?_
          refine zag rfl rfl (op_add' rfl (ev1 rfl) (ev1 rfl) (fun _ => IntWalk.i64_in _ (by omega))) ?_
          refine zag rfl rfl (op_ixsr (j := clN (gapI (insK id l i)) (k + 1) + 1) rfl sl22 (ev1 rfl) (ev1 rfl) (fun _ => rfl) (by decide) (by omega) (by omega)) ?_
          refine zag rfl rfl (op_fad rfl fo35_0 (ev1 rfl)) ?_
          refine zag rfl rfl (op_ldod rfl tb33 (ev1 rfl) rfl) ?_
          refine zag rfl rfl (zac (.inl rfl) (ev1 rfl)) ?_
          refine zag rfl rfl (zac (.inl rfl) (ev1 rfl)) ?_
          refine zag rfl rfl (op_sub' rfl (ev1 rfl) (ev1 rfl) (fun _ => IntWalk.i64_in _ (by omega))) ?_
          refine zag rfl rfl (op_ixsr (j := clN (gapI (insK id l i)) (k + 1) - 1) rfl sl22 (ev1 rfl) (ev1 rfl) (fun _ => rfl) (by decide) (by omega) (by omega)) ?_
          refine zag rfl rfl (op_fad rfl fo35_0 (ev1 rfl)) ?_
          refine zag rfl rfl (op_ldod rfl tb33 (ev1 rfl) rfl) ?_
          refine zag rfl rfl ((op_sub' rfl (ev1 rfl) (ev1 rfl) (fun _ => IntWalk.u64_in _ (by omega))).cast (d' := .val (.int .u64 (gapI (insK id l i) (clN (gapI (insK id l i)) (k + 1))))) (by rw [hgp2])) ?_
          refine zag rfl rfl (op_lss rfl (ev1 rfl) (ev1 rfl)) ?_
          refine lex_nil ?_
          refine dwp_cond rfl (fun c6 => ?_) (fun c6 => ?_)
          · have c7 : gapI (insK id l i) (k + 1 + 1) < gapI (insK id l i) (clN (gapI (insK id l i)) (k + 1)) := of_decide_eq_true c6
            refine zad ?_
            refine zab rfl rfl rfl (zac (.inl rfl) (ev1 rfl)) ?_
            refine zab rfl rfl rfl (zac (.inr rfl) (ev1 rfl)) ?_
            refine zaf ?_
            refine zad ?_
            refine zab rfl rfl rfl (zac (.inl rfl) (ev1 rfl)) ?_
            refine zab rfl rfl rfl (op_add' rfl (ev1 rfl) (ev1 rfl) (fun _ => IntWalk.i64_in _ (by omega))) ?_
            refine zab rfl rfl rfl (zac (.inr rfl) (ev1 rfl)) ?_
            refine zaf ?_
            refine ⟨k + 1, [0, 1, 2], by omega, by simp only []; omega, rfl, ⟨congrArg (fun z : Nat => some (D.val (.int .i64 (z : Int)))) (clN_y (.inr c7)).symm, rfl, rfl, rfl, trivial⟩, ⟨rfl, rfl, rfl, trivial⟩⟩
          · have c7 : ¬ gapI (insK id l i) (k + 1 + 1) < gapI (insK id l i) (clN (gapI (insK id l i)) (k + 1)) := of_decide_eq_false c6
            refine zal ?_
            refine zad ?_
            refine zab rfl rfl rfl (zac (.inl rfl) (ev1 rfl)) ?_
            refine zab rfl rfl rfl (op_add' rfl (ev1 rfl) (ev1 rfl) (fun _ => IntWalk.i64_in _ (by omega))) ?_
            refine zab rfl rfl rfl (zac (.inr rfl) (ev1 rfl)) ?_
            refine zaf ?_
            refine ⟨k + 1, [0, 1, 2], by omega, by simp only []; omega, rfl, ⟨congrArg (fun z : Nat => some (D.val (.int .i64 (z : Int)))) (clN_n (by rintro (g | g); omega; exact c7 g)).symm, rfl, rfl, rfl, trivial⟩, ⟨rfl, rfl, rfl, trivial⟩⟩
        · try simp only [decide_eq_true_eq, decide_eq_false_iff_not, beq_iff_eq, bne_iff_ne, beq_eq_false_iff_ne, bne_eq_false_iff_eq, Bool.not_eq_true', Bool.not_eq_false', Bool.and_eq_true, Bool.or_eq_true, Bool.or_eq_false_iff, ne_eq, Decidable.not_not, Int.not_lt, Int.not_le] at c9
          refine dwp_exit ?_
          refine zae ?_
          have hk4 : k = 4 := by omega
          subst hk4
          have hcc : closI (insK id l i) = clN (gapI (insK id l i)) (4 + 1) := by unfold closI; rw [show (insK id l i).length - 2 = 4 + 1 by omega]
          refine zak 6 (by simp only [holes, List.cons_append, List.nil_append]; exact rfl) ?_
          refine dwp_draw [([3], [3]), ([], []), ([], []), ([], []), ([3, 4], [3, 4]), ([], []), ([], []), ([], []), ([], []), ([4, 5], [4, 5]), ([6], [6]), ([], []), ([], []), ([], []), ([6, 7], [6, 7]), ([], []), ([], []), ([], []), ([], []), ([7, 8], [7, 8]), ([], []), ([], [])] mixed (by kernel_rfl) ?_
          refine lex_w rfl rfl (op_bsa (ps := []) 3 rfl sl31 zr3 rfl vn rfl (by decide) (by decide) rfl) rfl (by simp only [upd, za, zaa]; exact rfl) ?_
          refine zag rfl rfl (zac (.inl rfl) (ev1 rfl)) ?_
          refine zag rfl rfl (zac (.inl rfl) (ev1 rfl)) ?_
          refine zag rfl rfl (op_sltk (j := clN (gapI (insK id l i)) (4 + 1)) rfl sl31 (ev1 rfl) (bd_some (ev1 rfl)) (fun _ => by omega) (fun _ => by rw [List.length_map]; omega) (fun _ => rfl)) ?_
          refine lex_w rfl rfl (op_app (j := 4) rfl sl31 zr3 rfl (ev1 rfl) (ev1 rfl) src_slf rfl rfl (fun _ => flat_oc (fun _ => rfl) _) (fun _ => ⟨by simp only [List.length_take, List.length_drop, List.length_map]; omega, by simp only [List.length_take, List.length_drop, List.length_map]; omega⟩)) rfl (by simp only [upd, za, zaa]; exact rfl) ?_
          refine zag rfl rfl (zac (.inl rfl) (ev1 rfl)) ?_
          refine zag rfl rfl (zac (.inl rfl) (ev1 rfl)) ?_
          refine zag rfl rfl (op_add' rfl (ev1 rfl) (ev1 rfl) (fun _ => IntWalk.i64_in _ (by omega))) ?_
          refine zag rfl rfl (op_sldr (i := clN (gapI (insK id l i)) (4 + 1) + 1) rfl sl31 (ev1 rfl) (bd_some (ev1 rfl)) (fun _ => by omega) (fun _ => by rw [List.length_map]; omega) (fun _ => rfl)) ?_
          refine lex_w rfl rfl (op_app (j := 5) rfl sl31 zr3 rfl (ev1 rfl) (ev1 rfl) src_slf rfl rfl (fun _ => flat_oc (fun _ => rfl) _) (fun _ => ⟨by simp only [List.length_take, List.length_drop, List.length_map]; omega, by simp only [List.length_take, List.length_drop, List.length_map]; omega⟩)) rfl (by simp only [upd, za, zaa]; exact rfl) ?_
          refine lex_w rfl rfl (op_bsa (ps := []) 6 rfl sl22 zr35 rfl vn rfl (by decide) (by decide) rfl) rfl (by simp only [upd, za, zaa]; exact rfl) ?_
          refine zag rfl rfl (zac (.inl rfl) (ev1 rfl)) ?_
          refine zag rfl rfl (zac (.inl rfl) (ev1 rfl)) ?_
          refine zag rfl rfl (op_sltk (j := clN (gapI (insK id l i)) (4 + 1)) rfl sl22 (ev1 rfl) (bd_some (ev1 rfl)) (fun _ => by omega) (fun _ => by omega) (fun _ => rfl)) ?_
          refine lex_w rfl rfl (op_app (j := 7) rfl sl22 zr35 rfl (ev1 rfl) (ev1 rfl) src_slf rfl rfl (fun _ => flat_oc (fun _ => rfl) _) (fun _ => ⟨by simp only [List.length_take, List.length_drop, List.length_map]; omega, by simp only [List.length_take, List.length_drop, List.length_map]; omega⟩)) rfl (by simp only [upd, za, zaa]; exact rfl) ?_
          refine zag rfl rfl (zac (.inl rfl) (ev1 rfl)) ?_
          refine zag rfl rfl (zac (.inl rfl) (ev1 rfl)) ?_
          refine zag rfl rfl (op_add' rfl (ev1 rfl) (ev1 rfl) (fun _ => IntWalk.i64_in _ (by omega))) ?_
          refine zag rfl rfl (op_sldr (i := clN (gapI (insK id l i)) (4 + 1) + 1) rfl sl22 (ev1 rfl) (bd_some (ev1 rfl)) (fun _ => by omega) (fun _ => by omega) (fun _ => rfl)) ?_
          refine lex_w rfl rfl (op_app (j := 8) rfl sl22 zr35 rfl (ev1 rfl) (ev1 rfl) src_slf rfl rfl (fun _ => flat_oc (fun _ => rfl) _) (fun _ => ⟨by simp only [List.length_take, List.length_drop, List.length_map]; omega, by simp only [List.length_take, List.length_drop, List.length_map]; omega⟩)) rfl (by simp only [upd, za, zaa]; exact rfl) ?_
          refine zag rfl rfl (zac (.inr rfl) (ev1 rfl)) ?_
          refine zag rfl rfl (zac (.inr rfl) (ev1 rfl)) ?_
          refine lex_nil ?_
          refine dwp_ret ?_
          refine kend [5, 8] (rs2 rfl (rv_t rfl) (rv_t rfl)) rfl rfl ?_ ⟨?_, ?_, trivial⟩
          rfl
          exact (arr_eq (by rw [qP_gt hgt, hid, hcc, List.map_append, List.map_take, List.map_drop, List.length_append, Nat.zero_add]) (by rw [qP_gt hgt, hid, hcc, List.map_append, List.map_take, List.map_drop, List.flatMap_append]; rfl))
          exact (arr_eq (by rw [qP_gt hgt, List.map_append, List.map_take, List.map_drop, hid, hcc, List.length_append, Nat.zero_add]) (by rw [qP_gt hgt, List.map_append, List.map_take, List.map_drop, hid, hcc, List.flatMap_append]; rfl))
theorem rput_d (l : List I3) (i : I3) (hl : l.length ≤ 6) (ho : okI l) (hi : mayR i = true) : DFun Try.prog 15 [.slf 3 l.length (l.flatMap idc), .val (.agg (idc i).toArray)] [] (.tup [.slf 1 (((qP l i).map Prod.snd)).length ((((qP l i).map Prod.snd)).flatMap inI), .slf 3 ((qP l i).map Prod.fst).length (((qP l i).map Prod.fst).flatMap idc)]) [] := freeze (rput_o l i hl ho hi) rfl
end Go.Proofs.Ytmpodnadoebclaa
namespace Go.Proofs.Ytmpodnadoebclaa
set_option maxRecDepth 4000
set_option linter.unusedVariables false
set_option linter.unusedSimpArgs false
open Go.RowKit
theorem rowM_at {ids : List I3} {b : Int} {k : Nat} (h : k < (rowM ids b).length) : (rowM ids b)[k] = mkN (ids.getD k zI3) (b + (k : Int)) := by simp [rowM]
theorem rowM_ids (ids : List I3) (b : Int) : idsK (rowM ids b) = ids := by
  apply List.ext_getElem?
  intro k
  rw [idsK, List.getElem?_map]
  by_cases h : k < ids.length
  · rw [List.getElem?_eq_getElem (by rw [rowM_len]; exact h), List.getElem?_eq_getElem h, rowM_at]
    exact congrArg some (gI h)
  · rw [List.getElem?_eq_none (by rw [rowM_len]; omega), List.getElem?_eq_none (by omega)]; rfl
end Go.Proofs.Ytmpodnadoebclaa
namespace Go.Proofs.Ytmpodnadoebclaa
set_option maxRecDepth 4000
set_option linter.unusedVariables false
set_option linter.unusedSimpArgs false
open Go.RowKit
def fromN (b : Int) (n : Nat) : List Int := (List.range n).map fun (k : Nat) => b + (k : Int)
theorem fromN_len (b : Int) (n : Nat) : (fromN b n).length = n := by simp [fromN]
theorem fromN_add (b : Int) (n : Nat) : fromN b (n + 1) = fromN b n ++ [b + (n : Int)] := by unfold fromN; rw [List.range_succ, List.map_append]; rfl
set_option maxRecDepth 4000 in
set_option maxHeartbeats 1000000 in
theorem from_o (b : Int) (n : Nat) (h : n ≤ 1000) (hb : 0 ≤ b ∧ b ≤ 1000) : DFun Try.prog 13 [.val (.int .i64 b), .val (.int .i64 (n : Int))] [] (.arr 0) [.arr 3 1 ((fromN b n)).length (((fromN b n)).flatMap inI)] := by
  refine zao (N := 19) 0 (by kernel_rfl) Try.func13 rfl rfl rfl (by simp only [fr0, Nat.zero_add, Nat.reduceAdd]; exact rfl) rfl fun s0 hs0 => ?_
  refine zae ?_
  refine zad ?_
  refine zab rfl rfl rfl (zac (.inr rfl) (ev1 rfl)) ?_
  refine zaf ?_
  refine zae ?_
  refine zad ?_
  refine zab rfl rfl rfl (zac (.inr rfl) (ev1 rfl)) ?_
  refine zaf ?_
  refine zae ?_
  refine zae ?_
  refine zad ?_
  refine zab rfl rfl rfl (zac (.inl rfl) (ev1 rfl)) ?_
  refine zab rfl rfl rfl (zac (.inl rfl) (ev1 rfl)) ?_
  refine zaf ?_
  refine zam ?_
  refine dwp_adopt 5 3 1 rfl rfl rfl ?_
  refine dwp_loopS ⟨hs0, rfl⟩ (α := Nat) (fun k => [(8, .val (.int .i64 (k : Int)))]) [(0, _), (5, _), (7, _)] (fun k => [(0, .arr 3 1 ((fromN b k)).length (((fromN b k)).flatMap inI))]) [.hole] (fun k => k ≤ n) (fun k => n - k) 0 [0] (Nat.zero_le _) rfl ⟨rfl, rfl, rfl, trivial⟩ ⟨rfl, trivial⟩ ⟨rfl, trivial⟩ ?_
  intro k hx
  simp only [upd, za, zaa, List.cons_append, List.nil_append]
  have hk := hx
  have hrl := fromN_len b k
  refine zae ?_
  refine zad ?_
  refine zab rfl rfl rfl (op_lss rfl (ev1 rfl) (ev1 rfl)) ?_
  refine zaf ?_
  refine zae ?_
  refine dwp_cond rfl (fun c1 => ?_) (fun c1 => ?_)
  · try simp only [decide_eq_true_eq, decide_eq_false_iff_not, beq_iff_eq, bne_iff_ne, beq_eq_false_iff_ne, bne_eq_false_iff_eq, Bool.not_eq_true', Bool.not_eq_false', Bool.and_eq_true, Bool.or_eq_true, Bool.or_eq_false_iff, ne_eq, Decidable.not_not, Int.not_lt, Int.not_le] at c1
    refine zal ?_
    refine zae ?_
    refine zam ?_
    refine zae ?_
    refine zad ?_
    refine zab rfl rfl rfl (zac (.inl rfl) (ev1 rfl)) ?_
    refine zab rfl rfl rfl (zac (.inr rfl) (ev1 rfl)) ?_
    refine zaf ?_
    refine zak 2 (by simp only [holes, List.cons_append, List.nil_append]; exact rfl) ?_
    refine zad ?_
    refine zab rfl rfl rfl (zac (.inl rfl) (ev1 rfl)) ?_
    refine zab rfl rfl rfl (zac (.inl rfl) (ev1 rfl)) ?_
    refine zab rfl rfl rfl (zac (.inl rfl) (ev1 rfl)) ?_
    refine zab rfl rfl rfl (op_add' rfl (ev1 rfl) (ev1 rfl) (fun _ => IntWalk.i64_in _ (by omega))) ?_
    refine zan rfl rfl rfl (op_bsa (ps := [(0, .tmp 14)]) 1 rfl sl31 zr3 rfl (vc (ev1 rfl) vn) rfl (by decide) (by decide) rfl) (by simp only [upd, za, zaa]; exact rfl) ?_
    refine zan rfl rfl rfl (op_app (j := 2) rfl sl31 zr3 rfl (ev1 rfl) (ev1 rfl) (src_arr rfl) rfl rfl (fun _ => rfl) (fun _ => ⟨by omega, by omega⟩)) (by simp only [upd, za, zaa]; exact rfl) ?_
    refine zab rfl rfl rfl (zac (.inr rfl) (ev1 rfl)) ?_
    refine zaf ?_
    refine zad ?_
    refine zab rfl rfl rfl (op_add' rfl (ev1 rfl) (ev1 rfl) (fun _ => IntWalk.i64_in _ (by omega))) ?_
    refine zab rfl rfl rfl (zac (.inl rfl) (ev1 rfl)) ?_
    refine zaf ?_
    refine ⟨k + 1, [2], by omega, by simp only []; omega, rfl, ⟨rfl, rfl, rfl, rfl, trivial⟩, ⟨arr_eq (by rw [fromN_add, List.length_append]; rfl) (by rw [fromN_add, List.flatMap_append]; rfl), trivial⟩⟩
  · try simp only [decide_eq_true_eq, decide_eq_false_iff_not, beq_iff_eq, bne_iff_ne, beq_eq_false_iff_ne, bne_eq_false_iff_eq, Bool.not_eq_true', Bool.not_eq_false', Bool.and_eq_true, Bool.or_eq_true, Bool.or_eq_false_iff, ne_eq, Decidable.not_not, Int.not_lt, Int.not_le] at c1
    refine dwp_exit ?_
    refine zae ?_
    refine zad ?_
    refine zab rfl rfl rfl (zac (.inl rfl) (ev1 rfl)) ?_
    refine zab rfl rfl rfl (zac (.inr rfl) (ev1 rfl)) ?_
    refine zaf ?_
    refine dwp_ret ?_
    have e1 : k = n := by omega
    subst e1
    refine kend [0] (rs1 rfl (rv_t rfl)) rfl rfl ?_ ⟨rfl, trivial⟩
    rfl
theorem from_d (b : Int) (n : Nat) (h : n ≤ 1000) (hb : 0 ≤ b ∧ b ≤ 1000) : DFun Try.prog 13 [.val (.int .i64 b), .val (.int .i64 (n : Int))] [] (.slf 1 (fromN b n).length ((fromN b n).flatMap inI)) [] := freeze (from_o b n h hb) rfl
abbrev tsK (l : List Mk) : List (List TL) := l.map Mk.ts
abbrev tsN (l : List Int) : List (List TL) := l.map pnT
def shB (m : List Mk) (l : List I3) (ns : List Int) : Bool := decide (idsC m = l) && decide (tsK m = tsN ns)
set_option maxRecDepth 4000 in
set_option maxHeartbeats 1000000 in
theorem shows_d (m : List Mk) (l : List I3) (ns : List Int) (h : m.length ≤ 5000) : DFun Try.prog 17 [.slm 4 (m).length ((m).flatMap mkC), .slf 3 l.length (l.flatMap idc), .slf 1 (ns).length ((ns).flatMap inI)] [] (.val (.bool (shB m l ns))) [] := by
  refine zao (N := 46) 0 (by kernel_rfl) Try.func17 rfl rfl rfl (by simp only [fr0, Nat.zero_add, Nat.reduceAdd]; exact rfl) rfl fun s0 hs0 => ?_
  refine dwp_lenm (t := 0) rfl fun hl0 hL0 => ?_
  refine dwp_len (t := 1) rfl fun hl1 hL1 => ?_
  refine dwp_len (t := 2) rfl fun hl2 hL2 => ?_
  refine zae ?_
  refine zad ?_
  refine zab rfl rfl rfl (zac (.inr rfl) (ev1 rfl)) ?_
  refine zaf ?_
  refine zae ?_
  refine zae ?_
  refine zad ?_
  refine zab rfl rfl rfl (zac (.inl rfl) (ev1 rfl)) ?_
  refine zab rfl rfl rfl (zah [] [] [] rfl (ev1 rfl) (ec (ev1 rfl) en) rfl rfl (Ids_d _ (by omega)) rfl rfl rfl rfl rfl rfl) ?_
  refine zab rfl rfl rfl (zac (.inl rfl) (ev1 rfl)) ?_
  refine zab rfl rfl rfl (zah [] [] [] rfl (ev1 rfl) (ec (ev1 rfl) (ec (ev1 rfl) en)) rfl rfl (equalI _ _) rfl rfl rfl rfl rfl rfl) ?_
  refine zab rfl rfl rfl (op_not rfl (ev1 rfl)) ?_
  refine zab rfl rfl rfl (zac (.inl rfl) (ev1 rfl)) ?_
  refine zaj (gd_f rfl rfl rfl) rfl rfl rfl (zac (.inl rfl) (ev1 rfl)) ?_
  refine zaj (gd_f rfl rfl rfl) rfl rfl rfl (op_lenm rfl sl26 (ev2 rfl)) ?_
  refine zaj (gd_f rfl rfl rfl) rfl rfl rfl (zac (.inl rfl) (ev1 rfl)) ?_
  refine zaj (gd_f rfl rfl rfl) rfl rfl rfl (op_len rfl sl31 (ev2 rfl)) ?_
  refine zaj (gd_f rfl rfl rfl) rfl rfl rfl (op_neq rfl (ev2 rfl) (ev2 rfl)) ?_
  refine zab rfl rfl rfl (op_or rfl (ev1 rfl) (ev3 rfl id)) ?_
  refine zaf ?_
  refine dwp_cond rfl (fun c1 => ?_) (fun c1 => ?_)
  · have hno : shB m l ns = false := by
      unfold shB
      cases g : decide (idsC m = l) with
      | false => rfl
      | true =>
        rw [g] at c1
        have g2 : tsK m ≠ tsN ns := fun e => by
          have e2 : (tsK m).length = (tsN ns).length := by rw [e]
          rw [List.length_map, List.length_map] at e2
          rw [e2] at c1
          simp at c1
        rw [decide_eq_false g2]; rfl
    refine zae ?_
    refine zad ?_
    refine zab rfl rfl rfl (zac (.inr rfl) (ev1 rfl)) ?_
    refine zaf ?_
    refine dwp_ret ?_
    refine kend0 (rs1 rfl (rv_t rfl)) rfl ?_
    rw [hno]
  · have hy : idsC m = l ∧ m.length = ns.length := by
      cases g : decide (idsC m = l) with
      | false => rw [g] at c1; simp at c1
      | true =>
        rw [g] at c1
        simp at c1
        exact ⟨of_decide_eq_true g, by omega⟩
    obtain ⟨hy1, hy2⟩ := hy
    refine zal ?_
    refine zae ?_
    refine zae ?_
    refine zad ?_
    refine zab rfl rfl rfl (zac (.inl rfl) (ev1 rfl)) ?_
    refine zab rfl rfl rfl (op_len rfl sl31 (ev1 rfl)) ?_
    refine zab rfl rfl rfl (zac (.inl rfl) (ev1 rfl)) ?_
    refine zaf ?_
    refine zam ?_
    refine dwp_loopS ⟨hs0, rfl⟩ (α := Nat) (fun k => [(23, .val (.int .i64 (k : Int)))]) [(0, _), (21, _), (22, _)] (fun k => []) [] (fun k => k ≤ ns.length ∧ tsK (m.take k) = tsN (ns.take k)) (fun k => ns.length - k) 0 [] (⟨Nat.zero_le _, rfl⟩) rfl ⟨rfl, rfl, rfl, trivial⟩ ⟨rfl, trivial⟩ trivial ?_
    intro k hx
    simp only [upd, za, zaa, List.cons_append, List.nil_append]
    obtain ⟨hk, he⟩ := hx
    refine zae ?_
    refine zad ?_
    refine zab rfl rfl rfl (op_lss rfl (ev1 rfl) (ev1 rfl)) ?_
    refine zaf ?_
    refine zae ?_
    refine dwp_cond rfl (fun c2 => ?_) (fun c2 => ?_)
    · try simp only [decide_eq_true_eq, decide_eq_false_iff_not, beq_iff_eq, bne_iff_ne, beq_eq_false_iff_ne, bne_eq_false_iff_eq, Bool.not_eq_true', Bool.not_eq_false', Bool.and_eq_true, Bool.or_eq_true, Bool.or_eq_false_iff, ne_eq, Decidable.not_not, Int.not_lt, Int.not_le] at c2
      refine zal ?_
      refine zae ?_
      refine zam ?_
      refine zae ?_
      refine zad ?_
      refine zab rfl rfl rfl (zac (.inl rfl) (ev1 rfl)) ?_
      refine zab rfl rfl rfl (op_ixsr (j := k) rfl sl31 (ev1 rfl) (ev1 rfl) (fun _ => rfl) (by decide) (by omega) (by omega)) ?_
      refine zab rfl rfl rfl (op_ldod rfl tb3 (ev1 rfl) rfl) ?_
      refine zab rfl rfl rfl (zac (.inr rfl) (ev1 rfl)) ?_
      refine zab rfl rfl rfl (zac (.inr rfl) (ev1 rfl)) ?_
      refine zaf ?_
      refine zae ?_
      have hkm : k < m.length := by omega
      refine dwp_draw [([], []), ([], []), ([], []), ([], []), ([], []), ([], []), ([], []), ([], []), ([], []), ([], []), ([], []), ([], []), ([], []), ([], []), ([], []), ([], []), ([], [])] mixed (by kernel_rfl) ?_
      refine zag rfl rfl (zac (.inl rfl) (ev1 rfl)) ?_
      refine zag rfl rfl (zac (.inl rfl) (ev1 rfl)) ?_
      refine zag rfl rfl (op_ixmr (k) (by decide) rfl sl26 (ev1 rfl) (ev1 rfl) (fun _ => rfl) (by omega) (fun _ => rfl)) ?_
      refine zag rfl rfl (op_fadm rfl fo44_1 (ev1 rfl)) ?_
      refine zag rfl rfl (op_lddm rfl tb42 (ev1 rfl) rfl) ?_
      refine zag rfl rfl (op_pnilm rfl pt42 (ev1 rfl)) ?_
      refine zag rfl rfl (zac (.inl rfl) (ev1 rfl)) ?_
      refine zai (gd_f rfl rfl rfl) rfl rfl (zac (.inl rfl) (ev1 rfl)) ?_
      refine zai (gd_f rfl rfl rfl) rfl rfl (zac (.inl rfl) (ev1 rfl)) ?_
      refine zai (gd_f rfl rfl rfl) rfl rfl (op_ixmr (k) (by decide) rfl sl26 (ev2 rfl) (ev2 rfl) (fun _ => rfl) (by omega) (fun _ => rfl)) ?_
      refine zai (gd_f rfl rfl rfl) rfl rfl (op_fadm rfl fo44_1 (ev2 rfl)) ?_
      refine zai (gd_f rfl rfl rfl) rfl rfl (op_lddm rfl tb42 (ev2 rfl) rfl) ?_
      refine zai (gd_f rfl rfl rfl) rfl rfl (zac (.inl rfl) (ev1 rfl)) ?_
      refine zai (gd_f rfl rfl rfl) rfl rfl (zah [] [] [] rfl (ev1 rfl) (ec (ev2 rfl) en) rfl rfl (painted_d ns[k]) rfl rfl rfl rfl rfl rfl) ?_
      refine zai (gd_f rfl rfl rfl) rfl rfl (zah [] [] [] rfl (ev1 rfl) (ec (ev2 rfl) (ec (ev2 rfl) en)) rfl rfl (same_cv 2 1 m[k].ds _ m[k].ts _ m[k].ok (pipR_ok _) m[k].cv (pnT_ok ns[k])) rfl rfl rfl rfl rfl rfl) ?_
      refine zai (gd_f rfl rfl rfl) rfl rfl (op_not rfl (ev2 rfl)) ?_
      refine zag rfl rfl (op_or rfl (ev1 rfl) (ev3 rfl id)) ?_
      refine lex_nil ?_
      refine dwp_cond rfl (fun c2 => ?_) (fun c2 => ?_)
      · have c3 : m[k].ts ≠ pnT ns[k] := by simpa using c2
        refine zae ?_
        refine zad ?_
        refine zab rfl rfl rfl (zac (.inr rfl) (ev1 rfl)) ?_
        refine zaf ?_
        refine dwp_ret ?_
        refine kend0 (rs1 rfl (rv_t rfl)) rfl ?_
        have g2 : tsK m ≠ tsN ns := fun e => by
          have e2 : (tsK m)[k]? = (tsN ns)[k]? := by rw [e]
          rw [List.getElem?_map, List.getElem?_map, List.getElem?_eq_getElem hkm, List.getElem?_eq_getElem (by omega)] at e2
          exact c3 (Option.some.inj e2)
        unfold shB
        rw [decide_eq_false g2, Bool.and_false]
      · have c3 : m[k].ts = pnT ns[k] := by simpa using c2
        refine zal ?_
        refine zad ?_
        refine zab rfl rfl rfl (op_add' rfl (ev1 rfl) (ev1 rfl) (fun _ => IntWalk.i64_in _ (by omega))) ?_
        refine zab rfl rfl rfl (zac (.inl rfl) (ev1 rfl)) ?_
        refine zaf ?_
        refine ⟨k + 1, [], ⟨by omega, by rw [List.take_succ_eq_append_getElem (by omega), List.take_succ_eq_append_getElem (by omega), tsK, List.map_append, tsN, List.map_append, ← tsK, ← tsN, he, List.map_cons, List.map_cons, c3]; rfl⟩, by simp only []; omega, rfl, ⟨rfl, rfl, rfl, rfl, trivial⟩, trivial⟩
    · try simp only [decide_eq_true_eq, decide_eq_false_iff_not, beq_iff_eq, bne_iff_ne, beq_eq_false_iff_ne, bne_eq_false_iff_eq, Bool.not_eq_true', Bool.not_eq_false', Bool.and_eq_true, Bool.or_eq_true, Bool.or_eq_false_iff, ne_eq, Decidable.not_not, Int.not_lt, Int.not_le] at c2
      refine dwp_exit ?_
      refine zae ?_
      refine zad ?_
      refine zab rfl rfl rfl (zac (.inr rfl) (ev1 rfl)) ?_
      refine zaf ?_
      refine dwp_ret ?_
      refine kend0 (rs1 rfl (rv_t rfl)) rfl ?_
      rw [List.take_of_length_le (by omega), List.take_of_length_le (by omega)] at he
      unfold shB
      rw [decide_eq_true hy1, decide_eq_true he]
      rfl
end Go.Proofs.Ytmpodnadoebclaa
namespace Go.Proofs.Ytmpodnadoebclaa
set_option maxRecDepth 4000
set_option linter.unusedVariables false
set_option linter.unusedSimpArgs false
open Go.RowKit
attribute [local irreducible] rowM
theorem rowM_all (ids : List I3) (b : Int) : (rowM ids b).all isMk = ids.all mayR := by
  have h : (rowM ids b).all isMk = (idsK (rowM ids b)).all mayR := by rw [List.all_map]; rfl
  rw [h, rowM_ids]
theorem idsC_ok {m : List Mk} (h : okI (idsK m)) (hl : m.length ≤ 6) : idsC m = idsK m := if_pos (chk_ok.2 ⟨hl, h⟩)
end Go.Proofs.Ytmpodnadoebclaa
namespace Go.Proofs.Ytmpodnadoebclaa
set_option maxRecDepth 4000
set_option linter.unusedVariables false
set_option linter.unusedSimpArgs false
open Go.RowKit
def pfN (ids more : List I3) : Nat → List (I3 × Int)
  | 0 => zpL ids
  | k + 1 => if (more.take (k + 1)).all mayR = true then putK Prod.fst (pfN ids more k) (more.getD k zI3, 100 + (k : Int)) else pfN ids more k
theorem pf_ids (ids more : List I3) : ∀ k, k ≤ more.length → (more.take k).all mayR = true → okI ids → ids.length ≤ 6 → okI ((pfN ids more k).map Prod.fst) ∧ (pfN ids more k).length ≤ 6
  | 0, _, _, h1, h2 => by
    rw [pfN, zp_fst, zp_len]
    exact ⟨h1, h2⟩
  | k + 1, hk, hg, h1, h2 => by
    have hg2 := hg
    rw [List.take_succ_eq_append_getElem (by omega), List.all_append, Bool.and_eq_true, List.all_cons, List.all_nil, Bool.and_true] at hg2
    obtain ⟨g1, g2⟩ := pf_ids ids more k (by omega) hg2.1 h1 h2
    rw [pfN, if_pos hg]
    have e := putK_map (key := Prod.fst) (key2 := id) (f := Prod.fst) (fun _ => rfl) (pfN ids more k) (more.getD k zI3, 100 + (k : Int))
    have g3 := g1.put (by rw [List.length_map]; exact g2) (x := more.getD k zI3) (by rw [gI (by omega)]; exact hg2.2)
    rw [e]
    refine ⟨g3.1, ?_⟩
    have g4 := g3.2
    rw [← e, List.length_map] at g4
    exact g4
theorem pf_no {ids more : List I3} {k : Nat} (h : (more.take (k + 1)).all mayR = false) : pfN ids more (k + 1) = pfN ids more k := by rw [pfN, if_neg (by rw [h]; decide)]
def nuF (N : List Int) (c : Int) (p : I3 × Int) : Int := if p.2 < 0 then c else N.getD p.2.toNat 0
theorem zp_nu (P : List (I3 × Int)) (c : Int) : (zpL (P.map Prod.fst)).map (fun p => (p.1, nuF (P.map Prod.snd) c p)) = P := by
  apply List.ext_getElem?
  intro k
  rw [List.getElem?_map]
  by_cases h : k < P.length
  · rw [List.getElem?_eq_getElem (by rw [zp_len, List.length_map]; exact h), zp_at, List.getElem?_eq_getElem h]
    simp only [Option.map_some, nuF]
    rw [if_neg (by omega), Int.toNat_natCast, gI (by rw [List.length_map]; exact h), List.getElem_map, List.getD_eq_getElem?_getD, List.getElem?_map, List.getElem?_eq_getElem h]
    rfl
  · rw [List.getElem?_eq_none (by rw [zp_len, List.length_map]; omega), List.getElem?_eq_none (by omega)]; rfl
theorem qP_nu (P : List (I3 × Int)) (d : I3) (c : Int) : (qP (P.map Prod.fst) d).map (fun p => (p.1, nuF (P.map Prod.snd) c p)) = putK Prod.fst P (d, c) := by
  have e := putK_map (key := Prod.fst) (key2 := Prod.fst) (f := fun p : I3 × Int => (p.1, nuF (P.map Prod.snd) c p)) (fun _ => rfl) (zpL (P.map Prod.fst)) (d, -1)
  rw [zp_nu] at e
  exact e
theorem pf_yes {ids more : List I3} {k : Nat} (hk : k < more.length) (h : (more.take (k + 1)).all mayR = true) : (qP ((pfN ids more k).map Prod.fst) more[k]).map (nuF ((pfN ids more k).map Prod.snd) (100 + (k : Int))) = (pfN ids more (k + 1)).map Prod.snd ∧ (qP ((pfN ids more k).map Prod.fst) more[k]).map Prod.fst = (pfN ids more (k + 1)).map Prod.fst := by
  have e := qP_nu (pfN ids more k) more[k] (100 + (k : Int))
  rw [pfN, if_pos h, gI hk]
  rw [← e, List.map_map, List.map_map]
  exact ⟨rfl, rfl⟩
theorem qP_rng {l : List I3} {i : I3} : ∀ p ∈ qP l i, p.2 = -1 ∨ ∃ q : Nat, q < l.length ∧ p.2 = (q : Int) := fun p hp => by
  have h1 := (less_subl Prod.fst _).subset hp
  have h2 : p = (i, -1) ∨ p ∈ zpL l := by
    unfold insK at h1
    rcases List.mem_append.1 h1 with h2 | h2
    · exact .inr (List.mem_of_mem_take h2)
    · rcases List.mem_cons.1 h2 with h2 | h2
      · exact .inl h2
      · exact .inr (List.mem_of_mem_drop h2)
  rcases h2 with rfl | h2
  · exact .inl rfl
  · unfold zpL at h2
    obtain ⟨q, hq, rfl⟩ := List.mem_map.1 h2
    exact .inr ⟨q, by simpa using hq, rfl⟩
def mkO : Option Mk → List D
  | some m => mkC m
  | none => [.val (.int .u64 0), .val (.int .i64 0), .val (.int .u64 0), .val (.pointer none)]
theorem mkO_len : ∀ m, (mkO m).length = 4
  | some _ => rfl
  | none => rfl
theorem mkO_nl : ∀ m, D.nlL (mkO m) = true
  | some _ => rfl
  | none => rfl
def spM (l : List Mk) (k : Nat) : List (Option Mk) := List.replicate k none ++ (l.drop k).map some
theorem spM_len {l : List Mk} {k : Nat} (h : k ≤ l.length) : (spM l k).length = l.length := by simp [spM]; omega
theorem spM_0 (l : List Mk) : (spM l 0).flatMap mkO = l.flatMap mkC := by
  rw [spM, List.replicate_zero, List.nil_append, List.drop_zero, List.flatMap_map]
  rfl
theorem spM_set {l : List Mk} {k : Nat} (h : k < l.length) : (spM l k).set k none = spM l (k + 1) := by
  unfold spM
  rw [List.set_append_right _ _ (by simp), List.length_replicate, Nat.sub_self, List.drop_eq_getElem_cons h, List.map_cons, za, List.replicate_succ', List.append_assoc]
  rfl
theorem sp_nl (l : List (Option Mk)) : D.nlL (l.flatMap mkO) = true := nlL_flat mkO_nl l
def knM (m : Mk) : I3 × List TL := (m.i, m.ts)
theorem rowM_kn (ids : List I3) (b : Int) : (rowM ids b).map knM = (List.range ids.length).map fun (k : Nat) => (ids.getD k zI3, pnT (b + (k : Int))) := by unfold rowM; rw [List.map_map]; rfl
theorem ptL_kn {ids more : List I3} : ∀ k, k ≤ more.length → (more.take k).all mayR = true → (ptL (rowM ids 0) ((rowM more 100).take k)).map knM = (pfN ids more k).map fun p => (p.1, pnT p.2)
  | 0, _, _ => by
    show (rowM ids 0).map knM = _
    rw [rowM_kn, pfN, zpL, List.map_map]
    refine List.map_congr_left fun k _ => ?_
    show (ids.getD k zI3, pnT (0 + (k : Int))) = (ids.getD k zI3, pnT (k : Int))
    rw [Int.zero_add]
  | k + 1, hk, hg => by
    have hg2 := hg
    rw [List.take_succ_eq_append_getElem (by omega), List.all_append, Bool.and_eq_true] at hg2
    have ih := ptL_kn (ids := ids) k (by omega) hg2.1
    rw [ptL_take (by rw [rowM_len]; omega), pfN, if_pos hg]
    have e1 := putK_map (key := Mk.i) (key2 := Prod.fst) (f := knM) (fun _ => rfl) (ptL (rowM ids 0) ((rowM more 100).take k)) ((rowM more 100)[k]'(by rw [rowM_len]; omega))
    have e2 := putK_map (key := Prod.fst) (key2 := Prod.fst) (f := fun p : I3 × Int => (p.1, pnT p.2)) (fun _ => rfl) (pfN ids more k) (more.getD k zI3, 100 + (k : Int))
    rw [ih] at e1
    refine e1.trans (e2.trans ?_).symm
    rw [rowM_at]
    rfl
theorem puts_show {ids more : List I3} (hr : okI ids) (hl : ids.length ≤ 6) (hg : more.all mayR = true) : okI (idsK (ptL (rowM ids 0) (rowM more 100))) ∧ (ptL (rowM ids 0) (rowM more 100)).length ≤ 6 ∧ shB (ptL (rowM ids 0) (rowM more 100)) ((pfN ids more more.length).map Prod.fst) ((pfN ids more more.length).map Prod.snd) = true := by
  have h0 : okI (idsK (rowM ids 0)) := by rw [rowM_ids]; exact hr
  obtain ⟨h1, h2⟩ := h0.ptL (by rw [rowM_len]; exact hl) (rowM more 100) (by rw [rowM_all]; exact hg)
  have h3 := ptL_kn (ids := ids) (more := more) more.length (Nat.le_refl _) (by rw [List.take_length]; exact hg)
  rw [List.take_of_length_le (by rw [rowM_len]; exact Nat.le_refl _)] at h3
  refine ⟨h1, h2, ?_⟩
  unfold shB
  have e1 : idsC (ptL (rowM ids 0) (rowM more 100)) = (pfN ids more more.length).map Prod.fst := by
    rw [idsC_ok h1 h2]
    have := congrArg (List.map Prod.fst) h3
    rw [List.map_map, List.map_map] at this
    exact this
  have e2 : tsK (ptL (rowM ids 0) (rowM more 100)) = tsN ((pfN ids more more.length).map Prod.snd) := by
    have := congrArg (List.map Prod.snd) h3
    rw [List.map_map, List.map_map] at this
    rw [tsN, List.map_map]
    exact this
  rw [decide_eq_true e1, decide_eq_true e2]; rfl
theorem row0 {ids : List I3} {k : Nat} (h : k < (rowM ids 0).length) : (rowM ids 0)[k].i = ids.getD k zI3 ∧ (rowM ids 0)[k].ts = pnT (k : Int) := by
  rw [rowM_at]
  exact ⟨rfl, by show pnT (0 + (k : Int)) = _; rw [Int.zero_add]⟩
theorem from0 {ids : List I3} : fromN 0 ids.length = (zpL ids).map Prod.snd := by
  unfold fromN zpL
  rw [List.map_map]
  refine List.map_congr_left fun k _ => ?_
  exact Int.zero_add _
set_option maxRecDepth 4000 in
set_option maxHeartbeats 1000000 in
theorem isMark_n : DFun Try.prog 42 [.val (.agg #[.int .u64 1, .int .i64 1, .int .u64 1, .pointer none])] [] (.val (.bool false)) [] := by
  refine zao (N := 12) 0 (by kernel_rfl) Try.func42 rfl rfl rfl (by simp only [fr0, Nat.zero_add, Nat.reduceAdd]; exact rfl) rfl fun s0 hs0 => ?_
  refine zae ?_
  refine zak 1 (by simp only [holes, List.cons_append, List.nil_append]; exact rfl) ?_
  refine zad ?_
  refine zan rfl rfl rfl (op_boxa 0 rfl (ev1 rfl) rfl) (by simp only [upd, za, zaa]; exact rfl) ?_
  refine zab rfl rfl rfl (zac (.inr rfl) (ev1 rfl)) ?_
  refine zaf ?_
  refine zae ?_
  refine zad ?_
  refine zab rfl rfl rfl (op_fa rfl fo44_1 (ev1 rfl)) ?_
  refine zab rfl rfl rfl ((op_ldo rfl tb42 (ev1 rfl) rfl rfl).cast (d' := .val (.pointer none)) (by rfl)) ?_
  refine zab rfl rfl rfl (op_pnil0n rfl pt42 (ev1 rfl)) ?_
  refine zab rfl rfl rfl (zac (.inl rfl) (ev1 rfl)) ?_
  refine zaj (gd_t (b := false) rfl rfl rfl) rfl rfl rfl (dop_never (d := .junk)) ?_
  refine zaj (gd_t (b := false) rfl rfl rfl) rfl rfl rfl (dop_never (d := .junk)) ?_
  refine zaj (gd_t (b := false) rfl rfl rfl) rfl rfl rfl (dop_never (d := .junk)) ?_
  refine zaj (gd_t (b := false) rfl rfl rfl) rfl rfl rfl (dop_never (d := .val (.bool false))) ?_
  refine zab rfl rfl rfl ((op_and rfl (ev1 rfl) (ev3 rfl id)).cast (d' := .val (.bool false)) (by rfl)) ?_
  refine zab rfl rfl rfl (zac (.inr rfl) (ev1 rfl)) ?_
  refine zaf ?_
  refine dwp_ret ?_
  refine kend0 (rs1 rfl (rv_t rfl)) rfl ?_
  rfl
set_option maxRecDepth 4000 in
set_option maxHeartbeats 1000000 in
theorem stay_n : DFun Try.prog 41 [.slf 4 1 [.int .u64 1, .int .i64 1, .int .u64 1, .pointer none], .fn (.func 42) [] []] [] (.val (.slice none 0 0)) [] := by
  refine zao (N := 23) 0 (by kernel_rfl) Try.func41 rfl rfl rfl (by simp only [fr0, Nat.zero_add, Nat.reduceAdd]; exact rfl) rfl fun s0 hs0 => ?_
  refine dwp_len (t := 0) rfl fun hl0 hL0 => ?_
  refine zae ?_
  refine zad ?_
  refine zab rfl rfl rfl (zac (.inr rfl) (ev1 rfl)) ?_
  refine zaf ?_
  refine zae ?_
  refine zad ?_
  refine zab rfl rfl rfl (zac (.inr rfl) (ev1 rfl)) ?_
  refine zaf ?_
  refine zae ?_
  refine zae ?_
  refine zad ?_
  refine zab rfl rfl rfl (zac (.inl rfl) (ev1 rfl)) ?_
  refine zab rfl rfl rfl ((op_len rfl sl25 (ev1 rfl)).cast (d' := .val (.int .i64 1)) (by rfl)) ?_
  refine zab rfl rfl rfl (zac (.inl rfl) (ev1 rfl)) ?_
  refine zaf ?_
  refine zam ?_
  refine dwp_dloop (dloop_step ?_)
  refine zae ?_
  refine zad ?_
  refine zab rfl rfl rfl ((op_lss rfl (ev1 rfl) (ev1 rfl)).cast (d' := .val (.bool true)) (by kernel_rfl)) ?_
  refine zaf ?_
  refine zae ?_
  refine dwp_if_t rfl (rfl) ?_
  refine zal ?_
  refine zae ?_
  refine zam ?_
  refine zae ?_
  refine zak 1 (by simp only [holes, List.cons_append, List.nil_append]; exact rfl) ?_
  refine zad ?_
  refine zab rfl rfl rfl (op_ixsr (l := [()]) (en := fun _ => [.int .u64 1, .int .i64 1, .int .u64 1, .pointer none]) (j := 0) rfl sl25 (ev1 rfl) (ev1 rfl) (fun _ => rfl) (by decide) rfl (Nat.lt_of_succ_le (Nat.le_of_ble_eq_true rfl))) ?_
  refine zab rfl rfl rfl (op_ldwd rfl tb44 (ev1 rfl) rfl) ?_
  refine zan rfl rfl rfl (op_alloc 0 rfl zr44 rfl) (by simp only [upd, za, zaa]; exact rfl) ?_
  refine walk_s rfl rfl (op_stwa rfl tb44 (ev1 rfl) (ev1 rfl) rfl rfl rfl rfl) (by simp only [upd, za, zaa]; exact rfl) ?_
  refine zaf ?_
  refine zae ?_
  refine zad ?_
  refine zab rfl rfl rfl (zac (.inl rfl) (ev1 rfl)) ?_
  refine zab rfl rfl rfl (op_ldw rfl tb44 (ev1 rfl) rfl rfl) ?_
  refine zab rfl rfl rfl (zah [] [] [] rfl (ev1 rfl) (ec (ev1 rfl) en) rfl rfl (isMark_n) rfl rfl rfl rfl rfl rfl) ?_
  refine zaf ?_
  refine dwp_if_f rfl (rfl) ?_
  refine zal ?_
  refine zad ?_
  refine zab rfl rfl rfl ((op_add' rfl (ev1 rfl) (ev1 rfl) (fun _ => IntWalk.i64_in _ (by omega))).cast (d' := .val (.int .i64 1)) (by kernel_rfl)) ?_
  refine zab rfl rfl rfl (zac (.inl rfl) (ev1 rfl)) ?_
  refine zaf ?_
  refine dloop_step ?_
  refine zae ?_
  refine zad ?_
  refine zab rfl rfl rfl ((op_lss rfl (ev1 rfl) (ev1 rfl)).cast (d' := .val (.bool false)) (by kernel_rfl)) ?_
  refine zaf ?_
  refine zae ?_
  refine dwp_if_f rfl (rfl) ?_
  refine dwp_exit ?_
  refine zae ?_
  refine zad ?_
  refine zab rfl rfl rfl (zac (.inl rfl) (ev1 rfl)) ?_
  refine zab rfl rfl rfl (zac (.inr rfl) (ev1 rfl)) ?_
  refine zaf ?_
  refine dwp_ret ?_
  refine kend0 (rs1 rfl (rv_t rfl)) rfl ?_
  rfl
set_option maxRecDepth 4000 in
set_option maxHeartbeats 1000000 in
theorem ids_n : DFun Try.prog 40 [.slf 4 1 [.int .u64 1, .int .i64 1, .int .u64 1, .pointer none]] [] (.slf 3 ([⟨1, 1, 1⟩] : List I3).length (([⟨1, 1, 1⟩] : List I3).flatMap idc)) [] := by
  refine zao (N := 22) 0 (by kernel_rfl) Try.func40 rfl rfl rfl (by simp only [fr0, Nat.zero_add, Nat.reduceAdd]; exact rfl) rfl fun s0 hs0 => ?_
  refine dwp_len (t := 0) rfl fun hl0 hL0 => ?_
  refine zae ?_
  refine zad ?_
  refine zab rfl rfl rfl (zac (.inr rfl) (ev1 rfl)) ?_
  refine zaf ?_
  refine zae ?_
  refine zak 1 (by simp only [holes, List.cons_append, List.nil_append]; exact rfl) ?_
  refine zad ?_
  refine zab rfl rfl rfl (zac (.inl rfl) (ev1 rfl)) ?_
  refine zab rfl rfl rfl ((op_len rfl sl26 (ev1 rfl)).cast (d' := .val (.int .i64 1)) (by rfl)) ?_
  refine zan rfl rfl rfl (op_mk0 0 (1) rfl sl22 zr35 (ev1 rfl) (ev1 rfl) (fun _ => rfl) (fun _ => rfl) rfl (fun _ => by decide)) (by simp only [upd, za, zaa]; exact rfl) ?_
  refine zab rfl rfl rfl (zac (.inr rfl) (ev1 rfl)) ?_
  refine zaf ?_
  refine zae ?_
  refine zae ?_
  refine zad ?_
  refine zab rfl rfl rfl (zac (.inl rfl) (ev1 rfl)) ?_
  refine zab rfl rfl rfl ((op_len rfl sl26 (ev1 rfl)).cast (d' := .val (.int .i64 1)) (by rfl)) ?_
  refine zab rfl rfl rfl (zac (.inl rfl) (ev1 rfl)) ?_
  refine zaf ?_
  refine zam ?_
  refine dwp_dloop (dloop_step ?_)
  refine zae ?_
  refine zad ?_
  refine zab rfl rfl rfl ((op_lss rfl (ev1 rfl) (ev1 rfl)).cast (d' := .val (.bool true)) (by kernel_rfl)) ?_
  refine zaf ?_
  refine zae ?_
  refine dwp_if_t rfl (rfl) ?_
  refine zal ?_
  refine zae ?_
  refine zam ?_
  refine zae ?_
  refine zak 1 (by simp only [holes, List.cons_append, List.nil_append]; exact rfl) ?_
  refine zad ?_
  refine zab rfl rfl rfl (op_ixsr (l := [()]) (en := fun _ => [.int .u64 1, .int .i64 1, .int .u64 1, .pointer none]) (j := 0) rfl sl26 (ev1 rfl) (ev1 rfl) (fun _ => rfl) (by decide) rfl (Nat.lt_of_succ_le (Nat.le_of_ble_eq_true rfl))) ?_
  refine zab rfl rfl rfl (op_ldwd rfl tb44 (ev1 rfl) rfl) ?_
  refine zan rfl rfl rfl (op_alloc 1 rfl zr44 rfl) (by simp only [upd, za, zaa]; exact rfl) ?_
  refine walk_s rfl rfl (op_stwa rfl tb44 (ev1 rfl) (ev1 rfl) rfl rfl rfl rfl) (by simp only [upd, za, zaa]; exact rfl) ?_
  refine zaf ?_
  refine zak 2 (by simp only [holes, List.cons_append, List.nil_append]; exact rfl) ?_
  refine zad ?_
  refine zab rfl rfl rfl (zac (.inl rfl) (ev1 rfl)) ?_
  refine zab rfl rfl rfl (op_fa rfl fo44_0 (ev1 rfl)) ?_
  refine zab rfl rfl rfl (op_ldr rfl tb35 (ev1 rfl) rfl rfl rfl) ?_
  refine zan rfl rfl rfl (op_bsa (ps := [(0, .tmp 17)]) 2 rfl sl22 zr35 rfl (vc (ev1 rfl) vn) rfl (by decide) (by decide) rfl) (by simp only [upd, za, zaa]; exact rfl) ?_
  refine zan rfl rfl rfl (op_app (j := 3) rfl sl22 zr35 rfl (ev1 rfl) (ev1 rfl) (src_arr rfl) rfl rfl (fun _ => rfl) (fun _ => by decide)) (by simp only [upd, za, zaa]; exact rfl) ?_
  refine zab rfl rfl rfl (zac (.inr rfl) (ev1 rfl)) ?_
  refine zaf ?_
  refine zad ?_
  refine zab rfl rfl rfl ((op_add' rfl (ev1 rfl) (ev1 rfl) (fun _ => IntWalk.i64_in _ (by omega))).cast (d' := .val (.int .i64 1)) (by kernel_rfl)) ?_
  refine zab rfl rfl rfl (zac (.inl rfl) (ev1 rfl)) ?_
  refine zaf ?_
  refine dloop_step ?_
  refine zae ?_
  refine zad ?_
  refine zab rfl rfl rfl ((op_lss rfl (ev1 rfl) (ev1 rfl)).cast (d' := .val (.bool false)) (by kernel_rfl)) ?_
  refine zaf ?_
  refine zae ?_
  refine dwp_if_f rfl (rfl) ?_
  refine dwp_exit ?_
  refine zae ?_
  refine dwp_giveA 3 rfl rfl (by simp only [za, zaa]; exact rfl) ?_
  refine zad ?_
  refine zab rfl rfl rfl (zac (.inl rfl) (ev1 rfl)) ?_
  refine zab rfl rfl rfl (zac (.inr rfl) (ev1 rfl)) ?_
  refine zaf ?_
  refine dwp_ret ?_
  refine kend0 (rs1 rfl (rv_t rfl)) rfl ?_
  rfl
set_option maxRecDepth 4000 in
set_option maxHeartbeats 1000000 in
theorem mcheck_n : DFun Try.prog 12 [.slf 4 1 [.int .u64 1, .int .i64 1, .int .u64 1, .pointer none]] [] (.val (.int .i64 260)) [] := by
  refine zao (N := 20) 0 (by kernel_rfl) Try.func12 rfl rfl rfl (by simp only [fr0, Nat.zero_add, Nat.reduceAdd]; exact rfl) rfl fun s0 hs0 => ?_
  refine dwp_len (t := 0) rfl fun hl0 hL0 => ?_
  refine zae ?_
  refine zad ?_
  refine zab rfl rfl rfl (zac (.inr rfl) (ev1 rfl)) ?_
  refine zaf ?_
  refine zae ?_
  refine zae ?_
  refine zad ?_
  refine zab rfl rfl rfl (zac (.inl rfl) (ev1 rfl)) ?_
  refine zab rfl rfl rfl ((op_len rfl sl26 (ev1 rfl)).cast (d' := .val (.int .i64 1)) (by rfl)) ?_
  refine zab rfl rfl rfl ((op_gtr rfl (ev1 rfl) (ev1 rfl)).cast (d' := .val (.bool false)) (by kernel_rfl)) ?_
  refine zab rfl rfl rfl (zac (.inl rfl) (ev1 rfl)) ?_
  refine walk_k (gd_f (b := false) rfl rfl rfl) rfl rfl rfl (zac (.inl rfl) (ev1 rfl)) (by simp only [upd, za, zaa]; exact rfl) ?_
  refine walk_k (gd_f (b := false) rfl rfl rfl) rfl rfl rfl (zah [] [] [] rfl (ev1 rfl) (ec (ev2 rfl) en) rfl rfl (ids_n) rfl rfl rfl rfl rfl rfl) (by simp only [upd, za, zaa]; exact rfl) ?_
  refine walk_k (gd_f (b := false) rfl rfl rfl) rfl rfl rfl (zah [] [] [] rfl (ev1 rfl) (ec (ev2 rfl) en) rfl rfl (rising_d [⟨1, 1, 1⟩] (by decide)) rfl rfl rfl rfl rfl rfl) (by simp only [upd, za, zaa]; exact rfl) ?_
  refine walk_k (gd_f (b := false) rfl rfl rfl) rfl rfl rfl (op_not rfl (ev2 rfl)) (by simp only [upd, za, zaa]; exact rfl) ?_
  refine zab rfl rfl rfl (op_or rfl (ev1 rfl) (ev3 rfl (fun _ => rfl))) ?_
  refine zab rfl rfl rfl (zac (.inl rfl) (ev1 rfl)) ?_
  refine zaj (gd_f rfl rfl rfl) rfl rfl rfl (zac (.inl rfl) (ev1 rfl)) ?_
  refine zaj (gd_f rfl rfl rfl) rfl rfl rfl (zah [] [] [] rfl (ev1 rfl) (ec (ev2 rfl) (ec (ev1 rfl) en)) rfl rfl (stay_n) rfl rfl rfl rfl rfl rfl) ?_
  refine zaj (gd_f rfl rfl rfl) rfl rfl rfl (op_len rfl sl25 (evwk (ev2 rfl) (Wk.slf0 4))) ?_
  refine zaj (gd_f rfl rfl rfl) rfl rfl rfl (zac (.inl rfl) (ev1 rfl)) ?_
  refine zaj (gd_f rfl rfl rfl) rfl rfl rfl ((op_len rfl sl26 (ev2 rfl)).cast (d' := .val (.int .i64 1)) (by rfl)) ?_
  refine zaj (gd_f rfl rfl rfl) rfl rfl rfl ((op_lss rfl (ev2 rfl) (ev2 rfl)).cast (d' := .val (.bool true)) (by kernel_rfl)) ?_
  refine zab rfl rfl rfl (op_or rfl (ev1 rfl) (ev3 rfl id)) ?_
  refine zaf ?_
  refine dwp_if_t rfl (by rfl) ?_
  refine zae ?_
  refine zad ?_
  refine zab rfl rfl rfl (zac (.inr rfl) (ev1 rfl)) ?_
  refine zaf ?_
  refine dwp_ret ?_
  refine kend0 (rs1 rfl (rv_t rfl)) rfl ?_
  rfl
theorem chk_nil : chkM [] = true := by kernel_rfl
set_option maxRecDepth 4000 in
set_option maxHeartbeats 1000000 in
theorem mput_n : DFun Try.prog 16 [.slm 4 ([] : List Mk).length (([] : List Mk).flatMap mkC), .slf 4 1 [.int .u64 1, .int .i64 1, .int .u64 1, .pointer none]] [] (.tup [.val (.slice none 0 0), .val (.int .i64 260)]) [] := by
  refine zao (N := 37) 0 (by kernel_rfl) Try.func16 rfl rfl rfl (by simp only [fr0, Nat.zero_add, Nat.reduceAdd]; exact rfl) rfl fun s0 hs0 => ?_
  refine dwp_lenm (t := 0) rfl fun hl0 hL0 => ?_
  refine dwp_len (t := 1) rfl fun hl1 hL1 => ?_
  refine zae ?_
  refine zad ?_
  refine zab rfl rfl rfl (zac (.inr rfl) (ev1 rfl)) ?_
  refine zab rfl rfl rfl (zac (.inr rfl) (ev1 rfl)) ?_
  refine zaf ?_
  refine zae ?_
  refine zae ?_
  refine zad ?_
  refine zab rfl rfl rfl (zac (.inl rfl) (ev1 rfl)) ?_
  refine zab rfl rfl rfl (zah [] [] [] rfl (ev1 rfl) (ec (ev1 rfl) en) rfl rfl (mcheck_d [] (by decide)) rfl rfl rfl rfl rfl rfl) ?_
  refine zab rfl rfl rfl (op_neq rfl (ev1 rfl) (ev1 rfl)) ?_
  refine zab rfl rfl rfl (zac (.inl rfl) (ev1 rfl)) ?_
  refine zaj (gd_f rfl rfl rfl) rfl rfl rfl (zac (.inl rfl) (ev1 rfl)) ?_
  refine zaj (gd_f rfl rfl rfl) rfl rfl rfl (zah [] [] [] rfl (ev1 rfl) (ec (ev2 rfl) (ec (ev1 rfl) en)) rfl rfl (stay_n) rfl rfl rfl rfl rfl rfl) ?_
  refine zaj (gd_f rfl rfl rfl) rfl rfl rfl (op_len rfl sl25 (evwk (ev2 rfl) (Wk.slf0 4))) ?_
  refine zaj (gd_f rfl rfl rfl) rfl rfl rfl (zac (.inl rfl) (ev1 rfl)) ?_
  refine zaj (gd_f rfl rfl rfl) rfl rfl rfl ((op_len rfl sl25 (ev2 rfl)).cast (d' := .val (.int .i64 1)) (by rfl)) ?_
  refine zaj (gd_f rfl rfl rfl) rfl rfl rfl ((op_lss rfl (ev2 rfl) (ev2 rfl)).cast (d' := .val (.bool true)) (by kernel_rfl)) ?_
  refine zab rfl rfl rfl (op_or rfl (ev1 rfl) (ev3 rfl id)) ?_
  refine zaf ?_
  refine dwp_if_t rfl (by rw [chk_nil]; rfl) ?_
  refine zae ?_
  refine zad ?_
  refine zab rfl rfl rfl (zac (.inr rfl) (ev1 rfl)) ?_
  refine zab rfl rfl rfl (zac (.inr rfl) (ev1 rfl)) ?_
  refine zaf ?_
  refine dwp_ret ?_
  refine kend0 (rs2 rfl (rv_t rfl) (rv_t rfl)) rfl ?_
  rfl
end Go.Proofs.Ytmpodnadoebclaa
namespace Go.Proofs.Ytmpodnadoebclaa
set_option maxRecDepth 4000
set_option linter.unusedVariables false
set_option linter.unusedSimpArgs false
open Go.RowKit
attribute [local irreducible] rowM pfN zpL
theorem un4 : Try.prog.underlying 4 = some .bool := by kernel_rfl
set_option maxRecDepth 4000 in
set_option maxHeartbeats 1000000 in
theorem lputs_d (x y : List I3) : DFun Try.prog 3 [.slf 3 x.length (x.flatMap idc), .slf 3 y.length (y.flatMap idc)] [] (.val (.bool true)) [] := by
  refine zao (N := 178) 0 (by kernel_rfl) Try.func3 rfl rfl rfl (by simp only [fr0, Nat.zero_add, Nat.reduceAdd]; exact rfl) rfl fun s0 hs0 => ?_
  refine dwp_len (t := 0) rfl fun hl0 hL0 => ?_
  refine dwp_len (t := 1) rfl fun hl1 hL1 => ?_
  refine zae ?_
  refine zad ?_
  refine zab rfl rfl rfl (zac (.inr rfl) (ev1 rfl)) ?_
  refine zaf ?_
  refine zae ?_
  refine zae ?_
  refine zad ?_
  refine zab rfl rfl rfl (zah [] [] [] rfl (ev1 rfl) en rfl rfl (wakes_d) rfl rfl rfl rfl rfl rfl) ?_
  refine zab rfl rfl rfl ((op_not rfl (ev1 rfl)).cast (d' := .val (.bool false)) (by kernel_rfl)) ?_
  refine zaf ?_
  refine dwp_if_f rfl (rfl) ?_
  refine zal ?_
  refine zae ?_
  refine zad ?_
  refine zab rfl rfl rfl (zac (.inl rfl) (ev1 rfl)) ?_
  refine zab rfl rfl rfl (zah [] [] [] rfl (ev1 rfl) (ec (ev1 rfl) (ec (ev1 rfl) en)) rfl rfl (few_d x 8 (by decide)) rfl rfl rfl rfl rfl rfl) ?_
  refine zab rfl rfl rfl (zac (.inl rfl) (ev1 rfl)) ?_
  refine zab rfl rfl rfl (zah [] [] [] rfl (ev1 rfl) (ec (ev1 rfl) (ec (ev1 rfl) en)) rfl rfl (few_d y 6 (by decide)) rfl rfl rfl rfl rfl rfl) ?_
  refine zab rfl rfl rfl (zac (.inr rfl) (ev1 rfl)) ?_
  refine zab rfl rfl rfl (zac (.inr rfl) (ev1 rfl)) ?_
  refine zaf ?_
  refine zae ?_
  have h6 : (x.take 8).length ≤ 8 := by rw [List.length_take]; omega
  have h60 : (y.take 6).length ≤ 6 := by rw [List.length_take]; omega
  generalize x.take 8 = ids at h6 ⊢
  generalize y.take 6 = more at h60 ⊢
  have hcr : chkM (rowM ids 0) = rtB ids := by rw [chk_rt, rowM_ids]
  refine zad ?_
  refine zab rfl rfl rfl (zac (.inl rfl) (ev1 rfl)) ?_
  refine zab rfl rfl rfl (zah [] [] [] rfl (ev1 rfl) (ec (ev1 rfl) (ec (ev1 rfl) en)) rfl rfl (row_d ids 0 (by omega) (by decide)) rfl rfl rfl rfl rfl rfl) ?_
  refine zab rfl rfl rfl (zac (.inr rfl) (ev1 rfl)) ?_
  refine zaf ?_
  refine zae ?_
  refine zad ?_
  refine zab rfl rfl rfl (zac (.inl rfl) (ev1 rfl)) ?_
  refine zab rfl rfl rfl (zah [] [] [] rfl (ev1 rfl) (ec (ev1 rfl) en) rfl rfl (rright_d _) rfl rfl rfl rfl rfl rfl) ?_
  refine zab rfl rfl rfl (zac (.inr rfl) (ev1 rfl)) ?_
  refine zaf ?_
  refine zae ?_
  refine zae ?_
  refine zad ?_
  refine zab rfl rfl rfl (zac (.inl rfl) (ev1 rfl)) ?_
  refine zab rfl rfl rfl (zah [] [] [] rfl (ev1 rfl) (ec (ev1 rfl) en) rfl rfl (mcheck_d (rowM ids 0) (by rw [rowM_len]; omega)) rfl rfl rfl rfl rfl rfl) ?_
  refine zab rfl rfl rfl (zac (.inr rfl) (ev1 rfl)) ?_
  refine zaf ?_
  refine zae ?_
  refine zad ?_
  refine zab rfl rfl rfl (zac (.inl rfl) (ev1 rfl)) ?_
  refine zab rfl rfl rfl (op_eql rfl (ev1 rfl) (ev1 rfl)) ?_
  refine zab rfl rfl rfl (zac (.inl rfl) (ev1 rfl)) ?_
  refine zab rfl rfl rfl (op_neb rfl un4 (ev1 rfl) (ev1 rfl)) ?_
  refine zab rfl rfl rfl (zac (.inl rfl) (ev1 rfl)) ?_
  refine zaj (gd_f rfl rfl rfl) rfl rfl rfl (zac (.inl rfl) (ev1 rfl)) ?_
  refine zaj (gd_f rfl rfl rfl) rfl rfl rfl (op_neq rfl (ev2 rfl) (ev1 rfl)) ?_
  refine zaj (gd_f rfl rfl rfl) rfl rfl rfl (zac (.inl rfl) (ev2 rfl)) ?_
  refine zaj (gd_tt rfl rfl rfl) rfl rfl rfl (zac (.inl rfl) (ev1 rfl)) ?_
  refine zaj (gd_tt rfl rfl rfl) rfl rfl rfl (op_neq rfl (ev2 rfl) (ev1 rfl)) ?_
  refine zaj (gd_f rfl rfl rfl) rfl rfl rfl (op_and rfl (ev2 rfl) (ev2 rfl)) ?_
  refine zab rfl rfl rfl (op_or rfl (ev1 rfl) (ev3 rfl id)) ?_
  refine zaf ?_
  refine dwp_if_f rfl (by rw [hcr]; cases rtB ids <;> rfl) ?_
  refine zal ?_
  refine zae ?_
  refine zad ?_
  refine zab rfl rfl rfl (zac (.inl rfl) (ev1 rfl)) ?_
  refine zab rfl rfl rfl (op_len rfl sl22 (ev1 rfl)) ?_
  refine zab rfl rfl rfl (zah [] [] [] rfl (ev1 rfl) (ec (ev1 rfl) (ec (ev1 rfl) en)) rfl rfl (from_d 0 ids.length (by omega) (by decide)) rfl rfl rfl rfl rfl rfl) ?_
  refine zab rfl rfl rfl (zac (.inl rfl) (ev1 rfl)) ?_
  refine zab rfl rfl rfl (zac (.inr rfl) (ev1 rfl)) ?_
  refine zab rfl rfl rfl (zac (.inr rfl) (ev1 rfl)) ?_
  refine zaf ?_
  refine zae ?_
  by_cases hr : rtB ids = true
  · obtain ⟨hl6, hok⟩ := rtB_ok.1 hr
    rw [from0]
    refine zad ?_
    refine zab rfl rfl rfl (zac (.inr rfl) (ev1 rfl)) ?_
    refine zaf ?_
    refine zae ?_
    refine zae ?_
    refine zad ?_
    refine zab rfl rfl rfl (zac (.inl rfl) (ev1 rfl)) ?_
    refine zab rfl rfl rfl (op_not rfl (ev1 rfl)) ?_
    refine zaf ?_
    refine dwp_if_f rfl (by rw [hr]; rfl) ?_
    refine zal ?_
    refine zae ?_
    refine zae ?_
    refine zad ?_
    refine zab rfl rfl rfl (zac (.inl rfl) (ev1 rfl)) ?_
    refine zab rfl rfl rfl (op_len rfl sl22 (ev1 rfl)) ?_
    refine zab rfl rfl rfl (zac (.inl rfl) (ev1 rfl)) ?_
    refine zaf ?_
    refine zam ?_
    refine dwp_loopS ⟨hs0, rfl⟩ (α := Nat) (fun k => [(10, .slf 1 ((pfN ids more k).map Prod.snd).length (((pfN ids more k).map Prod.snd).flatMap inI)), (11, .slf 3 ((pfN ids more k).map Prod.fst).length (((pfN ids more k).map Prod.fst).flatMap idc)), (12, .val (.int .i64 (errOr ((more.take (k)).all mayR) 260))), (59, .val (.int .i64 (k : Int)))]) [(5, _), (6, _), (7, _), (57, _), (58, _)] (fun k => []) [] (fun k => k ≤ more.length) (fun k => more.length - k) 0 [] (Nat.zero_le _) rfl ⟨rfl, rfl, rfl, rfl, rfl, trivial⟩ ⟨by unfold pfN; rfl, by unfold pfN; rw [zp_fst]; rfl, rfl, rfl, trivial⟩ trivial ?_
    intro k hx
    simp only [upd, za, zaa, List.cons_append, List.nil_append]
    have hk := hx
    refine zae ?_
    refine zad ?_
    refine zab rfl rfl rfl (op_lss rfl (ev1 rfl) (ev1 rfl)) ?_
    refine zaf ?_
    refine zae ?_
    refine dwp_cond rfl (fun c4 => ?_) (fun c4 => ?_)
    · try simp only [decide_eq_true_eq, decide_eq_false_iff_not, beq_iff_eq, bne_iff_ne, beq_eq_false_iff_ne, bne_eq_false_iff_eq, Bool.not_eq_true', Bool.not_eq_false', Bool.and_eq_true, Bool.or_eq_true, Bool.or_eq_false_iff, ne_eq, Decidable.not_not, Int.not_lt, Int.not_le] at c4
      refine zal ?_
      refine zae ?_
      refine zam ?_
      refine zae ?_
      refine zak 1 (by simp only [holes, List.cons_append, List.nil_append]; exact rfl) ?_
      refine zad ?_
      refine zab rfl rfl rfl (zac (.inl rfl) (ev1 rfl)) ?_
      refine zab rfl rfl rfl (op_ixsr (j := k) rfl sl22 (ev1 rfl) (ev1 rfl) (fun _ => rfl) (by decide) (by omega) (by omega)) ?_
      refine zab rfl rfl rfl (op_ldwd rfl tb35 (ev1 rfl) rfl) ?_
      refine zan rfl rfl rfl (op_alloc 0 rfl zr35 rfl) (by simp only [upd, za, zaa]; exact rfl) ?_
      refine zab rfl rfl rfl (zac (.inr rfl) (ev1 rfl)) ?_
      refine walk_s rfl rfl (op_stwa rfl tb35 (ev1 rfl) (ev1 rfl) rfl rfl rfl rfl) (by simp only [upd, za, zaa]; exact rfl) ?_
      refine zaf ?_
      refine zae ?_
      refine zae ?_
      refine zad ?_
      refine zab rfl rfl rfl (op_ldw rfl tb35 (ev1 rfl) rfl rfl) ?_
      refine zab rfl rfl rfl (zah [] [] [] rfl (ev1 rfl) (ec (ev1 rfl) en) rfl rfl (refRight_d _) rfl rfl rfl rfl rfl rfl) ?_
      refine zab rfl rfl rfl (op_not rfl (ev1 rfl)) ?_
      refine zaf ?_
      refine dwp_cond rfl (fun c1 => ?_) (fun c1 => ?_)
      · have hmd : mayR more[k] = false := bn_t c1
        have hgn : ((more.take (k + 1)).all mayR) = false := by rw [List.take_succ_eq_append_getElem (by omega), List.all_append, List.all_cons, hmd]; simp
        refine zad ?_
        refine zab rfl rfl rfl (zac (.inr rfl) (ev1 rfl)) ?_
        refine zaf ?_
        refine zae ?_
        refine zae ?_
        refine zad ?_
        refine zab rfl rfl rfl (zac (.inl rfl) (ev1 rfl)) ?_
        refine zab rfl rfl rfl ((op_neq rfl (ev1 rfl) (ev1 rfl)).cast (d' := .val (.bool true)) (by kernel_rfl)) ?_
        refine zaf ?_
        refine dwp_if_t rfl (by rfl) ?_
        refine dwp_exit ?_
        refine zad ?_
        refine zab rfl rfl rfl (op_add' rfl (ev1 rfl) (ev1 rfl) (fun _ => IntWalk.i64_in _ (by omega))) ?_
        refine zab rfl rfl rfl (zac (.inl rfl) (ev1 rfl)) ?_
        refine zaf ?_
        refine ⟨k + 1, [], by omega, by simp only []; omega, rfl, ⟨by rw [pf_no hgn]; rfl, by rw [pf_no hgn]; rfl, by rw [hgn]; rfl, rfl, rfl, rfl, rfl, rfl, rfl, trivial⟩, trivial⟩
      · have hmd : mayR more[k] = true := bn_f c1
        have hgs : ((more.take (k + 1)).all mayR) = ((more.take (k)).all mayR) := by rw [List.take_succ_eq_append_getElem (by omega), List.all_append, List.all_cons, hmd]; simp
        refine zal ?_
        refine zae ?_
        refine zae ?_
        refine zad ?_
        refine zab rfl rfl rfl (zac (.inl rfl) (ev1 rfl)) ?_
        refine zab rfl rfl rfl (op_neq rfl (ev1 rfl) (ev1 rfl)) ?_
        refine zaf ?_
        refine dwp_cond rfl (fun c2 => ?_) (fun c2 => ?_)
        · have hgk : ((more.take (k)).all mayR) = false := by
            cases g : ((more.take (k)).all mayR) with
            | false => rfl
            | true => rw [g] at c2; simp [errOr] at c2
          have hgn : ((more.take (k + 1)).all mayR) = false := by rw [hgs, hgk]
          refine dwp_exit ?_
          refine zad ?_
          refine zab rfl rfl rfl (op_add' rfl (ev1 rfl) (ev1 rfl) (fun _ => IntWalk.i64_in _ (by omega))) ?_
          refine zab rfl rfl rfl (zac (.inl rfl) (ev1 rfl)) ?_
          refine zaf ?_
          refine ⟨k + 1, [], by omega, by simp only []; omega, rfl, ⟨by rw [pf_no hgn]; rfl, by rw [pf_no hgn]; rfl, by rw [hgn, hgk]; rfl, rfl, rfl, rfl, rfl, rfl, rfl, trivial⟩, trivial⟩
        · have hgk : ((more.take (k)).all mayR) = true := by
            cases g : ((more.take (k)).all mayR) with
            | true => rfl
            | false => rw [g] at c2; simp [errOr] at c2
          have hgy : ((more.take (k + 1)).all mayR) = true := by rw [hgs, hgk]
          obtain ⟨q1, q2⟩ := pf_ids ids more k (by omega) hgk hok hl6
          obtain ⟨hp1, hp2⟩ := pf_yes (ids := ids) (more := more) (by omega) hgy
          have hql : ((pfN ids more k).map Prod.fst).length ≤ 6 := by rw [List.length_map]; exact q2
          have hqo := (q1.put hql hmd).2
          rw [← qP_ids, List.length_map] at hqo
          refine zal ?_
          refine zae ?_
          refine zad ?_
          refine zab rfl rfl rfl (zac (.inl rfl) (ev1 rfl)) ?_
          refine zab rfl rfl rfl (op_ldw rfl tb35 (ev1 rfl) rfl rfl) ?_
          refine zab rfl rfl rfl (zah [] [] [] rfl (ev1 rfl) (ec (ev1 rfl) (ec (ev1 rfl) en)) rfl rfl (rput_d ((pfN ids more k).map Prod.fst) more[k] hql q1 hmd) rfl rfl rfl rfl rfl rfl) ?_
          refine zab rfl rfl rfl (zac (.inl rfl) (ev1 rfl)) ?_
          refine zab rfl rfl rfl (op_ext rfl (ev1 rfl) rfl) ?_
          refine zab rfl rfl rfl (op_ext rfl (ev1 rfl) rfl) ?_
          refine zab rfl rfl rfl (zac (.inr rfl) (ev1 rfl)) ?_
          refine zab rfl rfl rfl (zac (.inr rfl) (ev1 rfl)) ?_
          refine zaf ?_
          refine zae ?_
          refine zad ?_
          refine zab rfl rfl rfl (zac (.inr rfl) (ev1 rfl)) ?_
          refine zaf ?_
          refine zae ?_
          refine zae ?_
          refine zad ?_
          refine zab rfl rfl rfl (zac (.inl rfl) (ev1 rfl)) ?_
          refine zab rfl rfl rfl (op_len rfl sl31 (ev1 rfl)) ?_
          refine zab rfl rfl rfl (zac (.inl rfl) (ev1 rfl)) ?_
          refine zaf ?_
          refine zam ?_
          refine dwp_adopt 17 3 1 rfl rfl rfl ?_
          refine dwp_loopS ⟨hs0, rfl⟩ (α := Nat) (fun j => [(77, .val (.int .i64 (j : Int)))]) [(5, _), (6, _), (7, _), (10, _), (12, _), (13, _), (16, _), (17, _), (57, _), (58, _), (59, _), (75, _), (76, _)] (fun j => [(1, .arr 3 1 ((((qP ((pfN ids more k).map Prod.fst) more[k]).take j).map (nuF ((pfN ids more k).map Prod.snd) (100 + (k : Int))))).length (((((qP ((pfN ids more k).map Prod.fst) more[k]).take j).map (nuF ((pfN ids more k).map Prod.snd) (100 + (k : Int))))).flatMap inI))]) [_, .hole] (fun j => j ≤ (qP ((pfN ids more k).map Prod.fst) more[k]).length) (fun j => ((qP ((pfN ids more k).map Prod.fst) more[k]).map Prod.snd).length - j) 0 [0, 1] (Nat.zero_le _) rfl ⟨rfl, rfl, rfl, rfl, rfl, rfl, rfl, rfl, rfl, rfl, rfl, rfl, rfl, trivial⟩ ⟨rfl, trivial⟩ ⟨rfl, rfl, trivial⟩ ?_
          intro j hx
          simp only [upd, za, zaa, List.cons_append, List.nil_append]
          have hj := hx
          have hjm : ((qP ((pfN ids more k).map Prod.fst) more[k]).map Prod.snd).length = (qP ((pfN ids more k).map Prod.fst) more[k]).length := List.length_map _
          have htl : (((qP ((pfN ids more k).map Prod.fst) more[k]).take j).map (nuF ((pfN ids more k).map Prod.snd) (100 + (k : Int)))).length = j := by rw [List.length_map, List.length_take]; omega
          refine zae ?_
          refine zad ?_
          refine zab rfl rfl rfl (op_lss rfl (ev1 rfl) (ev1 rfl)) ?_
          refine zaf ?_
          refine zae ?_
          refine dwp_cond rfl (fun c8 => ?_) (fun c8 => ?_)
          · try simp only [decide_eq_true_eq, decide_eq_false_iff_not, beq_iff_eq, bne_iff_ne, beq_eq_false_iff_ne, bne_eq_false_iff_eq, Bool.not_eq_true', Bool.not_eq_false', Bool.and_eq_true, Bool.or_eq_true, Bool.or_eq_false_iff, ne_eq, Decidable.not_not, Int.not_lt, Int.not_le] at c8
            refine zal ?_
            refine zae ?_
            refine zam ?_
            refine zae ?_
            refine zad ?_
            refine zab rfl rfl rfl (op_ixsr (j := j) rfl sl31 (ev1 rfl) (ev1 rfl) (fun _ => rfl) (by decide) (by omega) (by omega)) ?_
            refine zab rfl rfl rfl (op_ldod rfl tb3 (ev1 rfl) rfl) ?_
            refine zab rfl rfl rfl (zac (.inr rfl) (ev1 rfl)) ?_
            refine zaf ?_
            refine zae ?_
            have hjl : j < (qP ((pfN ids more k).map Prod.fst) more[k]).length := by omega
            have hge : ((qP ((pfN ids more k).map Prod.fst) more[k]).map Prod.snd)[j]'(by omega) = ((qP ((pfN ids more k).map Prod.fst) more[k])[j]).2 := List.getElem_map _
            rw [hge]
            have hrg := qP_rng ((qP ((pfN ids more k).map Prod.fst) more[k])[j]) (List.getElem_mem hjl)
            refine zad ?_
            refine zab rfl rfl rfl (zac (.inl rfl) (ev1 rfl)) ?_
            refine zab rfl rfl rfl (op_lss rfl (ev1 rfl) (ev1 rfl)) ?_
            refine zaf ?_
            refine dwp_cond rfl (fun c3 => ?_) (fun c3 => ?_)
            · have hneg : ((qP ((pfN ids more k).map Prod.fst) more[k])[j]).2 < 0 := of_decide_eq_true c3
              have hnu : (nuF ((pfN ids more k).map Prod.snd) (100 + (k : Int))) ((qP ((pfN ids more k).map Prod.fst) more[k])[j]) = 100 + (k : Int) := if_pos hneg
              refine zak 2 (by simp only [holes, List.cons_append, List.nil_append]; exact rfl) ?_
              refine zad ?_
              refine zab rfl rfl rfl (zac (.inl rfl) (ev1 rfl)) ?_
              refine zab rfl rfl rfl (zac (.inl rfl) (ev1 rfl)) ?_
              refine zab rfl rfl rfl (op_add' rfl (ev1 rfl) (ev1 rfl) (fun _ => IntWalk.i64_in _ (by omega))) ?_
              refine zan rfl rfl rfl (op_bsa (ps := [(0, .tmp 85)]) 2 rfl sl31 zr3 rfl (vc (ev1 rfl) vn) rfl (by decide) (by decide) rfl) (by simp only [upd, za, zaa]; exact rfl) ?_
              refine zan rfl rfl rfl (op_app (j := 3) rfl sl31 zr3 rfl (ev1 rfl) (ev1 rfl) (src_arr rfl) rfl rfl (fun _ => rfl) (fun _ => ⟨by omega, by omega⟩)) (by simp only [upd, za, zaa]; exact rfl) ?_
              refine zab rfl rfl rfl (zac (.inr rfl) (ev1 rfl)) ?_
              refine zaf ?_
              refine zad ?_
              refine zab rfl rfl rfl (op_add' rfl (ev1 rfl) (ev1 rfl) (fun _ => IntWalk.i64_in _ (by omega))) ?_
              refine zab rfl rfl rfl (zac (.inl rfl) (ev1 rfl)) ?_
              refine zaf ?_
              refine ⟨j + 1, [0, 3], by omega, by simp only []; omega, rfl, ⟨rfl, rfl, rfl, rfl, rfl, rfl, rfl, rfl, rfl, rfl, rfl, rfl, rfl, rfl, trivial⟩, ⟨rfl, arr_eq (ap1 (en := inI) (f := (nuF ((pfN ids more k).map Prod.snd) (100 + (k : Int)))) (qP ((pfN ids more k).map Prod.fst) more[k])[j] (List.take_succ_eq_append_getElem (by omega)) hnu).1.symm (ap1 (en := inI) (f := (nuF ((pfN ids more k).map Prod.snd) (100 + (k : Int)))) (qP ((pfN ids more k).map Prod.fst) more[k])[j] (List.take_succ_eq_append_getElem (by omega)) hnu).2.symm, trivial⟩⟩
            · have hpos : ¬ ((qP ((pfN ids more k).map Prod.fst) more[k])[j]).2 < 0 := of_decide_eq_false c3
              obtain ⟨q, hq, hqe⟩ : ∃ q : Nat, q < ((pfN ids more k).map Prod.snd).length ∧ ((qP ((pfN ids more k).map Prod.fst) more[k])[j]).2 = (q : Int) := by
                rcases hrg with g | ⟨q, g1, g2⟩
                · omega
                · exact ⟨q, by rw [List.length_map] at g1 ⊢; exact g1, g2⟩
              have hnu : (nuF ((pfN ids more k).map Prod.snd) (100 + (k : Int))) ((qP ((pfN ids more k).map Prod.fst) more[k])[j]) = ((pfN ids more k).map Prod.snd)[q] := by
                unfold nuF
                rw [if_neg hpos, hqe, Int.toNat_natCast, List.getD_eq_getElem?_getD, List.getElem?_eq_getElem hq]; rfl
              refine zak 2 (by simp only [holes, List.cons_append, List.nil_append]; exact rfl) ?_
              refine zad ?_
              refine zab rfl rfl rfl (zac (.inl rfl) (ev1 rfl)) ?_
              refine zab rfl rfl rfl (zac (.inl rfl) (ev1 rfl)) ?_
              refine zab rfl rfl rfl (zac (.inl rfl) (ev1 rfl)) ?_
              refine zab rfl rfl rfl (op_ixsr (j := q) rfl sl31 (ev1 rfl) (ev1 rfl) (fun _ => rfl) (by decide) (hqe) (by omega)) ?_
              refine zab rfl rfl rfl (op_ldod rfl tb3 (ev1 rfl) rfl) ?_
              refine zan rfl rfl rfl (op_bsa (ps := [(0, .tmp 92)]) 2 rfl sl31 zr3 rfl (vc (ev1 rfl) vn) rfl (by decide) (by decide) rfl) (by simp only [upd, za, zaa]; exact rfl) ?_
              refine zan rfl rfl rfl (op_app (j := 3) rfl sl31 zr3 rfl (ev1 rfl) (ev1 rfl) (src_arr rfl) rfl rfl (fun _ => rfl) (fun _ => ⟨by omega, by omega⟩)) (by simp only [upd, za, zaa]; exact rfl) ?_
              refine zab rfl rfl rfl (zac (.inr rfl) (ev1 rfl)) ?_
              refine zaf ?_
              refine zad ?_
              refine zab rfl rfl rfl (op_add' rfl (ev1 rfl) (ev1 rfl) (fun _ => IntWalk.i64_in _ (by omega))) ?_
              refine zab rfl rfl rfl (zac (.inl rfl) (ev1 rfl)) ?_
              refine zaf ?_
              refine ⟨j + 1, [0, 3], by omega, by simp only []; omega, rfl, ⟨rfl, rfl, rfl, rfl, rfl, rfl, rfl, rfl, rfl, rfl, rfl, rfl, rfl, rfl, trivial⟩, ⟨rfl, arr_eq (ap1 (en := inI) (f := (nuF ((pfN ids more k).map Prod.snd) (100 + (k : Int)))) (qP ((pfN ids more k).map Prod.fst) more[k])[j] (List.take_succ_eq_append_getElem (by omega)) hnu).1.symm (ap1 (en := inI) (f := (nuF ((pfN ids more k).map Prod.snd) (100 + (k : Int)))) (qP ((pfN ids more k).map Prod.fst) more[k])[j] (List.take_succ_eq_append_getElem (by omega)) hnu).2.symm, trivial⟩⟩
          · try simp only [decide_eq_true_eq, decide_eq_false_iff_not, beq_iff_eq, bne_iff_ne, beq_eq_false_iff_ne, bne_eq_false_iff_eq, Bool.not_eq_true', Bool.not_eq_false', Bool.and_eq_true, Bool.or_eq_true, Bool.or_eq_false_iff, ne_eq, Decidable.not_not, Int.not_lt, Int.not_le] at c8
            refine dwp_exit ?_
            refine dwp_giveA 17 rfl rfl (by simp only [za, zaa]; exact rfl) ?_
            have hje : j = (qP ((pfN ids more k).map Prod.fst) more[k]).length := by omega
            rw [hje, List.take_length]
            refine zad ?_
            refine zab rfl rfl rfl (zac (.inl rfl) (ev1 rfl)) ?_
            refine zab rfl rfl rfl (zac (.inl rfl) (ev1 rfl)) ?_
            refine zab rfl rfl rfl (zac (.inr rfl) (ev1 rfl)) ?_
            refine zab rfl rfl rfl (zac (.inr rfl) (ev1 rfl)) ?_
            refine zaf ?_
            refine zad ?_
            refine zab rfl rfl rfl (op_add' rfl (ev1 rfl) (ev1 rfl) (fun _ => IntWalk.i64_in _ (by omega))) ?_
            refine zab rfl rfl rfl (zac (.inl rfl) (ev1 rfl)) ?_
            refine zaf ?_
            refine ⟨k + 1, [], by omega, by simp only []; omega, rfl, ⟨by rw [← hp1]; rfl, by rw [← hp2]; rfl, by rw [hgy, hgk]; rfl, rfl, rfl, rfl, rfl, rfl, rfl, trivial⟩, trivial⟩
    · try simp only [decide_eq_true_eq, decide_eq_false_iff_not, beq_iff_eq, bne_iff_ne, beq_eq_false_iff_ne, bne_eq_false_iff_eq, Bool.not_eq_true', Bool.not_eq_false', Bool.and_eq_true, Bool.or_eq_true, Bool.or_eq_false_iff, ne_eq, Decidable.not_not, Int.not_lt, Int.not_le] at c4
      refine dwp_exit ?_
      refine zae ?_
      by_cases hg : more.all mayR = true
      · have hke : k = more.length := by omega
        subst hke
        rw [List.take_length, hg]
        obtain ⟨n1, n2, n3⟩ := puts_show hok hl6 hg
        have hcl : chkM (rowM ids 0) = true := by rw [hcr]; exact hr
        refine zak 1 (by simp only [holes, List.cons_append, List.nil_append]; exact rfl) ?_
        refine zad ?_
        refine zab rfl rfl rfl (zac (.inl rfl) (ev1 rfl)) ?_
        refine zab rfl rfl rfl (zac (.inl rfl) (ev1 rfl)) ?_
        refine zab rfl rfl rfl (zah [] [] [] rfl (ev1 rfl) (ec (ev1 rfl) (ec (ev1 rfl) en)) rfl rfl (row_d more 100 (by omega) (by decide)) rfl rfl rfl rfl rfl rfl) ?_
        refine zan rfl rfl rfl (zah [] [] [0] rfl (ev1 rfl) (ec (ev1 rfl) (ec (ev1 rfl) en)) rfl rfl (mput_ok (rowM ids 0) (rowM more 100) (by rw [rowM_len]; omega) (by rw [rowM_len]; omega) hcl (by rw [rowM_all]; exact hg)) rfl rfl rfl (by exact (wrc (sb_arxr (mk_nl _)) rfl)) rfl rfl) (by simp only [upd, za, zaa]; exact rfl) ?_
        refine zab rfl rfl rfl (zac (.inl rfl) (ev1 rfl)) ?_
        refine zab rfl rfl rfl (op_ext rfl (ev1 rfl) rfl) ?_
        refine zab rfl rfl rfl (op_ext rfl (ev1 rfl) rfl) ?_
        refine zab rfl rfl rfl (zac (.inr rfl) (ev1 rfl)) ?_
        refine zab rfl rfl rfl (zac (.inr rfl) (ev1 rfl)) ?_
        refine zaf ?_
        refine zae ?_
        refine zae ?_
        refine zad ?_
        refine zab rfl rfl rfl (zac (.inl rfl) (ev1 rfl)) ?_
        refine zab rfl rfl rfl (zac (.inl rfl) (ev1 rfl)) ?_
        refine zab rfl rfl rfl (op_neq rfl (ev1 rfl) (ev1 rfl)) ?_
        refine zab rfl rfl rfl (zac (.inl rfl) (ev1 rfl)) ?_
        refine zaj (gd_f rfl rfl rfl) rfl rfl rfl (zac (.inl rfl) (ev1 rfl)) ?_
        refine zaj (gd_f rfl rfl rfl) rfl rfl rfl ((op_neq rfl (ev2 rfl) (ev1 rfl)).cast (d' := .val (.bool false)) (by kernel_rfl)) ?_
        refine zaj (gd_f rfl rfl rfl) rfl rfl rfl (zac (.inl rfl) (ev2 rfl)) ?_
        refine zaj (gd_tt rfl rfl rfl) rfl rfl rfl (zac (.inl rfl) (ev1 rfl)) ?_
        refine zaj (gd_tt rfl rfl rfl) rfl rfl rfl (op_lenx rfl sl26 (ev2 rfl) rfl) ?_
        refine zaj (gd_tt rfl rfl rfl) rfl rfl rfl (op_gtr rfl (ev2 rfl) (ev1 rfl)) ?_
        refine zaj (gd_f rfl rfl rfl) rfl rfl rfl ((op_and rfl (ev2 rfl) (ev2 rfl)).cast (d' := .val (.bool false)) (by rfl)) ?_
        refine zab rfl rfl rfl (op_or rfl (ev1 rfl) (ev3 rfl id)) ?_
        refine zab rfl rfl rfl (zac (.inl rfl) (ev1 rfl)) ?_
        refine zaj (gd_f rfl rfl rfl) rfl rfl rfl (zac (.inl rfl) (ev1 rfl)) ?_
        refine zaj (gd_f rfl rfl rfl) rfl rfl rfl ((op_eql rfl (ev2 rfl) (ev1 rfl)).cast (d' := .val (.bool true)) (by kernel_rfl)) ?_
        refine zaj (gd_f rfl rfl rfl) rfl rfl rfl (zac (.inl rfl) (ev2 rfl)) ?_
        refine zaj (gd_tt rfl rfl rfl) rfl rfl rfl (zac (.inl rfl) (ev1 rfl)) ?_
        refine zaj (gd_tt rfl rfl rfl) rfl rfl rfl (zac (.inl rfl) (ev1 rfl)) ?_
        refine zaj (gd_tt rfl rfl rfl) rfl rfl rfl (zac (.inl rfl) (ev1 rfl)) ?_
        refine zaj (gd_tt rfl rfl rfl) rfl rfl rfl (zah [] [0] [] rfl (ev1 rfl) (ec (ev2 rfl) (ec (ev2 rfl) (ec (ev2 rfl) en))) (vwL_cons' (vw_arrV rfl rfl rfl (by first | exact nlL_flat1 (fun _ => rfl) _ | exact nlL_flatR (fun _ => rfl) _)) (vwL_cons' rfl (vwL_cons' rfl rfl))) rfl (shows_d (ptL (rowM ids 0) (rowM more 100)) _ _ (by omega)) rfl rfl rfl rfl rfl rfl) ?_
        refine zaj (gd_tt rfl rfl rfl) rfl rfl rfl (op_not rfl (ev2 rfl)) ?_
        refine zaj (gd_f rfl rfl rfl) rfl rfl rfl (op_and rfl (ev2 rfl) (ev2 rfl)) ?_
        refine zab rfl rfl rfl (op_or rfl (ev1 rfl) (ev3 rfl id)) ?_
        refine zaf ?_
        refine dwp_if_f rfl (by rw [n3]; simp [errOr]) ?_
        refine zal ?_
        refine zae ?_
        refine zae ?_
        refine zad ?_
        refine zab rfl rfl rfl (zac (.inl rfl) (ev1 rfl)) ?_
        refine zab rfl rfl rfl (op_lenx rfl sl26 (ev1 rfl) rfl) ?_
        refine zab rfl rfl rfl (zac (.inl rfl) (ev1 rfl)) ?_
        refine zaf ?_
        refine zam ?_
        refine dwp_loopS ⟨hs0, rfl⟩ (α := Nat) (fun j => [(131, .val (.int .i64 (j : Int)))]) [(5, _), (7, _), (20, _), (130, _)] (fun j => [(0, .arx 44 4 (ptL (rowM ids 0) (rowM more 100)).length ((spM (ptL (rowM ids 0) (rowM more 100)) j).flatMap mkO))]) [.hole] (fun j => j ≤ (ptL (rowM ids 0) (rowM more 100)).length) (fun j => (ptL (rowM ids 0) (rowM more 100)).length - j) 0 [0] (Nat.zero_le _) rfl ⟨rfl, rfl, rfl, rfl, trivial⟩ ⟨rfl, trivial⟩ ⟨arxr_fits rfl (spM_0 _).symm (sp_nl _), trivial⟩ ?_
        intro j hx
        simp only [upd, za, zaa, List.cons_append, List.nil_append]
        have hj2 := hx
        refine zae ?_
        refine zad ?_
        refine zab rfl rfl rfl (op_lss rfl (ev1 rfl) (ev1 rfl)) ?_
        refine zaf ?_
        refine zae ?_
        refine dwp_cond rfl (fun c11 => ?_) (fun c11 => ?_)
        · try simp only [decide_eq_true_eq, decide_eq_false_iff_not, beq_iff_eq, bne_iff_ne, beq_eq_false_iff_ne, bne_eq_false_iff_eq, Bool.not_eq_true', Bool.not_eq_false', Bool.and_eq_true, Bool.or_eq_true, Bool.or_eq_false_iff, ne_eq, Decidable.not_not, Int.not_lt, Int.not_le] at c11
          refine zal ?_
          refine zae ?_
          refine zam ?_
          refine zae ?_
          refine zad ?_
          refine zab rfl rfl rfl (zac (.inl rfl) (ev1 rfl)) ?_
          refine zab rfl rfl rfl (zac (.inr rfl) (ev1 rfl)) ?_
          refine zaf ?_
          refine zad ?_
          refine zab rfl rfl rfl (zac (.inl rfl) (ev1 rfl)) ?_
          refine zab rfl rfl rfl (zac (.inl rfl) (ev1 rfl)) ?_
          refine zab rfl rfl rfl (op_build0 rfl fl44 zr44) ?_
          refine zab rfl rfl rfl (op_ixx (j) rfl sl26 (ev1 rfl) (ev1 rfl) rfl (fun _ => rfl) (fun _ => by omega)) ?_
          refine walk_s rfl rfl (op_stxr (mk := mkO) (j := j) (q := none) rfl tb44 (ev1 rfl) (evwk (ev1 rfl) (Wk.vagg _)) rfl mkO_len (by rw [spM_len (by omega)]; omega) rfl) (by simp only [upd, za, zaa]; exact rfl) ?_
          refine zaf ?_
          refine zad ?_
          refine zab rfl rfl rfl (op_add' rfl (ev1 rfl) (ev1 rfl) (fun _ => IntWalk.i64_in _ (by omega))) ?_
          refine zab rfl rfl rfl (zac (.inl rfl) (ev1 rfl)) ?_
          refine zaf ?_
          refine ⟨j + 1, [0], by omega, by simp only []; omega, rfl, ⟨rfl, rfl, rfl, rfl, rfl, trivial⟩, ⟨arxr_fits rfl (by rw [spM_set (by omega)]) (sp_nl _), trivial⟩⟩
        · try simp only [decide_eq_true_eq, decide_eq_false_iff_not, beq_iff_eq, bne_iff_ne, beq_eq_false_iff_ne, bne_eq_false_iff_eq, Bool.not_eq_true', Bool.not_eq_false', Bool.and_eq_true, Bool.or_eq_true, Bool.or_eq_false_iff, ne_eq, Decidable.not_not, Int.not_lt, Int.not_le] at c11
          refine dwp_exit ?_
          refine zae ?_
          refine zae ?_
          refine dwp_gone 0 (by simp only [za, zaa]; exact rfl) ?_
          refine zad ?_
          refine zab rfl rfl rfl (zac (.inl rfl) (ev1 rfl)) ?_
          refine zab rfl rfl rfl (op_lenm rfl sl26 (ev1 rfl)) ?_
          refine zab rfl rfl rfl (zac (.inl rfl) (ev1 rfl)) ?_
          refine zaf ?_
          refine zam ?_
          refine dwp_loopS ⟨hs0, rfl⟩ (α := Nat) (fun k => [(141, .val (.int .i64 (k : Int)))]) [(5, _), (139, _), (140, _)] (fun k => []) [_] (fun k => k ≤ (rowM ids 0).length) (fun k => (rowM ids 0).length - k) 0 [0] (Nat.zero_le _) rfl ⟨rfl, rfl, rfl, trivial⟩ ⟨rfl, trivial⟩ ⟨rfl, trivial⟩ ?_
          intro k hx
          simp only [upd, za, zaa, List.cons_append, List.nil_append]
          have hk3 := hx
          have hrl := rowM_len ids 0
          refine zae ?_
          refine zad ?_
          refine zab rfl rfl rfl (op_lss rfl (ev1 rfl) (ev1 rfl)) ?_
          refine zaf ?_
          refine zae ?_
          refine dwp_cond rfl (fun c12 => ?_) (fun c12 => ?_)
          · try simp only [decide_eq_true_eq, decide_eq_false_iff_not, beq_iff_eq, bne_iff_ne, beq_eq_false_iff_ne, bne_eq_false_iff_eq, Bool.not_eq_true', Bool.not_eq_false', Bool.and_eq_true, Bool.or_eq_true, Bool.or_eq_false_iff, ne_eq, Decidable.not_not, Int.not_lt, Int.not_le] at c12
            refine zal ?_
            refine zae ?_
            refine zam ?_
            refine zae ?_
            refine zak 1 (by simp only [holes, List.cons_append, List.nil_append]; exact rfl) ?_
            refine zad ?_
            refine zab rfl rfl rfl (zac (.inl rfl) (ev1 rfl)) ?_
            refine zab rfl rfl rfl (op_ixmr (k) (by decide) rfl sl26 (ev1 rfl) (ev1 rfl) (fun _ => rfl) (by omega) (fun _ => rfl)) ?_
            refine zab rfl rfl rfl (op_lddr rfl tb44 (ev1 rfl) rfl rfl) ?_
            refine zan rfl rfl rfl (op_alloc 1 rfl zr44 rfl) (by simp only [upd, za, zaa]; exact rfl) ?_
            refine zab rfl rfl rfl (zac (.inr rfl) (ev1 rfl)) ?_
            refine walk_s rfl rfl (op_stam2 rfl tb44 (ev1 rfl) (ev1 rfl) rfl rfl rfl rfl) (by simp only [upd, za, zaa]; exact rfl) ?_
            refine zaf ?_
            refine zae ?_
            have hkr : k < (rowM ids 0).length := by omega
            obtain ⟨e1, e2⟩ := row0 hkr
            rw [gI (by omega)] at e1
            refine dwp_draw [([], []), ([1], []), ([], []), ([], []), ([], []), ([], []), ([], []), ([], []), ([], []), ([1], []), ([], []), ([], []), ([], []), ([], []), ([], [])] mixed (by kernel_rfl) ?_
            refine zag rfl rfl (op_fa rfl fo44_0 (ev1 rfl)) ?_
            refine zag rfl rfl (op_ldmv (R := [_, _, _]) rfl tb35 (ev1 rfl) rfl rfl rfl) ?_
            refine zag rfl rfl (zac (.inl rfl) (ev1 rfl)) ?_
            refine zag rfl rfl (zac (.inl rfl) (ev1 rfl)) ?_
            refine zag rfl rfl (op_ixsr (j := k) rfl sl22 (ev1 rfl) (ev1 rfl) (fun _ => rfl) (by decide) (by omega) (by omega)) ?_
            refine zag rfl rfl (op_ldwd rfl tb35 (ev1 rfl) rfl) ?_
            refine zag rfl rfl (op_ner eq35 rfl gd35 tb35 (ev1 rfl) (ev1 rfl)) ?_
            refine zag rfl rfl (zac (.inl rfl) (ev1 rfl)) ?_
            refine zai (gd_f rfl rfl rfl) rfl rfl (op_fa rfl fo44_1 (ev1 rfl)) ?_
            refine zai (gd_f rfl rfl rfl) rfl rfl (op_ldm rfl tb42 (ev2 rfl) rfl rfl) ?_
            refine zai (gd_f rfl rfl rfl) rfl rfl (zac (.inl rfl) (ev1 rfl)) ?_
            refine zai (gd_f rfl rfl rfl) rfl rfl (zah [] [] [] rfl (ev1 rfl) (ec (ev2 rfl) en) rfl rfl (painted_d (k : Int)) rfl rfl rfl rfl rfl rfl) ?_
            refine zai (gd_f rfl rfl rfl) rfl rfl (zah [] [] [] rfl (ev1 rfl) (ec (ev2 rfl) (ec (ev2 rfl) en)) rfl rfl (same_cv 2 1 (rowM ids 0)[k].ds _ (rowM ids 0)[k].ts _ (rowM ids 0)[k].ok (pipR_ok _) (rowM ids 0)[k].cv (pnT_ok k)) rfl rfl rfl rfl rfl rfl) ?_
            refine zai (gd_f rfl rfl rfl) rfl rfl (op_not rfl (ev2 rfl)) ?_
            refine zag rfl rfl (op_or rfl (ev1 rfl) (ev3 rfl id)) ?_
            refine lex_nil ?_
            refine dwp_if_f rfl (by rw [e1, e2]; simp) ?_
            refine zal ?_
            refine zad ?_
            refine zab rfl rfl rfl (op_add' rfl (ev1 rfl) (ev1 rfl) (fun _ => IntWalk.i64_in _ (by omega))) ?_
            refine zab rfl rfl rfl (zac (.inl rfl) (ev1 rfl)) ?_
            refine zaf ?_
            refine ⟨k + 1, [0], by omega, by simp only []; omega, rfl, ⟨rfl, rfl, rfl, rfl, trivial⟩, ⟨rfl, trivial⟩⟩
          · try simp only [decide_eq_true_eq, decide_eq_false_iff_not, beq_iff_eq, bne_iff_ne, beq_eq_false_iff_ne, bne_eq_false_iff_eq, Bool.not_eq_true', Bool.not_eq_false', Bool.and_eq_true, Bool.or_eq_true, Bool.or_eq_false_iff, ne_eq, Decidable.not_not, Int.not_lt, Int.not_le] at c12
            refine dwp_exit ?_
            refine zae ?_
            refine zad ?_
            refine zab rfl rfl rfl (zah [] [] [] rfl (ev1 rfl) (ec (ev1 rfl) en) rfl rfl (id_d 1) rfl rfl rfl rfl rfl rfl) ?_
            refine zab rfl rfl rfl (op_build (ps := [(0, .tmp 163)]) rfl fl44 zr44 (vc (ev1 rfl) vn) rfl rfl) ?_
            refine zab rfl rfl rfl (op_bs (ps := [(0, .tmp 164)]) rfl sl25 zr44 rfl (vc (ev1 rfl) vn) rfl (by decide) (by decide)) ?_
            refine zab rfl rfl rfl (zah [] [] [] rfl (ev1 rfl) (ec (evwk (ev1 rfl) (Wk.slm0 4)) (ec (ev1 rfl) en)) rfl rfl (mput_n) rfl rfl rfl rfl rfl rfl) ?_
            refine zab rfl rfl rfl (zac (.inl rfl) (ev1 rfl)) ?_
            refine zab rfl rfl rfl (op_ext rfl (ev1 rfl) rfl) ?_
            refine zab rfl rfl rfl (op_ext rfl (ev1 rfl) rfl) ?_
            refine zab rfl rfl rfl (zac (.inr rfl) (ev1 rfl)) ?_
            refine zab rfl rfl rfl (zac (.inr rfl) (ev1 rfl)) ?_
            refine zaf ?_
            refine zae ?_
            refine zad ?_
            refine zab rfl rfl rfl (zac (.inl rfl) (ev1 rfl)) ?_
            refine zab rfl rfl rfl ((op_eql rfl (ev1 rfl) (ev1 rfl)).cast (d' := .val (.bool true)) (by kernel_rfl)) ?_
            refine zab rfl rfl rfl (zac (.inl rfl) (ev1 rfl)) ?_
            refine walk_k (gd_t (b := true) rfl rfl rfl) rfl rfl rfl (zah [] [] [] rfl (ev1 rfl) (ec (ev1 rfl) en) rfl rfl (id_d 1) rfl rfl rfl rfl rfl rfl) (by simp only [upd, za, zaa]; exact rfl) ?_
            refine walk_k (gd_t (b := true) rfl rfl rfl) rfl rfl rfl (op_build (ps := [(0, .tmp 172)]) rfl fl44 zr44 (vc (ev2 rfl) vn) rfl rfl) (by simp only [upd, za, zaa]; exact rfl) ?_
            refine walk_k (gd_t (b := true) rfl rfl rfl) rfl rfl rfl (op_bs (ps := [(0, .tmp 173)]) rfl sl26 zr44 rfl (vc (ev2 rfl) vn) rfl (by decide) (by decide)) (by simp only [upd, za, zaa]; exact rfl) ?_
            refine walk_k (gd_t (b := true) rfl rfl rfl) rfl rfl rfl (zah [] [] [] rfl (ev1 rfl) (ec (ev2 rfl) en) rfl rfl (mcheck_n) rfl rfl rfl rfl rfl rfl) (by simp only [upd, za, zaa]; exact rfl) ?_
            refine walk_k (gd_t (b := true) rfl rfl rfl) rfl rfl rfl ((op_eql rfl (ev2 rfl) (ev1 rfl)).cast (d' := .val (.bool true)) (by kernel_rfl)) (by simp only [upd, za, zaa]; exact rfl) ?_
            refine zab rfl rfl rfl ((op_and rfl (ev1 rfl) (ev3 rfl (fun _ => rfl))).cast (d' := .val (.bool true)) (by rfl)) ?_
            refine zab rfl rfl rfl (zac (.inr rfl) (ev1 rfl)) ?_
            refine zaf ?_
            refine dwp_ret ?_
            refine kend0 (rs1 rfl (rv_t rfl)) rfl ?_
            rfl
      · have hke : k = more.length := by omega
        subst hke
        rw [List.take_length, Bool.not_eq_true _ |>.mp hg]
        have hno : (chkM (rowM ids 0) && (rowM more 100).all isMk) = false := by rw [rowM_all, Bool.not_eq_true _ |>.mp hg, Bool.and_false]
        refine zad ?_
        refine zab rfl rfl rfl (zac (.inl rfl) (ev1 rfl)) ?_
        refine zab rfl rfl rfl (zac (.inl rfl) (ev1 rfl)) ?_
        refine zab rfl rfl rfl (zah [] [] [] rfl (ev1 rfl) (ec (ev1 rfl) (ec (ev1 rfl) en)) rfl rfl (row_d more 100 (by omega) (by decide)) rfl rfl rfl rfl rfl rfl) ?_
        refine zab rfl rfl rfl (zah [] [] [] rfl (ev1 rfl) (ec (ev1 rfl) (ec (ev1 rfl) en)) rfl rfl (mput_no (rowM ids 0) (rowM more 100) (by rw [rowM_len]; omega) (by rw [rowM_len]; omega) hno) rfl rfl rfl rfl rfl rfl) ?_
        refine zab rfl rfl rfl (zac (.inl rfl) (ev1 rfl)) ?_
        refine zab rfl rfl rfl (op_ext rfl (ev1 rfl) rfl) ?_
        refine zab rfl rfl rfl (op_ext rfl (ev1 rfl) rfl) ?_
        refine zab rfl rfl rfl (zac (.inr rfl) (ev1 rfl)) ?_
        refine zab rfl rfl rfl (zac (.inr rfl) (ev1 rfl)) ?_
        refine zaf ?_
        refine zae ?_
        refine zae ?_
        refine zad ?_
        refine zab rfl rfl rfl (zac (.inl rfl) (ev1 rfl)) ?_
        refine zab rfl rfl rfl (zac (.inl rfl) (ev1 rfl)) ?_
        refine zab rfl rfl rfl (op_neq rfl (ev1 rfl) (ev1 rfl)) ?_
        refine zab rfl rfl rfl (zac (.inl rfl) (ev1 rfl)) ?_
        refine zaj (gd_f rfl rfl rfl) rfl rfl rfl (zac (.inl rfl) (ev1 rfl)) ?_
        refine zaj (gd_f rfl rfl rfl) rfl rfl rfl ((op_neq rfl (ev2 rfl) (ev1 rfl)).cast (d' := .val (.bool true)) (by kernel_rfl)) ?_
        refine zaj (gd_f rfl rfl rfl) rfl rfl rfl (zac (.inl rfl) (ev2 rfl)) ?_
        refine zaj (gd_tt rfl rfl rfl) rfl rfl rfl (zac (.inl rfl) (ev1 rfl)) ?_
        refine zaj (gd_tt rfl rfl rfl) rfl rfl rfl (op_len rfl sl26 (evwk (ev2 rfl) (Wk.slf0 4))) ?_
        refine zaj (gd_tt rfl rfl rfl) rfl rfl rfl ((op_gtr rfl (ev2 rfl) (ev1 rfl)).cast (d' := .val (.bool false)) (by kernel_rfl)) ?_
        refine zaj (gd_f rfl rfl rfl) rfl rfl rfl ((op_and rfl (ev2 rfl) (ev2 rfl)).cast (d' := .val (.bool false)) (by rfl)) ?_
        refine zab rfl rfl rfl (op_or rfl (ev1 rfl) (ev3 rfl id)) ?_
        refine zab rfl rfl rfl (zac (.inl rfl) (ev1 rfl)) ?_
        refine zaj (gd_f rfl rfl rfl) rfl rfl rfl (zac (.inl rfl) (ev1 rfl)) ?_
        refine zaj (gd_f rfl rfl rfl) rfl rfl rfl ((op_eql rfl (ev2 rfl) (ev1 rfl)).cast (d' := .val (.bool false)) (by kernel_rfl)) ?_
        refine zaj (gd_f rfl rfl rfl) rfl rfl rfl (zac (.inl rfl) (ev2 rfl)) ?_
        refine zaj (gd_tt rfl rfl rfl) rfl rfl rfl (zac (.inl rfl) (ev1 rfl)) ?_
        refine zaj (gd_tt rfl rfl rfl) rfl rfl rfl (zac (.inl rfl) (ev1 rfl)) ?_
        refine zaj (gd_tt rfl rfl rfl) rfl rfl rfl (zac (.inl rfl) (ev1 rfl)) ?_
        refine zaj (gd_tt rfl rfl rfl) rfl rfl rfl (zah [] [] [] rfl (ev1 rfl) (ec (evwk (ev2 rfl) (Wk.slm0 4)) (ec (ev2 rfl) (ec (ev2 rfl) en))) rfl rfl (shows_d [] _ _ (by decide)) rfl rfl rfl rfl rfl rfl) ?_
        refine zaj (gd_tt rfl rfl rfl) rfl rfl rfl (op_not rfl (ev2 rfl)) ?_
        refine zaj (gd_f rfl rfl rfl) rfl rfl rfl ((op_and rfl (ev2 rfl) (ev2 rfl)).cast (d' := .val (.bool false)) (by rfl)) ?_
        refine zab rfl rfl rfl (op_or rfl (ev1 rfl) (ev3 rfl id)) ?_
        refine zaf ?_
        refine dwp_if_f rfl (by rfl) ?_
        refine zal ?_
        refine zae ?_
        refine zae ?_
        refine zad ?_
        refine zab rfl rfl rfl (zac (.inl rfl) (ev1 rfl)) ?_
        refine zab rfl rfl rfl (op_len rfl sl26 (evwk (ev1 rfl) (Wk.slf0 4))) ?_
        refine zab rfl rfl rfl (zac (.inl rfl) (ev1 rfl)) ?_
        refine zaf ?_
        refine zam ?_
        refine dwp_once ?_
        refine zae ?_
        refine zad ?_
        refine zab rfl rfl rfl ((op_lss rfl (ev1 rfl) (ev1 rfl)).cast (d' := .val (.bool false)) (by kernel_rfl)) ?_
        refine zaf ?_
        refine zae ?_
        refine dwp_if_f rfl (by rfl) ?_
        refine dwp_exit ?_
        refine zae ?_
        refine zae ?_
        refine zad ?_
        refine zab rfl rfl rfl (zac (.inl rfl) (ev1 rfl)) ?_
        refine zab rfl rfl rfl (op_lenm rfl sl26 (ev1 rfl)) ?_
        refine zab rfl rfl rfl (zac (.inl rfl) (ev1 rfl)) ?_
        refine zaf ?_
        refine zam ?_
        refine dwp_loopS ⟨hs0, rfl⟩ (α := Nat) (fun k => [(141, .val (.int .i64 (k : Int)))]) [(5, _), (139, _), (140, _)] (fun k => []) [] (fun k => k ≤ (rowM ids 0).length) (fun k => (rowM ids 0).length - k) 0 [] (Nat.zero_le _) rfl ⟨rfl, rfl, rfl, trivial⟩ ⟨rfl, trivial⟩ trivial ?_
        intro k hx
        simp only [upd, za, zaa, List.cons_append, List.nil_append]
        have hk3 := hx
        have hrl := rowM_len ids 0
        refine zae ?_
        refine zad ?_
        refine zab rfl rfl rfl (op_lss rfl (ev1 rfl) (ev1 rfl)) ?_
        refine zaf ?_
        refine zae ?_
        refine dwp_cond rfl (fun c16 => ?_) (fun c16 => ?_)
        · try simp only [decide_eq_true_eq, decide_eq_false_iff_not, beq_iff_eq, bne_iff_ne, beq_eq_false_iff_ne, bne_eq_false_iff_eq, Bool.not_eq_true', Bool.not_eq_false', Bool.and_eq_true, Bool.or_eq_true, Bool.or_eq_false_iff, ne_eq, Decidable.not_not, Int.not_lt, Int.not_le] at c16
          refine zal ?_
          refine zae ?_
          refine zam ?_
          refine zae ?_
          refine zak 1 (by simp only [holes, List.cons_append, List.nil_append]; exact rfl) ?_
          refine zad ?_
          refine zab rfl rfl rfl (zac (.inl rfl) (ev1 rfl)) ?_
          refine zab rfl rfl rfl (op_ixmr (k) (by decide) rfl sl26 (ev1 rfl) (ev1 rfl) (fun _ => rfl) (by omega) (fun _ => rfl)) ?_
          refine zab rfl rfl rfl (op_lddr rfl tb44 (ev1 rfl) rfl rfl) ?_
          refine zan rfl rfl rfl (op_alloc 0 rfl zr44 rfl) (by simp only [upd, za, zaa]; exact rfl) ?_
          refine zab rfl rfl rfl (zac (.inr rfl) (ev1 rfl)) ?_
          refine walk_s rfl rfl (op_stam2 rfl tb44 (ev1 rfl) (ev1 rfl) rfl rfl rfl rfl) (by simp only [upd, za, zaa]; exact rfl) ?_
          refine zaf ?_
          refine zae ?_
          have hkr : k < (rowM ids 0).length := by omega
          obtain ⟨e1, e2⟩ := row0 hkr
          rw [gI (by omega)] at e1
          refine dwp_draw [([], []), ([0], []), ([], []), ([], []), ([], []), ([], []), ([], []), ([], []), ([], []), ([0], []), ([], []), ([], []), ([], []), ([], []), ([], [])] mixed (by kernel_rfl) ?_
          refine zag rfl rfl (op_fa rfl fo44_0 (ev1 rfl)) ?_
          refine zag rfl rfl (op_ldmv (R := [_, _, _]) rfl tb35 (ev1 rfl) rfl rfl rfl) ?_
          refine zag rfl rfl (zac (.inl rfl) (ev1 rfl)) ?_
          refine zag rfl rfl (zac (.inl rfl) (ev1 rfl)) ?_
          refine zag rfl rfl (op_ixsr (j := k) rfl sl22 (ev1 rfl) (ev1 rfl) (fun _ => rfl) (by decide) (by omega) (by omega)) ?_
          refine zag rfl rfl (op_ldwd rfl tb35 (ev1 rfl) rfl) ?_
          refine zag rfl rfl (op_ner eq35 rfl gd35 tb35 (ev1 rfl) (ev1 rfl)) ?_
          refine zag rfl rfl (zac (.inl rfl) (ev1 rfl)) ?_
          refine zai (gd_f rfl rfl rfl) rfl rfl (op_fa rfl fo44_1 (ev1 rfl)) ?_
          refine zai (gd_f rfl rfl rfl) rfl rfl (op_ldm rfl tb42 (ev2 rfl) rfl rfl) ?_
          refine zai (gd_f rfl rfl rfl) rfl rfl (zac (.inl rfl) (ev1 rfl)) ?_
          refine zai (gd_f rfl rfl rfl) rfl rfl (zah [] [] [] rfl (ev1 rfl) (ec (ev2 rfl) en) rfl rfl (painted_d (k : Int)) rfl rfl rfl rfl rfl rfl) ?_
          refine zai (gd_f rfl rfl rfl) rfl rfl (zah [] [] [] rfl (ev1 rfl) (ec (ev2 rfl) (ec (ev2 rfl) en)) rfl rfl (same_cv 2 1 (rowM ids 0)[k].ds _ (rowM ids 0)[k].ts _ (rowM ids 0)[k].ok (pipR_ok _) (rowM ids 0)[k].cv (pnT_ok k)) rfl rfl rfl rfl rfl rfl) ?_
          refine zai (gd_f rfl rfl rfl) rfl rfl (op_not rfl (ev2 rfl)) ?_
          refine zag rfl rfl (op_or rfl (ev1 rfl) (ev3 rfl id)) ?_
          refine lex_nil ?_
          refine dwp_if_f rfl (by rw [e1, e2]; simp) ?_
          refine zal ?_
          refine zad ?_
          refine zab rfl rfl rfl (op_add' rfl (ev1 rfl) (ev1 rfl) (fun _ => IntWalk.i64_in _ (by omega))) ?_
          refine zab rfl rfl rfl (zac (.inl rfl) (ev1 rfl)) ?_
          refine zaf ?_
          refine ⟨k + 1, [], by omega, by simp only []; omega, rfl, ⟨rfl, rfl, rfl, rfl, trivial⟩, trivial⟩
        · try simp only [decide_eq_true_eq, decide_eq_false_iff_not, beq_iff_eq, bne_iff_ne, beq_eq_false_iff_ne, bne_eq_false_iff_eq, Bool.not_eq_true', Bool.not_eq_false', Bool.and_eq_true, Bool.or_eq_true, Bool.or_eq_false_iff, ne_eq, Decidable.not_not, Int.not_lt, Int.not_le] at c16
          refine dwp_exit ?_
          refine zae ?_
          refine zad ?_
          refine zab rfl rfl rfl (zah [] [] [] rfl (ev1 rfl) (ec (ev1 rfl) en) rfl rfl (id_d 1) rfl rfl rfl rfl rfl rfl) ?_
          refine zab rfl rfl rfl (op_build (ps := [(0, .tmp 163)]) rfl fl44 zr44 (vc (ev1 rfl) vn) rfl rfl) ?_
          refine zab rfl rfl rfl (op_bs (ps := [(0, .tmp 164)]) rfl sl25 zr44 rfl (vc (ev1 rfl) vn) rfl (by decide) (by decide)) ?_
          refine zab rfl rfl rfl (zah [] [] [] rfl (ev1 rfl) (ec (evwk (ev1 rfl) (Wk.slm0 4)) (ec (ev1 rfl) en)) rfl rfl (mput_n) rfl rfl rfl rfl rfl rfl) ?_
          refine zab rfl rfl rfl (zac (.inl rfl) (ev1 rfl)) ?_
          refine zab rfl rfl rfl (op_ext rfl (ev1 rfl) rfl) ?_
          refine zab rfl rfl rfl (op_ext rfl (ev1 rfl) rfl) ?_
          refine zab rfl rfl rfl (zac (.inr rfl) (ev1 rfl)) ?_
          refine zab rfl rfl rfl (zac (.inr rfl) (ev1 rfl)) ?_
          refine zaf ?_
          refine zae ?_
          refine zad ?_
          refine zab rfl rfl rfl (zac (.inl rfl) (ev1 rfl)) ?_
          refine zab rfl rfl rfl ((op_eql rfl (ev1 rfl) (ev1 rfl)).cast (d' := .val (.bool true)) (by kernel_rfl)) ?_
          refine zab rfl rfl rfl (zac (.inl rfl) (ev1 rfl)) ?_
          refine walk_k (gd_t (b := true) rfl rfl rfl) rfl rfl rfl (zah [] [] [] rfl (ev1 rfl) (ec (ev1 rfl) en) rfl rfl (id_d 1) rfl rfl rfl rfl rfl rfl) (by simp only [upd, za, zaa]; exact rfl) ?_
          refine walk_k (gd_t (b := true) rfl rfl rfl) rfl rfl rfl (op_build (ps := [(0, .tmp 172)]) rfl fl44 zr44 (vc (ev2 rfl) vn) rfl rfl) (by simp only [upd, za, zaa]; exact rfl) ?_
          refine walk_k (gd_t (b := true) rfl rfl rfl) rfl rfl rfl (op_bs (ps := [(0, .tmp 173)]) rfl sl26 zr44 rfl (vc (ev2 rfl) vn) rfl (by decide) (by decide)) (by simp only [upd, za, zaa]; exact rfl) ?_
          refine walk_k (gd_t (b := true) rfl rfl rfl) rfl rfl rfl (zah [] [] [] rfl (ev1 rfl) (ec (ev2 rfl) en) rfl rfl (mcheck_n) rfl rfl rfl rfl rfl rfl) (by simp only [upd, za, zaa]; exact rfl) ?_
          refine walk_k (gd_t (b := true) rfl rfl rfl) rfl rfl rfl ((op_eql rfl (ev2 rfl) (ev1 rfl)).cast (d' := .val (.bool true)) (by kernel_rfl)) (by simp only [upd, za, zaa]; exact rfl) ?_
          refine zab rfl rfl rfl ((op_and rfl (ev1 rfl) (ev3 rfl (fun _ => rfl))).cast (d' := .val (.bool true)) (by rfl)) ?_
          refine zab rfl rfl rfl (zac (.inr rfl) (ev1 rfl)) ?_
          refine zaf ?_
          refine dwp_ret ?_
          refine kend0 (rs1 rfl (rv_t rfl)) rfl ?_
          rfl
  · refine zad ?_
    refine zab rfl rfl rfl (zac (.inr rfl) (ev1 rfl)) ?_
    refine zaf ?_
    refine zae ?_
    refine zae ?_
    refine zad ?_
    refine zab rfl rfl rfl (zac (.inl rfl) (ev1 rfl)) ?_
    refine zab rfl rfl rfl (op_not rfl (ev1 rfl)) ?_
    refine zaf ?_
    refine dwp_if_t rfl (by rw [Bool.not_eq_true _ |>.mp hr]; rfl) ?_
    refine zad ?_
    refine zab rfl rfl rfl (zac (.inr rfl) (ev1 rfl)) ?_
    refine zaf ?_
    refine zae ?_
    refine zae ?_
    refine zad ?_
    refine zab rfl rfl rfl (zac (.inl rfl) (ev1 rfl)) ?_
    refine zab rfl rfl rfl (op_len rfl sl22 (ev1 rfl)) ?_
    refine zab rfl rfl rfl (zac (.inl rfl) (ev1 rfl)) ?_
    refine zaf ?_
    refine zam ?_
    refine dwp_loopS ⟨hs0, rfl⟩ (α := Nat) (fun k => [(59, .val (.int .i64 (k : Int)))]) [(5, _), (6, _), (7, _), (10, _), (11, _), (12, _), (57, _), (58, _)] (fun k => []) [] (fun k => k ≤ more.length) (fun k => more.length - k) 0 [] (Nat.zero_le _) rfl ⟨rfl, rfl, rfl, rfl, rfl, rfl, rfl, rfl, trivial⟩ ⟨rfl, trivial⟩ trivial ?_
    intro k hx
    simp only [upd, za, zaa, List.cons_append, List.nil_append]
    have hk := hx
    refine zae ?_
    refine zad ?_
    refine zab rfl rfl rfl (op_lss rfl (ev1 rfl) (ev1 rfl)) ?_
    refine zaf ?_
    refine zae ?_
    refine dwp_cond rfl (fun c19 => ?_) (fun c19 => ?_)
    · try simp only [decide_eq_true_eq, decide_eq_false_iff_not, beq_iff_eq, bne_iff_ne, beq_eq_false_iff_ne, bne_eq_false_iff_eq, Bool.not_eq_true', Bool.not_eq_false', Bool.and_eq_true, Bool.or_eq_true, Bool.or_eq_false_iff, ne_eq, Decidable.not_not, Int.not_lt, Int.not_le] at c19
      refine zal ?_
      refine zae ?_
      refine zam ?_
      refine zae ?_
      refine zak 1 (by simp only [holes, List.cons_append, List.nil_append]; exact rfl) ?_
      refine zad ?_
      refine zab rfl rfl rfl (zac (.inl rfl) (ev1 rfl)) ?_
      refine zab rfl rfl rfl (op_ixsr (j := k) rfl sl22 (ev1 rfl) (ev1 rfl) (fun _ => rfl) (by decide) (by omega) (by omega)) ?_
      refine zab rfl rfl rfl (op_ldwd rfl tb35 (ev1 rfl) rfl) ?_
      refine zan rfl rfl rfl (op_alloc 0 rfl zr35 rfl) (by simp only [upd, za, zaa]; exact rfl) ?_
      refine zab rfl rfl rfl (zac (.inr rfl) (ev1 rfl)) ?_
      refine walk_s rfl rfl (op_stwa rfl tb35 (ev1 rfl) (ev1 rfl) rfl rfl rfl rfl) (by simp only [upd, za, zaa]; exact rfl) ?_
      refine zaf ?_
      refine zae ?_
      refine zae ?_
      refine zad ?_
      refine zab rfl rfl rfl (op_ldw rfl tb35 (ev1 rfl) rfl rfl) ?_
      refine zab rfl rfl rfl (zah [] [] [] rfl (ev1 rfl) (ec (ev1 rfl) en) rfl rfl (refRight_d _) rfl rfl rfl rfl rfl rfl) ?_
      refine zab rfl rfl rfl (op_not rfl (ev1 rfl)) ?_
      refine zaf ?_
      refine dwp_cond rfl (fun c20 => ?_) (fun c20 => ?_)
      · try simp only [decide_eq_true_eq, decide_eq_false_iff_not, beq_iff_eq, bne_iff_ne, beq_eq_false_iff_ne, bne_eq_false_iff_eq, Bool.not_eq_true', Bool.not_eq_false', Bool.and_eq_true, Bool.or_eq_true, Bool.or_eq_false_iff, ne_eq, Decidable.not_not, Int.not_lt, Int.not_le] at c20
        refine zad ?_
        refine zab rfl rfl rfl (zac (.inr rfl) (ev1 rfl)) ?_
        refine zaf ?_
        refine zae ?_
        refine zae ?_
        refine zad ?_
        refine zab rfl rfl rfl (zac (.inl rfl) (ev1 rfl)) ?_
        refine zab rfl rfl rfl ((op_neq rfl (ev1 rfl) (ev1 rfl)).cast (d' := .val (.bool true)) (by kernel_rfl)) ?_
        refine zaf ?_
        refine dwp_if_t rfl (by rfl) ?_
        refine dwp_exit ?_
        refine zad ?_
        refine zab rfl rfl rfl (op_add' rfl (ev1 rfl) (ev1 rfl) (fun _ => IntWalk.i64_in _ (by omega))) ?_
        refine zab rfl rfl rfl (zac (.inl rfl) (ev1 rfl)) ?_
        refine zaf ?_
        refine ⟨k + 1, [], by omega, by simp only []; omega, rfl, ⟨rfl, rfl, rfl, rfl, rfl, rfl, rfl, rfl, rfl, trivial⟩, trivial⟩
      · try simp only [decide_eq_true_eq, decide_eq_false_iff_not, beq_iff_eq, bne_iff_ne, beq_eq_false_iff_ne, bne_eq_false_iff_eq, Bool.not_eq_true', Bool.not_eq_false', Bool.and_eq_true, Bool.or_eq_true, Bool.or_eq_false_iff, ne_eq, Decidable.not_not, Int.not_lt, Int.not_le] at c20
        refine zal ?_
        refine zae ?_
        refine zae ?_
        refine zad ?_
        refine zab rfl rfl rfl (zac (.inl rfl) (ev1 rfl)) ?_
        refine zab rfl rfl rfl ((op_neq rfl (ev1 rfl) (ev1 rfl)).cast (d' := .val (.bool true)) (by kernel_rfl)) ?_
        refine zaf ?_
        refine dwp_if_t rfl (by rfl) ?_
        refine dwp_exit ?_
        refine zad ?_
        refine zab rfl rfl rfl (op_add' rfl (ev1 rfl) (ev1 rfl) (fun _ => IntWalk.i64_in _ (by omega))) ?_
        refine zab rfl rfl rfl (zac (.inl rfl) (ev1 rfl)) ?_
        refine zaf ?_
        refine ⟨k + 1, [], by omega, by simp only []; omega, rfl, ⟨rfl, rfl, rfl, rfl, rfl, rfl, rfl, rfl, rfl, trivial⟩, trivial⟩
    · try simp only [decide_eq_true_eq, decide_eq_false_iff_not, beq_iff_eq, bne_iff_ne, beq_eq_false_iff_ne, bne_eq_false_iff_eq, Bool.not_eq_true', Bool.not_eq_false', Bool.and_eq_true, Bool.or_eq_true, Bool.or_eq_false_iff, ne_eq, Decidable.not_not, Int.not_lt, Int.not_le] at c19
      refine dwp_exit ?_
      refine zae ?_
      have hno : (chkM (rowM ids 0) && (rowM more 100).all isMk) = false := by rw [hcr, Bool.not_eq_true _ |>.mp hr, Bool.false_and]
      refine zad ?_
      refine zab rfl rfl rfl (zac (.inl rfl) (ev1 rfl)) ?_
      refine zab rfl rfl rfl (zac (.inl rfl) (ev1 rfl)) ?_
      refine zab rfl rfl rfl (zah [] [] [] rfl (ev1 rfl) (ec (ev1 rfl) (ec (ev1 rfl) en)) rfl rfl (row_d more 100 (by omega) (by decide)) rfl rfl rfl rfl rfl rfl) ?_
      refine zab rfl rfl rfl (zah [] [] [] rfl (ev1 rfl) (ec (ev1 rfl) (ec (ev1 rfl) en)) rfl rfl (mput_no (rowM ids 0) (rowM more 100) (by rw [rowM_len]; omega) (by rw [rowM_len]; omega) hno) rfl rfl rfl rfl rfl rfl) ?_
      refine zab rfl rfl rfl (zac (.inl rfl) (ev1 rfl)) ?_
      refine zab rfl rfl rfl (op_ext rfl (ev1 rfl) rfl) ?_
      refine zab rfl rfl rfl (op_ext rfl (ev1 rfl) rfl) ?_
      refine zab rfl rfl rfl (zac (.inr rfl) (ev1 rfl)) ?_
      refine zab rfl rfl rfl (zac (.inr rfl) (ev1 rfl)) ?_
      refine zaf ?_
      refine zae ?_
      refine zae ?_
      refine zad ?_
      refine zab rfl rfl rfl (zac (.inl rfl) (ev1 rfl)) ?_
      refine zab rfl rfl rfl (zac (.inl rfl) (ev1 rfl)) ?_
      refine zab rfl rfl rfl ((op_neq rfl (ev1 rfl) (ev1 rfl)).cast (d' := .val (.bool false)) (by kernel_rfl)) ?_
      refine zab rfl rfl rfl (zac (.inl rfl) (ev1 rfl)) ?_
      refine walk_k (gd_f (b := false) rfl rfl rfl) rfl rfl rfl (zac (.inl rfl) (ev1 rfl)) (by simp only [upd, za, zaa]; exact rfl) ?_
      refine walk_k (gd_f (b := false) rfl rfl rfl) rfl rfl rfl ((op_neq rfl (ev2 rfl) (ev1 rfl)).cast (d' := .val (.bool true)) (by kernel_rfl)) (by simp only [upd, za, zaa]; exact rfl) ?_
      refine walk_k (gd_f (b := false) rfl rfl rfl) rfl rfl rfl (zac (.inl rfl) (ev2 rfl)) (by simp only [upd, za, zaa]; exact rfl) ?_
      refine walk_k (gd_tt (g := true) (b := true) rfl rfl rfl) rfl rfl rfl (zac (.inl rfl) (ev1 rfl)) (by simp only [upd, za, zaa]; exact rfl) ?_
      refine walk_k (gd_tt (g := true) (b := true) rfl rfl rfl) rfl rfl rfl (op_len rfl sl26 (evwk (ev2 rfl) (Wk.slf0 4))) (by simp only [upd, za, zaa]; exact rfl) ?_
      refine walk_k (gd_tt (g := true) (b := true) rfl rfl rfl) rfl rfl rfl ((op_gtr rfl (ev2 rfl) (ev1 rfl)).cast (d' := .val (.bool false)) (by kernel_rfl)) (by simp only [upd, za, zaa]; exact rfl) ?_
      refine walk_k (gd_f (b := false) rfl rfl rfl) rfl rfl rfl ((op_and rfl (ev2 rfl) (ev3 rfl (fun _ => rfl))).cast (d' := .val (.bool false)) (by rfl)) (by simp only [upd, za, zaa]; exact rfl) ?_
      refine zab rfl rfl rfl ((op_or rfl (ev1 rfl) (ev3 rfl (fun _ => rfl))).cast (d' := .val (.bool false)) (by rfl)) ?_
      refine zab rfl rfl rfl (zac (.inl rfl) (ev1 rfl)) ?_
      refine walk_k (gd_f (b := false) rfl rfl rfl) rfl rfl rfl (zac (.inl rfl) (ev1 rfl)) (by simp only [upd, za, zaa]; exact rfl) ?_
      refine walk_k (gd_f (b := false) rfl rfl rfl) rfl rfl rfl ((op_eql rfl (ev2 rfl) (ev1 rfl)).cast (d' := .val (.bool false)) (by kernel_rfl)) (by simp only [upd, za, zaa]; exact rfl) ?_
      refine walk_k (gd_f (b := false) rfl rfl rfl) rfl rfl rfl (zac (.inl rfl) (ev2 rfl)) (by simp only [upd, za, zaa]; exact rfl) ?_
      refine zaj (gd_tt (g := true) (b := false) rfl rfl rfl) rfl rfl rfl (dop_never (d := .junk)) ?_
      refine zaj (gd_tt (g := true) (b := false) rfl rfl rfl) rfl rfl rfl (dop_never (d := .junk)) ?_
      refine zaj (gd_tt (g := true) (b := false) rfl rfl rfl) rfl rfl rfl (dop_never (d := .junk)) ?_
      refine zaj (gd_tt (g := true) (b := false) rfl rfl rfl) rfl rfl rfl (dop_never (d := .val (.bool false))) ?_
      refine zaj (gd_tt (g := true) (b := false) rfl rfl rfl) rfl rfl rfl (dop_never (d := .val (.bool false))) ?_
      refine walk_k (gd_f (b := false) rfl rfl rfl) rfl rfl rfl ((op_and rfl (ev2 rfl) (ev3 rfl id)).cast (d' := .val (.bool false)) (by rfl)) (by simp only [upd, za, zaa]; exact rfl) ?_
      refine zab rfl rfl rfl ((op_or rfl (ev1 rfl) (ev3 rfl (fun _ => rfl))).cast (d' := .val (.bool false)) (by rfl)) ?_
      refine zaf ?_
      refine dwp_if_f rfl (by rfl) ?_
      refine zal ?_
      refine zae ?_
      refine zae ?_
      refine zad ?_
      refine zab rfl rfl rfl (zac (.inl rfl) (ev1 rfl)) ?_
      refine zab rfl rfl rfl (op_len rfl sl26 (evwk (ev1 rfl) (Wk.slf0 4))) ?_
      refine zab rfl rfl rfl (zac (.inl rfl) (ev1 rfl)) ?_
      refine zaf ?_
      refine zam ?_
      refine dwp_once ?_
      refine zae ?_
      refine zad ?_
      refine zab rfl rfl rfl ((op_lss rfl (ev1 rfl) (ev1 rfl)).cast (d' := .val (.bool false)) (by kernel_rfl)) ?_
      refine zaf ?_
      refine zae ?_
      refine dwp_if_f rfl (by rfl) ?_
      refine dwp_exit ?_
      refine zae ?_
      refine zae ?_
      refine zad ?_
      refine zab rfl rfl rfl (zac (.inl rfl) (ev1 rfl)) ?_
      refine zab rfl rfl rfl (op_lenm rfl sl26 (ev1 rfl)) ?_
      refine zab rfl rfl rfl (zac (.inl rfl) (ev1 rfl)) ?_
      refine zaf ?_
      refine zam ?_
      refine dwp_loopS ⟨hs0, rfl⟩ (α := Nat) (fun k => [(141, .val (.int .i64 (k : Int)))]) [(5, _), (139, _), (140, _)] (fun k => []) [] (fun k => k ≤ (rowM ids 0).length) (fun k => (rowM ids 0).length - k) 0 [] (Nat.zero_le _) rfl ⟨rfl, rfl, rfl, trivial⟩ ⟨rfl, trivial⟩ trivial ?_
      intro k hx
      simp only [upd, za, zaa, List.cons_append, List.nil_append]
      have hk3 := hx
      have hrl := rowM_len ids 0
      refine zae ?_
      refine zad ?_
      refine zab rfl rfl rfl (op_lss rfl (ev1 rfl) (ev1 rfl)) ?_
      refine zaf ?_
      refine zae ?_
      refine dwp_cond rfl (fun c25 => ?_) (fun c25 => ?_)
      · try simp only [decide_eq_true_eq, decide_eq_false_iff_not, beq_iff_eq, bne_iff_ne, beq_eq_false_iff_ne, bne_eq_false_iff_eq, Bool.not_eq_true', Bool.not_eq_false', Bool.and_eq_true, Bool.or_eq_true, Bool.or_eq_false_iff, ne_eq, Decidable.not_not, Int.not_lt, Int.not_le] at c25
        refine zal ?_
        refine zae ?_
        refine zam ?_
        refine zae ?_
        refine zak 1 (by simp only [holes, List.cons_append, List.nil_append]; exact rfl) ?_
        refine zad ?_
        refine zab rfl rfl rfl (zac (.inl rfl) (ev1 rfl)) ?_
        refine zab rfl rfl rfl (op_ixmr (k) (by decide) rfl sl26 (ev1 rfl) (ev1 rfl) (fun _ => rfl) (by omega) (fun _ => rfl)) ?_
        refine zab rfl rfl rfl (op_lddr rfl tb44 (ev1 rfl) rfl rfl) ?_
        refine zan rfl rfl rfl (op_alloc 0 rfl zr44 rfl) (by simp only [upd, za, zaa]; exact rfl) ?_
        refine zab rfl rfl rfl (zac (.inr rfl) (ev1 rfl)) ?_
        refine walk_s rfl rfl (op_stam2 rfl tb44 (ev1 rfl) (ev1 rfl) rfl rfl rfl rfl) (by simp only [upd, za, zaa]; exact rfl) ?_
        refine zaf ?_
        refine zae ?_
        have hkr : k < (rowM ids 0).length := by omega
        obtain ⟨e1, e2⟩ := row0 hkr
        rw [gI (by omega)] at e1
        refine dwp_draw [([], []), ([0], []), ([], []), ([], []), ([], []), ([], []), ([], []), ([], []), ([], []), ([0], []), ([], []), ([], []), ([], []), ([], []), ([], [])] mixed (by kernel_rfl) ?_
        refine zag rfl rfl (op_fa rfl fo44_0 (ev1 rfl)) ?_
        refine zag rfl rfl (op_ldmv (R := [_, _, _]) rfl tb35 (ev1 rfl) rfl rfl rfl) ?_
        refine zag rfl rfl (zac (.inl rfl) (ev1 rfl)) ?_
        refine zag rfl rfl (zac (.inl rfl) (ev1 rfl)) ?_
        refine zag rfl rfl (op_ixsr (j := k) rfl sl22 (ev1 rfl) (ev1 rfl) (fun _ => rfl) (by decide) (by omega) (by omega)) ?_
        refine zag rfl rfl (op_ldwd rfl tb35 (ev1 rfl) rfl) ?_
        refine zag rfl rfl (op_ner eq35 rfl gd35 tb35 (ev1 rfl) (ev1 rfl)) ?_
        refine zag rfl rfl (zac (.inl rfl) (ev1 rfl)) ?_
        refine zai (gd_f rfl rfl rfl) rfl rfl (op_fa rfl fo44_1 (ev1 rfl)) ?_
        refine zai (gd_f rfl rfl rfl) rfl rfl (op_ldm rfl tb42 (ev2 rfl) rfl rfl) ?_
        refine zai (gd_f rfl rfl rfl) rfl rfl (zac (.inl rfl) (ev1 rfl)) ?_
        refine zai (gd_f rfl rfl rfl) rfl rfl (zah [] [] [] rfl (ev1 rfl) (ec (ev2 rfl) en) rfl rfl (painted_d (k : Int)) rfl rfl rfl rfl rfl rfl) ?_
        refine zai (gd_f rfl rfl rfl) rfl rfl (zah [] [] [] rfl (ev1 rfl) (ec (ev2 rfl) (ec (ev2 rfl) en)) rfl rfl (same_cv 2 1 (rowM ids 0)[k].ds _ (rowM ids 0)[k].ts _ (rowM ids 0)[k].ok (pipR_ok _) (rowM ids 0)[k].cv (pnT_ok k)) rfl rfl rfl rfl rfl rfl) ?_
        refine zai (gd_f rfl rfl rfl) rfl rfl (op_not rfl (ev2 rfl)) ?_
        refine zag rfl rfl (op_or rfl (ev1 rfl) (ev3 rfl id)) ?_
        refine lex_nil ?_
        refine dwp_if_f rfl (by rw [e1, e2]; simp) ?_
        refine zal ?_
        refine zad ?_
        refine zab rfl rfl rfl (op_add' rfl (ev1 rfl) (ev1 rfl) (fun _ => IntWalk.i64_in _ (by omega))) ?_
        refine zab rfl rfl rfl (zac (.inl rfl) (ev1 rfl)) ?_
        refine zaf ?_
        refine ⟨k + 1, [], by omega, by simp only []; omega, rfl, ⟨rfl, rfl, rfl, rfl, trivial⟩, trivial⟩
      · try simp only [decide_eq_true_eq, decide_eq_false_iff_not, beq_iff_eq, bne_iff_ne, beq_eq_false_iff_ne, bne_eq_false_iff_eq, Bool.not_eq_true', Bool.not_eq_false', Bool.and_eq_true, Bool.or_eq_true, Bool.or_eq_false_iff, ne_eq, Decidable.not_not, Int.not_lt, Int.not_le] at c25
        refine dwp_exit ?_
        refine zae ?_
        refine zad ?_
        refine zab rfl rfl rfl (zah [] [] [] rfl (ev1 rfl) (ec (ev1 rfl) en) rfl rfl (id_d 1) rfl rfl rfl rfl rfl rfl) ?_
        refine zab rfl rfl rfl (op_build (ps := [(0, .tmp 163)]) rfl fl44 zr44 (vc (ev1 rfl) vn) rfl rfl) ?_
        refine zab rfl rfl rfl (op_bs (ps := [(0, .tmp 164)]) rfl sl25 zr44 rfl (vc (ev1 rfl) vn) rfl (by decide) (by decide)) ?_
        refine zab rfl rfl rfl (zah [] [] [] rfl (ev1 rfl) (ec (evwk (ev1 rfl) (Wk.slm0 4)) (ec (ev1 rfl) en)) rfl rfl (mput_n) rfl rfl rfl rfl rfl rfl) ?_
        refine zab rfl rfl rfl (zac (.inl rfl) (ev1 rfl)) ?_
        refine zab rfl rfl rfl (op_ext rfl (ev1 rfl) rfl) ?_
        refine zab rfl rfl rfl (op_ext rfl (ev1 rfl) rfl) ?_
        refine zab rfl rfl rfl (zac (.inr rfl) (ev1 rfl)) ?_
        refine zab rfl rfl rfl (zac (.inr rfl) (ev1 rfl)) ?_
        refine zaf ?_
        refine zae ?_
        refine zad ?_
        refine zab rfl rfl rfl (zac (.inl rfl) (ev1 rfl)) ?_
        refine zab rfl rfl rfl ((op_eql rfl (ev1 rfl) (ev1 rfl)).cast (d' := .val (.bool true)) (by kernel_rfl)) ?_
        refine zab rfl rfl rfl (zac (.inl rfl) (ev1 rfl)) ?_
        refine walk_k (gd_t (b := true) rfl rfl rfl) rfl rfl rfl (zah [] [] [] rfl (ev1 rfl) (ec (ev1 rfl) en) rfl rfl (id_d 1) rfl rfl rfl rfl rfl rfl) (by simp only [upd, za, zaa]; exact rfl) ?_
        refine walk_k (gd_t (b := true) rfl rfl rfl) rfl rfl rfl (op_build (ps := [(0, .tmp 172)]) rfl fl44 zr44 (vc (ev2 rfl) vn) rfl rfl) (by simp only [upd, za, zaa]; exact rfl) ?_
        refine walk_k (gd_t (b := true) rfl rfl rfl) rfl rfl rfl (op_bs (ps := [(0, .tmp 173)]) rfl sl26 zr44 rfl (vc (ev2 rfl) vn) rfl (by decide) (by decide)) (by simp only [upd, za, zaa]; exact rfl) ?_
        refine walk_k (gd_t (b := true) rfl rfl rfl) rfl rfl rfl (zah [] [] [] rfl (ev1 rfl) (ec (ev2 rfl) en) rfl rfl (mcheck_n) rfl rfl rfl rfl rfl rfl) (by simp only [upd, za, zaa]; exact rfl) ?_
        refine walk_k (gd_t (b := true) rfl rfl rfl) rfl rfl rfl ((op_eql rfl (ev2 rfl) (ev1 rfl)).cast (d' := .val (.bool true)) (by kernel_rfl)) (by simp only [upd, za, zaa]; exact rfl) ?_
        refine zab rfl rfl rfl ((op_and rfl (ev1 rfl) (ev3 rfl (fun _ => rfl))).cast (d' := .val (.bool true)) (by rfl)) ?_
        refine zab rfl rfl rfl (zac (.inr rfl) (ev1 rfl)) ?_
        refine zaf ?_
        refine dwp_ret ?_
        refine kend0 (rs1 rfl (rv_t rfl)) rfl ?_
        rfl
end Go.Proofs.Ytmpodnadoebclaa
