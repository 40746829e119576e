/- Operations, one behind the other; a call by its contract; Operations: numbers, bools, structs, memory that is read and written. Conditions: what a type is, by the kernel; Ends of calls; structs built; bools and strings compared; least and greatest; slices taken over, and given up. Conditions: what a type is, by the kernel; Codes within a function; a loop's rounds one by one; strings; From a contract to the statement: a law whose call returns true whatever its arguments read as; with listed variables, too.  but the kernel's look at the program; Memory that stays from now on, within a call; arrays as rows of elements; parts of arrays; Rows made by make, and copied into; parts of arrays with their room cut; Parts of structs of data that hold plain values; What is known of a value, told otherwise: nil slices as rows of nothing, plain structs as lists of cells; Variables that stay, named by t. No condition. -/
import Derived.Test.YtmpodnadoebclaaQ5
import Derived.Test.YtmpodnadoebclaaRows
namespace Go.Proofs.Ytmpodnadoebclaa
set_option linter.unusedVariables false
set_option linter.unusedSimpArgs false
open Go.RowKit
section
variable {P : Program} {s0 : St} {n : Cx} {ops : Array Oper}
theorem gd_tt {o : Oper} {F : Fr} {j t : Nat} {g b : Bool} (h : o.guard = some (j, true)) (ht : (ops[j]?).bind (·.dst) = some t) (hl : lk F t = some (.opt g (.val (.bool b)))) : Gd ops o F (g && b) := by
  unfold Gd; rw [h]; exact ⟨t, g, b, ht, .inl hl, by simp⟩
end

/-! ### names turned back -/
end Go.Proofs.Ytmpodnadoebclaa
namespace Go.Proofs.Ytmpodnadoebclaa
set_option linter.unusedVariables false
set_option linter.unusedSimpArgs false
open Go.RowKit

/-! ### what a type is -/
section
variable {P : Program} {pc : Bool} {o : Oper} {F : Fr} {M : List Blk}
section
variable {T T' : TypeId} {x y : Operand} {k : IntKind} {p q : Int}
end
section
variable {T : TypeId} {x : Operand} {i p k : Nat} {L R : List Value} {v : Value}
end
section
variable {T : TypeId} {x y : Operand} {i p n sz : Nat} {k : IntKind} {z : Int} {L : List Value}
theorem op_ixd (ho : o.op = .indexAddr T x y) (hT : arE P T = some (n, sz)) (hx : Ev pc F x (.dpf L)) (hy : Ev pc F y (.val (.int k z))) (h : pc = true → 0 ≤ z ∧ z < n) : DOp P pc o F M [] (.dpf (L.drop (z.toNat * sz))) [] := by
  intro hp a s hok hops hfp
  have hr := ev_at hp hx (by simp [ho, Op.operands]) hops
  have h2 := (ev_at hp hy (by simp [ho, Op.operands]) hops).val_eq
  generalize hv : a.eval x = vx at hr
  cases hr with
  | @dpf b c _ hI hc =>
    refine dg_val hok (run_index_arr ho hT hv h2 (h hp).1 (h hp).2) (.dpf hI fun j v hj => ?_)
    rw [List.getElem?_drop] at hj
    rw [Nat.add_assoc]
    exact hc _ v hj
variable {e : TypeId} {by' m : Nat}
end
end
end Go.Proofs.Ytmpodnadoebclaa
namespace Go.Proofs.Ytmpodnadoebclaa
set_option linter.unusedVariables false
set_option linter.unusedSimpArgs false
open Go.RowKit
section
variable {P : Program} {fn : Func} {F : Fr} {M : List Blk} {t u v : Tmp} {d d' e f dr : D}
end
section
variable {P : Program} {pc : Bool} {o : Oper} {F : Fr} {M : List Blk}

/-! ### structs built -/
theorem op_neb {T T' : TypeId} {x y : Operand} {p q : Bool} (ho : o.op = .binOp .neq T x y T') (hT : P.underlying T = some .bool) (hx : Ev pc F x (.val (.bool p))) (hy : Ev pc F y (.val (.bool q))) : DOp P pc o F M [] (.val (.bool (p != q))) [] :=
  op_nev ho hx hy (fun w => by unfold eqGuard; rfl) fun w => by
    have h : ∀ d, (Op.equalIn (d + 1) T (.bool p) (.bool q)).run P w = .ok (p == q) w := fun d => by simp [Op.equalIn, run_underlying hT]
    show (do pure (Value.bool (!(← Op.equalIn (9999 + 1) T (.bool p) (.bool q)))) : Sem Value).run P w = _
    rw [Sem.run_bind, h 9999]; rfl
end
section
variable {P : Program} {s0 : St} {n : Cx}
end
end Go.Proofs.Ytmpodnadoebclaa
namespace Go.Proofs.Ytmpodnadoebclaa
set_option linter.unusedVariables false
set_option linter.unusedSimpArgs false
open Go.RowKit
theorem getD_at {α : Type} {l : List α} {j : Nat} {a0 : α} (h : j < l.length) : l.getD j a0 = l[j] := by simp [List.getD_eq_getElem?_getD, h]
section
variable {P : Program} {s0 : St} {n : Cx}
end
end Go.Proofs.Ytmpodnadoebclaa
namespace Go.Proofs.Ytmpodnadoebclaa
set_option linter.unusedVariables false
set_option linter.unusedSimpArgs false
open Go.ChangeShapes Go.WideShapes Go.ChangeAt Go.RowKit Go.Joins Go.Deep
set_option maxRecDepth 100000
section
variable {H : Type} {enc : TypeId × Value → H} {w : World} {base b0 : Nat} {r : Reach} {spare : Nat → Bool} {held : Bool} {v : Value} {d : DataW H} {p : List MemPlace}
theorem open_struct {α : Type} {t : TypeId} {fs : Array Field} {ps : List Prim} (f : Nat) (en : α → List Value) (ok : α → Prop) (hP : ∀ cs, fitsP ps cs → ∃ a, ok a ∧ cs = en a) (hu : Try.prog.underlying t = some (.struct fs)) (hf : flatT Try.prog f t = some ps)
    (hv : Value.okWide Try.prog w r b0 t v) (h : DataW.Trod enc Try.prog w base spare held t v d p) : ∃ a, ok a ∧ v = .agg (en a).toArray := by
  obtain ⟨cs, rfl, hsz⟩ := okWide_struct hu hv
  obtain ⟨fuel, hfu⟩ := h
  obtain ⟨a, hr, e⟩ := hP _ (flat_trod f _ _ _ _ _ hf hfu)
  refine ⟨a, hr, ?_⟩
  have e2 : cs.toList = en a := e
  rw [← e2]
end
end Go.Proofs.Ytmpodnadoebclaa
namespace Go.Proofs.Ytmpodnadoebclaa
set_option linter.unusedVariables false
set_option linter.unusedSimpArgs false
open Go.RowKit
section
variable {P : Program} {s0 : St} {n : Cx}
end
section
variable {P : Program} {pc : Bool} {o : Oper} {F : Fr} {M : List Blk} {T T' : TypeId} {x y : Operand} {i n sz : Nat} {k : IntKind} {z : Int} {α : Type} {en : α → List Value} {l : List α} {j : Nat}
/-- .. of one that stays -/
theorem op_ixdr (a0 : α) (ho : o.op = .indexAddr T x y) (hT : arE P T = some (n, sz)) (hx : Ev pc F x (.dpf (l.flatMap en))) (hy : Ev pc F y (.val (.int k z))) (hz : pc = true → z = (j : Int)) (hj : pc = true → j < n) (hl : l.length = n) (hen : ∀ a, (en a).length = sz) : DOp P pc o F M [] (.dpf (en (l.getD j a0))) [] := by
  intro hp a s hok hops hfp
  have h1 := op_ixd (M := M) ho hT hx hy (fun hp => by have := hz hp; have := hj hp; omega) hp a s hok hops hfp
  have hjl : j < l.length := by rw [hl]; exact hj hp
  have hz' : z.toNat = j := by have := hz hp; omega
  rw [hz'] at h1
  have key : ∀ (s' : St) v, Rep s' (.dpf ((l.flatMap en).drop (j * sz))) v → Rep s' (.dpf (en (l.getD j a0))) v := by
    intro s' v hr
    cases hr with
    | dpf hI hc =>
      refine .dpf hI fun q v hq => hc q v ?_
      have hql : q < sz := by rw [← hen (l.getD j a0)]; exact (List.getElem?_eq_some_iff.1 hq).1
      rw [List.getElem?_drop, flat_cell hen hjl hql, ← getD_at (a0 := a0) hjl]
      exact hq
  revert h1
  generalize (execOp a.eval o).run P s.w = r
  intro h1
  cases r with
  | halt x w' => exact h1
  | ok nx w' =>
    cases nx with
    | value v => obtain ⟨s', a1, a2, a3, a4⟩ := h1; exact ⟨s', a1, a2, a3, key s' v a4⟩
    | skip => obtain ⟨s', a1, a2, a3, a4⟩ := h1; exact ⟨s', a1, a2, a3, key s' _ a4⟩
    | enter f args => exact ⟨h1.1, h1.2.mono fun e w'' ⟨s', v, b1, b2, b3, b4, b5⟩ => ⟨s', v, b1, b2, b3, b4, key s' v b5⟩⟩
    | round l f tmps asg body => exact ⟨h1.1, h1.2.mono fun e w'' ⟨s', v, b1, b2, b3, b4, b5⟩ => ⟨s', v, b1, b2, b3, b4, key s' v b5⟩⟩
    | _ => exact h1
end
section
variable {P : Program} {pc : Bool} {o : Oper} {F : Fr} {M : List Blk}
end
section
variable {P : Program} {s0 : St} {n : Cx}
end
end Go.Proofs.Ytmpodnadoebclaa
namespace Go.Proofs.Ytmpodnadoebclaa
set_option linter.unusedVariables false
set_option linter.unusedSimpArgs false
open Go.RowKit
section
variable {P : Program} {pc : Bool} {o : Oper} {F : Fr} {M : List Blk} {T e : TypeId} {by' : Nat} {x y : Operand}
end
section
variable {P : Program} {pc : Bool} {o : Oper} {F : Fr} {M : List Blk} {T T' : TypeId} {x y : Operand} {k k' : IntKind} {p q : Int}
end
section
variable {P : Program} {pc : Bool} {o : Oper} {F : Fr} {M : List Blk} {T : TypeId} {x lo hi mx : Operand} {n sz : Nat} {α : Type} {en : α → List Value} {l : List α} {k k1 k2 : IntKind} {lz hz mz : Int}
end
section
variable {P : Program} {pc : Bool} {o : Oper} {F : Fr} {M : List Blk} {T e : TypeId} {by' n : Nat} {ds : List D} {Z : List Value}
theorem nlL_at : ∀ {l : List D} {j : Nat} {d : D}, D.nlL l = true → l[j]? = some d → d.nl = true
  | [], j, d, _, h => by simp at h
  | a :: l, j, d, h, hj => by
    unfold D.nlL at h
    rw [Bool.and_eq_true] at h
    cases j with
    | zero => simp at hj; subst hj; exact h.1
    | succ j => exact nlL_at h.2 (by simpa using hj)
/-- an element of a slice of slices -/
theorem op_ixm {x y : Operand} {k : IntKind} {z : Int} {d : D} (j : Nat) (ho : o.op = .indexAddr T x y) (hT : slE P T = some (e, 1, by')) (hx : Ev pc F x (.slm 1 n ds)) (hy : Ev pc F y (.val (.int k z))) (hz : pc = true → z = (j : Int)) (hd : ds[j]? = some d) : DOp P pc o F M [] (.dpm [d]) [] := by
  intro hp a s hok hops _
  have hr := ev_at hp hx (by simp [ho, Op.operands]) hops
  have h2 := (ev_at hp hy (by simp [ho, Op.operands]) hops).val_eq
  have hjl : j < ds.length := (List.getElem?_eq_some_iff.1 hd).1
  have hz' := hz hp
  generalize hv : a.eval x = vx at hr
  cases hr with
  | @slm _ _ cap ad _ vs hnl hl hn hc ha hvl h hm =>
    rcases hm with hm | ⟨b, q, rfl, hI, hcl⟩
    · rw [hm] at hjl; simp at hjl
    · have hrun := run_index_sl (P := P) (w := s.w) ho hT hv h2 (by omega) (by omega)
      rw [Addr.add_mid] at hrun
      have hjv : j < vs.length := by omega
      refine dg_val hok hrun (.dpm (vs := [vs[j]]) ?_ hI (fun i v hi => ?_) rfl (fun i d' v h1 h2 => ?_))
      · unfold D.nlL
        rw [nlL_at hnl hd]; rfl
      · cases i with
        | zero =>
          simp at hi
          subst hi
          have e : q + z.toNat * 1 + 0 = q + j := by omega
          rw [e]
          exact hcl j _ (List.getElem?_eq_getElem hjv)
        | succ i => simp at hi
      · cases i with
        | zero =>
          simp at h1 h2
          subst h1 h2
          exact h j _ _ hd (List.getElem?_eq_getElem hjv)
        | succ i => simp at h1
end
section
variable {P : Program} {pc : Bool} {o : Oper} {F : Fr} {M : List Blk}
end
section
variable {P : Program} {pc : Bool} {o : Oper} {F : Fr} {M : List Blk}
end
section
variable {P : Program} {pc : Bool} {o : Oper} {F : Fr} {M : List Blk}
end
end Go.Proofs.Ytmpodnadoebclaa
namespace Go.Proofs.Ytmpodnadoebclaa
set_option linter.unusedVariables false
set_option linter.unusedSimpArgs false
open Go.RowKit
section
variable {P : Program} {pc : Bool} {o : Oper} {F : Fr} {M : List Blk}
end
theorem vwL_cons' {σ : List Nat} {V : Nat → Bool} {M : List Blk} {d d' : D} {l l' : List D} (h1 : vw σ V M d = some d') (h2 : vwL σ V M l = some l') : vwL σ V M (d :: l) = some (d' :: l') := by rw [vwL, h1, h2]
end Go.Proofs.Ytmpodnadoebclaa
namespace Go.Proofs.Ytmpodnadoebclaa
set_option linter.unusedVariables false
set_option linter.unusedSimpArgs false
open Go.RowKit
theorem Wk.of_eq {d d' : D} (h : d = d') : Wk d d' := h ▸ Wk.refl d
section
variable {P : Program} {s0 : St} {n : Cx}
end
section
variable {P : Program} {pc : Bool} {o : Oper} {F : Fr} {M : List Blk} {T : TypeId} {x : Operand}
end
end Go.Proofs.Ytmpodnadoebclaa
namespace Go.Proofs.Ytmpodnadoebclaa
set_option linter.unusedVariables false
set_option linter.unusedSimpArgs false
open Go.RowKit
section
variable {P : Program} {s0 : St} {n : Cx}
end
section
variable {P : Program} {pc : Bool} {o : Oper} {F : Fr} {M : List Blk}
end
section
variable {P : Program} {s0 : St} {n : Cx}
end
section
variable {P : Program} {pc : Bool} {o : Oper} {F : Fr} {M : List Blk}
/-- whether two pointers are one, by their addresses -/
theorem op_eqp {T T' e : TypeId} {x y : Operand} {b b' k : Nat} {rw' : Bool} {L1 L2 : List Value} (ho : o.op = .binOp .eql T x y T') (hT : ptT P T = some e) (hS : tyB P e = some (rw', k)) (hk : (k == 0) = false) (hx : Ev pc F x (.pin b L1)) (hy : Ev pc F y (.pin b' L2)) : DOp P pc o F M [] (.val (.bool (decide (b = b')))) [] := by
  intro hp a s hok hops hfp
  have hr := ev_at hp hx (by simp [ho, Op.operands]) hops
  have hry := ev_at hp hy (by simp [ho, Op.operands]) hops
  obtain ⟨d, ti, q1, q2, q3, q4⟩ := tyB_spec hS
  generalize hv : a.eval x = vx at hr
  generalize hvy : a.eval y = vy at hry
  cases hr with
  | pin hI hc h1 =>
  cases hry with
  | pin hI' hc' h2 =>
    have key : (binOp .eql T (.pointer (some ⟨b, 0, none⟩)) (.pointer (some ⟨b', 0, none⟩))).run P s.w = .ok (.bool (decide (b = b'))) s.w := by
      by_cases e2 : b = b'
      · subst e2
        rw [decide_eq_true rfl]
        exact run_eql_ptr_same s.w _ (ptT_spec hT) q2
      · rw [decide_eq_false e2]
        exact run_eql_ptr_other s.w (ptT_spec hT) q2 (by simp at hk; omega) (fun e3 => e2 (by cases e3; rfl)) h1 h2
    refine dg_val hok ?_ (.val _)
    unfold execOp
    simp only [ho, hv, hvy]
    refine run_v ?_
    have hg : (eqGuard .eql T x y (.pointer (some ⟨b, 0, none⟩)) (.pointer (some ⟨b', 0, none⟩))).run P s.w = .ok () s.w := by unfold eqGuard; rfl
    rw [Sem.run_bind, hg]
    exact key
end
end Go.Proofs.Ytmpodnadoebclaa
namespace Go.Proofs.Ytmpodnadoebclaa
set_option linter.unusedVariables false
set_option linter.unusedSimpArgs false
open Go.RowKit
section
variable {P : Program} {pc : Bool} {o : Oper} {F : Fr} {M : List Blk}
end
theorem WkE.list {s : St} {α : Type} {f : α → D} {Q : α → D → Prop} (h : ∀ a, WkE (f a) (Q a)) : ∀ (l : List α) (vs : List Value), vs.length = l.length → (∀ (j : Nat) d v, (l.map f)[j]? = some d → vs[j]? = some v → Rep s d v) → ∃ l' : List D, l'.length = l.length ∧ (∀ (j : Nat) a d, l[j]? = some a → l'[j]? = some d → Q a d) ∧ ∀ (j : Nat) d v, l'[j]? = some d → vs[j]? = some v → Rep s d v
  | [], vs, hl, hr => ⟨[], rfl, fun j a d h => by simp at h, fun j d v h => by simp at h⟩
  | a :: l, [], hl, hr => by simp at hl
  | a :: l, v :: vs, hl, hr => by
    obtain ⟨l', h1, h2, h3⟩ := WkE.list h l vs (by simpa using hl) fun j d v g1 g2 => hr (j + 1) d v (by simpa using g1) (by simpa using g2)
    obtain ⟨d', q1, q2⟩ := h a s v (hr 0 (f a) v rfl rfl)
    refine ⟨d' :: l', by simp [h1], fun j b d g1 g2 => ?_, fun j d u g1 g2 => ?_⟩
    · cases j with
      | zero => simp at g1 g2; subst g1 g2; exact q1
      | succ j => exact h2 j b d (by simpa using g1) (by simpa using g2)
    · cases j with
      | zero => simp at g1 g2; subst g1 g2; exact q2
      | succ j => exact h3 j d u (by simpa using g1) (by simpa using g2)
section
variable {P : Program} {s0 : St} {n : Cx}
theorem dwp_wkE {c : Code} {F : Fr} {M : List Blk} {K : Cont} {d : D} {Q : D → Prop} (t : Nat) (ht : lk F t = some d) (hw : WkE d Q) (h : ∀ d', Q d' → dwp P s0 n c ((t, d') :: F) M K) : dwp P s0 n c F M K := by
  intro a w hi
  obtain ⟨h0, s, h1, h2, h3, h4, h5, h6⟩ := hi
  obtain ⟨d', hq, hr⟩ := hw s _ (h4 t _ ht)
  refine h d' hq a w ⟨h0, s, h1, h2, h3, fun x e he => ?_, h5, h6⟩
  rw [lk_cons] at he
  split at he
  · rename_i e'
    subst e'
    obtain rfl := Option.some.inj he
    exact hr
  · exact h4 x e he
end
end Go.Proofs.Ytmpodnadoebclaa
namespace Go.Proofs.Ytmpodnadoebclaa
set_option maxRecDepth 4000
set_option linter.unusedVariables false
set_option linter.unusedSimpArgs false
open Go.RowKit
def TL.get (t : TL) (i : Nat) : C4 := t.l.getD i zC4
def getC (w : Int) (ts : List TL) (x y : Int) : C4 := (ts.getD (plN w x y) zT).get (pxN x y)
end Go.Proofs.Ytmpodnadoebclaa
namespace Go.Proofs.Ytmpodnadoebclaa
set_option maxRecDepth 4000
set_option linter.unusedVariables false
set_option linter.unusedSimpArgs false
open Go.RowKit
theorem fo85_0 : fdO Try.prog 85 0 = some 0 := by kernel_rfl
theorem fo85_1 : fdO Try.prog 85 1 = some 1 := by kernel_rfl
set_option maxRecDepth 4000 in
set_option maxHeartbeats 1000000 in
theorem color_d (w h : Int) (ds : List D) (ts : List TL) (hr : RowOk ds ts) (hc : CvOk w h ts) (x y : Int) (ho : onS w h x y = true) : DFun Try.prog 48 [cvD w h ds, .val (.agg #[.int .i64 x, .int .i64 y])] [] (.val (.agg (c4 (getC w ts x y)).toArray)) [] := by
  refine zao (N := 30) 0 (by kernel_rfl) Try.func48 rfl rfl rfl (by simp only [fr0, Nat.zero_add, Nat.reduceAdd]; exact rfl) rfl fun s0 hs0 => ?_
  refine zae ?_
  refine zak 2 (by simp only [holes, List.cons_append, List.nil_append]; exact rfl) ?_
  refine zad ?_
  refine zan rfl rfl rfl (op_boxa 0 rfl (ev1 rfl) rfl) (by simp only [upd, za, zaa]; exact rfl) ?_
  refine zan rfl rfl rfl (op_alloc 1 rfl zr87 rfl) (by simp only [upd, za, zaa]; exact rfl) ?_
  refine zaf ?_
  refine zae ?_
  refine dwp_draw [([], []), ([], []), ([], []), ([], []), ([], []), ([0], []), ([], []), ([0], []), ([], []), ([], []), ([], []), ([], []), ([], []), ([], [])] mixed (by kernel_rfl) ?_
  refine zag rfl rfl (zac (.inl rfl) (ev1 rfl)) ?_
  refine zag rfl rfl (op_nc rfl (ev1 rfl) (fun s v h => by cases h; exact ⟨_, rfl⟩)) ?_
  refine zag rfl rfl (op_fadm rfl fo80_0 (ev1 rfl)) ?_
  refine zag rfl rfl (op_lddv [_, _] rfl tb77 (ev1 rfl) rfl rfl) ?_
  refine zag rfl rfl (op_fa rfl fo85_0 (ev1 rfl)) ?_
  refine zag rfl rfl (op_ldo rfl tb3 (ev1 rfl) rfl rfl) ?_
  refine zag rfl rfl (op_fa rfl fo85_1 (ev1 rfl)) ?_
  refine zag rfl rfl (op_ldo rfl tb3 (ev1 rfl) rfl rfl) ?_
  refine zag rfl rfl (zah [] [] [] rfl (ev1 rfl) (ec (ev1 rfl) (ec (ev1 rfl) (ec (ev1 rfl) en))) rfl rfl (splace_d w h x y hc.may ho) rfl rfl rfl rfl rfl rfl) ?_
  refine zag rfl rfl (zac (.inl rfl) (ev1 rfl)) ?_
  refine zag rfl rfl (op_ext rfl (ev1 rfl) rfl) ?_
  refine zag rfl rfl (op_ext rfl (ev1 rfl) rfl) ?_
  refine zag rfl rfl (zac (.inr rfl) (ev1 rfl)) ?_
  refine zag rfl rfl (zac (.inr rfl) (ev1 rfl)) ?_
  refine lex_nil ?_
  refine zae ?_
  obtain ⟨d, hd, _, _, _, hw⟩ := hr.at (hc.pl ho)
  have hpx := (on_pl hc.may ho).2.2.2
  refine zad ?_
  refine zab rfl rfl rfl (zac (.inl rfl) (ev1 rfl)) ?_
  refine zab rfl rfl rfl (op_nc rfl (ev1 rfl) (fun s v h => by cases h; exact ⟨_, rfl⟩)) ?_
  refine zab rfl rfl rfl (op_fadm rfl fo80_1 (ev1 rfl)) ?_
  refine zab rfl rfl rfl (op_lddm rfl tb78 (ev1 rfl) rfl) ?_
  refine zab rfl rfl rfl (zac (.inl rfl) (ev1 rfl)) ?_
  refine zab rfl rfl rfl (op_ixm (plN w x y) rfl sl78 (ev1 rfl) (ev1 rfl) (fun _ => rfl) (hd)) ?_
  refine zab rfl rfl rfl ((op_lddm rfl tb102 (ev1 rfl) rfl).wk (hw)) ?_
  refine zab rfl rfl rfl (zac (.inl rfl) (ev1 rfl)) ?_
  refine zab rfl rfl rfl (op_nc rfl (ev1 rfl) (fun s v h => by cases h; exact ⟨_, rfl⟩)) ?_
  refine zab rfl rfl rfl (op_ixdr (j := pxN x y) (zC4) rfl ar116 (ev1 rfl) (ev1 rfl) (fun _ => by omega) (fun _ => by omega) ((TL.h _)) (fun _ => rfl)) ?_
  refine zab rfl rfl rfl (op_ldwd rfl tb87 (ev1 rfl) rfl) ?_
  refine walk_s rfl rfl (op_stwa rfl tb87 (ev1 rfl) (ev1 rfl) rfl rfl rfl rfl) (by simp only [upd, za, zaa]; exact rfl) ?_
  refine zaf ?_
  refine dwp_ret ?_
  refine kend0 (rs1 rfl (rv_w tb87 rfl rfl rfl)) rfl ?_
  rfl
end Go.Proofs.Ytmpodnadoebclaa
namespace Go.Proofs.Ytmpodnadoebclaa
set_option maxRecDepth 4000
set_option linter.unusedVariables false
set_option linter.unusedSimpArgs false
open Go.RowKit
theorem eq77 {a0 : Int} {a1 : Int} {b0 : Int} {b1 : Int} : eqT Try.prog 9 77 [.int .i64 a0, .int .i64 a1] [.int .i64 b0, .int .i64 b1] = some ((a0 == b0) && ((a1 == b1) && true)) := by kernel_rfl
theorem gd77 : Try.prog.eqGuardType Try.prog.depth 77 = false := by kernel_rfl
def shN : List D → List D → Nat
  | a :: l, b :: r => (if a.adr = b.adr then 1 else 0) + shN l r
  | _, _ => 0
theorem shN_take {l r : List D} {k : Nat} (h : k < l.length) (h2 : k < r.length) : shN (l.take (k + 1)) (r.take (k + 1)) = shN (l.take k) (r.take k) + if l[k].adr = r[k].adr then 1 else 0 := by
  induction l generalizing r k with
  | nil => exact absurd h (Nat.not_lt_zero _)
  | cons a l ih =>
    cases r with
    | nil => exact absurd h2 (Nat.not_lt_zero _)
    | cons b r =>
      cases k with
      | zero => simp [shN]
      | succ k =>
        simp only [List.take_succ_cons, shN, List.getElem_cons_succ]
        rw [ih (by simpa using h) (by simpa using h2)]
        omega
theorem shN_le (l r : List D) : shN l r ≤ l.length := by
  induction l generalizing r with
  | nil => exact Nat.le_refl _
  | cons a l ih =>
    cases r with
    | nil => exact Nat.zero_le _
    | cons b r =>
      have := ih r
      rw [shN, List.length_cons]
      split <;> omega
set_option maxRecDepth 4000 in
set_option maxHeartbeats 1000000 in
theorem shared_d (w h : Int) (da db : List D) (hl : db.length = da.length) (hn : da.length ≤ 5000) (hA : Pins da) (hB : Pins db) : DFun Try.prog 36 [cvD w h da, cvD w h db] [] (.val (.int .i64 (shN da db : Int))) [] := by
  refine zao (N := 48) 0 (by kernel_rfl) Try.func36 rfl rfl rfl (by simp only [fr0, Nat.zero_add, Nat.reduceAdd]; exact rfl) rfl fun s0 hs0 => ?_
  refine zae ?_
  refine zad ?_
  refine zab rfl rfl rfl (zac (.inr rfl) (ev1 rfl)) ?_
  refine zaf ?_
  refine zae ?_
  refine zae ?_
  refine dwp_draw [([], []), ([], []), ([], []), ([], []), ([], []), ([], []), ([], []), ([], []), ([], []), ([], []), ([], []), ([], []), ([], []), ([], []), ([], []), ([], []), ([], [])] mixed (by kernel_rfl) ?_
  refine zag rfl rfl (zac (.inl rfl) (ev1 rfl)) ?_
  refine zag rfl rfl (op_pnilm rfl pt42 (ev1 rfl)) ?_
  refine zag rfl rfl (zac (.inl rfl) (ev1 rfl)) ?_
  refine zai (gd_f rfl rfl rfl) rfl rfl (zac (.inl rfl) (ev1 rfl)) ?_
  refine zai (gd_f rfl rfl rfl) rfl rfl (op_pnilm rfl pt42 (ev2 rfl)) ?_
  refine zag rfl rfl (op_or rfl (ev1 rfl) (ev3 rfl id)) ?_
  refine zag rfl rfl (zac (.inl rfl) (ev1 rfl)) ?_
  refine zai (gd_f rfl rfl rfl) rfl rfl (zac (.inl rfl) (ev1 rfl)) ?_
  refine zai (gd_f rfl rfl rfl) rfl rfl (op_nc rfl (ev2 rfl) (fun s v h => by cases h; exact ⟨_, rfl⟩)) ?_
  refine zai (gd_f rfl rfl rfl) rfl rfl (op_fadm rfl fo80_0 (ev2 rfl)) ?_
  refine zai (gd_f rfl rfl rfl) rfl rfl (op_lddv [_, _] rfl tb77 (ev2 rfl) rfl rfl) ?_
  refine zai (gd_f rfl rfl rfl) rfl rfl (zac (.inl rfl) (ev1 rfl)) ?_
  refine zai (gd_f rfl rfl rfl) rfl rfl (op_nc rfl (ev2 rfl) (fun s v h => by cases h; exact ⟨_, rfl⟩)) ?_
  refine zai (gd_f rfl rfl rfl) rfl rfl (op_fadm rfl fo80_0 (ev2 rfl)) ?_
  refine zai (gd_f rfl rfl rfl) rfl rfl (op_lddv [_, _] rfl tb77 (ev2 rfl) rfl rfl) ?_
  refine zai (gd_f rfl rfl rfl) rfl rfl (op_ner eq77 rfl gd77 tb77 (ev2 rfl) (ev2 rfl)) ?_
  refine zag rfl rfl (op_or rfl (ev1 rfl) (ev3 rfl id)) ?_
  refine lex_nil ?_
  refine dwp_if_f rfl (by simp) ?_
  refine zal ?_
  refine zae ?_
  refine zad ?_
  refine zab rfl rfl rfl (zac (.inr rfl) (ev1 rfl)) ?_
  refine zaf ?_
  refine zae ?_
  refine zae ?_
  refine zad ?_
  refine zab rfl rfl rfl (zac (.inl rfl) (ev1 rfl)) ?_
  refine zab rfl rfl rfl (op_nc rfl (ev1 rfl) (fun s v h => by cases h; exact ⟨_, rfl⟩)) ?_
  refine zab rfl rfl rfl (op_fadm rfl fo80_1 (ev1 rfl)) ?_
  refine zab rfl rfl rfl (op_lddm rfl tb78 (ev1 rfl) rfl) ?_
  refine zab rfl rfl rfl (op_lenm rfl sl78 (ev1 rfl)) ?_
  refine zab rfl rfl rfl (zac (.inl rfl) (ev1 rfl)) ?_
  refine zaf ?_
  refine zam ?_
  refine dwp_loopS ⟨hs0, rfl⟩ (α := Nat) (fun k => [(5, .val (.int .i64 (shN (da.take k) (db.take k) : Int))), (30, .val (.int .i64 (k : Int)))]) [(1, _), (28, _), (29, _)] (fun k => []) [] (fun k => k ≤ da.length) (fun k => da.length - k) 0 [] (Nat.zero_le _) rfl ⟨rfl, rfl, rfl, trivial⟩ ⟨rfl, rfl, trivial⟩ trivial ?_
  intro k hx
  simp only [upd, za, zaa, List.cons_append, List.nil_append]
  have hk := hx
  have hsn := shN_le (da.take k) (db.take k)
  rw [List.length_take] at hsn
  refine zae ?_
  refine zad ?_
  refine zab rfl rfl rfl (op_lss rfl (ev1 rfl) (ev1 rfl)) ?_
  refine zaf ?_
  refine zae ?_
  refine dwp_cond rfl (fun c2 => ?_) (fun c2 => ?_)
  · try simp only [decide_eq_true_eq, decide_eq_false_iff_not, beq_iff_eq, bne_iff_ne, beq_eq_false_iff_ne, bne_eq_false_iff_eq, Bool.not_eq_true', Bool.not_eq_false', Bool.and_eq_true, Bool.or_eq_true, Bool.or_eq_false_iff, ne_eq, Decidable.not_not, Int.not_lt, Int.not_le] at c2
    refine zal ?_
    refine zae ?_
    refine zam ?_
    refine zae ?_
    obtain ⟨L1, hp1⟩ := hA.at (k := k) (by omega)
    obtain ⟨L2, hp2⟩ := hB.at (k := k) (by omega)
    refine zad ?_
    refine zab rfl rfl rfl (zac (.inl rfl) (ev1 rfl)) ?_
    refine zab rfl rfl rfl (op_ixm (k) rfl sl78 (ev1 rfl) (ev1 rfl) (fun _ => rfl) (List.getElem?_eq_getElem (by omega))) ?_
    refine zab rfl rfl rfl ((op_lddm rfl tb102 (ev1 rfl) rfl).wk (Wk.of_eq hp1)) ?_
    refine zab rfl rfl rfl (zac (.inr rfl) (ev1 rfl)) ?_
    refine zab rfl rfl rfl (zac (.inr rfl) (ev1 rfl)) ?_
    refine zaf ?_
    refine zae ?_
    refine zad ?_
    refine zab rfl rfl rfl (zac (.inl rfl) (ev1 rfl)) ?_
    refine zab rfl rfl rfl (zac (.inl rfl) (ev1 rfl)) ?_
    refine zab rfl rfl rfl (op_nc rfl (ev1 rfl) (fun s v h => by cases h; exact ⟨_, rfl⟩)) ?_
    refine zab rfl rfl rfl (op_fadm rfl fo80_1 (ev1 rfl)) ?_
    refine zab rfl rfl rfl (op_lddm rfl tb78 (ev1 rfl) rfl) ?_
    refine zab rfl rfl rfl (zac (.inl rfl) (ev1 rfl)) ?_
    refine zab rfl rfl rfl (op_ixm (k) rfl sl78 (ev1 rfl) (ev1 rfl) (fun _ => rfl) (List.getElem?_eq_getElem (by omega))) ?_
    refine zab rfl rfl rfl ((op_lddm rfl tb102 (ev1 rfl) rfl).wk (Wk.of_eq hp2)) ?_
    refine zab rfl rfl rfl (op_eqp rfl pt102 tb116 rfl (ev1 rfl) (ev1 rfl)) ?_
    refine zaf ?_
    refine dwp_cond rfl (fun c2 => ?_) (fun c2 => ?_)
    · have c3 : da[k].adr = db[k].adr := by simpa using c2
      refine zad ?_
      refine zab rfl rfl rfl (zac (.inl rfl) (ev1 rfl)) ?_
      refine zab rfl rfl rfl (op_add' rfl (ev1 rfl) (ev1 rfl) (fun _ => IntWalk.i64_in _ (by omega))) ?_
      refine zab rfl rfl rfl (zac (.inr rfl) (ev1 rfl)) ?_
      refine zaf ?_
      refine zad ?_
      refine zab rfl rfl rfl (op_add' rfl (ev1 rfl) (ev1 rfl) (fun _ => IntWalk.i64_in _ (by omega))) ?_
      refine zab rfl rfl rfl (zac (.inl rfl) (ev1 rfl)) ?_
      refine zaf ?_
      refine ⟨k + 1, [], by omega, by simp only []; omega, rfl, ⟨by rw [shN_take (by omega) (by omega), if_pos c3]; rfl, rfl, rfl, rfl, rfl, trivial⟩, trivial⟩
    · have c3 : da[k].adr ≠ db[k].adr := by simpa using c2
      refine zal ?_
      refine zad ?_
      refine zab rfl rfl rfl (op_add' rfl (ev1 rfl) (ev1 rfl) (fun _ => IntWalk.i64_in _ (by omega))) ?_
      refine zab rfl rfl rfl (zac (.inl rfl) (ev1 rfl)) ?_
      refine zaf ?_
      refine ⟨k + 1, [], by omega, by simp only []; omega, rfl, ⟨by rw [shN_take (by omega) (by omega), if_neg c3]; rfl, rfl, rfl, rfl, rfl, trivial⟩, trivial⟩
  · try simp only [decide_eq_true_eq, decide_eq_false_iff_not, beq_iff_eq, bne_iff_ne, beq_eq_false_iff_ne, bne_eq_false_iff_eq, Bool.not_eq_true', Bool.not_eq_false', Bool.and_eq_true, Bool.or_eq_true, Bool.or_eq_false_iff, ne_eq, Decidable.not_not, Int.not_lt, Int.not_le] at c2
    refine dwp_exit ?_
    refine zae ?_
    refine zad ?_
    refine zab rfl rfl rfl (zac (.inl rfl) (ev1 rfl)) ?_
    refine zab rfl rfl rfl (zac (.inr rfl) (ev1 rfl)) ?_
    refine zaf ?_
    refine dwp_ret ?_
    rw [List.take_of_length_le (by omega), List.take_of_length_le (by omega)]
    refine kend0 (rs1 rfl (rv_t rfl)) rfl ?_
    rfl
end Go.Proofs.Ytmpodnadoebclaa
namespace Go.Proofs.Ytmpodnadoebclaa
set_option maxRecDepth 4000
set_option linter.unusedVariables false
set_option linter.unusedSimpArgs false
open Go.RowKit
theorem eq87 {a b : C4} : eqT Try.prog 9 87 (c4 a) (c4 b) = some (decide (a = b)) := by
  rw [← eqC_iff]
  exact (show eqT Try.prog 9 87 [.int .u8 a.r, .int .u8 a.g, .int .u8 a.b, .int .u8 a.a] [.int .u8 b.r, .int .u8 b.g, .int .u8 b.b, .int .u8 b.a] = some (eqC a b) by kernel_rfl)
theorem fl85 : fdL Try.prog 85 = some [(0, 1), (1, 1)] := by kernel_rfl
theorem gd87 : Try.prog.eqGuardType Try.prog.depth 87 = false := by kernel_rfl
theorem tb85 : tyB Try.prog 85 = some (true, 2) := by kernel_rfl
theorem zr85 : zrC Try.prog 85 = some [.int .i64 0, .int .i64 0] := by kernel_rfl
def rowEq (w : Int) (ts us : List TL) (y n : Nat) : Bool := (List.range n).all fun (x : Nat) => decide (getC w ts (x : Int) (y : Int) = getC w us (x : Int) (y : Int))
def allEq (w : Int) (ts us : List TL) (W n : Nat) : Bool := (List.range n).all fun (y : Nat) => rowEq w ts us y W
def sameF (w h : Int) (ts us : List TL) : Bool := allEq w ts us (w * 8).toNat (h * 8).toNat
theorem rowEq_succ (w : Int) (ts us : List TL) (y n : Nat) : rowEq w ts us y (n + 1) = (rowEq w ts us y n && decide (getC w ts (n : Int) (y : Int) = getC w us (n : Int) (y : Int))) := by
  unfold rowEq
  rw [List.range_succ, List.all_append]
  simp
theorem allEq_succ (w : Int) (ts us : List TL) (W n : Nat) : allEq w ts us W (n + 1) = (allEq w ts us W n && rowEq w ts us n W) := by
  unfold allEq
  rw [List.range_succ, List.all_append]
  simp
theorem sameF_no {w h : Int} {ts us : List TL} {x y : Nat} (hx : x < (w * 8).toNat) (hy : y < (h * 8).toNat) (hne : getC w ts (x : Int) (y : Int) ≠ getC w us (x : Int) (y : Int)) : sameF w h ts us = false := by
  rw [← Bool.not_eq_true]
  intro h1
  have h2 := List.all_eq_true.1 h1 y (List.mem_range.2 hy)
  have h3 := List.all_eq_true.1 h2 x (List.mem_range.2 hx)
  exact hne (by simpa using h3)
theorem pl_back {w : Int} {p q : Nat} (hw : 1 ≤ w) (hq : q < 64) : plN w ((p : Int) % w * 8 + (q : Int) % 8) ((p : Int) / w * 8 + (q : Int) / 8) = p ∧ pxN ((p : Int) % w * 8 + (q : Int) % 8) ((p : Int) / w * 8 + (q : Int) / 8) = q := by
  have h1 := Int.emod_nonneg (p : Int) (show w ≠ 0 by omega)
  have h2 : (0 : Int) ≤ (p : Int) / w := Int.ediv_nonneg (by omega) (by omega)
  have e := Int.mul_ediv_add_emod (p : Int) w
  unfold plN pxN
  generalize (p : Int) % w = r at h1 e ⊢
  generalize (p : Int) / w = d at h2 e ⊢
  have e1 : (d * 8 + (q : Int) / 8) / 8 = d := by omega
  have e2 : (r * 8 + (q : Int) % 8) / 8 = r := by omega
  have e3 : (d * 8 + (q : Int) / 8) % 8 = (q : Int) / 8 := by omega
  have e4 : (r * 8 + (q : Int) % 8) % 8 = (q : Int) % 8 := by omega
  rw [e1, e2, e3, e4, Int.mul_comm d w]
  omega
theorem on_back {w h : Int} {p q : Nat} (hm : mayS w h = true) (hp : (p : Int) < w * h) (hq : q < 64) : onS w h ((p : Int) % w * 8 + (q : Int) % 8) ((p : Int) / w * 8 + (q : Int) / 8) = true := by
  have hb := mayS_b hm
  have h1 := Int.emod_nonneg (p : Int) (show w ≠ 0 by omega)
  have h3 := Int.emod_lt_of_pos (p : Int) (show 0 < w by omega)
  have h2 : (0 : Int) ≤ (p : Int) / w := Int.ediv_nonneg (by omega) (by omega)
  have h4 : (p : Int) / w < h := Int.ediv_lt_of_lt_mul (by omega) (by rw [Int.mul_comm h w]; exact hp)
  exact onS_iff.2 ⟨by omega, by omega⟩
theorem sameF_iff {w h : Int} {ts us : List TL} (hc : CvOk w h ts) (hd : CvOk w h us) : sameF w h ts us = decide (ts = us) := by
  rw [Bool.eq_iff_iff]
  have hb := mayS_b hc.may
  have l1 := hc.len
  have l2 := hd.len
  constructor
  · intro h1
    rw [decide_eq_true_eq]
    apply List.ext_getElem (by omega)
    intro p hp hp2
    apply TL.ext
    apply List.ext_getElem (by rw [TL.h, TL.h])
    intro q hq hq2
    rw [TL.h] at hq
    have ho := on_back (p := p) (q := q) hc.may (by omega) hq
    obtain ⟨e1, e2⟩ := pl_back (w := w) (p := p) (q := q) (by omega) hq
    have hxy := onS_iff.1 ho
    generalize hX : (p : Int) % w * 8 + (q : Int) % 8 = X at ho e1 e2 hxy
    generalize hY : (p : Int) / w * 8 + (q : Int) / 8 = Y at ho e1 e2 hxy
    have h2 := List.all_eq_true.1 h1 Y.toNat (List.mem_range.2 (by omega))
    have h3 := List.all_eq_true.1 h2 X.toNat (List.mem_range.2 (by omega))
    rw [decide_eq_true_eq, show ((X.toNat : Nat) : Int) = X by omega, show ((Y.toNat : Nat) : Int) = Y by omega] at h3
    unfold getC at h3
    rw [e1, e2, tl_at hp, tl_at hp2] at h3
    unfold TL.get at h3
    rw [List.getD_eq_getElem?_getD, List.getD_eq_getElem?_getD, List.getElem?_eq_getElem (by rw [TL.h]; exact hq), List.getElem?_eq_getElem (by rw [TL.h]; exact hq)] at h3
    exact h3
  · intro h1
    have h1 : ts = us := by simpa using h1
    subst h1
    exact List.all_eq_true.2 fun y _ => List.all_eq_true.2 fun x _ => by simp
set_option maxRecDepth 4000 in
set_option maxHeartbeats 1000000 in
theorem points_d (w h : Int) (hm : mayS w h = true) : DFun Try.prog 47 [.val (.agg #[.int .i64 w, .int .i64 h])] [] (.fn (.func 70) [] [.loc 0 0, .loc 1 0]) [.flat 3 [.int .i64 (h * 8)], .flat 3 [.int .i64 (w * 8)]] := by
  refine zao (N := 11) 0 (by kernel_rfl) Try.func47 rfl rfl rfl (by simp only [fr0, Nat.zero_add, Nat.reduceAdd]; exact rfl) rfl fun s0 hs0 => ?_
  refine zae ?_
  refine zak 1 (by simp only [holes, List.cons_append, List.nil_append]; exact rfl) ?_
  refine zad ?_
  refine zan rfl rfl rfl (op_boxa 0 rfl (ev1 rfl) rfl) (by simp only [upd, za, zaa]; exact rfl) ?_
  refine zab rfl rfl rfl (zac (.inr rfl) (ev1 rfl)) ?_
  refine zaf ?_
  refine zae ?_
  refine zak 2 (by simp only [holes, List.cons_append, List.nil_append]; exact rfl) ?_
  refine zad ?_
  refine zab rfl rfl rfl (op_ldw rfl tb77 (ev1 rfl) rfl rfl) ?_
  refine zab rfl rfl rfl (zah [] [] [] rfl (ev1 rfl) (ec (ev1 rfl) en) rfl rfl (spix_d w h hm) rfl rfl rfl rfl rfl rfl) ?_
  refine zab rfl rfl rfl (zac (.inl rfl) (ev1 rfl)) ?_
  refine zab rfl rfl rfl (op_ext rfl (ev1 rfl) rfl) ?_
  refine zab rfl rfl rfl (op_ext rfl (ev1 rfl) rfl) ?_
  refine zan rfl rfl rfl (op_alloc 1 rfl zr3 rfl) (by simp only [upd, za, zaa]; exact rfl) ?_
  refine zan rfl rfl rfl (op_alloc 2 rfl zr3 rfl) (by simp only [upd, za, zaa]; exact rfl) ?_
  refine walk_s rfl rfl (op_stwi rfl tb3 (ev1 rfl) (ev1 rfl) rfl) (by simp only [upd, za, zaa]; exact rfl) ?_
  refine walk_s rfl rfl (op_stwi rfl tb3 (ev1 rfl) (ev1 rfl) rfl) (by simp only [upd, za, zaa]; exact rfl) ?_
  refine zaf ?_
  refine zae ?_
  refine zad ?_
  refine zab rfl rfl rfl (op_mkf rfl en (ec (ev1 rfl) (ec (ev1 rfl) en))) ?_
  refine zab rfl rfl rfl (zac (.inr rfl) (ev1 rfl)) ?_
  refine zaf ?_
  refine dwp_ret ?_
  refine kend [2, 1] (rs1 rfl (rv_t rfl)) rfl rfl ?_ ⟨rfl, rfl, trivial⟩
  rfl
noncomputable def samA : Code := rfA (pth [1, 0, 1, 1, 1, 1, 0, 1, 0] (bodyOf Try.f18))
noncomputable def samB : Code := rfB (pth [1, 0, 1, 1, 1, 1, 0, 1, 0] (bodyOf Try.f18))
set_option maxRecDepth 4000 in
set_option maxHeartbeats 1000000 in
theorem samRound_true (w h : Int) (da db : List D) (ts us : List TL) (ra : RowOk da ts) (rb : RowOk db us) (ca : CvOk w h ts) (cb : CvOk w h us) (x y : Int) (ho : onS w h x y = true) (b : Bool) (h1 : getC w ts x y = getC w us x y) : DRound Try.prog 0 [.val (.agg #[.int .i64 x, .int .i64 y])] [.lp 42 [(2, .loc 1 0), (3, .loc 2 0), (5, .loc 3 0)] #[33] samA samB .ready none, .mix 42 [cvD w h da], .mix 42 [cvD w h db], .flat 4 [.bool b]] true [.lp 42 [(2, .loc 1 0), (3, .loc 2 0), (5, .loc 3 0)] #[33] samA samB .ready none, .mix 42 [cvD w h da], .mix 42 [cvD w h db], .flat 4 [.bool b]] := by
  refine dround_go 4 rfl rfl (by simp) rfl rfl fun s0 hs0 => ?_
  refine zak 1 (by simp only [holes, List.cons_append, List.nil_append]; exact rfl) ?_
  refine zad ?_
  refine zan rfl rfl rfl (op_alloc 4 rfl zr85 rfl) (by simp only [upd, za, zaa]; exact rfl) ?_
  refine walk_s rfl rfl (op_stwa rfl tb85 (ev1 rfl) (ev1 rfl) rfl rfl rfl rfl) (by simp only [upd, za, zaa]; exact rfl) ?_
  refine zaf ?_
  refine ⟨rfl, ?_⟩
  simp only [za, zaa]
  refine zam ?_
  refine zae ?_
  refine dwp_draw [([1], []), ([4], []), ([], []), ([2], []), ([4], []), ([], []), ([], [])] mixed (by kernel_rfl) ?_
  refine zag rfl rfl (op_ldm rfl tb42 (ev1 rfl) rfl rfl) ?_
  refine zag rfl rfl (op_ldw rfl tb85 (ev1 rfl) rfl rfl) ?_
  refine zag rfl rfl (zah [] [] [] rfl (ev1 rfl) (ec (ev1 rfl) (ec (ev1 rfl) en)) rfl rfl (color_d w h da ts ra ca x y ho) rfl rfl rfl rfl rfl rfl) ?_
  refine zag rfl rfl (op_ldm rfl tb42 (ev1 rfl) rfl rfl) ?_
  refine zag rfl rfl (op_ldw rfl tb85 (ev1 rfl) rfl rfl) ?_
  refine zag rfl rfl (zah [] [] [] rfl (ev1 rfl) (ec (ev1 rfl) (ec (ev1 rfl) en)) rfl rfl (color_d w h db us rb cb x y ho) rfl rfl rfl rfl rfl rfl) ?_
  refine zag rfl rfl (op_ner eq87 rfl gd87 tb87 (ev1 rfl) (ev1 rfl)) ?_
  refine lex_nil ?_
  refine dwp_if_f rfl (by simpa using h1) ?_
  refine zal ?_
  refine ⟨by first | rfl | assumption | simp_all, rfl, [0, 1, 2, 3], rfl, ⟨rfl, rfl, rfl, rfl, trivial⟩⟩
set_option maxRecDepth 4000 in
set_option maxHeartbeats 1000000 in
theorem samRound_false (w h : Int) (da db : List D) (ts us : List TL) (ra : RowOk da ts) (rb : RowOk db us) (ca : CvOk w h ts) (cb : CvOk w h us) (x y : Int) (ho : onS w h x y = true) (b : Bool) (h1 : getC w ts x y ≠ getC w us x y) : DRound Try.prog 0 [.val (.agg #[.int .i64 x, .int .i64 y])] [.lp 42 [(2, .loc 1 0), (3, .loc 2 0), (5, .loc 3 0)] #[33] samA samB .ready none, .mix 42 [cvD w h da], .mix 42 [cvD w h db], .flat 4 [.bool b]] false [.lp 42 [(2, .loc 1 0), (3, .loc 2 0), (5, .loc 3 0)] #[33] samA samB .done (some (.exit 0)), .mix 42 [cvD w h da], .mix 42 [cvD w h db], .flat 4 [.bool false]] := by
  refine dround_go 4 rfl rfl (by simp) rfl rfl fun s0 hs0 => ?_
  refine zak 1 (by simp only [holes, List.cons_append, List.nil_append]; exact rfl) ?_
  refine zad ?_
  refine zan rfl rfl rfl (op_alloc 4 rfl zr85 rfl) (by simp only [upd, za, zaa]; exact rfl) ?_
  refine walk_s rfl rfl (op_stwa rfl tb85 (ev1 rfl) (ev1 rfl) rfl rfl rfl rfl) (by simp only [upd, za, zaa]; exact rfl) ?_
  refine zaf ?_
  refine ⟨rfl, ?_⟩
  simp only [za, zaa]
  refine zam ?_
  refine zae ?_
  refine dwp_draw [([1], []), ([4], []), ([], []), ([2], []), ([4], []), ([], []), ([], [])] mixed (by kernel_rfl) ?_
  refine zag rfl rfl (op_ldm rfl tb42 (ev1 rfl) rfl rfl) ?_
  refine zag rfl rfl (op_ldw rfl tb85 (ev1 rfl) rfl rfl) ?_
  refine zag rfl rfl (zah [] [] [] rfl (ev1 rfl) (ec (ev1 rfl) (ec (ev1 rfl) en)) rfl rfl (color_d w h da ts ra ca x y ho) rfl rfl rfl rfl rfl rfl) ?_
  refine zag rfl rfl (op_ldm rfl tb42 (ev1 rfl) rfl rfl) ?_
  refine zag rfl rfl (op_ldw rfl tb85 (ev1 rfl) rfl rfl) ?_
  refine zag rfl rfl (zah [] [] [] rfl (ev1 rfl) (ec (ev1 rfl) (ec (ev1 rfl) en)) rfl rfl (color_d w h db us rb cb x y ho) rfl rfl rfl rfl rfl rfl) ?_
  refine zag rfl rfl (op_ner eq87 rfl gd87 tb87 (ev1 rfl) (ev1 rfl)) ?_
  refine lex_nil ?_
  refine dwp_if_t rfl (by simpa using h1) ?_
  refine zae ?_
  refine zad ?_
  refine walk_s rfl rfl (op_stwb rfl tb4 (ev1 rfl) (ev1 rfl) rfl) (by simp only [upd, za, zaa]; exact rfl) ?_
  refine zaf ?_
  refine dwp_exit ?_
  refine ⟨by first | rfl | assumption | simp_all, rfl, [0, 1, 2, 3], rfl, ⟨rfl, rfl, rfl, rfl, trivial⟩⟩
theorem samRound (w h : Int) (da db : List D) (ts us : List TL) (ra : RowOk da ts) (rb : RowOk db us) (ca : CvOk w h ts) (cb : CvOk w h us) (x y : Int) (ho : onS w h x y = true) (b : Bool) : DRound Try.prog 0 [.val (.agg #[.int .i64 x, .int .i64 y])] [.lp 42 [(2, .loc 1 0), (3, .loc 2 0), (5, .loc 3 0)] #[33] samA samB .ready none, .mix 42 [cvD w h da], .mix 42 [cvD w h db], .flat 4 [.bool b]] (decide (getC w ts x y = getC w us x y)) [.lp 42 [(2, .loc 1 0), (3, .loc 2 0), (5, .loc 3 0)] #[33] samA samB (rst (decide (getC w ts x y = getC w us x y))) (rpe (.exit 0) (decide (getC w ts x y = getC w us x y))), .mix 42 [cvD w h da], .mix 42 [cvD w h db], .flat 4 [.bool (b && decide (getC w ts x y = getC w us x y))]] := by
  by_cases h1 : getC w ts x y = getC w us x y
  · rw [decide_eq_true h1, Bool.and_true]
    exact samRound_true w h da db ts us ra rb ca cb x y ho b h1
  · rw [decide_eq_false h1, Bool.and_false]
    exact samRound_false w h da db ts us ra rb ca cb x y ho b h1
set_option maxRecDepth 4000 in
set_option maxHeartbeats 1000000 in
theorem pts_same (w h : Int) (da db : List D) (ts us : List TL) (ra : RowOk da ts) (rb : RowOk db us) (ca : CvOk w h ts) (cb : CvOk w h us) (b : Bool) : DFun Try.prog 70 [.yld 0, .loc 4 0, .loc 5 0] [.lp 42 [(2, .loc 1 0), (3, .loc 2 0), (5, .loc 3 0)] #[33] samA samB .ready none, .mix 42 [cvD w h da], .mix 42 [cvD w h db], .flat 4 [.bool b], .flat 3 [.int .i64 (h * 8)], .flat 3 [.int .i64 (w * 8)]] (.tup []) [.lp 42 [(2, .loc 1 0), (3, .loc 2 0), (5, .loc 3 0)] #[33] samA samB (rst (sameF w h ts us)) (rpe (.exit 0) (sameF w h ts us)), .mix 42 [cvD w h da], .mix 42 [cvD w h db], .flat 4 [.bool (b && (sameF w h ts us))], .flat 3 [.int .i64 (h * 8)], .flat 3 [.int .i64 (w * 8)]] := by
  have hb := mayS_b ca.may
  refine zao (N := 22) 6 (by kernel_rfl) Try.func70 rfl rfl rfl (by simp only [fr0, Nat.zero_add, Nat.reduceAdd]; exact rfl) rfl fun s0 hs0 => ?_
  refine zae ?_
  refine zad ?_
  refine zab rfl rfl rfl (op_ldo rfl tb3 (ev1 rfl) rfl rfl) ?_
  refine zab rfl rfl rfl (zac (.inl rfl) (ev1 rfl)) ?_
  refine zaf ?_
  refine zam ?_
  refine dwp_loopS ⟨hs0, rfl⟩ (α := Nat) (fun y => [(7, .val (.int .i64 (y : Int)))]) [(0, _), (2, _), (6, _)] (fun y => []) [_, _, _, _, _, _] (fun y => (y : Int) ≤ h * 8 ∧ allEq w ts us (w * 8).toNat y = true) (fun y => (h * 8).toNat - y) 0 [0, 1, 2, 3, 4, 5] (⟨by omega, rfl⟩) rfl ⟨rfl, rfl, rfl, trivial⟩ ⟨rfl, trivial⟩ ⟨rfl, rfl, rfl, rfl, rfl, rfl, trivial⟩ ?_
  intro y hx
  simp only [upd, za, zaa, List.cons_append, List.nil_append]
  obtain ⟨hy, hey⟩ := hx
  refine zae ?_
  refine zad ?_
  refine zab rfl rfl rfl (op_lss rfl (ev1 rfl) (ev1 rfl)) ?_
  refine zaf ?_
  refine zae ?_
  refine dwp_cond rfl (fun c1 => ?_) (fun c1 => ?_)
  · try simp only [decide_eq_true_eq, decide_eq_false_iff_not, beq_iff_eq, bne_iff_ne, beq_eq_false_iff_ne, bne_eq_false_iff_eq, Bool.not_eq_true', Bool.not_eq_false', Bool.and_eq_true, Bool.or_eq_true, Bool.or_eq_false_iff, ne_eq, Decidable.not_not, Int.not_lt, Int.not_le] at c1
    refine zal ?_
    refine zae ?_
    refine zam ?_
    refine zae ?_
    refine zad ?_
    refine zab rfl rfl rfl (zac (.inl rfl) (ev1 rfl)) ?_
    refine zab rfl rfl rfl (zac (.inr rfl) (ev1 rfl)) ?_
    refine zaf ?_
    refine zae ?_
    refine zad ?_
    refine zab rfl rfl rfl (op_ldo rfl tb3 (ev1 rfl) rfl rfl) ?_
    refine zab rfl rfl rfl (zac (.inl rfl) (ev1 rfl)) ?_
    refine zaf ?_
    refine zam ?_
    refine dwp_loopS ⟨hs0, rfl⟩ (α := Nat) (fun x => [(11, .val (.int .i64 (x : Int)))]) [(0, _), (2, _), (4, _), (6, _), (7, _), (10, _)] (fun x => []) [_, _, _, _, _, _] (fun x => (x : Int) ≤ w * 8 ∧ rowEq w ts us y x = true) (fun x => (w * 8).toNat - x) 0 [0, 1, 2, 3, 4, 5] (⟨by omega, rfl⟩) rfl ⟨rfl, rfl, rfl, rfl, rfl, rfl, trivial⟩ ⟨rfl, trivial⟩ ⟨rfl, rfl, rfl, rfl, rfl, rfl, trivial⟩ ?_
    intro x hx
    simp only [upd, za, zaa, List.cons_append, List.nil_append]
    obtain ⟨hx2, hex⟩ := hx
    refine zae ?_
    refine zad ?_
    refine zab rfl rfl rfl (op_lss rfl (ev1 rfl) (ev1 rfl)) ?_
    refine zaf ?_
    refine zae ?_
    refine dwp_cond rfl (fun c2 => ?_) (fun c2 => ?_)
    · try simp only [decide_eq_true_eq, decide_eq_false_iff_not, beq_iff_eq, bne_iff_ne, beq_eq_false_iff_ne, bne_eq_false_iff_eq, Bool.not_eq_true', Bool.not_eq_false', Bool.and_eq_true, Bool.or_eq_true, Bool.or_eq_false_iff, ne_eq, Decidable.not_not, Int.not_lt, Int.not_le] at c2
      refine zal ?_
      refine zae ?_
      refine zam ?_
      refine zae ?_
      refine zad ?_
      refine zab rfl rfl rfl (zac (.inl rfl) (ev1 rfl)) ?_
      refine zab rfl rfl rfl (zac (.inr rfl) (ev1 rfl)) ?_
      refine zaf ?_
      refine zae ?_
      have ho : onS w h (x : Int) (y : Int) = true := onS_iff.2 ⟨by omega, by omega⟩
      refine zad ?_
      refine zab rfl rfl rfl (zac (.inl rfl) (ev1 rfl)) ?_
      refine zab rfl rfl rfl (zac (.inl rfl) (ev1 rfl)) ?_
      refine zab rfl rfl rfl (zac (.inl rfl) (ev1 rfl)) ?_
      refine zab rfl rfl rfl (op_build (ps := [(0, .tmp 15), (1, .tmp 16)]) rfl fl85 zr85 (vc (ev1 rfl) (vc (ev1 rfl) vn)) rfl rfl) ?_
      refine zan rfl rfl rfl (op_y (i := 0) [0, 1, 2, 3] [] [] rfl (ev1 rfl) (ec (ev1 rfl) en) rfl rfl rfl (samRound w h da db ts us ra rb ca cb x y ho b) rfl rfl rfl rfl rfl) (by simp only [upd, za, zaa]; exact rfl) ?_
      refine zab rfl rfl rfl (op_not rfl (ev1 rfl)) ?_
      refine zaf ?_
      refine dwp_cond rfl (fun c3 => ?_) (fun c3 => ?_)
      · have e1 : decide (getC w ts (x : Int) (y : Int) = getC w us (x : Int) (y : Int)) = false := by simpa using c3
        refine dwp_ret ?_
        have e2 : sameF w h ts us = false := sameF_no (x := x) (y := y) (by omega) (by omega) (by simpa using e1)
        rw [e2, e1]
        refine kend [0, 1, 2, 3, 4, 5] (res_none rfl) rfl rfl ?_ ⟨rfl, rfl, rfl, rfl, rfl, rfl, trivial⟩
        rfl
      · have e1 : decide (getC w ts (x : Int) (y : Int) = getC w us (x : Int) (y : Int)) = true := by simpa using c3
        refine zal ?_
        refine zad ?_
        refine zab rfl rfl rfl (op_add' rfl (ev1 rfl) (ev1 rfl) (fun _ => IntWalk.i64_in _ (by omega))) ?_
        refine zab rfl rfl rfl (zac (.inl rfl) (ev1 rfl)) ?_
        refine zaf ?_
        rw [e1, Bool.and_true]
        refine ⟨x + 1, [0, 1, 2, 3, 4, 5], ⟨by omega, by rw [rowEq_succ, hex, e1]; rfl⟩, by simp only []; omega, rfl, ⟨rfl, rfl, rfl, rfl, rfl, rfl, rfl, trivial⟩, ⟨rfl, rfl, rfl, rfl, rfl, rfl, trivial⟩⟩
    · try simp only [decide_eq_true_eq, decide_eq_false_iff_not, beq_iff_eq, bne_iff_ne, beq_eq_false_iff_ne, bne_eq_false_iff_eq, Bool.not_eq_true', Bool.not_eq_false', Bool.and_eq_true, Bool.or_eq_true, Bool.or_eq_false_iff, ne_eq, Decidable.not_not, Int.not_lt, Int.not_le] at c2
      refine dwp_exit ?_
      refine zad ?_
      refine zab rfl rfl rfl (op_add' rfl (ev1 rfl) (ev1 rfl) (fun _ => IntWalk.i64_in _ (by omega))) ?_
      refine zab rfl rfl rfl (zac (.inl rfl) (ev1 rfl)) ?_
      refine zaf ?_
      obtain rfl : x = (w * 8).toNat := by omega
      refine ⟨y + 1, [0, 1, 2, 3, 4, 5], ⟨by omega, by rw [allEq_succ, hey, hex]; rfl⟩, by simp only []; omega, rfl, ⟨rfl, rfl, rfl, rfl, trivial⟩, ⟨rfl, rfl, rfl, rfl, rfl, rfl, trivial⟩⟩
  · try simp only [decide_eq_true_eq, decide_eq_false_iff_not, beq_iff_eq, bne_iff_ne, beq_eq_false_iff_ne, bne_eq_false_iff_eq, Bool.not_eq_true', Bool.not_eq_false', Bool.and_eq_true, Bool.or_eq_true, Bool.or_eq_false_iff, ne_eq, Decidable.not_not, Int.not_lt, Int.not_le] at c1
    refine dwp_exit ?_
    have e2 : sameF w h ts us = true := by rw [sameF, show (h * 8).toNat = y by omega]; exact hey
    rw [e2, Bool.and_true]
    refine kend [0, 1, 2, 3, 4, 5] (res_none rfl) rfl rfl ?_ ⟨rfl, rfl, rfl, rfl, rfl, rfl, trivial⟩
    rfl
set_option maxRecDepth 4000 in
set_option maxHeartbeats 1000000 in
theorem same_cv (w h : Int) (da db : List D) (ts us : List TL) (ra : RowOk da ts) (rb : RowOk db us) (ca : CvOk w h ts) (cb : CvOk w h us)  : DFun Try.prog 18 [cvD w h da, cvD w h db] [] (.val (.bool (decide (ts = us)))) [] := by
  refine zao (N := 42) 0 (by kernel_rfl) Try.func18 rfl rfl rfl (by simp only [fr0, Nat.zero_add, Nat.reduceAdd]; exact rfl) rfl fun s0 hs0 => ?_
  refine zae ?_
  refine zak 2 (by simp only [holes, List.cons_append, List.nil_append]; exact rfl) ?_
  refine zad ?_
  refine zan rfl rfl rfl (op_boxm 0 rfl (ev1 rfl) (fun s v h => by cases h <;> rfl) rfl) (by simp only [upd, za, zaa]; exact rfl) ?_
  refine zan rfl rfl rfl (op_boxm 1 rfl (ev1 rfl) (fun s v h => by cases h <;> rfl) rfl) (by simp only [upd, za, zaa]; exact rfl) ?_
  refine zab rfl rfl rfl (zac (.inr rfl) (ev1 rfl)) ?_
  refine zaf ?_
  refine dwp_scope ?_
  refine zae ?_
  refine zae ?_
  refine zad ?_
  refine zab rfl rfl rfl (op_ldm rfl tb42 (ev1 rfl) rfl rfl) ?_
  refine zab rfl rfl rfl (op_pnilm rfl pt42 (ev1 rfl)) ?_
  refine zab rfl rfl rfl (zac (.inl rfl) (ev1 rfl)) ?_
  refine zaj (gd_f rfl rfl rfl) rfl rfl rfl (op_ldm rfl tb42 (ev1 rfl) rfl rfl) ?_
  refine zaj (gd_f rfl rfl rfl) rfl rfl rfl (op_pnilm rfl pt42 (ev2 rfl)) ?_
  refine zab rfl rfl rfl (op_or rfl (ev1 rfl) (ev3 rfl id)) ?_
  refine zaf ?_
  refine dwp_if_f rfl (by simp) ?_
  refine zal ?_
  refine zae ?_
  refine zae ?_
  refine dwp_draw [([0], []), ([], []), ([], []), ([], []), ([1], []), ([], []), ([], []), ([], []), ([], [])] mixed (by kernel_rfl) ?_
  refine zag rfl rfl (op_ldm rfl tb42 (ev1 rfl) rfl rfl) ?_
  refine zag rfl rfl (op_nc rfl (ev1 rfl) (fun s v h => by cases h; exact ⟨_, rfl⟩)) ?_
  refine zag rfl rfl (op_fadm rfl fo80_0 (ev1 rfl)) ?_
  refine zag rfl rfl (op_lddv [_, _] rfl tb77 (ev1 rfl) rfl rfl) ?_
  refine zag rfl rfl (op_ldm rfl tb42 (ev1 rfl) rfl rfl) ?_
  refine zag rfl rfl (op_nc rfl (ev1 rfl) (fun s v h => by cases h; exact ⟨_, rfl⟩)) ?_
  refine zag rfl rfl (op_fadm rfl fo80_0 (ev1 rfl)) ?_
  refine zag rfl rfl (op_lddv [_, _] rfl tb77 (ev1 rfl) rfl rfl) ?_
  refine zag rfl rfl (op_ner eq77 rfl gd77 tb77 (ev1 rfl) (ev1 rfl)) ?_
  refine lex_nil ?_
  refine dwp_if_f rfl (by simp) ?_
  refine zal ?_
  refine zae ?_
  refine zak 1 (by simp only [holes, List.cons_append, List.nil_append]; exact rfl) ?_
  refine zad ?_
  refine zan rfl rfl rfl (op_alloc 2 rfl zr4 rfl) (by simp only [upd, za, zaa]; exact rfl) ?_
  refine walk_s rfl rfl (op_stwb rfl tb4 (ev1 rfl) (ev1 rfl) rfl) (by simp only [upd, za, zaa]; exact rfl) ?_
  refine zaf ?_
  refine zae ?_
  refine dwp_label ?_
  refine zae ?_
  refine zae ?_
  refine zak 2 (by simp only [holes, List.cons_append, List.nil_append]; exact rfl) ?_
  refine zad ?_
  refine zab rfl rfl rfl (op_ldm rfl tb42 (ev1 rfl) rfl rfl) ?_
  refine zab rfl rfl rfl (op_nc rfl (ev1 rfl) (fun s v h => by cases h; exact ⟨_, rfl⟩)) ?_
  refine zab rfl rfl rfl (op_fadm rfl fo80_0 (ev1 rfl)) ?_
  refine zab rfl rfl rfl (op_lddv [_, _] rfl tb77 (ev1 rfl) rfl rfl) ?_
  refine zan rfl rfl rfl (zah [] [] [3, 4] rfl (ev1 rfl) (ec (ev1 rfl) en) rfl rfl (points_d w h ca.may) rfl rfl rfl rfl rfl rfl) (by simp only [upd, za, zaa]; exact rfl) ?_
  refine zaf ?_
  refine zam ?_
  refine dwp_hole ?_
  simp only [List.cons_append, List.nil_append]
  refine dwp_rf (FL := [(2, _), (3, _), (5, _)]) (st := (rst (sameF w h ts us))) (pe := (rpe (.exit 0) (sameF w h ts us))) [5, 0, 1, 2, 3, 4] [] [] 5 rfl rfl (ev1 rfl) rfl (subF_lk ⟨rfl, rfl, rfl, trivial⟩) rfl rfl rfl (pts_same w h da db ts us ra rb ca cb _) rfl rfl rfl rfl rfl rfl rfl (rst_busy _) (fun e => ?_) (fun c e => ?_)
  · simp only [upd, za, zaa]
    refine zae ?_
    refine zad ?_
    refine zab rfl rfl rfl (op_ldo rfl tb4 (ev1 rfl) rfl rfl) ?_
    refine zab rfl rfl rfl (zac (.inr rfl) (ev1 rfl)) ?_
    refine zaf ?_
    refine dwp_ret ?_
    refine kend0 (rs1 rfl (rv_t rfl)) rfl ?_
    rw [← sameF_iff ca cb]
    rfl
  · obtain ⟨e1, rfl⟩ : sameF w h ts us = false ∧ c = .exit 0 := by
      cases h : sameF w h ts us <;> simp_all [rpe]
    simp only [upd, za, zaa]
    refine dwp_exit ?_
    refine zae ?_
    refine zad ?_
    refine zab rfl rfl rfl (op_ldo rfl tb4 (ev1 rfl) rfl rfl) ?_
    refine zab rfl rfl rfl (zac (.inr rfl) (ev1 rfl)) ?_
    refine zaf ?_
    refine dwp_ret ?_
    refine kend0 (rs1 rfl (rv_t rfl)) rfl ?_
    rw [← sameF_iff ca cb]
    rfl
end Go.Proofs.Ytmpodnadoebclaa
namespace Go.Proofs.Ytmpodnadoebclaa
set_option maxRecDepth 4000
set_option linter.unusedVariables false
set_option linter.unusedSimpArgs false
open Go.RowKit
theorem Mk.two (m : Mk) : m.ts.length = 2 := by have := m.cv.len; omega
theorem Mk.twod (m : Mk) : m.ds.length = 2 := by rw [m.ok.len, m.two]
theorem mkC_len (m : Mk) : (mkC m).length = 4 := rfl
theorem mk_fl {l : List Mk} : (l.flatMap mkC).length = l.length * 4 := flatM_len' mkC_len l
end Go.Proofs.Ytmpodnadoebclaa
namespace Go.Proofs.Ytmpodnadoebclaa
set_option maxRecDepth 4000
set_option linter.unusedVariables false
set_option linter.unusedSimpArgs false
open Go.RowKit
set_option maxRecDepth 4000 in
set_option maxHeartbeats 1000000 in
theorem told_belv (l : List Mk) (h : l.length ≤ 5000) (i : I3) (hc : chkM l = false) : DFun Try.prog 78 [.yld 0, .loc 4 0] [.lp 23 [(3, .loc 1 0), (6, .loc 2 0), (7, .loc 3 0)] #[13, 14] belA belB .ready none, .flat 35 (idc i), .mix 44 ([.val (.int .u64 0), .val (.int .i64 0), .val (.int .u64 0), .val (.pointer none)]), .flat 4 [.bool false], .mix 26 [.slm 4 (l).length ((l).flatMap mkC)]] (.tup []) [.lp 23 [(3, .loc 1 0), (6, .loc 2 0), (7, .loc 3 0)] #[13, 14] belA belB .ready none, .flat 35 (idc i), .mix 44 ([.val (.int .u64 0), .val (.int .i64 0), .val (.int .u64 0), .val (.pointer none)]), .flat 4 [.bool false], .mix 26 [.slm 4 (l).length ((l).flatMap mkC)]] := by
  refine zao (N := 21) 5 (by kernel_rfl) Try.func78 rfl rfl rfl (by simp only [fr0, Nat.zero_add, Nat.reduceAdd]; exact rfl) rfl fun s0 hs0 => ?_
  refine zae ?_
  refine zae ?_
  refine zad ?_
  refine zab rfl rfl rfl (op_ldm rfl tb26 (ev1 rfl) rfl rfl) ?_
  refine zab rfl rfl rfl (zah [] [] [] rfl (ev1 rfl) (ec (ev1 rfl) en) rfl rfl (mcheck_d _ (by omega)) rfl rfl rfl rfl rfl rfl) ?_
  refine zab rfl rfl rfl (op_neq rfl (ev1 rfl) (ev1 rfl)) ?_
  refine zaf ?_
  refine dwp_if_t rfl (by rw [hc]; rfl) ?_
  refine dwp_ret ?_
  refine kend [0, 1, 2, 3, 4] (res_none rfl) rfl rfl ?_ ⟨rfl, rfl, rfl, rfl, rfl, trivial⟩
  rfl
set_option maxRecDepth 4000 in
set_option maxHeartbeats 1000000 in
theorem below_v (l : List Mk) (h : l.length ≤ 5000) (i : I3) (hc : chkM l = false) : DFun Try.prog 21 [.slm 4 (l).length ((l).flatMap mkC), .val (.agg (idc i).toArray)] [] (.tup [.agg [.val (.int .u64 0), .val (.int .i64 0), .val (.int .u64 0), .val (.pointer none)], .val (.bool false)]) [] := by
  refine zao (N := 23) 0 (by kernel_rfl) Try.func21 rfl rfl rfl (by simp only [fr0, Nat.zero_add, Nat.reduceAdd]; exact rfl) rfl fun s0 hs0 => ?_
  refine dwp_lenm (t := 0) rfl fun hl0 hL0 => ?_
  refine zae ?_
  refine zak 2 (by simp only [holes, List.cons_append, List.nil_append]; exact rfl) ?_
  refine zad ?_
  refine zan rfl rfl rfl (op_boxa 0 rfl (ev1 rfl) rfl) (by simp only [upd, za, zaa]; exact rfl) ?_
  refine zan rfl rfl rfl (op_alloc 1 rfl zr44 rfl) (by simp only [upd, za, zaa]; exact rfl) ?_
  refine zab rfl rfl rfl (zac (.inr rfl) (ev1 rfl)) ?_
  refine zaf ?_
  refine dwp_scope ?_
  refine zae ?_
  refine zak 2 (by simp only [holes, List.cons_append, List.nil_append]; exact rfl) ?_
  refine zad ?_
  refine zab rfl rfl rfl (op_build0 rfl fl44 zr44) ?_
  refine zan rfl rfl rfl (op_alloc 2 rfl zr44 rfl) (by simp only [upd, za, zaa]; exact rfl) ?_
  refine zan rfl rfl rfl (op_alloc 3 rfl zr4 rfl) (by simp only [upd, za, zaa]; exact rfl) ?_
  refine walk_s rfl rfl (op_stwa rfl tb44 (ev1 rfl) (ev1 rfl) rfl rfl rfl rfl) (by simp only [upd, za, zaa]; exact rfl) ?_
  refine walk_s rfl rfl (op_stwb rfl tb4 (ev1 rfl) (ev1 rfl) rfl) (by simp only [upd, za, zaa]; exact rfl) ?_
  refine zaf ?_
  refine zae ?_
  refine dwp_label ?_
  refine zae ?_
  refine zae ?_
  refine zak 1 (by simp only [holes, List.cons_append, List.nil_append]; exact rfl) ?_
  refine zad ?_
  refine zab rfl rfl rfl (zac (.inl rfl) (ev1 rfl)) ?_
  refine zan rfl rfl rfl (zah [] [] [4] rfl (ev1 rfl) (ec (ev1 rfl) en) rfl rfl (told_d l) rfl rfl rfl rfl rfl rfl) (by simp only [upd, za, zaa]; exact rfl) ?_
  refine zaf ?_
  refine zam ?_
  refine dwp_reb 2 reb_mix rfl rfl (by simp only [List.cons_append, List.nil_append, za, zaa, List.map]; exact rfl) ?_
  refine dwp_hole ?_
  simp only [List.cons_append, List.nil_append]
  refine dwp_rf (FL := [(3, _), (6, _), (7, _)]) (st := .ready) (pe := none) [5, 0, 2, 3, 4] [] [] 5 rfl rfl (ev1 rfl) rfl (subF_lk ⟨rfl, rfl, rfl, trivial⟩) rfl rfl rfl (told_belv l h i hc) rfl rfl rfl rfl rfl rfl rfl (by simp) (fun e => ?_) (fun c e => ?_)
  · simp only [upd, za, zaa]
    refine zae ?_
    refine dwp_draw [([2], []), ([3], []), ([1], [1]), ([], [])] mixed (by kernel_rfl) ?_
    refine zag rfl rfl (op_ldmw rfl tb44 (ev1 rfl) rfl rfl) ?_
    refine zag rfl rfl (op_ldo rfl tb4 (ev1 rfl) rfl rfl) ?_
    refine lex_s rfl rfl (op_stam rfl tb44 (ev1 rfl) (ev1 rfl) rfl rfl rfl rfl) rfl (by simp only [upd, za, zaa]; exact rfl) ?_
    refine zag rfl rfl (zac (.inr rfl) (ev1 rfl)) ?_
    refine lex_nil ?_
    refine dwp_ret ?_
    refine kend0 (rs2 rfl (rv_mw tb44 rfl rfl rfl) (rv_t rfl)) rfl ?_
    rfl
  · cases e
end Go.Proofs.Ytmpodnadoebclaa
namespace Go.Proofs.Ytmpodnadoebclaa
set_option maxRecDepth 4000
set_option linter.unusedVariables false
set_option linter.unusedSimpArgs false
open Go.RowKit
def PinK (m : Mk) : Prop := Pins m.ds
def shM (a b : Mk) : Nat := shN a.ds b.ds
theorem shM_le (a b : Mk) : shM a b ≤ 2 := by
  unfold shM
  have := shN_le a.ds b.ds
  have := a.twod
  omega
def shS (l : List Mk) : Nat → Nat
  | 0 => 0
  | 1 => 0
  | k + 2 => shS l (k + 1) + shM (l.getD k zMk) (l.getD (k + 1) zMk)
theorem shS_le {l : List Mk} : ∀ k, shS l k ≤ 2 * k
  | 0 => Nat.zero_le _
  | 1 => Nat.zero_le _
  | k + 2 => by
    have h1 := shS_le (l := l) (k + 1)
    have h2 := shM_le (l.getD k zMk) (l.getD (k + 1) zMk)
    rw [shS]
    omega
noncomputable def shaA : Code := rfA (pth [1, 1, 0, 1, 0] (bodyOf Try.f35))
noncomputable def shaB : Code := rfB (pth [1, 1, 0, 1, 0] (bodyOf Try.f35))
set_option maxRecDepth 4000 in
set_option maxHeartbeats 1000000 in
theorem shaR_p (l : List Mk) (h : l.length ≤ 5000) (hp : ∀ m ∈ l, PinK m) (k : Nat) (hk : k < l.length) (h1 : 0 < k) : DRound Try.prog 0 [.val (.int .i64 (k : Int)), .agg (mkC l[k])] [.lp 24 [(1, .loc 1 0), (3, .loc 2 0)] #[8, 9] shaA shaB .ready none, .mix 26 [.slm 4 (l).length ((l).flatMap mkC)], .flat 3 [.int .i64 (shS l k : Int)]] true [.lp 24 [(1, .loc 1 0), (3, .loc 2 0)] #[8, 9] shaA shaB .ready none, .mix 26 [.slm 4 (l).length ((l).flatMap mkC)], .flat 3 [.int .i64 (shS l (k + 1) : Int)]] := by
  refine dround_go 3 rfl rfl (by simp) rfl rfl fun s0 hs0 => ?_
  refine zae ?_
  refine zad ?_
  refine zab rfl rfl rfl (zac (.inr rfl) (ev1 rfl)) ?_
  refine zaf ?_
  refine zak 1 (by simp only [holes, List.cons_append, List.nil_append]; exact rfl) ?_
  refine zad ?_
  refine zan rfl rfl rfl (op_alloc 3 rfl zr44 rfl) (by simp only [upd, za, zaa]; exact rfl) ?_
  refine walk_s rfl rfl (op_stam2 rfl tb44 (ev1 rfl) (ev1 rfl) rfl rfl rfl rfl) (by simp only [upd, za, zaa]; exact rfl) ?_
  refine zaf ?_
  refine ⟨rfl, ?_⟩
  simp only [za, zaa]
  refine zam ?_
  refine zae ?_
  refine zad ?_
  refine zab rfl rfl rfl (zac (.inl rfl) (ev1 rfl)) ?_
  refine zab rfl rfl rfl (op_gtr rfl (ev1 rfl) (ev1 rfl)) ?_
  refine zaf ?_
  refine dwp_if_t rfl (by simp; omega) ?_
  have pa := hp l[k - 1] (List.getElem_mem _)
  have pb := hp l[k] (List.getElem_mem _)
  have la := l[k - 1].twod
  have lb := l[k].twod
  have hsl := shS_le (l := l) k
  have hsm := shM_le l[k - 1] l[k]
  have hsl2 : shS l (k + 1) = shS l k + shM l[k - 1] l[k] := by
    obtain ⟨j, rfl⟩ : ∃ j, k = j + 1 := ⟨k - 1, by omega⟩
    rw [shS, gM (by omega), gM (by omega)]
    rfl
  unfold shM at hsm hsl2
  refine dwp_draw [([2], []), ([1], []), ([], []), ([], []), ([], []), ([], []), ([], []), ([], []), ([3], []), ([], []), ([], []), ([2], [2])] mixed (by kernel_rfl) ?_
  refine zag rfl rfl (op_ldo rfl tb3 (ev1 rfl) rfl rfl) ?_
  refine zag rfl rfl (op_ldm rfl tb26 (ev1 rfl) rfl rfl) ?_
  refine zag rfl rfl (zac (.inl rfl) (ev1 rfl)) ?_
  refine zag rfl rfl (op_sub' rfl (ev1 rfl) (ev1 rfl) (fun _ => IntWalk.i64_in _ (by omega))) ?_
  refine zag rfl rfl (op_ixmr (k - 1) (by decide) rfl sl26 (ev1 rfl) (ev1 rfl) (fun _ => by omega) (by omega) (fun _ => rfl)) ?_
  refine zag rfl rfl (op_fadm rfl fo44_1 (ev1 rfl)) ?_
  refine zag rfl rfl (op_lddm rfl tb42 (ev1 rfl) rfl) ?_
  refine zag rfl rfl (op_fa rfl fo44_1 (ev1 rfl)) ?_
  refine zag rfl rfl (op_ldm rfl tb42 (ev1 rfl) rfl rfl) ?_
  refine zag rfl rfl (zah [] [] [] rfl (ev1 rfl) (ec (ev1 rfl) (ec (ev1 rfl) en)) rfl rfl (shared_d 2 1 _ _ (by omega) (by omega) pa pb) rfl rfl rfl rfl rfl rfl) ?_
  refine zag rfl rfl (op_add' rfl (ev1 rfl) (ev1 rfl) (fun _ => IntWalk.i64_in _ (by omega))) ?_
  refine lex_s rfl rfl (op_stwi rfl tb3 (ev1 rfl) (ev1 rfl) rfl) rfl (by simp only [upd, za, zaa]; exact rfl) ?_
  refine lex_nil ?_
  refine ⟨by first | rfl | assumption | simp_all, rfl, [0, 1, 2], rfl, ⟨rfl, rfl, by rw [hsl2]; rfl, trivial⟩⟩
set_option maxRecDepth 4000 in
set_option maxHeartbeats 1000000 in
theorem shaR_0 (l : List Mk) (m : Mk) : DRound Try.prog 0 [.val (.int .i64 0), .agg (mkC m)] [.lp 24 [(1, .loc 1 0), (3, .loc 2 0)] #[8, 9] shaA shaB .ready none, .mix 26 [.slm 4 (l).length ((l).flatMap mkC)], .flat 3 [.int .i64 (shS l 0 : Int)]] true [.lp 24 [(1, .loc 1 0), (3, .loc 2 0)] #[8, 9] shaA shaB .ready none, .mix 26 [.slm 4 (l).length ((l).flatMap mkC)], .flat 3 [.int .i64 (shS l (0 + 1) : Int)]] := by
  refine dround_go 3 rfl rfl (by simp) rfl rfl fun s0 hs0 => ?_
  refine zae ?_
  refine zad ?_
  refine zab rfl rfl rfl (zac (.inr rfl) (ev1 rfl)) ?_
  refine zaf ?_
  refine zak 1 (by simp only [holes, List.cons_append, List.nil_append]; exact rfl) ?_
  refine zad ?_
  refine zan rfl rfl rfl (op_alloc 3 rfl zr44 rfl) (by simp only [upd, za, zaa]; exact rfl) ?_
  refine walk_s rfl rfl (op_stam2 rfl tb44 (ev1 rfl) (ev1 rfl) rfl rfl rfl rfl) (by simp only [upd, za, zaa]; exact rfl) ?_
  refine zaf ?_
  refine ⟨rfl, ?_⟩
  simp only [za, zaa]
  refine zam ?_
  refine zae ?_
  refine zad ?_
  refine zab rfl rfl rfl (zac (.inl rfl) (ev1 rfl)) ?_
  refine zab rfl rfl rfl (op_gtr rfl (ev1 rfl) (ev1 rfl)) ?_
  refine zaf ?_
  refine dwp_if_f rfl (by decide) ?_
  refine zal ?_
  refine ⟨by first | rfl | assumption | simp_all, rfl, [0, 1, 2], rfl, ⟨rfl, rfl, rfl, trivial⟩⟩
theorem shaR (l : List Mk) (h : l.length ≤ 5000) (hp : ∀ m ∈ l, PinK m) (k : Nat) (hk : k < l.length) : DRound Try.prog 0 [.val (.int .i64 (k : Int)), .agg (mkC l[k])] [.lp 24 [(1, .loc 1 0), (3, .loc 2 0)] #[8, 9] shaA shaB .ready none, .mix 26 [.slm 4 (l).length ((l).flatMap mkC)], .flat 3 [.int .i64 (shS l k : Int)]] true [.lp 24 [(1, .loc 1 0), (3, .loc 2 0)] #[8, 9] shaA shaB .ready none, .mix 26 [.slm 4 (l).length ((l).flatMap mkC)], .flat 3 [.int .i64 (shS l (k + 1) : Int)]] := by
  cases k with
  | zero => exact shaR_0 l l[0]
  | succ k => exact shaR_p l h hp (k + 1) hk (by omega)
set_option maxRecDepth 4000 in
set_option maxHeartbeats 1000000 in
theorem told_sha (l : List Mk) (h : l.length ≤ 5000) (hp : ∀ m ∈ l, PinK m)  (hc : chkM l = true) : DFun Try.prog 78 [.yld 0, .loc 3 0] [.lp 24 [(1, .loc 1 0), (3, .loc 2 0)] #[8, 9] shaA shaB .ready none, .mix 26 [.slm 4 (l).length ((l).flatMap mkC)], .flat 3 [.int .i64 0], .mix 26 [.slm 4 (l).length ((l).flatMap mkC)]] (.tup []) [.lp 24 [(1, .loc 1 0), (3, .loc 2 0)] #[8, 9] shaA shaB .ready none, .mix 26 [.slm 4 (l).length ((l).flatMap mkC)], .flat 3 [.int .i64 (shS l l.length : Int)], .mix 26 [.slm 4 (l).length ((l).flatMap mkC)]] := by
  refine zao (N := 21) 4 (by kernel_rfl) Try.func78 rfl rfl rfl (by simp only [fr0, Nat.zero_add, Nat.reduceAdd]; exact rfl) rfl fun s0 hs0 => ?_
  refine zae ?_
  refine zae ?_
  refine zad ?_
  refine zab rfl rfl rfl (op_ldm rfl tb26 (ev1 rfl) rfl rfl) ?_
  refine zab rfl rfl rfl (zah [] [] [] rfl (ev1 rfl) (ec (ev1 rfl) en) rfl rfl (mcheck_d _ (by omega)) rfl rfl rfl rfl rfl rfl) ?_
  refine zab rfl rfl rfl (op_neq rfl (ev1 rfl) (ev1 rfl)) ?_
  refine zaf ?_
  refine dwp_if_f rfl (by rw [hc]; rfl) ?_
  refine zal ?_
  refine zae ?_
  refine zad ?_
  refine zab rfl rfl rfl (op_ldm rfl tb26 (ev1 rfl) rfl rfl) ?_
  refine zab rfl rfl rfl (op_lenm rfl sl26 (ev1 rfl)) ?_
  refine zab rfl rfl rfl (zac (.inl rfl) (ev1 rfl)) ?_
  refine zaf ?_
  refine zam ?_
  refine dwp_loopS ⟨hs0, rfl⟩ (α := Nat) (fun k => [(10, .val (.int .i64 (k : Int)))]) [(0, _), (8, _), (9, _)] (fun k => [(2, .flat 3 [.int .i64 (shS l k : Int)])]) [_, _, .hole, _] (fun k => k ≤ l.length) (fun k => l.length - k) 0 [0, 1, 2, 3] (Nat.zero_le _) rfl ⟨rfl, rfl, rfl, trivial⟩ ⟨rfl, trivial⟩ ⟨rfl, rfl, rfl, rfl, trivial⟩ ?_
  intro k hx
  simp only [upd, za, zaa, List.cons_append, List.nil_append]
  have hk := hx
  refine zae ?_
  refine zad ?_
  refine zab rfl rfl rfl (op_lss rfl (ev1 rfl) (ev1 rfl)) ?_
  refine zaf ?_
  refine zae ?_
  refine dwp_cond rfl (fun c2 => ?_) (fun c2 => ?_)
  · try simp only [decide_eq_true_eq, decide_eq_false_iff_not, beq_iff_eq, bne_iff_ne, beq_eq_false_iff_ne, bne_eq_false_iff_eq, Bool.not_eq_true', Bool.not_eq_false', Bool.and_eq_true, Bool.or_eq_true, Bool.or_eq_false_iff, ne_eq, Decidable.not_not, Int.not_lt, Int.not_le] at c2
    refine zal ?_
    refine zae ?_
    refine zam ?_
    refine zae ?_
    refine zak 1 (by simp only [holes, List.cons_append, List.nil_append]; exact rfl) ?_
    refine zad ?_
    refine zab rfl rfl rfl (zac (.inl rfl) (ev1 rfl)) ?_
    refine zab rfl rfl rfl (op_ixmr (k) (by decide) rfl sl26 (ev1 rfl) (ev1 rfl) (fun _ => rfl) (by omega) (fun _ => rfl)) ?_
    refine zab rfl rfl rfl (op_lddr rfl tb44 (ev1 rfl) rfl rfl) ?_
    refine zan rfl rfl rfl (op_alloc 4 rfl zr44 rfl) (by simp only [upd, za, zaa]; exact rfl) ?_
    refine zab rfl rfl rfl (zac (.inr rfl) (ev1 rfl)) ?_
    refine walk_s rfl rfl (op_stam2 rfl tb44 (ev1 rfl) (ev1 rfl) rfl rfl rfl rfl) (by simp only [upd, za, zaa]; exact rfl) ?_
    refine zaf ?_
    refine zae ?_
    refine zad ?_
    refine zab rfl rfl rfl (zac (.inl rfl) (ev1 rfl)) ?_
    refine zab rfl rfl rfl (zac (.inl rfl) (ev1 rfl)) ?_
    refine zab rfl rfl rfl (op_ldmw rfl tb44 (ev1 rfl) rfl rfl) ?_
    refine zan rfl rfl rfl (op_y (i := 0) [0, 1, 2] [] [] rfl (ev1 rfl) (ec (ev1 rfl) (ec (ev1 rfl) en)) rfl rfl rfl (shaR l h hp k (by omega)) rfl rfl rfl rfl rfl) (by simp only [upd, za, zaa]; exact rfl) ?_
    refine zab rfl rfl rfl (op_not rfl (ev1 rfl)) ?_
    refine zaf ?_
    refine dwp_if_f rfl (rfl) ?_
    refine zal ?_
    refine zad ?_
    refine zab rfl rfl rfl (op_add' rfl (ev1 rfl) (ev1 rfl) (fun _ => IntWalk.i64_in _ (by omega))) ?_
    refine zab rfl rfl rfl (zac (.inl rfl) (ev1 rfl)) ?_
    refine zaf ?_
    refine ⟨k + 1, [0, 1, 2, 3], by omega, by simp only []; omega, rfl, ⟨rfl, rfl, rfl, rfl, trivial⟩, ⟨rfl, rfl, rfl, rfl, trivial⟩⟩
  · try simp only [decide_eq_true_eq, decide_eq_false_iff_not, beq_iff_eq, bne_iff_ne, beq_eq_false_iff_ne, bne_eq_false_iff_eq, Bool.not_eq_true', Bool.not_eq_false', Bool.and_eq_true, Bool.or_eq_true, Bool.or_eq_false_iff, ne_eq, Decidable.not_not, Int.not_lt, Int.not_le] at c2
    refine dwp_exit ?_
    have hkl : k = l.length := by omega
    rw [hkl]
    refine kend [0, 1, 2, 3] (res_none rfl) rfl rfl ?_ ⟨rfl, rfl, rfl, rfl, trivial⟩
    rfl
set_option maxRecDepth 4000 in
set_option maxHeartbeats 1000000 in
theorem told_shav (l : List Mk) (h : l.length ≤ 5000) (hc : chkM l = false) : DFun Try.prog 78 [.yld 0, .loc 3 0] [.lp 24 [(1, .loc 1 0), (3, .loc 2 0)] #[8, 9] shaA shaB .ready none, .mix 26 [.slm 4 (l).length ((l).flatMap mkC)], .flat 3 [.int .i64 0], .mix 26 [.slm 4 (l).length ((l).flatMap mkC)]] (.tup []) [.lp 24 [(1, .loc 1 0), (3, .loc 2 0)] #[8, 9] shaA shaB .ready none, .mix 26 [.slm 4 (l).length ((l).flatMap mkC)], .flat 3 [.int .i64 0], .mix 26 [.slm 4 (l).length ((l).flatMap mkC)]] := by
  refine zao (N := 21) 4 (by kernel_rfl) Try.func78 rfl rfl rfl (by simp only [fr0, Nat.zero_add, Nat.reduceAdd]; exact rfl) rfl fun s0 hs0 => ?_
  refine zae ?_
  refine zae ?_
  refine zad ?_
  refine zab rfl rfl rfl (op_ldm rfl tb26 (ev1 rfl) rfl rfl) ?_
  refine zab rfl rfl rfl (zah [] [] [] rfl (ev1 rfl) (ec (ev1 rfl) en) rfl rfl (mcheck_d _ (by omega)) rfl rfl rfl rfl rfl rfl) ?_
  refine zab rfl rfl rfl (op_neq rfl (ev1 rfl) (ev1 rfl)) ?_
  refine zaf ?_
  refine dwp_if_t rfl (by rw [hc]; rfl) ?_
  refine dwp_ret ?_
  refine kend [0, 1, 2, 3] (res_none rfl) rfl rfl ?_ ⟨rfl, rfl, rfl, rfl, trivial⟩
  rfl
set_option maxRecDepth 4000 in
set_option maxHeartbeats 1000000 in
theorem shares_y (l : List Mk) (h : l.length ≤ 5000) (hp : ∀ m ∈ l, PinK m)  (hc : chkM l = true) : DFun Try.prog 35 [.slm 4 (l).length ((l).flatMap mkC)] [] (.val (.int .i64 (shS l l.length : Int))) [] := by
  refine zao (N := 24) 0 (by kernel_rfl) Try.func35 rfl rfl rfl (by simp only [fr0, Nat.zero_add, Nat.reduceAdd]; exact rfl) rfl fun s0 hs0 => ?_
  refine dwp_lenm (t := 0) rfl fun hl0 hL0 => ?_
  refine zae ?_
  refine zak 1 (by simp only [holes, List.cons_append, List.nil_append]; exact rfl) ?_
  refine zad ?_
  refine zan rfl rfl rfl (op_boxm 0 rfl (ev1 rfl) (fun s v h => by cases h <;> rfl) rfl) (by simp only [upd, za, zaa]; exact rfl) ?_
  refine zab rfl rfl rfl (zac (.inr rfl) (ev1 rfl)) ?_
  refine zaf ?_
  refine zae ?_
  refine zak 1 (by simp only [holes, List.cons_append, List.nil_append]; exact rfl) ?_
  refine zad ?_
  refine zan rfl rfl rfl (op_alloc 1 rfl zr3 rfl) (by simp only [upd, za, zaa]; exact rfl) ?_
  refine walk_s rfl rfl (op_stwi rfl tb3 (ev1 rfl) (ev1 rfl) rfl) (by simp only [upd, za, zaa]; exact rfl) ?_
  refine zaf ?_
  refine zae ?_
  refine zae ?_
  refine zak 1 (by simp only [holes, List.cons_append, List.nil_append]; exact rfl) ?_
  refine zad ?_
  refine zab rfl rfl rfl (op_ldm rfl tb26 (ev1 rfl) rfl rfl) ?_
  refine zan rfl rfl rfl (zah [] [] [2] rfl (ev1 rfl) (ec (ev1 rfl) en) rfl rfl (told_d l) rfl rfl rfl rfl rfl rfl) (by simp only [upd, za, zaa]; exact rfl) ?_
  refine zaf ?_
  refine zam ?_
  refine dwp_hole ?_
  simp only [List.cons_append, List.nil_append]
  refine dwp_rf (FL := [(1, _), (3, _)]) (st := .ready) (pe := none) [3, 0, 1, 2] [] [] 3 rfl rfl (ev1 rfl) rfl (subF_lk ⟨rfl, rfl, trivial⟩) rfl rfl rfl (told_sha l h hp hc) rfl rfl rfl rfl rfl rfl rfl (by simp) (fun e => ?_) (fun c e => ?_)
  · simp only [upd, za, zaa]
    refine zae ?_
    refine zad ?_
    refine zab rfl rfl rfl (op_ldo rfl tb3 (ev1 rfl) rfl rfl) ?_
    refine zab rfl rfl rfl (zac (.inr rfl) (ev1 rfl)) ?_
    refine zaf ?_
    refine dwp_ret ?_
    refine kend0 (rs1 rfl (rv_t rfl)) rfl ?_
    rfl
  · cases e
set_option maxRecDepth 4000 in
set_option maxHeartbeats 1000000 in
theorem shares_v (l : List Mk) (h : l.length ≤ 5000) (hc : chkM l = false) : DFun Try.prog 35 [.slm 4 (l).length ((l).flatMap mkC)] [] (.val (.int .i64 0)) [] := by
  refine zao (N := 24) 0 (by kernel_rfl) Try.func35 rfl rfl rfl (by simp only [fr0, Nat.zero_add, Nat.reduceAdd]; exact rfl) rfl fun s0 hs0 => ?_
  refine dwp_lenm (t := 0) rfl fun hl0 hL0 => ?_
  refine zae ?_
  refine zak 1 (by simp only [holes, List.cons_append, List.nil_append]; exact rfl) ?_
  refine zad ?_
  refine zan rfl rfl rfl (op_boxm 0 rfl (ev1 rfl) (fun s v h => by cases h <;> rfl) rfl) (by simp only [upd, za, zaa]; exact rfl) ?_
  refine zab rfl rfl rfl (zac (.inr rfl) (ev1 rfl)) ?_
  refine zaf ?_
  refine zae ?_
  refine zak 1 (by simp only [holes, List.cons_append, List.nil_append]; exact rfl) ?_
  refine zad ?_
  refine zan rfl rfl rfl (op_alloc 1 rfl zr3 rfl) (by simp only [upd, za, zaa]; exact rfl) ?_
  refine walk_s rfl rfl (op_stwi rfl tb3 (ev1 rfl) (ev1 rfl) rfl) (by simp only [upd, za, zaa]; exact rfl) ?_
  refine zaf ?_
  refine zae ?_
  refine zae ?_
  refine zak 1 (by simp only [holes, List.cons_append, List.nil_append]; exact rfl) ?_
  refine zad ?_
  refine zab rfl rfl rfl (op_ldm rfl tb26 (ev1 rfl) rfl rfl) ?_
  refine zan rfl rfl rfl (zah [] [] [2] rfl (ev1 rfl) (ec (ev1 rfl) en) rfl rfl (told_d l) rfl rfl rfl rfl rfl rfl) (by simp only [upd, za, zaa]; exact rfl) ?_
  refine zaf ?_
  refine zam ?_
  refine dwp_hole ?_
  simp only [List.cons_append, List.nil_append]
  refine dwp_rf (FL := [(1, _), (3, _)]) (st := .ready) (pe := none) [3, 0, 1, 2] [] [] 3 rfl rfl (ev1 rfl) rfl (subF_lk ⟨rfl, rfl, trivial⟩) rfl rfl rfl (told_shav l h hc) rfl rfl rfl rfl rfl rfl rfl (by simp) (fun e => ?_) (fun c e => ?_)
  · simp only [upd, za, zaa]
    refine zae ?_
    refine zad ?_
    refine zab rfl rfl rfl (op_ldo rfl tb3 (ev1 rfl) rfl rfl) ?_
    refine zab rfl rfl rfl (zac (.inr rfl) (ev1 rfl)) ?_
    refine zaf ?_
    refine dwp_ret ?_
    refine kend0 (rs1 rfl (rv_t rfl)) rfl ?_
    rfl
  · cases e
end Go.Proofs.Ytmpodnadoebclaa
namespace Go.Proofs.Ytmpodnadoebclaa
set_option maxRecDepth 4000
set_option linter.unusedVariables false
set_option linter.unusedSimpArgs false
open Go.RowKit
def ksM (m : Mk) : I3 × List TL := (m.i, m.ts)
def ksL (l : List Mk) : List (I3 × List TL) := l.map ksM
theorem ksL_take {l : List Mk} {k : Nat} (h : k < l.length) : ksL (l.take (k + 1)) = ksL (l.take k) ++ [ksM l[k]] := by rw [List.take_succ_eq_append_getElem h, ksL, List.map_append]; rfl
theorem ks_ne {a b : Mk} (h : (decide (a.i = b.i) && decide (a.ts = b.ts)) = false) : ksM a ≠ ksM b := fun e => by
  unfold ksM at e
  simp only [Prod.mk.injEq] at e
  rw [e.1, e.2] at h
  simp at h
theorem ks_eq {a b : Mk} (h : (decide (a.i = b.i) && decide (a.ts = b.ts)) = true) : ksM a = ksM b := by
  simp at h
  unfold ksM
  rw [h.1, h.2]
set_option maxRecDepth 4000 in
set_option maxHeartbeats 1000000 in
theorem same1_d (a b : Mk) : DFun Try.prog 63 [.agg (mkC a), .agg (mkC b)] [] (.val (.bool (decide (a.i = b.i) && decide (a.ts = b.ts)))) [] := by
  refine zao (N := 17) 0 (by kernel_rfl) Try.func63 rfl rfl rfl (by simp only [fr0, Nat.zero_add, Nat.reduceAdd]; exact rfl) rfl fun s0 hs0 => ?_
  refine zae ?_
  refine zak 2 (by simp only [holes, List.cons_append, List.nil_append]; exact rfl) ?_
  refine zad ?_
  refine zan rfl rfl rfl (op_boxam 0 rfl (ev1 rfl) rfl) (by simp only [upd, za, zaa]; exact rfl) ?_
  refine zan rfl rfl rfl (op_boxam 1 rfl (ev1 rfl) rfl) (by simp only [upd, za, zaa]; exact rfl) ?_
  refine zab rfl rfl rfl (zac (.inr rfl) (ev1 rfl)) ?_
  refine zaf ?_
  refine zae ?_
  refine zad ?_
  refine zab rfl rfl rfl (op_fa rfl fo44_0 (ev1 rfl)) ?_
  refine zab rfl rfl rfl (op_ldmv (R := [_, _, _]) rfl tb35 (ev1 rfl) rfl rfl rfl) ?_
  refine zab rfl rfl rfl (op_fa rfl fo44_0 (ev1 rfl)) ?_
  refine zab rfl rfl rfl (op_ldmv (R := [_, _, _]) rfl tb35 (ev1 rfl) rfl rfl rfl) ?_
  refine zab rfl rfl rfl (op_eqr eq35 rfl gd35 tb35 (ev1 rfl) (ev1 rfl)) ?_
  refine zab rfl rfl rfl (zac (.inl rfl) (ev1 rfl)) ?_
  refine zaj (gd_t rfl rfl rfl) rfl rfl rfl (op_fa rfl fo44_1 (ev1 rfl)) ?_
  refine zaj (gd_t rfl rfl rfl) rfl rfl rfl (op_ldm rfl tb42 (ev2 rfl) rfl rfl) ?_
  refine zaj (gd_t rfl rfl rfl) rfl rfl rfl (op_fa rfl fo44_1 (ev1 rfl)) ?_
  refine zaj (gd_t rfl rfl rfl) rfl rfl rfl (op_ldm rfl tb42 (ev2 rfl) rfl rfl) ?_
  refine zaj (gd_t rfl rfl rfl) rfl rfl rfl (zah [] [] [] rfl (ev1 rfl) (ec (ev2 rfl) (ec (ev2 rfl) en)) rfl rfl (same_cv 2 1 a.ds b.ds a.ts b.ts a.ok b.ok a.cv b.cv) rfl rfl rfl rfl rfl rfl) ?_
  refine zab rfl rfl rfl (op_and rfl (ev1 rfl) (ev3 rfl id)) ?_
  refine zab rfl rfl rfl (zac (.inr rfl) (ev1 rfl)) ?_
  refine zaf ?_
  refine dwp_ret ?_
  refine kend0 (rs1 rfl (rv_t rfl)) rfl ?_
  rfl
set_option maxRecDepth 4000 in
set_option maxHeartbeats 1000000 in
theorem equalM (l r : List Mk) : DFun Try.prog 62 [.slm 4 (l).length ((l).flatMap mkC), .slm 4 (r).length ((r).flatMap mkC), .fn (.func 63) [] []] [] (.val (.bool (decide (ksL l = ksL r)))) [] := by
  refine zao (N := 32) 0 (by kernel_rfl) Try.func62 rfl rfl rfl (by simp only [fr0, Nat.zero_add, Nat.reduceAdd]; exact rfl) rfl fun s0 hs0 => ?_
  refine dwp_lenm (t := 0) rfl fun hl0 hL0 => ?_
  refine dwp_lenm (t := 1) rfl fun hl1 hL1 => ?_
  refine zae ?_
  refine zad ?_
  refine zab rfl rfl rfl (zac (.inr rfl) (ev1 rfl)) ?_
  refine zaf ?_
  refine zae ?_
  refine zae ?_
  refine zad ?_
  refine zab rfl rfl rfl (zac (.inl rfl) (ev1 rfl)) ?_
  refine zab rfl rfl rfl (op_lenm rfl sl26 (ev1 rfl)) ?_
  refine zab rfl rfl rfl (zac (.inl rfl) (ev1 rfl)) ?_
  refine zab rfl rfl rfl (op_lenm rfl sl26 (ev1 rfl)) ?_
  refine zab rfl rfl rfl (op_neq rfl (ev1 rfl) (ev1 rfl)) ?_
  refine zaf ?_
  refine dwp_cond rfl (fun c1 => ?_) (fun c1 => ?_)
  · have hne : ksL l ≠ ksL r := fun e => by
      have h1 : (ksL l).length = (ksL r).length := by rw [e]
      rw [ksL, ksL, List.length_map, List.length_map] at h1
      rw [h1] at c1
      simp at c1
    refine zae ?_
    refine zad ?_
    refine zab rfl rfl rfl (zac (.inr rfl) (ev1 rfl)) ?_
    refine zaf ?_
    refine dwp_ret ?_
    refine kend0 (rs1 rfl (rv_t rfl)) rfl ?_
    rw [decide_eq_false hne]
  · have hlen : l.length = r.length := by
      have h := c1
      simp at h
      omega
    refine zal ?_
    refine zae ?_
    refine zae ?_
    refine zad ?_
    refine zab rfl rfl rfl (zac (.inl rfl) (ev1 rfl)) ?_
    refine zab rfl rfl rfl (op_lenm rfl sl26 (ev1 rfl)) ?_
    refine zab rfl rfl rfl (zac (.inl rfl) (ev1 rfl)) ?_
    refine zaf ?_
    refine zam ?_
    refine dwp_loopS ⟨hs0, rfl⟩ (α := Nat) (fun k => [(17, .val (.int .i64 (k : Int)))]) [(1, _), (2, _), (15, _), (16, _)] (fun k => []) [] (fun k => k ≤ l.length ∧ ksL (l.take k) = ksL (r.take k)) (fun k => l.length - k) 0 [] (⟨Nat.zero_le _, rfl⟩) rfl ⟨rfl, rfl, rfl, rfl, trivial⟩ ⟨rfl, trivial⟩ trivial ?_
    intro k hx
    simp only [upd, za, zaa, List.cons_append, List.nil_append]
    obtain ⟨hk, he⟩ := hx
    refine zae ?_
    refine zad ?_
    refine zab rfl rfl rfl (op_lss rfl (ev1 rfl) (ev1 rfl)) ?_
    refine zaf ?_
    refine zae ?_
    refine dwp_cond rfl (fun c2 => ?_) (fun c2 => ?_)
    · try simp only [decide_eq_true_eq, decide_eq_false_iff_not, beq_iff_eq, bne_iff_ne, beq_eq_false_iff_ne, bne_eq_false_iff_eq, Bool.not_eq_true', Bool.not_eq_false', Bool.and_eq_true, Bool.or_eq_true, Bool.or_eq_false_iff, ne_eq, Decidable.not_not, Int.not_lt, Int.not_le] at c2
      refine zal ?_
      refine zae ?_
      refine zam ?_
      refine zae ?_
      refine zak 1 (by simp only [holes, List.cons_append, List.nil_append]; exact rfl) ?_
      refine zad ?_
      refine zab rfl rfl rfl (zac (.inl rfl) (ev1 rfl)) ?_
      refine zab rfl rfl rfl (op_ixmr (k) (by decide) rfl sl26 (ev1 rfl) (ev1 rfl) (fun _ => rfl) (by omega) (fun _ => rfl)) ?_
      refine zab rfl rfl rfl (op_lddr rfl tb44 (ev1 rfl) rfl rfl) ?_
      refine zan rfl rfl rfl (op_alloc 0 rfl zr44 rfl) (by simp only [upd, za, zaa]; exact rfl) ?_
      refine zab rfl rfl rfl (zac (.inr rfl) (ev1 rfl)) ?_
      refine walk_s rfl rfl (op_stam2 rfl tb44 (ev1 rfl) (ev1 rfl) rfl rfl rfl rfl) (by simp only [upd, za, zaa]; exact rfl) ?_
      refine zaf ?_
      refine zae ?_
      refine zak 1 (by simp only [holes, List.cons_append, List.nil_append]; exact rfl) ?_
      refine zad ?_
      refine zab rfl rfl rfl (zac (.inl rfl) (ev1 rfl)) ?_
      refine zab rfl rfl rfl (zac (.inl rfl) (ev1 rfl)) ?_
      refine zab rfl rfl rfl (op_ixmr (k) (by decide) rfl sl26 (ev1 rfl) (ev1 rfl) (fun _ => rfl) (by omega) (fun _ => rfl)) ?_
      refine zab rfl rfl rfl (op_lddr rfl tb44 (ev1 rfl) rfl rfl) ?_
      refine zan rfl rfl rfl (op_alloc 1 rfl zr44 rfl) (by simp only [upd, za, zaa]; exact rfl) ?_
      refine walk_s rfl rfl (op_stam2 rfl tb44 (ev1 rfl) (ev1 rfl) rfl rfl rfl rfl) (by simp only [upd, za, zaa]; exact rfl) ?_
      refine zaf ?_
      refine zae ?_
      refine zad ?_
      refine zab rfl rfl rfl (zac (.inl rfl) (ev1 rfl)) ?_
      refine zab rfl rfl rfl (op_ldmw rfl tb44 (ev1 rfl) rfl rfl) ?_
      refine zab rfl rfl rfl (op_ldmw rfl tb44 (ev1 rfl) rfl rfl) ?_
      refine zab rfl rfl rfl (zah [] [] [] rfl (ev1 rfl) (ec (ev1 rfl) (ec (ev1 rfl) en)) rfl rfl (same1_d l[k] r[k]) rfl rfl rfl rfl rfl rfl) ?_
      refine zab rfl rfl rfl (op_not rfl (ev1 rfl)) ?_
      refine zaf ?_
      refine dwp_cond rfl (fun c2 => ?_) (fun c2 => ?_)
      · have c3 : (decide (l[k].i = r[k].i) && decide (l[k].ts = r[k].ts)) = false := bn_t c2
        refine zae ?_
        refine zad ?_
        refine zab rfl rfl rfl (zac (.inr rfl) (ev1 rfl)) ?_
        refine zaf ?_
        refine dwp_ret ?_
        refine kend0 (rs1 rfl (rv_t rfl)) rfl ?_
        have hne : ksL l ≠ ksL r := fun e => by
          have h1 : (ksL l)[k]? = (ksL r)[k]? := by rw [e]
          rw [ksL, ksL, List.getElem?_map, List.getElem?_map, List.getElem?_eq_getElem (by omega), List.getElem?_eq_getElem (by omega)] at h1
          exact ks_ne c3 (Option.some.inj h1)
        rw [decide_eq_false hne]
      · have c3 : (decide (l[k].i = r[k].i) && decide (l[k].ts = r[k].ts)) = true := bn_f c2
        refine zal ?_
        refine zad ?_
        refine zab rfl rfl rfl (op_add' rfl (ev1 rfl) (ev1 rfl) (fun _ => IntWalk.i64_in _ (by omega))) ?_
        refine zab rfl rfl rfl (zac (.inl rfl) (ev1 rfl)) ?_
        refine zaf ?_
        refine ⟨k + 1, [], ⟨by omega, by rw [ksL_take (by omega), ksL_take (by omega), he, ks_eq c3]⟩, by simp only []; omega, rfl, ⟨rfl, rfl, rfl, rfl, rfl, trivial⟩, trivial⟩
    · try simp only [decide_eq_true_eq, decide_eq_false_iff_not, beq_iff_eq, bne_iff_ne, beq_eq_false_iff_ne, bne_eq_false_iff_eq, Bool.not_eq_true', Bool.not_eq_false', Bool.and_eq_true, Bool.or_eq_true, Bool.or_eq_false_iff, ne_eq, Decidable.not_not, Int.not_lt, Int.not_le] at c2
      refine dwp_exit ?_
      refine zae ?_
      refine zad ?_
      refine zab rfl rfl rfl (zac (.inr rfl) (ev1 rfl)) ?_
      refine zaf ?_
      refine dwp_ret ?_
      refine kend0 (rs1 rfl (rv_t rfl)) rfl ?_
      rw [List.take_of_length_le (by omega), List.take_of_length_le (by omega)] at he
      rw [decide_eq_true he]
set_option maxRecDepth 4000 in
set_option maxHeartbeats 1000000 in
theorem msame_d (l r : List Mk) : DFun Try.prog 33 [.slm 4 (l).length ((l).flatMap mkC), .slm 4 (r).length ((r).flatMap mkC)] [] (.val (.bool (decide (ksL l = ksL r)))) [] := by
  refine zao (N := 8) 0 (by kernel_rfl) Try.func33 rfl rfl rfl (by simp only [fr0, Nat.zero_add, Nat.reduceAdd]; exact rfl) rfl fun s0 hs0 => ?_
  refine dwp_lenm (t := 0) rfl fun hl0 hL0 => ?_
  refine dwp_lenm (t := 1) rfl fun hl1 hL1 => ?_
  refine zae ?_
  refine zad ?_
  refine zab rfl rfl rfl (zac (.inr rfl) (ev1 rfl)) ?_
  refine zaf ?_
  refine zae ?_
  refine zad ?_
  refine zab rfl rfl rfl (zac (.inl rfl) (ev1 rfl)) ?_
  refine zab rfl rfl rfl (zac (.inl rfl) (ev1 rfl)) ?_
  refine zab rfl rfl rfl (zah [] [] [] rfl (ev1 rfl) (ec (ev1 rfl) (ec (ev1 rfl) (ec (ev1 rfl) en))) rfl rfl (equalM l r) rfl rfl rfl rfl rfl rfl) ?_
  refine zab rfl rfl rfl (zac (.inr rfl) (ev1 rfl)) ?_
  refine zaf ?_
  refine dwp_ret ?_
  refine kend0 (rs1 rfl (rv_t rfl)) rfl ?_
  rfl
end Go.Proofs.Ytmpodnadoebclaa
namespace Go.Proofs.Ytmpodnadoebclaa
set_option maxRecDepth 4000
set_option linter.unusedVariables false
set_option linter.unusedSimpArgs false
open Go.RowKit
def rsN (l : List I3) : Nat → Bool
  | 0 => true
  | k + 1 => rsN l k && (mayR (l.getD k zI3) && (decide (k = 0) || lessR (l.getD (k - 1) zI3) (l.getD k zI3)))
def rsB (l : List I3) : Bool := rsN l l.length
theorem rsN_split {l : List I3} : ∀ n, n ≤ l.length → rsN l n = ((l.take n).all mayR && risN l n)
  | 0, _ => rfl
  | 1, h => by
    rw [rsN, rsN, List.take_succ_eq_append_getElem (by omega), gI (by omega)]
    simp [risN]
  | n + 2, h => by
    rw [rsN, rsN_split (n + 1) (by omega), List.take_succ_eq_append_getElem (i := n + 1) (by omega), List.all_append, risN, gI (k := n + 1) (by omega)]
    rw [Nat.add_sub_cancel, decide_eq_false (Nat.succ_ne_zero n), Bool.false_or, List.all_cons, List.all_nil, Bool.and_true]
    cases (l.take (n + 1)).all mayR <;> cases risN l (n + 1) <;> cases mayR l[n + 1] <;> simp
theorem rsB_ok {l : List I3} : rsB l = true ↔ okI l := by
  unfold rsB
  rw [rsN_split _ (Nat.le_refl _), List.take_length, Bool.and_eq_true]
  constructor
  · rintro ⟨h1, h2⟩; exact (ris_ok h1).1 h2
  · intro h
    have h1 : l.all mayR = true := List.all_eq_true.2 h.1
    exact ⟨h1, (ris_ok h1).2 h⟩
def rtB (l : List I3) : Bool := rsB l && decide (l.length ≤ 6)
theorem rtB_ok {l : List I3} : rtB l = true ↔ l.length ≤ 6 ∧ okI l := by
  unfold rtB
  rw [Bool.and_eq_true, rsB_ok, decide_eq_true_eq]
  exact And.comm
theorem chk_rt (l : List Mk) : chkM l = rtB (idsK l) := by
  rw [Bool.eq_iff_iff, chk_ok, rtB_ok, List.length_map]
def foN (l : List I3) (t : Int) : Nat := (l.filter fun i => decide (i.t ≤ t)).length
end Go.Proofs.Ytmpodnadoebclaa
namespace Go.Proofs.Ytmpodnadoebclaa
set_option maxRecDepth 4000
set_option linter.unusedVariables false
set_option linter.unusedSimpArgs false
open Go.RowKit
theorem rowM_at {ids : List I3} {b : Int} {k : Nat} (h : k < (rowM ids b).length) : (rowM ids b)[k] = mkN (ids.getD k zI3) (b + (k : Int)) := by simp [rowM]
theorem rowM_ids (ids : List I3) (b : Int) : idsK (rowM ids b) = ids := by
  apply List.ext_getElem?
  intro k
  rw [idsK, List.getElem?_map]
  by_cases h : k < ids.length
  · rw [List.getElem?_eq_getElem (by rw [rowM_len]; exact h), List.getElem?_eq_getElem h, rowM_at]
    exact congrArg some (gI h)
  · rw [List.getElem?_eq_none (by rw [rowM_len]; omega), List.getElem?_eq_none (by omega)]; rfl
end Go.Proofs.Ytmpodnadoebclaa
namespace Go.Proofs.Ytmpodnadoebclaa
set_option maxRecDepth 4000
set_option linter.unusedVariables false
set_option linter.unusedSimpArgs false
open Go.RowKit
attribute [local irreducible] rowM
theorem filt_cut {α : Type} {q : α → Bool} {l : List α} {a0 : α} {p : Nat} (hp : p ≤ l.length) (h1 : ∀ k, k < p → q (l.getD k a0) = false) (h2 : ∀ k, p ≤ k → k < l.length → q (l.getD k a0) = true) : l.filter q = l.drop p := by
  have e : l = l.take p ++ l.drop p := (List.take_append_drop p l).symm
  have g : ∀ {k : Nat} (h : k < l.length), l.getD k a0 = l[k] := fun h => by rw [List.getD_eq_getElem?_getD, List.getElem?_eq_getElem h]; rfl
  have e1 : (l.take p).filter q = [] := List.filter_eq_nil_iff.2 fun x hx => by
    obtain ⟨k, hk, rfl⟩ := List.mem_take_iff_getElem.1 hx
    have := h1 k (by omega)
    rw [g (by omega)] at this
    rw [this]; decide
  have e2 : (l.drop p).filter q = l.drop p := List.filter_eq_self.2 fun x hx => by
    obtain ⟨k, hk, rfl⟩ := List.mem_drop_iff_getElem.1 hx
    have := h2 (k + p) (by omega) (by omega)
    rw [g (by omega)] at this
    rw [show l[p + k]'(by omega) = l[k + p]'(by omega) by congr 1; omega]
    exact this
  conv => lhs; rw [e]
  rw [List.filter_append, e1, e2, List.nil_append]
end Go.Proofs.Ytmpodnadoebclaa
namespace Go.Proofs.Ytmpodnadoebclaa
set_option maxRecDepth 4000
set_option linter.unusedVariables false
set_option linter.unusedSimpArgs false
open Go.RowKit
attribute [local irreducible] rowM
theorem un4 : Try.prog.underlying 4 = some .bool := by kernel_rfl
end Go.Proofs.Ytmpodnadoebclaa
namespace Go.Proofs.Ytmpodnadoebclaa
set_option maxRecDepth 4000
set_option linter.unusedVariables false
set_option linter.unusedSimpArgs false
open Go.RowKit
attribute [local irreducible] pnT
theorem filt_pre {α : Type} {q : α → Bool} {l : List α} {a0 : α} {p : Nat} (hp : p ≤ l.length) (h1 : ∀ k, k < p → q (l.getD k a0) = true) (h2 : ∀ k, p ≤ k → k < l.length → q (l.getD k a0) = false) : l.filter q = l.take p := by
  have e : l = l.take p ++ l.drop p := (List.take_append_drop p l).symm
  have g : ∀ {k : Nat} (h : k < l.length), l.getD k a0 = l[k] := fun h => by rw [List.getD_eq_getElem?_getD, List.getElem?_eq_getElem h]; rfl
  have e1 : (l.take p).filter q = l.take p := List.filter_eq_self.2 fun x hx => by
    obtain ⟨k, hk, rfl⟩ := List.mem_take_iff_getElem.1 hx
    have := h1 k (by omega)
    rwa [g (by omega)] at this
  have e2 : (l.drop p).filter q = [] := List.filter_eq_nil_iff.2 fun x hx => by
    obtain ⟨k, hk, rfl⟩ := List.mem_drop_iff_getElem.1 hx
    have := h2 (k + p) (by omega) (by omega)
    rw [g (by omega)] at this
    rw [show l[p + k]'(by omega) = l[k + p]'(by omega) by congr 1; omega, this]
    decide
  conv => lhs; rw [e]
  rw [List.filter_append, e1, e2, List.append_nil]
def nxI (t : Int) : I3 := ⟨t + 1, 0, 0⟩
theorem less_nx {x : I3} (h : mayR x = true) (t : Int) : lessR x (nxI t) = true ↔ x.t ≤ t := by
  rw [less_iff]
  simp only [mayR, isNum, isSt, Bool.and_eq_true, decide_eq_true_eq] at h
  unfold nxI
  dsimp only
  omega
theorem fo_pl {l : List I3} (h : ∀ x ∈ l, mayR x = true) (t : Int) : foN l t = plI l (nxI t) := by
  unfold foN plI
  congr 1
  refine List.filter_congr fun x hx => ?_
  rw [Bool.eq_iff_iff, decide_eq_true_eq, less_nx (h x hx)]
theorem mK {l : List Mk} {k : Nat} (h : k < l.length) : (l.getD k zMk).i = (idsK l).getD k zI3 := by rw [gM h, gIM h]
theorem bN_pl {m : List Mk} (h : okI (idsK m)) (d : I3) : bN m d = plI (idsK m) d := by
  obtain ⟨h3, h4⟩ := h.split d
  have hp := plI_le (idsK m) d
  have hl : (idsK m).length = m.length := List.length_map _
  have hall : ∀ p, p ≤ plI (idsK m) d → (m.take p).all (fun m => lessR m.i d) = true := fun p hp2 => List.all_eq_true.2 fun x hx => by
    obtain ⟨k, hk, rfl⟩ := List.mem_take_iff_getElem.1 hx
    have := h3 k (by omega)
    rwa [gIM (by omega)] at this
  rcases Nat.lt_or_ge (plI (idsK m) d) m.length with g | g
  · refine bN_stop g (hall _ (Nat.le_refl _)) ?_
    have := h4 _ (Nat.le_refl _) (by omega)
    rwa [gIM g] at this
  · have := hall _ (Nat.le_refl _)
    rw [List.take_of_length_le g] at this
    rw [bN_all this]; omega
theorem drop_take {m : List Mk} (h : okI (idsK m)) (d : I3) : (m.filter fun x => lessR x.i d) = m.take (plI (idsK m) d) := by
  obtain ⟨h3, h4⟩ := h.split d
  have hl : (idsK m).length = m.length := List.length_map _
  have hp := plI_le (idsK m) d
  exact filt_pre (a0 := zMk) (by omega) (fun k hk => by rw [mK (by omega)]; exact h3 k hk) (fun k hk hk2 => by rw [mK hk2]; exact h4 k hk (by omega))
theorem fold_drop {m : List Mk} (h : okI (idsK m)) (t : Int) : (m.filter fun x => decide (t < x.i.t)) = m.drop (foN (idsK m) t) := by
  obtain ⟨h3, h4⟩ := h.split (nxI t)
  have hl : (idsK m).length = m.length := List.length_map _
  have hp := plI_le (idsK m) (nxI t)
  rw [fo_pl h.1]
  have hm : ∀ k, k < m.length → mayR ((idsK m).getD k zI3) = true := fun k hk => h.1 _ (by rw [gI (by omega)]; exact List.getElem_mem _)
  refine filt_cut (a0 := zMk) (by omega) (fun k hk => ?_) (fun k hk hk2 => ?_)
  · rw [mK (by omega), decide_eq_false_iff_not]
    have := (less_nx (hm k (by omega)) t).1 (h3 k hk)
    omega
  · rw [mK hk2, decide_eq_true_eq]
    have := h4 k hk (by omega)
    rw [← Bool.not_eq_true, less_nx (hm k hk2)] at this
    omega
theorem chk_sub {m n : List Mk} (h : chkM m = true) (hs : n.Sublist m) : chkM n = true := by
  obtain ⟨h1, h2⟩ := chk_ok.1 h
  exact chk_ok.2 ⟨Nat.le_trans hs.length_le h1, h2.sub (hs.map _)⟩
theorem wkZ : Wk (.tup [.agg [.val (.int .u64 0), .val (.int .i64 0), .val (.int .u64 0), .val (.pointer none)], .val (.bool false)]) (.tup [.val (.agg #[.int .u64 0, .int .i64 0, .int .u64 0, .pointer none]), .val (.bool false)]) := Wk.tup (.cons (by exact Wk.aggv [.int .u64 0, .int .i64 0, .int .u64 0, .pointer none]) (.cons (.refl _) .nil))
end Go.Proofs.Ytmpodnadoebclaa
namespace Go.Proofs.Ytmpodnadoebclaa
set_option maxRecDepth 4000
set_option linter.unusedVariables false
set_option linter.unusedSimpArgs false
open Go.RowKit
attribute [local irreducible] pnT
theorem pins_of {ts : List TL} {l : List D} (hl : l.length = ts.length) (h : ∀ (j : Nat) t d, ts[j]? = some t → l[j]? = some d → ∃ b, d = .pin b (tc t)) : RowOk l ts ∧ Pins l := by
  have e : l = pinsR (l.map D.adr) ts := by
    apply List.ext_getElem?
    intro j
    unfold pinsR
    rw [List.getElem?_map]
    by_cases g : j < ts.length
    · obtain ⟨b, hb⟩ := h j ts[j] l[j] (List.getElem?_eq_getElem g) (List.getElem?_eq_getElem (by omega))
      have hz : ((l.map D.adr).zip ts)[j]? = some (b, ts[j]) := List.getElem?_zip_eq_some.2 ⟨by rw [List.getElem?_map, List.getElem?_eq_getElem (by omega), hb]; rfl, List.getElem?_eq_getElem g⟩
      rw [hz, List.getElem?_eq_getElem (by omega), hb]
      rfl
    · rw [List.getElem?_eq_none (by omega), List.getElem?_eq_none (by rw [List.length_zip]; omega)]; rfl
  refine ⟨by rw [e]; exact pinsR_ok (by rw [List.length_map]; exact hl), fun d hd => ?_⟩
  obtain ⟨j, hj⟩ := List.getElem?_of_mem hd
  have hjl := (List.getElem?_eq_some_iff.1 hj).1
  obtain ⟨b, hb⟩ := h j ts[j] d (List.getElem?_eq_getElem (by omega)) hj
  exact ⟨b, _, hb⟩
theorem mk_pins {s : St} {m : Mk} (hm : m.ds = pipR m.ts) {v : Value} (h : Rep s (.dpm m.c) v) : ∃ m' : Mk, m'.i = m.i ∧ m'.ts = m.ts ∧ PinK m' ∧ Rep s (.dpm m'.c) v := by
  cases h with
  | @dpm b o l vs hnl hI hc hl h =>
    obtain ⟨u0, u1, u2, rfl⟩ : ∃ u0 u1 u2, vs = [u0, u1, u2] := by
      match vs, hl with
      | [u0, u1, u2], _ => exact ⟨u0, u1, u2, rfl⟩
    have h2 := h 2 _ u2 rfl rfl
    cases h2 with
    | @slm sz n cap a l us hnl2 hl2 hn2 hcap ha hv hel hmem =>
      rw [hm] at hel hv
      obtain ⟨l', g1, g2, g3⟩ := WkE.list (f := fun t : TL => D.pip (tc t)) (Q := fun t d => ∃ b, d = .pin b (tc t)) (fun t => WkE.pip (tc t)) m.ts us (by rw [hv]; simp) hel
      obtain ⟨k1, k2⟩ := pins_of g1 g2
      have hll : l'.length = m.ds.length := by rw [g1, hm]; simp
      refine ⟨⟨m.i, l', m.ts, k1, m.cv⟩, rfl, rfl, k2, ?_⟩
      show Rep s (.dpm [.val (.int .i64 2), .val (.int .i64 1), .slm 1 l'.length l']) _
      refine .dpm (by simp [D.nlL, D.nl]) hI hc rfl fun j d v hd hv2 => ?_
      match j with
      | 0 => exact h 0 d v hd hv2
      | 1 => exact h 1 d v hd hv2
      | 2 =>
        simp at hd hv2
        subst hd hv2
        rw [hll]
        refine .slm k1.nl (by rw [hll, Nat.mul_one]) hn2 hcap ha (by rw [hv, hll, hm]) g3 (hmem.imp (fun e => ?_) id)
        have : m.ds.length = 0 := by rw [e]; rfl
        rw [m.twod] at this
        omega
      | j + 3 => simp at hd
theorem row_pins {s : St} : ∀ (l : List Mk) (vs : List Value), vs.length = (l.flatMap mkC).length → (∀ m ∈ l, m.ds = pipR m.ts) → (∀ (j : Nat) d v, (l.flatMap mkC)[j]? = some d → vs[j]? = some v → Rep s d v) → ∃ l' : List Mk, l'.length = l.length ∧ idsK l' = idsK l ∧ (∀ m ∈ l', PinK m) ∧ ∀ (j : Nat) d v, (l'.flatMap mkC)[j]? = some d → vs[j]? = some v → Rep s d v
  | [], vs, hl, _, hr => ⟨[], rfl, rfl, (fun m h => by cases h), hr⟩
  | m :: l, vs, hl, hp, hr => by
    rw [List.flatMap_cons] at hl hr
    obtain ⟨v0, v1, v2, v3, us, rfl⟩ : ∃ v0 v1 v2 v3 us, vs = v0 :: v1 :: v2 :: v3 :: us := by
      have h4 : 4 ≤ vs.length := by rw [hl, List.length_append, mkC_len]; omega
      match vs, h4 with
      | v0 :: v1 :: v2 :: v3 :: us, _ => exact ⟨v0, v1, v2, v3, us, rfl⟩
      | [], h => exact absurd h (by simp)
      | [_], h => exact absurd h (by simp)
      | [_, _], h => exact absurd h (by simp)
      | [_, _, _], h => exact absurd h (by simp)
    obtain ⟨l', g1, g2, g3, g4⟩ := row_pins l us (by rw [List.length_append, mkC_len] at hl; simp only [List.length_cons] at hl; omega) (fun x hx => hp x (by simp [hx])) fun j d v h1 h2 => hr (j + 4) d v (by rw [List.getElem?_append_right (by simp [mkC])]; simpa [mkC] using h1) (by simpa using h2)
    obtain ⟨m', k1, k2, k3, k4⟩ := mk_pins (hp m (by simp)) (hr 3 _ v3 (by simp [mkC]) rfl)
    refine ⟨m' :: l', by simp [g1], by rw [idsK, List.map_cons, k1, ← idsK, g2]; rfl, fun x hx => (List.mem_cons.1 hx).elim (fun e => e ▸ k3) (g3 x), fun j d v h1 h2 => ?_⟩
    rw [List.flatMap_cons] at h1
    match j with
    | 0 => exact hr 0 d v (by simp [mkC] at h1 ⊢; rw [← k1]; exact h1) h2
    | 1 => exact hr 1 d v (by simp [mkC] at h1 ⊢; rw [← k1]; exact h1) h2
    | 2 => exact hr 2 d v (by simp [mkC] at h1 ⊢; rw [← k1]; exact h1) h2
    | 3 =>
      simp [mkC] at h1 h2
      subst h1 h2
      exact k4
    | j + 4 => exact g4 j d v (by rw [List.getElem?_append_right (by simp [mkC])] at h1; simpa [mkC] using h1) (by simpa using h2)
theorem wk_pins {l : List Mk} (hp : ∀ m ∈ l, m.ds = pipR m.ts) : WkE (.slm 4 (l).length ((l).flatMap mkC)) fun d => ∃ l' : List Mk, l'.length = l.length ∧ idsK l' = idsK l ∧ (∀ m ∈ l', PinK m) ∧ d = .slm 4 (l').length ((l').flatMap mkC) := fun s v h => by
  cases h with
  | @slm sz n cap a l0 vs hnl hl hn hc ha hv hel hmem =>
    obtain ⟨l', g1, g2, g3, g4⟩ := row_pins l vs hv hp hel
    have e1 : (l'.flatMap mkC).length = (l.flatMap mkC).length := by rw [mk_fl, mk_fl, g1]
    refine ⟨_, ⟨l', g1, g2, g3, rfl⟩, ?_⟩
    have key : Rep s (.slm 4 l'.length (l'.flatMap mkC)) (.slice a l'.length cap) := ?_
    · rw [g1] at key ⊢; exact key
    refine .slm (vs := vs) (mk_nl _) mk_fl (by rw [g1]; exact hn) hc ha (by rw [hv, e1]) g4 (hmem.imp (fun e => ?_) id)
    have : (l'.flatMap mkC).length = 0 := by rw [e1, e]; rfl
    exact List.eq_nil_of_length_eq_zero this
theorem rowM_pip (ids : List I3) (b : Int) : ∀ m ∈ rowM ids b, m.ds = pipR m.ts := fun m hm => by
  unfold rowM at hm
  obtain ⟨k, _, rfl⟩ := List.mem_map.1 hm
  rfl
theorem vw_arrE {σ : List Nat} {V : Nat → Bool} {M : List Blk} {i : Nat} {T : TypeId} {sz n n' : Nat} {l l' : List D} (hp : pos σ i = none) (hV : V i = true) (hM : M[i]? = some (.arx T sz n l)) (h : D.nlL l = true) (hn : n = n') (hl : l = l') : vw σ V M (.arr i) = some (.slm sz n' l') := by
  subst hn hl
  exact vw_arrV hp hV hM h
end Go.Proofs.Ytmpodnadoebclaa
namespace Go.Proofs.Ytmpodnadoebclaa
set_option maxRecDepth 4000
set_option linter.unusedVariables false
set_option linter.unusedSimpArgs false
open Go.RowKit
attribute [local irreducible] rowM
set_option maxRecDepth 4000 in
set_option maxHeartbeats 1000000 in
theorem lparts_d (x : List I3) (at_ : I3) : DFun Try.prog 6 [.slf 3 x.length (x.flatMap idc), .val (.agg (idc at_).toArray)] [] (.val (.bool true)) [] := by
  refine zao (N := 155) 0 (by kernel_rfl) Try.func6 rfl rfl rfl (by simp only [fr0, Nat.zero_add, Nat.reduceAdd]; exact rfl) rfl fun s0 hs0 => ?_
  refine dwp_len (t := 0) rfl fun hl0 hL0 => ?_
  refine zae ?_
  refine zak 1 (by simp only [holes, List.cons_append, List.nil_append]; exact rfl) ?_
  refine zad ?_
  refine zan rfl rfl rfl (op_boxa 0 rfl (ev1 rfl) rfl) (by simp only [upd, za, zaa]; exact rfl) ?_
  refine zab rfl rfl rfl (zac (.inr rfl) (ev1 rfl)) ?_
  refine zaf ?_
  refine zae ?_
  refine zae ?_
  refine zad ?_
  refine zab rfl rfl rfl (zah [] [] [] rfl (ev1 rfl) en rfl rfl (wakes_d) rfl rfl rfl rfl rfl rfl) ?_
  refine zab rfl rfl rfl ((op_not rfl (ev1 rfl)).cast (d' := .val (.bool false)) (by kernel_rfl)) ?_
  refine zaf ?_
  refine dwp_if_f rfl (rfl) ?_
  refine zal ?_
  refine zae ?_
  refine zad ?_
  refine zab rfl rfl rfl (zac (.inl rfl) (ev1 rfl)) ?_
  refine zab rfl rfl rfl (zah [] [] [] rfl (ev1 rfl) (ec (ev1 rfl) (ec (ev1 rfl) en)) rfl rfl (few_d x 6 (by decide)) rfl rfl rfl rfl rfl rfl) ?_
  refine zab rfl rfl rfl (zah [] [] [] rfl (ev1 rfl) (ec (ev1 rfl) (ec (ev1 rfl) en)) rfl rfl (row_d (x.take 6) 0 (by rw [List.length_take]; omega) (by decide)) rfl rfl rfl rfl rfl rfl) ?_
  refine zab rfl rfl rfl (zac (.inr rfl) (ev1 rfl)) ?_
  refine zaf ?_
  refine zae ?_
  by_cases hr : rtB (x.take 6) = true
  · by_cases hb : 0 < plI (x.take 6) at_
    · refine dwp_wkE 5 rfl (wk_pins (rowM_pip (x.take 6) 0)) ?_
      rintro _ ⟨m, hml0, hmi0, hpin, rfl⟩
      rw [rowM_ids] at hmi0
      rw [rowM_len, List.length_take] at hml0
      have h6 : m.length ≤ 6 := by omega
      clear hml0
      generalize x.take 6 = ids at *
      have hil : (idsK m).length = m.length := List.length_map _
      have hcr : chkM m = rtB ids := by rw [chk_rt, hmi0]
      have hc : chkM m = true := by rw [hcr]; exact hr
      obtain ⟨_, hoi⟩ := chk_ok.1 hc
      have hbp : bN m at_ = plI (idsK m) at_ := bN_pl hoi at_
      have hpl := plI_le (idsK m) at_
      have hfl : foN (idsK m) at_.t ≤ (idsK m).length := List.length_filter_le _ _
      have hdt := drop_take hoi at_
      have hdm : dropM m at_ = m.take (plI (idsK m) at_) := by unfold dropM; rw [if_pos hc, hdt]
      have hfm : foldM m at_.t = m.drop (foN (idsK m) at_.t) := by unfold foldM; rw [if_pos hc, fold_drop hoi]
      have hdl : (dropM m at_).length ≤ 6 := by rw [hdm, List.length_take]; omega
      have hfll : (foldM m at_.t).length ≤ 6 := by rw [hfm, List.length_drop]; omega
      have hcd : chkM (dropM m at_) = true := by rw [hdm]; exact chk_sub hc (List.take_sublist _ _)
      have hcf : chkM (foldM m at_.t) = true := by rw [hfm]; exact chk_sub hc (List.drop_sublist _ _)
      rw [← hmi0] at hb
      refine zak 1 (by simp only [holes, List.cons_append, List.nil_append]; exact rfl) ?_
      refine zad ?_
      refine zab rfl rfl rfl (zac (.inl rfl) (ev1 rfl)) ?_
      refine zab rfl rfl rfl (op_ldw rfl tb35 (ev1 rfl) rfl rfl) ?_
      refine zab rfl rfl rfl (zah [] [] [] rfl (ev1 rfl) (ec (ev1 rfl) (ec (ev1 rfl) en)) rfl rfl (below_p m (by omega) at_ hc (by omega)) rfl rfl rfl rfl rfl rfl) ?_
      refine zab rfl rfl rfl (zac (.inl rfl) (ev1 rfl)) ?_
      refine zab rfl rfl rfl (op_ext rfl (ev1 rfl) rfl) ?_
      refine zab rfl rfl rfl (op_ext rfl (ev1 rfl) rfl) ?_
      refine zan rfl rfl rfl (op_alloc 1 rfl zr44 rfl) (by simp only [upd, za, zaa]; exact rfl) ?_
      refine walk_s rfl rfl (op_stam2 rfl tb44 (ev1 rfl) (ev1 rfl) rfl rfl rfl rfl) (by simp only [upd, za, zaa]; exact rfl) ?_
      refine zab rfl rfl rfl (zac (.inr rfl) (ev1 rfl)) ?_
      refine zaf ?_
      refine zae ?_
      refine dwp_draw [([], []), ([0], []), ([], []), ([], []), ([], []), ([0], []), ([], []), ([], []), ([], [])] mixed (by kernel_rfl) ?_
      refine zag rfl rfl (zac (.inl rfl) (ev1 rfl)) ?_
      refine zag rfl rfl (op_ldw rfl tb35 (ev1 rfl) rfl rfl) ?_
      refine zag rfl rfl (zah [] [] [] rfl (ev1 rfl) (ec (ev1 rfl) (ec (ev1 rfl) en)) rfl rfl (drop_d m (by omega) at_) rfl rfl rfl rfl rfl rfl) ?_
      refine zag rfl rfl (zac (.inl rfl) (ev1 rfl)) ?_
      refine zag rfl rfl (op_fa rfl fo35_0 (ev1 rfl)) ?_
      refine zag rfl rfl (op_ldo rfl tb33 (ev1 rfl) rfl rfl) ?_
      refine zag rfl rfl (zah [] [] [] rfl (ev1 rfl) (ec (ev1 rfl) (ec (ev1 rfl) en)) rfl rfl (fold_d m (by omega) at_.t) rfl rfl rfl rfl rfl rfl) ?_
      refine zag rfl rfl (zac (.inr rfl) (ev1 rfl)) ?_
      refine zag rfl rfl (zac (.inr rfl) (ev1 rfl)) ?_
      refine lex_nil ?_
      refine zae ?_
      refine zae ?_
      refine zad ?_
      refine zab rfl rfl rfl (zac (.inl rfl) (ev1 rfl)) ?_
      refine zab rfl rfl rfl (zah [] [] [] rfl (ev1 rfl) (ec (ev1 rfl) en) rfl rfl (mcheck_d m (by omega)) rfl rfl rfl rfl rfl rfl) ?_
      refine zab rfl rfl rfl (op_neq rfl (ev1 rfl) (ev1 rfl)) ?_
      refine zaf ?_
      refine dwp_if_f rfl (by rw [hc]; rfl) ?_
      refine zal ?_
      refine zae ?_
      refine zae ?_
      have hls : (dropM m at_).drop (plI (idsK m) at_ - 1) = [(m.getD (bN m at_ - 1) zMk)] := by
        rw [hdm, hbp, gM (by omega), List.drop_take, show plI (idsK m) at_ - (plI (idsK m) at_ - 1) = 1 by omega, List.drop_eq_getElem_cons (by omega)]
        rfl
      refine dwp_draw [([], []), ([], []), ([], []), ([], []), ([], []), ([], []), ([], []), ([], []), ([], []), ([], []), ([], []), ([], []), ([], []), ([1], []), ([], []), ([], []), ([], []), ([], []), ([], []), ([], []), ([], []), ([], []), ([], []), ([], []), ([], []), ([], []), ([], []), ([], []), ([], [])] mixed (by kernel_rfl) ?_
      refine zag rfl rfl (zac (.inl rfl) (ev1 rfl)) ?_
      refine zag rfl rfl (zac (.inl rfl) (ev1 rfl)) ?_
      refine zag rfl rfl (op_lenm rfl sl26 (ev1 rfl)) ?_
      refine zag rfl rfl (op_gtr rfl (ev1 rfl) (ev1 rfl)) ?_
      refine zag rfl rfl (op_neb rfl un4 (ev1 rfl) (ev1 rfl)) ?_
      refine zag rfl rfl (zac (.inl rfl) (ev1 rfl)) ?_
      refine zai (gd_f rfl rfl rfl) rfl rfl (zac (.inl rfl) (ev1 rfl)) ?_
      refine zai (gd_f rfl rfl rfl) rfl rfl (zac (.inl rfl) (ev2 rfl)) ?_
      refine zai (gd_tt rfl rfl rfl) rfl rfl (zac (.inl rfl) (ev1 rfl)) ?_
      refine zai (gd_tt rfl rfl rfl) rfl rfl (zac (.inl rfl) (ev1 rfl)) ?_
      refine zai (gd_tt rfl rfl rfl) rfl rfl (op_lenm rfl sl26 (ev2 rfl)) ?_
      refine zai (gd_tt rfl rfl rfl) rfl rfl (op_sub' rfl (ev2 rfl) (ev1 rfl) (fun hp => IntWalk.i64_in _ (by first | omega | (simp at hp; omega)))) ?_
      refine zai (gd_tt rfl rfl rfl) rfl rfl (op_slmdr (i := plI (idsK m) at_ - 1) rfl sl26 (ev2 rfl) (bd_some (ev2 rfl)) (fun _ => by rw [hdm, List.length_take]; omega) (fun _ => by rw [hdm, List.length_take]; omega) (fun _ => rfl)) ?_
      refine zai (gd_tt rfl rfl rfl) rfl rfl (op_ldmw rfl tb44 (ev1 rfl) rfl rfl) ?_
      refine zai (gd_tt rfl rfl rfl) rfl rfl (op_bsr (ps := [(0, .tmp 68)]) rfl sl26 zr44 rfl (ec (ev2 rfl) en) rfl rfl rfl (by rfl) rfl (by decide) (by decide)) ?_
      refine zai (gd_tt rfl rfl rfl) rfl rfl (zah [] [] [] rfl (ev1 rfl) (ec (ev2 rfl) (ec (ev2 rfl) en)) rfl rfl (msame_d ((dropM m at_).drop (plI (idsK m) at_ - 1)) [(m.getD (bN m at_ - 1) zMk)]) rfl rfl rfl rfl rfl rfl) ?_
      refine zai (gd_tt rfl rfl rfl) rfl rfl (op_not rfl (ev2 rfl)) ?_
      refine zai (gd_f rfl rfl rfl) rfl rfl (op_and rfl (ev2 rfl) (ev2 rfl)) ?_
      refine zag rfl rfl (op_or rfl (ev1 rfl) (ev3 rfl id)) ?_
      refine zag rfl rfl (zac (.inl rfl) (ev1 rfl)) ?_
      refine zai (gd_f rfl rfl rfl) rfl rfl (zac (.inl rfl) (ev1 rfl)) ?_
      refine zai (gd_f rfl rfl rfl) rfl rfl (zah [] [] [] rfl (ev1 rfl) (ec (ev2 rfl) en) rfl rfl (mcheck_d (dropM m at_) (by omega)) rfl rfl rfl rfl rfl rfl) ?_
      refine zai (gd_f rfl rfl rfl) rfl rfl (op_neq rfl (ev2 rfl) (ev1 rfl)) ?_
      refine zag rfl rfl (op_or rfl (ev1 rfl) (ev3 rfl id)) ?_
      refine zag rfl rfl (zac (.inl rfl) (ev1 rfl)) ?_
      refine zai (gd_f rfl rfl rfl) rfl rfl (zac (.inl rfl) (ev1 rfl)) ?_
      refine zai (gd_f rfl rfl rfl) rfl rfl (zah [] [] [] rfl (ev1 rfl) (ec (ev2 rfl) en) rfl rfl (mcheck_d (foldM m at_.t) (by omega)) rfl rfl rfl rfl rfl rfl) ?_
      refine zai (gd_f rfl rfl rfl) rfl rfl (op_neq rfl (ev2 rfl) (ev1 rfl)) ?_
      refine zag rfl rfl (op_or rfl (ev1 rfl) (ev3 rfl id)) ?_
      refine lex_nil ?_
      refine dwp_if_f rfl (by rw [hcd, hcf, hls]; rw [hdm, List.length_take]; simp [errOr]; omega) ?_
      refine zal ?_
      refine zae ?_
      refine zad ?_
      refine zab rfl rfl rfl (zac (.inr rfl) (ev1 rfl)) ?_
      refine zaf ?_
      refine zae ?_
      refine zae ?_
      refine zad ?_
      refine zab rfl rfl rfl (zac (.inl rfl) (ev1 rfl)) ?_
      refine zab rfl rfl rfl (op_lenm rfl sl26 (ev1 rfl)) ?_
      refine zab rfl rfl rfl (zac (.inl rfl) (ev1 rfl)) ?_
      refine zaf ?_
      refine zam ?_
      refine dwp_loopS ⟨hs0, rfl⟩ (α := Nat) (fun k => [(10, .val (.int .i64 (foN ((idsK m).take k) at_.t : Int))), (86, .val (.int .i64 (k : Int)))]) [(3, _), (5, _), (8, _), (9, _), (84, _), (85, _)] (fun k => []) [_, _] (fun k => k ≤ m.length) (fun k => m.length - k) 0 [0, 1] (Nat.zero_le _) rfl ⟨rfl, rfl, rfl, rfl, rfl, rfl, trivial⟩ ⟨rfl, rfl, trivial⟩ ⟨rfl, rfl, trivial⟩ ?_
      intro k hx
      simp only [upd, za, zaa, List.cons_append, List.nil_append]
      have hk := hx
      have hfl2 : foN ((idsK m).take k) at_.t ≤ k := filt_tl
      refine zae ?_
      refine zad ?_
      refine zab rfl rfl rfl (op_lss rfl (ev1 rfl) (ev1 rfl)) ?_
      refine zaf ?_
      refine zae ?_
      refine dwp_cond rfl (fun c4 => ?_) (fun c4 => ?_)
      · try simp only [decide_eq_true_eq, decide_eq_false_iff_not, beq_iff_eq, bne_iff_ne, beq_eq_false_iff_ne, bne_eq_false_iff_eq, Bool.not_eq_true', Bool.not_eq_false', Bool.and_eq_true, Bool.or_eq_true, Bool.or_eq_false_iff, ne_eq, Decidable.not_not, Int.not_lt, Int.not_le] at c4
        refine zal ?_
        refine zae ?_
        refine zam ?_
        refine zae ?_
        refine zak 1 (by simp only [holes, List.cons_append, List.nil_append]; exact rfl) ?_
        refine zad ?_
        refine zab rfl rfl rfl (op_ixmr (k) (by decide) rfl sl26 (ev1 rfl) (ev1 rfl) (fun _ => rfl) (by omega) (fun _ => rfl)) ?_
        refine zab rfl rfl rfl (op_lddr rfl tb44 (ev1 rfl) rfl rfl) ?_
        refine zan rfl rfl rfl (op_alloc 2 rfl zr44 rfl) (by simp only [upd, za, zaa]; exact rfl) ?_
        refine walk_s rfl rfl (op_stam2 rfl tb44 (ev1 rfl) (ev1 rfl) rfl rfl rfl rfl) (by simp only [upd, za, zaa]; exact rfl) ?_
        refine zaf ?_
        refine zae ?_
        have hkl : k < m.length := by omega
        have hge : (idsK m)[k]'(by omega) = m[k].i := List.getElem_map _
        refine zad ?_
        refine zab rfl rfl rfl (op_fa rfl fo44_0 (ev1 rfl)) ?_
        refine zab rfl rfl rfl (op_fa rfl fo35_0 (ev1 rfl)) ?_
        refine zab rfl rfl rfl (op_ldm rfl tb33 (ev1 rfl) rfl rfl) ?_
        refine zab rfl rfl rfl (op_fa rfl fo35_0 (ev1 rfl)) ?_
        refine zab rfl rfl rfl (op_ldo rfl tb33 (ev1 rfl) rfl rfl) ?_
        refine zab rfl rfl rfl (op_leq rfl (ev1 rfl) (ev1 rfl)) ?_
        refine zaf ?_
        refine dwp_cond rfl (fun c4 => ?_) (fun c4 => ?_)
        · have c5 : (idsK m)[k].t ≤ at_.t := by rw [hge]; exact of_decide_eq_true c4
          refine zad ?_
          refine zab rfl rfl rfl (zac (.inl rfl) (ev1 rfl)) ?_
          refine zab rfl rfl rfl (op_add' rfl (ev1 rfl) (ev1 rfl) (fun _ => IntWalk.i64_in _ (by omega))) ?_
          refine zab rfl rfl rfl (zac (.inr rfl) (ev1 rfl)) ?_
          refine zaf ?_
          refine zad ?_
          refine zab rfl rfl rfl (op_add' rfl (ev1 rfl) (ev1 rfl) (fun _ => IntWalk.i64_in _ (by omega))) ?_
          refine zab rfl rfl rfl (zac (.inl rfl) (ev1 rfl)) ?_
          refine zaf ?_
          refine ⟨k + 1, [0, 1], by omega, by simp only []; omega, rfl, ⟨by unfold foN; rw [filt_take (by omega), if_pos (by simpa using c5), List.length_append]; rfl, rfl, rfl, rfl, rfl, rfl, rfl, rfl, trivial⟩, ⟨rfl, rfl, trivial⟩⟩
        · have c5 : ¬ (idsK m)[k].t ≤ at_.t := by rw [hge]; exact of_decide_eq_false c4
          refine zal ?_
          refine zad ?_
          refine zab rfl rfl rfl (op_add' rfl (ev1 rfl) (ev1 rfl) (fun _ => IntWalk.i64_in _ (by omega))) ?_
          refine zab rfl rfl rfl (zac (.inl rfl) (ev1 rfl)) ?_
          refine zaf ?_
          refine ⟨k + 1, [0, 1], by omega, by simp only []; omega, rfl, ⟨by unfold foN; rw [filt_take (by omega), if_neg (by simpa using c5), List.append_nil]; rfl, rfl, rfl, rfl, rfl, rfl, rfl, rfl, trivial⟩, ⟨rfl, rfl, trivial⟩⟩
      · try simp only [decide_eq_true_eq, decide_eq_false_iff_not, beq_iff_eq, bne_iff_ne, beq_eq_false_iff_ne, bne_eq_false_iff_eq, Bool.not_eq_true', Bool.not_eq_false', Bool.and_eq_true, Bool.or_eq_true, Bool.or_eq_false_iff, ne_eq, Decidable.not_not, Int.not_lt, Int.not_le] at c4
        refine dwp_exit ?_
        refine zae ?_
        refine zae ?_
        have hkm : k = m.length := by omega
        rw [List.take_of_length_le (by omega)]
        refine zad ?_
        refine zab rfl rfl rfl (zac (.inl rfl) (ev1 rfl)) ?_
        refine zab rfl rfl rfl (op_lenm rfl sl26 (ev1 rfl)) ?_
        refine zab rfl rfl rfl (zac (.inl rfl) (ev1 rfl)) ?_
        refine zab rfl rfl rfl (op_lenm rfl sl26 (ev1 rfl)) ?_
        refine zab rfl rfl rfl (zac (.inl rfl) (ev1 rfl)) ?_
        refine zab rfl rfl rfl (op_sub' rfl (ev1 rfl) (ev1 rfl) (fun _ => IntWalk.i64_in _ (by omega))) ?_
        refine zab rfl rfl rfl (op_neq rfl (ev1 rfl) (ev1 rfl)) ?_
        refine zab rfl rfl rfl (zac (.inl rfl) (ev1 rfl)) ?_
        refine zaj (gd_f rfl rfl rfl) rfl rfl rfl (zac (.inl rfl) (ev1 rfl)) ?_
        refine zaj (gd_f rfl rfl rfl) rfl rfl rfl (zac (.inl rfl) (ev1 rfl)) ?_
        refine zaj (gd_f rfl rfl rfl) rfl rfl rfl (zac (.inl rfl) (ev1 rfl)) ?_
        refine zaj (gd_f rfl rfl rfl) rfl rfl rfl (op_slmdr (i := foN (idsK m) at_.t) rfl sl26 (ev2 rfl) (bd_some (ev2 rfl)) (fun _ => rfl) (fun _ => by omega) (fun _ => rfl)) ?_
        refine zaj (gd_f rfl rfl rfl) rfl rfl rfl (zah [] [] [] rfl (ev1 rfl) (ec (ev2 rfl) (ec (ev2 rfl) en)) rfl rfl (msame_d (foldM m at_.t) (m.drop (foN (idsK m) at_.t))) rfl rfl rfl rfl rfl rfl) ?_
        refine zaj (gd_f rfl rfl rfl) rfl rfl rfl (op_not rfl (ev2 rfl)) ?_
        refine zab rfl rfl rfl (op_or rfl (ev1 rfl) (ev3 rfl id)) ?_
        refine zaf ?_
        refine dwp_if_f rfl (by rw [hfm, List.length_drop]; simp; omega) ?_
        refine zal ?_
        refine zae ?_
        refine zad ?_
        refine zab rfl rfl rfl (zac (.inr rfl) (ev1 rfl)) ?_
        refine zaf ?_
        refine zae ?_
        refine zae ?_
        refine zad ?_
        refine zab rfl rfl rfl (zac (.inr rfl) (ev1 rfl)) ?_
        refine zaf ?_
        refine zam ?_
        refine dwp_loopS ⟨hs0, rfl⟩ (α := Nat) (fun q => [(13, .val (.int .i64 (shS m (q + 1) : Int))), (14, .val (.int .i64 ((q + 1 : Nat) : Int)))]) [(3, _), (5, _), (8, _)] (fun q => []) [_, _] (fun q => q + 1 ≤ m.length ∨ q = 0) (fun q => m.length - q) 0 [0, 1] (.inr rfl) rfl ⟨rfl, rfl, rfl, trivial⟩ ⟨rfl, rfl, trivial⟩ ⟨rfl, rfl, trivial⟩ ?_
        intro q hx
        simp only [upd, za, zaa, List.cons_append, List.nil_append]
        have hq := hx
        have hsl := shS_le (l := m) (q + 1)
        refine zae ?_
        refine zae ?_
        refine zad ?_
        refine zab rfl rfl rfl (zac (.inl rfl) (ev1 rfl)) ?_
        refine zab rfl rfl rfl (zac (.inl rfl) (ev1 rfl)) ?_
        refine zab rfl rfl rfl (op_lenm rfl sl26 (ev1 rfl)) ?_
        refine zab rfl rfl rfl (op_lss rfl (ev1 rfl) (ev1 rfl)) ?_
        refine zaf ?_
        refine dwp_cond rfl (fun c7 => ?_) (fun c7 => ?_)
        · try simp only [decide_eq_true_eq, decide_eq_false_iff_not, beq_iff_eq, bne_iff_ne, beq_eq_false_iff_ne, bne_eq_false_iff_eq, Bool.not_eq_true', Bool.not_eq_false', Bool.and_eq_true, Bool.or_eq_true, Bool.or_eq_false_iff, ne_eq, Decidable.not_not, Int.not_lt, Int.not_le] at c7
          refine zal ?_
          refine zae ?_
          refine zam ?_
          have hq2 : q + 1 < m.length := by omega
          have pa := hpin m[q] (List.getElem_mem _)
          have pb := hpin m[q + 1] (List.getElem_mem _)
          have la := m[q].twod
          have lb := m[q + 1].twod
          have hsm := shM_le m[q] m[q + 1]
          unfold shM at hsm
          have hs2 : shS m (q + 1 + 1) = shS m (q + 1) + shN m[q].ds m[q + 1].ds := by
            rw [shS, gM (k := q) (by omega), gM (k := q + 1) (by omega)]
            rfl
          refine dwp_draw [([], []), ([], []), ([], []), ([], []), ([], []), ([], []), ([], []), ([], []), ([], []), ([], []), ([], []), ([], []), ([], []), ([], []), ([], [])] mixed (by kernel_rfl) ?_
          refine zag rfl rfl (zac (.inl rfl) (ev1 rfl)) ?_
          refine zag rfl rfl (zac (.inl rfl) (ev1 rfl)) ?_
          refine zag rfl rfl (zac (.inl rfl) (ev1 rfl)) ?_
          refine zag rfl rfl (op_sub' rfl (ev1 rfl) (ev1 rfl) (fun _ => IntWalk.i64_in _ (by omega))) ?_
          refine zag rfl rfl (op_ixmr (q) (by decide) rfl sl26 (ev1 rfl) (ev1 rfl) (fun _ => by omega) (by omega) (fun _ => rfl)) ?_
          refine zag rfl rfl (op_fadm rfl fo44_1 (ev1 rfl)) ?_
          refine zag rfl rfl (op_lddm rfl tb42 (ev1 rfl) rfl) ?_
          refine zag rfl rfl (zac (.inl rfl) (ev1 rfl)) ?_
          refine zag rfl rfl (zac (.inl rfl) (ev1 rfl)) ?_
          refine zag rfl rfl (op_ixmr (q + 1) (by decide) rfl sl26 (ev1 rfl) (ev1 rfl) (fun _ => rfl) (by omega) (fun _ => rfl)) ?_
          refine zag rfl rfl (op_fadm rfl fo44_1 (ev1 rfl)) ?_
          refine zag rfl rfl (op_lddm rfl tb42 (ev1 rfl) rfl) ?_
          refine zag rfl rfl (zah [] [] [] rfl (ev1 rfl) (ec (ev1 rfl) (ec (ev1 rfl) en)) rfl rfl (shared_d 2 1 _ _ (by omega) (by omega) pa pb) rfl rfl rfl rfl rfl rfl) ?_
          refine zag rfl rfl (op_add' rfl (ev1 rfl) (ev1 rfl) (fun _ => IntWalk.i64_in _ (by omega))) ?_
          refine zag rfl rfl (zac (.inr rfl) (ev1 rfl)) ?_
          refine lex_nil ?_
          refine zad ?_
          refine zab rfl rfl rfl (zac (.inl rfl) (ev1 rfl)) ?_
          refine zab rfl rfl rfl (op_add' rfl (ev1 rfl) (ev1 rfl) (fun _ => IntWalk.i64_in _ (by omega))) ?_
          refine zab rfl rfl rfl (zac (.inr rfl) (ev1 rfl)) ?_
          refine zaf ?_
          refine ⟨q + 1, [0, 1], .inl (by omega), by simp only []; omega, rfl, ⟨by rw [hs2]; rfl, rfl, rfl, rfl, rfl, trivial⟩, ⟨rfl, rfl, trivial⟩⟩
        · try simp only [decide_eq_true_eq, decide_eq_false_iff_not, beq_iff_eq, bne_iff_ne, beq_eq_false_iff_ne, bne_eq_false_iff_eq, Bool.not_eq_true', Bool.not_eq_false', Bool.and_eq_true, Bool.or_eq_true, Bool.or_eq_false_iff, ne_eq, Decidable.not_not, Int.not_lt, Int.not_le] at c7
          refine dwp_exit ?_
          refine zae ?_
          have hqs : shS m (q + 1) = shS m m.length := by
            rcases hq with g | g
            · rw [show m.length = q + 1 by omega]
            · subst g
              rcases Nat.eq_zero_or_pos m.length with g2 | g2
              · rw [g2]; rfl
              · rw [show m.length = 0 + 1 by omega]
          rw [hqs]
          refine zak 2 (by simp only [holes, List.cons_append, List.nil_append]; exact rfl) ?_
          refine dwp_draw [([], []), ([], []), ([], []), ([], []), ([], []), ([], []), ([], []), ([], []), ([], []), ([], []), ([], []), ([0], []), ([2], [2]), ([], []), ([], []), ([], []), ([], []), ([2, 3], [2, 3]), ([], []), ([3], []), ([], []), ([], [])] mixed (by kernel_rfl) ?_
          refine zag rfl rfl (zac (.inl rfl) (ev1 rfl)) ?_
          refine zag rfl rfl (zah [] [] [] rfl (ev1 rfl) (ec (ev1 rfl) en) rfl rfl (shares_y m (by omega) hpin hc) rfl rfl rfl rfl rfl rfl) ?_
          refine zag rfl rfl (zac (.inl rfl) (ev1 rfl)) ?_
          refine zag rfl rfl (op_eql rfl (ev1 rfl) (ev1 rfl)) ?_
          refine zag rfl rfl (zac (.inl rfl) (ev1 rfl)) ?_
          refine zai (gd_t rfl rfl rfl) rfl rfl (zac (.inl rfl) (ev1 rfl)) ?_
          refine zai (gd_t rfl rfl rfl) rfl rfl (zac (.inl rfl) (ev1 rfl)) ?_
          refine zai (gd_t rfl rfl rfl) rfl rfl (zah [] [] [] rfl (ev1 rfl) (ec (ev2 rfl) (ec (ev2 rfl) en)) rfl rfl (msame_d m m) rfl rfl rfl rfl rfl rfl) ?_
          refine zag rfl rfl ((op_and rfl (ev1 rfl) (ev3 rfl id)).cast (d' := .val (.bool true)) (by simp)) ?_
          refine zag rfl rfl (zac (.inl rfl) (ev1 rfl)) ?_
          refine lex_k (gd_t (b := true) rfl rfl rfl) rfl rfl (zac (.inl rfl) (ev1 rfl)) rfl (by simp only [upd, za, zaa]; exact rfl) ?_
          refine lex_k (gd_t (b := true) rfl rfl rfl) rfl rfl (op_ldw rfl tb35 (ev1 rfl) rfl rfl) rfl (by simp only [upd, za, zaa]; exact rfl) ?_
          refine lex_k (gd_t (b := true) rfl rfl rfl) rfl rfl (zah [] [] [2] rfl (ev1 rfl) (ec (ev2 rfl) (ec (ev2 rfl) en)) rfl rfl (drop_y m (by omega) at_ hc) rfl rfl rfl (by exact (wrc (sb_arxr (mk_nl _)) rfl)) rfl rfl) rfl (by simp only [upd, za, zaa]; exact rfl) ?_
          refine lex_k (gd_t (b := true) rfl rfl rfl) rfl rfl (zac (.inl rfl) (ev1 rfl)) rfl (by simp only [upd, za, zaa]; exact rfl) ?_
          refine lex_k (gd_t (b := true) rfl rfl rfl) rfl rfl (zac (.inl rfl) (ev1 rfl)) rfl (by simp only [upd, za, zaa]; exact rfl) ?_
          refine lex_k (gd_t (b := true) rfl rfl rfl) rfl rfl (op_lenm rfl sl26 (ev2 rfl)) rfl (by simp only [upd, za, zaa]; exact rfl) ?_
          refine lex_k (gd_t (b := true) rfl rfl rfl) rfl rfl (op_slmdr (i := plI (idsK m) at_) rfl sl26 (ev2 rfl) (bd_some (ev2 rfl)) (fun _ => by rw [hdm, List.length_take]; omega) (fun _ => by omega) (fun _ => rfl)) rfl (by simp only [upd, za, zaa]; exact rfl) ?_
          refine lex_k (gd_t (b := true) rfl rfl rfl) rfl rfl (op_appr (j := 3) rfl sl26 zr44 rfl (ev2 rfl) (ev2 rfl) rfl rfl (mk_oc _) (fun _ => ⟨by rw [hdt]; simp only [List.length_take, List.length_drop]; omega, by rw [hdt]; simp only [List.length_take, List.length_drop]; omega⟩)) rfl (by simp only [upd, za, zaa]; exact rfl) ?_
          refine lex_k (gd_t (b := true) rfl rfl rfl) rfl rfl (zac (.inl rfl) (ev1 rfl)) rfl (by simp only [upd, za, zaa]; exact rfl) ?_
          refine lex_k (gd_t (b := true) rfl rfl rfl) rfl rfl (zah [] [3] [] rfl (ev1 rfl) (ec (ev2 rfl) (ec (ev2 rfl) en)) (vwL_cons' (vw_arrE rfl rfl rfl (by rw [← List.flatMap_append]; exact mk_nl _) (by rw [List.length_append]) (by rw [List.flatMap_append])) (vwL_cons' rfl rfl)) rfl (msame_d (m.filter (fun x => lessR x.i at_) ++ m.drop (plI (idsK m) at_)) m) rfl rfl rfl rfl rfl rfl) rfl (by simp only [upd, za, zaa]; exact rfl) ?_
          refine zag rfl rfl (op_and rfl (ev1 rfl) (ev3 rfl (fun _ => rfl))) ?_
          refine zag rfl rfl (zac (.inr rfl) (ev1 rfl)) ?_
          refine lex_nil ?_
          refine dwp_ret ?_
          refine kend0 (rs1 rfl (rv_t rfl)) rfl ?_
          have happ : m.filter (fun x => lessR x.i at_) ++ m.drop (plI (idsK m) at_) = m := by rw [hdt]; exact List.take_append_drop _ _
          rw [happ]
          simp
    · refine dwp_wkE 5 rfl (wk_pins (rowM_pip (x.take 6) 0)) ?_
      rintro _ ⟨m, hml0, hmi0, hpin, rfl⟩
      rw [rowM_ids] at hmi0
      rw [rowM_len, List.length_take] at hml0
      have h6 : m.length ≤ 6 := by omega
      clear hml0
      generalize x.take 6 = ids at *
      have hil : (idsK m).length = m.length := List.length_map _
      have hcr : chkM m = rtB ids := by rw [chk_rt, hmi0]
      have hc : chkM m = true := by rw [hcr]; exact hr
      obtain ⟨_, hoi⟩ := chk_ok.1 hc
      have hbp : bN m at_ = plI (idsK m) at_ := bN_pl hoi at_
      have hpl := plI_le (idsK m) at_
      have hfl : foN (idsK m) at_.t ≤ (idsK m).length := List.length_filter_le _ _
      have hdt := drop_take hoi at_
      have hdm : dropM m at_ = m.take (plI (idsK m) at_) := by unfold dropM; rw [if_pos hc, hdt]
      have hfm : foldM m at_.t = m.drop (foN (idsK m) at_.t) := by unfold foldM; rw [if_pos hc, fold_drop hoi]
      have hdl : (dropM m at_).length ≤ 6 := by rw [hdm, List.length_take]; omega
      have hfll : (foldM m at_.t).length ≤ 6 := by rw [hfm, List.length_drop]; omega
      have hcd : chkM (dropM m at_) = true := by rw [hdm]; exact chk_sub hc (List.take_sublist _ _)
      have hcf : chkM (foldM m at_.t) = true := by rw [hfm]; exact chk_sub hc (List.drop_sublist _ _)
      rw [← hmi0] at hb
      refine zak 1 (by simp only [holes, List.cons_append, List.nil_append]; exact rfl) ?_
      refine zad ?_
      refine zab rfl rfl rfl (zac (.inl rfl) (ev1 rfl)) ?_
      refine zab rfl rfl rfl (op_ldw rfl tb35 (ev1 rfl) rfl rfl) ?_
      refine zab rfl rfl rfl (zah [] [] [] rfl (ev1 rfl) (ec (ev1 rfl) (ec (ev1 rfl) en)) rfl rfl ((below_0 m (by omega) at_ hc (by omega)).wk wkZ) rfl rfl rfl rfl rfl rfl) ?_
      refine zab rfl rfl rfl (zac (.inl rfl) (ev1 rfl)) ?_
      refine zab rfl rfl rfl (op_ext rfl (ev1 rfl) rfl) ?_
      refine zab rfl rfl rfl (op_ext rfl (ev1 rfl) rfl) ?_
      refine zan rfl rfl rfl (op_alloc 1 rfl zr44 rfl) (by simp only [upd, za, zaa]; exact rfl) ?_
      refine walk_s rfl rfl (op_stwa rfl tb44 (ev1 rfl) (ev1 rfl) rfl rfl rfl rfl) (by simp only [upd, za, zaa]; exact rfl) ?_
      refine zab rfl rfl rfl (zac (.inr rfl) (ev1 rfl)) ?_
      refine zaf ?_
      refine zae ?_
      refine dwp_draw [([], []), ([0], []), ([], []), ([], []), ([], []), ([0], []), ([], []), ([], []), ([], [])] mixed (by kernel_rfl) ?_
      refine zag rfl rfl (zac (.inl rfl) (ev1 rfl)) ?_
      refine zag rfl rfl (op_ldw rfl tb35 (ev1 rfl) rfl rfl) ?_
      refine zag rfl rfl (zah [] [] [] rfl (ev1 rfl) (ec (ev1 rfl) (ec (ev1 rfl) en)) rfl rfl (drop_d m (by omega) at_) rfl rfl rfl rfl rfl rfl) ?_
      refine zag rfl rfl (zac (.inl rfl) (ev1 rfl)) ?_
      refine zag rfl rfl (op_fa rfl fo35_0 (ev1 rfl)) ?_
      refine zag rfl rfl (op_ldo rfl tb33 (ev1 rfl) rfl rfl) ?_
      refine zag rfl rfl (zah [] [] [] rfl (ev1 rfl) (ec (ev1 rfl) (ec (ev1 rfl) en)) rfl rfl (fold_d m (by omega) at_.t) rfl rfl rfl rfl rfl rfl) ?_
      refine zag rfl rfl (zac (.inr rfl) (ev1 rfl)) ?_
      refine zag rfl rfl (zac (.inr rfl) (ev1 rfl)) ?_
      refine lex_nil ?_
      refine zae ?_
      refine zae ?_
      refine zad ?_
      refine zab rfl rfl rfl (zac (.inl rfl) (ev1 rfl)) ?_
      refine zab rfl rfl rfl (zah [] [] [] rfl (ev1 rfl) (ec (ev1 rfl) en) rfl rfl (mcheck_d m (by omega)) rfl rfl rfl rfl rfl rfl) ?_
      refine zab rfl rfl rfl (op_neq rfl (ev1 rfl) (ev1 rfl)) ?_
      refine zaf ?_
      refine dwp_if_f rfl (by rw [hc]; rfl) ?_
      refine zal ?_
      refine zae ?_
      refine zae ?_
      refine dwp_draw [([], []), ([], []), ([], []), ([], []), ([], []), ([], []), ([], []), ([], []), ([], []), ([], []), ([], []), ([], []), ([], []), ([1], []), ([], []), ([], []), ([], []), ([], []), ([], []), ([], []), ([], []), ([], []), ([], []), ([], []), ([], []), ([], []), ([], []), ([], []), ([], [])] mixed (by kernel_rfl) ?_
      refine zag rfl rfl (zac (.inl rfl) (ev1 rfl)) ?_
      refine zag rfl rfl (zac (.inl rfl) (ev1 rfl)) ?_
      refine zag rfl rfl (op_lenm rfl sl26 (ev1 rfl)) ?_
      refine zag rfl rfl (op_gtr rfl (ev1 rfl) (ev1 rfl)) ?_
      refine zag rfl rfl (op_neb rfl un4 (ev1 rfl) (ev1 rfl)) ?_
      refine zag rfl rfl (zac (.inl rfl) (ev1 rfl)) ?_
      refine zai (gd_f rfl rfl rfl) rfl rfl (zac (.inl rfl) (ev1 rfl)) ?_
      refine zai (gd_f rfl rfl rfl) rfl rfl (zac (.inl rfl) (ev2 rfl)) ?_
      refine zai (gd_tt rfl rfl rfl) rfl rfl (zac (.inl rfl) (ev1 rfl)) ?_
      refine zai (gd_tt rfl rfl rfl) rfl rfl (zac (.inl rfl) (ev1 rfl)) ?_
      refine zai (gd_tt rfl rfl rfl) rfl rfl (op_lenm rfl sl26 (ev2 rfl)) ?_
      refine zai (gd_tt rfl rfl rfl) rfl rfl (op_sub' rfl (ev2 rfl) (ev1 rfl) (fun hp => IntWalk.i64_in _ (by first | omega | (simp at hp; omega)))) ?_
      refine zai (gd_tt rfl rfl rfl) rfl rfl (op_slmdr (i := 0) rfl sl26 (ev2 rfl) (bd_some (ev2 rfl)) (fun hp => absurd hp (by simp)) (fun hp => absurd hp (by simp)) (fun _ => rfl)) ?_
      refine zai (gd_tt rfl rfl rfl) rfl rfl (op_ldw rfl tb44 (ev1 rfl) rfl rfl) ?_
      refine zai (gd_tt rfl rfl rfl) rfl rfl (op_bs (ps := [(0, .tmp 68)]) rfl sl26 zr44 rfl (vc (ev2 rfl) vn) rfl (by decide) (by decide)) ?_
      refine zai (gd_tt rfl rfl rfl) rfl rfl ((fun hp => absurd hp (by simp) : DOp _ _ _ _ _ [] (.val (.bool false)) [])) ?_
      refine zai (gd_tt rfl rfl rfl) rfl rfl (op_not rfl (ev2 rfl)) ?_
      refine zai (gd_f rfl rfl rfl) rfl rfl ((op_and rfl (ev2 rfl) (ev2 rfl)).cast (d' := .val (.bool false)) (by rfl)) ?_
      refine zag rfl rfl (op_or rfl (ev1 rfl) (ev3 rfl id)) ?_
      refine zag rfl rfl (zac (.inl rfl) (ev1 rfl)) ?_
      refine zai (gd_f rfl rfl rfl) rfl rfl (zac (.inl rfl) (ev1 rfl)) ?_
      refine zai (gd_f rfl rfl rfl) rfl rfl (zah [] [] [] rfl (ev1 rfl) (ec (ev2 rfl) en) rfl rfl (mcheck_d (dropM m at_) (by omega)) rfl rfl rfl rfl rfl rfl) ?_
      refine zai (gd_f rfl rfl rfl) rfl rfl (op_neq rfl (ev2 rfl) (ev1 rfl)) ?_
      refine zag rfl rfl (op_or rfl (ev1 rfl) (ev3 rfl id)) ?_
      refine zag rfl rfl (zac (.inl rfl) (ev1 rfl)) ?_
      refine zai (gd_f rfl rfl rfl) rfl rfl (zac (.inl rfl) (ev1 rfl)) ?_
      refine zai (gd_f rfl rfl rfl) rfl rfl (zah [] [] [] rfl (ev1 rfl) (ec (ev2 rfl) en) rfl rfl (mcheck_d (foldM m at_.t) (by omega)) rfl rfl rfl rfl rfl rfl) ?_
      refine zai (gd_f rfl rfl rfl) rfl rfl (op_neq rfl (ev2 rfl) (ev1 rfl)) ?_
      refine zag rfl rfl (op_or rfl (ev1 rfl) (ev3 rfl id)) ?_
      refine lex_nil ?_
      refine dwp_if_f rfl (by rw [hcd, hcf]; rw [hdm, List.length_take]; simp [errOr]; omega) ?_
      refine zal ?_
      refine zae ?_
      refine zad ?_
      refine zab rfl rfl rfl (zac (.inr rfl) (ev1 rfl)) ?_
      refine zaf ?_
      refine zae ?_
      refine zae ?_
      refine zad ?_
      refine zab rfl rfl rfl (zac (.inl rfl) (ev1 rfl)) ?_
      refine zab rfl rfl rfl (op_lenm rfl sl26 (ev1 rfl)) ?_
      refine zab rfl rfl rfl (zac (.inl rfl) (ev1 rfl)) ?_
      refine zaf ?_
      refine zam ?_
      refine dwp_loopS ⟨hs0, rfl⟩ (α := Nat) (fun k => [(10, .val (.int .i64 (foN ((idsK m).take k) at_.t : Int))), (86, .val (.int .i64 (k : Int)))]) [(3, _), (5, _), (8, _), (9, _), (84, _), (85, _)] (fun k => []) [_, _] (fun k => k ≤ m.length) (fun k => m.length - k) 0 [0, 1] (Nat.zero_le _) rfl ⟨rfl, rfl, rfl, rfl, rfl, rfl, trivial⟩ ⟨rfl, rfl, trivial⟩ ⟨rfl, rfl, trivial⟩ ?_
      intro k hx
      simp only [upd, za, zaa, List.cons_append, List.nil_append]
      have hk := hx
      have hfl2 : foN ((idsK m).take k) at_.t ≤ k := filt_tl
      refine zae ?_
      refine zad ?_
      refine zab rfl rfl rfl (op_lss rfl (ev1 rfl) (ev1 rfl)) ?_
      refine zaf ?_
      refine zae ?_
      refine dwp_cond rfl (fun c10 => ?_) (fun c10 => ?_)
      · try simp only [decide_eq_true_eq, decide_eq_false_iff_not, beq_iff_eq, bne_iff_ne, beq_eq_false_iff_ne, bne_eq_false_iff_eq, Bool.not_eq_true', Bool.not_eq_false', Bool.and_eq_true, Bool.or_eq_true, Bool.or_eq_false_iff, ne_eq, Decidable.not_not, Int.not_lt, Int.not_le] at c10
        refine zal ?_
        refine zae ?_
        refine zam ?_
        refine zae ?_
        refine zak 1 (by simp only [holes, List.cons_append, List.nil_append]; exact rfl) ?_
        refine zad ?_
        refine zab rfl rfl rfl (op_ixmr (k) (by decide) rfl sl26 (ev1 rfl) (ev1 rfl) (fun _ => rfl) (by omega) (fun _ => rfl)) ?_
        refine zab rfl rfl rfl (op_lddr rfl tb44 (ev1 rfl) rfl rfl) ?_
        refine zan rfl rfl rfl (op_alloc 2 rfl zr44 rfl) (by simp only [upd, za, zaa]; exact rfl) ?_
        refine walk_s rfl rfl (op_stam2 rfl tb44 (ev1 rfl) (ev1 rfl) rfl rfl rfl rfl) (by simp only [upd, za, zaa]; exact rfl) ?_
        refine zaf ?_
        refine zae ?_
        have hkl : k < m.length := by omega
        have hge : (idsK m)[k]'(by omega) = m[k].i := List.getElem_map _
        refine zad ?_
        refine zab rfl rfl rfl (op_fa rfl fo44_0 (ev1 rfl)) ?_
        refine zab rfl rfl rfl (op_fa rfl fo35_0 (ev1 rfl)) ?_
        refine zab rfl rfl rfl (op_ldm rfl tb33 (ev1 rfl) rfl rfl) ?_
        refine zab rfl rfl rfl (op_fa rfl fo35_0 (ev1 rfl)) ?_
        refine zab rfl rfl rfl (op_ldo rfl tb33 (ev1 rfl) rfl rfl) ?_
        refine zab rfl rfl rfl (op_leq rfl (ev1 rfl) (ev1 rfl)) ?_
        refine zaf ?_
        refine dwp_cond rfl (fun c4 => ?_) (fun c4 => ?_)
        · have c5 : (idsK m)[k].t ≤ at_.t := by rw [hge]; exact of_decide_eq_true c4
          refine zad ?_
          refine zab rfl rfl rfl (zac (.inl rfl) (ev1 rfl)) ?_
          refine zab rfl rfl rfl (op_add' rfl (ev1 rfl) (ev1 rfl) (fun _ => IntWalk.i64_in _ (by omega))) ?_
          refine zab rfl rfl rfl (zac (.inr rfl) (ev1 rfl)) ?_
          refine zaf ?_
          refine zad ?_
          refine zab rfl rfl rfl (op_add' rfl (ev1 rfl) (ev1 rfl) (fun _ => IntWalk.i64_in _ (by omega))) ?_
          refine zab rfl rfl rfl (zac (.inl rfl) (ev1 rfl)) ?_
          refine zaf ?_
          refine ⟨k + 1, [0, 1], by omega, by simp only []; omega, rfl, ⟨by unfold foN; rw [filt_take (by omega), if_pos (by simpa using c5), List.length_append]; rfl, rfl, rfl, rfl, rfl, rfl, rfl, rfl, trivial⟩, ⟨rfl, rfl, trivial⟩⟩
        · have c5 : ¬ (idsK m)[k].t ≤ at_.t := by rw [hge]; exact of_decide_eq_false c4
          refine zal ?_
          refine zad ?_
          refine zab rfl rfl rfl (op_add' rfl (ev1 rfl) (ev1 rfl) (fun _ => IntWalk.i64_in _ (by omega))) ?_
          refine zab rfl rfl rfl (zac (.inl rfl) (ev1 rfl)) ?_
          refine zaf ?_
          refine ⟨k + 1, [0, 1], by omega, by simp only []; omega, rfl, ⟨by unfold foN; rw [filt_take (by omega), if_neg (by simpa using c5), List.append_nil]; rfl, rfl, rfl, rfl, rfl, rfl, rfl, rfl, trivial⟩, ⟨rfl, rfl, trivial⟩⟩
      · try simp only [decide_eq_true_eq, decide_eq_false_iff_not, beq_iff_eq, bne_iff_ne, beq_eq_false_iff_ne, bne_eq_false_iff_eq, Bool.not_eq_true', Bool.not_eq_false', Bool.and_eq_true, Bool.or_eq_true, Bool.or_eq_false_iff, ne_eq, Decidable.not_not, Int.not_lt, Int.not_le] at c10
        refine dwp_exit ?_
        refine zae ?_
        refine zae ?_
        have hkm : k = m.length := by omega
        rw [List.take_of_length_le (by omega)]
        refine zad ?_
        refine zab rfl rfl rfl (zac (.inl rfl) (ev1 rfl)) ?_
        refine zab rfl rfl rfl (op_lenm rfl sl26 (ev1 rfl)) ?_
        refine zab rfl rfl rfl (zac (.inl rfl) (ev1 rfl)) ?_
        refine zab rfl rfl rfl (op_lenm rfl sl26 (ev1 rfl)) ?_
        refine zab rfl rfl rfl (zac (.inl rfl) (ev1 rfl)) ?_
        refine zab rfl rfl rfl (op_sub' rfl (ev1 rfl) (ev1 rfl) (fun _ => IntWalk.i64_in _ (by omega))) ?_
        refine zab rfl rfl rfl (op_neq rfl (ev1 rfl) (ev1 rfl)) ?_
        refine zab rfl rfl rfl (zac (.inl rfl) (ev1 rfl)) ?_
        refine zaj (gd_f rfl rfl rfl) rfl rfl rfl (zac (.inl rfl) (ev1 rfl)) ?_
        refine zaj (gd_f rfl rfl rfl) rfl rfl rfl (zac (.inl rfl) (ev1 rfl)) ?_
        refine zaj (gd_f rfl rfl rfl) rfl rfl rfl (zac (.inl rfl) (ev1 rfl)) ?_
        refine zaj (gd_f rfl rfl rfl) rfl rfl rfl (op_slmdr (i := foN (idsK m) at_.t) rfl sl26 (ev2 rfl) (bd_some (ev2 rfl)) (fun _ => rfl) (fun _ => by omega) (fun _ => rfl)) ?_
        refine zaj (gd_f rfl rfl rfl) rfl rfl rfl (zah [] [] [] rfl (ev1 rfl) (ec (ev2 rfl) (ec (ev2 rfl) en)) rfl rfl (msame_d (foldM m at_.t) (m.drop (foN (idsK m) at_.t))) rfl rfl rfl rfl rfl rfl) ?_
        refine zaj (gd_f rfl rfl rfl) rfl rfl rfl (op_not rfl (ev2 rfl)) ?_
        refine zab rfl rfl rfl (op_or rfl (ev1 rfl) (ev3 rfl id)) ?_
        refine zaf ?_
        refine dwp_if_f rfl (by rw [hfm, List.length_drop]; simp; omega) ?_
        refine zal ?_
        refine zae ?_
        refine zad ?_
        refine zab rfl rfl rfl (zac (.inr rfl) (ev1 rfl)) ?_
        refine zaf ?_
        refine zae ?_
        refine zae ?_
        refine zad ?_
        refine zab rfl rfl rfl (zac (.inr rfl) (ev1 rfl)) ?_
        refine zaf ?_
        refine zam ?_
        refine dwp_loopS ⟨hs0, rfl⟩ (α := Nat) (fun q => [(13, .val (.int .i64 (shS m (q + 1) : Int))), (14, .val (.int .i64 ((q + 1 : Nat) : Int)))]) [(3, _), (5, _), (8, _)] (fun q => []) [_, _] (fun q => q + 1 ≤ m.length ∨ q = 0) (fun q => m.length - q) 0 [0, 1] (.inr rfl) rfl ⟨rfl, rfl, rfl, trivial⟩ ⟨rfl, rfl, trivial⟩ ⟨rfl, rfl, trivial⟩ ?_
        intro q hx
        simp only [upd, za, zaa, List.cons_append, List.nil_append]
        have hq := hx
        have hsl := shS_le (l := m) (q + 1)
        refine zae ?_
        refine zae ?_
        refine zad ?_
        refine zab rfl rfl rfl (zac (.inl rfl) (ev1 rfl)) ?_
        refine zab rfl rfl rfl (zac (.inl rfl) (ev1 rfl)) ?_
        refine zab rfl rfl rfl (op_lenm rfl sl26 (ev1 rfl)) ?_
        refine zab rfl rfl rfl (op_lss rfl (ev1 rfl) (ev1 rfl)) ?_
        refine zaf ?_
        refine dwp_cond rfl (fun c13 => ?_) (fun c13 => ?_)
        · try simp only [decide_eq_true_eq, decide_eq_false_iff_not, beq_iff_eq, bne_iff_ne, beq_eq_false_iff_ne, bne_eq_false_iff_eq, Bool.not_eq_true', Bool.not_eq_false', Bool.and_eq_true, Bool.or_eq_true, Bool.or_eq_false_iff, ne_eq, Decidable.not_not, Int.not_lt, Int.not_le] at c13
          refine zal ?_
          refine zae ?_
          refine zam ?_
          have hq2 : q + 1 < m.length := by omega
          have pa := hpin m[q] (List.getElem_mem _)
          have pb := hpin m[q + 1] (List.getElem_mem _)
          have la := m[q].twod
          have lb := m[q + 1].twod
          have hsm := shM_le m[q] m[q + 1]
          unfold shM at hsm
          have hs2 : shS m (q + 1 + 1) = shS m (q + 1) + shN m[q].ds m[q + 1].ds := by
            rw [shS, gM (k := q) (by omega), gM (k := q + 1) (by omega)]
            rfl
          refine dwp_draw [([], []), ([], []), ([], []), ([], []), ([], []), ([], []), ([], []), ([], []), ([], []), ([], []), ([], []), ([], []), ([], []), ([], []), ([], [])] mixed (by kernel_rfl) ?_
          refine zag rfl rfl (zac (.inl rfl) (ev1 rfl)) ?_
          refine zag rfl rfl (zac (.inl rfl) (ev1 rfl)) ?_
          refine zag rfl rfl (zac (.inl rfl) (ev1 rfl)) ?_
          refine zag rfl rfl (op_sub' rfl (ev1 rfl) (ev1 rfl) (fun _ => IntWalk.i64_in _ (by omega))) ?_
          refine zag rfl rfl (op_ixmr (q) (by decide) rfl sl26 (ev1 rfl) (ev1 rfl) (fun _ => by omega) (by omega) (fun _ => rfl)) ?_
          refine zag rfl rfl (op_fadm rfl fo44_1 (ev1 rfl)) ?_
          refine zag rfl rfl (op_lddm rfl tb42 (ev1 rfl) rfl) ?_
          refine zag rfl rfl (zac (.inl rfl) (ev1 rfl)) ?_
          refine zag rfl rfl (zac (.inl rfl) (ev1 rfl)) ?_
          refine zag rfl rfl (op_ixmr (q + 1) (by decide) rfl sl26 (ev1 rfl) (ev1 rfl) (fun _ => rfl) (by omega) (fun _ => rfl)) ?_
          refine zag rfl rfl (op_fadm rfl fo44_1 (ev1 rfl)) ?_
          refine zag rfl rfl (op_lddm rfl tb42 (ev1 rfl) rfl) ?_
          refine zag rfl rfl (zah [] [] [] rfl (ev1 rfl) (ec (ev1 rfl) (ec (ev1 rfl) en)) rfl rfl (shared_d 2 1 _ _ (by omega) (by omega) pa pb) rfl rfl rfl rfl rfl rfl) ?_
          refine zag rfl rfl (op_add' rfl (ev1 rfl) (ev1 rfl) (fun _ => IntWalk.i64_in _ (by omega))) ?_
          refine zag rfl rfl (zac (.inr rfl) (ev1 rfl)) ?_
          refine lex_nil ?_
          refine zad ?_
          refine zab rfl rfl rfl (zac (.inl rfl) (ev1 rfl)) ?_
          refine zab rfl rfl rfl (op_add' rfl (ev1 rfl) (ev1 rfl) (fun _ => IntWalk.i64_in _ (by omega))) ?_
          refine zab rfl rfl rfl (zac (.inr rfl) (ev1 rfl)) ?_
          refine zaf ?_
          refine ⟨q + 1, [0, 1], .inl (by omega), by simp only []; omega, rfl, ⟨by rw [hs2]; rfl, rfl, rfl, rfl, rfl, trivial⟩, ⟨rfl, rfl, trivial⟩⟩
        · try simp only [decide_eq_true_eq, decide_eq_false_iff_not, beq_iff_eq, bne_iff_ne, beq_eq_false_iff_ne, bne_eq_false_iff_eq, Bool.not_eq_true', Bool.not_eq_false', Bool.and_eq_true, Bool.or_eq_true, Bool.or_eq_false_iff, ne_eq, Decidable.not_not, Int.not_lt, Int.not_le] at c13
          refine dwp_exit ?_
          refine zae ?_
          have hqs : shS m (q + 1) = shS m m.length := by
            rcases hq with g | g
            · rw [show m.length = q + 1 by omega]
            · subst g
              rcases Nat.eq_zero_or_pos m.length with g2 | g2
              · rw [g2]; rfl
              · rw [show m.length = 0 + 1 by omega]
          rw [hqs]
          refine zak 2 (by simp only [holes, List.cons_append, List.nil_append]; exact rfl) ?_
          refine dwp_draw [([], []), ([], []), ([], []), ([], []), ([], []), ([], []), ([], []), ([], []), ([], []), ([], []), ([], []), ([0], []), ([2], [2]), ([], []), ([], []), ([], []), ([], []), ([2, 3], [2, 3]), ([], []), ([3], []), ([], []), ([], [])] mixed (by kernel_rfl) ?_
          refine zag rfl rfl (zac (.inl rfl) (ev1 rfl)) ?_
          refine zag rfl rfl (zah [] [] [] rfl (ev1 rfl) (ec (ev1 rfl) en) rfl rfl (shares_y m (by omega) hpin hc) rfl rfl rfl rfl rfl rfl) ?_
          refine zag rfl rfl (zac (.inl rfl) (ev1 rfl)) ?_
          refine zag rfl rfl (op_eql rfl (ev1 rfl) (ev1 rfl)) ?_
          refine zag rfl rfl (zac (.inl rfl) (ev1 rfl)) ?_
          refine zai (gd_t rfl rfl rfl) rfl rfl (zac (.inl rfl) (ev1 rfl)) ?_
          refine zai (gd_t rfl rfl rfl) rfl rfl (zac (.inl rfl) (ev1 rfl)) ?_
          refine zai (gd_t rfl rfl rfl) rfl rfl (zah [] [] [] rfl (ev1 rfl) (ec (ev2 rfl) (ec (ev2 rfl) en)) rfl rfl (msame_d m m) rfl rfl rfl rfl rfl rfl) ?_
          refine zag rfl rfl ((op_and rfl (ev1 rfl) (ev3 rfl id)).cast (d' := .val (.bool true)) (by simp)) ?_
          refine zag rfl rfl (zac (.inl rfl) (ev1 rfl)) ?_
          refine lex_k (gd_t (b := true) rfl rfl rfl) rfl rfl (zac (.inl rfl) (ev1 rfl)) rfl (by simp only [upd, za, zaa]; exact rfl) ?_
          refine lex_k (gd_t (b := true) rfl rfl rfl) rfl rfl (op_ldw rfl tb35 (ev1 rfl) rfl rfl) rfl (by simp only [upd, za, zaa]; exact rfl) ?_
          refine lex_k (gd_t (b := true) rfl rfl rfl) rfl rfl (zah [] [] [2] rfl (ev1 rfl) (ec (ev2 rfl) (ec (ev2 rfl) en)) rfl rfl (drop_y m (by omega) at_ hc) rfl rfl rfl (by exact (wrc (sb_arxr (mk_nl _)) rfl)) rfl rfl) rfl (by simp only [upd, za, zaa]; exact rfl) ?_
          refine lex_k (gd_t (b := true) rfl rfl rfl) rfl rfl (zac (.inl rfl) (ev1 rfl)) rfl (by simp only [upd, za, zaa]; exact rfl) ?_
          refine lex_k (gd_t (b := true) rfl rfl rfl) rfl rfl (zac (.inl rfl) (ev1 rfl)) rfl (by simp only [upd, za, zaa]; exact rfl) ?_
          refine lex_k (gd_t (b := true) rfl rfl rfl) rfl rfl (op_lenm rfl sl26 (ev2 rfl)) rfl (by simp only [upd, za, zaa]; exact rfl) ?_
          refine lex_k (gd_t (b := true) rfl rfl rfl) rfl rfl (op_slmdr (i := plI (idsK m) at_) rfl sl26 (ev2 rfl) (bd_some (ev2 rfl)) (fun _ => by rw [hdm, List.length_take]; omega) (fun _ => by omega) (fun _ => rfl)) rfl (by simp only [upd, za, zaa]; exact rfl) ?_
          refine lex_k (gd_t (b := true) rfl rfl rfl) rfl rfl (op_appr (j := 3) rfl sl26 zr44 rfl (ev2 rfl) (ev2 rfl) rfl rfl (mk_oc _) (fun _ => ⟨by rw [hdt]; simp only [List.length_take, List.length_drop]; omega, by rw [hdt]; simp only [List.length_take, List.length_drop]; omega⟩)) rfl (by simp only [upd, za, zaa]; exact rfl) ?_
          refine lex_k (gd_t (b := true) rfl rfl rfl) rfl rfl (zac (.inl rfl) (ev1 rfl)) rfl (by simp only [upd, za, zaa]; exact rfl) ?_
          refine lex_k (gd_t (b := true) rfl rfl rfl) rfl rfl (zah [] [3] [] rfl (ev1 rfl) (ec (ev2 rfl) (ec (ev2 rfl) en)) (vwL_cons' (vw_arrE rfl rfl rfl (by rw [← List.flatMap_append]; exact mk_nl _) (by rw [List.length_append]) (by rw [List.flatMap_append])) (vwL_cons' rfl rfl)) rfl (msame_d (m.filter (fun x => lessR x.i at_) ++ m.drop (plI (idsK m) at_)) m) rfl rfl rfl rfl rfl rfl) rfl (by simp only [upd, za, zaa]; exact rfl) ?_
          refine zag rfl rfl (op_and rfl (ev1 rfl) (ev3 rfl (fun _ => rfl))) ?_
          refine zag rfl rfl (zac (.inr rfl) (ev1 rfl)) ?_
          refine lex_nil ?_
          refine dwp_ret ?_
          refine kend0 (rs1 rfl (rv_t rfl)) rfl ?_
          have happ : m.filter (fun x => lessR x.i at_) ++ m.drop (plI (idsK m) at_) = m := by rw [hdt]; exact List.take_append_drop _ _
          rw [happ]
          simp
  · refine dwp_wkE 5 rfl (wk_pins (rowM_pip (x.take 6) 0)) ?_
    rintro _ ⟨m, hml0, hmi0, hpin, rfl⟩
    rw [rowM_ids] at hmi0
    rw [rowM_len, List.length_take] at hml0
    have h6 : m.length ≤ 6 := by omega
    clear hml0
    generalize x.take 6 = ids at *
    have hil : (idsK m).length = m.length := List.length_map _
    have hcr : chkM m = rtB ids := by rw [chk_rt, hmi0]
    have hc : chkM m = false := by rw [hcr]; exact Bool.not_eq_true _ |>.mp hr
    have hdm : dropM m at_ = [] := by unfold dropM; rw [if_neg (by rw [hc]; decide)]
    have hfm : foldM m at_.t = [] := by unfold foldM; rw [if_neg (by rw [hc]; decide)]
    have him : idsC m = [] := by unfold idsC; rw [if_neg (by rw [hc]; decide)]
    have hdl : (dropM m at_).length ≤ 6 := by rw [hdm]; decide
    have hfll : (foldM m at_.t).length ≤ 6 := by rw [hfm]; decide
    have hidl : (idsC m).length ≤ 6 := by rw [him]; decide
    refine zak 1 (by simp only [holes, List.cons_append, List.nil_append]; exact rfl) ?_
    refine zad ?_
    refine zab rfl rfl rfl (zac (.inl rfl) (ev1 rfl)) ?_
    refine zab rfl rfl rfl (op_ldw rfl tb35 (ev1 rfl) rfl rfl) ?_
    refine zab rfl rfl rfl (zah [] [] [] rfl (ev1 rfl) (ec (ev1 rfl) (ec (ev1 rfl) en)) rfl rfl ((below_v m (by omega) at_ hc).wk wkZ) rfl rfl rfl rfl rfl rfl) ?_
    refine zab rfl rfl rfl (zac (.inl rfl) (ev1 rfl)) ?_
    refine zab rfl rfl rfl (op_ext rfl (ev1 rfl) rfl) ?_
    refine zab rfl rfl rfl (op_ext rfl (ev1 rfl) rfl) ?_
    refine zan rfl rfl rfl (op_alloc 1 rfl zr44 rfl) (by simp only [upd, za, zaa]; exact rfl) ?_
    refine walk_s rfl rfl (op_stwa rfl tb44 (ev1 rfl) (ev1 rfl) rfl rfl rfl rfl) (by simp only [upd, za, zaa]; exact rfl) ?_
    refine zab rfl rfl rfl (zac (.inr rfl) (ev1 rfl)) ?_
    refine zaf ?_
    refine zae ?_
    refine dwp_draw [([], []), ([0], []), ([], []), ([], []), ([], []), ([0], []), ([], []), ([], []), ([], [])] mixed (by kernel_rfl) ?_
    refine zag rfl rfl (zac (.inl rfl) (ev1 rfl)) ?_
    refine zag rfl rfl (op_ldw rfl tb35 (ev1 rfl) rfl rfl) ?_
    refine zag rfl rfl (zah [] [] [] rfl (ev1 rfl) (ec (ev1 rfl) (ec (ev1 rfl) en)) rfl rfl (drop_d m (by omega) at_) rfl rfl rfl rfl rfl rfl) ?_
    refine zag rfl rfl (zac (.inl rfl) (ev1 rfl)) ?_
    refine zag rfl rfl (op_fa rfl fo35_0 (ev1 rfl)) ?_
    refine zag rfl rfl (op_ldo rfl tb33 (ev1 rfl) rfl rfl) ?_
    refine zag rfl rfl (zah [] [] [] rfl (ev1 rfl) (ec (ev1 rfl) (ec (ev1 rfl) en)) rfl rfl (fold_d m (by omega) at_.t) rfl rfl rfl rfl rfl rfl) ?_
    refine zag rfl rfl (zac (.inr rfl) (ev1 rfl)) ?_
    refine zag rfl rfl (zac (.inr rfl) (ev1 rfl)) ?_
    refine lex_nil ?_
    refine zae ?_
    refine zae ?_
    refine zad ?_
    refine zab rfl rfl rfl (zac (.inl rfl) (ev1 rfl)) ?_
    refine zab rfl rfl rfl (zah [] [] [] rfl (ev1 rfl) (ec (ev1 rfl) en) rfl rfl (mcheck_d m (by omega)) rfl rfl rfl rfl rfl rfl) ?_
    refine zab rfl rfl rfl (op_neq rfl (ev1 rfl) (ev1 rfl)) ?_
    refine zaf ?_
    refine dwp_if_t rfl (by rw [hc]; rfl) ?_
    refine zae ?_
    refine zad ?_
    refine zab rfl rfl rfl (zac (.inl rfl) (ev1 rfl)) ?_
    refine zab rfl rfl rfl ((op_not rfl (ev1 rfl)).cast (d' := .val (.bool true)) (by kernel_rfl)) ?_
    refine zab rfl rfl rfl (zac (.inl rfl) (ev1 rfl)) ?_
    refine zaj (gd_t rfl rfl rfl) rfl rfl rfl (zac (.inl rfl) (ev1 rfl)) ?_
    refine zaj (gd_t rfl rfl rfl) rfl rfl rfl (op_lenm rfl sl26 (ev2 rfl)) ?_
    refine zaj (gd_t rfl rfl rfl) rfl rfl rfl (zac (.inl rfl) (ev1 rfl)) ?_
    refine zaj (gd_t rfl rfl rfl) rfl rfl rfl (op_lenm rfl sl26 (ev2 rfl)) ?_
    refine zaj (gd_t rfl rfl rfl) rfl rfl rfl (op_add' rfl (ev2 rfl) (ev2 rfl) (fun hp => IntWalk.i64_in _ (by first | omega | (simp at hp; omega)))) ?_
    refine zaj (gd_t rfl rfl rfl) rfl rfl rfl (zac (.inl rfl) (ev1 rfl)) ?_
    refine zaj (gd_t rfl rfl rfl) rfl rfl rfl (zah [] [] [] rfl (ev1 rfl) (ec (ev2 rfl) en) rfl rfl (Ids_d m (by omega)) rfl rfl rfl rfl rfl rfl) ?_
    refine zaj (gd_t rfl rfl rfl) rfl rfl rfl (op_len rfl sl22 (ev2 rfl)) ?_
    refine zaj (gd_t rfl rfl rfl) rfl rfl rfl (op_add' rfl (ev2 rfl) (ev2 rfl) (fun hp => IntWalk.i64_in _ (by first | omega | (simp at hp; omega)))) ?_
    refine zaj (gd_t rfl rfl rfl) rfl rfl rfl (op_eql rfl (ev2 rfl) (ev1 rfl)) ?_
    refine zab rfl rfl rfl (op_and rfl (ev1 rfl) (ev3 rfl id)) ?_
    refine zab rfl rfl rfl (zac (.inl rfl) (ev1 rfl)) ?_
    refine zaj (gd_t rfl rfl rfl) rfl rfl rfl (zac (.inl rfl) (ev1 rfl)) ?_
    refine zaj (gd_t rfl rfl rfl) rfl rfl rfl (zah [] [] [] rfl (ev1 rfl) (ec (ev2 rfl) en) rfl rfl (shares_v m (by omega) hc) rfl rfl rfl rfl rfl rfl) ?_
    refine zaj (gd_t rfl rfl rfl) rfl rfl rfl (op_eql rfl (ev2 rfl) (ev1 rfl)) ?_
    refine zab rfl rfl rfl (op_and rfl (ev1 rfl) (ev3 rfl id)) ?_
    refine zab rfl rfl rfl (zac (.inr rfl) (ev1 rfl)) ?_
    refine zaf ?_
    refine dwp_ret ?_
    refine kend0 (rs1 rfl (rv_t rfl)) rfl ?_
    rw [hdm, hfm, him]
    rfl
end Go.Proofs.Ytmpodnadoebclaa
