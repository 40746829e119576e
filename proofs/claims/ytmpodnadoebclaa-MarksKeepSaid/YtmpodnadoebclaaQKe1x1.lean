/- Operations: numbers, bools, structs, memory that is read and written. Conditions: what a type is, by the kernel; Codes within a function; a loop's rounds one by one; strings; Memory that stays from now on, within a call; arrays as rows of elements; parts of arrays; Rows made by make, and copied into; parts of arrays with their room cut; What is known of a value, told otherwise: nil slices as rows of nothing, plain structs as lists of cells; Arrays of words that are values, read at a place; cells at a place that is not known; what types are; colours; canvases with dots, as they show; canvases compared, point by point; ids; marks that are the same; a mark put in its place; what the laws begin with: marks of ids, with canvases of numbers; the law of what is kept. No condition. -/
import Derived.Test.YtmpodnadoebclaaQ5
import Derived.Test.YtmpodnadoebclaaRows
namespace Go.Proofs.Ytmpodnadoebclaa
set_option linter.unusedVariables false
set_option linter.unusedSimpArgs false
open Go.RowKit

/-! ### what a type is -/
section
variable {P : Program} {pc : Bool} {o : Oper} {F : Fr} {M : List Blk}
section
variable {T T' : TypeId} {x y : Operand} {k : IntKind} {p q : Int}
end
section
variable {T : TypeId} {x : Operand} {i p k : Nat} {L R : List Value} {v : Value}
end
section
variable {T : TypeId} {x y : Operand} {i p n sz : Nat} {k : IntKind} {z : Int} {L : List Value}
theorem op_ixd (ho : o.op = .indexAddr T x y) (hT : arE P T = some (n, sz)) (hx : Ev pc F x (.dpf L)) (hy : Ev pc F y (.val (.int k z))) (h : pc = true → 0 ≤ z ∧ z < n) : DOp P pc o F M [] (.dpf (L.drop (z.toNat * sz))) [] := by
  intro hp a s hok hops hfp
  have hr := ev_at hp hx (by simp [ho, Op.operands]) hops
  have h2 := (ev_at hp hy (by simp [ho, Op.operands]) hops).val_eq
  generalize hv : a.eval x = vx at hr
  cases hr with
  | @dpf b c _ hI hc =>
    refine dg_val hok (run_index_arr ho hT hv h2 (h hp).1 (h hp).2) (.dpf hI fun j v hj => ?_)
    rw [List.getElem?_drop] at hj
    rw [Nat.add_assoc]
    exact hc _ v hj
variable {e : TypeId} {by' m : Nat}
end
end
end Go.Proofs.Ytmpodnadoebclaa
namespace Go.Proofs.Ytmpodnadoebclaa
set_option linter.unusedVariables false
set_option linter.unusedSimpArgs false
open Go.RowKit
/-- an element, where there is one -/
theorem op_ixsg {P : Program} {pc : Bool} {o : Oper} {F : Fr} {M : List Blk} {T e : TypeId} {sz by' : Nat} {x y : Operand} {k : IntKind} {z : Int} {α : Type} {en : α → List Value} {l : List α} {j : Nat} (a0 : α) (ho : o.op = .indexAddr T x y) (hT : slE P T = some (e, sz, by')) (hx : Ev pc F x (.slf sz l.length (l.flatMap en))) (hy : Ev pc F y (.val (.int k z))) (hen : ∀ a, (en a).length = sz) (hsz : 0 < sz) (hz : pc = true → z = (j : Int)) (hj : pc = true → j < l.length) : DOp P pc o F M [] (.dpf (en (l.getD j a0))) [] := fun hp => by
  have h := op_ixsr (M := M) ho hT hx hy hen hsz (hz hp) (hj hp) hp
  rw [show l.getD j a0 = l[j]'(hj hp) by simp [List.getD_eq_getElem?_getD, hj hp]]
  exact h
theorem getD_at {α : Type} {l : List α} {j : Nat} {a0 : α} (h : j < l.length) : l.getD j a0 = l[j] := by simp [List.getD_eq_getElem?_getD, h]
section
variable {P : Program} {s0 : St} {n : Cx}
end
end Go.Proofs.Ytmpodnadoebclaa
namespace Go.Proofs.Ytmpodnadoebclaa
set_option linter.unusedVariables false
set_option linter.unusedSimpArgs false
open Go.RowKit
section
variable {P : Program} {s0 : St} {n : Cx}
end
section
variable {P : Program} {pc : Bool} {o : Oper} {F : Fr} {M : List Blk} {T T' : TypeId} {x y : Operand} {i n sz : Nat} {k : IntKind} {z : Int} {α : Type} {en : α → List Value} {l : List α} {j : Nat}
/-- .. of one that stays -/
theorem op_ixdr (a0 : α) (ho : o.op = .indexAddr T x y) (hT : arE P T = some (n, sz)) (hx : Ev pc F x (.dpf (l.flatMap en))) (hy : Ev pc F y (.val (.int k z))) (hz : pc = true → z = (j : Int)) (hj : pc = true → j < n) (hl : l.length = n) (hen : ∀ a, (en a).length = sz) : DOp P pc o F M [] (.dpf (en (l.getD j a0))) [] := by
  intro hp a s hok hops hfp
  have h1 := op_ixd (M := M) ho hT hx hy (fun hp => by have := hz hp; have := hj hp; omega) hp a s hok hops hfp
  have hjl : j < l.length := by rw [hl]; exact hj hp
  have hz' : z.toNat = j := by have := hz hp; omega
  rw [hz'] at h1
  have key : ∀ (s' : St) v, Rep s' (.dpf ((l.flatMap en).drop (j * sz))) v → Rep s' (.dpf (en (l.getD j a0))) v := by
    intro s' v hr
    cases hr with
    | dpf hI hc =>
      refine .dpf hI fun q v hq => hc q v ?_
      have hql : q < sz := by rw [← hen (l.getD j a0)]; exact (List.getElem?_eq_some_iff.1 hq).1
      rw [List.getElem?_drop, flat_cell hen hjl hql, ← getD_at (a0 := a0) hjl]
      exact hq
  revert h1
  generalize (execOp a.eval o).run P s.w = r
  intro h1
  cases r with
  | halt x w' => exact h1
  | ok nx w' =>
    cases nx with
    | value v => obtain ⟨s', a1, a2, a3, a4⟩ := h1; exact ⟨s', a1, a2, a3, key s' v a4⟩
    | skip => obtain ⟨s', a1, a2, a3, a4⟩ := h1; exact ⟨s', a1, a2, a3, key s' _ a4⟩
    | enter f args => exact ⟨h1.1, h1.2.mono fun e w'' ⟨s', v, b1, b2, b3, b4, b5⟩ => ⟨s', v, b1, b2, b3, b4, key s' v b5⟩⟩
    | round l f tmps asg body => exact ⟨h1.1, h1.2.mono fun e w'' ⟨s', v, b1, b2, b3, b4, b5⟩ => ⟨s', v, b1, b2, b3, b4, key s' v b5⟩⟩
    | _ => exact h1
end
section
variable {P : Program} {pc : Bool} {o : Oper} {F : Fr} {M : List Blk}
end
section
variable {P : Program} {s0 : St} {n : Cx}
end
end Go.Proofs.Ytmpodnadoebclaa
namespace Go.Proofs.Ytmpodnadoebclaa
set_option linter.unusedVariables false
set_option linter.unusedSimpArgs false
open Go.RowKit
section
variable {P : Program} {pc : Bool} {o : Oper} {F : Fr} {M : List Blk} {T e : TypeId} {by' : Nat} {x y : Operand}
end
section
variable {P : Program} {pc : Bool} {o : Oper} {F : Fr} {M : List Blk} {T T' : TypeId} {x y : Operand} {k k' : IntKind} {p q : Int}
end
section
variable {P : Program} {pc : Bool} {o : Oper} {F : Fr} {M : List Blk} {T : TypeId} {x lo hi mx : Operand} {n sz : Nat} {α : Type} {en : α → List Value} {l : List α} {k k1 k2 : IntKind} {lz hz mz : Int}
end
section
variable {P : Program} {pc : Bool} {o : Oper} {F : Fr} {M : List Blk} {T e : TypeId} {by' n : Nat} {ds : List D} {Z : List Value}
theorem nlL_at : ∀ {l : List D} {j : Nat} {d : D}, D.nlL l = true → l[j]? = some d → d.nl = true
  | [], j, d, _, h => by simp at h
  | a :: l, j, d, h, hj => by
    unfold D.nlL at h
    rw [Bool.and_eq_true] at h
    cases j with
    | zero => simp at hj; subst hj; exact h.1
    | succ j => exact nlL_at h.2 (by simpa using hj)
/-- an element of a slice of slices -/
theorem op_ixm {x y : Operand} {k : IntKind} {z : Int} {d : D} (j : Nat) (ho : o.op = .indexAddr T x y) (hT : slE P T = some (e, 1, by')) (hx : Ev pc F x (.slm 1 n ds)) (hy : Ev pc F y (.val (.int k z))) (hz : pc = true → z = (j : Int)) (hd : ds[j]? = some d) : DOp P pc o F M [] (.dpm [d]) [] := by
  intro hp a s hok hops _
  have hr := ev_at hp hx (by simp [ho, Op.operands]) hops
  have h2 := (ev_at hp hy (by simp [ho, Op.operands]) hops).val_eq
  have hjl : j < ds.length := (List.getElem?_eq_some_iff.1 hd).1
  have hz' := hz hp
  generalize hv : a.eval x = vx at hr
  cases hr with
  | @slm _ _ cap ad _ vs hnl hl hn hc ha hvl h hm =>
    rcases hm with hm | ⟨b, q, rfl, hI, hcl⟩
    · rw [hm] at hjl; simp at hjl
    · have hrun := run_index_sl (P := P) (w := s.w) ho hT hv h2 (by omega) (by omega)
      rw [Addr.add_mid] at hrun
      have hjv : j < vs.length := by omega
      refine dg_val hok hrun (.dpm (vs := [vs[j]]) ?_ hI (fun i v hi => ?_) rfl (fun i d' v h1 h2 => ?_))
      · unfold D.nlL
        rw [nlL_at hnl hd]; rfl
      · cases i with
        | zero =>
          simp at hi
          subst hi
          have e : q + z.toNat * 1 + 0 = q + j := by omega
          rw [e]
          exact hcl j _ (List.getElem?_eq_getElem hjv)
        | succ i => simp at hi
      · cases i with
        | zero =>
          simp at h1 h2
          subst h1 h2
          exact h j _ _ hd (List.getElem?_eq_getElem hjv)
        | succ i => simp at h1
end
section
variable {P : Program} {pc : Bool} {o : Oper} {F : Fr} {M : List Blk}
end
section
variable {P : Program} {pc : Bool} {o : Oper} {F : Fr} {M : List Blk}
end
section
variable {P : Program} {pc : Bool} {o : Oper} {F : Fr} {M : List Blk}
end
end Go.Proofs.Ytmpodnadoebclaa
namespace Go.Proofs.Ytmpodnadoebclaa
set_option linter.unusedVariables false
set_option linter.unusedSimpArgs false
open Go.RowKit
section
variable {P : Program} {s0 : St} {n : Cx}
/-- .. of what a slot holds -/
theorem dwp_wk {c : Code} {F : Fr} {M : List Blk} {K : Cont} {d d' : D} (t : Nat) (ht : lk F t = some d) (hw : Wk d d') (h : dwp P s0 n c ((t, d') :: F) M K) : dwp P s0 n c F M K := by
  intro a w hi
  refine h a w ?_
  obtain ⟨h0, s, h1, h2, h3, h4, h5, h6⟩ := hi
  refine ⟨h0, s, h1, h2, h3, fun x e he => ?_, h5, h6⟩
  rw [lk_cons] at he
  split at he
  · rename_i e'
    subst e'
    obtain rfl := Option.some.inj he
    exact hw s _ (h4 t _ ht)
  · exact h4 x e he
end
section
variable {P : Program} {pc : Bool} {o : Oper} {F : Fr} {M : List Blk} {T : TypeId} {x : Operand}
end
end Go.Proofs.Ytmpodnadoebclaa
namespace Go.Proofs.Ytmpodnadoebclaa
set_option linter.unusedVariables false
set_option linter.unusedSimpArgs false
open Go.RowKit
section
variable {P : Program} {pc : Bool} {o : Oper} {F : Fr} {M : List Blk} {T : TypeId} {x y : Operand} {k : IntKind} {z : Int} {n : Nat}
end
/-- behind a guard that is known to hold -/
theorem walk_k {P : Program} {s0 : St} {n : Cx} {ops : Array Oper} {o : Oper} {rest : List Oper} {F : Fr} {M M' : List Blk} {K : Cont} {fp : List Nat} {d : D} {t : Nat} {wr : List (Nat × Blk)} (hg : Gd ops o F true) (hng : o.guard.isSome = true) (hd : o.dst = some t) (ht : Nat.blt t n.n = true) (h : DOp P true o F M fp d wr) (hM : upd M wr = M')
    (hk : Walk P s0 n ops rest ((t, .opt true d) :: F) M' K) (hnd : noDef o.op = true := by rfl) : Walk P s0 n ops (o :: rest) F M K := by
  subst hM
  have hb : dstB n.n o.dst = true := by rw [hd]; exact ht
  have hk : Walk P s0 n ops rest (putF o.dst (.opt true d) F) (upd M wr) K := by rw [hd]; exact hk
  intro a w hi
  obtain ⟨h0, s, h1, h2, h3, h4, h5, h6⟩ := hi
  subst h1 h2
  show if Region.wanted o (yielded ops a.tmps) then _ else _
  rw [gd_wanted hg (fun t d _ hd => h4 t d hd)]
  rw [if_pos rfl]
  refine dgives_in hnd (h rfl a s h3.ok (fun x _ d hd => ev_rep h4 hd) (fun _ _ => rfl)) fun s' v ht ⟨e1, e2⟩ => ?_
  exact hk _ _ ⟨h0, s', e1, rfl, h3.trans ht, (h4.mono h3.ok ht).putF h5 hb (.opt (fun _ => e2) (fun h => by cases h)), by rw [put_size]; exact h5, by rw [put_def]; exact h6.mono h3.ok ht⟩
end Go.Proofs.Ytmpodnadoebclaa
namespace Go.Proofs.Ytmpodnadoebclaa
set_option maxRecDepth 4000
set_option linter.unusedVariables false
set_option linter.unusedSimpArgs false
open Go.RowKit
def TL.get (t : TL) (i : Nat) : C4 := t.l.getD i zC4
def getC (w : Int) (ts : List TL) (x y : Int) : C4 := (ts.getD (plN w x y) zT).get (pxN x y)
end Go.Proofs.Ytmpodnadoebclaa
namespace Go.Proofs.Ytmpodnadoebclaa
set_option maxRecDepth 4000
set_option linter.unusedVariables false
set_option linter.unusedSimpArgs false
open Go.RowKit
theorem fo85_0 : fdO Try.prog 85 0 = some 0 := by kernel_rfl
theorem fo85_1 : fdO Try.prog 85 1 = some 1 := by kernel_rfl
set_option maxRecDepth 4000 in
set_option maxHeartbeats 1000000 in
theorem color_d (w h : Int) (ds : List D) (ts : List TL) (hr : RowOk ds ts) (hc : CvOk w h ts) (x y : Int) (ho : onS w h x y = true) : DFun Try.prog 48 [cvD w h ds, .val (.agg #[.int .i64 x, .int .i64 y])] [] (.val (.agg (c4 (getC w ts x y)).toArray)) [] := by
  refine zao (N := 30) 0 (by kernel_rfl) Try.func48 rfl rfl rfl (by simp only [fr0, Nat.zero_add, Nat.reduceAdd]; exact rfl) rfl fun s0 hs0 => ?_
  refine zae ?_
  refine zak 2 (by simp only [holes, List.cons_append, List.nil_append]; exact rfl) ?_
  refine zad ?_
  refine zan rfl rfl rfl (op_boxa 0 rfl (ev1 rfl) rfl) (by simp only [upd, za, zaa]; exact rfl) ?_
  refine zan rfl rfl rfl (op_alloc 1 rfl zr87 rfl) (by simp only [upd, za, zaa]; exact rfl) ?_
  refine zaf ?_
  refine zae ?_
  refine dwp_draw [([], []), ([], []), ([], []), ([], []), ([], []), ([0], []), ([], []), ([0], []), ([], []), ([], []), ([], []), ([], []), ([], []), ([], [])] mixed (by kernel_rfl) ?_
  refine zag rfl rfl (zac (.inl rfl) (ev1 rfl)) ?_
  refine zag rfl rfl (op_nc rfl (ev1 rfl) (fun s v h => by cases h; exact ⟨_, rfl⟩)) ?_
  refine zag rfl rfl (op_fadm rfl fo80_0 (ev1 rfl)) ?_
  refine zag rfl rfl (op_lddv [_, _] rfl tb77 (ev1 rfl) rfl rfl) ?_
  refine zag rfl rfl (op_fa rfl fo85_0 (ev1 rfl)) ?_
  refine zag rfl rfl (op_ldo rfl tb3 (ev1 rfl) rfl rfl) ?_
  refine zag rfl rfl (op_fa rfl fo85_1 (ev1 rfl)) ?_
  refine zag rfl rfl (op_ldo rfl tb3 (ev1 rfl) rfl rfl) ?_
  refine zag rfl rfl (zah [] [] [] rfl (ev1 rfl) (ec (ev1 rfl) (ec (ev1 rfl) (ec (ev1 rfl) en))) rfl rfl (splace_d w h x y hc.may ho) rfl rfl rfl rfl rfl rfl) ?_
  refine zag rfl rfl (zac (.inl rfl) (ev1 rfl)) ?_
  refine zag rfl rfl (op_ext rfl (ev1 rfl) rfl) ?_
  refine zag rfl rfl (op_ext rfl (ev1 rfl) rfl) ?_
  refine zag rfl rfl (zac (.inr rfl) (ev1 rfl)) ?_
  refine zag rfl rfl (zac (.inr rfl) (ev1 rfl)) ?_
  refine lex_nil ?_
  refine zae ?_
  obtain ⟨d, hd, _, _, _, hw⟩ := hr.at (hc.pl ho)
  have hpx := (on_pl hc.may ho).2.2.2
  refine zad ?_
  refine zab rfl rfl rfl (zac (.inl rfl) (ev1 rfl)) ?_
  refine zab rfl rfl rfl (op_nc rfl (ev1 rfl) (fun s v h => by cases h; exact ⟨_, rfl⟩)) ?_
  refine zab rfl rfl rfl (op_fadm rfl fo80_1 (ev1 rfl)) ?_
  refine zab rfl rfl rfl (op_lddm rfl tb78 (ev1 rfl) rfl) ?_
  refine zab rfl rfl rfl (zac (.inl rfl) (ev1 rfl)) ?_
  refine zab rfl rfl rfl (op_ixm (plN w x y) rfl sl78 (ev1 rfl) (ev1 rfl) (fun _ => rfl) (hd)) ?_
  refine zab rfl rfl rfl ((op_lddm rfl tb102 (ev1 rfl) rfl).wk (hw)) ?_
  refine zab rfl rfl rfl (zac (.inl rfl) (ev1 rfl)) ?_
  refine zab rfl rfl rfl (op_nc rfl (ev1 rfl) (fun s v h => by cases h; exact ⟨_, rfl⟩)) ?_
  refine zab rfl rfl rfl (op_ixdr (j := pxN x y) (zC4) rfl ar116 (ev1 rfl) (ev1 rfl) (fun _ => by omega) (fun _ => by omega) ((TL.h _)) (fun _ => rfl)) ?_
  refine zab rfl rfl rfl (op_ldwd rfl tb87 (ev1 rfl) rfl) ?_
  refine walk_s rfl rfl (op_stwa rfl tb87 (ev1 rfl) (ev1 rfl) rfl rfl rfl rfl) (by simp only [upd, za, zaa]; exact rfl) ?_
  refine zaf ?_
  refine dwp_ret ?_
  refine kend0 (rs1 rfl (rv_w tb87 rfl rfl rfl)) rfl ?_
  rfl
end Go.Proofs.Ytmpodnadoebclaa
namespace Go.Proofs.Ytmpodnadoebclaa
set_option maxRecDepth 4000
set_option linter.unusedVariables false
set_option linter.unusedSimpArgs false
open Go.RowKit
theorem eq77 {a0 : Int} {a1 : Int} {b0 : Int} {b1 : Int} : eqT Try.prog 9 77 [.int .i64 a0, .int .i64 a1] [.int .i64 b0, .int .i64 b1] = some ((a0 == b0) && ((a1 == b1) && true)) := by kernel_rfl
theorem gd77 : Try.prog.eqGuardType Try.prog.depth 77 = false := by kernel_rfl
end Go.Proofs.Ytmpodnadoebclaa
namespace Go.Proofs.Ytmpodnadoebclaa
set_option maxRecDepth 4000
set_option linter.unusedVariables false
set_option linter.unusedSimpArgs false
open Go.RowKit
theorem eq87 {a b : C4} : eqT Try.prog 9 87 (c4 a) (c4 b) = some (decide (a = b)) := by
  rw [← eqC_iff]
  exact (show eqT Try.prog 9 87 [.int .u8 a.r, .int .u8 a.g, .int .u8 a.b, .int .u8 a.a] [.int .u8 b.r, .int .u8 b.g, .int .u8 b.b, .int .u8 b.a] = some (eqC a b) by kernel_rfl)
theorem fl85 : fdL Try.prog 85 = some [(0, 1), (1, 1)] := by kernel_rfl
theorem gd87 : Try.prog.eqGuardType Try.prog.depth 87 = false := by kernel_rfl
theorem tb85 : tyB Try.prog 85 = some (true, 2) := by kernel_rfl
theorem zr85 : zrC Try.prog 85 = some [.int .i64 0, .int .i64 0] := by kernel_rfl
def rowEq (w : Int) (ts us : List TL) (y n : Nat) : Bool := (List.range n).all fun (x : Nat) => decide (getC w ts (x : Int) (y : Int) = getC w us (x : Int) (y : Int))
def allEq (w : Int) (ts us : List TL) (W n : Nat) : Bool := (List.range n).all fun (y : Nat) => rowEq w ts us y W
def sameF (w h : Int) (ts us : List TL) : Bool := allEq w ts us (w * 8).toNat (h * 8).toNat
theorem rowEq_succ (w : Int) (ts us : List TL) (y n : Nat) : rowEq w ts us y (n + 1) = (rowEq w ts us y n && decide (getC w ts (n : Int) (y : Int) = getC w us (n : Int) (y : Int))) := by
  unfold rowEq
  rw [List.range_succ, List.all_append]
  simp
theorem allEq_succ (w : Int) (ts us : List TL) (W n : Nat) : allEq w ts us W (n + 1) = (allEq w ts us W n && rowEq w ts us n W) := by
  unfold allEq
  rw [List.range_succ, List.all_append]
  simp
theorem sameF_no {w h : Int} {ts us : List TL} {x y : Nat} (hx : x < (w * 8).toNat) (hy : y < (h * 8).toNat) (hne : getC w ts (x : Int) (y : Int) ≠ getC w us (x : Int) (y : Int)) : sameF w h ts us = false := by
  rw [← Bool.not_eq_true]
  intro h1
  have h2 := List.all_eq_true.1 h1 y (List.mem_range.2 hy)
  have h3 := List.all_eq_true.1 h2 x (List.mem_range.2 hx)
  exact hne (by simpa using h3)
theorem pl_back {w : Int} {p q : Nat} (hw : 1 ≤ w) (hq : q < 64) : plN w ((p : Int) % w * 8 + (q : Int) % 8) ((p : Int) / w * 8 + (q : Int) / 8) = p ∧ pxN ((p : Int) % w * 8 + (q : Int) % 8) ((p : Int) / w * 8 + (q : Int) / 8) = q := by
  have h1 := Int.emod_nonneg (p : Int) (show w ≠ 0 by omega)
  have h2 : (0 : Int) ≤ (p : Int) / w := Int.ediv_nonneg (by omega) (by omega)
  have e := Int.mul_ediv_add_emod (p : Int) w
  unfold plN pxN
  generalize (p : Int) % w = r at h1 e ⊢
  generalize (p : Int) / w = d at h2 e ⊢
  have e1 : (d * 8 + (q : Int) / 8) / 8 = d := by omega
  have e2 : (r * 8 + (q : Int) % 8) / 8 = r := by omega
  have e3 : (d * 8 + (q : Int) / 8) % 8 = (q : Int) / 8 := by omega
  have e4 : (r * 8 + (q : Int) % 8) % 8 = (q : Int) % 8 := by omega
  rw [e1, e2, e3, e4, Int.mul_comm d w]
  omega
theorem on_back {w h : Int} {p q : Nat} (hm : mayS w h = true) (hp : (p : Int) < w * h) (hq : q < 64) : onS w h ((p : Int) % w * 8 + (q : Int) % 8) ((p : Int) / w * 8 + (q : Int) / 8) = true := by
  have hb := mayS_b hm
  have h1 := Int.emod_nonneg (p : Int) (show w ≠ 0 by omega)
  have h3 := Int.emod_lt_of_pos (p : Int) (show 0 < w by omega)
  have h2 : (0 : Int) ≤ (p : Int) / w := Int.ediv_nonneg (by omega) (by omega)
  have h4 : (p : Int) / w < h := Int.ediv_lt_of_lt_mul (by omega) (by rw [Int.mul_comm h w]; exact hp)
  exact onS_iff.2 ⟨by omega, by omega⟩
theorem sameF_iff {w h : Int} {ts us : List TL} (hc : CvOk w h ts) (hd : CvOk w h us) : sameF w h ts us = decide (ts = us) := by
  rw [Bool.eq_iff_iff]
  have hb := mayS_b hc.may
  have l1 := hc.len
  have l2 := hd.len
  constructor
  · intro h1
    rw [decide_eq_true_eq]
    apply List.ext_getElem (by omega)
    intro p hp hp2
    apply TL.ext
    apply List.ext_getElem (by rw [TL.h, TL.h])
    intro q hq hq2
    rw [TL.h] at hq
    have ho := on_back (p := p) (q := q) hc.may (by omega) hq
    obtain ⟨e1, e2⟩ := pl_back (w := w) (p := p) (q := q) (by omega) hq
    have hxy := onS_iff.1 ho
    generalize hX : (p : Int) % w * 8 + (q : Int) % 8 = X at ho e1 e2 hxy
    generalize hY : (p : Int) / w * 8 + (q : Int) / 8 = Y at ho e1 e2 hxy
    have h2 := List.all_eq_true.1 h1 Y.toNat (List.mem_range.2 (by omega))
    have h3 := List.all_eq_true.1 h2 X.toNat (List.mem_range.2 (by omega))
    rw [decide_eq_true_eq, show ((X.toNat : Nat) : Int) = X by omega, show ((Y.toNat : Nat) : Int) = Y by omega] at h3
    unfold getC at h3
    rw [e1, e2, tl_at hp, tl_at hp2] at h3
    unfold TL.get at h3
    rw [List.getD_eq_getElem?_getD, List.getD_eq_getElem?_getD, List.getElem?_eq_getElem (by rw [TL.h]; exact hq), List.getElem?_eq_getElem (by rw [TL.h]; exact hq)] at h3
    exact h3
  · intro h1
    have h1 : ts = us := by simpa using h1
    subst h1
    exact List.all_eq_true.2 fun y _ => List.all_eq_true.2 fun x _ => by simp
set_option maxRecDepth 4000 in
set_option maxHeartbeats 1000000 in
theorem points_d (w h : Int) (hm : mayS w h = true) : DFun Try.prog 47 [.val (.agg #[.int .i64 w, .int .i64 h])] [] (.fn (.func 70) [] [.loc 0 0, .loc 1 0]) [.flat 3 [.int .i64 (h * 8)], .flat 3 [.int .i64 (w * 8)]] := by
  refine zao (N := 11) 0 (by kernel_rfl) Try.func47 rfl rfl rfl (by simp only [fr0, Nat.zero_add, Nat.reduceAdd]; exact rfl) rfl fun s0 hs0 => ?_
  refine zae ?_
  refine zak 1 (by simp only [holes, List.cons_append, List.nil_append]; exact rfl) ?_
  refine zad ?_
  refine zan rfl rfl rfl (op_boxa 0 rfl (ev1 rfl) rfl) (by simp only [upd, za, zaa]; exact rfl) ?_
  refine zab rfl rfl rfl (zac (.inr rfl) (ev1 rfl)) ?_
  refine zaf ?_
  refine zae ?_
  refine zak 2 (by simp only [holes, List.cons_append, List.nil_append]; exact rfl) ?_
  refine zad ?_
  refine zab rfl rfl rfl (op_ldw rfl tb77 (ev1 rfl) rfl rfl) ?_
  refine zab rfl rfl rfl (zah [] [] [] rfl (ev1 rfl) (ec (ev1 rfl) en) rfl rfl (spix_d w h hm) rfl rfl rfl rfl rfl rfl) ?_
  refine zab rfl rfl rfl (zac (.inl rfl) (ev1 rfl)) ?_
  refine zab rfl rfl rfl (op_ext rfl (ev1 rfl) rfl) ?_
  refine zab rfl rfl rfl (op_ext rfl (ev1 rfl) rfl) ?_
  refine zan rfl rfl rfl (op_alloc 1 rfl zr3 rfl) (by simp only [upd, za, zaa]; exact rfl) ?_
  refine zan rfl rfl rfl (op_alloc 2 rfl zr3 rfl) (by simp only [upd, za, zaa]; exact rfl) ?_
  refine walk_s rfl rfl (op_stwi rfl tb3 (ev1 rfl) (ev1 rfl) rfl) (by simp only [upd, za, zaa]; exact rfl) ?_
  refine walk_s rfl rfl (op_stwi rfl tb3 (ev1 rfl) (ev1 rfl) rfl) (by simp only [upd, za, zaa]; exact rfl) ?_
  refine zaf ?_
  refine zae ?_
  refine zad ?_
  refine zab rfl rfl rfl (op_mkf rfl en (ec (ev1 rfl) (ec (ev1 rfl) en))) ?_
  refine zab rfl rfl rfl (zac (.inr rfl) (ev1 rfl)) ?_
  refine zaf ?_
  refine dwp_ret ?_
  refine kend [2, 1] (rs1 rfl (rv_t rfl)) rfl rfl ?_ ⟨rfl, rfl, trivial⟩
  rfl
noncomputable def samA : Code := rfA (pth [1, 0, 1, 1, 1, 1, 0, 1, 0] (bodyOf Try.f18))
noncomputable def samB : Code := rfB (pth [1, 0, 1, 1, 1, 1, 0, 1, 0] (bodyOf Try.f18))
set_option maxRecDepth 4000 in
set_option maxHeartbeats 1000000 in
theorem samRound_true (w h : Int) (da db : List D) (ts us : List TL) (ra : RowOk da ts) (rb : RowOk db us) (ca : CvOk w h ts) (cb : CvOk w h us) (x y : Int) (ho : onS w h x y = true) (b : Bool) (h1 : getC w ts x y = getC w us x y) : DRound Try.prog 0 [.val (.agg #[.int .i64 x, .int .i64 y])] [.lp 42 [(2, .loc 1 0), (3, .loc 2 0), (5, .loc 3 0)] #[33] samA samB .ready none, .mix 42 [cvD w h da], .mix 42 [cvD w h db], .flat 4 [.bool b]] true [.lp 42 [(2, .loc 1 0), (3, .loc 2 0), (5, .loc 3 0)] #[33] samA samB .ready none, .mix 42 [cvD w h da], .mix 42 [cvD w h db], .flat 4 [.bool b]] := by
  refine dround_go 4 rfl rfl (by simp) rfl rfl fun s0 hs0 => ?_
  refine zak 1 (by simp only [holes, List.cons_append, List.nil_append]; exact rfl) ?_
  refine zad ?_
  refine zan rfl rfl rfl (op_alloc 4 rfl zr85 rfl) (by simp only [upd, za, zaa]; exact rfl) ?_
  refine walk_s rfl rfl (op_stwa rfl tb85 (ev1 rfl) (ev1 rfl) rfl rfl rfl rfl) (by simp only [upd, za, zaa]; exact rfl) ?_
  refine zaf ?_
  refine ⟨rfl, ?_⟩
  simp only [za, zaa]
  refine zam ?_
  refine zae ?_
  refine dwp_draw [([1], []), ([4], []), ([], []), ([2], []), ([4], []), ([], []), ([], [])] mixed (by kernel_rfl) ?_
  refine zag rfl rfl (op_ldm rfl tb42 (ev1 rfl) rfl rfl) ?_
  refine zag rfl rfl (op_ldw rfl tb85 (ev1 rfl) rfl rfl) ?_
  refine zag rfl rfl (zah [] [] [] rfl (ev1 rfl) (ec (ev1 rfl) (ec (ev1 rfl) en)) rfl rfl (color_d w h da ts ra ca x y ho) rfl rfl rfl rfl rfl rfl) ?_
  refine zag rfl rfl (op_ldm rfl tb42 (ev1 rfl) rfl rfl) ?_
  refine zag rfl rfl (op_ldw rfl tb85 (ev1 rfl) rfl rfl) ?_
  refine zag rfl rfl (zah [] [] [] rfl (ev1 rfl) (ec (ev1 rfl) (ec (ev1 rfl) en)) rfl rfl (color_d w h db us rb cb x y ho) rfl rfl rfl rfl rfl rfl) ?_
  refine zag rfl rfl (op_ner eq87 rfl gd87 tb87 (ev1 rfl) (ev1 rfl)) ?_
  refine lex_nil ?_
  refine dwp_if_f rfl (by simpa using h1) ?_
  refine zal ?_
  refine ⟨by first | rfl | assumption | simp_all, rfl, [0, 1, 2, 3], rfl, ⟨rfl, rfl, rfl, rfl, trivial⟩⟩
set_option maxRecDepth 4000 in
set_option maxHeartbeats 1000000 in
theorem samRound_false (w h : Int) (da db : List D) (ts us : List TL) (ra : RowOk da ts) (rb : RowOk db us) (ca : CvOk w h ts) (cb : CvOk w h us) (x y : Int) (ho : onS w h x y = true) (b : Bool) (h1 : getC w ts x y ≠ getC w us x y) : DRound Try.prog 0 [.val (.agg #[.int .i64 x, .int .i64 y])] [.lp 42 [(2, .loc 1 0), (3, .loc 2 0), (5, .loc 3 0)] #[33] samA samB .ready none, .mix 42 [cvD w h da], .mix 42 [cvD w h db], .flat 4 [.bool b]] false [.lp 42 [(2, .loc 1 0), (3, .loc 2 0), (5, .loc 3 0)] #[33] samA samB .done (some (.exit 0)), .mix 42 [cvD w h da], .mix 42 [cvD w h db], .flat 4 [.bool false]] := by
  refine dround_go 4 rfl rfl (by simp) rfl rfl fun s0 hs0 => ?_
  refine zak 1 (by simp only [holes, List.cons_append, List.nil_append]; exact rfl) ?_
  refine zad ?_
  refine zan rfl rfl rfl (op_alloc 4 rfl zr85 rfl) (by simp only [upd, za, zaa]; exact rfl) ?_
  refine walk_s rfl rfl (op_stwa rfl tb85 (ev1 rfl) (ev1 rfl) rfl rfl rfl rfl) (by simp only [upd, za, zaa]; exact rfl) ?_
  refine zaf ?_
  refine ⟨rfl, ?_⟩
  simp only [za, zaa]
  refine zam ?_
  refine zae ?_
  refine dwp_draw [([1], []), ([4], []), ([], []), ([2], []), ([4], []), ([], []), ([], [])] mixed (by kernel_rfl) ?_
  refine zag rfl rfl (op_ldm rfl tb42 (ev1 rfl) rfl rfl) ?_
  refine zag rfl rfl (op_ldw rfl tb85 (ev1 rfl) rfl rfl) ?_
  refine zag rfl rfl (zah [] [] [] rfl (ev1 rfl) (ec (ev1 rfl) (ec (ev1 rfl) en)) rfl rfl (color_d w h da ts ra ca x y ho) rfl rfl rfl rfl rfl rfl) ?_
  refine zag rfl rfl (op_ldm rfl tb42 (ev1 rfl) rfl rfl) ?_
  refine zag rfl rfl (op_ldw rfl tb85 (ev1 rfl) rfl rfl) ?_
  refine zag rfl rfl (zah [] [] [] rfl (ev1 rfl) (ec (ev1 rfl) (ec (ev1 rfl) en)) rfl rfl (color_d w h db us rb cb x y ho) rfl rfl rfl rfl rfl rfl) ?_
  refine zag rfl rfl (op_ner eq87 rfl gd87 tb87 (ev1 rfl) (ev1 rfl)) ?_
  refine lex_nil ?_
  refine dwp_if_t rfl (by simpa using h1) ?_
  refine zae ?_
  refine zad ?_
  refine walk_s rfl rfl (op_stwb rfl tb4 (ev1 rfl) (ev1 rfl) rfl) (by simp only [upd, za, zaa]; exact rfl) ?_
  refine zaf ?_
  refine dwp_exit ?_
  refine ⟨by first | rfl | assumption | simp_all, rfl, [0, 1, 2, 3], rfl, ⟨rfl, rfl, rfl, rfl, trivial⟩⟩
theorem samRound (w h : Int) (da db : List D) (ts us : List TL) (ra : RowOk da ts) (rb : RowOk db us) (ca : CvOk w h ts) (cb : CvOk w h us) (x y : Int) (ho : onS w h x y = true) (b : Bool) : DRound Try.prog 0 [.val (.agg #[.int .i64 x, .int .i64 y])] [.lp 42 [(2, .loc 1 0), (3, .loc 2 0), (5, .loc 3 0)] #[33] samA samB .ready none, .mix 42 [cvD w h da], .mix 42 [cvD w h db], .flat 4 [.bool b]] (decide (getC w ts x y = getC w us x y)) [.lp 42 [(2, .loc 1 0), (3, .loc 2 0), (5, .loc 3 0)] #[33] samA samB (rst (decide (getC w ts x y = getC w us x y))) (rpe (.exit 0) (decide (getC w ts x y = getC w us x y))), .mix 42 [cvD w h da], .mix 42 [cvD w h db], .flat 4 [.bool (b && decide (getC w ts x y = getC w us x y))]] := by
  by_cases h1 : getC w ts x y = getC w us x y
  · rw [decide_eq_true h1, Bool.and_true]
    exact samRound_true w h da db ts us ra rb ca cb x y ho b h1
  · rw [decide_eq_false h1, Bool.and_false]
    exact samRound_false w h da db ts us ra rb ca cb x y ho b h1
set_option maxRecDepth 4000 in
set_option maxHeartbeats 1000000 in
theorem pts_same (w h : Int) (da db : List D) (ts us : List TL) (ra : RowOk da ts) (rb : RowOk db us) (ca : CvOk w h ts) (cb : CvOk w h us) (b : Bool) : DFun Try.prog 70 [.yld 0, .loc 4 0, .loc 5 0] [.lp 42 [(2, .loc 1 0), (3, .loc 2 0), (5, .loc 3 0)] #[33] samA samB .ready none, .mix 42 [cvD w h da], .mix 42 [cvD w h db], .flat 4 [.bool b], .flat 3 [.int .i64 (h * 8)], .flat 3 [.int .i64 (w * 8)]] (.tup []) [.lp 42 [(2, .loc 1 0), (3, .loc 2 0), (5, .loc 3 0)] #[33] samA samB (rst (sameF w h ts us)) (rpe (.exit 0) (sameF w h ts us)), .mix 42 [cvD w h da], .mix 42 [cvD w h db], .flat 4 [.bool (b && (sameF w h ts us))], .flat 3 [.int .i64 (h * 8)], .flat 3 [.int .i64 (w * 8)]] := by
  have hb := mayS_b ca.may
  refine zao (N := 22) 6 (by kernel_rfl) Try.func70 rfl rfl rfl (by simp only [fr0, Nat.zero_add, Nat.reduceAdd]; exact rfl) rfl fun s0 hs0 => ?_
  refine zae ?_
  refine zad ?_
  refine zab rfl rfl rfl (op_ldo rfl tb3 (ev1 rfl) rfl rfl) ?_
  refine zab rfl rfl rfl (zac (.inl rfl) (ev1 rfl)) ?_
  refine zaf ?_
  refine zam ?_
  refine dwp_loopS ⟨hs0, rfl⟩ (α := Nat) (fun y => [(7, .val (.int .i64 (y : Int)))]) [(0, _), (2, _), (6, _)] (fun y => []) [_, _, _, _, _, _] (fun y => (y : Int) ≤ h * 8 ∧ allEq w ts us (w * 8).toNat y = true) (fun y => (h * 8).toNat - y) 0 [0, 1, 2, 3, 4, 5] (⟨by omega, rfl⟩) rfl ⟨rfl, rfl, rfl, trivial⟩ ⟨rfl, trivial⟩ ⟨rfl, rfl, rfl, rfl, rfl, rfl, trivial⟩ ?_
  intro y hx
  simp only [upd, za, zaa, List.cons_append, List.nil_append]
  obtain ⟨hy, hey⟩ := hx
  refine zae ?_
  refine zad ?_
  refine zab rfl rfl rfl (op_lss rfl (ev1 rfl) (ev1 rfl)) ?_
  refine zaf ?_
  refine zae ?_
  refine dwp_cond rfl (fun c1 => ?_) (fun c1 => ?_)
  · try simp only [decide_eq_true_eq, decide_eq_false_iff_not, beq_iff_eq, bne_iff_ne, beq_eq_false_iff_ne, bne_eq_false_iff_eq, Bool.not_eq_true', Bool.not_eq_false', Bool.and_eq_true, Bool.or_eq_true, Bool.or_eq_false_iff, ne_eq, Decidable.not_not, Int.not_lt, Int.not_le] at c1
    refine zal ?_
    refine zae ?_
    refine zam ?_
    refine zae ?_
    refine zad ?_
    refine zab rfl rfl rfl (zac (.inl rfl) (ev1 rfl)) ?_
    refine zab rfl rfl rfl (zac (.inr rfl) (ev1 rfl)) ?_
    refine zaf ?_
    refine zae ?_
    refine zad ?_
    refine zab rfl rfl rfl (op_ldo rfl tb3 (ev1 rfl) rfl rfl) ?_
    refine zab rfl rfl rfl (zac (.inl rfl) (ev1 rfl)) ?_
    refine zaf ?_
    refine zam ?_
    refine dwp_loopS ⟨hs0, rfl⟩ (α := Nat) (fun x => [(11, .val (.int .i64 (x : Int)))]) [(0, _), (2, _), (4, _), (6, _), (7, _), (10, _)] (fun x => []) [_, _, _, _, _, _] (fun x => (x : Int) ≤ w * 8 ∧ rowEq w ts us y x = true) (fun x => (w * 8).toNat - x) 0 [0, 1, 2, 3, 4, 5] (⟨by omega, rfl⟩) rfl ⟨rfl, rfl, rfl, rfl, rfl, rfl, trivial⟩ ⟨rfl, trivial⟩ ⟨rfl, rfl, rfl, rfl, rfl, rfl, trivial⟩ ?_
    intro x hx
    simp only [upd, za, zaa, List.cons_append, List.nil_append]
    obtain ⟨hx2, hex⟩ := hx
    refine zae ?_
    refine zad ?_
    refine zab rfl rfl rfl (op_lss rfl (ev1 rfl) (ev1 rfl)) ?_
    refine zaf ?_
    refine zae ?_
    refine dwp_cond rfl (fun c2 => ?_) (fun c2 => ?_)
    · try simp only [decide_eq_true_eq, decide_eq_false_iff_not, beq_iff_eq, bne_iff_ne, beq_eq_false_iff_ne, bne_eq_false_iff_eq, Bool.not_eq_true', Bool.not_eq_false', Bool.and_eq_true, Bool.or_eq_true, Bool.or_eq_false_iff, ne_eq, Decidable.not_not, Int.not_lt, Int.not_le] at c2
      refine zal ?_
      refine zae ?_
      refine zam ?_
      refine zae ?_
      refine zad ?_
      refine zab rfl rfl rfl (zac (.inl rfl) (ev1 rfl)) ?_
      refine zab rfl rfl rfl (zac (.inr rfl) (ev1 rfl)) ?_
      refine zaf ?_
      refine zae ?_
      have ho : onS w h (x : Int) (y : Int) = true := onS_iff.2 ⟨by omega, by omega⟩
      refine zad ?_
      refine zab rfl rfl rfl (zac (.inl rfl) (ev1 rfl)) ?_
      refine zab rfl rfl rfl (zac (.inl rfl) (ev1 rfl)) ?_
      refine zab rfl rfl rfl (zac (.inl rfl) (ev1 rfl)) ?_
      refine zab rfl rfl rfl (op_build (ps := [(0, .tmp 15), (1, .tmp 16)]) rfl fl85 zr85 (vc (ev1 rfl) (vc (ev1 rfl) vn)) rfl rfl) ?_
      refine zan rfl rfl rfl (op_y (i := 0) [0, 1, 2, 3] [] [] rfl (ev1 rfl) (ec (ev1 rfl) en) rfl rfl rfl (samRound w h da db ts us ra rb ca cb x y ho b) rfl rfl rfl rfl rfl) (by simp only [upd, za, zaa]; exact rfl) ?_
      refine zab rfl rfl rfl (op_not rfl (ev1 rfl)) ?_
      refine zaf ?_
      refine dwp_cond rfl (fun c3 => ?_) (fun c3 => ?_)
      · have e1 : decide (getC w ts (x : Int) (y : Int) = getC w us (x : Int) (y : Int)) = false := by simpa using c3
        refine dwp_ret ?_
        have e2 : sameF w h ts us = false := sameF_no (x := x) (y := y) (by omega) (by omega) (by simpa using e1)
        rw [e2, e1]
        refine kend [0, 1, 2, 3, 4, 5] (res_none rfl) rfl rfl ?_ ⟨rfl, rfl, rfl, rfl, rfl, rfl, trivial⟩
        rfl
      · have e1 : decide (getC w ts (x : Int) (y : Int) = getC w us (x : Int) (y : Int)) = true := by simpa using c3
        refine zal ?_
        refine zad ?_
        refine zab rfl rfl rfl (op_add' rfl (ev1 rfl) (ev1 rfl) (fun _ => IntWalk.i64_in _ (by omega))) ?_
        refine zab rfl rfl rfl (zac (.inl rfl) (ev1 rfl)) ?_
        refine zaf ?_
        rw [e1, Bool.and_true]
        refine ⟨x + 1, [0, 1, 2, 3, 4, 5], ⟨by omega, by rw [rowEq_succ, hex, e1]; rfl⟩, by simp only []; omega, rfl, ⟨rfl, rfl, rfl, rfl, rfl, rfl, rfl, trivial⟩, ⟨rfl, rfl, rfl, rfl, rfl, rfl, trivial⟩⟩
    · try simp only [decide_eq_true_eq, decide_eq_false_iff_not, beq_iff_eq, bne_iff_ne, beq_eq_false_iff_ne, bne_eq_false_iff_eq, Bool.not_eq_true', Bool.not_eq_false', Bool.and_eq_true, Bool.or_eq_true, Bool.or_eq_false_iff, ne_eq, Decidable.not_not, Int.not_lt, Int.not_le] at c2
      refine dwp_exit ?_
      refine zad ?_
      refine zab rfl rfl rfl (op_add' rfl (ev1 rfl) (ev1 rfl) (fun _ => IntWalk.i64_in _ (by omega))) ?_
      refine zab rfl rfl rfl (zac (.inl rfl) (ev1 rfl)) ?_
      refine zaf ?_
      obtain rfl : x = (w * 8).toNat := by omega
      refine ⟨y + 1, [0, 1, 2, 3, 4, 5], ⟨by omega, by rw [allEq_succ, hey, hex]; rfl⟩, by simp only []; omega, rfl, ⟨rfl, rfl, rfl, rfl, trivial⟩, ⟨rfl, rfl, rfl, rfl, rfl, rfl, trivial⟩⟩
  · try simp only [decide_eq_true_eq, decide_eq_false_iff_not, beq_iff_eq, bne_iff_ne, beq_eq_false_iff_ne, bne_eq_false_iff_eq, Bool.not_eq_true', Bool.not_eq_false', Bool.and_eq_true, Bool.or_eq_true, Bool.or_eq_false_iff, ne_eq, Decidable.not_not, Int.not_lt, Int.not_le] at c1
    refine dwp_exit ?_
    have e2 : sameF w h ts us = true := by rw [sameF, show (h * 8).toNat = y by omega]; exact hey
    rw [e2, Bool.and_true]
    refine kend [0, 1, 2, 3, 4, 5] (res_none rfl) rfl rfl ?_ ⟨rfl, rfl, rfl, rfl, rfl, rfl, trivial⟩
    rfl
set_option maxRecDepth 4000 in
set_option maxHeartbeats 1000000 in
theorem same_cv (w h : Int) (da db : List D) (ts us : List TL) (ra : RowOk da ts) (rb : RowOk db us) (ca : CvOk w h ts) (cb : CvOk w h us)  : DFun Try.prog 18 [cvD w h da, cvD w h db] [] (.val (.bool (decide (ts = us)))) [] := by
  refine zao (N := 42) 0 (by kernel_rfl) Try.func18 rfl rfl rfl (by simp only [fr0, Nat.zero_add, Nat.reduceAdd]; exact rfl) rfl fun s0 hs0 => ?_
  refine zae ?_
  refine zak 2 (by simp only [holes, List.cons_append, List.nil_append]; exact rfl) ?_
  refine zad ?_
  refine zan rfl rfl rfl (op_boxm 0 rfl (ev1 rfl) (fun s v h => by cases h <;> rfl) rfl) (by simp only [upd, za, zaa]; exact rfl) ?_
  refine zan rfl rfl rfl (op_boxm 1 rfl (ev1 rfl) (fun s v h => by cases h <;> rfl) rfl) (by simp only [upd, za, zaa]; exact rfl) ?_
  refine zab rfl rfl rfl (zac (.inr rfl) (ev1 rfl)) ?_
  refine zaf ?_
  refine dwp_scope ?_
  refine zae ?_
  refine zae ?_
  refine zad ?_
  refine zab rfl rfl rfl (op_ldm rfl tb42 (ev1 rfl) rfl rfl) ?_
  refine zab rfl rfl rfl (op_pnilm rfl pt42 (ev1 rfl)) ?_
  refine zab rfl rfl rfl (zac (.inl rfl) (ev1 rfl)) ?_
  refine zaj (gd_f rfl rfl rfl) rfl rfl rfl (op_ldm rfl tb42 (ev1 rfl) rfl rfl) ?_
  refine zaj (gd_f rfl rfl rfl) rfl rfl rfl (op_pnilm rfl pt42 (ev2 rfl)) ?_
  refine zab rfl rfl rfl (op_or rfl (ev1 rfl) (ev3 rfl id)) ?_
  refine zaf ?_
  refine dwp_if_f rfl (by simp) ?_
  refine zal ?_
  refine zae ?_
  refine zae ?_
  refine dwp_draw [([0], []), ([], []), ([], []), ([], []), ([1], []), ([], []), ([], []), ([], []), ([], [])] mixed (by kernel_rfl) ?_
  refine zag rfl rfl (op_ldm rfl tb42 (ev1 rfl) rfl rfl) ?_
  refine zag rfl rfl (op_nc rfl (ev1 rfl) (fun s v h => by cases h; exact ⟨_, rfl⟩)) ?_
  refine zag rfl rfl (op_fadm rfl fo80_0 (ev1 rfl)) ?_
  refine zag rfl rfl (op_lddv [_, _] rfl tb77 (ev1 rfl) rfl rfl) ?_
  refine zag rfl rfl (op_ldm rfl tb42 (ev1 rfl) rfl rfl) ?_
  refine zag rfl rfl (op_nc rfl (ev1 rfl) (fun s v h => by cases h; exact ⟨_, rfl⟩)) ?_
  refine zag rfl rfl (op_fadm rfl fo80_0 (ev1 rfl)) ?_
  refine zag rfl rfl (op_lddv [_, _] rfl tb77 (ev1 rfl) rfl rfl) ?_
  refine zag rfl rfl (op_ner eq77 rfl gd77 tb77 (ev1 rfl) (ev1 rfl)) ?_
  refine lex_nil ?_
  refine dwp_if_f rfl (by simp) ?_
  refine zal ?_
  refine zae ?_
  refine zak 1 (by simp only [holes, List.cons_append, List.nil_append]; exact rfl) ?_
  refine zad ?_
  refine zan rfl rfl rfl (op_alloc 2 rfl zr4 rfl) (by simp only [upd, za, zaa]; exact rfl) ?_
  refine walk_s rfl rfl (op_stwb rfl tb4 (ev1 rfl) (ev1 rfl) rfl) (by simp only [upd, za, zaa]; exact rfl) ?_
  refine zaf ?_
  refine zae ?_
  refine dwp_label ?_
  refine zae ?_
  refine zae ?_
  refine zak 2 (by simp only [holes, List.cons_append, List.nil_append]; exact rfl) ?_
  refine zad ?_
  refine zab rfl rfl rfl (op_ldm rfl tb42 (ev1 rfl) rfl rfl) ?_
  refine zab rfl rfl rfl (op_nc rfl (ev1 rfl) (fun s v h => by cases h; exact ⟨_, rfl⟩)) ?_
  refine zab rfl rfl rfl (op_fadm rfl fo80_0 (ev1 rfl)) ?_
  refine zab rfl rfl rfl (op_lddv [_, _] rfl tb77 (ev1 rfl) rfl rfl) ?_
  refine zan rfl rfl rfl (zah [] [] [3, 4] rfl (ev1 rfl) (ec (ev1 rfl) en) rfl rfl (points_d w h ca.may) rfl rfl rfl rfl rfl rfl) (by simp only [upd, za, zaa]; exact rfl) ?_
  refine zaf ?_
  refine zam ?_
  refine dwp_hole ?_
  simp only [List.cons_append, List.nil_append]
  refine dwp_rf (FL := [(2, _), (3, _), (5, _)]) (st := (rst (sameF w h ts us))) (pe := (rpe (.exit 0) (sameF w h ts us))) [5, 0, 1, 2, 3, 4] [] [] 5 rfl rfl (ev1 rfl) rfl (subF_lk ⟨rfl, rfl, rfl, trivial⟩) rfl rfl rfl (pts_same w h da db ts us ra rb ca cb _) rfl rfl rfl rfl rfl rfl rfl (rst_busy _) (fun e => ?_) (fun c e => ?_)
  · simp only [upd, za, zaa]
    refine zae ?_
    refine zad ?_
    refine zab rfl rfl rfl (op_ldo rfl tb4 (ev1 rfl) rfl rfl) ?_
    refine zab rfl rfl rfl (zac (.inr rfl) (ev1 rfl)) ?_
    refine zaf ?_
    refine dwp_ret ?_
    refine kend0 (rs1 rfl (rv_t rfl)) rfl ?_
    rw [← sameF_iff ca cb]
    rfl
  · obtain ⟨e1, rfl⟩ : sameF w h ts us = false ∧ c = .exit 0 := by
      cases h : sameF w h ts us <;> simp_all [rpe]
    simp only [upd, za, zaa]
    refine dwp_exit ?_
    refine zae ?_
    refine zad ?_
    refine zab rfl rfl rfl (op_ldo rfl tb4 (ev1 rfl) rfl rfl) ?_
    refine zab rfl rfl rfl (zac (.inr rfl) (ev1 rfl)) ?_
    refine zaf ?_
    refine dwp_ret ?_
    refine kend0 (rs1 rfl (rv_t rfl)) rfl ?_
    rw [← sameF_iff ca cb]
    rfl
end Go.Proofs.Ytmpodnadoebclaa
namespace Go.Proofs.Ytmpodnadoebclaa
set_option maxRecDepth 4000
set_option linter.unusedVariables false
set_option linter.unusedSimpArgs false
open Go.RowKit
def idxI (l : List I3) (i : I3) : Int := if i ∈ l then (l.idxOf i : Int) else -1
theorem idxI_at {l : List I3} {i : I3} {k : Nat} (hk : k < l.length) (hno : i ∉ l.take k) (h : i = l[k]) : idxI l i = k := by
  have hm : i ∈ l := h ▸ List.getElem_mem hk
  unfold idxI
  rw [if_pos hm]
  have h1 : l.idxOf i = k := by
    have e : l = l.take k ++ l.drop k := (List.take_append_drop k l).symm
    rw [e, List.idxOf_append, if_neg hno, List.drop_eq_getElem_cons hk, ← h, List.idxOf_cons_self, List.length_take]
    omega
  rw [h1]
theorem idxI_no {l : List I3} {i : I3} (h : i ∉ l) : idxI l i = -1 := if_neg h
theorem idxI_nn {l : List I3} {i : I3} : decide (0 ≤ idxI l i) = decide (i ∈ l) := by
  unfold idxI
  split <;> rename_i h <;> simp [h]
theorem take_no {l : List I3} {i : I3} {k : Nat} (hk : k < l.length) (hno : i ∉ l.take k) (h : i ≠ l[k]) : i ∉ l.take (k + 1) := by
  rw [List.take_succ_eq_append_getElem hk, List.mem_append]
  rintro (h1 | h1)
  · exact hno h1
  · simp at h1; exact h h1
set_option maxRecDepth 4000 in
set_option maxHeartbeats 1000000 in
theorem index_d (l : List I3) (i : I3) : DFun Try.prog 37 [.slf 3 l.length (l.flatMap idc), .val (.agg (idc i).toArray)] [] (.val (.int .i64 (idxI l i))) [] := by
  refine zao (N := 19) 0 (by kernel_rfl) Try.func37 rfl rfl rfl (by simp only [fr0, Nat.zero_add, Nat.reduceAdd]; exact rfl) rfl fun s0 hs0 => ?_
  refine dwp_len (t := 0) rfl fun hl0 hL0 => ?_
  refine zae ?_
  refine zak 1 (by simp only [holes, List.cons_append, List.nil_append]; exact rfl) ?_
  refine zad ?_
  refine zan rfl rfl rfl (op_boxa 0 rfl (ev1 rfl) rfl) (by simp only [upd, za, zaa]; exact rfl) ?_
  refine zab rfl rfl rfl (zac (.inr rfl) (ev1 rfl)) ?_
  refine zaf ?_
  refine zae ?_
  refine zae ?_
  refine zad ?_
  refine zab rfl rfl rfl (zac (.inl rfl) (ev1 rfl)) ?_
  refine zab rfl rfl rfl (op_len rfl sl22 (ev1 rfl)) ?_
  refine zab rfl rfl rfl (zac (.inl rfl) (ev1 rfl)) ?_
  refine zaf ?_
  refine zam ?_
  refine dwp_loopS ⟨hs0, rfl⟩ (α := Nat) (fun k => [(8, .val (.int .i64 (k : Int)))]) [(0, _), (3, _), (7, _)] (fun k => []) [_] (fun k => k ≤ l.length ∧ i ∉ l.take k) (fun k => l.length - k) 0 [0] (⟨Nat.zero_le _, by simp⟩) rfl ⟨rfl, rfl, rfl, trivial⟩ ⟨rfl, trivial⟩ ⟨rfl, trivial⟩ ?_
  intro k hx
  simp only [upd, za, zaa, List.cons_append, List.nil_append]
  obtain ⟨hk, hno⟩ := hx
  refine zae ?_
  refine zad ?_
  refine zab rfl rfl rfl (op_lss rfl (ev1 rfl) (ev1 rfl)) ?_
  refine zaf ?_
  refine zae ?_
  refine dwp_cond rfl (fun c1 => ?_) (fun c1 => ?_)
  · try simp only [decide_eq_true_eq, decide_eq_false_iff_not, beq_iff_eq, bne_iff_ne, beq_eq_false_iff_ne, bne_eq_false_iff_eq, Bool.not_eq_true', Bool.not_eq_false', Bool.and_eq_true, Bool.or_eq_true, Bool.or_eq_false_iff, ne_eq, Decidable.not_not, Int.not_lt, Int.not_le] at c1
    refine zal ?_
    refine zae ?_
    refine zam ?_
    refine zae ?_
    refine zad ?_
    refine zab rfl rfl rfl (zac (.inl rfl) (ev1 rfl)) ?_
    refine zab rfl rfl rfl (zac (.inr rfl) (ev1 rfl)) ?_
    refine zaf ?_
    refine zae ?_
    refine dwp_draw [([0], []), ([], []), ([], []), ([], []), ([], []), ([], [])] mixed (by kernel_rfl) ?_
    refine zag rfl rfl (op_ldw rfl tb35 (ev1 rfl) rfl rfl) ?_
    refine zag rfl rfl (zac (.inl rfl) (ev1 rfl)) ?_
    refine zag rfl rfl (zac (.inl rfl) (ev1 rfl)) ?_
    refine zag rfl rfl (op_ixsr (j := k) rfl sl22 (ev1 rfl) (ev1 rfl) (fun _ => rfl) (by decide) (by omega) (by omega)) ?_
    refine zag rfl rfl (op_ldwd rfl tb35 (ev1 rfl) rfl) ?_
    refine zag rfl rfl (op_eqr eq35 rfl gd35 tb35 (ev1 rfl) (ev1 rfl)) ?_
    refine lex_nil ?_
    refine dwp_cond rfl (fun c2 => ?_) (fun c2 => ?_)
    · have c3 : i = l[k] := by simpa using c2
      refine zae ?_
      refine zad ?_
      refine zab rfl rfl rfl (zac (.inl rfl) (ev1 rfl)) ?_
      refine zab rfl rfl rfl (zac (.inr rfl) (ev1 rfl)) ?_
      refine zaf ?_
      refine dwp_ret ?_
      refine kend0 (rs1 rfl (rv_t rfl)) rfl ?_
      rw [idxI_at (by omega) hno c3]
    · have c3 : i ≠ l[k] := by simpa using c2
      refine zal ?_
      refine zad ?_
      refine zab rfl rfl rfl (op_add' rfl (ev1 rfl) (ev1 rfl) (fun _ => IntWalk.i64_in _ (by omega))) ?_
      refine zab rfl rfl rfl (zac (.inl rfl) (ev1 rfl)) ?_
      refine zaf ?_
      refine ⟨k + 1, [0], ⟨by omega, take_no (by omega) hno c3⟩, by simp only []; omega, rfl, ⟨rfl, rfl, rfl, rfl, trivial⟩, ⟨rfl, trivial⟩⟩
  · try simp only [decide_eq_true_eq, decide_eq_false_iff_not, beq_iff_eq, bne_iff_ne, beq_eq_false_iff_ne, bne_eq_false_iff_eq, Bool.not_eq_true', Bool.not_eq_false', Bool.and_eq_true, Bool.or_eq_true, Bool.or_eq_false_iff, ne_eq, Decidable.not_not, Int.not_lt, Int.not_le] at c1
    refine dwp_exit ?_
    refine zae ?_
    refine zad ?_
    refine zab rfl rfl rfl (zac (.inr rfl) (ev1 rfl)) ?_
    refine zaf ?_
    refine dwp_ret ?_
    refine kend0 (rs1 rfl (rv_t rfl)) rfl ?_
    rw [List.take_of_length_le (by omega)] at hno
    rw [idxI_no hno]
set_option maxRecDepth 4000 in
set_option maxHeartbeats 1000000 in
theorem contains_d (l : List I3) (i : I3) : DFun Try.prog 34 [.slf 3 l.length (l.flatMap idc), .val (.agg (idc i).toArray)] [] (.val (.bool (decide (i ∈ l)))) [] := by
  refine zao (N := 9) 0 (by kernel_rfl) Try.func34 rfl rfl rfl (by simp only [fr0, Nat.zero_add, Nat.reduceAdd]; exact rfl) rfl fun s0 hs0 => ?_
  refine dwp_len (t := 0) rfl fun hl0 hL0 => ?_
  refine zae ?_
  refine zak 1 (by simp only [holes, List.cons_append, List.nil_append]; exact rfl) ?_
  refine zad ?_
  refine zan rfl rfl rfl (op_boxa 0 rfl (ev1 rfl) rfl) (by simp only [upd, za, zaa]; exact rfl) ?_
  refine zab rfl rfl rfl (zac (.inr rfl) (ev1 rfl)) ?_
  refine zaf ?_
  refine zae ?_
  refine zad ?_
  refine zab rfl rfl rfl (zac (.inl rfl) (ev1 rfl)) ?_
  refine zab rfl rfl rfl (op_ldw rfl tb35 (ev1 rfl) rfl rfl) ?_
  refine zab rfl rfl rfl (zah [] [] [] rfl (ev1 rfl) (ec (ev1 rfl) (ec (ev1 rfl) en)) rfl rfl (index_d _ _) rfl rfl rfl rfl rfl rfl) ?_
  refine zab rfl rfl rfl (op_geq rfl (ev1 rfl) (ev1 rfl)) ?_
  refine zab rfl rfl rfl (zac (.inr rfl) (ev1 rfl)) ?_
  refine zaf ?_
  refine dwp_ret ?_
  refine kend0 (rs1 rfl (rv_t rfl)) rfl ?_
  rw [idxI_nn]
end Go.Proofs.Ytmpodnadoebclaa
namespace Go.Proofs.Ytmpodnadoebclaa
set_option maxRecDepth 4000
set_option linter.unusedVariables false
set_option linter.unusedSimpArgs false
open Go.RowKit
def ksM (m : Mk) : I3 × List TL := (m.i, m.ts)
def ksL (l : List Mk) : List (I3 × List TL) := l.map ksM
theorem ksL_take {l : List Mk} {k : Nat} (h : k < l.length) : ksL (l.take (k + 1)) = ksL (l.take k) ++ [ksM l[k]] := by rw [List.take_succ_eq_append_getElem h, ksL, List.map_append]; rfl
theorem ks_ne {a b : Mk} (h : (decide (a.i = b.i) && decide (a.ts = b.ts)) = false) : ksM a ≠ ksM b := fun e => by
  unfold ksM at e
  simp only [Prod.mk.injEq] at e
  rw [e.1, e.2] at h
  simp at h
theorem ks_eq {a b : Mk} (h : (decide (a.i = b.i) && decide (a.ts = b.ts)) = true) : ksM a = ksM b := by
  simp at h
  unfold ksM
  rw [h.1, h.2]
set_option maxRecDepth 4000 in
set_option maxHeartbeats 1000000 in
theorem same1_d (a b : Mk) : DFun Try.prog 63 [.agg (mkC a), .agg (mkC b)] [] (.val (.bool (decide (a.i = b.i) && decide (a.ts = b.ts)))) [] := by
  refine zao (N := 17) 0 (by kernel_rfl) Try.func63 rfl rfl rfl (by simp only [fr0, Nat.zero_add, Nat.reduceAdd]; exact rfl) rfl fun s0 hs0 => ?_
  refine zae ?_
  refine zak 2 (by simp only [holes, List.cons_append, List.nil_append]; exact rfl) ?_
  refine zad ?_
  refine zan rfl rfl rfl (op_boxam 0 rfl (ev1 rfl) rfl) (by simp only [upd, za, zaa]; exact rfl) ?_
  refine zan rfl rfl rfl (op_boxam 1 rfl (ev1 rfl) rfl) (by simp only [upd, za, zaa]; exact rfl) ?_
  refine zab rfl rfl rfl (zac (.inr rfl) (ev1 rfl)) ?_
  refine zaf ?_
  refine zae ?_
  refine zad ?_
  refine zab rfl rfl rfl (op_fa rfl fo44_0 (ev1 rfl)) ?_
  refine zab rfl rfl rfl (op_ldmv (R := [_, _, _]) rfl tb35 (ev1 rfl) rfl rfl rfl) ?_
  refine zab rfl rfl rfl (op_fa rfl fo44_0 (ev1 rfl)) ?_
  refine zab rfl rfl rfl (op_ldmv (R := [_, _, _]) rfl tb35 (ev1 rfl) rfl rfl rfl) ?_
  refine zab rfl rfl rfl (op_eqr eq35 rfl gd35 tb35 (ev1 rfl) (ev1 rfl)) ?_
  refine zab rfl rfl rfl (zac (.inl rfl) (ev1 rfl)) ?_
  refine zaj (gd_t rfl rfl rfl) rfl rfl rfl (op_fa rfl fo44_1 (ev1 rfl)) ?_
  refine zaj (gd_t rfl rfl rfl) rfl rfl rfl (op_ldm rfl tb42 (ev2 rfl) rfl rfl) ?_
  refine zaj (gd_t rfl rfl rfl) rfl rfl rfl (op_fa rfl fo44_1 (ev1 rfl)) ?_
  refine zaj (gd_t rfl rfl rfl) rfl rfl rfl (op_ldm rfl tb42 (ev2 rfl) rfl rfl) ?_
  refine zaj (gd_t rfl rfl rfl) rfl rfl rfl (zah [] [] [] rfl (ev1 rfl) (ec (ev2 rfl) (ec (ev2 rfl) en)) rfl rfl (same_cv 2 1 a.ds b.ds a.ts b.ts a.ok b.ok a.cv b.cv) rfl rfl rfl rfl rfl rfl) ?_
  refine zab rfl rfl rfl (op_and rfl (ev1 rfl) (ev3 rfl id)) ?_
  refine zab rfl rfl rfl (zac (.inr rfl) (ev1 rfl)) ?_
  refine zaf ?_
  refine dwp_ret ?_
  refine kend0 (rs1 rfl (rv_t rfl)) rfl ?_
  rfl
set_option maxRecDepth 4000 in
set_option maxHeartbeats 1000000 in
theorem equalM (l r : List Mk) : DFun Try.prog 62 [.slm 4 (l).length ((l).flatMap mkC), .slm 4 (r).length ((r).flatMap mkC), .fn (.func 63) [] []] [] (.val (.bool (decide (ksL l = ksL r)))) [] := by
  refine zao (N := 32) 0 (by kernel_rfl) Try.func62 rfl rfl rfl (by simp only [fr0, Nat.zero_add, Nat.reduceAdd]; exact rfl) rfl fun s0 hs0 => ?_
  refine dwp_lenm (t := 0) rfl fun hl0 hL0 => ?_
  refine dwp_lenm (t := 1) rfl fun hl1 hL1 => ?_
  refine zae ?_
  refine zad ?_
  refine zab rfl rfl rfl (zac (.inr rfl) (ev1 rfl)) ?_
  refine zaf ?_
  refine zae ?_
  refine zae ?_
  refine zad ?_
  refine zab rfl rfl rfl (zac (.inl rfl) (ev1 rfl)) ?_
  refine zab rfl rfl rfl (op_lenm rfl sl26 (ev1 rfl)) ?_
  refine zab rfl rfl rfl (zac (.inl rfl) (ev1 rfl)) ?_
  refine zab rfl rfl rfl (op_lenm rfl sl26 (ev1 rfl)) ?_
  refine zab rfl rfl rfl (op_neq rfl (ev1 rfl) (ev1 rfl)) ?_
  refine zaf ?_
  refine dwp_cond rfl (fun c1 => ?_) (fun c1 => ?_)
  · have hne : ksL l ≠ ksL r := fun e => by
      have h1 : (ksL l).length = (ksL r).length := by rw [e]
      rw [ksL, ksL, List.length_map, List.length_map] at h1
      rw [h1] at c1
      simp at c1
    refine zae ?_
    refine zad ?_
    refine zab rfl rfl rfl (zac (.inr rfl) (ev1 rfl)) ?_
    refine zaf ?_
    refine dwp_ret ?_
    refine kend0 (rs1 rfl (rv_t rfl)) rfl ?_
    rw [decide_eq_false hne]
  · have hlen : l.length = r.length := by
      have h := c1
      simp at h
      omega
    refine zal ?_
    refine zae ?_
    refine zae ?_
    refine zad ?_
    refine zab rfl rfl rfl (zac (.inl rfl) (ev1 rfl)) ?_
    refine zab rfl rfl rfl (op_lenm rfl sl26 (ev1 rfl)) ?_
    refine zab rfl rfl rfl (zac (.inl rfl) (ev1 rfl)) ?_
    refine zaf ?_
    refine zam ?_
    refine dwp_loopS ⟨hs0, rfl⟩ (α := Nat) (fun k => [(17, .val (.int .i64 (k : Int)))]) [(1, _), (2, _), (15, _), (16, _)] (fun k => []) [] (fun k => k ≤ l.length ∧ ksL (l.take k) = ksL (r.take k)) (fun k => l.length - k) 0 [] (⟨Nat.zero_le _, rfl⟩) rfl ⟨rfl, rfl, rfl, rfl, trivial⟩ ⟨rfl, trivial⟩ trivial ?_
    intro k hx
    simp only [upd, za, zaa, List.cons_append, List.nil_append]
    obtain ⟨hk, he⟩ := hx
    refine zae ?_
    refine zad ?_
    refine zab rfl rfl rfl (op_lss rfl (ev1 rfl) (ev1 rfl)) ?_
    refine zaf ?_
    refine zae ?_
    refine dwp_cond rfl (fun c2 => ?_) (fun c2 => ?_)
    · try simp only [decide_eq_true_eq, decide_eq_false_iff_not, beq_iff_eq, bne_iff_ne, beq_eq_false_iff_ne, bne_eq_false_iff_eq, Bool.not_eq_true', Bool.not_eq_false', Bool.and_eq_true, Bool.or_eq_true, Bool.or_eq_false_iff, ne_eq, Decidable.not_not, Int.not_lt, Int.not_le] at c2
      refine zal ?_
      refine zae ?_
      refine zam ?_
      refine zae ?_
      refine zak 1 (by simp only [holes, List.cons_append, List.nil_append]; exact rfl) ?_
      refine zad ?_
      refine zab rfl rfl rfl (zac (.inl rfl) (ev1 rfl)) ?_
      refine zab rfl rfl rfl (op_ixmr (k) (by decide) rfl sl26 (ev1 rfl) (ev1 rfl) (fun _ => rfl) (by omega) (fun _ => rfl)) ?_
      refine zab rfl rfl rfl (op_lddr rfl tb44 (ev1 rfl) rfl rfl) ?_
      refine zan rfl rfl rfl (op_alloc 0 rfl zr44 rfl) (by simp only [upd, za, zaa]; exact rfl) ?_
      refine zab rfl rfl rfl (zac (.inr rfl) (ev1 rfl)) ?_
      refine walk_s rfl rfl (op_stam2 rfl tb44 (ev1 rfl) (ev1 rfl) rfl rfl rfl rfl) (by simp only [upd, za, zaa]; exact rfl) ?_
      refine zaf ?_
      refine zae ?_
      refine zak 1 (by simp only [holes, List.cons_append, List.nil_append]; exact rfl) ?_
      refine zad ?_
      refine zab rfl rfl rfl (zac (.inl rfl) (ev1 rfl)) ?_
      refine zab rfl rfl rfl (zac (.inl rfl) (ev1 rfl)) ?_
      refine zab rfl rfl rfl (op_ixmr (k) (by decide) rfl sl26 (ev1 rfl) (ev1 rfl) (fun _ => rfl) (by omega) (fun _ => rfl)) ?_
      refine zab rfl rfl rfl (op_lddr rfl tb44 (ev1 rfl) rfl rfl) ?_
      refine zan rfl rfl rfl (op_alloc 1 rfl zr44 rfl) (by simp only [upd, za, zaa]; exact rfl) ?_
      refine walk_s rfl rfl (op_stam2 rfl tb44 (ev1 rfl) (ev1 rfl) rfl rfl rfl rfl) (by simp only [upd, za, zaa]; exact rfl) ?_
      refine zaf ?_
      refine zae ?_
      refine zad ?_
      refine zab rfl rfl rfl (zac (.inl rfl) (ev1 rfl)) ?_
      refine zab rfl rfl rfl (op_ldmw rfl tb44 (ev1 rfl) rfl rfl) ?_
      refine zab rfl rfl rfl (op_ldmw rfl tb44 (ev1 rfl) rfl rfl) ?_
      refine zab rfl rfl rfl (zah [] [] [] rfl (ev1 rfl) (ec (ev1 rfl) (ec (ev1 rfl) en)) rfl rfl (same1_d l[k] r[k]) rfl rfl rfl rfl rfl rfl) ?_
      refine zab rfl rfl rfl (op_not rfl (ev1 rfl)) ?_
      refine zaf ?_
      refine dwp_cond rfl (fun c2 => ?_) (fun c2 => ?_)
      · have c3 : (decide (l[k].i = r[k].i) && decide (l[k].ts = r[k].ts)) = false := bn_t c2
        refine zae ?_
        refine zad ?_
        refine zab rfl rfl rfl (zac (.inr rfl) (ev1 rfl)) ?_
        refine zaf ?_
        refine dwp_ret ?_
        refine kend0 (rs1 rfl (rv_t rfl)) rfl ?_
        have hne : ksL l ≠ ksL r := fun e => by
          have h1 : (ksL l)[k]? = (ksL r)[k]? := by rw [e]
          rw [ksL, ksL, List.getElem?_map, List.getElem?_map, List.getElem?_eq_getElem (by omega), List.getElem?_eq_getElem (by omega)] at h1
          exact ks_ne c3 (Option.some.inj h1)
        rw [decide_eq_false hne]
      · have c3 : (decide (l[k].i = r[k].i) && decide (l[k].ts = r[k].ts)) = true := bn_f c2
        refine zal ?_
        refine zad ?_
        refine zab rfl rfl rfl (op_add' rfl (ev1 rfl) (ev1 rfl) (fun _ => IntWalk.i64_in _ (by omega))) ?_
        refine zab rfl rfl rfl (zac (.inl rfl) (ev1 rfl)) ?_
        refine zaf ?_
        refine ⟨k + 1, [], ⟨by omega, by rw [ksL_take (by omega), ksL_take (by omega), he, ks_eq c3]⟩, by simp only []; omega, rfl, ⟨rfl, rfl, rfl, rfl, rfl, trivial⟩, trivial⟩
    · try simp only [decide_eq_true_eq, decide_eq_false_iff_not, beq_iff_eq, bne_iff_ne, beq_eq_false_iff_ne, bne_eq_false_iff_eq, Bool.not_eq_true', Bool.not_eq_false', Bool.and_eq_true, Bool.or_eq_true, Bool.or_eq_false_iff, ne_eq, Decidable.not_not, Int.not_lt, Int.not_le] at c2
      refine dwp_exit ?_
      refine zae ?_
      refine zad ?_
      refine zab rfl rfl rfl (zac (.inr rfl) (ev1 rfl)) ?_
      refine zaf ?_
      refine dwp_ret ?_
      refine kend0 (rs1 rfl (rv_t rfl)) rfl ?_
      rw [List.take_of_length_le (by omega), List.take_of_length_le (by omega)] at he
      rw [decide_eq_true he]
set_option maxRecDepth 4000 in
set_option maxHeartbeats 1000000 in
theorem msame_d (l r : List Mk) : DFun Try.prog 33 [.slm 4 (l).length ((l).flatMap mkC), .slm 4 (r).length ((r).flatMap mkC)] [] (.val (.bool (decide (ksL l = ksL r)))) [] := by
  refine zao (N := 8) 0 (by kernel_rfl) Try.func33 rfl rfl rfl (by simp only [fr0, Nat.zero_add, Nat.reduceAdd]; exact rfl) rfl fun s0 hs0 => ?_
  refine dwp_lenm (t := 0) rfl fun hl0 hL0 => ?_
  refine dwp_lenm (t := 1) rfl fun hl1 hL1 => ?_
  refine zae ?_
  refine zad ?_
  refine zab rfl rfl rfl (zac (.inr rfl) (ev1 rfl)) ?_
  refine zaf ?_
  refine zae ?_
  refine zad ?_
  refine zab rfl rfl rfl (zac (.inl rfl) (ev1 rfl)) ?_
  refine zab rfl rfl rfl (zac (.inl rfl) (ev1 rfl)) ?_
  refine zab rfl rfl rfl (zah [] [] [] rfl (ev1 rfl) (ec (ev1 rfl) (ec (ev1 rfl) (ec (ev1 rfl) en))) rfl rfl (equalM l r) rfl rfl rfl rfl rfl rfl) ?_
  refine zab rfl rfl rfl (zac (.inr rfl) (ev1 rfl)) ?_
  refine zaf ?_
  refine dwp_ret ?_
  refine kend0 (rs1 rfl (rv_t rfl)) rfl ?_
  rfl
end Go.Proofs.Ytmpodnadoebclaa
namespace Go.Proofs.Ytmpodnadoebclaa
set_option maxRecDepth 4000
set_option linter.unusedVariables false
set_option linter.unusedSimpArgs false
open Go.RowKit
theorem less_no {a b : I3} (h1 : lessR a b = true) : lessR b a = false := by
  rw [← Bool.not_eq_true]
  rw [less_iff] at *; omega
theorem clN_pos (g : Nat → Int) : ∀ n, 0 < n → 0 < clN g n
  | 0, h => absurd h (by omega)
  | n + 1, _ => by
    unfold clN
    split
    · omega
    · rename_i h; omega
set_option maxRecDepth 4000 in
set_option maxHeartbeats 1000000 in
theorem mput_no (l r : List Mk) (h : l.length ≤ 5000) (h2 : r.length ≤ 5000) (hno : (chkM l && r.all isMk) = false) : DFun Try.prog 16 [.slm 4 (l).length ((l).flatMap mkC), .slm 4 (r).length ((r).flatMap mkC)] [] (.tup [.val (.slice none 0 0), .val (.int .i64 260)]) [] := by
  refine zao (N := 37) 0 (by kernel_rfl) Try.func16 rfl rfl rfl (by simp only [fr0, Nat.zero_add, Nat.reduceAdd]; exact rfl) rfl fun s0 hs0 => ?_
  refine dwp_lenm (t := 0) rfl fun hl0 hL0 => ?_
  refine dwp_lenm (t := 1) rfl fun hl1 hL1 => ?_
  refine zae ?_
  refine zad ?_
  refine zab rfl rfl rfl (zac (.inr rfl) (ev1 rfl)) ?_
  refine zab rfl rfl rfl (zac (.inr rfl) (ev1 rfl)) ?_
  refine zaf ?_
  refine zae ?_
  refine zae ?_
  refine zad ?_
  refine zab rfl rfl rfl (zac (.inl rfl) (ev1 rfl)) ?_
  refine zab rfl rfl rfl (zah [] [] [] rfl (ev1 rfl) (ec (ev1 rfl) en) rfl rfl (mcheck_d _ (by omega)) rfl rfl rfl rfl rfl rfl) ?_
  refine zab rfl rfl rfl (op_neq rfl (ev1 rfl) (ev1 rfl)) ?_
  refine zab rfl rfl rfl (zac (.inl rfl) (ev1 rfl)) ?_
  refine zaj (gd_f rfl rfl rfl) rfl rfl rfl (zac (.inl rfl) (ev1 rfl)) ?_
  refine zaj (gd_f rfl rfl rfl) rfl rfl rfl (zah [] [] [] rfl (ev1 rfl) (ec (ev2 rfl) (ec (ev1 rfl) en)) rfl rfl (stay_d r (by omega)) rfl rfl rfl rfl rfl rfl) ?_
  refine zaj (gd_f rfl rfl rfl) rfl rfl rfl (op_lenm rfl sl25 (ev2 rfl)) ?_
  refine zaj (gd_f rfl rfl rfl) rfl rfl rfl (zac (.inl rfl) (ev1 rfl)) ?_
  refine zaj (gd_f rfl rfl rfl) rfl rfl rfl (op_lenm rfl sl25 (ev2 rfl)) ?_
  refine zaj (gd_f rfl rfl rfl) rfl rfl rfl (op_lss rfl (ev2 rfl) (ev2 rfl)) ?_
  refine zab rfl rfl rfl (op_or rfl (ev1 rfl) (ev3 rfl id)) ?_
  refine zaf ?_
  refine dwp_if_t rfl (by rw [filt_len]; cases g1 : chkM l <;> cases g2 : r.all isMk <;> simp_all [errOr]) ?_
  refine zae ?_
  refine zad ?_
  refine zab rfl rfl rfl (zac (.inr rfl) (ev1 rfl)) ?_
  refine zab rfl rfl rfl (zac (.inr rfl) (ev1 rfl)) ?_
  refine zaf ?_
  refine dwp_ret ?_
  refine kend0 (rs2 rfl (rv_t rfl) (rv_t rfl)) rfl ?_
  rfl
end Go.Proofs.Ytmpodnadoebclaa
namespace Go.Proofs.Ytmpodnadoebclaa
set_option maxRecDepth 4000
set_option linter.unusedVariables false
set_option linter.unusedSimpArgs false
open Go.RowKit
theorem rowM_at {ids : List I3} {b : Int} {k : Nat} (h : k < (rowM ids b).length) : (rowM ids b)[k] = mkN (ids.getD k zI3) (b + (k : Int)) := by simp [rowM]
theorem rowM_ids (ids : List I3) (b : Int) : idsK (rowM ids b) = ids := by
  apply List.ext_getElem?
  intro k
  rw [idsK, List.getElem?_map]
  by_cases h : k < ids.length
  · rw [List.getElem?_eq_getElem (by rw [rowM_len]; exact h), List.getElem?_eq_getElem h, rowM_at]
    exact congrArg some (gI h)
  · rw [List.getElem?_eq_none (by rw [rowM_len]; omega), List.getElem?_eq_none (by omega)]; rfl
end Go.Proofs.Ytmpodnadoebclaa
namespace Go.Proofs.Ytmpodnadoebclaa
set_option maxRecDepth 4000
set_option linter.unusedVariables false
set_option linter.unusedSimpArgs false
open Go.RowKit
attribute [local irreducible] rowM
theorem gA {a b : List I3} {k : Nat} (h : k < a.length) : (a ++ b).getD k zI3 = a.getD k zI3 := by rw [List.getD_eq_getElem?_getD, List.getElem?_append_left h, ← List.getD_eq_getElem?_getD]
theorem gB {a b : List I3} {k : Nat} (h : a.length ≤ k) : (a ++ b).getD k zI3 = b.getD (k - a.length) zI3 := by rw [List.getD_eq_getElem?_getD, List.getElem?_append_right h, ← List.getD_eq_getElem?_getD]
theorem gT {a : List I3} {n k : Nat} (h : k < n) : (a.take n).getD k zI3 = a.getD k zI3 := by rw [List.getD_eq_getElem?_getD, List.getElem?_take, if_pos h, ← List.getD_eq_getElem?_getD]
theorem gDr {a : List I3} {n k : Nat} : (a.drop n).getD k zI3 = a.getD (n + k) zI3 := by rw [List.getD_eq_getElem?_getD, List.getElem?_drop, ← List.getD_eq_getElem?_getD]
theorem ins_eq (l : List I3) (x : I3) : insK id l x = l.take (plI l x) ++ x :: l.drop (if x ∈ l then plI l x + 1 else plI l x) := by unfold insK; rw [List.map_id]; rfl
theorem ins_first {l : List I3} (h : okI l) (x : I3) : (insK id l x).getD 0 zI3 = if l.length = 0 ∨ lessR x (l.getD 0 zI3) = true then x else l.getD 0 zI3 := by
  obtain ⟨h3, h4⟩ := h.split x
  have hp := plI_le l x
  rw [ins_eq]
  rcases Nat.eq_zero_or_pos (plI l x) with h0 | h0
  · rw [h0, List.take_zero, List.nil_append]
    show x = _
    by_cases e : l.length = 0 ∨ lessR x (l.getD 0 zI3) = true
    · rw [if_pos e]
    · rw [if_neg e]
      have e1 : l.length ≠ 0 := fun g => e (.inl g)
      have e2 := h4 0 (by omega) (by omega)
      exact less_tri (by rw [← Bool.not_eq_true]; exact fun g => e (.inr g)) e2
  · have e1 := h3 0 h0
    rw [gA (by rw [List.length_take]; omega), gT h0, if_neg]
    rintro (g | g)
    · omega
    · rw [less_no e1] at g; cases g
theorem ins_last {l : List I3} (h : okI l) (x : I3) : (insK id l x).getD ((insK id l x).length - 1) zI3 = if l.length = 0 ∨ lessR (l.getD (l.length - 1) zI3) x = true then x else l.getD (l.length - 1) zI3 := by
  obtain ⟨h3, h4⟩ := h.split x
  have hp := plI_le l x
  have hlen := ins_len h x
  have htl : (l.take (plI l x)).length = plI l x := by rw [List.length_take]; omega
  by_cases hm : x ∈ l
  · obtain ⟨g1, g2⟩ := (h.mem x).1 hm
    rw [if_pos hm] at hlen
    rw [hlen, ins_eq, if_pos hm]
    rw [gB (by omega), htl]
    by_cases e : plI l x = l.length - 1
    · rw [e, Nat.sub_self]
      show x = _
      rw [e] at g2
      rw [g2, less_irr, if_neg (by rintro (q | q); omega; cases q)]
    · obtain ⟨j, hj⟩ : ∃ j, l.length - 1 - plI l x = j + 1 := ⟨l.length - 1 - plI l x - 1, by omega⟩
      rw [hj, List.getD_cons_succ, gDr, show plI l x + 1 + j = l.length - 1 by omega, if_neg]
      rintro (q | q)
      · omega
      · have := h.2 (plI l x) (l.length - 1) (by omega) (by omega)
        rw [g2, less_no q] at this; cases this
  · rw [if_neg hm] at hlen
    rw [hlen, ins_eq, if_neg hm]
    rw [gB (by omega), htl, Nat.add_sub_cancel]
    by_cases e : plI l x = l.length
    · rw [e, Nat.sub_self]
      show x = _
      rw [if_pos]
      rcases Nat.eq_zero_or_pos l.length with q | q
      · exact .inl q
      · exact .inr (h3 _ (by omega))
    · obtain ⟨j, hj⟩ : ∃ j, l.length - plI l x = j + 1 := ⟨l.length - plI l x - 1, by omega⟩
      rw [hj, List.getD_cons_succ, gDr, show plI l x + j = l.length - 1 by omega, if_neg]
      rintro (q | q)
      · omega
      · have := h4 (l.length - 1) (by omega) (by omega)
        rw [q] at this; cases this
theorem less_first {l : List I3} (h1 : 1 ≤ l.length) : (lessK id l).getD 0 zI3 = l.getD 0 zI3 ∧ (lessK id l).getD ((lessK id l).length - 1) zI3 = l.getD (l.length - 1) zI3 ∧ 1 ≤ (lessK id l).length := by
  unfold lessK
  split
  · rename_i hg
    rw [List.map_id]
    have h2 : closI l ≤ l.length - 2 := clN_le _ _
    have h3 : 0 < closI l := clN_pos _ _ (by omega)
    have htl : (l.take (closI l)).length = closI l := by rw [List.length_take]; omega
    have hlen : (l.take (closI l) ++ l.drop (closI l + 1)).length = l.length - 1 := by rw [List.length_append, List.length_take, List.length_drop]; omega
    refine ⟨by rw [gA (by omega), gT h3], ?_, by omega⟩
    rw [hlen, gB (by omega), htl, gDr]
    congr 1
    omega
  · exact ⟨rfl, rfl, h1⟩
theorem put_len {l : List I3} (h : okI l) (hl : l.length ≤ 6) (x : I3) : l.length ≤ (putK id l x).length := by
  have h1 := ins_len h x
  unfold putK lessK
  split
  · rename_i hg
    have h2 : closI ((insK id l x).map id) ≤ (insK id l x).length - 2 := by have := clN_le (gapI ((insK id l x).map id)) (((insK id l x).map id).length - 2); rw [List.length_map] at this; unfold closI; rw [List.length_map]; exact this
    rw [List.length_append, List.length_take, List.length_drop]
    split at h1 <;> omega
  · split at h1 <;> omega
theorem put_mem {l : List I3} (x : I3) : ∀ i ∈ putK id l x, i = x ∨ i ∈ l := fun i hi => by
  have h1 := (less_subl id _).subset hi
  rcases List.mem_cons.1 ((ins_sub x).mem_iff.1 h1) with h2 | h2
  · exact .inl h2
  · rcases List.mem_append.1 h2 with h2 | h2
    · exact .inr (List.mem_of_mem_take h2)
    · exact .inr (List.mem_of_mem_drop h2)
theorem pl_at {l : List I3} (h : okI l) {k : Nat} (hk : k < l.length) : plI l l[k] = k := by
  obtain ⟨g1, g2⟩ := (h.mem l[k]).1 (List.getElem_mem hk)
  rcases Nat.lt_trichotomy (plI l l[k]) k with e | e | e
  · have := h.2 _ _ e hk
    rw [g2, gI hk, less_irr] at this; cases this
  · exact e
  · have := h.2 _ _ e g1
    rw [g2, gI hk, less_irr] at this; cases this
theorem put_again {n : List Mk} (h : okI (idsK n)) (hl : n.length ≤ 6) {k : Nat} (hk : k < n.length) : ptM n n[k] = n := by
  have hk2 : k < (idsK n).length := by rw [List.length_map]; exact hk
  have e1 : (idsK n)[k] = n[k].i := List.getElem_map _
  have e2 : plM n n[k] = k := by
    show plI (idsK n) n[k].i = k
    rw [← e1]
    exact pl_at h hk2
  have hm : n[k].i ∈ idsK n := List.mem_map_of_mem (List.getElem_mem hk)
  have e3 : insM n n[k] = n := by
    rw [insM_in hm, e2, ← List.drop_eq_getElem_cons hk, List.take_append_drop]
  rw [ptM_le (by rw [e3]; exact hl), e3]
theorem put_all {n : List Mk} (h : okI (idsK n)) (hl : n.length ≤ 6) : ptL n n = n := by
  have key : ∀ k, k ≤ n.length → ptL n (n.take k) = n := fun k => by
    induction k with
    | zero => intro _; rfl
    | succ k ih => intro hk; rw [ptL_take (by omega), ih (by omega), put_again h hl]
  have := key n.length (Nat.le_refl _)
  rwa [List.take_length] at this
theorem okI_nil : okI [] := okI_of (fun x h => by cases h) List.Pairwise.nil
theorem rowM_all (ids : List I3) (b : Int) : (rowM ids b).all isMk = ids.all mayR := by
  have h : (rowM ids b).all isMk = (idsK (rowM ids b)).all mayR := by rw [List.all_map]; rfl
  rw [h, rowM_ids]
theorem keep_put {m n : List Mk} {d : I3} {k : Int} (h : okI (idsK m)) (hl : m.length ≤ 6) (hd : mayR d = true) (hn : ptL m (rowM [d] k) = n) : okI (idsK n) ∧ n.length ≤ 6 ∧ m.length ≤ n.length ∧ 1 ≤ n.length ∧ (idsK n).getD 0 zI3 = (if m.length = 0 ∨ lessR d ((idsK m).getD 0 zI3) = true then d else (idsK m).getD 0 zI3) ∧ (idsK n).getD (n.length - 1) zI3 = (if m.length = 0 ∨ lessR ((idsK m).getD (m.length - 1) zI3) d = true then d else (idsK m).getD (m.length - 1) zI3) ∧ ∀ i ∈ idsK n, i = d ∨ i ∈ idsK m := by
  have hr : (rowM [d] k).all isMk = true := by rw [rowM_all, List.all_cons, hd]; rfl
  obtain ⟨h1, h2⟩ := h.ptL hl _ hr
  have hi : idsK (ptL m (rowM [d] k)) = putK id (idsK m) d := by
    have e : rowM [d] k = [mkN d (k + 0)] := by unfold rowM; rfl
    rw [e]
    exact ptM_ids m _
  have hml : (idsK m).length = m.length := List.length_map _
  have hnl : (idsK n).length = n.length := List.length_map _
  subst hn
  have g1 := put_len h (by rw [hml]; exact hl) d
  have g2 := ins_len h d
  have g3 : 1 ≤ (insK id (idsK m) d).length := by
    by_cases q : d ∈ idsK m
    · rw [if_pos q] at g2
      have := List.length_pos_of_mem q
      omega
    · rw [if_neg q] at g2; omega
  obtain ⟨g4, g5, g6⟩ := less_first g3
  rw [hi] at hnl
  refine ⟨h1, h2, by rw [← hnl, ← hml]; exact g1, by rw [← hnl]; exact g6, ?_, ?_, fun i hi2 => put_mem d i (by rw [← hi]; exact hi2)⟩
  · rw [hi, ← hml]
    exact g4.trans (ins_first h d)
  · rw [hi, ← hml, ← hnl]
    exact g5.trans (ins_last h d)
theorem idsC_ok {m : List Mk} (h : okI (idsK m)) (hl : m.length ≤ 6) : idsC m = idsK m := if_pos (chk_ok.2 ⟨hl, h⟩)
set_option maxRecDepth 4000 in
set_option maxHeartbeats 1000000 in
theorem lkeep_d (x : List I3) : DFun Try.prog 5 [.slf 3 x.length (x.flatMap idc)] [] (.val (.bool true)) [] := by
  refine zao (N := 141) 0 (by kernel_rfl) Try.func5 rfl rfl rfl (by simp only [fr0, Nat.zero_add, Nat.reduceAdd]; exact rfl) rfl fun s0 hs0 => ?_
  refine dwp_len (t := 0) rfl fun hl0 hL0 => ?_
  refine zae ?_
  refine zad ?_
  refine zab rfl rfl rfl (zac (.inr rfl) (ev1 rfl)) ?_
  refine zaf ?_
  refine zae ?_
  refine zae ?_
  refine zad ?_
  refine zab rfl rfl rfl (zah [] [] [] rfl (ev1 rfl) en rfl rfl (wakes_d) rfl rfl rfl rfl rfl rfl) ?_
  refine zab rfl rfl rfl ((op_not rfl (ev1 rfl)).cast (d' := .val (.bool false)) (by kernel_rfl)) ?_
  refine zaf ?_
  refine dwp_if_f rfl (rfl) ?_
  refine zal ?_
  refine zae ?_
  refine zad ?_
  refine zab rfl rfl rfl (zac (.inr rfl) (ev1 rfl)) ?_
  refine zaf ?_
  refine zae ?_
  refine zak 2 (by simp only [holes, List.cons_append, List.nil_append]; exact rfl) ?_
  refine zad ?_
  refine zan rfl rfl rfl (op_alloc 0 rfl zr35 rfl) (by simp only [upd, za, zaa]; exact rfl) ?_
  refine zan rfl rfl rfl (op_alloc 1 rfl zr35 rfl) (by simp only [upd, za, zaa]; exact rfl) ?_
  refine zaf ?_
  refine zae ?_
  refine zae ?_
  refine zad ?_
  refine zab rfl rfl rfl (zac (.inl rfl) (ev1 rfl)) ?_
  refine zab rfl rfl rfl (zah [] [] [] rfl (ev1 rfl) (ec (ev1 rfl) (ec (ev1 rfl) en)) rfl rfl (few_d x 20 (by decide)) rfl rfl rfl rfl rfl rfl) ?_
  refine zab rfl rfl rfl (op_len rfl sl22 (ev1 rfl)) ?_
  refine zab rfl rfl rfl (zac (.inl rfl) (ev1 rfl)) ?_
  refine zaf ?_
  refine zam ?_
  refine dwp_wk 3 rfl (Wk.slm0 4) ?_
  refine dwp_loopS ⟨hs0, rfl⟩ (α := Nat × List Mk) (fun s => [(3, .slm 4 (s.2).length ((s.2).flatMap mkC)), (19, .val (.int .i64 (s.1 : Int)))]) [(4, _), (5, _), (17, _), (18, _)] (fun s => [(0, .flat 35 (idc ((idsK s.2).getD 0 zI3))), (1, .flat 35 (idc ((idsK s.2).getD (s.2.length - 1) zI3)))]) [.hole, .hole] (fun s => s.1 ≤ (x.take 20).length ∧ okI (idsK s.2) ∧ s.2.length ≤ 6) (fun s => (x.take 20).length - s.1) (0, []) [0, 1] (⟨Nat.zero_le _, okI_nil, Nat.zero_le _⟩) rfl ⟨rfl, rfl, rfl, rfl, trivial⟩ ⟨rfl, rfl, trivial⟩ ⟨rfl, rfl, trivial⟩ ?_
  intro s hx
  simp only [upd, za, zaa, List.cons_append, List.nil_append]
  obtain ⟨k, m⟩ := s
  obtain ⟨hk, hm, hml⟩ := hx
  dsimp only at hk hm hml ⊢
  have hxl : (x.take 20).length ≤ 20 := by rw [List.length_take]; omega
  generalize x.take 20 = l at hk hxl ⊢
  refine zae ?_
  refine zad ?_
  refine zab rfl rfl rfl (op_lss rfl (ev1 rfl) (ev1 rfl)) ?_
  refine zaf ?_
  refine zae ?_
  refine dwp_cond rfl (fun c2 => ?_) (fun c2 => ?_)
  · try simp only [decide_eq_true_eq, decide_eq_false_iff_not, beq_iff_eq, bne_iff_ne, beq_eq_false_iff_ne, bne_eq_false_iff_eq, Bool.not_eq_true', Bool.not_eq_false', Bool.and_eq_true, Bool.or_eq_true, Bool.or_eq_false_iff, ne_eq, Decidable.not_not, Int.not_lt, Int.not_le] at c2
    refine zal ?_
    refine zae ?_
    refine zam ?_
    refine zae ?_
    refine zak 1 (by simp only [holes, List.cons_append, List.nil_append]; exact rfl) ?_
    refine zad ?_
    refine zab rfl rfl rfl (zac (.inl rfl) (ev1 rfl)) ?_
    refine zab rfl rfl rfl (op_ixsr (j := k) rfl sl22 (ev1 rfl) (ev1 rfl) (fun _ => rfl) (by decide) (by omega) (by omega)) ?_
    refine zab rfl rfl rfl (op_ldwd rfl tb35 (ev1 rfl) rfl) ?_
    refine zan rfl rfl rfl (op_alloc 2 rfl zr35 rfl) (by simp only [upd, za, zaa]; exact rfl) ?_
    refine zab rfl rfl rfl (zac (.inr rfl) (ev1 rfl)) ?_
    refine walk_s rfl rfl (op_stwa rfl tb35 (ev1 rfl) (ev1 rfl) rfl rfl rfl rfl) (by simp only [upd, za, zaa]; exact rfl) ?_
    refine zaf ?_
    refine zae ?_
    by_cases hd : mayR (l.getD k zI3) = true
    · have hkl : k < l.length := by omega
      rw [gI hkl] at hd
      obtain ⟨n, hn⟩ : ∃ n, ptL m (rowM [l[k]] (k : Int)) = n := ⟨_, rfl⟩
      obtain ⟨n1, n2, n3, n4, n5, n6, n7⟩ := keep_put hm hml hd hn
      have hcm : chkM m = true := chk_ok.2 ⟨hml, hm⟩
      have hcn : chkM n = true := chk_ok.2 ⟨n2, n1⟩
      have hin : idsC n = idsK n := idsC_ok n1 n2
      have him : idsC m = idsK m := idsC_ok hm hml
      have hnl : (idsK n).length = n.length := List.length_map _
      have hall : n.all isMk = true := by
        have := hcn
        unfold chkM at this
        simp only [Bool.and_eq_true] at this
        exact this.2
      have hpp := put_all n1 n2
      have hpm : DFun Try.prog 16 [.slm 4 (m).length ((m).flatMap mkC), .slm 4 (rowM [l[k]] (k : Int)).length ((rowM [l[k]] (k : Int)).flatMap mkC)] [] (.tup [.slm 4 (n).length ((n).flatMap mkC), .val (.int .i64 0)]) [] := by rw [← hn]; exact mput_d m _ (by omega) (by rw [rowM_len]; simp) hcm (by rw [rowM_all, List.all_cons, hd]; rfl)
      have hpn : DFun Try.prog 16 [.slm 4 (n).length ((n).flatMap mkC), .slm 4 (n).length ((n).flatMap mkC)] [] (.tup [.slm 4 (n).length ((n).flatMap mkC), .val (.int .i64 0)]) [] := by
        have := mput_d n n (by omega) (by omega) hcn hall
        rwa [hpp] at this
      refine zad ?_
      refine zab rfl rfl rfl (zac (.inl rfl) (ev1 rfl)) ?_
      refine zab rfl rfl rfl (op_ldw rfl tb35 (ev1 rfl) rfl rfl) ?_
      refine zab rfl rfl rfl (op_bs (ps := [(0, .tmp 26)]) rfl sl22 zr35 rfl (vc (ev1 rfl) vn) rfl (by decide) (by decide)) ?_
      refine zab rfl rfl rfl (zac (.inl rfl) (ev1 rfl)) ?_
      refine zab rfl rfl rfl (zah [] [] [] rfl (ev1 rfl) (ec (ev1 rfl) (ec (ev1 rfl) en)) rfl rfl (row_d [l[k]] (k : Int) (by simp) (by omega)) rfl rfl rfl rfl rfl rfl) ?_
      refine zab rfl rfl rfl (zah [] [] [] rfl (ev1 rfl) (ec (ev1 rfl) (ec (ev1 rfl) en)) rfl rfl (hpm) rfl rfl rfl rfl rfl rfl) ?_
      refine zab rfl rfl rfl (zac (.inl rfl) (ev1 rfl)) ?_
      refine zab rfl rfl rfl (op_ext rfl (ev1 rfl) rfl) ?_
      refine zab rfl rfl rfl (op_ext rfl (ev1 rfl) rfl) ?_
      refine zab rfl rfl rfl (zac (.inr rfl) (ev1 rfl)) ?_
      refine zab rfl rfl rfl (zac (.inr rfl) (ev1 rfl)) ?_
      refine zaf ?_
      refine zae ?_
      refine zae ?_
      refine zad ?_
      refine zab rfl rfl rfl (zac (.inl rfl) (ev1 rfl)) ?_
      refine zab rfl rfl rfl ((op_neq rfl (ev1 rfl) (ev1 rfl)).cast (d' := .val (.bool false)) (by kernel_rfl)) ?_
      refine zaf ?_
      refine dwp_if_f rfl (rfl) ?_
      refine zal ?_
      refine zae ?_
      refine zae ?_
      refine zad ?_
      refine zab rfl rfl rfl (zac (.inl rfl) (ev1 rfl)) ?_
      refine zab rfl rfl rfl (op_lenm rfl sl26 (ev1 rfl)) ?_
      refine zab rfl rfl rfl (op_eql rfl (ev1 rfl) (ev1 rfl)) ?_
      refine zab rfl rfl rfl (zac (.inl rfl) (ev1 rfl)) ?_
      refine zaj (gd_f rfl rfl rfl) rfl rfl rfl (op_ldw rfl tb35 (ev1 rfl) rfl rfl) ?_
      refine zaj (gd_f rfl rfl rfl) rfl rfl rfl (op_ldw rfl tb35 (ev1 rfl) rfl rfl) ?_
      refine zaj (gd_f rfl rfl rfl) rfl rfl rfl (zah [] [] [] rfl (ev1 rfl) (ec (ev2 rfl) (ec (ev2 rfl) en)) rfl rfl (idLess_d _ _) rfl rfl rfl rfl rfl rfl) ?_
      refine zab rfl rfl rfl (op_or rfl (ev1 rfl) (ev3 rfl id)) ?_
      refine zaf ?_
      refine dwp_cond rfl (fun c1 => ?_) (fun c1 => ?_)
      · have hfn : ((idsK n).getD 0 zI3) = l[k] := by
          rw [n5, if_pos]
          rw [Bool.or_eq_true] at c1
          exact c1.imp (fun g => by have := eq_of_beq g; omega) id
        refine zad ?_
        refine zab rfl rfl rfl (op_ldw rfl tb35 (ev1 rfl) rfl rfl) ?_
        refine walk_s rfl rfl (op_stwa rfl tb35 (ev1 rfl) (ev1 rfl) rfl rfl rfl rfl) (by simp only [upd, za, zaa]; exact rfl) ?_
        refine zaf ?_
        refine zae ?_
        refine zae ?_
        refine zad ?_
        refine zab rfl rfl rfl (zac (.inl rfl) (ev1 rfl)) ?_
        refine zab rfl rfl rfl (op_lenm rfl sl26 (ev1 rfl)) ?_
        refine zab rfl rfl rfl (op_eql rfl (ev1 rfl) (ev1 rfl)) ?_
        refine zab rfl rfl rfl (zac (.inl rfl) (ev1 rfl)) ?_
        refine zaj (gd_f rfl rfl rfl) rfl rfl rfl (op_ldw rfl tb35 (ev1 rfl) rfl rfl) ?_
        refine zaj (gd_f rfl rfl rfl) rfl rfl rfl (op_ldw rfl tb35 (ev1 rfl) rfl rfl) ?_
        refine zaj (gd_f rfl rfl rfl) rfl rfl rfl (zah [] [] [] rfl (ev1 rfl) (ec (ev2 rfl) (ec (ev2 rfl) en)) rfl rfl (idLess_d _ _) rfl rfl rfl rfl rfl rfl) ?_
        refine zab rfl rfl rfl (op_or rfl (ev1 rfl) (ev3 rfl id)) ?_
        refine zaf ?_
        refine dwp_cond rfl (fun c2 => ?_) (fun c2 => ?_)
        · have hln : ((idsK n).getD (n.length - 1) zI3) = l[k] := by
            rw [n6, if_pos]
            rw [Bool.or_eq_true] at c2
            exact c2.imp (fun g => by have := eq_of_beq g; omega) id
          refine zad ?_
          refine zab rfl rfl rfl (op_ldw rfl tb35 (ev1 rfl) rfl rfl) ?_
          refine walk_s rfl rfl (op_stwa rfl tb35 (ev1 rfl) (ev1 rfl) rfl rfl rfl rfl) (by simp only [upd, za, zaa]; exact rfl) ?_
          refine zaf ?_
          refine zae ?_
          refine zad ?_
          refine zab rfl rfl rfl (zac (.inl rfl) (ev1 rfl)) ?_
          refine zab rfl rfl rfl (zah [] [] [] rfl (ev1 rfl) (ec (ev1 rfl) en) rfl rfl (Ids_d _ (by omega)) rfl rfl rfl rfl rfl rfl) ?_
          refine zab rfl rfl rfl (zac (.inr rfl) (ev1 rfl)) ?_
          refine zaf ?_
          refine zae ?_
          refine zae ?_
          rw [hin]
          refine dwp_draw [([], []), ([], []), ([], []), ([], []), ([], []), ([], []), ([], []), ([], []), ([], []), ([], []), ([], []), ([], []), ([], []), ([], []), ([0], []), ([], []), ([], []), ([], []), ([], []), ([], []), ([], []), ([], []), ([], []), ([], []), ([1], []), ([], []), ([], []), ([], []), ([], []), ([], []), ([], []), ([], []), ([], []), ([], []), ([], []), ([], []), ([], []), ([], []), ([], [])] mixed (by kernel_rfl) ?_
          refine zag rfl rfl (zac (.inl rfl) (ev1 rfl)) ?_
          refine zag rfl rfl (zah [] [] [] rfl (ev1 rfl) (ec (ev1 rfl) en) rfl rfl (mcheck_d _ (by omega)) rfl rfl rfl rfl rfl rfl) ?_
          refine zag rfl rfl (op_neq rfl (ev1 rfl) (ev1 rfl)) ?_
          refine zag rfl rfl (zac (.inl rfl) (ev1 rfl)) ?_
          refine zai (gd_f rfl rfl rfl) rfl rfl (zac (.inl rfl) (ev1 rfl)) ?_
          refine zai (gd_f rfl rfl rfl) rfl rfl (op_len rfl sl22 (ev2 rfl)) ?_
          refine zai (gd_f rfl rfl rfl) rfl rfl (zac (.inl rfl) (ev1 rfl)) ?_
          refine zai (gd_f rfl rfl rfl) rfl rfl (op_lenm rfl sl26 (ev2 rfl)) ?_
          refine zai (gd_f rfl rfl rfl) rfl rfl (op_neq rfl (ev2 rfl) (ev2 rfl)) ?_
          refine zag rfl rfl (op_or rfl (ev1 rfl) (ev3 rfl id)) ?_
          refine zag rfl rfl (zac (.inl rfl) (ev1 rfl)) ?_
          refine zai (gd_f rfl rfl rfl) rfl rfl (zac (.inl rfl) (ev1 rfl)) ?_
          refine zai (gd_f rfl rfl rfl) rfl rfl (op_ixsg (j := 0) (zI3) rfl sl22 (ev2 rfl) (ev1 rfl) (fun _ => rfl) (by decide) (fun hp => by first | omega | (simp at hp; omega)) (fun hp => by first | omega | (simp at hp; omega))) ?_
          refine zai (gd_f rfl rfl rfl) rfl rfl (op_ldwd rfl tb35 (ev2 rfl) rfl) ?_
          refine zai (gd_f rfl rfl rfl) rfl rfl (op_ldw rfl tb35 (ev1 rfl) rfl rfl) ?_
          refine zai (gd_f rfl rfl rfl) rfl rfl (op_ner eq35 rfl gd35 tb35 (ev2 rfl) (ev2 rfl)) ?_
          refine zag rfl rfl (op_or rfl (ev1 rfl) (ev3 rfl id)) ?_
          refine zag rfl rfl (zac (.inl rfl) (ev1 rfl)) ?_
          refine zai (gd_f rfl rfl rfl) rfl rfl (zac (.inl rfl) (ev1 rfl)) ?_
          refine zai (gd_f rfl rfl rfl) rfl rfl (zac (.inl rfl) (ev1 rfl)) ?_
          refine zai (gd_f rfl rfl rfl) rfl rfl (op_len rfl sl22 (ev2 rfl)) ?_
          refine zai (gd_f rfl rfl rfl) rfl rfl (op_sub' rfl (ev2 rfl) (ev1 rfl) (fun hp => IntWalk.i64_in _ (by first | omega | (simp at hp; omega)))) ?_
          refine zai (gd_f rfl rfl rfl) rfl rfl (op_ixsg (j := (idsK n).length - 1) (zI3) rfl sl22 (ev2 rfl) (ev2 rfl) (fun _ => rfl) (by decide) (fun hp => by first | omega | (simp at hp; omega)) (fun hp => by first | omega | (simp at hp; omega))) ?_
          refine zai (gd_f rfl rfl rfl) rfl rfl (op_ldwd rfl tb35 (ev2 rfl) rfl) ?_
          refine zai (gd_f rfl rfl rfl) rfl rfl (op_ldw rfl tb35 (ev1 rfl) rfl rfl) ?_
          refine zai (gd_f rfl rfl rfl) rfl rfl (op_ner eq35 rfl gd35 tb35 (ev2 rfl) (ev2 rfl)) ?_
          refine zag rfl rfl (op_or rfl (ev1 rfl) (ev3 rfl id)) ?_
          refine zag rfl rfl (zac (.inl rfl) (ev1 rfl)) ?_
          refine zai (gd_f rfl rfl rfl) rfl rfl (zac (.inl rfl) (ev1 rfl)) ?_
          refine zai (gd_f rfl rfl rfl) rfl rfl (op_lenm rfl sl26 (ev2 rfl)) ?_
          refine zai (gd_f rfl rfl rfl) rfl rfl (zac (.inl rfl) (ev1 rfl)) ?_
          refine zai (gd_f rfl rfl rfl) rfl rfl (op_lenm rfl sl26 (ev2 rfl)) ?_
          refine zai (gd_f rfl rfl rfl) rfl rfl (op_lss rfl (ev2 rfl) (ev2 rfl)) ?_
          refine zag rfl rfl (op_or rfl (ev1 rfl) (ev3 rfl id)) ?_
          refine zag rfl rfl (zac (.inl rfl) (ev1 rfl)) ?_
          refine zai (gd_f rfl rfl rfl) rfl rfl (zac (.inl rfl) (ev1 rfl)) ?_
          refine zai (gd_f rfl rfl rfl) rfl rfl (op_lenm rfl sl26 (ev2 rfl)) ?_
          refine zai (gd_f rfl rfl rfl) rfl rfl (op_gtr rfl (ev2 rfl) (ev1 rfl)) ?_
          refine zag rfl rfl (op_or rfl (ev1 rfl) (ev3 rfl id)) ?_
          refine lex_nil ?_
          refine dwp_if_f rfl (by rw [hcn, hnl, hfn, hln]; simp [errOr]; omega) ?_
          refine zal ?_
          refine zae ?_
          refine zad ?_
          refine zab rfl rfl rfl (zac (.inl rfl) (ev1 rfl)) ?_
          refine zab rfl rfl rfl (zac (.inl rfl) (ev1 rfl)) ?_
          refine zab rfl rfl rfl (zah [] [] [] rfl (ev1 rfl) (ec (ev1 rfl) (ec (ev1 rfl) en)) rfl rfl (hpn) rfl rfl rfl rfl rfl rfl) ?_
          refine zab rfl rfl rfl (zac (.inl rfl) (ev1 rfl)) ?_
          refine zab rfl rfl rfl (op_ext rfl (ev1 rfl) rfl) ?_
          refine zab rfl rfl rfl (op_ext rfl (ev1 rfl) rfl) ?_
          refine zab rfl rfl rfl (zac (.inr rfl) (ev1 rfl)) ?_
          refine zab rfl rfl rfl (zac (.inr rfl) (ev1 rfl)) ?_
          refine zaf ?_
          refine zae ?_
          refine zae ?_
          refine zad ?_
          refine zab rfl rfl rfl (zac (.inl rfl) (ev1 rfl)) ?_
          refine zab rfl rfl rfl ((op_neq rfl (ev1 rfl) (ev1 rfl)).cast (d' := .val (.bool false)) (by kernel_rfl)) ?_
          refine zab rfl rfl rfl (zac (.inl rfl) (ev1 rfl)) ?_
          refine walk_k (gd_f (b := false) rfl rfl rfl) rfl rfl rfl (zac (.inl rfl) (ev1 rfl)) (by simp only [upd, za, zaa]; exact rfl) ?_
          refine walk_k (gd_f (b := false) rfl rfl rfl) rfl rfl rfl (zac (.inl rfl) (ev1 rfl)) (by simp only [upd, za, zaa]; exact rfl) ?_
          refine walk_k (gd_f (b := false) rfl rfl rfl) rfl rfl rfl (zah [] [] [] rfl (ev1 rfl) (ec (ev2 rfl) (ec (ev2 rfl) en)) rfl rfl (msame_d n n) rfl rfl rfl rfl rfl rfl) (by simp only [upd, za, zaa]; exact rfl) ?_
          refine walk_k (gd_f (b := false) rfl rfl rfl) rfl rfl rfl (op_not rfl (ev2 rfl)) (by simp only [upd, za, zaa]; exact rfl) ?_
          refine zab rfl rfl rfl (op_or rfl (ev1 rfl) (ev3 rfl (fun _ => rfl))) ?_
          refine zab rfl rfl rfl (zac (.inl rfl) (ev1 rfl)) ?_
          refine zaj (gd_f rfl rfl rfl) rfl rfl rfl (zac (.inl rfl) (ev1 rfl)) ?_
          refine zaj (gd_f rfl rfl rfl) rfl rfl rfl (zac (.inl rfl) (ev1 rfl)) ?_
          refine zaj (gd_f rfl rfl rfl) rfl rfl rfl (zah [] [] [] rfl (ev1 rfl) (ec (ev2 rfl) (ec (ev2 rfl) en)) rfl rfl (msame_d n n) rfl rfl rfl rfl rfl rfl) ?_
          refine zaj (gd_f rfl rfl rfl) rfl rfl rfl (op_not rfl (ev2 rfl)) ?_
          refine zab rfl rfl rfl (op_or rfl (ev1 rfl) (ev3 rfl id)) ?_
          refine zaf ?_
          refine dwp_if_f rfl (by simp) ?_
          refine zal ?_
          refine zae ?_
          refine zae ?_
          refine zad ?_
          refine zab rfl rfl rfl (zac (.inl rfl) (ev1 rfl)) ?_
          refine zab rfl rfl rfl (op_len rfl sl22 (ev1 rfl)) ?_
          refine zab rfl rfl rfl (zac (.inl rfl) (ev1 rfl)) ?_
          refine zaf ?_
          refine zam ?_
          refine dwp_loopS ⟨hs0, rfl⟩ (α := Nat) (fun j => [(124, .val (.int .i64 (j : Int)))]) [(3, _), (4, _), (5, _), (7, _), (8, _), (17, _), (18, _), (19, _), (122, _), (123, _)] (fun j => []) [_, _, _] (fun j => j ≤ (idsK n).length) (fun j => (idsK n).length - j) 0 [0, 1, 2] (Nat.zero_le _) rfl ⟨rfl, rfl, rfl, rfl, rfl, rfl, rfl, rfl, rfl, rfl, trivial⟩ ⟨rfl, trivial⟩ ⟨rfl, rfl, rfl, trivial⟩ ?_
          intro j hx
          simp only [upd, za, zaa, List.cons_append, List.nil_append]
          have hj := hx
          refine zae ?_
          refine zad ?_
          refine zab rfl rfl rfl (op_lss rfl (ev1 rfl) (ev1 rfl)) ?_
          refine zaf ?_
          refine zae ?_
          refine dwp_cond rfl (fun c8 => ?_) (fun c8 => ?_)
          · try simp only [decide_eq_true_eq, decide_eq_false_iff_not, beq_iff_eq, bne_iff_ne, beq_eq_false_iff_ne, bne_eq_false_iff_eq, Bool.not_eq_true', Bool.not_eq_false', Bool.and_eq_true, Bool.or_eq_true, Bool.or_eq_false_iff, ne_eq, Decidable.not_not, Int.not_lt, Int.not_le] at c8
            refine zal ?_
            refine zae ?_
            refine zam ?_
            refine zae ?_
            refine zak 1 (by simp only [holes, List.cons_append, List.nil_append]; exact rfl) ?_
            refine zad ?_
            refine zab rfl rfl rfl (op_ixsr (j := j) rfl sl22 (ev1 rfl) (ev1 rfl) (fun _ => rfl) (by decide) (by omega) (by omega)) ?_
            refine zab rfl rfl rfl (op_ldwd rfl tb35 (ev1 rfl) rfl) ?_
            refine zan rfl rfl rfl (op_alloc 3 rfl zr35 rfl) (by simp only [upd, za, zaa]; exact rfl) ?_
            refine walk_s rfl rfl (op_stwa rfl tb35 (ev1 rfl) (ev1 rfl) rfl rfl rfl rfl) (by simp only [upd, za, zaa]; exact rfl) ?_
            refine zaf ?_
            refine zae ?_
            have hjn : j < (idsK n).length := by omega
            have hjm := n7 (idsK n)[j] (List.getElem_mem hjn)
            refine dwp_draw [([3], []), ([2], []), ([], []), ([], []), ([], []), ([], []), ([3], []), ([], []), ([], []), ([], [])] mixed (by kernel_rfl) ?_
            refine zag rfl rfl (op_ldw rfl tb35 (ev1 rfl) rfl rfl) ?_
            refine zag rfl rfl (op_ldw rfl tb35 (ev1 rfl) rfl rfl) ?_
            refine zag rfl rfl (op_ner eq35 rfl gd35 tb35 (ev1 rfl) (ev1 rfl)) ?_
            refine zag rfl rfl (zac (.inl rfl) (ev1 rfl)) ?_
            refine zai (gd_t rfl rfl rfl) rfl rfl (zac (.inl rfl) (ev1 rfl)) ?_
            refine zai (gd_t rfl rfl rfl) rfl rfl (zah [] [] [] rfl (ev1 rfl) (ec (ev2 rfl) en) rfl rfl (Ids_d m (by omega)) rfl rfl rfl rfl rfl rfl) ?_
            refine zai (gd_t rfl rfl rfl) rfl rfl (op_ldw rfl tb35 (ev1 rfl) rfl rfl) ?_
            refine zai (gd_t rfl rfl rfl) rfl rfl (zah [] [] [] rfl (ev1 rfl) (ec (ev2 rfl) (ec (ev2 rfl) en)) rfl rfl (contains_d (idsC m) (idsK n)[j]) rfl rfl rfl rfl rfl rfl) ?_
            refine zai (gd_t rfl rfl rfl) rfl rfl (op_not rfl (ev2 rfl)) ?_
            refine zag rfl rfl (op_and rfl (ev1 rfl) (ev3 rfl id)) ?_
            refine lex_nil ?_
            refine dwp_if_f rfl (by
  rw [him]
  rcases hjm with g | g
  · rw [g]; simp
  · rw [decide_eq_true g]; simp) ?_
            refine zal ?_
            refine zad ?_
            refine zab rfl rfl rfl (op_add' rfl (ev1 rfl) (ev1 rfl) (fun _ => IntWalk.i64_in _ (by omega))) ?_
            refine zab rfl rfl rfl (zac (.inl rfl) (ev1 rfl)) ?_
            refine zaf ?_
            refine ⟨j + 1, [0, 1, 2], by omega, by simp only []; omega, rfl, ⟨rfl, rfl, rfl, rfl, rfl, rfl, rfl, rfl, rfl, rfl, rfl, trivial⟩, ⟨rfl, rfl, rfl, trivial⟩⟩
          · try simp only [decide_eq_true_eq, decide_eq_false_iff_not, beq_iff_eq, bne_iff_ne, beq_eq_false_iff_ne, bne_eq_false_iff_eq, Bool.not_eq_true', Bool.not_eq_false', Bool.and_eq_true, Bool.or_eq_true, Bool.or_eq_false_iff, ne_eq, Decidable.not_not, Int.not_lt, Int.not_le] at c8
            refine dwp_exit ?_
            refine zad ?_
            refine zab rfl rfl rfl (zac (.inl rfl) (ev1 rfl)) ?_
            refine zab rfl rfl rfl (zac (.inr rfl) (ev1 rfl)) ?_
            refine zaf ?_
            refine zad ?_
            refine zab rfl rfl rfl (op_add' rfl (ev1 rfl) (ev1 rfl) (fun _ => IntWalk.i64_in _ (by omega))) ?_
            refine zab rfl rfl rfl (zac (.inl rfl) (ev1 rfl)) ?_
            refine zaf ?_
            refine ⟨(k + 1, n), [0, 1], ⟨by omega, n1, n2⟩, by simp only []; omega, rfl, ⟨rfl, rfl, rfl, rfl, rfl, rfl, trivial⟩, ⟨by rw [hfn]; rfl, by rw [hln]; rfl, trivial⟩⟩
        · have hln : ((idsK n).getD (n.length - 1) zI3) = ((idsK m).getD (m.length - 1) zI3) := by
            rw [n6, if_neg]
            rw [Bool.or_eq_false_iff] at c2
            rintro (g | g)
            · have q := c2.1
              rw [g] at q
              simp at q
            · rw [c2.2] at g; cases g
          refine zal ?_
          refine zae ?_
          refine zad ?_
          refine zab rfl rfl rfl (zac (.inl rfl) (ev1 rfl)) ?_
          refine zab rfl rfl rfl (zah [] [] [] rfl (ev1 rfl) (ec (ev1 rfl) en) rfl rfl (Ids_d _ (by omega)) rfl rfl rfl rfl rfl rfl) ?_
          refine zab rfl rfl rfl (zac (.inr rfl) (ev1 rfl)) ?_
          refine zaf ?_
          refine zae ?_
          refine zae ?_
          rw [hin]
          refine dwp_draw [([], []), ([], []), ([], []), ([], []), ([], []), ([], []), ([], []), ([], []), ([], []), ([], []), ([], []), ([], []), ([], []), ([], []), ([0], []), ([], []), ([], []), ([], []), ([], []), ([], []), ([], []), ([], []), ([], []), ([], []), ([1], []), ([], []), ([], []), ([], []), ([], []), ([], []), ([], []), ([], []), ([], []), ([], []), ([], []), ([], []), ([], []), ([], []), ([], [])] mixed (by kernel_rfl) ?_
          refine zag rfl rfl (zac (.inl rfl) (ev1 rfl)) ?_
          refine zag rfl rfl (zah [] [] [] rfl (ev1 rfl) (ec (ev1 rfl) en) rfl rfl (mcheck_d _ (by omega)) rfl rfl rfl rfl rfl rfl) ?_
          refine zag rfl rfl (op_neq rfl (ev1 rfl) (ev1 rfl)) ?_
          refine zag rfl rfl (zac (.inl rfl) (ev1 rfl)) ?_
          refine zai (gd_f rfl rfl rfl) rfl rfl (zac (.inl rfl) (ev1 rfl)) ?_
          refine zai (gd_f rfl rfl rfl) rfl rfl (op_len rfl sl22 (ev2 rfl)) ?_
          refine zai (gd_f rfl rfl rfl) rfl rfl (zac (.inl rfl) (ev1 rfl)) ?_
          refine zai (gd_f rfl rfl rfl) rfl rfl (op_lenm rfl sl26 (ev2 rfl)) ?_
          refine zai (gd_f rfl rfl rfl) rfl rfl (op_neq rfl (ev2 rfl) (ev2 rfl)) ?_
          refine zag rfl rfl (op_or rfl (ev1 rfl) (ev3 rfl id)) ?_
          refine zag rfl rfl (zac (.inl rfl) (ev1 rfl)) ?_
          refine zai (gd_f rfl rfl rfl) rfl rfl (zac (.inl rfl) (ev1 rfl)) ?_
          refine zai (gd_f rfl rfl rfl) rfl rfl (op_ixsg (j := 0) (zI3) rfl sl22 (ev2 rfl) (ev1 rfl) (fun _ => rfl) (by decide) (fun hp => by first | omega | (simp at hp; omega)) (fun hp => by first | omega | (simp at hp; omega))) ?_
          refine zai (gd_f rfl rfl rfl) rfl rfl (op_ldwd rfl tb35 (ev2 rfl) rfl) ?_
          refine zai (gd_f rfl rfl rfl) rfl rfl (op_ldw rfl tb35 (ev1 rfl) rfl rfl) ?_
          refine zai (gd_f rfl rfl rfl) rfl rfl (op_ner eq35 rfl gd35 tb35 (ev2 rfl) (ev2 rfl)) ?_
          refine zag rfl rfl (op_or rfl (ev1 rfl) (ev3 rfl id)) ?_
          refine zag rfl rfl (zac (.inl rfl) (ev1 rfl)) ?_
          refine zai (gd_f rfl rfl rfl) rfl rfl (zac (.inl rfl) (ev1 rfl)) ?_
          refine zai (gd_f rfl rfl rfl) rfl rfl (zac (.inl rfl) (ev1 rfl)) ?_
          refine zai (gd_f rfl rfl rfl) rfl rfl (op_len rfl sl22 (ev2 rfl)) ?_
          refine zai (gd_f rfl rfl rfl) rfl rfl (op_sub' rfl (ev2 rfl) (ev1 rfl) (fun hp => IntWalk.i64_in _ (by first | omega | (simp at hp; omega)))) ?_
          refine zai (gd_f rfl rfl rfl) rfl rfl (op_ixsg (j := (idsK n).length - 1) (zI3) rfl sl22 (ev2 rfl) (ev2 rfl) (fun _ => rfl) (by decide) (fun hp => by first | omega | (simp at hp; omega)) (fun hp => by first | omega | (simp at hp; omega))) ?_
          refine zai (gd_f rfl rfl rfl) rfl rfl (op_ldwd rfl tb35 (ev2 rfl) rfl) ?_
          refine zai (gd_f rfl rfl rfl) rfl rfl (op_ldw rfl tb35 (ev1 rfl) rfl rfl) ?_
          refine zai (gd_f rfl rfl rfl) rfl rfl (op_ner eq35 rfl gd35 tb35 (ev2 rfl) (ev2 rfl)) ?_
          refine zag rfl rfl (op_or rfl (ev1 rfl) (ev3 rfl id)) ?_
          refine zag rfl rfl (zac (.inl rfl) (ev1 rfl)) ?_
          refine zai (gd_f rfl rfl rfl) rfl rfl (zac (.inl rfl) (ev1 rfl)) ?_
          refine zai (gd_f rfl rfl rfl) rfl rfl (op_lenm rfl sl26 (ev2 rfl)) ?_
          refine zai (gd_f rfl rfl rfl) rfl rfl (zac (.inl rfl) (ev1 rfl)) ?_
          refine zai (gd_f rfl rfl rfl) rfl rfl (op_lenm rfl sl26 (ev2 rfl)) ?_
          refine zai (gd_f rfl rfl rfl) rfl rfl (op_lss rfl (ev2 rfl) (ev2 rfl)) ?_
          refine zag rfl rfl (op_or rfl (ev1 rfl) (ev3 rfl id)) ?_
          refine zag rfl rfl (zac (.inl rfl) (ev1 rfl)) ?_
          refine zai (gd_f rfl rfl rfl) rfl rfl (zac (.inl rfl) (ev1 rfl)) ?_
          refine zai (gd_f rfl rfl rfl) rfl rfl (op_lenm rfl sl26 (ev2 rfl)) ?_
          refine zai (gd_f rfl rfl rfl) rfl rfl (op_gtr rfl (ev2 rfl) (ev1 rfl)) ?_
          refine zag rfl rfl (op_or rfl (ev1 rfl) (ev3 rfl id)) ?_
          refine lex_nil ?_
          refine dwp_if_f rfl (by rw [hcn, hnl, hfn, hln]; simp [errOr]; omega) ?_
          refine zal ?_
          refine zae ?_
          refine zad ?_
          refine zab rfl rfl rfl (zac (.inl rfl) (ev1 rfl)) ?_
          refine zab rfl rfl rfl (zac (.inl rfl) (ev1 rfl)) ?_
          refine zab rfl rfl rfl (zah [] [] [] rfl (ev1 rfl) (ec (ev1 rfl) (ec (ev1 rfl) en)) rfl rfl (hpn) rfl rfl rfl rfl rfl rfl) ?_
          refine zab rfl rfl rfl (zac (.inl rfl) (ev1 rfl)) ?_
          refine zab rfl rfl rfl (op_ext rfl (ev1 rfl) rfl) ?_
          refine zab rfl rfl rfl (op_ext rfl (ev1 rfl) rfl) ?_
          refine zab rfl rfl rfl (zac (.inr rfl) (ev1 rfl)) ?_
          refine zab rfl rfl rfl (zac (.inr rfl) (ev1 rfl)) ?_
          refine zaf ?_
          refine zae ?_
          refine zae ?_
          refine zad ?_
          refine zab rfl rfl rfl (zac (.inl rfl) (ev1 rfl)) ?_
          refine zab rfl rfl rfl ((op_neq rfl (ev1 rfl) (ev1 rfl)).cast (d' := .val (.bool false)) (by kernel_rfl)) ?_
          refine zab rfl rfl rfl (zac (.inl rfl) (ev1 rfl)) ?_
          refine walk_k (gd_f (b := false) rfl rfl rfl) rfl rfl rfl (zac (.inl rfl) (ev1 rfl)) (by simp only [upd, za, zaa]; exact rfl) ?_
          refine walk_k (gd_f (b := false) rfl rfl rfl) rfl rfl rfl (zac (.inl rfl) (ev1 rfl)) (by simp only [upd, za, zaa]; exact rfl) ?_
          refine walk_k (gd_f (b := false) rfl rfl rfl) rfl rfl rfl (zah [] [] [] rfl (ev1 rfl) (ec (ev2 rfl) (ec (ev2 rfl) en)) rfl rfl (msame_d n n) rfl rfl rfl rfl rfl rfl) (by simp only [upd, za, zaa]; exact rfl) ?_
          refine walk_k (gd_f (b := false) rfl rfl rfl) rfl rfl rfl (op_not rfl (ev2 rfl)) (by simp only [upd, za, zaa]; exact rfl) ?_
          refine zab rfl rfl rfl (op_or rfl (ev1 rfl) (ev3 rfl (fun _ => rfl))) ?_
          refine zab rfl rfl rfl (zac (.inl rfl) (ev1 rfl)) ?_
          refine zaj (gd_f rfl rfl rfl) rfl rfl rfl (zac (.inl rfl) (ev1 rfl)) ?_
          refine zaj (gd_f rfl rfl rfl) rfl rfl rfl (zac (.inl rfl) (ev1 rfl)) ?_
          refine zaj (gd_f rfl rfl rfl) rfl rfl rfl (zah [] [] [] rfl (ev1 rfl) (ec (ev2 rfl) (ec (ev2 rfl) en)) rfl rfl (msame_d n n) rfl rfl rfl rfl rfl rfl) ?_
          refine zaj (gd_f rfl rfl rfl) rfl rfl rfl (op_not rfl (ev2 rfl)) ?_
          refine zab rfl rfl rfl (op_or rfl (ev1 rfl) (ev3 rfl id)) ?_
          refine zaf ?_
          refine dwp_if_f rfl (by simp) ?_
          refine zal ?_
          refine zae ?_
          refine zae ?_
          refine zad ?_
          refine zab rfl rfl rfl (zac (.inl rfl) (ev1 rfl)) ?_
          refine zab rfl rfl rfl (op_len rfl sl22 (ev1 rfl)) ?_
          refine zab rfl rfl rfl (zac (.inl rfl) (ev1 rfl)) ?_
          refine zaf ?_
          refine zam ?_
          refine dwp_loopS ⟨hs0, rfl⟩ (α := Nat) (fun j => [(124, .val (.int .i64 (j : Int)))]) [(3, _), (4, _), (5, _), (7, _), (8, _), (17, _), (18, _), (19, _), (122, _), (123, _)] (fun j => []) [_, _, _] (fun j => j ≤ (idsK n).length) (fun j => (idsK n).length - j) 0 [0, 1, 2] (Nat.zero_le _) rfl ⟨rfl, rfl, rfl, rfl, rfl, rfl, rfl, rfl, rfl, rfl, trivial⟩ ⟨rfl, trivial⟩ ⟨rfl, rfl, rfl, trivial⟩ ?_
          intro j hx
          simp only [upd, za, zaa, List.cons_append, List.nil_append]
          have hj := hx
          refine zae ?_
          refine zad ?_
          refine zab rfl rfl rfl (op_lss rfl (ev1 rfl) (ev1 rfl)) ?_
          refine zaf ?_
          refine zae ?_
          refine dwp_cond rfl (fun c12 => ?_) (fun c12 => ?_)
          · try simp only [decide_eq_true_eq, decide_eq_false_iff_not, beq_iff_eq, bne_iff_ne, beq_eq_false_iff_ne, bne_eq_false_iff_eq, Bool.not_eq_true', Bool.not_eq_false', Bool.and_eq_true, Bool.or_eq_true, Bool.or_eq_false_iff, ne_eq, Decidable.not_not, Int.not_lt, Int.not_le] at c12
            refine zal ?_
            refine zae ?_
            refine zam ?_
            refine zae ?_
            refine zak 1 (by simp only [holes, List.cons_append, List.nil_append]; exact rfl) ?_
            refine zad ?_
            refine zab rfl rfl rfl (op_ixsr (j := j) rfl sl22 (ev1 rfl) (ev1 rfl) (fun _ => rfl) (by decide) (by omega) (by omega)) ?_
            refine zab rfl rfl rfl (op_ldwd rfl tb35 (ev1 rfl) rfl) ?_
            refine zan rfl rfl rfl (op_alloc 3 rfl zr35 rfl) (by simp only [upd, za, zaa]; exact rfl) ?_
            refine walk_s rfl rfl (op_stwa rfl tb35 (ev1 rfl) (ev1 rfl) rfl rfl rfl rfl) (by simp only [upd, za, zaa]; exact rfl) ?_
            refine zaf ?_
            refine zae ?_
            have hjn : j < (idsK n).length := by omega
            have hjm := n7 (idsK n)[j] (List.getElem_mem hjn)
            refine dwp_draw [([3], []), ([2], []), ([], []), ([], []), ([], []), ([], []), ([3], []), ([], []), ([], []), ([], [])] mixed (by kernel_rfl) ?_
            refine zag rfl rfl (op_ldw rfl tb35 (ev1 rfl) rfl rfl) ?_
            refine zag rfl rfl (op_ldw rfl tb35 (ev1 rfl) rfl rfl) ?_
            refine zag rfl rfl (op_ner eq35 rfl gd35 tb35 (ev1 rfl) (ev1 rfl)) ?_
            refine zag rfl rfl (zac (.inl rfl) (ev1 rfl)) ?_
            refine zai (gd_t rfl rfl rfl) rfl rfl (zac (.inl rfl) (ev1 rfl)) ?_
            refine zai (gd_t rfl rfl rfl) rfl rfl (zah [] [] [] rfl (ev1 rfl) (ec (ev2 rfl) en) rfl rfl (Ids_d m (by omega)) rfl rfl rfl rfl rfl rfl) ?_
            refine zai (gd_t rfl rfl rfl) rfl rfl (op_ldw rfl tb35 (ev1 rfl) rfl rfl) ?_
            refine zai (gd_t rfl rfl rfl) rfl rfl (zah [] [] [] rfl (ev1 rfl) (ec (ev2 rfl) (ec (ev2 rfl) en)) rfl rfl (contains_d (idsC m) (idsK n)[j]) rfl rfl rfl rfl rfl rfl) ?_
            refine zai (gd_t rfl rfl rfl) rfl rfl (op_not rfl (ev2 rfl)) ?_
            refine zag rfl rfl (op_and rfl (ev1 rfl) (ev3 rfl id)) ?_
            refine lex_nil ?_
            refine dwp_if_f rfl (by
  rw [him]
  rcases hjm with g | g
  · rw [g]; simp
  · rw [decide_eq_true g]; simp) ?_
            refine zal ?_
            refine zad ?_
            refine zab rfl rfl rfl (op_add' rfl (ev1 rfl) (ev1 rfl) (fun _ => IntWalk.i64_in _ (by omega))) ?_
            refine zab rfl rfl rfl (zac (.inl rfl) (ev1 rfl)) ?_
            refine zaf ?_
            refine ⟨j + 1, [0, 1, 2], by omega, by simp only []; omega, rfl, ⟨rfl, rfl, rfl, rfl, rfl, rfl, rfl, rfl, rfl, rfl, rfl, trivial⟩, ⟨rfl, rfl, rfl, trivial⟩⟩
          · try simp only [decide_eq_true_eq, decide_eq_false_iff_not, beq_iff_eq, bne_iff_ne, beq_eq_false_iff_ne, bne_eq_false_iff_eq, Bool.not_eq_true', Bool.not_eq_false', Bool.and_eq_true, Bool.or_eq_true, Bool.or_eq_false_iff, ne_eq, Decidable.not_not, Int.not_lt, Int.not_le] at c12
            refine dwp_exit ?_
            refine zad ?_
            refine zab rfl rfl rfl (zac (.inl rfl) (ev1 rfl)) ?_
            refine zab rfl rfl rfl (zac (.inr rfl) (ev1 rfl)) ?_
            refine zaf ?_
            refine zad ?_
            refine zab rfl rfl rfl (op_add' rfl (ev1 rfl) (ev1 rfl) (fun _ => IntWalk.i64_in _ (by omega))) ?_
            refine zab rfl rfl rfl (zac (.inl rfl) (ev1 rfl)) ?_
            refine zaf ?_
            refine ⟨(k + 1, n), [0, 1], ⟨by omega, n1, n2⟩, by simp only []; omega, rfl, ⟨rfl, rfl, rfl, rfl, rfl, rfl, trivial⟩, ⟨by rw [hfn]; rfl, by rw [hln]; rfl, trivial⟩⟩
      · have hfn : ((idsK n).getD 0 zI3) = ((idsK m).getD 0 zI3) := by
          rw [n5, if_neg]
          rw [Bool.or_eq_false_iff] at c1
          rintro (g | g)
          · have q := c1.1
            rw [g] at q
            simp at q
          · rw [c1.2] at g; cases g
        refine zal ?_
        refine zae ?_
        refine zae ?_
        refine zad ?_
        refine zab rfl rfl rfl (zac (.inl rfl) (ev1 rfl)) ?_
        refine zab rfl rfl rfl (op_lenm rfl sl26 (ev1 rfl)) ?_
        refine zab rfl rfl rfl (op_eql rfl (ev1 rfl) (ev1 rfl)) ?_
        refine zab rfl rfl rfl (zac (.inl rfl) (ev1 rfl)) ?_
        refine zaj (gd_f rfl rfl rfl) rfl rfl rfl (op_ldw rfl tb35 (ev1 rfl) rfl rfl) ?_
        refine zaj (gd_f rfl rfl rfl) rfl rfl rfl (op_ldw rfl tb35 (ev1 rfl) rfl rfl) ?_
        refine zaj (gd_f rfl rfl rfl) rfl rfl rfl (zah [] [] [] rfl (ev1 rfl) (ec (ev2 rfl) (ec (ev2 rfl) en)) rfl rfl (idLess_d _ _) rfl rfl rfl rfl rfl rfl) ?_
        refine zab rfl rfl rfl (op_or rfl (ev1 rfl) (ev3 rfl id)) ?_
        refine zaf ?_
        refine dwp_cond rfl (fun c2 => ?_) (fun c2 => ?_)
        · have hln : ((idsK n).getD (n.length - 1) zI3) = l[k] := by
            rw [n6, if_pos]
            rw [Bool.or_eq_true] at c2
            exact c2.imp (fun g => by have := eq_of_beq g; omega) id
          refine zad ?_
          refine zab rfl rfl rfl (op_ldw rfl tb35 (ev1 rfl) rfl rfl) ?_
          refine walk_s rfl rfl (op_stwa rfl tb35 (ev1 rfl) (ev1 rfl) rfl rfl rfl rfl) (by simp only [upd, za, zaa]; exact rfl) ?_
          refine zaf ?_
          refine zae ?_
          refine zad ?_
          refine zab rfl rfl rfl (zac (.inl rfl) (ev1 rfl)) ?_
          refine zab rfl rfl rfl (zah [] [] [] rfl (ev1 rfl) (ec (ev1 rfl) en) rfl rfl (Ids_d _ (by omega)) rfl rfl rfl rfl rfl rfl) ?_
          refine zab rfl rfl rfl (zac (.inr rfl) (ev1 rfl)) ?_
          refine zaf ?_
          refine zae ?_
          refine zae ?_
          rw [hin]
          refine dwp_draw [([], []), ([], []), ([], []), ([], []), ([], []), ([], []), ([], []), ([], []), ([], []), ([], []), ([], []), ([], []), ([], []), ([], []), ([0], []), ([], []), ([], []), ([], []), ([], []), ([], []), ([], []), ([], []), ([], []), ([], []), ([1], []), ([], []), ([], []), ([], []), ([], []), ([], []), ([], []), ([], []), ([], []), ([], []), ([], []), ([], []), ([], []), ([], []), ([], [])] mixed (by kernel_rfl) ?_
          refine zag rfl rfl (zac (.inl rfl) (ev1 rfl)) ?_
          refine zag rfl rfl (zah [] [] [] rfl (ev1 rfl) (ec (ev1 rfl) en) rfl rfl (mcheck_d _ (by omega)) rfl rfl rfl rfl rfl rfl) ?_
          refine zag rfl rfl (op_neq rfl (ev1 rfl) (ev1 rfl)) ?_
          refine zag rfl rfl (zac (.inl rfl) (ev1 rfl)) ?_
          refine zai (gd_f rfl rfl rfl) rfl rfl (zac (.inl rfl) (ev1 rfl)) ?_
          refine zai (gd_f rfl rfl rfl) rfl rfl (op_len rfl sl22 (ev2 rfl)) ?_
          refine zai (gd_f rfl rfl rfl) rfl rfl (zac (.inl rfl) (ev1 rfl)) ?_
          refine zai (gd_f rfl rfl rfl) rfl rfl (op_lenm rfl sl26 (ev2 rfl)) ?_
          refine zai (gd_f rfl rfl rfl) rfl rfl (op_neq rfl (ev2 rfl) (ev2 rfl)) ?_
          refine zag rfl rfl (op_or rfl (ev1 rfl) (ev3 rfl id)) ?_
          refine zag rfl rfl (zac (.inl rfl) (ev1 rfl)) ?_
          refine zai (gd_f rfl rfl rfl) rfl rfl (zac (.inl rfl) (ev1 rfl)) ?_
          refine zai (gd_f rfl rfl rfl) rfl rfl (op_ixsg (j := 0) (zI3) rfl sl22 (ev2 rfl) (ev1 rfl) (fun _ => rfl) (by decide) (fun hp => by first | omega | (simp at hp; omega)) (fun hp => by first | omega | (simp at hp; omega))) ?_
          refine zai (gd_f rfl rfl rfl) rfl rfl (op_ldwd rfl tb35 (ev2 rfl) rfl) ?_
          refine zai (gd_f rfl rfl rfl) rfl rfl (op_ldw rfl tb35 (ev1 rfl) rfl rfl) ?_
          refine zai (gd_f rfl rfl rfl) rfl rfl (op_ner eq35 rfl gd35 tb35 (ev2 rfl) (ev2 rfl)) ?_
          refine zag rfl rfl (op_or rfl (ev1 rfl) (ev3 rfl id)) ?_
          refine zag rfl rfl (zac (.inl rfl) (ev1 rfl)) ?_
          refine zai (gd_f rfl rfl rfl) rfl rfl (zac (.inl rfl) (ev1 rfl)) ?_
          refine zai (gd_f rfl rfl rfl) rfl rfl (zac (.inl rfl) (ev1 rfl)) ?_
          refine zai (gd_f rfl rfl rfl) rfl rfl (op_len rfl sl22 (ev2 rfl)) ?_
          refine zai (gd_f rfl rfl rfl) rfl rfl (op_sub' rfl (ev2 rfl) (ev1 rfl) (fun hp => IntWalk.i64_in _ (by first | omega | (simp at hp; omega)))) ?_
          refine zai (gd_f rfl rfl rfl) rfl rfl (op_ixsg (j := (idsK n).length - 1) (zI3) rfl sl22 (ev2 rfl) (ev2 rfl) (fun _ => rfl) (by decide) (fun hp => by first | omega | (simp at hp; omega)) (fun hp => by first | omega | (simp at hp; omega))) ?_
          refine zai (gd_f rfl rfl rfl) rfl rfl (op_ldwd rfl tb35 (ev2 rfl) rfl) ?_
          refine zai (gd_f rfl rfl rfl) rfl rfl (op_ldw rfl tb35 (ev1 rfl) rfl rfl) ?_
          refine zai (gd_f rfl rfl rfl) rfl rfl (op_ner eq35 rfl gd35 tb35 (ev2 rfl) (ev2 rfl)) ?_
          refine zag rfl rfl (op_or rfl (ev1 rfl) (ev3 rfl id)) ?_
          refine zag rfl rfl (zac (.inl rfl) (ev1 rfl)) ?_
          refine zai (gd_f rfl rfl rfl) rfl rfl (zac (.inl rfl) (ev1 rfl)) ?_
          refine zai (gd_f rfl rfl rfl) rfl rfl (op_lenm rfl sl26 (ev2 rfl)) ?_
          refine zai (gd_f rfl rfl rfl) rfl rfl (zac (.inl rfl) (ev1 rfl)) ?_
          refine zai (gd_f rfl rfl rfl) rfl rfl (op_lenm rfl sl26 (ev2 rfl)) ?_
          refine zai (gd_f rfl rfl rfl) rfl rfl (op_lss rfl (ev2 rfl) (ev2 rfl)) ?_
          refine zag rfl rfl (op_or rfl (ev1 rfl) (ev3 rfl id)) ?_
          refine zag rfl rfl (zac (.inl rfl) (ev1 rfl)) ?_
          refine zai (gd_f rfl rfl rfl) rfl rfl (zac (.inl rfl) (ev1 rfl)) ?_
          refine zai (gd_f rfl rfl rfl) rfl rfl (op_lenm rfl sl26 (ev2 rfl)) ?_
          refine zai (gd_f rfl rfl rfl) rfl rfl (op_gtr rfl (ev2 rfl) (ev1 rfl)) ?_
          refine zag rfl rfl (op_or rfl (ev1 rfl) (ev3 rfl id)) ?_
          refine lex_nil ?_
          refine dwp_if_f rfl (by rw [hcn, hnl, hfn, hln]; simp [errOr]; omega) ?_
          refine zal ?_
          refine zae ?_
          refine zad ?_
          refine zab rfl rfl rfl (zac (.inl rfl) (ev1 rfl)) ?_
          refine zab rfl rfl rfl (zac (.inl rfl) (ev1 rfl)) ?_
          refine zab rfl rfl rfl (zah [] [] [] rfl (ev1 rfl) (ec (ev1 rfl) (ec (ev1 rfl) en)) rfl rfl (hpn) rfl rfl rfl rfl rfl rfl) ?_
          refine zab rfl rfl rfl (zac (.inl rfl) (ev1 rfl)) ?_
          refine zab rfl rfl rfl (op_ext rfl (ev1 rfl) rfl) ?_
          refine zab rfl rfl rfl (op_ext rfl (ev1 rfl) rfl) ?_
          refine zab rfl rfl rfl (zac (.inr rfl) (ev1 rfl)) ?_
          refine zab rfl rfl rfl (zac (.inr rfl) (ev1 rfl)) ?_
          refine zaf ?_
          refine zae ?_
          refine zae ?_
          refine zad ?_
          refine zab rfl rfl rfl (zac (.inl rfl) (ev1 rfl)) ?_
          refine zab rfl rfl rfl ((op_neq rfl (ev1 rfl) (ev1 rfl)).cast (d' := .val (.bool false)) (by kernel_rfl)) ?_
          refine zab rfl rfl rfl (zac (.inl rfl) (ev1 rfl)) ?_
          refine walk_k (gd_f (b := false) rfl rfl rfl) rfl rfl rfl (zac (.inl rfl) (ev1 rfl)) (by simp only [upd, za, zaa]; exact rfl) ?_
          refine walk_k (gd_f (b := false) rfl rfl rfl) rfl rfl rfl (zac (.inl rfl) (ev1 rfl)) (by simp only [upd, za, zaa]; exact rfl) ?_
          refine walk_k (gd_f (b := false) rfl rfl rfl) rfl rfl rfl (zah [] [] [] rfl (ev1 rfl) (ec (ev2 rfl) (ec (ev2 rfl) en)) rfl rfl (msame_d n n) rfl rfl rfl rfl rfl rfl) (by simp only [upd, za, zaa]; exact rfl) ?_
          refine walk_k (gd_f (b := false) rfl rfl rfl) rfl rfl rfl (op_not rfl (ev2 rfl)) (by simp only [upd, za, zaa]; exact rfl) ?_
          refine zab rfl rfl rfl (op_or rfl (ev1 rfl) (ev3 rfl (fun _ => rfl))) ?_
          refine zab rfl rfl rfl (zac (.inl rfl) (ev1 rfl)) ?_
          refine zaj (gd_f rfl rfl rfl) rfl rfl rfl (zac (.inl rfl) (ev1 rfl)) ?_
          refine zaj (gd_f rfl rfl rfl) rfl rfl rfl (zac (.inl rfl) (ev1 rfl)) ?_
          refine zaj (gd_f rfl rfl rfl) rfl rfl rfl (zah [] [] [] rfl (ev1 rfl) (ec (ev2 rfl) (ec (ev2 rfl) en)) rfl rfl (msame_d n n) rfl rfl rfl rfl rfl rfl) ?_
          refine zaj (gd_f rfl rfl rfl) rfl rfl rfl (op_not rfl (ev2 rfl)) ?_
          refine zab rfl rfl rfl (op_or rfl (ev1 rfl) (ev3 rfl id)) ?_
          refine zaf ?_
          refine dwp_if_f rfl (by simp) ?_
          refine zal ?_
          refine zae ?_
          refine zae ?_
          refine zad ?_
          refine zab rfl rfl rfl (zac (.inl rfl) (ev1 rfl)) ?_
          refine zab rfl rfl rfl (op_len rfl sl22 (ev1 rfl)) ?_
          refine zab rfl rfl rfl (zac (.inl rfl) (ev1 rfl)) ?_
          refine zaf ?_
          refine zam ?_
          refine dwp_loopS ⟨hs0, rfl⟩ (α := Nat) (fun j => [(124, .val (.int .i64 (j : Int)))]) [(3, _), (4, _), (5, _), (7, _), (8, _), (17, _), (18, _), (19, _), (122, _), (123, _)] (fun j => []) [_, _, _] (fun j => j ≤ (idsK n).length) (fun j => (idsK n).length - j) 0 [0, 1, 2] (Nat.zero_le _) rfl ⟨rfl, rfl, rfl, rfl, rfl, rfl, rfl, rfl, rfl, rfl, trivial⟩ ⟨rfl, trivial⟩ ⟨rfl, rfl, rfl, trivial⟩ ?_
          intro j hx
          simp only [upd, za, zaa, List.cons_append, List.nil_append]
          have hj := hx
          refine zae ?_
          refine zad ?_
          refine zab rfl rfl rfl (op_lss rfl (ev1 rfl) (ev1 rfl)) ?_
          refine zaf ?_
          refine zae ?_
          refine dwp_cond rfl (fun c17 => ?_) (fun c17 => ?_)
          · try simp only [decide_eq_true_eq, decide_eq_false_iff_not, beq_iff_eq, bne_iff_ne, beq_eq_false_iff_ne, bne_eq_false_iff_eq, Bool.not_eq_true', Bool.not_eq_false', Bool.and_eq_true, Bool.or_eq_true, Bool.or_eq_false_iff, ne_eq, Decidable.not_not, Int.not_lt, Int.not_le] at c17
            refine zal ?_
            refine zae ?_
            refine zam ?_
            refine zae ?_
            refine zak 1 (by simp only [holes, List.cons_append, List.nil_append]; exact rfl) ?_
            refine zad ?_
            refine zab rfl rfl rfl (op_ixsr (j := j) rfl sl22 (ev1 rfl) (ev1 rfl) (fun _ => rfl) (by decide) (by omega) (by omega)) ?_
            refine zab rfl rfl rfl (op_ldwd rfl tb35 (ev1 rfl) rfl) ?_
            refine zan rfl rfl rfl (op_alloc 3 rfl zr35 rfl) (by simp only [upd, za, zaa]; exact rfl) ?_
            refine walk_s rfl rfl (op_stwa rfl tb35 (ev1 rfl) (ev1 rfl) rfl rfl rfl rfl) (by simp only [upd, za, zaa]; exact rfl) ?_
            refine zaf ?_
            refine zae ?_
            have hjn : j < (idsK n).length := by omega
            have hjm := n7 (idsK n)[j] (List.getElem_mem hjn)
            refine dwp_draw [([3], []), ([2], []), ([], []), ([], []), ([], []), ([], []), ([3], []), ([], []), ([], []), ([], [])] mixed (by kernel_rfl) ?_
            refine zag rfl rfl (op_ldw rfl tb35 (ev1 rfl) rfl rfl) ?_
            refine zag rfl rfl (op_ldw rfl tb35 (ev1 rfl) rfl rfl) ?_
            refine zag rfl rfl (op_ner eq35 rfl gd35 tb35 (ev1 rfl) (ev1 rfl)) ?_
            refine zag rfl rfl (zac (.inl rfl) (ev1 rfl)) ?_
            refine zai (gd_t rfl rfl rfl) rfl rfl (zac (.inl rfl) (ev1 rfl)) ?_
            refine zai (gd_t rfl rfl rfl) rfl rfl (zah [] [] [] rfl (ev1 rfl) (ec (ev2 rfl) en) rfl rfl (Ids_d m (by omega)) rfl rfl rfl rfl rfl rfl) ?_
            refine zai (gd_t rfl rfl rfl) rfl rfl (op_ldw rfl tb35 (ev1 rfl) rfl rfl) ?_
            refine zai (gd_t rfl rfl rfl) rfl rfl (zah [] [] [] rfl (ev1 rfl) (ec (ev2 rfl) (ec (ev2 rfl) en)) rfl rfl (contains_d (idsC m) (idsK n)[j]) rfl rfl rfl rfl rfl rfl) ?_
            refine zai (gd_t rfl rfl rfl) rfl rfl (op_not rfl (ev2 rfl)) ?_
            refine zag rfl rfl (op_and rfl (ev1 rfl) (ev3 rfl id)) ?_
            refine lex_nil ?_
            refine dwp_if_f rfl (by
  rw [him]
  rcases hjm with g | g
  · rw [g]; simp
  · rw [decide_eq_true g]; simp) ?_
            refine zal ?_
            refine zad ?_
            refine zab rfl rfl rfl (op_add' rfl (ev1 rfl) (ev1 rfl) (fun _ => IntWalk.i64_in _ (by omega))) ?_
            refine zab rfl rfl rfl (zac (.inl rfl) (ev1 rfl)) ?_
            refine zaf ?_
            refine ⟨j + 1, [0, 1, 2], by omega, by simp only []; omega, rfl, ⟨rfl, rfl, rfl, rfl, rfl, rfl, rfl, rfl, rfl, rfl, rfl, trivial⟩, ⟨rfl, rfl, rfl, trivial⟩⟩
          · try simp only [decide_eq_true_eq, decide_eq_false_iff_not, beq_iff_eq, bne_iff_ne, beq_eq_false_iff_ne, bne_eq_false_iff_eq, Bool.not_eq_true', Bool.not_eq_false', Bool.and_eq_true, Bool.or_eq_true, Bool.or_eq_false_iff, ne_eq, Decidable.not_not, Int.not_lt, Int.not_le] at c17
            refine dwp_exit ?_
            refine zad ?_
            refine zab rfl rfl rfl (zac (.inl rfl) (ev1 rfl)) ?_
            refine zab rfl rfl rfl (zac (.inr rfl) (ev1 rfl)) ?_
            refine zaf ?_
            refine zad ?_
            refine zab rfl rfl rfl (op_add' rfl (ev1 rfl) (ev1 rfl) (fun _ => IntWalk.i64_in _ (by omega))) ?_
            refine zab rfl rfl rfl (zac (.inl rfl) (ev1 rfl)) ?_
            refine zaf ?_
            refine ⟨(k + 1, n), [0, 1], ⟨by omega, n1, n2⟩, by simp only []; omega, rfl, ⟨rfl, rfl, rfl, rfl, rfl, rfl, trivial⟩, ⟨by rw [hfn]; rfl, by rw [hln]; rfl, trivial⟩⟩
        · have hln : ((idsK n).getD (n.length - 1) zI3) = ((idsK m).getD (m.length - 1) zI3) := by
            rw [n6, if_neg]
            rw [Bool.or_eq_false_iff] at c2
            rintro (g | g)
            · have q := c2.1
              rw [g] at q
              simp at q
            · rw [c2.2] at g; cases g
          refine zal ?_
          refine zae ?_
          refine zad ?_
          refine zab rfl rfl rfl (zac (.inl rfl) (ev1 rfl)) ?_
          refine zab rfl rfl rfl (zah [] [] [] rfl (ev1 rfl) (ec (ev1 rfl) en) rfl rfl (Ids_d _ (by omega)) rfl rfl rfl rfl rfl rfl) ?_
          refine zab rfl rfl rfl (zac (.inr rfl) (ev1 rfl)) ?_
          refine zaf ?_
          refine zae ?_
          refine zae ?_
          rw [hin]
          refine dwp_draw [([], []), ([], []), ([], []), ([], []), ([], []), ([], []), ([], []), ([], []), ([], []), ([], []), ([], []), ([], []), ([], []), ([], []), ([0], []), ([], []), ([], []), ([], []), ([], []), ([], []), ([], []), ([], []), ([], []), ([], []), ([1], []), ([], []), ([], []), ([], []), ([], []), ([], []), ([], []), ([], []), ([], []), ([], []), ([], []), ([], []), ([], []), ([], []), ([], [])] mixed (by kernel_rfl) ?_
          refine zag rfl rfl (zac (.inl rfl) (ev1 rfl)) ?_
          refine zag rfl rfl (zah [] [] [] rfl (ev1 rfl) (ec (ev1 rfl) en) rfl rfl (mcheck_d _ (by omega)) rfl rfl rfl rfl rfl rfl) ?_
          refine zag rfl rfl (op_neq rfl (ev1 rfl) (ev1 rfl)) ?_
          refine zag rfl rfl (zac (.inl rfl) (ev1 rfl)) ?_
          refine zai (gd_f rfl rfl rfl) rfl rfl (zac (.inl rfl) (ev1 rfl)) ?_
          refine zai (gd_f rfl rfl rfl) rfl rfl (op_len rfl sl22 (ev2 rfl)) ?_
          refine zai (gd_f rfl rfl rfl) rfl rfl (zac (.inl rfl) (ev1 rfl)) ?_
          refine zai (gd_f rfl rfl rfl) rfl rfl (op_lenm rfl sl26 (ev2 rfl)) ?_
          refine zai (gd_f rfl rfl rfl) rfl rfl (op_neq rfl (ev2 rfl) (ev2 rfl)) ?_
          refine zag rfl rfl (op_or rfl (ev1 rfl) (ev3 rfl id)) ?_
          refine zag rfl rfl (zac (.inl rfl) (ev1 rfl)) ?_
          refine zai (gd_f rfl rfl rfl) rfl rfl (zac (.inl rfl) (ev1 rfl)) ?_
          refine zai (gd_f rfl rfl rfl) rfl rfl (op_ixsg (j := 0) (zI3) rfl sl22 (ev2 rfl) (ev1 rfl) (fun _ => rfl) (by decide) (fun hp => by first | omega | (simp at hp; omega)) (fun hp => by first | omega | (simp at hp; omega))) ?_
          refine zai (gd_f rfl rfl rfl) rfl rfl (op_ldwd rfl tb35 (ev2 rfl) rfl) ?_
          refine zai (gd_f rfl rfl rfl) rfl rfl (op_ldw rfl tb35 (ev1 rfl) rfl rfl) ?_
          refine zai (gd_f rfl rfl rfl) rfl rfl (op_ner eq35 rfl gd35 tb35 (ev2 rfl) (ev2 rfl)) ?_
          refine zag rfl rfl (op_or rfl (ev1 rfl) (ev3 rfl id)) ?_
          refine zag rfl rfl (zac (.inl rfl) (ev1 rfl)) ?_
          refine zai (gd_f rfl rfl rfl) rfl rfl (zac (.inl rfl) (ev1 rfl)) ?_
          refine zai (gd_f rfl rfl rfl) rfl rfl (zac (.inl rfl) (ev1 rfl)) ?_
          refine zai (gd_f rfl rfl rfl) rfl rfl (op_len rfl sl22 (ev2 rfl)) ?_
          refine zai (gd_f rfl rfl rfl) rfl rfl (op_sub' rfl (ev2 rfl) (ev1 rfl) (fun hp => IntWalk.i64_in _ (by first | omega | (simp at hp; omega)))) ?_
          refine zai (gd_f rfl rfl rfl) rfl rfl (op_ixsg (j := (idsK n).length - 1) (zI3) rfl sl22 (ev2 rfl) (ev2 rfl) (fun _ => rfl) (by decide) (fun hp => by first | omega | (simp at hp; omega)) (fun hp => by first | omega | (simp at hp; omega))) ?_
          refine zai (gd_f rfl rfl rfl) rfl rfl (op_ldwd rfl tb35 (ev2 rfl) rfl) ?_
          refine zai (gd_f rfl rfl rfl) rfl rfl (op_ldw rfl tb35 (ev1 rfl) rfl rfl) ?_
          refine zai (gd_f rfl rfl rfl) rfl rfl (op_ner eq35 rfl gd35 tb35 (ev2 rfl) (ev2 rfl)) ?_
          refine zag rfl rfl (op_or rfl (ev1 rfl) (ev3 rfl id)) ?_
          refine zag rfl rfl (zac (.inl rfl) (ev1 rfl)) ?_
          refine zai (gd_f rfl rfl rfl) rfl rfl (zac (.inl rfl) (ev1 rfl)) ?_
          refine zai (gd_f rfl rfl rfl) rfl rfl (op_lenm rfl sl26 (ev2 rfl)) ?_
          refine zai (gd_f rfl rfl rfl) rfl rfl (zac (.inl rfl) (ev1 rfl)) ?_
          refine zai (gd_f rfl rfl rfl) rfl rfl (op_lenm rfl sl26 (ev2 rfl)) ?_
          refine zai (gd_f rfl rfl rfl) rfl rfl (op_lss rfl (ev2 rfl) (ev2 rfl)) ?_
          refine zag rfl rfl (op_or rfl (ev1 rfl) (ev3 rfl id)) ?_
          refine zag rfl rfl (zac (.inl rfl) (ev1 rfl)) ?_
          refine zai (gd_f rfl rfl rfl) rfl rfl (zac (.inl rfl) (ev1 rfl)) ?_
          refine zai (gd_f rfl rfl rfl) rfl rfl (op_lenm rfl sl26 (ev2 rfl)) ?_
          refine zai (gd_f rfl rfl rfl) rfl rfl (op_gtr rfl (ev2 rfl) (ev1 rfl)) ?_
          refine zag rfl rfl (op_or rfl (ev1 rfl) (ev3 rfl id)) ?_
          refine lex_nil ?_
          refine dwp_if_f rfl (by rw [hcn, hnl, hfn, hln]; simp [errOr]; omega) ?_
          refine zal ?_
          refine zae ?_
          refine zad ?_
          refine zab rfl rfl rfl (zac (.inl rfl) (ev1 rfl)) ?_
          refine zab rfl rfl rfl (zac (.inl rfl) (ev1 rfl)) ?_
          refine zab rfl rfl rfl (zah [] [] [] rfl (ev1 rfl) (ec (ev1 rfl) (ec (ev1 rfl) en)) rfl rfl (hpn) rfl rfl rfl rfl rfl rfl) ?_
          refine zab rfl rfl rfl (zac (.inl rfl) (ev1 rfl)) ?_
          refine zab rfl rfl rfl (op_ext rfl (ev1 rfl) rfl) ?_
          refine zab rfl rfl rfl (op_ext rfl (ev1 rfl) rfl) ?_
          refine zab rfl rfl rfl (zac (.inr rfl) (ev1 rfl)) ?_
          refine zab rfl rfl rfl (zac (.inr rfl) (ev1 rfl)) ?_
          refine zaf ?_
          refine zae ?_
          refine zae ?_
          refine zad ?_
          refine zab rfl rfl rfl (zac (.inl rfl) (ev1 rfl)) ?_
          refine zab rfl rfl rfl ((op_neq rfl (ev1 rfl) (ev1 rfl)).cast (d' := .val (.bool false)) (by kernel_rfl)) ?_
          refine zab rfl rfl rfl (zac (.inl rfl) (ev1 rfl)) ?_
          refine walk_k (gd_f (b := false) rfl rfl rfl) rfl rfl rfl (zac (.inl rfl) (ev1 rfl)) (by simp only [upd, za, zaa]; exact rfl) ?_
          refine walk_k (gd_f (b := false) rfl rfl rfl) rfl rfl rfl (zac (.inl rfl) (ev1 rfl)) (by simp only [upd, za, zaa]; exact rfl) ?_
          refine walk_k (gd_f (b := false) rfl rfl rfl) rfl rfl rfl (zah [] [] [] rfl (ev1 rfl) (ec (ev2 rfl) (ec (ev2 rfl) en)) rfl rfl (msame_d n n) rfl rfl rfl rfl rfl rfl) (by simp only [upd, za, zaa]; exact rfl) ?_
          refine walk_k (gd_f (b := false) rfl rfl rfl) rfl rfl rfl (op_not rfl (ev2 rfl)) (by simp only [upd, za, zaa]; exact rfl) ?_
          refine zab rfl rfl rfl (op_or rfl (ev1 rfl) (ev3 rfl (fun _ => rfl))) ?_
          refine zab rfl rfl rfl (zac (.inl rfl) (ev1 rfl)) ?_
          refine zaj (gd_f rfl rfl rfl) rfl rfl rfl (zac (.inl rfl) (ev1 rfl)) ?_
          refine zaj (gd_f rfl rfl rfl) rfl rfl rfl (zac (.inl rfl) (ev1 rfl)) ?_
          refine zaj (gd_f rfl rfl rfl) rfl rfl rfl (zah [] [] [] rfl (ev1 rfl) (ec (ev2 rfl) (ec (ev2 rfl) en)) rfl rfl (msame_d n n) rfl rfl rfl rfl rfl rfl) ?_
          refine zaj (gd_f rfl rfl rfl) rfl rfl rfl (op_not rfl (ev2 rfl)) ?_
          refine zab rfl rfl rfl (op_or rfl (ev1 rfl) (ev3 rfl id)) ?_
          refine zaf ?_
          refine dwp_if_f rfl (by simp) ?_
          refine zal ?_
          refine zae ?_
          refine zae ?_
          refine zad ?_
          refine zab rfl rfl rfl (zac (.inl rfl) (ev1 rfl)) ?_
          refine zab rfl rfl rfl (op_len rfl sl22 (ev1 rfl)) ?_
          refine zab rfl rfl rfl (zac (.inl rfl) (ev1 rfl)) ?_
          refine zaf ?_
          refine zam ?_
          refine dwp_loopS ⟨hs0, rfl⟩ (α := Nat) (fun j => [(124, .val (.int .i64 (j : Int)))]) [(3, _), (4, _), (5, _), (7, _), (8, _), (17, _), (18, _), (19, _), (122, _), (123, _)] (fun j => []) [_, _, _] (fun j => j ≤ (idsK n).length) (fun j => (idsK n).length - j) 0 [0, 1, 2] (Nat.zero_le _) rfl ⟨rfl, rfl, rfl, rfl, rfl, rfl, rfl, rfl, rfl, rfl, trivial⟩ ⟨rfl, trivial⟩ ⟨rfl, rfl, rfl, trivial⟩ ?_
          intro j hx
          simp only [upd, za, zaa, List.cons_append, List.nil_append]
          have hj := hx
          refine zae ?_
          refine zad ?_
          refine zab rfl rfl rfl (op_lss rfl (ev1 rfl) (ev1 rfl)) ?_
          refine zaf ?_
          refine zae ?_
          refine dwp_cond rfl (fun c21 => ?_) (fun c21 => ?_)
          · try simp only [decide_eq_true_eq, decide_eq_false_iff_not, beq_iff_eq, bne_iff_ne, beq_eq_false_iff_ne, bne_eq_false_iff_eq, Bool.not_eq_true', Bool.not_eq_false', Bool.and_eq_true, Bool.or_eq_true, Bool.or_eq_false_iff, ne_eq, Decidable.not_not, Int.not_lt, Int.not_le] at c21
            refine zal ?_
            refine zae ?_
            refine zam ?_
            refine zae ?_
            refine zak 1 (by simp only [holes, List.cons_append, List.nil_append]; exact rfl) ?_
            refine zad ?_
            refine zab rfl rfl rfl (op_ixsr (j := j) rfl sl22 (ev1 rfl) (ev1 rfl) (fun _ => rfl) (by decide) (by omega) (by omega)) ?_
            refine zab rfl rfl rfl (op_ldwd rfl tb35 (ev1 rfl) rfl) ?_
            refine zan rfl rfl rfl (op_alloc 3 rfl zr35 rfl) (by simp only [upd, za, zaa]; exact rfl) ?_
            refine walk_s rfl rfl (op_stwa rfl tb35 (ev1 rfl) (ev1 rfl) rfl rfl rfl rfl) (by simp only [upd, za, zaa]; exact rfl) ?_
            refine zaf ?_
            refine zae ?_
            have hjn : j < (idsK n).length := by omega
            have hjm := n7 (idsK n)[j] (List.getElem_mem hjn)
            refine dwp_draw [([3], []), ([2], []), ([], []), ([], []), ([], []), ([], []), ([3], []), ([], []), ([], []), ([], [])] mixed (by kernel_rfl) ?_
            refine zag rfl rfl (op_ldw rfl tb35 (ev1 rfl) rfl rfl) ?_
            refine zag rfl rfl (op_ldw rfl tb35 (ev1 rfl) rfl rfl) ?_
            refine zag rfl rfl (op_ner eq35 rfl gd35 tb35 (ev1 rfl) (ev1 rfl)) ?_
            refine zag rfl rfl (zac (.inl rfl) (ev1 rfl)) ?_
            refine zai (gd_t rfl rfl rfl) rfl rfl (zac (.inl rfl) (ev1 rfl)) ?_
            refine zai (gd_t rfl rfl rfl) rfl rfl (zah [] [] [] rfl (ev1 rfl) (ec (ev2 rfl) en) rfl rfl (Ids_d m (by omega)) rfl rfl rfl rfl rfl rfl) ?_
            refine zai (gd_t rfl rfl rfl) rfl rfl (op_ldw rfl tb35 (ev1 rfl) rfl rfl) ?_
            refine zai (gd_t rfl rfl rfl) rfl rfl (zah [] [] [] rfl (ev1 rfl) (ec (ev2 rfl) (ec (ev2 rfl) en)) rfl rfl (contains_d (idsC m) (idsK n)[j]) rfl rfl rfl rfl rfl rfl) ?_
            refine zai (gd_t rfl rfl rfl) rfl rfl (op_not rfl (ev2 rfl)) ?_
            refine zag rfl rfl (op_and rfl (ev1 rfl) (ev3 rfl id)) ?_
            refine lex_nil ?_
            refine dwp_if_f rfl (by
  rw [him]
  rcases hjm with g | g
  · rw [g]; simp
  · rw [decide_eq_true g]; simp) ?_
            refine zal ?_
            refine zad ?_
            refine zab rfl rfl rfl (op_add' rfl (ev1 rfl) (ev1 rfl) (fun _ => IntWalk.i64_in _ (by omega))) ?_
            refine zab rfl rfl rfl (zac (.inl rfl) (ev1 rfl)) ?_
            refine zaf ?_
            refine ⟨j + 1, [0, 1, 2], by omega, by simp only []; omega, rfl, ⟨rfl, rfl, rfl, rfl, rfl, rfl, rfl, rfl, rfl, rfl, rfl, trivial⟩, ⟨rfl, rfl, rfl, trivial⟩⟩
          · try simp only [decide_eq_true_eq, decide_eq_false_iff_not, beq_iff_eq, bne_iff_ne, beq_eq_false_iff_ne, bne_eq_false_iff_eq, Bool.not_eq_true', Bool.not_eq_false', Bool.and_eq_true, Bool.or_eq_true, Bool.or_eq_false_iff, ne_eq, Decidable.not_not, Int.not_lt, Int.not_le] at c21
            refine dwp_exit ?_
            refine zad ?_
            refine zab rfl rfl rfl (zac (.inl rfl) (ev1 rfl)) ?_
            refine zab rfl rfl rfl (zac (.inr rfl) (ev1 rfl)) ?_
            refine zaf ?_
            refine zad ?_
            refine zab rfl rfl rfl (op_add' rfl (ev1 rfl) (ev1 rfl) (fun _ => IntWalk.i64_in _ (by omega))) ?_
            refine zab rfl rfl rfl (zac (.inl rfl) (ev1 rfl)) ?_
            refine zaf ?_
            refine ⟨(k + 1, n), [0, 1], ⟨by omega, n1, n2⟩, by simp only []; omega, rfl, ⟨rfl, rfl, rfl, rfl, rfl, rfl, trivial⟩, ⟨by rw [hfn]; rfl, by rw [hln]; rfl, trivial⟩⟩
    · have hkl : k < l.length := by omega
      rw [gI hkl] at hd
      refine zad ?_
      refine zab rfl rfl rfl (zac (.inl rfl) (ev1 rfl)) ?_
      refine zab rfl rfl rfl (op_ldw rfl tb35 (ev1 rfl) rfl rfl) ?_
      refine zab rfl rfl rfl (op_bs (ps := [(0, .tmp 26)]) rfl sl22 zr35 rfl (vc (ev1 rfl) vn) rfl (by decide) (by decide)) ?_
      refine zab rfl rfl rfl (zac (.inl rfl) (ev1 rfl)) ?_
      refine zab rfl rfl rfl (zah [] [] [] rfl (ev1 rfl) (ec (ev1 rfl) (ec (ev1 rfl) en)) rfl rfl (row_d [l[k]] (k : Int) (by simp) (by omega)) rfl rfl rfl rfl rfl rfl) ?_
      refine zab rfl rfl rfl (zah [] [] [] rfl (ev1 rfl) (ec (ev1 rfl) (ec (ev1 rfl) en)) rfl rfl (mput_no m (rowM [l[k]] (k : Int)) (by omega) (by rw [rowM_len]; simp) (by rw [rowM_all, List.all_cons, Bool.not_eq_true _ |>.mp hd]; simp)) rfl rfl rfl rfl rfl rfl) ?_
      refine zab rfl rfl rfl (zac (.inl rfl) (ev1 rfl)) ?_
      refine zab rfl rfl rfl (op_ext rfl (ev1 rfl) rfl) ?_
      refine zab rfl rfl rfl (op_ext rfl (ev1 rfl) rfl) ?_
      refine zab rfl rfl rfl (zac (.inr rfl) (ev1 rfl)) ?_
      refine zab rfl rfl rfl (zac (.inr rfl) (ev1 rfl)) ?_
      refine zaf ?_
      refine zae ?_
      refine zae ?_
      refine zad ?_
      refine zab rfl rfl rfl (zac (.inl rfl) (ev1 rfl)) ?_
      refine zab rfl rfl rfl ((op_neq rfl (ev1 rfl) (ev1 rfl)).cast (d' := .val (.bool true)) (by kernel_rfl)) ?_
      refine zaf ?_
      refine dwp_if_t rfl (rfl) ?_
      refine zae ?_
      refine zae ?_
      refine zad ?_
      refine zab rfl rfl rfl (op_ldw rfl tb35 (ev1 rfl) rfl rfl) ?_
      refine zab rfl rfl rfl (zah [] [] [] rfl (ev1 rfl) (ec (ev1 rfl) en) rfl rfl (idCheck_d _) rfl rfl rfl rfl rfl rfl) ?_
      refine zab rfl rfl rfl (op_eql rfl (ev1 rfl) (ev1 rfl)) ?_
      refine zab rfl rfl rfl (zac (.inl rfl) (ev1 rfl)) ?_
      refine zaj (gd_f rfl rfl rfl) rfl rfl rfl (zac (.inl rfl) (ev1 rfl)) ?_
      refine zaj (gd_f rfl rfl rfl) rfl rfl rfl (op_len rfl sl26 (evwk (ev2 rfl) (Wk.slf0 4))) ?_
      refine zaj (gd_f rfl rfl rfl) rfl rfl rfl ((op_gtr rfl (ev2 rfl) (ev1 rfl)).cast (d' := .val (.bool false)) (by kernel_rfl)) ?_
      refine zab rfl rfl rfl (op_or rfl (ev1 rfl) (ev3 rfl id)) ?_
      refine zaf ?_
      refine dwp_if_f rfl (by rw [Bool.not_eq_true _ |>.mp hd]; rfl) ?_
      refine zal ?_
      refine dwp_exit ?_
      refine zad ?_
      refine zab rfl rfl rfl (op_add' rfl (ev1 rfl) (ev1 rfl) (fun _ => IntWalk.i64_in _ (by omega))) ?_
      refine zab rfl rfl rfl (zac (.inl rfl) (ev1 rfl)) ?_
      refine zaf ?_
      refine ⟨(k + 1, m), [0, 1], ⟨by omega, hm, hml⟩, by simp only []; omega, rfl, ⟨rfl, rfl, rfl, rfl, rfl, rfl, trivial⟩, ⟨rfl, rfl, trivial⟩⟩
  · try simp only [decide_eq_true_eq, decide_eq_false_iff_not, beq_iff_eq, bne_iff_ne, beq_eq_false_iff_ne, bne_eq_false_iff_eq, Bool.not_eq_true', Bool.not_eq_false', Bool.and_eq_true, Bool.or_eq_true, Bool.or_eq_false_iff, ne_eq, Decidable.not_not, Int.not_lt, Int.not_le] at c2
    refine dwp_exit ?_
    refine zae ?_
    refine zad ?_
    refine zab rfl rfl rfl (zac (.inr rfl) (ev1 rfl)) ?_
    refine zaf ?_
    refine dwp_ret ?_
    refine kend0 (rs1 rfl (rv_t rfl)) rfl ?_
    rfl
end Go.Proofs.Ytmpodnadoebclaa
