/- A region that draws its order: walked once, in the text's order. Conditions: the kernel's look at its edges; Operations: numbers, bools, structs, memory that is read and written. Conditions: what a type is, by the kernel; Codes within a function; a loop's rounds one by one; strings; Rows made by make, and copied into; parts of arrays with their room cut; Blocks read anew; structs with addresses, whole; slices with no room, cut, and grown by zeros; Arrays of words that are values, read at a place; cells at a place that is not known; Variables that stay, named by their addresses; contracts that give one of several things; what is fresh; what types are; tiles, and canvases as they show; canvases shown, and new; what the document puts, and what differs; lines, rectangles, boxes, and what rows of spans have; what drawing rests on; strokes, lines, rectangles; rows of spans that are painted, an. No condition. -/
import Derived.Test.YtjgnalfnginjbaaGreatDoorK6
import Derived.Test.YtjgnalfnginjbaaGreatDoorRows
namespace Go.Proofs.YtjgnalfnginjbaaGreatDoor
set_option linter.unusedVariables false
set_option linter.unusedSimpArgs false
open Go.RowKit
/-- behind a guard that is known to hold -/
theorem lex_k {P : Program} {ops : Array Oper} {o : Oper} {rest : List Oper} {fp wi : List Nat} {fps : List (List Nat × List Nat)} {F : Fr} {M M' : List Blk} {Q : Fr → List Blk → Prop} {d : D} {t : Nat} {wr : List (Nat × Blk)} (hg : Gd ops o F true) (hn : o.guard.isSome = true) (hd : o.dst = some t) (h : DOp P true o F M fp d wr) (hw : wr.map (·.1) = wi) (hM : upd M wr = M')
    (hk : Lex P ops rest fps ((t, .opt true d) :: F) M' Q) : Lex P ops (o :: rest) ((fp, wi) :: fps) F M Q :=
by
  unfold Lex
  refine ⟨true, d, wr, hg, h, hw, (fun h => by cases h), ?_⟩
  unfold gdd
  cases e : o.guard with
  | none => rw [e] at hn; cases hn
  | some x => rw [hd, hM]; exact hk
section
variable {l : List Oper} {E : List Rc} {F : Fr} {M : List Blk}
end
end Go.Proofs.YtjgnalfnginjbaaGreatDoor
namespace Go.Proofs.YtjgnalfnginjbaaGreatDoor
set_option linter.unusedVariables false
set_option linter.unusedSimpArgs false
open Go.RowKit

/-! ### what a type is -/
section
variable {P : Program} {pc : Bool} {o : Oper} {F : Fr} {M : List Blk}
section
variable {T T' : TypeId} {x y : Operand} {k : IntKind} {p q : Int}
end
section
variable {T : TypeId} {x : Operand} {i p k : Nat} {L R : List Value} {v : Value}
end
section
variable {T : TypeId} {x y : Operand} {i p n sz : Nat} {k : IntKind} {z : Int} {L : List Value}
theorem op_ixal (ho : o.op = .indexAddr T x y) (hT : arE P T = some (n, sz)) (hx : Ev pc F x (.aloc i p)) (hy : Ev pc F y (.val (.int k z))) (h : pc = true → 0 ≤ z ∧ z < n) : DOp P pc o F M [] (.aloc i (p + z.toNat * sz)) [] := by
  intro hp a s hok hops hfp
  have hr := ev_at hp hx (by simp [ho, Op.operands]) hops
  have h2 := (ev_at hp hy (by simp [ho, Op.operands]) hops).val_eq
  generalize hv : a.eval x = vx at hr
  cases hr with
  | @aloc _ _ n' c b hb => exact dg_val hok (run_index_arr ho hT hv h2 (h hp).1 (h hp).2) (.aloc hb)
variable {e : TypeId} {by' m : Nat}
end
end
end Go.Proofs.YtjgnalfnginjbaaGreatDoor
namespace Go.Proofs.YtjgnalfnginjbaaGreatDoor
set_option linter.unusedVariables false
set_option linter.unusedSimpArgs false
open Go.RowKit
theorem arr_eq {T : TypeId} {sz n n' : Nat} {L L' : List Value} (h : n = n') (h' : L = L') : some (Blk.arr T sz n L) = some (Blk.arr T sz n' L') := by rw [h, h']
section
variable {P : Program} {s0 : St} {n : Cx}
end
end Go.Proofs.YtjgnalfnginjbaaGreatDoor
namespace Go.Proofs.YtjgnalfnginjbaaGreatDoor
set_option linter.unusedVariables false
set_option linter.unusedSimpArgs false
open Go.RowKit
section
variable {P : Program} {pc : Bool} {o : Oper} {F : Fr} {M : List Blk} {T e : TypeId} {by' : Nat} {x y : Operand}
end
section
variable {P : Program} {pc : Bool} {o : Oper} {F : Fr} {M : List Blk} {T T' : TypeId} {x y : Operand} {k k' : IntKind} {p q : Int}
end
section
variable {P : Program} {pc : Bool} {o : Oper} {F : Fr} {M : List Blk} {T : TypeId} {x lo hi mx : Operand} {n sz : Nat} {α : Type} {en : α → List Value} {l : List α} {k k1 k2 : IntKind} {lz hz mz : Int}
end
section
variable {P : Program} {pc : Bool} {o : Oper} {F : Fr} {M : List Blk} {T e : TypeId} {by' n : Nat} {ds : List D} {Z : List Value}
end
section
variable {P : Program} {pc : Bool} {o : Oper} {F : Fr} {M : List Blk}
theorem oc_one {s : St} {d : D} {v : Value} (h : Rep s d v) (hd : d.oc = true) : v.oneCell' = true := by
  cases h with
  | val v => exact hd
  | slf => rfl
  | slm => rfl
  | arr => rfl
  | fn => rfl
  | farr => rfl
  | floc => rfl
  | _ => cases hd
/-- .. into a variable as a whole -/
theorem op_stam {T T' : TypeId} {x y : Operand} {i k : Nat} {rw' : Bool} {ds : List D} {L : List Value} (ho : o.op = .store T x y) (hT : tyB P T = some (rw', k)) (hx : Ev pc F x (.loc i 0)) (hy : Ev pc F y (.agg ds)) (hM : M[i]? = some (.flat T' L)) (hk : ds.length = k) (hfit : ds.length = L.length) (h1 : ds.all D.oc = true) : DOp P pc o F M [i] .junk [(i, .mix T' ds)] := by
  intro hp a s hok hops hfp
  have hr := ev_at hp hx (by simp [ho, Op.operands]) hops
  have hry := ev_at hp hy (by simp [ho, Op.operands]) hops
  have hM' : s.M[i]? = some (.flat T' L) := by rw [hfp i (by simp)]; exact hM
  generalize hv : a.eval x = vx at hr
  generalize hvy : a.eval y = vy at hry
  cases hr with
  | @loc _ _ b h =>
    cases hry with
    | @agg _ vs hvl hd =>
      obtain ⟨b', e1, e2⟩ := hok.blk i _ _ hM' h
      cases e1
      have hcell := cellsAt_block e2 0
      have hoc : ∀ u ∈ vs, u.oneCell' = true := fun u hu => by
        obtain ⟨j, hj, rfl⟩ := List.getElem_of_mem hu
        have hj2 : j < ds.length := by omega
        exact oc_one (hd j _ _ (List.getElem?_eq_getElem hj2) (List.getElem?_eq_getElem hj)) (List.all_eq_true.1 h1 _ (List.getElem_mem hj2))
      have hrun := run_store (P := P) (w := s.w) (C := vs) ho hT hv hvy rfl (by omega) (fun j hj => by
          have hp' : j < L.length := by omega
          have := hcell j L[j] (by simp [hp'])
          rw [Nat.zero_add] at this
          rw [Nat.zero_add, this]; rfl) (fun j hj => by simp [World.frozen?, e2]) hoc
      have hβ : s.β.set i (.pointer (some ⟨b, 0, none⟩)) = s.β := by
        apply List.ext_getElem?
        intro k
        by_cases e : i = k
        · subst e; rw [List.getElem?_set_self (List.getElem?_eq_some_iff.1 h).1, h]
        · rw [List.getElem?_set_ne e]
      refine dg_skip (s' := ⟨s.β.set i (.pointer (some ⟨b, 0, none⟩)), s.I, s.M.set i (.mix T' ds), s.w.setCells b 0 vs⟩) hrun (tr_store hok hM' rfl h rfl 0 _ ?_) rfl
      have hall : setL L 0 vs = vs := setL_all (by omega)
      have hblk := setCells_block b vs 0 s.w L T' e2
      rw [hall] at hblk
      refine ⟨b, vs, rfl, hblk, hvl, fun j e v hj hv' => ?_⟩
      refine Rep.mono' (s := s) (s' := ⟨s.β.set i (.pointer (some ⟨b, 0, none⟩)), s.I, s.M.set i (.mix T' ds), s.w.setCells b 0 vs⟩) (fun k x hk _ => by show (s.β.set i _)[k]? = _; rw [hβ]; exact hk) (fun _ h => h) (fun b' hI => setCells_other b _ 0 s.w b' fun e => ?_) (hd j e v hj hv')
      subst e
      exact (hok.lt b' (live_of hM' rfl h rfl)).2 hI
end
section
variable {P : Program} {pc : Bool} {o : Oper} {F : Fr} {M : List Blk}
end
section
variable {P : Program} {pc : Bool} {o : Oper} {F : Fr} {M : List Blk}
end
end Go.Proofs.YtjgnalfnginjbaaGreatDoor
namespace Go.Proofs.YtjgnalfnginjbaaGreatDoor
set_option linter.unusedVariables false
set_option linter.unusedSimpArgs false
open Go.RowKit
section
variable {P : Program} {s0 : St} {n : Cx}
end
section
variable {P : Program} {pc : Bool} {o : Oper} {F : Fr} {M : List Blk}
/-- a struct with addresses, whole, into a variable that holds such a one -/
theorem op_stmw {T T' : TypeId} {x y : Operand} {i k : Nat} {rw' : Bool} {ds l : List D} (ho : o.op = .store T x y) (hT : tyB P T = some (rw', k)) (hx : Ev pc F x (.loc i 0)) (hy : Ev pc F y (.agg ds)) (hM : M[i]? = some (.mix T' l)) (hk : ds.length = k) (hfit : ds.length = l.length) (h1 : ds.all D.oc = true) : DOp P pc o F M [i] .junk [(i, .mix T' ds)] := by
  intro hp a s hok hops hfp
  have hr := ev_at hp hx (by simp [ho, Op.operands]) hops
  have hry := ev_at hp hy (by simp [ho, Op.operands]) hops
  have hM' : s.M[i]? = some (.mix T' l) := by rw [hfp i (by simp)]; exact hM
  generalize hv : a.eval x = vx at hr
  generalize hvy : a.eval y = vy at hry
  cases hr with
  | @loc _ _ b h =>
    cases hry with
    | @agg _ vs hvl hd =>
      obtain ⟨b', L, e1, e2, e3, _⟩ := hok.blk i _ _ hM' h
      cases e1
      have hcell := cellsAt_block e2 0
      have hoc : ∀ u ∈ vs, u.oneCell' = true := fun u hu => by
        obtain ⟨j, hj, rfl⟩ := List.getElem_of_mem hu
        have hj2 : j < ds.length := by omega
        exact oc_one (hd j _ _ (List.getElem?_eq_getElem hj2) (List.getElem?_eq_getElem hj)) (List.all_eq_true.1 h1 _ (List.getElem_mem hj2))
      have hrun := run_store (P := P) (w := s.w) (C := vs) ho hT hv hvy rfl (by omega) (fun j hj => by
          have hp' : j < L.length := by omega
          have := hcell j L[j] (by simp [hp'])
          rw [Nat.zero_add] at this
          rw [Nat.zero_add, this]; rfl) (fun j hj => by simp [World.frozen?, e2]) hoc
      have hβ : s.β.set i (.pointer (some ⟨b, 0, none⟩)) = s.β := by
        apply List.ext_getElem?
        intro k
        by_cases e : i = k
        · subst e; rw [List.getElem?_set_self (List.getElem?_eq_some_iff.1 h).1, h]
        · rw [List.getElem?_set_ne e]
      refine dg_skip (s' := ⟨s.β.set i (.pointer (some ⟨b, 0, none⟩)), s.I, s.M.set i (.mix T' ds), s.w.setCells b 0 vs⟩) hrun (tr_store hok hM' rfl h rfl 0 _ ?_) rfl
      have hall : setL L 0 vs = vs := setL_all (by omega)
      have hblk := setCells_block b vs 0 s.w L T' e2
      rw [hall] at hblk
      refine ⟨b, vs, rfl, hblk, hvl, fun j e v hj hv' => ?_⟩
      refine Rep.mono' (s := s) (s' := ⟨s.β.set i (.pointer (some ⟨b, 0, none⟩)), s.I, s.M.set i (.mix T' ds), s.w.setCells b 0 vs⟩) (fun k x hk _ => by show (s.β.set i _)[k]? = _; rw [hβ]; exact hk) (fun _ h => h) (fun b' hI => setCells_other b _ 0 s.w b' fun e => ?_) (hd j e v hj hv')
      subst e
      exact (hok.lt b' (live_of hM' rfl h rfl)).2 hI
end
end Go.Proofs.YtjgnalfnginjbaaGreatDoor
namespace Go.Proofs.YtjgnalfnginjbaaGreatDoor
set_option linter.unusedVariables false
set_option linter.unusedSimpArgs false
open Go.RowKit
section
variable {P : Program} {pc : Bool} {o : Oper} {F : Fr} {M : List Blk} {T : TypeId} {x y : Operand} {k : IntKind} {z : Int} {n : Nat}
end
/-- behind a guard that does not hold nothing is done -/
theorem dop_never {P : Program} {o : Oper} {F : Fr} {M : List Blk} {d : D} : DOp P false o F M [] d [] := fun h => by cases h
end Go.Proofs.YtjgnalfnginjbaaGreatDoor
namespace Go.Proofs.YtjgnalfnginjbaaGreatDoor
set_option linter.unusedVariables false
set_option linter.unusedSimpArgs false
open Go.RowKit
section
variable {P : Program} {s0 : St} {n : Cx}
end
section
variable {P : Program} {pc : Bool} {o : Oper} {F : Fr} {M : List Blk}
end
section
variable {P : Program} {s0 : St} {n : Cx}
end
section
variable {P : Program} {pc : Bool} {o : Oper} {F : Fr} {M : List Blk}
theorem op_pnilmn {T T' e : TypeId} {x : Operand} {l : List D} (ho : o.op = .binOp .neq T x (.const (.pointer none)) T') (hT : ptT P T = some e) (hx : Ev pc F x (.dpm l)) : DOp P pc o F M [] (.val (.bool true)) [] := by
  intro hp a s hok hops hfp
  have hr := ev_at hp hx (by simp [ho, Op.operands]) hops
  generalize hv : a.eval x = vx at hr
  cases hr with
  | @dpm b q _ vs hnl hI hc hl h =>
    refine dg_val (v := .bool true) hok ?_ (.val _)
    unfold execOp
    simp only [ho, hv]
    refine run_v ?_
    have hc : a.eval (.const (.pointer none)) = .pointer none := rfl
    rw [hc]
    have hg : (eqGuard .neq T x (.const (.pointer none)) (.pointer (some ⟨b, q, none⟩)) (.pointer none)).run P s.w = .ok () s.w := by unfold eqGuard; rfl
    rw [Sem.run_bind, hg]
    have he := run_equal_pointer_nil (P := P) s.w T (some ⟨b, q, none⟩) (by rw [show P.pointee T = e by simp [Program.pointee, ptT_spec hT]]; exact ptT_spec hT)
    simp only [Result.andThen, binOp, Sem.run_bind, he]
    rfl
end
end Go.Proofs.YtjgnalfnginjbaaGreatDoor
namespace Go.Proofs.YtjgnalfnginjbaaGreatDoor
set_option maxRecDepth 4000
set_option linter.unusedVariables false
set_option linter.unusedSimpArgs false
open Go.RowKit
theorem setL_tile {ts : List TL} {j q : Nat} {c : C4} (hj : j < ts.length) (hq : q < 64) : setL (ts.flatMap tc) (j * 256 + q * 4) (c4 c) = (ts.set j ((ts.getD j zT).set q c)).flatMap tc := by
  refine flat_set_part tc_len hj (by show q * 4 + 4 ≤ 256; omega) ?_
  rw [tl_at hj]
  exact flat_set c4_len (by rw [TL.h]; exact hq) c
theorem setL_tile2 {ts : List TL} {j q : Nat} {z : Int} {c : C4} (hj : j < ts.length) (hz : z = (q : Int)) (hq : q < 64) : setL (ts.flatMap tc) (j * 256 + z.toNat * 4) (c4 c) = (ts.set j ((ts.getD j zT).set q c)).flatMap tc := by
  subst hz
  rw [Int.toNat_natCast]
  exact setL_tile hj hq
theorem fit_tile {ts : List TL} {j q : Nat} {z : Int} (hj : j < ts.length) (hz : z = (q : Int)) (hq : q < 64) : j * 256 + z.toNat * 4 + 4 ≤ (ts.flatMap tc).length := by
  subst hz
  rw [Int.toNat_natCast, flat_len tc_len]
  have : (j + 1) * 256 ≤ ts.length * 256 := Nat.mul_le_mul_right _ hj
  rw [Nat.succ_mul] at this
  omega
end Go.Proofs.YtjgnalfnginjbaaGreatDoor
namespace Go.Proofs.YtjgnalfnginjbaaGreatDoor
set_option maxRecDepth 4000
set_option linter.unusedVariables false
set_option linter.unusedSimpArgs false
open Go.RowKit
set_option maxRecDepth 4000 in
set_option maxHeartbeats 1000000 in
theorem equalP (l r : List P2) : DFun Tryz.prog 30 [.slf 2 l.length (l.flatMap p2), .slf 2 r.length (r.flatMap p2)] [] (.val (.bool (decide (l = r)))) [] := by
  refine dcalls_go (N := 26) 0 (by kernel_rfl) Tryz.func30 rfl rfl rfl (by simp only [fr0, Nat.zero_add, Nat.reduceAdd]; exact rfl) rfl fun s0 hs0 => ?_
  refine dwp_len (t := 0) rfl fun hl0 hL0 => ?_
  refine dwp_len (t := 1) rfl fun hl1 hL1 => ?_
  refine zaf ?_
  refine zad ?_
  refine zab rfl rfl rfl (zac (.inr rfl) (ev1 rfl)) ?_
  refine zae ?_
  refine zaf ?_
  refine zaf ?_
  refine zad ?_
  refine zab rfl rfl rfl (zac (.inl rfl) (ev1 rfl)) ?_
  refine zab rfl rfl rfl (op_len rfl sl48 (ev1 rfl)) ?_
  refine zab rfl rfl rfl (zac (.inl rfl) (ev1 rfl)) ?_
  refine zab rfl rfl rfl (op_len rfl sl48 (ev1 rfl)) ?_
  refine zab rfl rfl rfl (op_neq rfl (ev1 rfl) (ev1 rfl)) ?_
  refine zae ?_
  refine dwp_cond rfl (fun c1 => ?_) (fun c1 => ?_)
  · try simp only [decide_eq_true_eq, decide_eq_false_iff_not, beq_iff_eq, bne_iff_ne, beq_eq_false_iff_ne, bne_eq_false_iff_eq, Bool.not_eq_true', Bool.not_eq_false', Bool.and_eq_true, Bool.or_eq_true, Bool.or_eq_false_iff, ne_eq, Decidable.not_not, Int.not_lt, Int.not_le] at c1
    refine zaf ?_
    refine zad ?_
    refine zab rfl rfl rfl (zac (.inr rfl) (ev1 rfl)) ?_
    refine zae ?_
    refine dwp_ret ?_
    refine kend0 (rs1 rfl (rv_t rfl)) rfl ?_
    have hne : l ≠ r := fun e => by subst e; exact c1 rfl
    rw [decide_eq_false hne]
  · try simp only [decide_eq_true_eq, decide_eq_false_iff_not, beq_iff_eq, bne_iff_ne, beq_eq_false_iff_ne, bne_eq_false_iff_eq, Bool.not_eq_true', Bool.not_eq_false', Bool.and_eq_true, Bool.or_eq_true, Bool.or_eq_false_iff, ne_eq, Decidable.not_not, Int.not_lt, Int.not_le] at c1
    have hlen : l.length = r.length := by omega
    refine zal ?_
    refine zaf ?_
    refine zaf ?_
    refine zad ?_
    refine zab rfl rfl rfl (zac (.inl rfl) (ev1 rfl)) ?_
    refine zab rfl rfl rfl (op_len rfl sl48 (ev1 rfl)) ?_
    refine zab rfl rfl rfl (zac (.inl rfl) (ev1 rfl)) ?_
    refine zae ?_
    refine dwp_block ?_
    refine dwp_loopS ⟨hs0, rfl⟩ (α := Nat) (fun k => [(13, .val (.int .i64 (k : Int)))]) [(0, _), (1, _), (12, _)] (fun k => []) [] (fun k => k ≤ l.length ∧ l.take k = r.take k) (fun k => l.length - k) 0 [] (by simp) rfl ⟨rfl, rfl, rfl, trivial⟩ ⟨rfl, trivial⟩ trivial ?_
    intro k hx
    simp only [upd, zaa, za, List.cons_append, List.nil_append]
    obtain ⟨hk, he⟩ := hx
    refine zaf ?_
    refine zad ?_
    refine zab rfl rfl rfl (op_lss rfl (ev1 rfl) (ev1 rfl)) ?_
    refine zae ?_
    refine zaf ?_
    refine dwp_cond rfl (fun c2 => ?_) (fun c2 => ?_)
    · try simp only [decide_eq_true_eq, decide_eq_false_iff_not, beq_iff_eq, bne_iff_ne, beq_eq_false_iff_ne, bne_eq_false_iff_eq, Bool.not_eq_true', Bool.not_eq_false', Bool.and_eq_true, Bool.or_eq_true, Bool.or_eq_false_iff, ne_eq, Decidable.not_not, Int.not_lt, Int.not_le] at c2
      refine zal ?_
      refine zaf ?_
      refine dwp_block ?_
      refine zaf ?_
      refine zad ?_
      refine zab rfl rfl rfl (zac (.inl rfl) (ev1 rfl)) ?_
      refine zab rfl rfl rfl (zac (.inr rfl) (ev1 rfl)) ?_
      refine zae ?_
      refine zaf ?_
      refine dwp_draw [([], []), ([], []), ([], []), ([], []), ([], []), ([], []), ([], []), ([], []), ([], [])] mixed (by kernel_rfl) ?_
      refine zag rfl rfl (zac (.inl rfl) (ev1 rfl)) ?_
      refine zag rfl rfl (zac (.inl rfl) (ev1 rfl)) ?_
      refine zag rfl rfl (op_ixsr (j := k) rfl sl48 (ev1 rfl) (ev1 rfl) (fun _ => rfl) (by decide) (by omega) (by omega)) ?_
      refine zag rfl rfl (op_ldwd rfl tb51 (ev1 rfl) rfl) ?_
      refine zag rfl rfl (zac (.inl rfl) (ev1 rfl)) ?_
      refine zag rfl rfl (zac (.inl rfl) (ev1 rfl)) ?_
      refine zag rfl rfl (op_ixsr (j := k) rfl sl48 (ev1 rfl) (ev1 rfl) (fun _ => rfl) (by decide) (by omega) (by omega)) ?_
      refine zag rfl rfl (op_ldwd rfl tb51 (ev1 rfl) rfl) ?_
      refine zag rfl rfl (op_ner eq51 rfl gd51 tb51 (ev1 rfl) (ev1 rfl)) ?_
      refine lex_nil ?_
      refine dwp_cond rfl (fun c2 => ?_) (fun c2 => ?_)
      · have c3 : l[k] ≠ r[k] := by simpa using c2
        refine zaf ?_
        refine zad ?_
        refine zab rfl rfl rfl (zac (.inr rfl) (ev1 rfl)) ?_
        refine zae ?_
        refine dwp_ret ?_
        refine kend0 (rs1 rfl (rv_t rfl)) rfl ?_
        have hne : l ≠ r := fun e => by subst e; exact c3 rfl
        rw [decide_eq_false hne]
      · have c3 : l[k] = r[k] := by simpa using c2
        refine zal ?_
        refine zad ?_
        refine zab rfl rfl rfl (op_add' rfl (ev1 rfl) (ev1 rfl) (fun _ => IntWalk.i64_in _ (by omega))) ?_
        refine zab rfl rfl rfl (zac (.inl rfl) (ev1 rfl)) ?_
        refine zae ?_
        refine ⟨k + 1, [], ⟨by omega, by rw [List.take_succ_eq_append_getElem (by omega), List.take_succ_eq_append_getElem (by omega), he, c3]⟩, by simp only []; omega, rfl, ⟨rfl, rfl, rfl, rfl, trivial⟩, trivial⟩
    · try simp only [decide_eq_true_eq, decide_eq_false_iff_not, beq_iff_eq, bne_iff_ne, beq_eq_false_iff_ne, bne_eq_false_iff_eq, Bool.not_eq_true', Bool.not_eq_false', Bool.and_eq_true, Bool.or_eq_true, Bool.or_eq_false_iff, ne_eq, Decidable.not_not, Int.not_lt, Int.not_le] at c2
      refine dwp_exit ?_
      refine zaf ?_
      refine zad ?_
      refine zab rfl rfl rfl (zac (.inr rfl) (ev1 rfl)) ?_
      refine zae ?_
      refine dwp_ret ?_
      refine kend0 (rs1 rfl (rv_t rfl)) rfl ?_
      have e : l = r := by
        have h := he
        rw [List.take_of_length_le (by omega), List.take_of_length_le (by omega)] at h
        exact h
      rw [decide_eq_true e]
set_option maxRecDepth 4000 in
set_option maxHeartbeats 1000000 in
theorem cloneT (l : List TL) (h : l.length ≤ 5000) : DFun Tryz.prog 42 [.slf 256 l.length (l.flatMap tc)] [] (.arr 0) [.arr 73 256 l.length (l.flatMap tc)] := by
  refine dcalls_go (N := 8) 0 (by kernel_rfl) Tryz.func42 rfl rfl rfl (by simp only [fr0, Nat.zero_add, Nat.reduceAdd]; exact rfl) rfl fun s0 hs0 => ?_
  refine dwp_len (t := 0) rfl fun hl0 hL0 => ?_
  refine zaf ?_
  refine zad ?_
  refine zab rfl rfl rfl (zac (.inr rfl) (ev1 rfl)) ?_
  refine zae ?_
  refine zaf ?_
  refine zaf ?_
  refine zad ?_
  refine zab rfl rfl rfl (zac (.inl rfl) (ev1 rfl)) ?_
  refine walk_nil? rfl rfl rfl rfl sl22 (ev1 rfl) fun nb4 hnb4 => ?_
  refine zae ?_
  refine dwp_cond rfl (fun c1 => ?_) (fun c1 => ?_)
  · try simp only [decide_eq_true_eq, decide_eq_false_iff_not, beq_iff_eq, bne_iff_ne, beq_eq_false_iff_ne, bne_eq_false_iff_eq, Bool.not_eq_true', Bool.not_eq_false', Bool.and_eq_true, Bool.or_eq_true, Bool.or_eq_false_iff, ne_eq, Decidable.not_not, Int.not_lt, Int.not_le] at c1
    refine zaf ?_
    refine zad ?_
    refine zab rfl rfl rfl (zac (.inr rfl) (ev1 rfl)) ?_
    refine zae ?_
    refine dwp_adopt 2 73 256 rfl rfl rfl ?_
    refine dwp_ret ?_
    refine kend [0] (rs1 rfl (rv_t rfl)) rfl rfl ?_ ⟨?_, trivial⟩
    rfl
    exact (by obtain ⟨h1, h2⟩ := hnb4 c1; simp_all [MFits, vwB])
  · try simp only [decide_eq_true_eq, decide_eq_false_iff_not, beq_iff_eq, bne_iff_ne, beq_eq_false_iff_ne, bne_eq_false_iff_eq, Bool.not_eq_true', Bool.not_eq_false', Bool.and_eq_true, Bool.or_eq_true, Bool.or_eq_false_iff, ne_eq, Decidable.not_not, Int.not_lt, Int.not_le] at c1
    refine zal ?_
    refine zaf ?_
    refine zai 2 (by simp only [holes, List.cons_append, List.nil_append]; exact rfl) ?_
    refine zad ?_
    refine zaj rfl rfl rfl (op_bsa (ps := []) 0 rfl sl22 zr73 rfl vn rfl (by decide) (by decide) rfl) (by simp only [upd, zaa, za]; exact rfl) ?_
    refine zab rfl rfl rfl (zac (.inl rfl) (ev1 rfl)) ?_
    refine zaj rfl rfl rfl (op_app (j := 1) rfl sl22 zr73 rfl (ev1 rfl) (ev1 rfl) src_slf rfl rfl (fun _ => flat_oc (fun t => flat_oc (fun _ => rfl) t.l) l) (fun _ => ⟨by omega, by omega⟩)) (by simp only [upd, zaa, za]; exact rfl) ?_
    refine zab rfl rfl rfl (zac (.inr rfl) (ev1 rfl)) ?_
    refine zae ?_
    refine dwp_ret ?_
    refine kend [1] (rs1 rfl (rv_t rfl)) rfl rfl ?_ ⟨?_, trivial⟩
    rfl
    simp [vwB]
theorem cloneT_f (l : List TL) (h : l.length ≤ 5000) : DFun Tryz.prog 42 [.slf 256 l.length (l.flatMap tc)] [] (.slf 256 l.length (l.flatMap tc)) [] := freeze (cloneT l h) rfl
set_option maxRecDepth 4000 in
set_option maxHeartbeats 1000000 in
theorem rsizes_d (w h : Int) : DFun Tryz.prog 53 [.val (.int .i64 w), .val (.int .i64 h)] [] (.val (.bool (mayS w h))) [] := by
  refine dcalls_go (N := 19) 0 (by kernel_rfl) Tryz.func53 rfl rfl rfl (by simp only [fr0, Nat.zero_add, Nat.reduceAdd]; exact rfl) rfl fun s0 hs0 => ?_
  refine zaf ?_
  refine zad ?_
  refine zab rfl rfl rfl (zac (.inr rfl) (ev1 rfl)) ?_
  refine zae ?_
  refine zaf ?_
  refine zad ?_
  refine zab rfl rfl rfl (zac (.inl rfl) (ev1 rfl)) ?_
  refine zab rfl rfl rfl (op_geq rfl (ev1 rfl) (ev1 rfl)) ?_
  refine zab rfl rfl rfl (zac (.inl rfl) (ev1 rfl)) ?_
  refine zak (gd_t rfl rfl rfl) rfl rfl rfl (zac (.inl rfl) (ev1 rfl)) ?_
  refine zak (gd_t rfl rfl rfl) rfl rfl rfl (op_leq rfl (ev2 rfl) (ev1 rfl)) ?_
  refine zab rfl rfl rfl (op_and rfl (ev1 rfl) (ev3 rfl id)) ?_
  refine zab rfl rfl rfl (zac (.inl rfl) (ev1 rfl)) ?_
  refine zak (gd_t rfl rfl rfl) rfl rfl rfl (zac (.inl rfl) (ev1 rfl)) ?_
  refine zak (gd_t rfl rfl rfl) rfl rfl rfl (op_geq rfl (ev2 rfl) (ev1 rfl)) ?_
  refine zab rfl rfl rfl (op_and rfl (ev1 rfl) (ev3 rfl id)) ?_
  refine zab rfl rfl rfl (zac (.inl rfl) (ev1 rfl)) ?_
  refine zak (gd_t rfl rfl rfl) rfl rfl rfl (zac (.inl rfl) (ev1 rfl)) ?_
  refine zak (gd_t rfl rfl rfl) rfl rfl rfl (op_leq rfl (ev2 rfl) (ev1 rfl)) ?_
  refine zab rfl rfl rfl (op_and rfl (ev1 rfl) (ev3 rfl id)) ?_
  refine zab rfl rfl rfl (zac (.inr rfl) (ev1 rfl)) ?_
  refine zae ?_
  refine dwp_ret ?_
  refine kend0 (rs1 rfl (rv_t rfl)) rfl ?_
  unfold mayS
  simp [Bool.and_assoc]
set_option maxRecDepth 4000 in
set_option maxHeartbeats 1000000 in
theorem right_d (w h : Int) (ts : List TL) : DFun Tryz.prog 15 [shD w h ts] [] (.val (.bool (rightB w h ts))) [] := by
  refine dcalls_go (N := 19) 0 (by kernel_rfl) Tryz.func15 rfl rfl rfl (by simp only [fr0, Nat.zero_add, Nat.reduceAdd]; exact rfl) rfl fun s0 hs0 => ?_
  refine zaf ?_
  refine zai 1 (by simp only [holes, List.cons_append, List.nil_append]; exact rfl) ?_
  refine zad ?_
  refine zaj rfl rfl rfl (op_boxam 0 rfl (ev1 rfl) rfl) (by simp only [upd, zaa, za]; exact rfl) ?_
  refine zab rfl rfl rfl (zac (.inr rfl) (ev1 rfl)) ?_
  refine zae ?_
  refine zaf ?_
  refine zad ?_
  refine zab rfl rfl rfl (op_fa rfl fo24_0 (ev1 rfl)) ?_
  refine zab rfl rfl rfl (op_ldm rfl tb3 (ev1 rfl) rfl rfl) ?_
  refine zab rfl rfl rfl (op_fa rfl fo24_1 (ev1 rfl)) ?_
  refine zab rfl rfl rfl (op_ldm rfl tb3 (ev1 rfl) rfl rfl) ?_
  refine zab rfl rfl rfl (zah [] [] [] rfl (ev1 rfl) (ec (ev1 rfl) (ec (ev1 rfl) en)) rfl rfl (rsizes_d _ _) rfl rfl rfl rfl rfl rfl) ?_
  refine zab rfl rfl rfl (zac (.inl rfl) (ev1 rfl)) ?_
  refine zak (gd_t rfl rfl rfl) rfl rfl rfl (op_fa rfl fo24_2 (ev1 rfl)) ?_
  refine zak (gd_t rfl rfl rfl) rfl rfl rfl (op_ldm rfl tb22 (ev2 rfl) rfl rfl) ?_
  refine zak (gd_t rfl rfl rfl) rfl rfl rfl (op_len rfl sl22 (ev2 rfl)) ?_
  refine zak (gd_t rfl rfl rfl) rfl rfl rfl (op_fa rfl fo24_0 (ev1 rfl)) ?_
  refine zak (gd_t rfl rfl rfl) rfl rfl rfl (op_ldm rfl tb3 (ev2 rfl) rfl rfl) ?_
  refine zak (gd_t rfl rfl rfl) rfl rfl rfl (op_fa rfl fo24_1 (ev1 rfl)) ?_
  refine zak (gd_t rfl rfl rfl) rfl rfl rfl (op_ldm rfl tb3 (ev2 rfl) rfl rfl) ?_
  refine zak (gd_t rfl rfl rfl) rfl rfl rfl (op_mul rfl (ev2 rfl) (ev2 rfl)) ?_
  refine zak (gd_t rfl rfl rfl) rfl rfl rfl (op_eql rfl (ev2 rfl) (ev2 rfl)) ?_
  refine zab rfl rfl rfl (op_and rfl (ev1 rfl) (ev3 rfl id)) ?_
  refine zab rfl rfl rfl (zac (.inr rfl) (ev1 rfl)) ?_
  refine zae ?_
  refine dwp_ret ?_
  refine kend0 (rs1 rfl (rv_t rfl)) rfl ?_
  rw [D.val.injEq, Value.bool.injEq]
  cases hm : mayS w h with
  | false => unfold rightB; rw [hm]; rfl
  | true =>
    have hb := mul_in hm
    rw [IntWalk.i64_in _ (by omega)]
    unfold rightB
    rw [hm, Bool.eq_iff_iff]
    simp
set_option maxRecDepth 4000 in
set_option maxHeartbeats 1000000 in
theorem same_d (w h w2 h2 : Int) (ts us : List TL) (hn : ts.length ≤ 5000) : DFun Tryz.prog 19 [shD w h ts, shD w2 h2 us] [] (.val (.bool (decide (w = w2 ∧ h = h2 ∧ ts = us)))) [] := by
  refine dcalls_go (N := 44) 0 (by kernel_rfl) Tryz.func19 rfl rfl rfl (by simp only [fr0, Nat.zero_add, Nat.reduceAdd]; exact rfl) rfl fun s0 hs0 => ?_
  refine zaf ?_
  refine zai 2 (by simp only [holes, List.cons_append, List.nil_append]; exact rfl) ?_
  refine zad ?_
  refine zaj rfl rfl rfl (op_boxam 0 rfl (ev1 rfl) rfl) (by simp only [upd, zaa, za]; exact rfl) ?_
  refine zaj rfl rfl rfl (op_boxam 1 rfl (ev1 rfl) rfl) (by simp only [upd, zaa, za]; exact rfl) ?_
  refine zab rfl rfl rfl (zac (.inr rfl) (ev1 rfl)) ?_
  refine zae ?_
  refine zaf ?_
  refine zaf ?_
  refine zad ?_
  refine zab rfl rfl rfl (op_fa rfl fo24_0 (ev1 rfl)) ?_
  refine zab rfl rfl rfl (op_ldm rfl tb3 (ev1 rfl) rfl rfl) ?_
  refine zab rfl rfl rfl (op_fa rfl fo24_0 (ev1 rfl)) ?_
  refine zab rfl rfl rfl (op_ldm rfl tb3 (ev1 rfl) rfl rfl) ?_
  refine zab rfl rfl rfl (op_neq rfl (ev1 rfl) (ev1 rfl)) ?_
  refine zab rfl rfl rfl (zac (.inl rfl) (ev1 rfl)) ?_
  refine zak (gd_f rfl rfl rfl) rfl rfl rfl (op_fa rfl fo24_1 (ev1 rfl)) ?_
  refine zak (gd_f rfl rfl rfl) rfl rfl rfl (op_ldm rfl tb3 (ev2 rfl) rfl rfl) ?_
  refine zak (gd_f rfl rfl rfl) rfl rfl rfl (op_fa rfl fo24_1 (ev1 rfl)) ?_
  refine zak (gd_f rfl rfl rfl) rfl rfl rfl (op_ldm rfl tb3 (ev2 rfl) rfl rfl) ?_
  refine zak (gd_f rfl rfl rfl) rfl rfl rfl (op_neq rfl (ev2 rfl) (ev2 rfl)) ?_
  refine zab rfl rfl rfl (op_or rfl (ev1 rfl) (ev3 rfl id)) ?_
  refine zab rfl rfl rfl (zac (.inl rfl) (ev1 rfl)) ?_
  refine zak (gd_f rfl rfl rfl) rfl rfl rfl (op_fa rfl fo24_2 (ev1 rfl)) ?_
  refine zak (gd_f rfl rfl rfl) rfl rfl rfl (op_ldm rfl tb22 (ev2 rfl) rfl rfl) ?_
  refine zak (gd_f rfl rfl rfl) rfl rfl rfl (op_len rfl sl22 (ev2 rfl)) ?_
  refine zak (gd_f rfl rfl rfl) rfl rfl rfl (op_fa rfl fo24_2 (ev1 rfl)) ?_
  refine zak (gd_f rfl rfl rfl) rfl rfl rfl (op_ldm rfl tb22 (ev2 rfl) rfl rfl) ?_
  refine zak (gd_f rfl rfl rfl) rfl rfl rfl (op_len rfl sl22 (ev2 rfl)) ?_
  refine zak (gd_f rfl rfl rfl) rfl rfl rfl (op_neq rfl (ev2 rfl) (ev2 rfl)) ?_
  refine zab rfl rfl rfl (op_or rfl (ev1 rfl) (ev3 rfl id)) ?_
  refine zae ?_
  refine dwp_cond rfl (fun c1 => ?_) (fun c1 => ?_)
  · have hne : ¬ (w = w2 ∧ h = h2 ∧ ts = us) := by
      rintro ⟨rfl, rfl, rfl⟩
      simp at c1
    refine zaf ?_
    refine zad ?_
    refine zab rfl rfl rfl (zac (.inr rfl) (ev1 rfl)) ?_
    refine zae ?_
    refine dwp_ret ?_
    refine kend0 (rs1 rfl (rv_t rfl)) rfl ?_
    rw [decide_eq_false hne]
  · obtain ⟨rfl, rfl, hlen⟩ : w = w2 ∧ h = h2 ∧ ts.length = us.length := by
      simp at c1
      omega
    refine zal ?_
    refine zaf ?_
    refine zaf ?_
    refine zad ?_
    refine zab rfl rfl rfl (op_fa rfl fo24_2 (ev1 rfl)) ?_
    refine zab rfl rfl rfl (op_ldm rfl tb22 (ev1 rfl) rfl rfl) ?_
    refine zab rfl rfl rfl (op_len rfl sl22 (ev1 rfl)) ?_
    refine zab rfl rfl rfl (zac (.inl rfl) (ev1 rfl)) ?_
    refine zae ?_
    refine dwp_block ?_
    refine dwp_loopS ⟨hs0, rfl⟩ (α := Nat) (fun k => [(31, .val (.int .i64 (k : Int)))]) [(3, _), (29, _), (30, _)] (fun k => []) [_, _] (fun k => k ≤ ts.length ∧ ts.take k = us.take k) (fun k => ts.length - k) 0 [0, 1] (by simp) rfl ⟨rfl, rfl, rfl, trivial⟩ ⟨rfl, trivial⟩ ⟨rfl, rfl, trivial⟩ ?_
    intro k hx
    simp only [upd, zaa, za, List.cons_append, List.nil_append]
    obtain ⟨hk, he⟩ := hx
    refine zaf ?_
    refine zad ?_
    refine zab rfl rfl rfl (op_lss rfl (ev1 rfl) (ev1 rfl)) ?_
    refine zae ?_
    refine zaf ?_
    refine dwp_cond rfl (fun c2 => ?_) (fun c2 => ?_)
    · try simp only [decide_eq_true_eq, decide_eq_false_iff_not, beq_iff_eq, bne_iff_ne, beq_eq_false_iff_ne, bne_eq_false_iff_eq, Bool.not_eq_true', Bool.not_eq_false', Bool.and_eq_true, Bool.or_eq_true, Bool.or_eq_false_iff, ne_eq, Decidable.not_not, Int.not_lt, Int.not_le] at c2
      refine zal ?_
      refine zaf ?_
      refine dwp_block ?_
      refine zaf ?_
      refine zai 1 (by simp only [holes, List.cons_append, List.nil_append]; exact rfl) ?_
      refine zad ?_
      refine zab rfl rfl rfl (zac (.inl rfl) (ev1 rfl)) ?_
      refine zab rfl rfl rfl (op_ixsr (j := k) rfl sl22 (ev1 rfl) (ev1 rfl) tc_len (by decide) (by omega) (by omega)) ?_
      refine zab rfl rfl rfl (op_ldwd rfl tb73 (ev1 rfl) (tc_len _)) ?_
      refine zaj rfl rfl rfl (op_alloc 2 rfl zr73 rfl) (by simp only [upd, zaa, za]; exact rfl) ?_
      refine zab rfl rfl rfl (zac (.inr rfl) (ev1 rfl)) ?_
      refine walk_s rfl rfl (op_stwa rfl tb73 (ev1 rfl) (ev1 rfl) rfl (tc_len _) (tc_oc _) ((tc_len _).trans (tc_len _).symm)) (by simp only [upd, zaa, za]; exact rfl) ?_
      refine zae ?_
      refine zaf ?_
      refine dwp_draw [([2], []), ([], []), ([1], []), ([], []), ([], []), ([], []), ([], [])] mixed (by kernel_rfl) ?_
      refine zag rfl rfl (op_ldw rfl tb73 (ev1 rfl) rfl (tc_len _)) ?_
      refine zag rfl rfl (op_fa rfl fo24_2 (ev1 rfl)) ?_
      refine zag rfl rfl (op_ldm rfl tb22 (ev1 rfl) rfl rfl) ?_
      refine zag rfl rfl (zac (.inl rfl) (ev1 rfl)) ?_
      refine zag rfl rfl (op_ixsr (j := k) rfl sl22 (ev1 rfl) (ev1 rfl) tc_len (by decide) (by omega) (by omega)) ?_
      refine zag rfl rfl (op_ldwd rfl tb73 (ev1 rfl) (tc_len _)) ?_
      refine zag rfl rfl (op_ner eq73 rfl gd73 tb73 (ev1 rfl) (ev1 rfl)) ?_
      refine lex_nil ?_
      refine dwp_cond rfl (fun c2 => ?_) (fun c2 => ?_)
      · have c3 : ts[k] ≠ us[k] := by simpa using c2
        refine zaf ?_
        refine zad ?_
        refine zab rfl rfl rfl (zac (.inr rfl) (ev1 rfl)) ?_
        refine zae ?_
        refine dwp_ret ?_
        refine kend0 (rs1 rfl (rv_t rfl)) rfl ?_
        have hne : ¬ (w = w ∧ h = h ∧ ts = us) := by
          rintro ⟨_, _, rfl⟩
          exact c3 rfl
        have hne : ts ≠ us := fun e => hne ⟨rfl, rfl, e⟩
        simp [hne]
      · have c3 : ts[k] = us[k] := by simpa using c2
        refine zal ?_
        refine zad ?_
        refine zab rfl rfl rfl (op_add' rfl (ev1 rfl) (ev1 rfl) (fun _ => IntWalk.i64_in _ (by omega))) ?_
        refine zab rfl rfl rfl (zac (.inl rfl) (ev1 rfl)) ?_
        refine zae ?_
        refine ⟨k + 1, [0, 1], ⟨by omega, by rw [List.take_succ_eq_append_getElem (by omega), List.take_succ_eq_append_getElem (by omega), he, c3]⟩, by simp only []; omega, rfl, ⟨rfl, rfl, rfl, rfl, trivial⟩, ⟨rfl, rfl, trivial⟩⟩
    · try simp only [decide_eq_true_eq, decide_eq_false_iff_not, beq_iff_eq, bne_iff_ne, beq_eq_false_iff_ne, bne_eq_false_iff_eq, Bool.not_eq_true', Bool.not_eq_false', Bool.and_eq_true, Bool.or_eq_true, Bool.or_eq_false_iff, ne_eq, Decidable.not_not, Int.not_lt, Int.not_le] at c2
      refine dwp_exit ?_
      refine zaf ?_
      refine zad ?_
      refine zab rfl rfl rfl (zac (.inr rfl) (ev1 rfl)) ?_
      refine zae ?_
      refine dwp_ret ?_
      refine kend0 (rs1 rfl (rv_t rfl)) rfl ?_
      have e : ts = us := by
        have h := he
        rw [List.take_of_length_le (by omega), List.take_of_length_le (by omega)] at h
        exact h
      simp [e]
set_option maxRecDepth 4000 in
set_option maxHeartbeats 1000000 in
theorem on_d (w h : Int) (ts : List TL) (x y : Int) (hc : CvOk w h ts) : DFun Tryz.prog 91 [shD w h ts, .val (.int .i64 x), .val (.int .i64 y)] [] (.val (.bool (onS w h x y))) [] := by
  have hb := mayS_b hc.may
  refine dcalls_go (N := 27) 0 (by kernel_rfl) Tryz.func91 rfl rfl rfl (by simp only [fr0, Nat.zero_add, Nat.reduceAdd]; exact rfl) rfl fun s0 hs0 => ?_
  refine zaf ?_
  refine zai 1 (by simp only [holes, List.cons_append, List.nil_append]; exact rfl) ?_
  refine zad ?_
  refine zaj rfl rfl rfl (op_boxam 0 rfl (ev1 rfl) rfl) (by simp only [upd, zaa, za]; exact rfl) ?_
  refine zab rfl rfl rfl (zac (.inr rfl) (ev1 rfl)) ?_
  refine zae ?_
  refine zaf ?_
  refine zad ?_
  refine zab rfl rfl rfl (zac (.inl rfl) (ev1 rfl)) ?_
  refine zab rfl rfl rfl (op_geq rfl (ev1 rfl) (ev1 rfl)) ?_
  refine zab rfl rfl rfl (zac (.inl rfl) (ev1 rfl)) ?_
  refine zak (gd_t rfl rfl rfl) rfl rfl rfl (zac (.inl rfl) (ev1 rfl)) ?_
  refine zak (gd_t rfl rfl rfl) rfl rfl rfl (op_fa rfl fo24_0 (ev1 rfl)) ?_
  refine zak (gd_t rfl rfl rfl) rfl rfl rfl (op_ldm rfl tb3 (ev2 rfl) rfl rfl) ?_
  refine zak (gd_t rfl rfl rfl) rfl rfl rfl (op_mul' rfl (ev1 rfl) (ev2 rfl) (fun hp => IntWalk.i64_in _ (by first | omega | (simp at hp; omega)))) ?_
  refine zak (gd_t rfl rfl rfl) rfl rfl rfl (op_lss rfl (ev2 rfl) (ev2 rfl)) ?_
  refine zab rfl rfl rfl (op_and rfl (ev1 rfl) (ev3 rfl id)) ?_
  refine zab rfl rfl rfl (zac (.inl rfl) (ev1 rfl)) ?_
  refine zak (gd_t rfl rfl rfl) rfl rfl rfl (zac (.inl rfl) (ev1 rfl)) ?_
  refine zak (gd_t rfl rfl rfl) rfl rfl rfl (op_geq rfl (ev2 rfl) (ev1 rfl)) ?_
  refine zab rfl rfl rfl (op_and rfl (ev1 rfl) (ev3 rfl id)) ?_
  refine zab rfl rfl rfl (zac (.inl rfl) (ev1 rfl)) ?_
  refine zak (gd_t rfl rfl rfl) rfl rfl rfl (zac (.inl rfl) (ev1 rfl)) ?_
  refine zak (gd_t rfl rfl rfl) rfl rfl rfl (op_fa rfl fo24_1 (ev1 rfl)) ?_
  refine zak (gd_t rfl rfl rfl) rfl rfl rfl (op_ldm rfl tb3 (ev2 rfl) rfl rfl) ?_
  refine zak (gd_t rfl rfl rfl) rfl rfl rfl (op_mul' rfl (ev1 rfl) (ev2 rfl) (fun hp => IntWalk.i64_in _ (by first | omega | (simp at hp; omega)))) ?_
  refine zak (gd_t rfl rfl rfl) rfl rfl rfl (op_lss rfl (ev2 rfl) (ev2 rfl)) ?_
  refine zab rfl rfl rfl (op_and rfl (ev1 rfl) (ev3 rfl id)) ?_
  refine zab rfl rfl rfl (zac (.inr rfl) (ev1 rfl)) ?_
  refine zae ?_
  refine dwp_ret ?_
  refine kend0 (rs1 rfl (rv_t rfl)) rfl ?_
  rw [D.val.injEq, Value.bool.injEq, Bool.eq_iff_iff, onS_iff]
  simp
  omega
end Go.Proofs.YtjgnalfnginjbaaGreatDoor
namespace Go.Proofs.YtjgnalfnginjbaaGreatDoor
set_option maxRecDepth 4000
set_option linter.unusedVariables false
set_option linter.unusedSimpArgs false
open Go.RowKit
theorem fl24 : fdL Tryz.prog 24 = some [(0, 1), (1, 1), (2, 1)] := by kernel_rfl
theorem zr24 : zrC Tryz.prog 24 = some [.int .i64 0, .int .i64 0, .slice none 0 0] := by kernel_rfl
theorem tc_sz (t : TL) : ([Value.agg (tc t).toArray].all fun v => v.cells.size == 256) = true := by
  show ((tc t).toArray.size == 256 && true) = true
  rw [List.size_toArray, tc_len]; rfl
theorem tc_fl (t : TL) : ([Value.agg (tc t).toArray].flatMap fun v => v.cells.toList) = tc t := by rw [List.flatMap_cons]; exact List.append_nil _
theorem tc_oc1 (t : TL) : ([Value.agg (tc t).toArray].flatMap fun v => v.cells.toList).all (·.oneCell') = true := by rw [tc_fl]; exact tc_oc t
theorem tk_add {ts : List TL} {k : Nat} (h : k < ts.length) : (ts.take k).flatMap tc ++ ([Value.agg (tc (ts.getD k zT)).toArray].flatMap fun v => v.cells.toList) = (ts.take (k + 1)).flatMap tc := by
  rw [tc_fl, List.take_succ_eq_append_getElem h, List.flatMap_append, tl_at h]
  congr 1
  exact (List.append_nil _).symm
set_option maxRecDepth 4000 in
set_option maxHeartbeats 1000000 in
theorem show1_d (t : TL) : DFun Tryz.prog 60 [.dpf (tc t)] [] (tD t) [] := by
  refine dcalls_go (N := 6) 0 (by kernel_rfl) Tryz.func60 rfl rfl rfl (by simp only [fr0, Nat.zero_add, Nat.reduceAdd]; exact rfl) rfl fun s0 hs0 => ?_
  refine zaf ?_
  refine zai 1 (by simp only [holes, List.cons_append, List.nil_append]; exact rfl) ?_
  refine zad ?_
  refine zaj rfl rfl rfl (op_alloc 0 rfl zr73 rfl) (by simp only [upd, zaa, za]; exact rfl) ?_
  refine zae ?_
  refine zaf ?_
  refine zad ?_
  refine zab rfl rfl rfl (zac (.inl rfl) (ev1 rfl)) ?_
  refine zab rfl rfl rfl (op_nc rfl (ev1 rfl) (fun s v h => by cases h; exact ⟨_, rfl⟩)) ?_
  refine zab rfl rfl rfl (op_ldwd rfl tb73 (ev1 rfl) (tc_len _)) ?_
  refine walk_s rfl rfl (op_stwa rfl tb73 (ev1 rfl) (ev1 rfl) rfl (tc_len _) (tc_oc _) ((tc_len _).trans (tc_len _).symm)) (by simp only [upd, zaa, za]; exact rfl) ?_
  refine zae ?_
  refine dwp_ret ?_
  refine kend0 (rs1 rfl (rv_w tb73 rfl rfl (tc_len _))) rfl ?_
  rfl
set_option maxRecDepth 4000 in
set_option maxHeartbeats 1000000 in
theorem each2_d (ds : List D) (ts : List TL) (hr : RowOk ds ts) (hn : ts.length ≤ 5000) : DFun Tryz.prog 59 [.slm 1 ds.length ds, .fn (.func 60) [] []] [] (.slf 256 ts.length (ts.flatMap tc)) [] := by
  have hlen := hr.len
  refine dcalls_go (N := 25) 0 (by kernel_rfl) Tryz.func59 rfl rfl rfl (by simp only [fr0, Nat.zero_add, Nat.reduceAdd]; exact rfl) rfl fun s0 hs0 => ?_
  refine dwp_lenm (t := 0) rfl fun hl0 hL0 => ?_
  refine zaf ?_
  refine zad ?_
  refine zab rfl rfl rfl (zac (.inr rfl) (ev1 rfl)) ?_
  refine zae ?_
  refine zaf ?_
  refine zai 1 (by simp only [holes, List.cons_append, List.nil_append]; exact rfl) ?_
  refine zad ?_
  refine zab rfl rfl rfl (zac (.inl rfl) (ev1 rfl)) ?_
  refine zab rfl rfl rfl (op_lenm rfl sl77 (ev1 rfl)) ?_
  refine zaj rfl rfl rfl (op_mk0 0 (ds.length) rfl sl22 zr73 (ev1 rfl) (ev1 rfl) (fun _ => rfl) (fun _ => by omega) rfl (fun _ => ⟨by omega, by omega⟩)) (by simp only [upd, zaa, za]; exact rfl) ?_
  refine zab rfl rfl rfl (zac (.inr rfl) (ev1 rfl)) ?_
  refine zae ?_
  refine zaf ?_
  refine zaf ?_
  refine zad ?_
  refine zab rfl rfl rfl (zac (.inl rfl) (ev1 rfl)) ?_
  refine zab rfl rfl rfl (op_lenm rfl sl77 (ev1 rfl)) ?_
  refine zab rfl rfl rfl (zac (.inl rfl) (ev1 rfl)) ?_
  refine zae ?_
  refine dwp_block ?_
  refine dwp_loopS ⟨hs0, rfl⟩ (α := Nat) (fun k => [(13, .val (.int .i64 (k : Int)))]) [(1, _), (5, _), (11, _), (12, _)] (fun k => [(0, .arr 73 256 (ts.take k).length ((ts.take k).flatMap tc))]) [.hole] (fun k => k ≤ ts.length) (fun k => ts.length - k) 0 [0] (Nat.zero_le _) rfl ⟨rfl, rfl, rfl, rfl, trivial⟩ ⟨rfl, trivial⟩ ⟨rfl, trivial⟩ ?_
  intro k hx
  simp only [upd, zaa, za, List.cons_append, List.nil_append]
  have hk := hx
  have htl : (ts.take k).length = k := by rw [List.length_take]; omega
  refine zaf ?_
  refine zad ?_
  refine zab rfl rfl rfl (op_lss rfl (ev1 rfl) (ev1 rfl)) ?_
  refine zae ?_
  refine zaf ?_
  refine dwp_cond rfl (fun c1 => ?_) (fun c1 => ?_)
  · try simp only [decide_eq_true_eq, decide_eq_false_iff_not, beq_iff_eq, bne_iff_ne, beq_eq_false_iff_ne, bne_eq_false_iff_eq, Bool.not_eq_true', Bool.not_eq_false', Bool.and_eq_true, Bool.or_eq_true, Bool.or_eq_false_iff, ne_eq, Decidable.not_not, Int.not_lt, Int.not_le] at c1
    refine zal ?_
    refine zaf ?_
    refine dwp_block ?_
    refine zaf ?_
    obtain ⟨d, hd, _, hnl, _, hw⟩ := hr.at (q := k) (by omega)
    refine zad ?_
    refine zab rfl rfl rfl (op_ixm (k) rfl sl77 (ev1 rfl) (ev1 rfl) (fun _ => rfl) (hd)) ?_
    refine zab rfl rfl rfl ((op_lddm rfl tb79 (ev1 rfl) rfl).wk (hw)) ?_
    refine zab rfl rfl rfl (zac (.inr rfl) (ev1 rfl)) ?_
    refine zae ?_
    refine zai 2 (by simp only [holes, List.cons_append, List.nil_append]; exact rfl) ?_
    refine zad ?_
    refine zab rfl rfl rfl (zac (.inl rfl) (ev1 rfl)) ?_
    refine zab rfl rfl rfl (zac (.inl rfl) (ev1 rfl)) ?_
    refine zab rfl rfl rfl (zac (.inl rfl) (ev1 rfl)) ?_
    refine zab rfl rfl rfl (zah [] [] [] rfl (ev1 rfl) (ec (ev1 rfl) en) rfl rfl (show1_d _) rfl rfl rfl rfl rfl rfl) ?_
    refine zaj rfl rfl rfl (op_bsa (ps := [(0, .tmp 20)]) 1 rfl sl22 zr73 rfl (vc (ev1 rfl) vn) (tc_sz _) (by decide) (by decide) rfl) (by simp only [upd, zaa, za]; exact rfl) ?_
    refine zaj rfl rfl rfl (op_app (j := 2) rfl sl22 zr73 rfl (ev1 rfl) (ev1 rfl) (src_arr rfl) rfl rfl (fun _ => tc_oc1 _) (fun _ => ⟨by omega, by omega⟩)) (by simp only [upd, zaa, za]; exact rfl) ?_
    refine zab rfl rfl rfl (zac (.inr rfl) (ev1 rfl)) ?_
    refine zae ?_
    refine zad ?_
    refine zab rfl rfl rfl (op_add' rfl (ev1 rfl) (ev1 rfl) (fun _ => IntWalk.i64_in _ (by omega))) ?_
    refine zab rfl rfl rfl (zac (.inl rfl) (ev1 rfl)) ?_
    refine zae ?_
    refine ⟨k + 1, [2], by omega, by simp only []; omega, rfl, ⟨rfl, rfl, rfl, rfl, rfl, trivial⟩, ⟨arr_eq (by simp; omega) (tk_add (by omega)), trivial⟩⟩
  · try simp only [decide_eq_true_eq, decide_eq_false_iff_not, beq_iff_eq, bne_iff_ne, beq_eq_false_iff_ne, bne_eq_false_iff_eq, Bool.not_eq_true', Bool.not_eq_false', Bool.and_eq_true, Bool.or_eq_true, Bool.or_eq_false_iff, ne_eq, Decidable.not_not, Int.not_lt, Int.not_le] at c1
    refine dwp_exit ?_
    refine zaf ?_
    refine dwp_giveA 5 rfl rfl (by simp only [zaa, za]; exact rfl) ?_
    refine zad ?_
    refine zab rfl rfl rfl (zac (.inl rfl) (ev1 rfl)) ?_
    refine zab rfl rfl rfl (zac (.inr rfl) (ev1 rfl)) ?_
    refine zae ?_
    refine dwp_ret ?_
    rw [List.take_of_length_le (by omega)]
    refine kend0 (rs1 rfl (rv_t rfl)) rfl ?_
    rfl
set_option maxRecDepth 4000 in
set_option maxHeartbeats 1000000 in
theorem show_d (w h : Int) (ds : List D) (ts : List TL) (hr : RowOk ds ts) (hc : CvOk w h ts)  : DFun Tryz.prog 20 [cvD w h ds] [] (shD w h ts) [] := by
  have hle := hc.le
  refine dcalls_go (N := 22) 0 (by kernel_rfl) Tryz.func20 rfl rfl rfl (by simp only [fr0, Nat.zero_add, Nat.reduceAdd]; exact rfl) rfl fun s0 hs0 => ?_
  refine zaf ?_
  refine zai 1 (by simp only [holes, List.cons_append, List.nil_append]; exact rfl) ?_
  refine zad ?_
  refine zaj rfl rfl rfl (op_alloc 0 rfl zr24 rfl) (by simp only [upd, zaa, za]; exact rfl) ?_
  refine zae ?_
  refine zaf ?_
  refine zaf ?_
  refine zad ?_
  refine zab rfl rfl rfl (zac (.inl rfl) (ev1 rfl)) ?_
  refine zab rfl rfl rfl (op_pnilm rfl pt33 (ev1 rfl)) ?_
  refine zae ?_
  refine dwp_if_f rfl (rfl) ?_
  refine zal ?_
  refine zaf ?_
  refine dwp_draw [([], []), ([], []), ([], []), ([], []), ([], []), ([], []), ([], []), ([], []), ([], []), ([], []), ([], []), ([], []), ([], []), ([], []), ([], []), ([], []), ([0], [0])] mixed (by kernel_rfl) ?_
  refine zag rfl rfl (zac (.inl rfl) (ev1 rfl)) ?_
  refine zag rfl rfl (op_nc rfl (ev1 rfl) (fun s v h => by cases h; exact ⟨_, rfl⟩)) ?_
  refine zag rfl rfl (op_fadm rfl fo82_0 (ev1 rfl)) ?_
  refine zag rfl rfl (op_fadm rfl fo76_0 (ev1 rfl)) ?_
  refine zag rfl rfl (op_lddm rfl tb3 (ev1 rfl) rfl) ?_
  refine zag rfl rfl (zac (.inl rfl) (ev1 rfl)) ?_
  refine zag rfl rfl (op_nc rfl (ev1 rfl) (fun s v h => by cases h; exact ⟨_, rfl⟩)) ?_
  refine zag rfl rfl (op_fadm rfl fo82_0 (ev1 rfl)) ?_
  refine zag rfl rfl (op_fadm rfl fo76_1 (ev1 rfl)) ?_
  refine zag rfl rfl (op_lddm rfl tb3 (ev1 rfl) rfl) ?_
  refine zag rfl rfl (zac (.inl rfl) (ev1 rfl)) ?_
  refine zag rfl rfl (op_nc rfl (ev1 rfl) (fun s v h => by cases h; exact ⟨_, rfl⟩)) ?_
  refine zag rfl rfl (op_fadm rfl fo82_1 (ev1 rfl)) ?_
  refine zag rfl rfl (op_lddm rfl tb77 (ev1 rfl) rfl) ?_
  refine zag rfl rfl (zah [] [] [] rfl (ev1 rfl) (ec (ev1 rfl) (ec (ev1 rfl) en)) rfl rfl (each2_d ds ts hr (by omega)) rfl rfl rfl rfl rfl rfl) ?_
  refine zag rfl rfl (op_bldD (ps := [(0, .tmp 10), (1, .tmp 15), (2, .tmp 20)]) rfl fl24 zr24 (ec (ev1 rfl) (ec (ev1 rfl) (ec (ev1 rfl) en))) rfl rfl rfl) ?_
  refine lex_s rfl rfl (op_stam rfl tb24 (ev1 rfl) (ev1 rfl) rfl rfl rfl rfl) rfl (by simp only [upd, zaa, za]; exact rfl) ?_
  refine lex_nil ?_
  refine dwp_ret ?_
  refine kend0 (rs1 rfl (rv_mw tb24 rfl rfl rfl)) rfl ?_
  rfl
end Go.Proofs.YtjgnalfnginjbaaGreatDoor
namespace Go.Proofs.YtjgnalfnginjbaaGreatDoor
set_option maxRecDepth 4000
set_option linter.unusedVariables false
set_option linter.unusedSimpArgs false
open Go.RowKit
set_option maxRecDepth 4000 in
set_option maxHeartbeats 1000000 in
theorem put_d (w h : Int) (ts : List TL) (d : Dt) (hc : CvOk w h ts) : DFun Tryz.prog 58 [shD w h ts, .val (.agg (dtC d).toArray)] [] (shD w h (putC w h ts d)) [] := by
  refine dcalls_go (N := 43) 0 (by kernel_rfl) Tryz.func58 rfl rfl rfl (by simp only [fr0, Nat.zero_add, Nat.reduceAdd]; exact rfl) rfl fun s0 hs0 => ?_
  refine zaf ?_
  refine zai 3 (by simp only [holes, List.cons_append, List.nil_append]; exact rfl) ?_
  refine zad ?_
  refine zaj rfl rfl rfl (op_boxam 0 rfl (ev1 rfl) rfl) (by simp only [upd, zaa, za]; exact rfl) ?_
  refine zaj rfl rfl rfl (op_boxa 1 rfl (ev1 rfl) rfl) (by simp only [upd, zaa, za]; exact rfl) ?_
  refine zaj rfl rfl rfl (op_alloc 2 rfl zr24 rfl) (by simp only [upd, zaa, za]; exact rfl) ?_
  refine zae ?_
  refine zaf ?_
  refine zaf ?_
  refine zad ?_
  refine zab rfl rfl rfl (op_ldmw rfl tb24 (ev1 rfl) rfl rfl) ?_
  refine zab rfl rfl rfl (op_fa rfl fo96_0 (ev1 rfl)) ?_
  refine zab rfl rfl rfl (op_ldo rfl tb3 (ev1 rfl) rfl rfl) ?_
  refine zab rfl rfl rfl (op_fa rfl fo96_1 (ev1 rfl)) ?_
  refine zab rfl rfl rfl (op_ldo rfl tb3 (ev1 rfl) rfl rfl) ?_
  refine zab rfl rfl rfl (zah [] [] [] rfl (ev1 rfl) (ec (ev1 rfl) (ec (ev1 rfl) (ec (ev1 rfl) en))) rfl rfl (on_d w h ts d.x d.y hc) rfl rfl rfl rfl rfl rfl) ?_
  refine zab rfl rfl rfl (op_not rfl (ev1 rfl)) ?_
  refine zae ?_
  refine dwp_cond rfl (fun c1 => ?_) (fun c1 => ?_)
  · have ho : onS w h d.x d.y = false := bn_t c1
    refine zaf ?_
    refine zad ?_
    refine zab rfl rfl rfl (op_ldmw rfl tb24 (ev1 rfl) rfl rfl) ?_
    refine walk_s rfl rfl (op_stam rfl tb24 (ev1 rfl) (ev1 rfl) rfl rfl rfl rfl) (by simp only [upd, zaa, za]; exact rfl) ?_
    refine zae ?_
    refine dwp_ret ?_
    have e : putC w h ts d = ts := by rw [putC, if_neg (by rw [ho]; decide)]
    rw [e]
    refine kend0 (rs1 rfl (rv_mw tb24 rfl rfl rfl)) rfl ?_
    rfl
  · have ho : onS w h d.x d.y = true := bn_f c1
    have hb := mayS_b hc.may
    have hxy := onS_iff.1 ho
    have hpl := on_pl hc.may ho
    have hpt := hc.pl ho
    have hq1 : 0 ≤ d.y / 8 ∧ d.y / 8 ≤ 3 := by omega
    have hq2 : 0 ≤ d.y / 8 * w := Int.mul_nonneg hq1.1 (by omega)
    have hq3 : d.y / 8 * w ≤ 3 * 4 := Int.mul_le_mul hq1.2 hb.1.2 (by omega) (by omega)
    have hle := hc.le
    refine zal ?_
    refine zaf ?_
    refine zai 2 (by simp only [holes, List.cons_append, List.nil_append]; exact rfl) ?_
    refine zad ?_
    refine zaj rfl rfl rfl (op_bsa (ps := []) 3 rfl sl22 zr73 rfl vn rfl (by decide) (by decide) rfl) (by simp only [upd, zaa, za]; exact rfl) ?_
    refine zab rfl rfl rfl (op_fa rfl fo24_2 (ev1 rfl)) ?_
    refine zab rfl rfl rfl (op_ldm rfl tb22 (ev1 rfl) rfl rfl) ?_
    refine zaj rfl rfl rfl (op_app (j := 4) rfl sl22 zr73 rfl (ev1 rfl) (ev1 rfl) src_slf rfl rfl (fun _ => flat_oc (fun t => flat_oc (fun _ => rfl) t.l) ts) (fun _ => ⟨by omega, by omega⟩)) (by simp only [upd, zaa, za]; exact rfl) ?_
    refine zab rfl rfl rfl (op_fa rfl fo24_2 (ev1 rfl)) ?_
    refine walk_s rfl rfl (op_stm rfl tb22 (ev1 rfl) (ev1 rfl) (fun s v h => by cases h <;> exact ⟨rfl, rfl⟩) rfl (by first | decide | exact Nat.le_of_ble_eq_true rfl | simp)) (by simp only [upd, zaa, za]; exact rfl) ?_
    refine zae ?_
    refine zaf ?_
    refine dwp_draw [([], []), ([0], []), ([], []), ([1], []), ([], []), ([], []), ([0], []), ([], []), ([], []), ([1], []), ([], []), ([], []), ([], []), ([1], []), ([], []), ([], []), ([], []), ([1], []), ([], []), ([], []), ([], []), ([1], []), ([4], []), ([], []), ([4], [4])] mixed (by kernel_rfl) ?_
    refine zag rfl rfl (op_fa rfl fo24_2 (ev1 rfl)) ?_
    refine zag rfl rfl (op_ldm rfl tb22 (ev1 rfl) rfl rfl) ?_
    refine zag rfl rfl (op_fa rfl fo96_1 (ev1 rfl)) ?_
    refine zag rfl rfl (op_ldo rfl tb3 (ev1 rfl) rfl rfl) ?_
    refine zag rfl rfl (op_quo' rfl (ev1 rfl) (ev1 rfl) (fun _ => ⟨by omega, by omega, IntWalk.i64_in _ (by omega)⟩)) ?_
    refine zag rfl rfl (op_fa rfl fo24_0 (ev1 rfl)) ?_
    refine zag rfl rfl (op_ldm rfl tb3 (ev1 rfl) rfl rfl) ?_
    refine zag rfl rfl (op_mul' rfl (ev1 rfl) (ev1 rfl) (fun _ => IntWalk.i64_in _ (by omega))) ?_
    refine zag rfl rfl (op_fa rfl fo96_0 (ev1 rfl)) ?_
    refine zag rfl rfl (op_ldo rfl tb3 (ev1 rfl) rfl rfl) ?_
    refine zag rfl rfl (op_quo' rfl (ev1 rfl) (ev1 rfl) (fun _ => ⟨by omega, by omega, IntWalk.i64_in _ (by omega)⟩)) ?_
    refine zag rfl rfl (op_add' rfl (ev1 rfl) (ev1 rfl) (fun _ => IntWalk.i64_in _ (by omega))) ?_
    refine zag rfl rfl (op_fa rfl fo96_1 (ev1 rfl)) ?_
    refine zag rfl rfl (op_ldo rfl tb3 (ev1 rfl) rfl rfl) ?_
    refine zag rfl rfl (op_rem' rfl (ev1 rfl) (ev1 rfl) (fun _ => ⟨by omega, by omega⟩)) ?_
    refine zag rfl rfl (op_mul' rfl (ev1 rfl) (ev1 rfl) (fun _ => IntWalk.i64_in _ (by omega))) ?_
    refine zag rfl rfl (op_fa rfl fo96_0 (ev1 rfl)) ?_
    refine zag rfl rfl (op_ldo rfl tb3 (ev1 rfl) rfl rfl) ?_
    refine zag rfl rfl (op_rem' rfl (ev1 rfl) (ev1 rfl) (fun _ => ⟨by omega, by omega⟩)) ?_
    refine zag rfl rfl (op_add' rfl (ev1 rfl) (ev1 rfl) (fun _ => IntWalk.i64_in _ (by omega))) ?_
    refine zag rfl rfl (op_fa rfl fo96_2 (ev1 rfl)) ?_
    refine zag rfl rfl (op_ldr rfl tb27 (ev1 rfl) rfl rfl rfl) ?_
    refine zag rfl rfl (op_ixar (j := plN w d.x d.y) rfl sl22 (ev1 rfl) (ev1 rfl) rfl (fun _ => hpl.1) (fun _ => by omega)) ?_
    refine zag rfl rfl (op_ixal rfl ar73 (ev1 rfl) (ev1 rfl) (fun _ => by omega)) ?_
    refine lex_s rfl rfl (op_sta rfl tb27 (ev1 rfl) (ev1 rfl) rfl rfl rfl rfl (by exact fit_tile hpt hpl.2.2.1 hpl.2.2.2) (by exact setL_tile2 hpt hpl.2.2.1 hpl.2.2.2)) rfl (by simp only [upd, zaa, za]; exact rfl) ?_
    refine lex_nil ?_
    refine zaf ?_
    refine zad ?_
    refine zab rfl rfl rfl (op_ldmw rfl tb24 (ev1 rfl) rfl rfl) ?_
    refine walk_s rfl rfl (op_stam rfl tb24 (ev1 rfl) (ev1 rfl) rfl rfl rfl rfl) (by simp only [upd, zaa, za]; exact rfl) ?_
    refine zae ?_
    refine dwp_ret ?_
    have e : putC w h ts d = ts.set (plN w d.x d.y) ((ts.getD (plN w d.x d.y) zT).set (pxN d.x d.y) d.c) := by rw [putC, if_pos ho]
    rw [e, shD, List.length_set]
    refine kend0 (rs1 rfl (rv_mw tb24 rfl rfl rfl)) rfl ?_
    rw [Nat.zero_add]
end Go.Proofs.YtjgnalfnginjbaaGreatDoor
namespace Go.Proofs.YtjgnalfnginjbaaGreatDoor
set_option maxRecDepth 4000
set_option linter.unusedVariables false
set_option linter.unusedSimpArgs false
open Go.RowKit
theorem far_le {n k w : Nat} (hn : 0 < n) (hk : k ≤ n) : farN n k w ≤ w := by
  unfold farN
  refine Nat.le_of_lt_succ ((Nat.div_lt_iff_lt_mul (by omega)).2 ?_)
  have h1 : 2 * k * w ≤ 2 * n * w := Nat.mul_le_mul_right w (Nat.mul_le_mul_left 2 hk)
  have h2 : w.succ * (2 * n) = 2 * n * w + 2 * n := by rw [Nat.succ_mul, Nat.mul_comm w]
  omega
theorem along_in {n k : Nat} {a b : Int} (hk : k ≤ n) (hw : wayN a b ≤ n) : min a b ≤ alongZ n k a b ∧ alongZ n k a b ≤ max a b := by
  have e := wayN_eq a b
  rcases Nat.eq_zero_or_pos n with h | h
  · subst h
    have : k = 0 := by omega
    subst this
    unfold alongZ
    rw [far_zero]
    split <;> omega
  · have := far_le (w := wayN a b) h hk
    unfold alongZ
    split <;> omega
theorem way_gr (a b : P2) : wayN a.x b.x ≤ gr2 a b ∧ wayN a.y b.y ≤ gr2 a b := by unfold gr2; omega
end Go.Proofs.YtjgnalfnginjbaaGreatDoor
namespace Go.Proofs.YtjgnalfnginjbaaGreatDoor
set_option maxRecDepth 4000
set_option linter.unusedVariables false
set_option linter.unusedSimpArgs false
open Go.RowKit
set_option maxRecDepth 4000 in
set_option maxHeartbeats 1000000 in
theorem dline1_caught (e n : Int) : DDef Tryz.prog 67 [.loc 0 0] [.flat 34 [.int .i64 e]] (some (.ifc 122 (.val (.agg #[.int .i64 n])))) none [.flat 34 [.int .i64 n]] := by
  refine ddef_go1 (dr := .tup []) (t := 1) (N := 3) 1 (by kernel_rfl) Tryz.func67 rfl rfl rfl (by simp only [fr0, Nat.zero_add, Nat.reduceAdd]; exact rfl) rfl rfl rfl rfl rfl fun s0 hs0 => ?_
  refine zab rfl rfl rfl (zah [] [] [] rfl (ev1 rfl) (ec (ev1 rfl) en) rfl rfl (dtold_w n) rfl rfl rfl rfl rfl rfl) ?_
  refine walk_s rfl rfl (op_stwi rfl tb34 (ev1 rfl) (ev1 rfl) rfl) (by simp only [upd, zaa, za]; exact rfl) ?_
  refine zae ?_
  refine kend [0] (res_none rfl) rfl rfl ?_ ⟨rfl, trivial⟩
  rfl
set_option maxRecDepth 4000 in
set_option maxHeartbeats 1000000 in
theorem mustP_p (l : List P2) (n : Int) (hn : n ≠ 0) : DPan Tryz.prog 68 [.slf 2 l.length (l.flatMap p2), .val (.int .i64 n)] [] (.ifc 122 (.val (.agg #[.int .i64 n]))) [] := by
  refine dcalls_go (N := 11) 0 (by kernel_rfl) Tryz.func68 rfl rfl rfl (by simp only [fr0, Nat.zero_add, Nat.reduceAdd]; exact rfl) rfl fun s0 hs0 => ?_
  refine dwp_len (t := 0) rfl fun hl0 hL0 => ?_
  refine zaf ?_
  refine zad ?_
  refine zab rfl rfl rfl (zac (.inr rfl) (ev1 rfl)) ?_
  refine zae ?_
  refine zaf ?_
  refine zaf ?_
  refine zad ?_
  refine zab rfl rfl rfl (zac (.inl rfl) (ev1 rfl)) ?_
  refine zab rfl rfl rfl (op_neq rfl (ev1 rfl) (ev1 rfl)) ?_
  refine zae ?_
  refine dwp_if_t rfl (by simpa using hn) ?_
  refine zad ?_
  refine zab rfl rfl rfl (zac (.inl rfl) (ev1 rfl)) ?_
  refine zab rfl rfl rfl (op_build (ps := [(0, .tmp 7)]) rfl fl122 zr122 (vc (ev1 rfl) vn) rfl rfl) ?_
  refine zab rfl rfl rfl (op_mi rfl ni122 (ev1 rfl)) ?_
  refine walk_p rfl (op_pan rfl (ev1 rfl)) rfl ?_
  refine kpan0 rfl ?_
  rfl
end Go.Proofs.YtjgnalfnginjbaaGreatDoor
namespace Go.Proofs.YtjgnalfnginjbaaGreatDoor
set_option maxRecDepth 4000
set_option linter.unusedVariables false
set_option linter.unusedSimpArgs false
open Go.RowKit
theorem lineL_at {a b : P2} {i : Nat} (h : i < (lineL a b).length) : (lineL a b)[i] = lineP a b i := by simp only [lineL, List.getElem_map, List.getElem_range]
theorem line_box {a b : P2} {k : Nat} (hk : k ≤ gr2 a b) : (min a.x b.x ≤ (lineP a b k).x ∧ (lineP a b k).x ≤ max a.x b.x) ∧ min a.y b.y ≤ (lineP a b k).y ∧ (lineP a b k).y ≤ max a.y b.y :=
  ⟨along_in hk (way_gr a b).1, along_in hk (way_gr a b).2⟩
theorem lineL_drw {a b : P2} (ha : drwB a = true) (hb : drwB b = true) : drwL (lineL a b) = true := List.all_eq_true.2 fun p hp => by
  obtain ⟨i, hi, rfl⟩ := List.getElem_of_mem hp
  have hl := lineL_len a b
  rw [lineL_at hi]
  have := line_box (a := a) (b := b) (k := i) (by omega)
  have hA := drwB_iff.1 ha
  have hB := drwB_iff.1 hb
  exact drwB_iff.2 ⟨⟨by omega, by omega⟩, by omega, by omega⟩
set_option maxRecDepth 4000 in
set_option maxHeartbeats 1000000 in
theorem dline_n1 (w h : Int) (ds : List D) (ts : List TL) (hr : RowOk ds ts) (hc : CvOk w h ts) (c : C4) (n : Int) (r : Bool) (a b : P2) (hd : (drwB a && drwB b) = false) : DFun Tryz.prog 29 [cvD w h ds, .val (.agg #[.int .u8 c.r, .int .u8 c.g, .int .u8 c.b, .int .u8 c.a, .int .i64 n, .bool r]), .val (.agg #[.int .i64 a.x, .int .i64 a.y]), .val (.agg #[.int .i64 b.x, .int .i64 b.y])] [] (.tup [.val (.pointer none), .val (.int .i64 2)]) [] := by
  obtain ⟨g1, g2⟩ := lin_no hd
  refine dcalls_body (N := 35) 0 (by kernel_rfl) Tryz.func29 rfl rfl rfl (by simp only [fr0, Nat.zero_add, Nat.reduceAdd]; exact rfl) rfl fun s0 hs0 => ?_
  refine dbody_seq rfl hs0 ?_
  refine zai 4 (by simp only [holes, List.cons_append, List.nil_append]; exact rfl) ?_
  refine zad ?_
  refine zaj rfl rfl rfl (op_boxa 0 rfl (ev1 rfl) rfl) (by simp only [upd, zaa, za]; exact rfl) ?_
  refine zaj rfl rfl rfl (op_boxa 1 rfl (ev1 rfl) rfl) (by simp only [upd, zaa, za]; exact rfl) ?_
  refine zaj rfl rfl rfl (op_boxa 2 rfl (ev1 rfl) rfl) (by simp only [upd, zaa, za]; exact rfl) ?_
  refine zab rfl rfl rfl (zac (.inr rfl) (ev1 rfl)) ?_
  refine zaj rfl rfl rfl (op_alloc 3 rfl zr34 rfl) (by simp only [upd, zaa, za]; exact rfl) ?_
  refine zae ?_
  refine dbody_defer (l0 := [_]) rfl rfl rfl rfl rfl hs0 ?_
  refine zab rfl rfl rfl (op_mkf rfl en (ec (ev1 rfl) en)) ?_
  refine zae ⟨_, _, _, 4, ev1 rfl, Nat.le_trans hs0 (by decide), rfl, ?_⟩
  have hs1 : s0.M.length ≤ 4 := Nat.le_trans hs0 (by decide)
  refine dbody_end rfl hs0 ?_
  refine zaf ?_
  refine zai 1 (by simp only [holes, List.cons_append, List.nil_append]; exact rfl) ?_
  refine zad ?_
  refine zab rfl rfl rfl (zac (.inl rfl) (ev1 rfl)) ?_
  refine zab rfl rfl rfl (zah [] [] [] rfl (ev1 rfl) (ec (ev1 rfl) en) rfl rfl (easel_d w h ds) rfl rfl rfl rfl rfl rfl) ?_
  refine zaj rfl rfl rfl (op_alloc 4 rfl zr85 rfl) (by simp only [upd, zaa, za]; exact rfl) ?_
  refine walk_s rfl rfl (op_stam2 rfl tb85 (ev1 rfl) (ev1 rfl) rfl rfl rfl rfl) (by simp only [upd, zaa, za]; exact rfl) ?_
  refine zae ?_
  refine zaf ?_
  refine zad ?_
  refine zab rfl rfl rfl (op_ldw rfl tb51 (ev1 rfl) rfl rfl) ?_
  refine zab rfl rfl rfl (op_ldw rfl tb51 (ev1 rfl) rfl rfl) ?_
  refine zab rfl rfl rfl (zah [] [] [] rfl (ev1 rfl) (ec (ev1 rfl) (ec (ev1 rfl) en)) rfl rfl (line_d a b) rfl rfl rfl rfl rfl rfl) ?_
  refine zab rfl rfl rfl (op_ext rfl (ev1 rfl) rfl) ?_
  refine zab rfl rfl rfl ((op_ext rfl (ev1 rfl) rfl).cast (d' := .val (.int .i64 2)) (by rw [g2])) ?_
  refine walk_p rfl (dop_callP [] [] [] rfl (ev1 rfl) (ec (ev1 rfl) (ec (ev1 rfl) en)) rfl rfl (mustP_p _ 2 (by decide)) rfl rfl rfl rfl rfl rfl) rfl ?_
  refine kdef (dturn_caught [3] [] rfl rfl rfl (dline1_caught _ _) rfl rfl rfl rfl rfl) ?_
  refine kend0 (rs2 rfl (rv_t rfl) (rv_1 tb34 rfl rfl rfl)) rfl ?_
  rfl
set_option maxRecDepth 4000 in
set_option maxHeartbeats 1000000 in
theorem dline_n2 (w h : Int) (ds : List D) (ts : List TL) (hr : RowOk ds ts) (hc : CvOk w h ts) (c : C4) (n : Int) (r : Bool) (a b : P2) (ha : drwB a = true) (hb : drwB b = true) (hs : swB n (lineL a b) = false) : DFun Tryz.prog 29 [cvD w h ds, .val (.agg #[.int .u8 c.r, .int .u8 c.g, .int .u8 c.b, .int .u8 c.a, .int .i64 n, .bool r]), .val (.agg #[.int .i64 a.x, .int .i64 a.y]), .val (.agg #[.int .i64 b.x, .int .i64 b.y])] [] (.tup [.val (.pointer none), .val (.int .i64 2)]) [] := by
  have hd : (drwB a && drwB b) = true := by rw [ha, hb]; rfl
  obtain ⟨g1, g2⟩ := lin_ok hd
  have hll := lineL_le ha hb
  have he := (sw_no (r := r) hs).2
  refine dcalls_body (N := 35) 0 (by kernel_rfl) Tryz.func29 rfl rfl rfl (by simp only [fr0, Nat.zero_add, Nat.reduceAdd]; exact rfl) rfl fun s0 hs0 => ?_
  refine dbody_seq rfl hs0 ?_
  refine zai 4 (by simp only [holes, List.cons_append, List.nil_append]; exact rfl) ?_
  refine zad ?_
  refine zaj rfl rfl rfl (op_boxa 0 rfl (ev1 rfl) rfl) (by simp only [upd, zaa, za]; exact rfl) ?_
  refine zaj rfl rfl rfl (op_boxa 1 rfl (ev1 rfl) rfl) (by simp only [upd, zaa, za]; exact rfl) ?_
  refine zaj rfl rfl rfl (op_boxa 2 rfl (ev1 rfl) rfl) (by simp only [upd, zaa, za]; exact rfl) ?_
  refine zab rfl rfl rfl (zac (.inr rfl) (ev1 rfl)) ?_
  refine zaj rfl rfl rfl (op_alloc 3 rfl zr34 rfl) (by simp only [upd, zaa, za]; exact rfl) ?_
  refine zae ?_
  refine dbody_defer (l0 := [_]) rfl rfl rfl rfl rfl hs0 ?_
  refine zab rfl rfl rfl (op_mkf rfl en (ec (ev1 rfl) en)) ?_
  refine zae ⟨_, _, _, 4, ev1 rfl, Nat.le_trans hs0 (by decide), rfl, ?_⟩
  have hs1 : s0.M.length ≤ 4 := Nat.le_trans hs0 (by decide)
  refine dbody_end rfl hs0 ?_
  refine zaf ?_
  refine zai 1 (by simp only [holes, List.cons_append, List.nil_append]; exact rfl) ?_
  refine zad ?_
  refine zab rfl rfl rfl (zac (.inl rfl) (ev1 rfl)) ?_
  refine zab rfl rfl rfl (zah [] [] [] rfl (ev1 rfl) (ec (ev1 rfl) en) rfl rfl (easel_d w h ds) rfl rfl rfl rfl rfl rfl) ?_
  refine zaj rfl rfl rfl (op_alloc 4 rfl zr85 rfl) (by simp only [upd, zaa, za]; exact rfl) ?_
  refine walk_s rfl rfl (op_stam2 rfl tb85 (ev1 rfl) (ev1 rfl) rfl rfl rfl rfl) (by simp only [upd, zaa, za]; exact rfl) ?_
  refine zae ?_
  refine zaf ?_
  refine zad ?_
  refine zab rfl rfl rfl (op_ldw rfl tb51 (ev1 rfl) rfl rfl) ?_
  refine zab rfl rfl rfl (op_ldw rfl tb51 (ev1 rfl) rfl rfl) ?_
  refine zab rfl rfl rfl (zah [] [] [] rfl (ev1 rfl) (ec (ev1 rfl) (ec (ev1 rfl) en)) rfl rfl (line_d a b) rfl rfl rfl rfl rfl rfl) ?_
  refine zab rfl rfl rfl ((op_ext rfl (ev1 rfl) rfl).cast (d' := .slf 2 (lineL a b).length ((lineL a b).flatMap p2)) (by rw [g1])) ?_
  refine zab rfl rfl rfl ((op_ext rfl (ev1 rfl) rfl).cast (d' := .val (.int .i64 0)) (by rw [g2])) ?_
  refine zab rfl rfl rfl (zah [] [] [] rfl (ev1 rfl) (ec (ev1 rfl) (ec (ev1 rfl) en)) rfl rfl (mustP_d (lineL a b)) rfl rfl rfl rfl rfl rfl) ?_
  refine zab rfl rfl rfl (zac (.inr rfl) (ev1 rfl)) ?_
  refine zae ?_
  refine zaf ?_
  refine dwp_drawR 9 12 [([4], []), ([], []), ([], []), ([0], []), ([], []), ([0], []), ([], []), ([], []), ([], []), ([], []), ([], []), ([0], [])] mixed (by kernel_rfl) rfl rfl rfl ?_
  refine zag rfl rfl (op_ldmw rfl tb85 (ev1 rfl) rfl rfl) ?_
  refine zag rfl rfl (zac (.inl rfl) (ev1 rfl)) ?_
  refine zag rfl rfl (op_fa rfl fo47_1 (ev1 rfl)) ?_
  refine zag rfl rfl (op_ldo rfl tb3 (ev1 rfl) rfl rfl) ?_
  refine zag rfl rfl (op_fa rfl fo47_2 (ev1 rfl)) ?_
  refine zag rfl rfl (op_ldo rfl tb4 (ev1 rfl) rfl rfl) ?_
  refine zag rfl rfl (zah [] [] [] rfl (ev1 rfl) (ec (ev1 rfl) (ec (ev1 rfl) (ec (ev1 rfl) en))) rfl rfl (sweep_d (lineL a b) n r (by omega)) rfl rfl rfl rfl rfl rfl) ?_
  refine zag rfl rfl (op_ext rfl (ev1 rfl) rfl) ?_
  refine zag rfl rfl ((op_ext rfl (ev1 rfl) rfl).cast (d' := .val (.int .i64 2)) (by rw [he])) ?_
  refine lex_s rfl rfl nop_d rfl rfl ?_
  refine zag rfl rfl (op_fa rfl fo47_0 (ev1 rfl)) ?_
  refine zag rfl rfl (op_ldr rfl tb27 (ev1 rfl) rfl rfl rfl) ?_
  refine lex_nil ⟨_, _, _, rfl, dop_callP [] [] [] rfl (ev1 rfl) (ec (ev1 rfl) (ec (ev1 rfl) en)) rfl rfl (mustS_p _ 2 (by decide)) rfl rfl rfl rfl rfl rfl, ?_⟩
  refine kdef (dturn_caught [3] [] rfl rfl rfl (dline1_caught _ _) rfl rfl rfl rfl rfl) ?_
  refine kend0 (rs2 rfl (rv_t rfl) (rv_1 tb34 rfl rfl rfl)) rfl ?_
  rfl
end Go.Proofs.YtjgnalfnginjbaaGreatDoor
namespace Go.Proofs.YtjgnalfnginjbaaGreatDoor
set_option maxRecDepth 4000
set_option linter.unusedVariables false
set_option linter.unusedSimpArgs false
open Go.RowKit
theorem puts_one {w h : Int} {ts : List TL} (l : List Dt) (d : Dt) : putsC w h ts (l ++ [d]) = putC w h (putsC w h ts l) d := by unfold putsC; rw [List.foldl_append]; rfl
theorem tkmin {α : Type} (l : List α) (n : Nat) : l.take (min l.length n) = l.take n := by
  rcases Nat.le_total l.length n with h | h
  · rw [Nat.min_eq_left h, List.take_length, List.take_of_length_le h]
  · rw [Nat.min_eq_right h]
set_option maxRecDepth 4000 in
set_option maxHeartbeats 1000000 in
theorem own_d (w h : Int) (ts : List TL) : DFun Tryz.prog 10 [shD w h ts] [] (shD w h (ts.take 17)) [] := by
  refine dcalls_go (N := 13) 0 (by kernel_rfl) Tryz.func10 rfl rfl rfl (by simp only [fr0, Nat.zero_add, Nat.reduceAdd]; exact rfl) rfl fun s0 hs0 => ?_
  refine zaf ?_
  refine zai 2 (by simp only [holes, List.cons_append, List.nil_append]; exact rfl) ?_
  refine zad ?_
  refine zaj rfl rfl rfl (op_boxam 0 rfl (ev1 rfl) rfl) (by simp only [upd, zaa, za]; exact rfl) ?_
  refine zaj rfl rfl rfl (op_alloc 1 rfl zr24 rfl) (by simp only [upd, zaa, za]; exact rfl) ?_
  refine zae ?_
  refine zaf ?_
  refine zad ?_
  refine zab rfl rfl rfl (op_fa rfl fo24_2 (ev1 rfl)) ?_
  refine zab rfl rfl rfl (op_ldm rfl tb22 (ev1 rfl) rfl rfl) ?_
  refine zab rfl rfl rfl (op_fa rfl fo24_2 (ev1 rfl)) ?_
  refine zab rfl rfl rfl (op_ldm rfl tb22 (ev1 rfl) rfl rfl) ?_
  refine zab rfl rfl rfl (op_len rfl sl22 (ev1 rfl)) ?_
  refine zab rfl rfl rfl (op_min rfl (ev1 rfl) (ev1 rfl)) ?_
  refine zab rfl rfl rfl (op_sltk (j := min ts.length 17) rfl sl22 (ev1 rfl) (bd_some (ev1 rfl)) (fun _ => by omega) (fun _ => by omega) tc_len) ?_
  refine zab rfl rfl rfl (zah [] [] [] rfl (ev1 rfl) (ec (ev1 rfl) en) rfl rfl (cloneT_f _ (by rw [List.length_take]; omega)) rfl rfl rfl rfl rfl rfl) ?_
  refine zab rfl rfl rfl (op_fa rfl fo24_2 (ev1 rfl)) ?_
  refine walk_s rfl rfl (op_stm rfl tb22 (ev1 rfl) (ev1 rfl) (fun s v h => by cases h <;> exact ⟨rfl, rfl⟩) rfl (by first | decide | exact Nat.le_of_ble_eq_true rfl | simp)) (by simp only [upd, zaa, za]; exact rfl) ?_
  refine zae ?_
  refine zaf ?_
  refine zad ?_
  refine zab rfl rfl rfl (op_ldmw rfl tb24 (ev1 rfl) rfl rfl) ?_
  refine walk_s rfl rfl (op_stam rfl tb24 (ev1 rfl) (ev1 rfl) rfl rfl rfl rfl) (by simp only [upd, zaa, za]; exact rfl) ?_
  refine zae ?_
  refine dwp_ret ?_
  refine kend0 (rs1 rfl (rv_mw tb24 rfl rfl rfl)) rfl ?_
  rw [tkmin]
end Go.Proofs.YtjgnalfnginjbaaGreatDoor
namespace Go.Proofs.YtjgnalfnginjbaaGreatDoor
set_option maxRecDepth 4000
set_option linter.unusedVariables false
set_option linter.unusedSimpArgs false
open Go.RowKit
set_option maxRecDepth 4000 in
set_option maxHeartbeats 1000000 in
theorem says_e (w h : Int) (ts : List TL) (n : Int) (hn : n ≠ 0) : DFun Tryz.prog 17 [.val (.pointer none), .val (.int .i64 n), shD w h ts, .val (.int .i64 n)] [] (.val (.bool true)) [] := by
  refine dcalls_go (N := 30) 0 (by kernel_rfl) Tryz.func17 rfl rfl rfl (by simp only [fr0, Nat.zero_add, Nat.reduceAdd]; exact rfl) rfl fun s0 hs0 => ?_
  refine zaf ?_
  refine zai 1 (by simp only [holes, List.cons_append, List.nil_append]; exact rfl) ?_
  refine zad ?_
  refine zaj rfl rfl rfl (op_boxam 0 rfl (ev1 rfl) rfl) (by simp only [upd, zaa, za]; exact rfl) ?_
  refine zab rfl rfl rfl (zac (.inr rfl) (ev1 rfl)) ?_
  refine zae ?_
  refine zaf ?_
  refine zaf ?_
  refine zad ?_
  refine zab rfl rfl rfl (zac (.inl rfl) (ev1 rfl)) ?_
  refine zab rfl rfl rfl (op_neq rfl (ev1 rfl) (ev1 rfl)) ?_
  refine zae ?_
  refine dwp_if_t rfl (by simpa using hn) ?_
  refine zaf ?_
  refine zad ?_
  refine zab rfl rfl rfl (zac (.inl rfl) (ev1 rfl)) ?_
  refine zab rfl rfl rfl (zac (.inl rfl) (ev1 rfl)) ?_
  refine zab rfl rfl rfl ((op_eql rfl (ev1 rfl) (ev1 rfl)).cast (d' := .val (.bool true)) (by simp)) ?_
  refine zab rfl rfl rfl (zac (.inl rfl) (ev1 rfl)) ?_
  refine walk_k (gd_t (b := true) rfl rfl rfl) rfl rfl rfl (zac (.inl rfl) (ev1 rfl)) (by simp only [upd, zaa, za]; exact rfl) ?_
  refine walk_k (gd_t (b := true) rfl rfl rfl) rfl rfl rfl (op_pnil0 rfl pt33 (ev2 rfl)) (by simp only [upd, zaa, za]; exact rfl) ?_
  refine zab rfl rfl rfl ((op_and rfl (ev1 rfl) (ev3 rfl (fun _ => rfl))).cast (d' := .val (.bool true)) (by rfl)) ?_
  refine zab rfl rfl rfl (zac (.inr rfl) (ev1 rfl)) ?_
  refine zae ?_
  refine dwp_ret ?_
  refine kend0 (rs1 rfl (rv_t rfl)) rfl ?_
  rfl
set_option maxRecDepth 4000 in
set_option maxHeartbeats 1000000 in
theorem says_d (w h : Int) (ts : List TL) (hc : CvOk w h ts) : DFun Tryz.prog 17 [cvD w h (dpR ts), .val (.int .i64 0), shD w h ts, .val (.int .i64 0)] [] (.val (.bool true)) [] := by
  have hle := hc.le
  refine dcalls_go (N := 30) 0 (by kernel_rfl) Tryz.func17 rfl rfl rfl (by simp only [fr0, Nat.zero_add, Nat.reduceAdd]; exact rfl) rfl fun s0 hs0 => ?_
  refine zaf ?_
  refine zai 1 (by simp only [holes, List.cons_append, List.nil_append]; exact rfl) ?_
  refine zad ?_
  refine zaj rfl rfl rfl (op_boxam 0 rfl (ev1 rfl) rfl) (by simp only [upd, zaa, za]; exact rfl) ?_
  refine zab rfl rfl rfl (zac (.inr rfl) (ev1 rfl)) ?_
  refine zae ?_
  refine zaf ?_
  refine zaf ?_
  refine zad ?_
  refine zab rfl rfl rfl (zac (.inl rfl) (ev1 rfl)) ?_
  refine zab rfl rfl rfl ((op_neq rfl (ev1 rfl) (ev1 rfl)).cast (d' := .val (.bool false)) (by kernel_rfl)) ?_
  refine zae ?_
  refine dwp_if_f rfl (rfl) ?_
  refine zal ?_
  refine zaf ?_
  refine dwp_draw [([], []), ([], []), ([], []), ([], []), ([], []), ([], []), ([], []), ([], []), ([], []), ([0], []), ([], []), ([], []), ([], [])] mixed (by kernel_rfl) ?_
  refine zag rfl rfl (zac (.inl rfl) (ev1 rfl)) ?_
  refine zag rfl rfl ((op_eql rfl (ev1 rfl) (ev1 rfl)).cast (d' := .val (.bool true)) (by kernel_rfl)) ?_
  refine zag rfl rfl (zac (.inl rfl) (ev1 rfl)) ?_
  refine lex_k (gd_t (b := true) rfl rfl rfl) rfl rfl (zac (.inl rfl) (ev1 rfl)) rfl (by simp only [upd, zaa, za]; exact rfl) ?_
  refine lex_k (gd_t (b := true) rfl rfl rfl) rfl rfl (op_pnilmn rfl pt33 (ev2 rfl)) rfl (by simp only [upd, zaa, za]; exact rfl) ?_
  refine zag rfl rfl ((op_and rfl (ev1 rfl) (ev3 rfl (fun _ => rfl))).cast (d' := .val (.bool true)) (by rfl)) ?_
  refine zag rfl rfl (zac (.inl rfl) (ev1 rfl)) ?_
  refine lex_k (gd_t (b := true) rfl rfl rfl) rfl rfl (zac (.inl rfl) (ev1 rfl)) rfl (by simp only [upd, zaa, za]; exact rfl) ?_
  refine lex_k (gd_t (b := true) rfl rfl rfl) rfl rfl (zah [] [] [] rfl (ev1 rfl) (ec (ev2 rfl) en) rfl rfl (show_d w h _ ts (dpR_ok _) hc) rfl rfl rfl rfl rfl rfl) rfl (by simp only [upd, zaa, za]; exact rfl) ?_
  refine lex_k (gd_t (b := true) rfl rfl rfl) rfl rfl (op_ldmw rfl tb24 (ev1 rfl) rfl rfl) rfl (by simp only [upd, zaa, za]; exact rfl) ?_
  refine lex_k (gd_t (b := true) rfl rfl rfl) rfl rfl ((zah [] [] [] rfl (ev1 rfl) (ec (ev2 rfl) (ec (ev2 rfl) en)) rfl rfl (same_d w h w h ts ts (by omega)) rfl rfl rfl rfl rfl rfl).cast (d' := .val (.bool true)) (by simp)) rfl (by simp only [upd, zaa, za]; exact rfl) ?_
  refine zag rfl rfl ((op_and rfl (ev1 rfl) (ev3 rfl (fun _ => rfl))).cast (d' := .val (.bool true)) (by rfl)) ?_
  refine zag rfl rfl (zac (.inr rfl) (ev1 rfl)) ?_
  refine lex_nil ?_
  refine dwp_ret ?_
  refine kend0 (rs1 rfl (rv_t rfl)) rfl ?_
  rfl
end Go.Proofs.YtjgnalfnginjbaaGreatDoor
namespace Go.Proofs.YtjgnalfnginjbaaGreatDoor
set_option maxRecDepth 4000
set_option linter.unusedVariables false
set_option linter.unusedSimpArgs false
open Go.RowKit
def nrB (r : Bool) (n : Int) (p q : P2) : Bool := decide (((-(n.toNat : Int) ≤ p.x - q.x ∧ p.x - q.x ≤ n.toNat) ∧ -(n.toNat : Int) ≤ p.y - q.y ∧ p.y - q.y ≤ n.toNat) ∧ inBr r n.toNat ⟨p.x - q.x, p.y - q.y⟩ = true)
def nearB (r : Bool) (n : Int) (l : List P2) (p : P2) : Bool := l.any fun q => nrB r n p q
theorem sq_way (a b : Int) : (a - b) * (a - b) = (wayN a b : Int) * (wayN a b : Int) := by
  have w := wayN_eq a b
  rcases Int.le_total a b with h | h
  · rw [show (wayN a b : Int) = -(a - b) by omega, Int.neg_mul_neg]
  · rw [show (wayN a b : Int) = a - b by omega]
theorem sq_le {n X : Int} (hn : 0 ≤ n) (h : X * X ≤ n * n) : X ≤ n := by
  refine Classical.byContradiction fun hno => ?_
  have h1 : (n + 1) * (n + 1) ≤ X * X := Int.mul_le_mul (by omega) (by omega) (by omega) (by omega)
  rw [Int.add_mul, Int.mul_add] at h1
  omega
theorem nr_eq {r : Bool} {n : Int} (hn : 0 ≤ n) (p q : P2) : ((r && decide ((wayN p.x q.x : Int) * (wayN p.x q.x : Int) + (wayN p.y q.y : Int) * (wayN p.y q.y : Int) ≤ n * n)) || ((!r && decide ((wayN p.x q.x : Int) ≤ n)) && decide ((wayN p.y q.y : Int) ≤ n))) = nrB r n p q := by
  have w1 := wayN_eq p.x q.x
  have w2 := wayN_eq p.y q.y
  have s1 := sq_way p.x q.x
  have s2 := sq_way p.y q.y
  have hnn : ((n.toNat : Nat) : Int) = n := by omega
  unfold nrB inBr
  simp only
  rw [s1, s2, hnn]
  have z1 : (0 : Int) ≤ (wayN p.x q.x : Int) * (wayN p.x q.x : Int) := Int.mul_nonneg (by omega) (by omega)
  have z2 : (0 : Int) ≤ (wayN p.y q.y : Int) * (wayN p.y q.y : Int) := Int.mul_nonneg (by omega) (by omega)
  cases r with
  | true =>
    rw [Bool.eq_iff_iff]
    simp only [Bool.true_and, Bool.not_true, Bool.false_and, Bool.or_false, Bool.false_or, decide_eq_true_eq]
    constructor
    · intro h
      have x1 := sq_le hn (show (wayN p.x q.x : Int) * (wayN p.x q.x : Int) ≤ n * n by omega)
      have x2 := sq_le hn (show (wayN p.y q.y : Int) * (wayN p.y q.y : Int) ≤ n * n by omega)
      exact ⟨by omega, h⟩
    · exact fun h => h.2
  | false =>
    rw [Bool.eq_iff_iff]
    simp only [Bool.false_and, Bool.not_false, Bool.true_and, Bool.true_or, Bool.false_or, Bool.and_eq_true, decide_eq_true_eq, and_true]
    omega
theorem near_sw {r : Bool} {n : Int} {l : List P2} (h : swB n l = true) (p : P2) : nearB r n l p = true ↔ hasS (swL r n l) p.x p.y := by
  rw [swL_has h]
  unfold nearB nrB
  rw [List.any_eq_true]
  simp only [decide_eq_true_eq]
def skD (w : Int) (c : C4) (f : P2 → Bool) (n : Nat) : List Dt := ((fieldN (w * 8).toNat n 0 0).filter f).map fun p => ⟨p.x, p.y, c⟩
theorem skD_no {w : Int} {c : C4} {f : P2 → Bool} {x y : Nat} (hx : x < (w * 8).toNat) (h : f ⟨(x : Int), (y : Int)⟩ = false) : skD w c f (y * (w * 8).toNat + (x + 1)) = skD w c f (y * (w * 8).toNat + x) := by
  unfold skD
  rw [field_at hx, List.filter_append, List.filter_cons, if_neg (by rw [Int.zero_add, Int.zero_add, h]; decide), List.filter_nil, List.append_nil]
theorem skD_yes {w : Int} {c : C4} {f : P2 → Bool} {x y : Nat} (hx : x < (w * 8).toNat) (h : f ⟨(x : Int), (y : Int)⟩ = true) : skD w c f (y * (w * 8).toNat + (x + 1)) = skD w c f (y * (w * 8).toNat + x) ++ [⟨(x : Int), (y : Int), c⟩] := by
  unfold skD
  rw [field_at hx, List.filter_append, List.filter_cons, if_pos (by rw [Int.zero_add, Int.zero_add, h]), List.filter_nil, List.map_append, List.map_cons, List.map_nil, Int.zero_add, Int.zero_add]
theorem sk_drw {w h : Int} {ts : List TL} (hc : CvOk w h ts) (c : C4) {f : P2 → Bool} {l : List Sp} (hf : ∀ p : P2, f p = true ↔ hasS l p.x p.y) : putsC w h ts (skD w c f ((h * 8).toNat * (w * 8).toNat)) = drwC false w h ts c l := by
  have hb := mayS_b hc.may
  have e : skD w c f ((h * 8).toNat * (w * 8).toNat) = ((fieldN (w * 8).toNat ((h * 8).toNat * (w * 8).toNat) 0 0).filter f).map (dtK false w ts c) := rfl
  rw [e]
  unfold drwC
  refine puts_ext hc (f := fun p : P2 => cmC false (getC w ts p.x p.y) c) (fun d hd => dtK_tell false w ts c _ d hd) (fun d hd => dtK_tell false w ts c _ d hd) fun x y ho => ?_
  have hxy := onS_iff.1 ho
  rw [dtK_at, dtK_at, List.mem_filter, field_mem (by omega), ptsS_mem, hf]
  simp only
  constructor
  · exact fun g => g.2
  · exact fun g => ⟨by omega, g⟩
theorem near_no {r : Bool} {n : Int} {l : List P2} {p : P2} {i : Nat} (hi : i < l.length) (h : (l.take i).any (fun q => nrB r n p q) = false) (hq : nrB r n p l[i] = false) : (l.take (i + 1)).any (fun q => nrB r n p q) = false := by
  rw [List.take_succ_eq_append_getElem hi, List.any_append, h]
  simp [hq]
set_option maxRecDepth 4000 in
set_option maxHeartbeats 1000000 in
theorem rway_d (a b : Int) (ha : -5000 ≤ a ∧ a ≤ 5000) (hb : -5000 ≤ b ∧ b ≤ 5000) : DFun Tryz.prog 92 [.val (.int .i64 a), .val (.int .i64 b)] [] (.val (.int .i64 (wayN a b : Int))) [] := by
  refine dcalls_go (N := 14) 0 (by kernel_rfl) Tryz.func92 rfl rfl rfl (by simp only [fr0, Nat.zero_add, Nat.reduceAdd]; exact rfl) rfl fun s0 hs0 => ?_
  refine zaf ?_
  refine zad ?_
  refine zab rfl rfl rfl (zac (.inr rfl) (ev1 rfl)) ?_
  refine zae ?_
  refine zaf ?_
  refine zaf ?_
  refine zad ?_
  refine zab rfl rfl rfl (zac (.inl rfl) (ev1 rfl)) ?_
  refine zab rfl rfl rfl (zac (.inl rfl) (ev1 rfl)) ?_
  refine zab rfl rfl rfl (op_lss rfl (ev1 rfl) (ev1 rfl)) ?_
  refine zae ?_
  refine dwp_cond rfl (fun c1 => ?_) (fun c1 => ?_)
  · refine zaf ?_
    refine zad ?_
    refine zab rfl rfl rfl (zac (.inl rfl) (ev1 rfl)) ?_
    refine zab rfl rfl rfl (zac (.inl rfl) (ev1 rfl)) ?_
    refine zab rfl rfl rfl (op_sub' rfl (ev1 rfl) (ev1 rfl) (fun _ => IntWalk.i64_in _ (by omega))) ?_
    refine zab rfl rfl rfl (zac (.inr rfl) (ev1 rfl)) ?_
    refine zae ?_
    refine dwp_ret ?_
    refine kend0 (rs1 rfl (rv_t rfl)) rfl ?_
    have hw := wayN_eq a b
    rw [D.val.injEq, Value.int.injEq]
    refine ⟨rfl, ?_⟩
    simp at *
    omega
  · refine zal ?_
    refine zaf ?_
    refine zad ?_
    refine zab rfl rfl rfl (zac (.inl rfl) (ev1 rfl)) ?_
    refine zab rfl rfl rfl (zac (.inl rfl) (ev1 rfl)) ?_
    refine zab rfl rfl rfl (op_sub' rfl (ev1 rfl) (ev1 rfl) (fun _ => IntWalk.i64_in _ (by omega))) ?_
    refine zab rfl rfl rfl (zac (.inr rfl) (ev1 rfl)) ?_
    refine zae ?_
    refine dwp_ret ?_
    refine kend0 (rs1 rfl (rv_t rfl)) rfl ?_
    have hw := wayN_eq a b
    rw [D.val.injEq, Value.int.injEq]
    refine ⟨rfl, ?_⟩
    simp at *
    omega
set_option maxRecDepth 4000 in
set_option maxHeartbeats 1000000 in
theorem rmay_d (p : P2) : DFun Tryz.prog 25 [.val (.agg #[.int .i64 p.x, .int .i64 p.y])] [] (.val (.bool (drwB p))) [] := by
  refine dcalls_go (N := 21) 0 (by kernel_rfl) Tryz.func25 rfl rfl rfl (by simp only [fr0, Nat.zero_add, Nat.reduceAdd]; exact rfl) rfl fun s0 hs0 => ?_
  refine zaf ?_
  refine zai 1 (by simp only [holes, List.cons_append, List.nil_append]; exact rfl) ?_
  refine zad ?_
  refine zaj rfl rfl rfl (op_boxa 0 rfl (ev1 rfl) rfl) (by simp only [upd, zaa, za]; exact rfl) ?_
  refine zab rfl rfl rfl (zac (.inr rfl) (ev1 rfl)) ?_
  refine zae ?_
  refine zaf ?_
  refine zad ?_
  refine zab rfl rfl rfl (op_fa rfl fo51_0 (ev1 rfl)) ?_
  refine zab rfl rfl rfl (op_ldo rfl tb3 (ev1 rfl) rfl rfl) ?_
  refine zab rfl rfl rfl (op_geq rfl (ev1 rfl) (ev1 rfl)) ?_
  refine zab rfl rfl rfl (zac (.inl rfl) (ev1 rfl)) ?_
  refine zak (gd_t rfl rfl rfl) rfl rfl rfl (op_fa rfl fo51_0 (ev1 rfl)) ?_
  refine zak (gd_t rfl rfl rfl) rfl rfl rfl (op_ldo rfl tb3 (ev2 rfl) rfl rfl) ?_
  refine zak (gd_t rfl rfl rfl) rfl rfl rfl (op_leq rfl (ev2 rfl) (ev1 rfl)) ?_
  refine zab rfl rfl rfl (op_and rfl (ev1 rfl) (ev3 rfl id)) ?_
  refine zab rfl rfl rfl (zac (.inl rfl) (ev1 rfl)) ?_
  refine zak (gd_t rfl rfl rfl) rfl rfl rfl (op_fa rfl fo51_1 (ev1 rfl)) ?_
  refine zak (gd_t rfl rfl rfl) rfl rfl rfl (op_ldo rfl tb3 (ev2 rfl) rfl rfl) ?_
  refine zak (gd_t rfl rfl rfl) rfl rfl rfl (op_geq rfl (ev2 rfl) (ev1 rfl)) ?_
  refine zab rfl rfl rfl (op_and rfl (ev1 rfl) (ev3 rfl id)) ?_
  refine zab rfl rfl rfl (zac (.inl rfl) (ev1 rfl)) ?_
  refine zak (gd_t rfl rfl rfl) rfl rfl rfl (op_fa rfl fo51_1 (ev1 rfl)) ?_
  refine zak (gd_t rfl rfl rfl) rfl rfl rfl (op_ldo rfl tb3 (ev2 rfl) rfl rfl) ?_
  refine zak (gd_t rfl rfl rfl) rfl rfl rfl (op_leq rfl (ev2 rfl) (ev1 rfl)) ?_
  refine zab rfl rfl rfl (op_and rfl (ev1 rfl) (ev3 rfl id)) ?_
  refine zab rfl rfl rfl (zac (.inr rfl) (ev1 rfl)) ?_
  refine zae ?_
  refine dwp_ret ?_
  refine kend0 (rs1 rfl (rv_t rfl)) rfl ?_
  unfold drwB
  simp [Bool.and_assoc]
set_option maxRecDepth 4000 in
set_option maxHeartbeats 1000000 in
theorem rnear_d (p : P2) (c : C4) (n : Int) (r : Bool) (l : List P2) (hn : 0 ≤ n ∧ n ≤ 15) (hp : (0 ≤ p.x ∧ p.x ≤ 40) ∧ 0 ≤ p.y ∧ p.y ≤ 40) (hl : drwL l = true) : DFun Tryz.prog 62 [.val (.agg #[.int .i64 p.x, .int .i64 p.y]), .val (.agg #[.int .u8 c.r, .int .u8 c.g, .int .u8 c.b, .int .u8 c.a, .int .i64 n, .bool r]), .slf 2 l.length (l.flatMap p2)] [] (.val (.bool (nearB r n l p))) [] := by
  refine dcalls_go (N := 62) 0 (by kernel_rfl) Tryz.func62 rfl rfl rfl (by simp only [fr0, Nat.zero_add, Nat.reduceAdd]; exact rfl) rfl fun s0 hs0 => ?_
  refine dwp_len (t := 2) rfl fun hl2 hL2 => ?_
  refine zaf ?_
  refine zai 2 (by simp only [holes, List.cons_append, List.nil_append]; exact rfl) ?_
  refine zad ?_
  refine zaj rfl rfl rfl (op_boxa 0 rfl (ev1 rfl) rfl) (by simp only [upd, zaa, za]; exact rfl) ?_
  refine zaj rfl rfl rfl (op_boxa 1 rfl (ev1 rfl) rfl) (by simp only [upd, zaa, za]; exact rfl) ?_
  refine zab rfl rfl rfl (zac (.inr rfl) (ev1 rfl)) ?_
  refine zae ?_
  refine zaf ?_
  refine zaf ?_
  refine zad ?_
  refine zab rfl rfl rfl (zac (.inl rfl) (ev1 rfl)) ?_
  refine zab rfl rfl rfl (op_len rfl sl48 (ev1 rfl)) ?_
  refine zab rfl rfl rfl (zac (.inl rfl) (ev1 rfl)) ?_
  refine zae ?_
  refine dwp_block ?_
  refine dwp_loopS ⟨hs0, rfl⟩ (α := Nat) (fun i => [(13, .val (.int .i64 (i : Int)))]) [(3, _), (4, _), (11, _), (12, _)] (fun i => []) [_, _] (fun i => i ≤ l.length ∧ (l.take i).any (fun q => nrB r n p q) = false) (fun i => l.length - i) 0 [0, 1] (⟨Nat.zero_le _, rfl⟩) rfl ⟨rfl, rfl, rfl, rfl, trivial⟩ ⟨rfl, trivial⟩ ⟨rfl, rfl, trivial⟩ ?_
  intro i hx
  simp only [upd, zaa, za, List.cons_append, List.nil_append]
  obtain ⟨hi0, hno⟩ := hx
  refine zaf ?_
  refine zad ?_
  refine zab rfl rfl rfl (op_lss rfl (ev1 rfl) (ev1 rfl)) ?_
  refine zae ?_
  refine zaf ?_
  refine dwp_cond rfl (fun c1 => ?_) (fun c1 => ?_)
  · try simp only [decide_eq_true_eq, decide_eq_false_iff_not, beq_iff_eq, bne_iff_ne, beq_eq_false_iff_ne, bne_eq_false_iff_eq, Bool.not_eq_true', Bool.not_eq_false', Bool.and_eq_true, Bool.or_eq_true, Bool.or_eq_false_iff, ne_eq, Decidable.not_not, Int.not_lt, Int.not_le] at c1
    refine zal ?_
    refine zaf ?_
    refine dwp_block ?_
    refine zaf ?_
    have hi : i < l.length := by omega
    have hd := drwL_mem hl (List.getElem_mem hi)
    have w1 := wayN_eq p.x l[i].x
    have w2 := wayN_eq p.y l[i].y
    have sq : ∀ z : Int, 0 ≤ z → z ≤ 200 → 0 ≤ z * z ∧ z * z ≤ 40000 := fun z h h2 => ⟨Int.mul_nonneg h h, Int.mul_le_mul (c := 200) (d := 200) h2 h2 h (by omega)⟩
    have q1 := sq (wayN p.x l[i].x) (by omega) (by omega)
    have q2 := sq (wayN p.y l[i].y) (by omega) (by omega)
    have q3 := sq n (by omega) (by omega)
    refine zai 1 (by simp only [holes, List.cons_append, List.nil_append]; exact rfl) ?_
    refine zad ?_
    refine zab rfl rfl rfl (op_ixsr (j := i) rfl sl48 (ev1 rfl) (ev1 rfl) (fun _ => rfl) (by decide) (by omega) (by omega)) ?_
    refine zab rfl rfl rfl (op_ldwd rfl tb51 (ev1 rfl) rfl) ?_
    refine zaj rfl rfl rfl (op_alloc 2 rfl zr51 rfl) (by simp only [upd, zaa, za]; exact rfl) ?_
    refine walk_s rfl rfl (op_stwa rfl tb51 (ev1 rfl) (ev1 rfl) rfl rfl rfl rfl) (by simp only [upd, zaa, za]; exact rfl) ?_
    refine zae ?_
    refine zaf ?_
    refine dwp_draw [([], []), ([0], []), ([], []), ([2], []), ([], []), ([], []), ([0], []), ([], []), ([2], []), ([], []), ([], []), ([], [])] mixed (by kernel_rfl) ?_
    refine zag rfl rfl (op_fa rfl fo51_0 (ev1 rfl)) ?_
    refine zag rfl rfl (op_ldo rfl tb3 (ev1 rfl) rfl rfl) ?_
    refine zag rfl rfl (op_fa rfl fo51_0 (ev1 rfl)) ?_
    refine zag rfl rfl (op_ldo rfl tb3 (ev1 rfl) rfl rfl) ?_
    refine zag rfl rfl (zah [] [] [] rfl (ev1 rfl) (ec (ev1 rfl) (ec (ev1 rfl) en)) rfl rfl (rway_d p.x l[i].x (by omega) (by omega)) rfl rfl rfl rfl rfl rfl) ?_
    refine zag rfl rfl (op_fa rfl fo51_1 (ev1 rfl)) ?_
    refine zag rfl rfl (op_ldo rfl tb3 (ev1 rfl) rfl rfl) ?_
    refine zag rfl rfl (op_fa rfl fo51_1 (ev1 rfl)) ?_
    refine zag rfl rfl (op_ldo rfl tb3 (ev1 rfl) rfl rfl) ?_
    refine zag rfl rfl (zah [] [] [] rfl (ev1 rfl) (ec (ev1 rfl) (ec (ev1 rfl) en)) rfl rfl (rway_d p.y l[i].y (by omega) (by omega)) rfl rfl rfl rfl rfl rfl) ?_
    refine zag rfl rfl (zac (.inr rfl) (ev1 rfl)) ?_
    refine zag rfl rfl (zac (.inr rfl) (ev1 rfl)) ?_
    refine lex_nil ?_
    refine zaf ?_
    refine zad ?_
    refine zab rfl rfl rfl (op_fa rfl fo47_2 (ev1 rfl)) ?_
    refine zab rfl rfl rfl (op_ldo rfl tb4 (ev1 rfl) rfl rfl) ?_
    refine zab rfl rfl rfl (zac (.inl rfl) (ev1 rfl)) ?_
    refine zak (gd_t rfl rfl rfl) rfl rfl rfl (zac (.inl rfl) (ev1 rfl)) ?_
    refine zak (gd_t rfl rfl rfl) rfl rfl rfl (zac (.inl rfl) (ev1 rfl)) ?_
    refine zak (gd_t rfl rfl rfl) rfl rfl rfl (op_mul' rfl (ev2 rfl) (ev2 rfl) (fun _ => IntWalk.i64_in _ (by omega))) ?_
    refine zak (gd_t rfl rfl rfl) rfl rfl rfl (zac (.inl rfl) (ev1 rfl)) ?_
    refine zak (gd_t rfl rfl rfl) rfl rfl rfl (zac (.inl rfl) (ev1 rfl)) ?_
    refine zak (gd_t rfl rfl rfl) rfl rfl rfl (op_mul' rfl (ev2 rfl) (ev2 rfl) (fun _ => IntWalk.i64_in _ (by omega))) ?_
    refine zak (gd_t rfl rfl rfl) rfl rfl rfl (op_add' rfl (ev2 rfl) (ev2 rfl) (fun _ => IntWalk.i64_in _ (by omega))) ?_
    refine zak (gd_t rfl rfl rfl) rfl rfl rfl (op_fa rfl fo47_1 (ev1 rfl)) ?_
    refine zak (gd_t rfl rfl rfl) rfl rfl rfl (op_ldo rfl tb3 (ev2 rfl) rfl rfl) ?_
    refine zak (gd_t rfl rfl rfl) rfl rfl rfl (op_fa rfl fo47_1 (ev1 rfl)) ?_
    refine zak (gd_t rfl rfl rfl) rfl rfl rfl (op_ldo rfl tb3 (ev2 rfl) rfl rfl) ?_
    refine zak (gd_t rfl rfl rfl) rfl rfl rfl (op_mul' rfl (ev2 rfl) (ev2 rfl) (fun _ => IntWalk.i64_in _ (by omega))) ?_
    refine zak (gd_t rfl rfl rfl) rfl rfl rfl (op_leq rfl (ev2 rfl) (ev2 rfl)) ?_
    refine zab rfl rfl rfl (op_and rfl (ev1 rfl) (ev3 rfl id)) ?_
    refine zab rfl rfl rfl (zac (.inl rfl) (ev1 rfl)) ?_
    refine zak (gd_f rfl rfl rfl) rfl rfl rfl (op_fa rfl fo47_2 (ev1 rfl)) ?_
    refine zak (gd_f rfl rfl rfl) rfl rfl rfl (op_ldo rfl tb4 (ev2 rfl) rfl rfl) ?_
    refine zak (gd_f rfl rfl rfl) rfl rfl rfl (op_not rfl (ev2 rfl)) ?_
    refine zak (gd_f rfl rfl rfl) rfl rfl rfl (zac (.inl rfl) (ev2 rfl)) ?_
    refine zak (gd_tt rfl rfl rfl) rfl rfl rfl (zac (.inl rfl) (ev1 rfl)) ?_
    refine zak (gd_tt rfl rfl rfl) rfl rfl rfl (op_fa rfl fo47_1 (ev1 rfl)) ?_
    refine zak (gd_tt rfl rfl rfl) rfl rfl rfl (op_ldo rfl tb3 (ev2 rfl) rfl rfl) ?_
    refine zak (gd_tt rfl rfl rfl) rfl rfl rfl (op_leq rfl (ev2 rfl) (ev2 rfl)) ?_
    refine zak (gd_f rfl rfl rfl) rfl rfl rfl (op_and rfl (ev2 rfl) (ev2 rfl)) ?_
    refine zak (gd_f rfl rfl rfl) rfl rfl rfl (zac (.inl rfl) (ev2 rfl)) ?_
    refine zak (gd_tt rfl rfl rfl) rfl rfl rfl (zac (.inl rfl) (ev1 rfl)) ?_
    refine zak (gd_tt rfl rfl rfl) rfl rfl rfl (op_fa rfl fo47_1 (ev1 rfl)) ?_
    refine zak (gd_tt rfl rfl rfl) rfl rfl rfl (op_ldo rfl tb3 (ev2 rfl) rfl rfl) ?_
    refine zak (gd_tt rfl rfl rfl) rfl rfl rfl (op_leq rfl (ev2 rfl) (ev2 rfl)) ?_
    refine zak (gd_f rfl rfl rfl) rfl rfl rfl (op_and rfl (ev2 rfl) (ev2 rfl)) ?_
    refine zab rfl rfl rfl (op_or rfl (ev1 rfl) (ev3 rfl id)) ?_
    refine zae ?_
    refine dwp_cond rfl (fun c2 => ?_) (fun c2 => ?_)
    · have hq : nrB r n p l[i] = true := by rw [← nr_eq hn.1, ← c2]
      refine zaf ?_
      refine zad ?_
      refine zab rfl rfl rfl (zac (.inr rfl) (ev1 rfl)) ?_
      refine zae ?_
      refine dwp_ret ?_
      refine kend0 (rs1 rfl (rv_t rfl)) rfl ?_
      rw [show nearB r n l p = true from List.any_eq_true.2 ⟨_, List.getElem_mem hi, hq⟩]
    · have hq : nrB r n p l[i] = false := by rw [← nr_eq hn.1, ← c2]
      refine zal ?_
      refine zad ?_
      refine zab rfl rfl rfl (op_add' rfl (ev1 rfl) (ev1 rfl) (fun _ => IntWalk.i64_in _ (by omega))) ?_
      refine zab rfl rfl rfl (zac (.inl rfl) (ev1 rfl)) ?_
      refine zae ?_
      refine ⟨i + 1, [0, 1], ⟨by omega, near_no hi hno hq⟩, by simp only []; omega, rfl, ⟨rfl, rfl, rfl, rfl, rfl, trivial⟩, ⟨rfl, rfl, trivial⟩⟩
  · try simp only [decide_eq_true_eq, decide_eq_false_iff_not, beq_iff_eq, bne_iff_ne, beq_eq_false_iff_ne, bne_eq_false_iff_eq, Bool.not_eq_true', Bool.not_eq_false', Bool.and_eq_true, Bool.or_eq_true, Bool.or_eq_false_iff, ne_eq, Decidable.not_not, Int.not_lt, Int.not_le] at c1
    refine dwp_exit ?_
    refine zaf ?_
    refine zad ?_
    refine zab rfl rfl rfl (zac (.inr rfl) (ev1 rfl)) ?_
    refine zae ?_
    refine dwp_ret ?_
    rw [take_all (by omega)] at hno
    refine kend0 (rs1 rfl (rv_t rfl)) rfl ?_
    rw [show nearB r n l p = false from hno]
set_option maxRecDepth 4000 in
set_option maxHeartbeats 1000000 in
theorem rstk_d (w h : Int) (ts : List TL) (hc : CvOk w h ts) (c : C4) (n : Int) (r : Bool) (l : List P2) (hs : swB n l = true) : DFun Tryz.prog 26 [shD w h ts, .val (.agg #[.int .u8 c.r, .int .u8 c.g, .int .u8 c.b, .int .u8 c.a, .int .i64 n, .bool r]), .slf 2 l.length (l.flatMap p2)] [] (shD w h (drwC false w h ts c (swL r n l))) [] := by
  refine dcalls_go (N := 39) 0 (by kernel_rfl) Tryz.func26 rfl rfl rfl (by simp only [fr0, Nat.zero_add, Nat.reduceAdd]; exact rfl) rfl fun s0 hs0 => ?_
  refine dwp_len (t := 2) rfl fun hl2 hL2 => ?_
  refine zaf ?_
  have hb := mayS_b hc.may
  obtain ⟨hnn, hdr⟩ := swB_iff.1 hs
  have hdl : drwL l = true := List.all_eq_true.2 hdr
  refine zai 3 (by simp only [holes, List.cons_append, List.nil_append]; exact rfl) ?_
  refine zad ?_
  refine zaj rfl rfl rfl (op_boxam 0 rfl (ev1 rfl) rfl) (by simp only [upd, zaa, za]; exact rfl) ?_
  refine zaj rfl rfl rfl (op_boxa 1 rfl (ev1 rfl) rfl) (by simp only [upd, zaa, za]; exact rfl) ?_
  refine zaj rfl rfl rfl (op_alloc 2 rfl zr24 rfl) (by simp only [upd, zaa, za]; exact rfl) ?_
  refine zae ?_
  refine zaf ?_
  refine zai 1 (by simp only [holes, List.cons_append, List.nil_append]; exact rfl) ?_
  refine zad ?_
  refine zab rfl rfl rfl (op_ldmw rfl tb24 (ev1 rfl) rfl rfl) ?_
  refine zaj rfl rfl rfl (op_alloc 3 rfl zr24 rfl) (by simp only [upd, zaa, za]; exact rfl) ?_
  refine walk_s rfl rfl (op_stam rfl tb24 (ev1 rfl) (ev1 rfl) rfl rfl rfl rfl) (by simp only [upd, zaa, za]; exact rfl) ?_
  refine zae ?_
  refine zaf ?_
  refine zaf ?_
  refine zad ?_
  refine zab rfl rfl rfl (op_fa rfl fo24_1 (ev1 rfl)) ?_
  refine zab rfl rfl rfl (op_ldm rfl tb3 (ev1 rfl) rfl rfl) ?_
  refine zab rfl rfl rfl (op_mul' rfl (ev1 rfl) (ev1 rfl) (fun _ => IntWalk.i64_in _ (by omega))) ?_
  refine zab rfl rfl rfl (zac (.inl rfl) (ev1 rfl)) ?_
  refine zae ?_
  refine dwp_block ?_
  refine dwp_loopS ⟨hs0, rfl⟩ (α := Nat) (fun y => [(14, .val (.int .i64 (y : Int)))]) [(2, _), (3, _), (4, _), (6, _), (7, _), (13, _)] (fun y => [(3, .mix 24 [.val (.int .i64 w), .val (.int .i64 h), .slf 256 (putsC w h ts (skD w c (nearB r n l) (y * (w * 8).toNat))).length ((putsC w h ts (skD w c (nearB r n l) (y * (w * 8).toNat))).flatMap tc)])]) [_, _, _, .hole] (fun y => (y : Int) ≤ h * 8) (fun y => (h * 8).toNat - y) 0 [0, 1, 2, 3] (by omega) rfl ⟨rfl, rfl, rfl, rfl, rfl, rfl, trivial⟩ ⟨rfl, trivial⟩ ⟨rfl, rfl, rfl, by rw [Nat.zero_mul]; rfl, trivial⟩ ?_
  intro y hx
  simp only [upd, zaa, za, List.cons_append, List.nil_append]
  have hy0 := hx
  refine zaf ?_
  refine zad ?_
  refine zab rfl rfl rfl (op_lss rfl (ev1 rfl) (ev1 rfl)) ?_
  refine zae ?_
  refine zaf ?_
  refine dwp_cond rfl (fun c1 => ?_) (fun c1 => ?_)
  · try simp only [decide_eq_true_eq, decide_eq_false_iff_not, beq_iff_eq, bne_iff_ne, beq_eq_false_iff_ne, bne_eq_false_iff_eq, Bool.not_eq_true', Bool.not_eq_false', Bool.and_eq_true, Bool.or_eq_true, Bool.or_eq_false_iff, ne_eq, Decidable.not_not, Int.not_lt, Int.not_le] at c1
    refine zal ?_
    refine zaf ?_
    refine dwp_block ?_
    refine zaf ?_
    refine zad ?_
    refine zab rfl rfl rfl (zac (.inl rfl) (ev1 rfl)) ?_
    refine zab rfl rfl rfl (zac (.inr rfl) (ev1 rfl)) ?_
    refine zae ?_
    refine zaf ?_
    refine zad ?_
    refine zab rfl rfl rfl (op_fa rfl fo24_0 (ev1 rfl)) ?_
    refine zab rfl rfl rfl (op_ldm rfl tb3 (ev1 rfl) rfl rfl) ?_
    refine zab rfl rfl rfl (op_mul' rfl (ev1 rfl) (ev1 rfl) (fun _ => IntWalk.i64_in _ (by omega))) ?_
    refine zab rfl rfl rfl (zac (.inl rfl) (ev1 rfl)) ?_
    refine zae ?_
    refine dwp_block ?_
    refine dwp_loopS ⟨hs0, rfl⟩ (α := Nat) (fun x => [(20, .val (.int .i64 (x : Int)))]) [(2, _), (3, _), (4, _), (6, _), (7, _), (8, _), (13, _), (14, _), (19, _)] (fun x => [(3, .mix 24 [.val (.int .i64 w), .val (.int .i64 h), .slf 256 (putsC w h ts (skD w c (nearB r n l) (y * (w * 8).toNat + x))).length ((putsC w h ts (skD w c (nearB r n l) (y * (w * 8).toNat + x))).flatMap tc)])]) [_, _, _, .hole] (fun x => (x : Int) ≤ w * 8) (fun x => (w * 8).toNat - x) 0 [0, 1, 2, 3] (by omega) rfl ⟨rfl, rfl, rfl, rfl, rfl, rfl, rfl, rfl, rfl, trivial⟩ ⟨rfl, trivial⟩ ⟨rfl, rfl, rfl, by rw [Nat.add_zero]; rfl, trivial⟩ ?_
    intro x hx
    simp only [upd, zaa, za, List.cons_append, List.nil_append]
    have hx0 := hx
    refine zaf ?_
    refine zad ?_
    refine zab rfl rfl rfl (op_lss rfl (ev1 rfl) (ev1 rfl)) ?_
    refine zae ?_
    refine zaf ?_
    refine dwp_cond rfl (fun c2 => ?_) (fun c2 => ?_)
    · try simp only [decide_eq_true_eq, decide_eq_false_iff_not, beq_iff_eq, bne_iff_ne, beq_eq_false_iff_ne, bne_eq_false_iff_eq, Bool.not_eq_true', Bool.not_eq_false', Bool.and_eq_true, Bool.or_eq_true, Bool.or_eq_false_iff, ne_eq, Decidable.not_not, Int.not_lt, Int.not_le] at c2
      refine zal ?_
      refine zaf ?_
      refine dwp_block ?_
      refine zaf ?_
      have hx8 : x < (w * 8).toNat := by omega
      have ho : onS w h (x : Int) (y : Int) = true := onS_iff.2 ⟨by omega, by omega⟩
      refine zad ?_
      refine zab rfl rfl rfl (zac (.inl rfl) (ev1 rfl)) ?_
      refine zab rfl rfl rfl (zac (.inr rfl) (ev1 rfl)) ?_
      refine zae ?_
      refine zaf ?_
      refine zad ?_
      refine zab rfl rfl rfl (zac (.inl rfl) (ev1 rfl)) ?_
      refine zab rfl rfl rfl (zac (.inl rfl) (ev1 rfl)) ?_
      refine zab rfl rfl rfl (op_build (ps := [(0, .tmp 23), (1, .tmp 24)]) rfl fl51 zr51 (vc (ev1 rfl) (vc (ev1 rfl) vn)) rfl rfl) ?_
      refine zab rfl rfl rfl (op_ldw rfl tb47 (ev1 rfl) rfl rfl) ?_
      refine zab rfl rfl rfl (zac (.inl rfl) (ev1 rfl)) ?_
      refine zab rfl rfl rfl (zah [] [] [] rfl (ev1 rfl) (ec (ev1 rfl) (ec (ev1 rfl) (ec (ev1 rfl) en))) rfl rfl (rnear_d ⟨(x : Int), (y : Int)⟩ c n r l hnn (by simp only; omega) hdl) rfl rfl rfl rfl rfl rfl) ?_
      refine zae ?_
      refine dwp_cond rfl (fun c3 => ?_) (fun c3 => ?_)
      · refine zad ?_
        refine zab rfl rfl rfl (op_ldmw rfl tb24 (ev1 rfl) rfl rfl) ?_
        refine zab rfl rfl rfl (zac (.inl rfl) (ev1 rfl)) ?_
        refine zab rfl rfl rfl (zac (.inl rfl) (ev1 rfl)) ?_
        refine zab rfl rfl rfl (op_fa rfl fo47_0 (ev1 rfl)) ?_
        refine zab rfl rfl rfl (op_ldr rfl tb27 (ev1 rfl) rfl rfl rfl) ?_
        refine zab rfl rfl rfl (op_build (ps := [(0, .tmp 30), (1, .tmp 31), (2, .tmp 33)]) rfl fl96 zr96 (vc (ev1 rfl) (vc (ev1 rfl) (vc (ev1 rfl) vn))) rfl rfl) ?_
        refine zab rfl rfl rfl (zah [] [] [] rfl (ev1 rfl) (ec (ev1 rfl) (ec (ev1 rfl) en)) rfl rfl (put_d w h _ ⟨(x : Int), (y : Int), c⟩ (hc.puts _)) rfl rfl rfl rfl rfl rfl) ?_
        refine walk_s rfl rfl (op_stmw rfl tb24 (ev1 rfl) (ev1 rfl) rfl rfl rfl rfl) (by simp only [upd, zaa, za]; exact rfl) ?_
        refine zae ?_
        refine zad ?_
        refine zab rfl rfl rfl (op_add' rfl (ev1 rfl) (ev1 rfl) (fun _ => IntWalk.i64_in _ (by omega))) ?_
        refine zab rfl rfl rfl (zac (.inl rfl) (ev1 rfl)) ?_
        refine zae ?_
        refine ⟨x + 1, [0, 1, 2, 3], by omega, by simp only []; omega, rfl, ⟨rfl, rfl, rfl, rfl, rfl, rfl, rfl, rfl, rfl, rfl, trivial⟩, ⟨rfl, rfl, rfl, by rw [skD_yes hx8 c3, puts_one]; rfl, trivial⟩⟩
      · refine zal ?_
        refine zad ?_
        refine zab rfl rfl rfl (op_add' rfl (ev1 rfl) (ev1 rfl) (fun _ => IntWalk.i64_in _ (by omega))) ?_
        refine zab rfl rfl rfl (zac (.inl rfl) (ev1 rfl)) ?_
        refine zae ?_
        refine ⟨x + 1, [0, 1, 2, 3], by omega, by simp only []; omega, rfl, ⟨rfl, rfl, rfl, rfl, rfl, rfl, rfl, rfl, rfl, rfl, trivial⟩, ⟨rfl, rfl, rfl, by rw [skD_no hx8 c3]; rfl, trivial⟩⟩
    · try simp only [decide_eq_true_eq, decide_eq_false_iff_not, beq_iff_eq, bne_iff_ne, beq_eq_false_iff_ne, bne_eq_false_iff_eq, Bool.not_eq_true', Bool.not_eq_false', Bool.and_eq_true, Bool.or_eq_true, Bool.or_eq_false_iff, ne_eq, Decidable.not_not, Int.not_lt, Int.not_le] at c2
      refine dwp_exit ?_
      refine zad ?_
      refine zab rfl rfl rfl (op_add' rfl (ev1 rfl) (ev1 rfl) (fun _ => IntWalk.i64_in _ (by omega))) ?_
      refine zab rfl rfl rfl (zac (.inl rfl) (ev1 rfl)) ?_
      refine zae ?_
      obtain rfl : x = (w * 8).toNat := by omega
      refine ⟨y + 1, [0, 1, 2, 3], by omega, by simp only []; omega, rfl, ⟨rfl, rfl, rfl, rfl, rfl, rfl, rfl, trivial⟩, ⟨rfl, rfl, rfl, by rw [Nat.succ_mul]; rfl, trivial⟩⟩
  · try simp only [decide_eq_true_eq, decide_eq_false_iff_not, beq_iff_eq, bne_iff_ne, beq_eq_false_iff_ne, bne_eq_false_iff_eq, Bool.not_eq_true', Bool.not_eq_false', Bool.and_eq_true, Bool.or_eq_true, Bool.or_eq_false_iff, ne_eq, Decidable.not_not, Int.not_lt, Int.not_le] at c1
    refine dwp_exit ?_
    refine zaf ?_
    obtain rfl : y = (h * 8).toNat := by omega
    rw [sk_drw hc c (near_sw hs)]
    refine zad ?_
    refine zab rfl rfl rfl (op_ldmw rfl tb24 (ev1 rfl) rfl rfl) ?_
    refine walk_s rfl rfl (op_stam rfl tb24 (ev1 rfl) (ev1 rfl) rfl rfl rfl rfl) (by simp only [upd, zaa, za]; exact rfl) ?_
    refine zae ?_
    refine dwp_ret ?_
    refine kend0 (rs1 rfl (rv_mw tb24 rfl rfl rfl)) rfl ?_
    rfl
end Go.Proofs.YtjgnalfnginjbaaGreatDoor
namespace Go.Proofs.YtjgnalfnginjbaaGreatDoor
set_option maxRecDepth 4000
set_option linter.unusedVariables false
set_option linter.unusedSimpArgs false
open Go.RowKit
def sgZ (a b : Int) : Int := if b < a then -1 else 1
theorem along_sg (n k : Nat) (a b : Int) : a + sgZ a b * (farN n k (wayN a b) : Int) = alongZ n k a b := by
  unfold sgZ alongZ
  split <;> omega
theorem sg_bd (a b : Int) {z : Int} (h0 : 0 ≤ z) (h1 : z ≤ 5000) : -5000 ≤ sgZ a b * z ∧ sgZ a b * z ≤ 5000 := by
  unfold sgZ
  split <;> omega
theorem refP_eq1 {a b : P2} {i : Nat} (h : wayN a.x b.x < wayN a.y b.y) : (⟨a.x + sgZ a.x b.x * (farN (wayN a.y b.y) i (wayN a.x b.x) : Int), a.y + sgZ a.y b.y * (i : Int)⟩ : P2) = lineP a b i := by
  have e : gr2 a b = wayN a.y b.y := by unfold gr2; omega
  unfold lineP
  rw [e, ← along_sg, ← along_sg, far_self (by omega)]
theorem refP_eq2 {a b : P2} {i : Nat} (h : wayN a.y b.y ≤ wayN a.x b.x) (h0 : 0 < wayN a.x b.x) : (⟨a.x + sgZ a.x b.x * (i : Int), a.y + sgZ a.y b.y * (farN (wayN a.x b.x) i (wayN a.y b.y) : Int)⟩ : P2) = lineP a b i := by
  have e : gr2 a b = wayN a.x b.x := by unfold gr2; omega
  unfold lineP
  rw [e, ← along_sg, ← along_sg, far_self (by omega)]
theorem refP_eq3 {a b : P2} {i : Nat} (h : wayN a.x b.x = 0) (h2 : wayN a.y b.y = 0) (hi : i = 0) : (⟨a.x + sgZ a.x b.x * (i : Int), a.y + sgZ a.y b.y * ((0 : Nat) : Int)⟩ : P2) = lineP a b i := by
  subst hi
  rw [line_zero]
  cases a
  simp
theorem fewO_eq (l : List P2) : l.take (fewO l).length = fewO l := by unfold fewO; rw [List.length_take]; congr 1; omega
theorem sw_line {n : Int} {a b : P2} (hn : 0 ≤ n ∧ n ≤ 15) (ha : drwB a = true) (hb : drwB b = true) : swB n (lineL a b) = true := by
  refine swB_iff.2 ⟨hn, fun p hp => ?_⟩
  exact List.all_eq_true.1 (lineL_drw ha hb) p hp
theorem sw_yes {n : Int} {l : List P2} (hn : 0 ≤ n ∧ n ≤ 15) (hl : drwL l = true) : swB n l = true := by
  unfold swB
  rw [decide_eq_true hn.1, decide_eq_true hn.2, hl]; rfl
theorem sw_bad {n : Int} {l : List P2} (h : ¬ ((0 ≤ n ∧ n ≤ 15) ∧ drwL l = true)) : swB n l = false := by
  rw [← Bool.not_eq_true]
  intro g
  unfold swB at g
  simp only [Bool.and_eq_true, decide_eq_true_eq] at g
  exact h g
set_option maxRecDepth 4000 in
set_option maxHeartbeats 1000000 in
theorem away_d (a b : Int) (ha : -5000 ≤ a ∧ a ≤ 5000) (hb : -5000 ≤ b ∧ b ≤ 5000) : DFun Tryz.prog 66 [.val (.int .i64 a), .val (.int .i64 b)] [] (.tup [.val (.int .i64 (wayN a b : Int)), .val (.int .i64 (sgZ a b))]) [] := by
  refine dcalls_go (N := 15) 0 (by kernel_rfl) Tryz.func66 rfl rfl rfl (by simp only [fr0, Nat.zero_add, Nat.reduceAdd]; exact rfl) rfl fun s0 hs0 => ?_
  refine zaf ?_
  refine zad ?_
  refine zab rfl rfl rfl (zac (.inr rfl) (ev1 rfl)) ?_
  refine zab rfl rfl rfl (zac (.inr rfl) (ev1 rfl)) ?_
  refine zae ?_
  refine zaf ?_
  refine zaf ?_
  refine zad ?_
  refine zab rfl rfl rfl (zac (.inl rfl) (ev1 rfl)) ?_
  refine zab rfl rfl rfl (zac (.inl rfl) (ev1 rfl)) ?_
  refine zab rfl rfl rfl (op_lss rfl (ev1 rfl) (ev1 rfl)) ?_
  refine zae ?_
  refine dwp_cond rfl (fun c1 => ?_) (fun c1 => ?_)
  · have c2 : b < a := by simpa using c1
    have hs : sgZ a b = -1 := if_pos c2
    refine zaf ?_
    refine zad ?_
    refine zab rfl rfl rfl (zac (.inl rfl) (ev1 rfl)) ?_
    refine zab rfl rfl rfl (zac (.inl rfl) (ev1 rfl)) ?_
    refine zab rfl rfl rfl (op_sub' rfl (ev1 rfl) (ev1 rfl) (fun _ => IntWalk.i64_in _ (by omega))) ?_
    refine zab rfl rfl rfl (zac (.inr rfl) (ev1 rfl)) ?_
    refine zab rfl rfl rfl (zac (.inr rfl) (ev1 rfl)) ?_
    refine zae ?_
    refine dwp_ret ?_
    refine kend0 (rs2 rfl (rv_t rfl) (rv_t rfl)) rfl ?_
    rw [hs, wayN_eq]
    rw [show max a b - min a b = _ from by first | exact (show max a b - min a b = a - b by omega) | exact (show max a b - min a b = b - a by omega)]
  · have c2 : ¬ b < a := by simpa using c1
    have hs : sgZ a b = 1 := if_neg c2
    refine zal ?_
    refine zaf ?_
    refine zad ?_
    refine zab rfl rfl rfl (zac (.inl rfl) (ev1 rfl)) ?_
    refine zab rfl rfl rfl (zac (.inl rfl) (ev1 rfl)) ?_
    refine zab rfl rfl rfl (op_sub' rfl (ev1 rfl) (ev1 rfl) (fun _ => IntWalk.i64_in _ (by omega))) ?_
    refine zab rfl rfl rfl (zac (.inr rfl) (ev1 rfl)) ?_
    refine zab rfl rfl rfl (zac (.inr rfl) (ev1 rfl)) ?_
    refine zae ?_
    refine dwp_ret ?_
    refine kend0 (rs2 rfl (rv_t rfl) (rv_t rfl)) rfl ?_
    rw [hs, wayN_eq]
    rw [show max a b - min a b = _ from by first | exact (show max a b - min a b = a - b by omega) | exact (show max a b - min a b = b - a by omega)]
set_option maxRecDepth 4000 in
set_option maxHeartbeats 1000000 in
theorem rline_o (a b : P2) (ha : drwB a = true) (hb : drwB b = true) : DFun Tryz.prog 28 [.val (.agg #[.int .i64 a.x, .int .i64 a.y]), .val (.agg #[.int .i64 b.x, .int .i64 b.y])] [] (.arr 0) [.arr 51 2 (lineL a b).length ((lineL a b).flatMap p2)] := by
  have hA := drwB_iff.1 ha
  have hB := drwB_iff.1 hb
  have hwx := wayN_eq a.x b.x
  have hwy := wayN_eq a.y b.y
  refine dcalls_go (N := 90) 0 (by kernel_rfl) Tryz.func28 rfl rfl rfl (by simp only [fr0, Nat.zero_add, Nat.reduceAdd]; exact rfl) rfl fun s0 hs0 => ?_
  refine zaf ?_
  refine zai 2 (by simp only [holes, List.cons_append, List.nil_append]; exact rfl) ?_
  refine zad ?_
  refine zaj rfl rfl rfl (op_boxa 0 rfl (ev1 rfl) rfl) (by simp only [upd, zaa, za]; exact rfl) ?_
  refine zaj rfl rfl rfl (op_boxa 1 rfl (ev1 rfl) rfl) (by simp only [upd, zaa, za]; exact rfl) ?_
  refine zab rfl rfl rfl (zac (.inr rfl) (ev1 rfl)) ?_
  refine zae ?_
  refine zaf ?_
  refine zad ?_
  refine zab rfl rfl rfl (op_fa rfl fo51_0 (ev1 rfl)) ?_
  refine zab rfl rfl rfl (op_ldo rfl tb3 (ev1 rfl) rfl rfl) ?_
  refine zab rfl rfl rfl (op_fa rfl fo51_0 (ev1 rfl)) ?_
  refine zab rfl rfl rfl (op_ldo rfl tb3 (ev1 rfl) rfl rfl) ?_
  refine zab rfl rfl rfl (zah [] [] [] rfl (ev1 rfl) (ec (ev1 rfl) (ec (ev1 rfl) en)) rfl rfl (away_d a.x b.x (by omega) (by omega)) rfl rfl rfl rfl rfl rfl) ?_
  refine zab rfl rfl rfl (zac (.inl rfl) (ev1 rfl)) ?_
  refine zab rfl rfl rfl (op_ext rfl (ev1 rfl) rfl) ?_
  refine zab rfl rfl rfl (op_ext rfl (ev1 rfl) rfl) ?_
  refine zab rfl rfl rfl (zac (.inr rfl) (ev1 rfl)) ?_
  refine zab rfl rfl rfl (zac (.inr rfl) (ev1 rfl)) ?_
  refine zae ?_
  refine zaf ?_
  refine zad ?_
  refine zab rfl rfl rfl (op_fa rfl fo51_1 (ev1 rfl)) ?_
  refine zab rfl rfl rfl (op_ldo rfl tb3 (ev1 rfl) rfl rfl) ?_
  refine zab rfl rfl rfl (op_fa rfl fo51_1 (ev1 rfl)) ?_
  refine zab rfl rfl rfl (op_ldo rfl tb3 (ev1 rfl) rfl rfl) ?_
  refine zab rfl rfl rfl (zah [] [] [] rfl (ev1 rfl) (ec (ev1 rfl) (ec (ev1 rfl) en)) rfl rfl (away_d a.y b.y (by omega) (by omega)) rfl rfl rfl rfl rfl rfl) ?_
  refine zab rfl rfl rfl (zac (.inl rfl) (ev1 rfl)) ?_
  refine zab rfl rfl rfl (op_ext rfl (ev1 rfl) rfl) ?_
  refine zab rfl rfl rfl (op_ext rfl (ev1 rfl) rfl) ?_
  refine zab rfl rfl rfl (zac (.inr rfl) (ev1 rfl)) ?_
  refine zab rfl rfl rfl (zac (.inr rfl) (ev1 rfl)) ?_
  refine zae ?_
  refine zaf ?_
  refine zad ?_
  refine zab rfl rfl rfl (zac (.inl rfl) (ev1 rfl)) ?_
  refine zab rfl rfl rfl (zac (.inl rfl) (ev1 rfl)) ?_
  refine zab rfl rfl rfl (zac (.inr rfl) (ev1 rfl)) ?_
  refine zab rfl rfl rfl (zac (.inr rfl) (ev1 rfl)) ?_
  refine zae ?_
  refine zaf ?_
  refine zaf ?_
  by_cases hgt : wayN a.x b.x < wayN a.y b.y
  · have hgr : gr2 a b = wayN a.y b.y := by unfold gr2; omega
    refine zad ?_
    refine zab rfl rfl rfl (zac (.inl rfl) (ev1 rfl)) ?_
    refine zab rfl rfl rfl (zac (.inl rfl) (ev1 rfl)) ?_
    refine zab rfl rfl rfl (op_gtr rfl (ev1 rfl) (ev1 rfl)) ?_
    refine zae ?_
    refine dwp_if_t rfl (decide_eq_true (by omega)) ?_
    refine zad ?_
    refine zab rfl rfl rfl (zac (.inl rfl) (ev1 rfl)) ?_
    refine zab rfl rfl rfl (zac (.inl rfl) (ev1 rfl)) ?_
    refine zab rfl rfl rfl (zac (.inr rfl) (ev1 rfl)) ?_
    refine zab rfl rfl rfl (zac (.inr rfl) (ev1 rfl)) ?_
    refine zae ?_
    refine zaf ?_
    refine zad ?_
    refine zab rfl rfl rfl (zac (.inr rfl) (ev1 rfl)) ?_
    refine zae ?_
    refine zaf ?_
    refine zaf ?_
    refine zad ?_
    refine zab rfl rfl rfl (zac (.inl rfl) (ev1 rfl)) ?_
    refine zab rfl rfl rfl (op_add' rfl (ev1 rfl) (ev1 rfl) (fun _ => IntWalk.i64_in _ (by omega))) ?_
    refine zab rfl rfl rfl (zac (.inl rfl) (ev1 rfl)) ?_
    refine zae ?_
    refine dwp_block ?_
    refine dwp_adopt 11 51 2 rfl rfl rfl ?_
    refine dwp_loopS ⟨hs0, rfl⟩ (α := Nat) (fun i => [(39, .val (.int .i64 (i : Int)))]) [(2, _), (5, _), (6, _), (7, _), (8, _), (9, _), (10, _), (11, _), (38, _)] (fun i => [(2, .arr 51 2 (lineK a b i).length ((lineK a b i).flatMap p2))]) [_, _, .hole] (fun i => i ≤ gr2 a b + 1) (fun i => gr2 a b + 1 - i) 0 [0, 1, 2] (Nat.zero_le _) rfl ⟨rfl, rfl, rfl, rfl, rfl, rfl, rfl, rfl, rfl, trivial⟩ ⟨rfl, trivial⟩ ⟨rfl, rfl, rfl, trivial⟩ ?_
    intro i hx
    simp only [upd, zaa, za, List.cons_append, List.nil_append]
    have hi0 := hx
    have hkl := lineK_len a b i
    refine zaf ?_
    refine zad ?_
    refine zab rfl rfl rfl (op_lss rfl (ev1 rfl) (ev1 rfl)) ?_
    refine zae ?_
    refine zaf ?_
    refine dwp_cond rfl (fun c2 => ?_) (fun c2 => ?_)
    · try simp only [decide_eq_true_eq, decide_eq_false_iff_not, beq_iff_eq, bne_iff_ne, beq_eq_false_iff_ne, bne_eq_false_iff_eq, Bool.not_eq_true', Bool.not_eq_false', Bool.and_eq_true, Bool.or_eq_true, Bool.or_eq_false_iff, ne_eq, Decidable.not_not, Int.not_lt, Int.not_le] at c2
      refine zal ?_
      refine zaf ?_
      refine dwp_block ?_
      refine zaf ?_
      have hfar : farN (wayN a.y b.y) i (wayN a.x b.x) ≤ wayN a.x b.x := far_le (by omega) (by omega)
      have hmul : (0 : Int) ≤ 2 * (i : Int) * (wayN a.x b.x : Int) ∧ 2 * (i : Int) * (wayN a.x b.x : Int) ≤ 2000 * 2000 := ⟨Int.mul_nonneg (by omega) (by omega), Int.mul_le_mul (by omega) (by omega) (by omega) (by omega)⟩
      have hgi : i ≤ gr2 a b := by omega
      have s1 := sg_bd a.x b.x (z := (farN (wayN a.y b.y) i (wayN a.x b.x) : Int)) (by omega) (by omega)
      have s2 := sg_bd a.y b.y (z := (i : Int)) (by omega) (by omega)
      refine zad ?_
      refine zab rfl rfl rfl (zac (.inl rfl) (ev1 rfl)) ?_
      refine zab rfl rfl rfl (zac (.inr rfl) (ev1 rfl)) ?_
      refine zae ?_
      refine zaf ?_
      refine zad ?_
      refine zab rfl rfl rfl (zac (.inr rfl) (ev1 rfl)) ?_
      refine zae ?_
      refine zaf ?_
      refine zaf ?_
      refine zad ?_
      refine zab rfl rfl rfl (zac (.inl rfl) (ev1 rfl)) ?_
      refine zab rfl rfl rfl (op_gtr rfl (ev1 rfl) (ev1 rfl)) ?_
      refine zae ?_
      refine dwp_if_t rfl (decide_eq_true (by omega)) ?_
      refine zad ?_
      refine zab rfl rfl rfl (zac (.inl rfl) (ev1 rfl)) ?_
      refine zab rfl rfl rfl (op_mul' rfl (ev1 rfl) (ev1 rfl) (fun _ => IntWalk.i64_in _ (by omega))) ?_
      refine zab rfl rfl rfl (zac (.inl rfl) (ev1 rfl)) ?_
      refine zab rfl rfl rfl (op_mul' rfl (ev1 rfl) (ev1 rfl) (fun _ => IntWalk.i64_in _ (by omega))) ?_
      refine zab rfl rfl rfl (zac (.inl rfl) (ev1 rfl)) ?_
      refine zab rfl rfl rfl (op_add' rfl (ev1 rfl) (ev1 rfl) (fun _ => IntWalk.i64_in _ (by omega))) ?_
      refine zab rfl rfl rfl (zac (.inl rfl) (ev1 rfl)) ?_
      refine zab rfl rfl rfl (op_mul' rfl (ev1 rfl) (ev1 rfl) (fun _ => IntWalk.i64_in _ (by omega))) ?_
      refine zab rfl rfl rfl ((op_quo' rfl (ev1 rfl) (ev1 rfl) (fun _ => ⟨by omega, by omega, by rw [far_int (k := i) (w := wayN a.x b.x) rfl]; exact IntWalk.i64_in _ (by omega)⟩)).cast (d' := .val (.int .i64 (farN (wayN a.y b.y) i (wayN a.x b.x) : Int))) (by rw [far_int (k := i) (w := wayN a.x b.x) rfl])) ?_
      refine zab rfl rfl rfl (zac (.inr rfl) (ev1 rfl)) ?_
      refine zae ?_
      refine zaf ?_
      refine zad ?_
      refine zab rfl rfl rfl (zac (.inl rfl) (ev1 rfl)) ?_
      refine zab rfl rfl rfl (zac (.inl rfl) (ev1 rfl)) ?_
      refine zab rfl rfl rfl (op_gtr rfl (ev1 rfl) (ev1 rfl)) ?_
      refine zae ?_
      refine dwp_if_t rfl (decide_eq_true (by omega)) ?_
      refine zai 1 (by simp only [holes, List.cons_append, List.nil_append]; exact rfl) ?_
      refine zad ?_
      refine zab rfl rfl rfl (zac (.inl rfl) (ev1 rfl)) ?_
      refine zab rfl rfl rfl (op_fa rfl fo51_0 (ev1 rfl)) ?_
      refine zab rfl rfl rfl (op_ldo rfl tb3 (ev1 rfl) rfl rfl) ?_
      refine zab rfl rfl rfl (zac (.inl rfl) (ev1 rfl)) ?_
      refine zab rfl rfl rfl (zac (.inl rfl) (ev1 rfl)) ?_
      refine zab rfl rfl rfl (op_mul' rfl (ev1 rfl) (ev1 rfl) (fun _ => IntWalk.i64_in _ (by omega))) ?_
      refine zab rfl rfl rfl (op_add' rfl (ev1 rfl) (ev1 rfl) (fun _ => IntWalk.i64_in _ (by omega))) ?_
      refine zab rfl rfl rfl (op_fa rfl fo51_1 (ev1 rfl)) ?_
      refine zab rfl rfl rfl (op_ldo rfl tb3 (ev1 rfl) rfl rfl) ?_
      refine zab rfl rfl rfl (zac (.inl rfl) (ev1 rfl)) ?_
      refine zab rfl rfl rfl (zac (.inl rfl) (ev1 rfl)) ?_
      refine zab rfl rfl rfl (op_mul' rfl (ev1 rfl) (ev1 rfl) (fun _ => IntWalk.i64_in _ (by omega))) ?_
      refine zab rfl rfl rfl (op_add' rfl (ev1 rfl) (ev1 rfl) (fun _ => IntWalk.i64_in _ (by omega))) ?_
      refine zab rfl rfl rfl (op_build (ps := [(0, .tmp 62), (1, .tmp 68)]) rfl fl51 zr51 (vc (ev1 rfl) (vc (ev1 rfl) vn)) rfl rfl) ?_
      refine zab rfl rfl rfl (op_bs (ps := [(0, .tmp 69)]) rfl sl48 zr51 rfl (vc (ev1 rfl) vn) rfl (by decide) (by decide)) ?_
      refine zaj rfl rfl rfl (op_app (j := 3) rfl sl48 zr51 rfl (ev1 rfl) (ev1 rfl) src_slf rfl rfl (fun _ => rfl) (fun _ => ⟨by omega, by omega⟩)) (by simp only [upd, zaa, za]; exact rfl) ?_
      refine zab rfl rfl rfl (zac (.inr rfl) (ev1 rfl)) ?_
      refine zae ?_
      refine zad ?_
      refine zab rfl rfl rfl (op_add' rfl (ev1 rfl) (ev1 rfl) (fun _ => IntWalk.i64_in _ (by omega))) ?_
      refine zab rfl rfl rfl (zac (.inl rfl) (ev1 rfl)) ?_
      refine zae ?_
      refine ⟨i + 1, [0, 1, 3], by omega, by simp only []; omega, rfl, ⟨rfl, rfl, rfl, rfl, rfl, rfl, rfl, rfl, rfl, rfl, trivial⟩, ⟨rfl, rfl, (by rw [lineK_succ, List.length_append, List.flatMap_append, ← refP_eq1 hgt]; rfl), trivial⟩⟩
    · try simp only [decide_eq_true_eq, decide_eq_false_iff_not, beq_iff_eq, bne_iff_ne, beq_eq_false_iff_ne, bne_eq_false_iff_eq, Bool.not_eq_true', Bool.not_eq_false', Bool.and_eq_true, Bool.or_eq_true, Bool.or_eq_false_iff, ne_eq, Decidable.not_not, Int.not_lt, Int.not_le] at c2
      refine dwp_exit ?_
      refine zaf ?_
      refine zad ?_
      refine zab rfl rfl rfl (zac (.inl rfl) (ev1 rfl)) ?_
      refine zab rfl rfl rfl (zac (.inr rfl) (ev1 rfl)) ?_
      refine zae ?_
      refine dwp_ret ?_
      refine kend [2] (rs1 rfl (rv_t rfl)) rfl rfl ?_ ⟨?_, trivial⟩
      rfl
      exact (by rw [← lineK_all, show gr2 a b + 1 = i by omega]; rfl)
  · by_cases hz : 0 < wayN a.x b.x
    · have hgr : gr2 a b = wayN a.x b.x := by unfold gr2; omega
      refine zad ?_
      refine zab rfl rfl rfl (zac (.inl rfl) (ev1 rfl)) ?_
      refine zab rfl rfl rfl (zac (.inl rfl) (ev1 rfl)) ?_
      refine zab rfl rfl rfl (op_gtr rfl (ev1 rfl) (ev1 rfl)) ?_
      refine zae ?_
      refine dwp_if_f rfl (decide_eq_false (by omega)) ?_
      refine zal ?_
      refine zaf ?_
      refine zad ?_
      refine zab rfl rfl rfl (zac (.inr rfl) (ev1 rfl)) ?_
      refine zae ?_
      refine zaf ?_
      refine zaf ?_
      refine zad ?_
      refine zab rfl rfl rfl (zac (.inl rfl) (ev1 rfl)) ?_
      refine zab rfl rfl rfl (op_add' rfl (ev1 rfl) (ev1 rfl) (fun _ => IntWalk.i64_in _ (by omega))) ?_
      refine zab rfl rfl rfl (zac (.inl rfl) (ev1 rfl)) ?_
      refine zae ?_
      refine dwp_block ?_
      refine dwp_adopt 11 51 2 rfl rfl rfl ?_
      refine dwp_loopS ⟨hs0, rfl⟩ (α := Nat) (fun i => [(39, .val (.int .i64 (i : Int)))]) [(2, _), (5, _), (6, _), (7, _), (8, _), (9, _), (10, _), (11, _), (38, _)] (fun i => [(2, .arr 51 2 (lineK a b i).length ((lineK a b i).flatMap p2))]) [_, _, .hole] (fun i => i ≤ gr2 a b + 1) (fun i => gr2 a b + 1 - i) 0 [0, 1, 2] (Nat.zero_le _) rfl ⟨rfl, rfl, rfl, rfl, rfl, rfl, rfl, rfl, rfl, trivial⟩ ⟨rfl, trivial⟩ ⟨rfl, rfl, rfl, trivial⟩ ?_
      intro i hx
      simp only [upd, zaa, za, List.cons_append, List.nil_append]
      have hi0 := hx
      have hkl := lineK_len a b i
      refine zaf ?_
      refine zad ?_
      refine zab rfl rfl rfl (op_lss rfl (ev1 rfl) (ev1 rfl)) ?_
      refine zae ?_
      refine zaf ?_
      refine dwp_cond rfl (fun c6 => ?_) (fun c6 => ?_)
      · try simp only [decide_eq_true_eq, decide_eq_false_iff_not, beq_iff_eq, bne_iff_ne, beq_eq_false_iff_ne, bne_eq_false_iff_eq, Bool.not_eq_true', Bool.not_eq_false', Bool.and_eq_true, Bool.or_eq_true, Bool.or_eq_false_iff, ne_eq, Decidable.not_not, Int.not_lt, Int.not_le] at c6
        refine zal ?_
        refine zaf ?_
        refine dwp_block ?_
        refine zaf ?_
        have hfar : farN (wayN a.x b.x) i (wayN a.y b.y) ≤ wayN a.y b.y := far_le (by omega) (by omega)
        have hmul : (0 : Int) ≤ 2 * (i : Int) * (wayN a.y b.y : Int) ∧ 2 * (i : Int) * (wayN a.y b.y : Int) ≤ 2000 * 2000 := ⟨Int.mul_nonneg (by omega) (by omega), Int.mul_le_mul (by omega) (by omega) (by omega) (by omega)⟩
        have hgi : i ≤ gr2 a b := by omega
        have s1 := sg_bd a.x b.x (z := (i : Int)) (by omega) (by omega)
        have s2 := sg_bd a.y b.y (z := (farN (wayN a.x b.x) i (wayN a.y b.y) : Int)) (by omega) (by omega)
        refine zad ?_
        refine zab rfl rfl rfl (zac (.inl rfl) (ev1 rfl)) ?_
        refine zab rfl rfl rfl (zac (.inr rfl) (ev1 rfl)) ?_
        refine zae ?_
        refine zaf ?_
        refine zad ?_
        refine zab rfl rfl rfl (zac (.inr rfl) (ev1 rfl)) ?_
        refine zae ?_
        refine zaf ?_
        refine zaf ?_
        refine zad ?_
        refine zab rfl rfl rfl (zac (.inl rfl) (ev1 rfl)) ?_
        refine zab rfl rfl rfl (op_gtr rfl (ev1 rfl) (ev1 rfl)) ?_
        refine zae ?_
        refine dwp_if_t rfl (decide_eq_true (by omega)) ?_
        refine zad ?_
        refine zab rfl rfl rfl (zac (.inl rfl) (ev1 rfl)) ?_
        refine zab rfl rfl rfl (op_mul' rfl (ev1 rfl) (ev1 rfl) (fun _ => IntWalk.i64_in _ (by omega))) ?_
        refine zab rfl rfl rfl (zac (.inl rfl) (ev1 rfl)) ?_
        refine zab rfl rfl rfl (op_mul' rfl (ev1 rfl) (ev1 rfl) (fun _ => IntWalk.i64_in _ (by omega))) ?_
        refine zab rfl rfl rfl (zac (.inl rfl) (ev1 rfl)) ?_
        refine zab rfl rfl rfl (op_add' rfl (ev1 rfl) (ev1 rfl) (fun _ => IntWalk.i64_in _ (by omega))) ?_
        refine zab rfl rfl rfl (zac (.inl rfl) (ev1 rfl)) ?_
        refine zab rfl rfl rfl (op_mul' rfl (ev1 rfl) (ev1 rfl) (fun _ => IntWalk.i64_in _ (by omega))) ?_
        refine zab rfl rfl rfl ((op_quo' rfl (ev1 rfl) (ev1 rfl) (fun _ => ⟨by omega, by omega, by rw [far_int (k := i) (w := wayN a.y b.y) rfl]; exact IntWalk.i64_in _ (by omega)⟩)).cast (d' := .val (.int .i64 (farN (wayN a.x b.x) i (wayN a.y b.y) : Int))) (by rw [far_int (k := i) (w := wayN a.y b.y) rfl])) ?_
        refine zab rfl rfl rfl (zac (.inr rfl) (ev1 rfl)) ?_
        refine zae ?_
        refine zaf ?_
        refine zad ?_
        refine zab rfl rfl rfl (zac (.inl rfl) (ev1 rfl)) ?_
        refine zab rfl rfl rfl (zac (.inl rfl) (ev1 rfl)) ?_
        refine zab rfl rfl rfl (op_gtr rfl (ev1 rfl) (ev1 rfl)) ?_
        refine zae ?_
        refine dwp_if_f rfl (decide_eq_false (by omega)) ?_
        refine zai 1 (by simp only [holes, List.cons_append, List.nil_append]; exact rfl) ?_
        refine zad ?_
        refine zab rfl rfl rfl (zac (.inl rfl) (ev1 rfl)) ?_
        refine zab rfl rfl rfl (op_fa rfl fo51_0 (ev1 rfl)) ?_
        refine zab rfl rfl rfl (op_ldo rfl tb3 (ev1 rfl) rfl rfl) ?_
        refine zab rfl rfl rfl (zac (.inl rfl) (ev1 rfl)) ?_
        refine zab rfl rfl rfl (zac (.inl rfl) (ev1 rfl)) ?_
        refine zab rfl rfl rfl (op_mul' rfl (ev1 rfl) (ev1 rfl) (fun _ => IntWalk.i64_in _ (by omega))) ?_
        refine zab rfl rfl rfl (op_add' rfl (ev1 rfl) (ev1 rfl) (fun _ => IntWalk.i64_in _ (by omega))) ?_
        refine zab rfl rfl rfl (op_fa rfl fo51_1 (ev1 rfl)) ?_
        refine zab rfl rfl rfl (op_ldo rfl tb3 (ev1 rfl) rfl rfl) ?_
        refine zab rfl rfl rfl (zac (.inl rfl) (ev1 rfl)) ?_
        refine zab rfl rfl rfl (zac (.inl rfl) (ev1 rfl)) ?_
        refine zab rfl rfl rfl (op_mul' rfl (ev1 rfl) (ev1 rfl) (fun _ => IntWalk.i64_in _ (by omega))) ?_
        refine zab rfl rfl rfl (op_add' rfl (ev1 rfl) (ev1 rfl) (fun _ => IntWalk.i64_in _ (by omega))) ?_
        refine zab rfl rfl rfl (op_build (ps := [(0, .tmp 78), (1, .tmp 84)]) rfl fl51 zr51 (vc (ev1 rfl) (vc (ev1 rfl) vn)) rfl rfl) ?_
        refine zab rfl rfl rfl (op_bs (ps := [(0, .tmp 85)]) rfl sl48 zr51 rfl (vc (ev1 rfl) vn) rfl (by decide) (by decide)) ?_
        refine zaj rfl rfl rfl (op_app (j := 3) rfl sl48 zr51 rfl (ev1 rfl) (ev1 rfl) src_slf rfl rfl (fun _ => rfl) (fun _ => ⟨by omega, by omega⟩)) (by simp only [upd, zaa, za]; exact rfl) ?_
        refine zab rfl rfl rfl (zac (.inr rfl) (ev1 rfl)) ?_
        refine zae ?_
        refine zad ?_
        refine zab rfl rfl rfl (op_add' rfl (ev1 rfl) (ev1 rfl) (fun _ => IntWalk.i64_in _ (by omega))) ?_
        refine zab rfl rfl rfl (zac (.inl rfl) (ev1 rfl)) ?_
        refine zae ?_
        refine ⟨i + 1, [0, 1, 3], by omega, by simp only []; omega, rfl, ⟨rfl, rfl, rfl, rfl, rfl, rfl, rfl, rfl, rfl, rfl, trivial⟩, ⟨rfl, rfl, (by rw [lineK_succ, List.length_append, List.flatMap_append, ← refP_eq2 (by omega) hz]; rfl), trivial⟩⟩
      · try simp only [decide_eq_true_eq, decide_eq_false_iff_not, beq_iff_eq, bne_iff_ne, beq_eq_false_iff_ne, bne_eq_false_iff_eq, Bool.not_eq_true', Bool.not_eq_false', Bool.and_eq_true, Bool.or_eq_true, Bool.or_eq_false_iff, ne_eq, Decidable.not_not, Int.not_lt, Int.not_le] at c6
        refine dwp_exit ?_
        refine zaf ?_
        refine zad ?_
        refine zab rfl rfl rfl (zac (.inl rfl) (ev1 rfl)) ?_
        refine zab rfl rfl rfl (zac (.inr rfl) (ev1 rfl)) ?_
        refine zae ?_
        refine dwp_ret ?_
        refine kend [2] (rs1 rfl (rv_t rfl)) rfl rfl ?_ ⟨?_, trivial⟩
        rfl
        exact (by rw [← lineK_all, show gr2 a b + 1 = i by omega]; rfl)
    · have hgr : gr2 a b = 0 := by unfold gr2; omega
      refine zad ?_
      refine zab rfl rfl rfl (zac (.inl rfl) (ev1 rfl)) ?_
      refine zab rfl rfl rfl (zac (.inl rfl) (ev1 rfl)) ?_
      refine zab rfl rfl rfl (op_gtr rfl (ev1 rfl) (ev1 rfl)) ?_
      refine zae ?_
      refine dwp_if_f rfl (decide_eq_false (by omega)) ?_
      refine zal ?_
      refine zaf ?_
      refine zad ?_
      refine zab rfl rfl rfl (zac (.inr rfl) (ev1 rfl)) ?_
      refine zae ?_
      refine zaf ?_
      refine zaf ?_
      refine zad ?_
      refine zab rfl rfl rfl (zac (.inl rfl) (ev1 rfl)) ?_
      refine zab rfl rfl rfl (op_add' rfl (ev1 rfl) (ev1 rfl) (fun _ => IntWalk.i64_in _ (by omega))) ?_
      refine zab rfl rfl rfl (zac (.inl rfl) (ev1 rfl)) ?_
      refine zae ?_
      refine dwp_block ?_
      refine dwp_adopt 11 51 2 rfl rfl rfl ?_
      refine dwp_loopS ⟨hs0, rfl⟩ (α := Nat) (fun i => [(39, .val (.int .i64 (i : Int)))]) [(2, _), (5, _), (6, _), (7, _), (8, _), (9, _), (10, _), (11, _), (38, _)] (fun i => [(2, .arr 51 2 (lineK a b i).length ((lineK a b i).flatMap p2))]) [_, _, .hole] (fun i => i ≤ gr2 a b + 1) (fun i => gr2 a b + 1 - i) 0 [0, 1, 2] (Nat.zero_le _) rfl ⟨rfl, rfl, rfl, rfl, rfl, rfl, rfl, rfl, rfl, trivial⟩ ⟨rfl, trivial⟩ ⟨rfl, rfl, rfl, trivial⟩ ?_
      intro i hx
      simp only [upd, zaa, za, List.cons_append, List.nil_append]
      have hi0 := hx
      have hkl := lineK_len a b i
      refine zaf ?_
      refine zad ?_
      refine zab rfl rfl rfl (op_lss rfl (ev1 rfl) (ev1 rfl)) ?_
      refine zae ?_
      refine zaf ?_
      refine dwp_cond rfl (fun c10 => ?_) (fun c10 => ?_)
      · try simp only [decide_eq_true_eq, decide_eq_false_iff_not, beq_iff_eq, bne_iff_ne, beq_eq_false_iff_ne, bne_eq_false_iff_eq, Bool.not_eq_true', Bool.not_eq_false', Bool.and_eq_true, Bool.or_eq_true, Bool.or_eq_false_iff, ne_eq, Decidable.not_not, Int.not_lt, Int.not_le] at c10
        refine zal ?_
        refine zaf ?_
        refine dwp_block ?_
        refine zaf ?_
        have hi1 : i = 0 := by omega
        have hgi : i ≤ gr2 a b := by omega
        have s1 := sg_bd a.x b.x (z := (i : Int)) (by omega) (by omega)
        have s2 := sg_bd a.y b.y (z := ((0 : Nat) : Int)) (by omega) (by omega)
        refine zad ?_
        refine zab rfl rfl rfl (zac (.inl rfl) (ev1 rfl)) ?_
        refine zab rfl rfl rfl (zac (.inr rfl) (ev1 rfl)) ?_
        refine zae ?_
        refine zaf ?_
        refine zad ?_
        refine zab rfl rfl rfl (zac (.inr rfl) (ev1 rfl)) ?_
        refine zae ?_
        refine zaf ?_
        refine zaf ?_
        refine zad ?_
        refine zab rfl rfl rfl (zac (.inl rfl) (ev1 rfl)) ?_
        refine zab rfl rfl rfl (op_gtr rfl (ev1 rfl) (ev1 rfl)) ?_
        refine zae ?_
        refine dwp_if_f rfl (decide_eq_false (by omega)) ?_
        refine zal ?_
        refine zaf ?_
        refine zad ?_
        refine zab rfl rfl rfl (zac (.inl rfl) (ev1 rfl)) ?_
        refine zab rfl rfl rfl (zac (.inl rfl) (ev1 rfl)) ?_
        refine zab rfl rfl rfl (op_gtr rfl (ev1 rfl) (ev1 rfl)) ?_
        refine zae ?_
        refine dwp_if_f rfl (decide_eq_false (by omega)) ?_
        refine zai 1 (by simp only [holes, List.cons_append, List.nil_append]; exact rfl) ?_
        refine zad ?_
        refine zab rfl rfl rfl (zac (.inl rfl) (ev1 rfl)) ?_
        refine zab rfl rfl rfl (op_fa rfl fo51_0 (ev1 rfl)) ?_
        refine zab rfl rfl rfl (op_ldo rfl tb3 (ev1 rfl) rfl rfl) ?_
        refine zab rfl rfl rfl (zac (.inl rfl) (ev1 rfl)) ?_
        refine zab rfl rfl rfl (zac (.inl rfl) (ev1 rfl)) ?_
        refine zab rfl rfl rfl (op_mul' rfl (ev1 rfl) (ev1 rfl) (fun _ => IntWalk.i64_in _ (by omega))) ?_
        refine zab rfl rfl rfl (op_add' rfl (ev1 rfl) (ev1 rfl) (fun _ => IntWalk.i64_in _ (by omega))) ?_
        refine zab rfl rfl rfl (op_fa rfl fo51_1 (ev1 rfl)) ?_
        refine zab rfl rfl rfl (op_ldo rfl tb3 (ev1 rfl) rfl rfl) ?_
        refine zab rfl rfl rfl (zac (.inl rfl) (ev1 rfl)) ?_
        refine zab rfl rfl rfl (zac (.inl rfl) (ev1 rfl)) ?_
        refine zab rfl rfl rfl (op_mul' rfl (ev1 rfl) (ev1 rfl) (fun _ => IntWalk.i64_in _ (by omega))) ?_
        refine zab rfl rfl rfl (op_add' rfl (ev1 rfl) (ev1 rfl) (fun _ => IntWalk.i64_in _ (by omega))) ?_
        refine zab rfl rfl rfl (op_build (ps := [(0, .tmp 78), (1, .tmp 84)]) rfl fl51 zr51 (vc (ev1 rfl) (vc (ev1 rfl) vn)) rfl rfl) ?_
        refine zab rfl rfl rfl (op_bs (ps := [(0, .tmp 85)]) rfl sl48 zr51 rfl (vc (ev1 rfl) vn) rfl (by decide) (by decide)) ?_
        refine zaj rfl rfl rfl (op_app (j := 3) rfl sl48 zr51 rfl (ev1 rfl) (ev1 rfl) src_slf rfl rfl (fun _ => rfl) (fun _ => ⟨by omega, by omega⟩)) (by simp only [upd, zaa, za]; exact rfl) ?_
        refine zab rfl rfl rfl (zac (.inr rfl) (ev1 rfl)) ?_
        refine zae ?_
        refine zad ?_
        refine zab rfl rfl rfl (op_add' rfl (ev1 rfl) (ev1 rfl) (fun _ => IntWalk.i64_in _ (by omega))) ?_
        refine zab rfl rfl rfl (zac (.inl rfl) (ev1 rfl)) ?_
        refine zae ?_
        refine ⟨i + 1, [0, 1, 3], by omega, by simp only []; omega, rfl, ⟨rfl, rfl, rfl, rfl, rfl, rfl, rfl, rfl, rfl, rfl, trivial⟩, ⟨rfl, rfl, (by rw [lineK_succ, List.length_append, List.flatMap_append, ← refP_eq3 (by omega) (by omega) (show i = 0 by omega)]; rfl), trivial⟩⟩
      · try simp only [decide_eq_true_eq, decide_eq_false_iff_not, beq_iff_eq, bne_iff_ne, beq_eq_false_iff_ne, bne_eq_false_iff_eq, Bool.not_eq_true', Bool.not_eq_false', Bool.and_eq_true, Bool.or_eq_true, Bool.or_eq_false_iff, ne_eq, Decidable.not_not, Int.not_lt, Int.not_le] at c10
        refine dwp_exit ?_
        refine zaf ?_
        refine zad ?_
        refine zab rfl rfl rfl (zac (.inl rfl) (ev1 rfl)) ?_
        refine zab rfl rfl rfl (zac (.inr rfl) (ev1 rfl)) ?_
        refine zae ?_
        refine dwp_ret ?_
        refine kend [2] (rs1 rfl (rv_t rfl)) rfl rfl ?_ ⟨?_, trivial⟩
        rfl
        exact (by rw [← lineK_all, show gr2 a b + 1 = i by omega]; rfl)
theorem rline_d (a b : P2) (ha : drwB a = true) (hb : drwB b = true) : DFun Tryz.prog 28 [.val (.agg #[.int .i64 a.x, .int .i64 a.y]), .val (.agg #[.int .i64 b.x, .int .i64 b.y])] [] (.slf 2 (lineL a b).length ((lineL a b).flatMap p2)) [] := freeze (rline_o a b ha hb) rfl
theorem cloneP_f (l : List P2) (h : l.length ≤ 1000000) : DFun Tryz.prog 22 [.slf 2 l.length (l.flatMap p2)] [] (.slf 2 l.length (l.flatMap p2)) [] := freeze (cloneP l h) rfl
set_option maxRecDepth 4000 in
set_option maxHeartbeats 1000000 in
theorem ns1_d (p : P2) : DFun Tryz.prog 24 [.val (.agg #[.int .i64 p.x, .int .i64 p.y])] [] (.val (.bool (!drwB p))) [] := by
  refine dcalls_go (N := 6) 0 (by kernel_rfl) Tryz.func24 rfl rfl rfl (by simp only [fr0, Nat.zero_add, Nat.reduceAdd]; exact rfl) rfl fun s0 hs0 => ?_
  refine zaf ?_
  refine zai 1 (by simp only [holes, List.cons_append, List.nil_append]; exact rfl) ?_
  refine zad ?_
  refine zaj rfl rfl rfl (op_boxa 0 rfl (ev1 rfl) rfl) (by simp only [upd, zaa, za]; exact rfl) ?_
  refine zab rfl rfl rfl (zac (.inr rfl) (ev1 rfl)) ?_
  refine zae ?_
  refine zaf ?_
  refine zad ?_
  refine zab rfl rfl rfl (op_ldw rfl tb51 (ev1 rfl) rfl rfl) ?_
  refine zab rfl rfl rfl (zah [] [] [] rfl (ev1 rfl) (ec (ev1 rfl) en) rfl rfl (rmay_d p) rfl rfl rfl rfl rfl rfl) ?_
  refine zab rfl rfl rfl (op_not rfl (ev1 rfl)) ?_
  refine zab rfl rfl rfl (zac (.inr rfl) (ev1 rfl)) ?_
  refine zae ?_
  refine dwp_ret ?_
  refine kend0 (rs1 rfl (rv_t rfl)) rfl ?_
  rfl
set_option maxRecDepth 4000 in
set_option maxHeartbeats 1000000 in
theorem nis_d (l : List P2) : DFun Tryz.prog 61 [.slf 2 l.length (l.flatMap p2), .fn (.func 24) [] []] [] (.val (.int .i64 (ixZ (fun p => !drwB p) l))) [] := by
  refine dcalls_go (N := 19) 0 (by kernel_rfl) Tryz.func61 rfl rfl rfl (by simp only [fr0, Nat.zero_add, Nat.reduceAdd]; exact rfl) rfl fun s0 hs0 => ?_
  refine dwp_len (t := 0) rfl fun hl0 hL0 => ?_
  refine zaf ?_
  refine zad ?_
  refine zab rfl rfl rfl (zac (.inr rfl) (ev1 rfl)) ?_
  refine zae ?_
  refine zaf ?_
  refine zaf ?_
  refine zad ?_
  refine zab rfl rfl rfl (zac (.inl rfl) (ev1 rfl)) ?_
  refine zab rfl rfl rfl (op_len rfl sl48 (ev1 rfl)) ?_
  refine zab rfl rfl rfl (zac (.inl rfl) (ev1 rfl)) ?_
  refine zae ?_
  refine dwp_block ?_
  refine dwp_loopS ⟨hs0, rfl⟩ (α := Nat) (fun i => [(8, .val (.int .i64 (i : Int)))]) [(0, _), (1, _), (7, _)] (fun i => []) [] (fun i => i ≤ l.length ∧ (l.take i).any (fun p => !drwB p) = false) (fun i => l.length - i) 0 [] (⟨Nat.zero_le _, rfl⟩) rfl ⟨rfl, rfl, rfl, trivial⟩ ⟨rfl, trivial⟩ trivial ?_
  intro i hx
  simp only [upd, zaa, za, List.cons_append, List.nil_append]
  obtain ⟨hi0, hno⟩ := hx
  refine zaf ?_
  refine zad ?_
  refine zab rfl rfl rfl (op_lss rfl (ev1 rfl) (ev1 rfl)) ?_
  refine zae ?_
  refine zaf ?_
  refine dwp_cond rfl (fun c1 => ?_) (fun c1 => ?_)
  · try simp only [decide_eq_true_eq, decide_eq_false_iff_not, beq_iff_eq, bne_iff_ne, beq_eq_false_iff_ne, bne_eq_false_iff_eq, Bool.not_eq_true', Bool.not_eq_false', Bool.and_eq_true, Bool.or_eq_true, Bool.or_eq_false_iff, ne_eq, Decidable.not_not, Int.not_lt, Int.not_le] at c1
    refine zal ?_
    refine zaf ?_
    refine dwp_block ?_
    refine zaf ?_
    refine zad ?_
    refine zab rfl rfl rfl (zac (.inl rfl) (ev1 rfl)) ?_
    refine zab rfl rfl rfl (zac (.inr rfl) (ev1 rfl)) ?_
    refine zae ?_
    refine zaf ?_
    refine zad ?_
    refine zab rfl rfl rfl (zac (.inl rfl) (ev1 rfl)) ?_
    refine zab rfl rfl rfl (zac (.inl rfl) (ev1 rfl)) ?_
    refine zab rfl rfl rfl (zac (.inl rfl) (ev1 rfl)) ?_
    refine zab rfl rfl rfl (op_ixsr (j := i) rfl sl48 (ev1 rfl) (ev1 rfl) (fun _ => rfl) (by decide) (by omega) (by omega)) ?_
    refine zab rfl rfl rfl (op_ldwd rfl tb51 (ev1 rfl) rfl) ?_
    refine zab rfl rfl rfl (zah [] [] [] rfl (ev1 rfl) (ec (ev1 rfl) en) rfl rfl (ns1_d _) rfl rfl rfl rfl rfl rfl) ?_
    refine zae ?_
    refine dwp_cond rfl (fun c2 => ?_) (fun c2 => ?_)
    · refine zaf ?_
      refine zad ?_
      refine zab rfl rfl rfl (zac (.inl rfl) (ev1 rfl)) ?_
      refine zab rfl rfl rfl (zac (.inr rfl) (ev1 rfl)) ?_
      refine zae ?_
      refine dwp_ret ?_
      refine kend0 (rs1 rfl (rv_t rfl)) rfl ?_
      rw [ixZ_at (by omega) hno c2]
    · refine zal ?_
      refine zad ?_
      refine zab rfl rfl rfl (op_add' rfl (ev1 rfl) (ev1 rfl) (fun _ => IntWalk.i64_in _ (by omega))) ?_
      refine zab rfl rfl rfl (zac (.inl rfl) (ev1 rfl)) ?_
      refine zae ?_
      have hi : i < l.length := by omega
      refine ⟨i + 1, [], ⟨by omega, any_add (by omega) hno c2⟩, by simp only []; omega, rfl, ⟨rfl, rfl, rfl, rfl, trivial⟩, trivial⟩
  · try simp only [decide_eq_true_eq, decide_eq_false_iff_not, beq_iff_eq, bne_iff_ne, beq_eq_false_iff_ne, bne_eq_false_iff_eq, Bool.not_eq_true', Bool.not_eq_false', Bool.and_eq_true, Bool.or_eq_true, Bool.or_eq_false_iff, ne_eq, Decidable.not_not, Int.not_lt, Int.not_le] at c1
    refine dwp_exit ?_
    refine zaf ?_
    refine zad ?_
    refine zab rfl rfl rfl (zac (.inr rfl) (ev1 rfl)) ?_
    refine zae ?_
    refine dwp_ret ?_
    rw [take_all (by omega)] at hno
    refine kend0 (rs1 rfl (rv_t rfl)) rfl ?_
    rw [ixZ_no hno]
set_option maxRecDepth 4000 in
set_option maxHeartbeats 1000000 in
theorem ncs_d (l : List P2) : DFun Tryz.prog 23 [.slf 2 l.length (l.flatMap p2), .fn (.func 24) [] []] [] (.val (.bool (!drwL l))) [] := by
  refine dcalls_go (N := 9) 0 (by kernel_rfl) Tryz.func23 rfl rfl rfl (by simp only [fr0, Nat.zero_add, Nat.reduceAdd]; exact rfl) rfl fun s0 hs0 => ?_
  refine dwp_len (t := 0) rfl fun hl0 hL0 => ?_
  refine zaf ?_
  refine zad ?_
  refine zab rfl rfl rfl (zac (.inr rfl) (ev1 rfl)) ?_
  refine zae ?_
  refine zaf ?_
  refine zad ?_
  refine zab rfl rfl rfl (zac (.inl rfl) (ev1 rfl)) ?_
  refine zab rfl rfl rfl (zac (.inl rfl) (ev1 rfl)) ?_
  refine zab rfl rfl rfl (zah [] [] [] rfl (ev1 rfl) (ec (ev1 rfl) (ec (ev1 rfl) en)) rfl rfl (nis_d l) rfl rfl rfl rfl rfl rfl) ?_
  refine zab rfl rfl rfl (op_geq rfl (ev1 rfl) (ev1 rfl)) ?_
  refine zab rfl rfl rfl (zac (.inr rfl) (ev1 rfl)) ?_
  refine zae ?_
  refine dwp_ret ?_
  refine kend0 (rs1 rfl (rv_t rfl)) rfl ?_
  rw [ixZ_nn]
  unfold drwL
  rw [List.not_all_eq_any_not]
set_option maxRecDepth 4000 in
set_option maxHeartbeats 1000000 in
theorem dstrokes_d (w h : Int) (ts : List TL) (c : C4) (n : Int) (r : Bool) (y : List P2) : DFun Tryz.prog 4 [shD w h ts, .val (.agg #[.int .u8 c.r, .int .u8 c.g, .int .u8 c.b, .int .u8 c.a, .int .i64 n, .bool r]), .slf 2 y.length (y.flatMap p2)] [.glob 0 (c4 redC)] (.val (.bool true)) [.glob 0 (c4 redC)] := by
  have hlo := fewO_len y
  have hlo2 : (fewO y).length ≤ y.length := by unfold fewO; rw [List.length_take]; omega
  refine dcalls_go (N := 133) 1 (by kernel_rfl) Tryz.func4 rfl rfl rfl (by simp only [fr0, Nat.zero_add, Nat.reduceAdd]; exact rfl) rfl fun s0 hs0 => ?_
  refine dwp_len (t := 2) rfl fun hl2 hL2 => ?_
  refine zaf ?_
  refine zai 2 (by simp only [holes, List.cons_append, List.nil_append]; exact rfl) ?_
  refine zad ?_
  refine zaj rfl rfl rfl (op_boxam 1 rfl (ev1 rfl) rfl) (by simp only [upd, zaa, za]; exact rfl) ?_
  refine zaj rfl rfl rfl (op_boxa 2 rfl (ev1 rfl) rfl) (by simp only [upd, zaa, za]; exact rfl) ?_
  refine zab rfl rfl rfl (zac (.inr rfl) (ev1 rfl)) ?_
  refine zae ?_
  refine zaf ?_
  refine zaf ?_
  refine zad ?_
  refine zaj rfl rfl rfl (zah [0] [] [] rfl (ev1 rfl) en rfl rfl (wakes_d) rfl rfl rfl rfl rfl rfl) (by simp only [upd, zaa, za]; exact rfl) ?_
  refine zab rfl rfl rfl ((op_not rfl (ev1 rfl)).cast (d' := .val (.bool false)) (by kernel_rfl)) ?_
  refine zae ?_
  refine dwp_if_f rfl (rfl) ?_
  refine zal ?_
  refine zaf ?_
  refine zai 1 (by simp only [holes, List.cons_append, List.nil_append]; exact rfl) ?_
  refine dwp_draw [([1], []), ([], []), ([], []), ([], []), ([], []), ([], []), ([], []), ([], []), ([3], [3]), ([3], [3]), ([], [])] mixed (by kernel_rfl) ?_
  refine zag rfl rfl (op_ldmw rfl tb24 (ev1 rfl) rfl rfl) ?_
  refine zag rfl rfl (zah [] [] [] rfl (ev1 rfl) (ec (ev1 rfl) en) rfl rfl (own_d w h ts) rfl rfl rfl rfl rfl rfl) ?_
  refine zag rfl rfl (zac (.inl rfl) (ev1 rfl)) ?_
  refine zag rfl rfl (zac (.inl rfl) (ev1 rfl)) ?_
  refine zag rfl rfl (op_len rfl sl48 (ev1 rfl)) ?_
  refine zag rfl rfl (op_min rfl (ev1 rfl) (ev1 rfl)) ?_
  refine zag rfl rfl (op_sltk (j := min y.length 6) rfl sl48 (ev1 rfl) (bd_some (ev1 rfl)) (fun _ => by omega) (fun _ => by omega) (fun _ => rfl)) ?_
  refine zag rfl rfl (zah [] [] [] rfl (ev1 rfl) (ec (ev1 rfl) en) rfl rfl (cloneP_f (fewO y) (by omega)) rfl rfl rfl rfl rfl rfl) ?_
  refine lex_w rfl rfl (op_alloc 3 rfl zr24 rfl) rfl (by simp only [upd, zaa, za]; exact rfl) ?_
  refine lex_s rfl rfl (op_stam rfl tb24 (ev1 rfl) (ev1 rfl) rfl rfl rfl rfl) rfl (by simp only [upd, zaa, za]; exact rfl) ?_
  refine zag rfl rfl (zac (.inr rfl) (ev1 rfl)) ?_
  refine lex_nil ?_
  refine zaf ?_
  by_cases hr : rightB w h (ts.take 17) = true
  · have hc := rightB_ok hr
    have hle := hc.le
    refine zad ?_
    refine zab rfl rfl rfl (op_ldmw rfl tb24 (ev1 rfl) rfl rfl) ?_
    refine zab rfl rfl rfl (zah [] [] [] rfl (ev1 rfl) (ec (ev1 rfl) en) rfl rfl (of_d w h (ts.take 17) hc) rfl rfl rfl rfl rfl rfl) ?_
    refine zab rfl rfl rfl (zac (.inl rfl) (ev1 rfl)) ?_
    refine zab rfl rfl rfl (op_ext rfl (ev1 rfl) rfl) ?_
    refine zab rfl rfl rfl (op_ext rfl (ev1 rfl) rfl) ?_
    refine zab rfl rfl rfl (zac (.inr rfl) (ev1 rfl)) ?_
    refine zab rfl rfl rfl (zac (.inr rfl) (ev1 rfl)) ?_
    refine zae ?_
    refine zaf ?_
    refine zaf ?_
    refine zad ?_
    refine zab rfl rfl rfl (zac (.inl rfl) (ev1 rfl)) ?_
    refine zab rfl rfl rfl ((op_neq rfl (ev1 rfl) (ev1 rfl)).cast (d' := .val (.bool false)) (by kernel_rfl)) ?_
    refine zae ?_
    refine dwp_if_f rfl (rfl) ?_
    refine zal ?_
    refine zaf ?_
    by_cases hn : 0 ≤ n ∧ n ≤ 15
    · refine zad ?_
      refine zab rfl rfl rfl (op_fa rfl fo47_1 (ev1 rfl)) ?_
      refine zab rfl rfl rfl (op_ldo rfl tb3 (ev1 rfl) rfl rfl) ?_
      refine zab rfl rfl rfl ((op_geq rfl (ev1 rfl) (ev1 rfl)).cast (d' := .val (.bool true)) (by rw [D.val.injEq, Value.bool.injEq, decide_eq_true_eq]; exact hn.1)) ?_
      refine zab rfl rfl rfl (zac (.inl rfl) (ev1 rfl)) ?_
      refine walk_k (gd_t (b := true) rfl rfl rfl) rfl rfl rfl (op_fa rfl fo47_1 (ev1 rfl)) (by simp only [upd, zaa, za]; exact rfl) ?_
      refine walk_k (gd_t (b := true) rfl rfl rfl) rfl rfl rfl (op_ldo rfl tb3 (ev2 rfl) rfl rfl) (by simp only [upd, zaa, za]; exact rfl) ?_
      refine walk_k (gd_t (b := true) rfl rfl rfl) rfl rfl rfl ((op_leq rfl (ev2 rfl) (ev1 rfl)).cast (d' := .val (.bool true)) (by rw [D.val.injEq, Value.bool.injEq, decide_eq_true_eq]; exact hn.2)) (by simp only [upd, zaa, za]; exact rfl) ?_
      refine zab rfl rfl rfl ((op_and rfl (ev1 rfl) (ev3 rfl (fun _ => rfl))).cast (d' := .val (.bool true)) (by rfl)) ?_
      refine zab rfl rfl rfl (zac (.inr rfl) (ev1 rfl)) ?_
      refine zae ?_
      refine zaf ?_
      refine zad ?_
      refine zab rfl rfl rfl (zac (.inr rfl) (ev1 rfl)) ?_
      refine zae ?_
      refine zaf ?_
      refine zaf ?_
      by_cases hdl : drwL (fewO y) = true
      · have hs := sw_yes hn hdl
        refine zad ?_
        refine zab rfl rfl rfl (zac (.inl rfl) (ev1 rfl)) ?_
        refine zab rfl rfl rfl ((op_not rfl (ev1 rfl)).cast (d' := .val (.bool false)) (by kernel_rfl)) ?_
        refine zab rfl rfl rfl (zac (.inl rfl) (ev1 rfl)) ?_
        refine walk_k (gd_f (b := false) rfl rfl rfl) rfl rfl rfl (zac (.inl rfl) (ev1 rfl)) (by simp only [upd, zaa, za]; exact rfl) ?_
        refine walk_k (gd_f (b := false) rfl rfl rfl) rfl rfl rfl ((zah [] [] [] rfl (ev1 rfl) (ec (ev2 rfl) (ec (ev1 rfl) en)) rfl rfl (ncs_d (fewO y)) rfl rfl rfl rfl rfl rfl).cast (d' := .val (.bool false)) (by rw [hdl]; rfl)) (by simp only [upd, zaa, za]; exact rfl) ?_
        refine zab rfl rfl rfl ((op_or rfl (ev1 rfl) (ev3 rfl (fun _ => rfl))).cast (d' := .val (.bool false)) (by rfl)) ?_
        refine zae ?_
        refine dwp_if_f rfl (rfl) ?_
        refine zal ?_
        refine zaf ?_
        refine zai 1 (by simp only [holes, List.cons_append, List.nil_append]; exact rfl) ?_
        refine zad ?_
        refine zab rfl rfl rfl (op_ldmw rfl tb24 (ev1 rfl) rfl rfl) ?_
        refine zaj rfl rfl rfl (op_alloc 4 rfl zr24 rfl) (by simp only [upd, zaa, za]; exact rfl) ?_
        refine walk_s rfl rfl (op_stam rfl tb24 (ev1 rfl) (ev1 rfl) rfl rfl rfl rfl) (by simp only [upd, zaa, za]; exact rfl) ?_
        refine zae ?_
        refine zaf ?_
        refine zaf ?_
        refine zad ?_
        refine zab rfl rfl rfl (zac (.inl rfl) (ev1 rfl)) ?_
        refine zab rfl rfl rfl ((op_eql rfl (ev1 rfl) (ev1 rfl)).cast (d' := .val (.bool true)) (by kernel_rfl)) ?_
        refine zae ?_
        refine dwp_if_t rfl (rfl) ?_
        refine zad ?_
        refine zab rfl rfl rfl (op_ldmw rfl tb24 (ev1 rfl) rfl rfl) ?_
        refine zab rfl rfl rfl (op_ldw rfl tb47 (ev1 rfl) rfl rfl) ?_
        refine zab rfl rfl rfl (zac (.inl rfl) (ev1 rfl)) ?_
        refine zab rfl rfl rfl (zah [] [] [] rfl (ev1 rfl) (ec (ev1 rfl) (ec (ev1 rfl) (ec (ev1 rfl) en))) rfl rfl (rstk_d w h (ts.take 17) hc c n r (fewO y) hs) rfl rfl rfl rfl rfl rfl) ?_
        refine walk_s rfl rfl (op_stmw rfl tb24 (ev1 rfl) (ev1 rfl) rfl rfl rfl rfl) (by simp only [upd, zaa, za]; exact rfl) ?_
        refine zae ?_
        refine zaf ?_
        refine zad ?_
        refine zab rfl rfl rfl (zac (.inl rfl) (ev1 rfl)) ?_
        refine zab rfl rfl rfl (op_ldw rfl tb47 (ev1 rfl) rfl rfl) ?_
        refine zab rfl rfl rfl (zac (.inl rfl) (ev1 rfl)) ?_
        refine zab rfl rfl rfl (zah [] [] [] rfl (ev1 rfl) (ec (ev1 rfl) (ec (ev1 rfl) (ec (ev1 rfl) en))) rfl rfl (stroke_d w h _ (ts.take 17) (dpR_ok _) hc c n r (fewO y) hs (by omega)) rfl rfl rfl rfl rfl rfl) ?_
        refine zab rfl rfl rfl (zac (.inl rfl) (ev1 rfl)) ?_
        refine zab rfl rfl rfl (op_ext rfl (ev1 rfl) rfl) ?_
        refine zab rfl rfl rfl (op_ext rfl (ev1 rfl) rfl) ?_
        refine zab rfl rfl rfl (zac (.inr rfl) (ev1 rfl)) ?_
        refine zab rfl rfl rfl (zac (.inr rfl) (ev1 rfl)) ?_
        refine zae ?_
        refine zaf ?_
        refine zaf ?_
        refine zad ?_
        refine zab rfl rfl rfl (zac (.inl rfl) (ev1 rfl)) ?_
        refine zab rfl rfl rfl (zac (.inl rfl) (ev1 rfl)) ?_
        refine zab rfl rfl rfl (op_ldmw rfl tb24 (ev1 rfl) rfl rfl) ?_
        refine zab rfl rfl rfl (zac (.inl rfl) (ev1 rfl)) ?_
        refine zab rfl rfl rfl (zah [] [] [] rfl (ev1 rfl) (ec (ev1 rfl) (ec (ev1 rfl) (ec (ev1 rfl) (ec (ev1 rfl) en)))) rfl rfl (says_d w h (drwC false w h (ts.take 17) c (swL r n (fewO y))) (drwC_ok hc _ _ _)) rfl rfl rfl rfl rfl rfl) ?_
        refine zab rfl rfl rfl ((op_not rfl (ev1 rfl)).cast (d' := .val (.bool false)) (by kernel_rfl)) ?_
        refine zae ?_
        refine dwp_if_f rfl (rfl) ?_
        refine zal ?_
        refine zaf ?_
        refine zaf ?_
        refine zad ?_
        refine zab rfl rfl rfl (zac (.inr rfl) (ev1 rfl)) ?_
        refine zae ?_
        refine dwp_block ?_
        refine dwp_loopS ⟨hs0, rfl⟩ (α := Nat) (fun k => [(15, .val (.int .i64 ((k : Int) + 1)))]) [(2, _), (4, _), (7, _), (8, _), (9, _), (11, _)] (fun k => []) [_, _, _, _, _] (fun k => k ≤ (fewO y).length) (fun k => (fewO y).length - k) 0 [0, 1, 2, 3, 4] (Nat.zero_le _) rfl ⟨rfl, rfl, rfl, rfl, rfl, rfl, trivial⟩ ⟨congrArg (fun z => some (D.val (.int .i64 z))) (by first | rfl | omega), trivial⟩ ⟨rfl, rfl, rfl, rfl, rfl, trivial⟩ ?_
        intro k hx
        simp only [upd, zaa, za, List.cons_append, List.nil_append]
        have hk0 := hx
        refine zaf ?_
        refine zaf ?_
        refine zad ?_
        refine zab rfl rfl rfl (zac (.inl rfl) (ev1 rfl)) ?_
        refine zab rfl rfl rfl (zac (.inl rfl) (ev1 rfl)) ?_
        refine zab rfl rfl rfl (op_len rfl sl48 (ev1 rfl)) ?_
        refine zab rfl rfl rfl (op_lss rfl (ev1 rfl) (ev1 rfl)) ?_
        refine zae ?_
        refine dwp_cond rfl (fun c6 => ?_) (fun c6 => ?_)
        · try simp only [decide_eq_true_eq, decide_eq_false_iff_not, beq_iff_eq, bne_iff_ne, beq_eq_false_iff_ne, bne_eq_false_iff_eq, Bool.not_eq_true', Bool.not_eq_false', Bool.and_eq_true, Bool.or_eq_true, Bool.or_eq_false_iff, ne_eq, Decidable.not_not, Int.not_lt, Int.not_le] at c6
          refine zal ?_
          refine zaf ?_
          refine dwp_block ?_
          refine zaf ?_
          have hk : k < (fewO y).length := by omega
          have hk1 : k + 1 < (fewO y).length := by omega
          refine zai 2 (by simp only [holes, List.cons_append, List.nil_append]; exact rfl) ?_
          refine dwp_draw [([], []), ([], []), ([], []), ([], []), ([], []), ([], []), ([], []), ([], []), ([], []), ([5], [5]), ([6], [6]), ([5], [5]), ([6], [6])] mixed (by kernel_rfl) ?_
          refine zag rfl rfl (zac (.inl rfl) (ev1 rfl)) ?_
          refine zag rfl rfl (zac (.inl rfl) (ev1 rfl)) ?_
          refine zag rfl rfl (op_sub' rfl (ev1 rfl) (ev1 rfl) (fun _ => IntWalk.i64_in _ (by omega))) ?_
          refine zag rfl rfl (op_ixsr (j := k) rfl sl48 (ev1 rfl) (ev1 rfl) (fun _ => rfl) (by decide) (by omega) (by omega)) ?_
          refine zag rfl rfl (op_ldwd rfl tb51 (ev1 rfl) rfl) ?_
          refine zag rfl rfl (zac (.inl rfl) (ev1 rfl)) ?_
          refine zag rfl rfl (zac (.inl rfl) (ev1 rfl)) ?_
          refine zag rfl rfl (op_ixsr (j := k + 1) rfl sl48 (ev1 rfl) (ev1 rfl) (fun _ => rfl) (by decide) (by omega) (by omega)) ?_
          refine zag rfl rfl (op_ldwd rfl tb51 (ev1 rfl) rfl) ?_
          refine lex_w rfl rfl (op_alloc 5 rfl zr51 rfl) rfl (by simp only [upd, zaa, za]; exact rfl) ?_
          refine lex_w rfl rfl (op_alloc 6 rfl zr51 rfl) rfl (by simp only [upd, zaa, za]; exact rfl) ?_
          refine lex_s rfl rfl (op_stwa rfl tb51 (ev1 rfl) (ev1 rfl) rfl rfl rfl rfl) rfl (by simp only [upd, zaa, za]; exact rfl) ?_
          refine lex_s rfl rfl (op_stwa rfl tb51 (ev1 rfl) (ev1 rfl) rfl rfl rfl rfl) rfl (by simp only [upd, zaa, za]; exact rfl) ?_
          refine lex_nil ?_
          refine zaf ?_
          refine zai 1 (by simp only [holes, List.cons_append, List.nil_append]; exact rfl) ?_
          refine dwp_draw [([3], []), ([7], [7]), ([], []), ([7], [7])] mixed (by kernel_rfl) ?_
          refine zag rfl rfl (op_ldmw rfl tb24 (ev1 rfl) rfl rfl) ?_
          refine lex_w rfl rfl (op_alloc 7 rfl zr24 rfl) rfl (by simp only [upd, zaa, za]; exact rfl) ?_
          refine zag rfl rfl (zac (.inr rfl) (ev1 rfl)) ?_
          refine lex_s rfl rfl (op_stam rfl tb24 (ev1 rfl) (ev1 rfl) rfl rfl rfl rfl) rfl (by simp only [upd, zaa, za]; exact rfl) ?_
          refine lex_nil ?_
          refine zaf ?_
          refine zaf ?_
          by_cases hab : (drwB (fewO y)[k] && drwB (fewO y)[k + 1]) = true
          · obtain ⟨ha, hb2⟩ := Bool.and_eq_true_iff.1 hab
            have hsl := sw_line hn ha hb2
            refine zad ?_
            refine zab rfl rfl rfl (op_ldw rfl tb51 (ev1 rfl) rfl rfl) ?_
            refine zab rfl rfl rfl ((zah [] [] [] rfl (ev1 rfl) (ec (ev1 rfl) en) rfl rfl (rmay_d (fewO y)[k]) rfl rfl rfl rfl rfl rfl).cast (d' := .val (.bool true)) (by rw [ha])) ?_
            refine zab rfl rfl rfl (zac (.inl rfl) (ev1 rfl)) ?_
            refine walk_k (gd_t (b := true) rfl rfl rfl) rfl rfl rfl (op_ldw rfl tb51 (ev1 rfl) rfl rfl) (by simp only [upd, zaa, za]; exact rfl) ?_
            refine walk_k (gd_t (b := true) rfl rfl rfl) rfl rfl rfl ((zah [] [] [] rfl (ev1 rfl) (ec (ev2 rfl) en) rfl rfl (rmay_d (fewO y)[k + 1]) rfl rfl rfl rfl rfl rfl).cast (d' := .val (.bool true)) (by rw [hb2])) (by simp only [upd, zaa, za]; exact rfl) ?_
            refine zab rfl rfl rfl ((op_and rfl (ev1 rfl) (ev3 rfl (fun _ => rfl))).cast (d' := .val (.bool true)) (by rfl)) ?_
            refine zab rfl rfl rfl (zac (.inl rfl) (ev1 rfl)) ?_
            refine walk_k (gd_t (b := true) rfl rfl rfl) rfl rfl rfl (zac (.inl rfl) (ev1 rfl)) (by simp only [upd, zaa, za]; exact rfl) ?_
            refine zab rfl rfl rfl ((op_and rfl (ev1 rfl) (ev3 rfl (fun _ => rfl))).cast (d' := .val (.bool true)) (by rfl)) ?_
            refine zae ?_
            refine dwp_if_t rfl (rfl) ?_
            refine dwp_draw [([3], []), ([2], []), ([5], []), ([6], []), ([], []), ([], []), ([], []), ([7], [7])] mixed (by kernel_rfl) ?_
            refine zag rfl rfl (op_ldmw rfl tb24 (ev1 rfl) rfl rfl) ?_
            refine zag rfl rfl (op_ldw rfl tb47 (ev1 rfl) rfl rfl) ?_
            refine zag rfl rfl (op_ldw rfl tb51 (ev1 rfl) rfl rfl) ?_
            refine zag rfl rfl (op_ldw rfl tb51 (ev1 rfl) rfl rfl) ?_
            refine zag rfl rfl (zah [] [] [] rfl (ev1 rfl) (ec (ev1 rfl) (ec (ev1 rfl) en)) rfl rfl (rline_d (fewO y)[k] (fewO y)[k + 1] ha hb2) rfl rfl rfl rfl rfl rfl) ?_
            refine zag rfl rfl (zah [] [] [] rfl (ev1 rfl) (ec (ev1 rfl) (ec (ev1 rfl) (ec (ev1 rfl) en))) rfl rfl (rstk_d w h (ts.take 17) hc c n r (lineL (fewO y)[k] (fewO y)[k + 1]) hsl) rfl rfl rfl rfl rfl rfl) ?_
            refine zag rfl rfl (zac (.inr rfl) (ev1 rfl)) ?_
            refine lex_s rfl rfl (op_stmw rfl tb24 (ev1 rfl) (ev1 rfl) rfl rfl rfl rfl) rfl (by simp only [upd, zaa, za]; exact rfl) ?_
            refine lex_nil ?_
            refine zaf ?_
            refine zad ?_
            refine zab rfl rfl rfl (zac (.inl rfl) (ev1 rfl)) ?_
            refine zab rfl rfl rfl (op_ldw rfl tb47 (ev1 rfl) rfl rfl) ?_
            refine zab rfl rfl rfl (op_ldw rfl tb51 (ev1 rfl) rfl rfl) ?_
            refine zab rfl rfl rfl (op_ldw rfl tb51 (ev1 rfl) rfl rfl) ?_
            refine zab rfl rfl rfl (zah [] [] [] rfl (ev1 rfl) (ec (ev1 rfl) (ec (ev1 rfl) (ec (ev1 rfl) (ec (ev1 rfl) en)))) rfl rfl (dline_d w h _ (ts.take 17) (dpR_ok _) hc c n r (fewO y)[k] (fewO y)[k + 1] ha hb2 hsl) rfl rfl rfl rfl rfl rfl) ?_
            refine zab rfl rfl rfl (zac (.inl rfl) (ev1 rfl)) ?_
            refine zab rfl rfl rfl (op_ext rfl (ev1 rfl) rfl) ?_
            refine zab rfl rfl rfl (op_ext rfl (ev1 rfl) rfl) ?_
            refine zab rfl rfl rfl (zac (.inr rfl) (ev1 rfl)) ?_
            refine zab rfl rfl rfl (zac (.inr rfl) (ev1 rfl)) ?_
            refine zae ?_
            refine zaf ?_
            refine zad ?_
            refine zab rfl rfl rfl (zac (.inl rfl) (ev1 rfl)) ?_
            refine zab rfl rfl rfl (zac (.inl rfl) (ev1 rfl)) ?_
            refine zab rfl rfl rfl (op_ldmw rfl tb24 (ev1 rfl) rfl rfl) ?_
            refine zab rfl rfl rfl (zac (.inl rfl) (ev1 rfl)) ?_
            refine zab rfl rfl rfl (zah [] [] [] rfl (ev1 rfl) (ec (ev1 rfl) (ec (ev1 rfl) (ec (ev1 rfl) (ec (ev1 rfl) en)))) rfl rfl (says_d w h (drwC false w h (ts.take 17) c (swL r n (lineL (fewO y)[k] (fewO y)[k + 1]))) (drwC_ok hc _ _ _)) rfl rfl rfl rfl rfl rfl) ?_
            refine zab rfl rfl rfl ((op_not rfl (ev1 rfl)).cast (d' := .val (.bool false)) (by kernel_rfl)) ?_
            refine zae ?_
            refine dwp_if_f rfl (rfl) ?_
            refine zal ?_
            refine zad ?_
            refine zab rfl rfl rfl (zac (.inl rfl) (ev1 rfl)) ?_
            refine zab rfl rfl rfl (op_add' rfl (ev1 rfl) (ev1 rfl) (fun _ => IntWalk.i64_in _ (by omega))) ?_
            refine zab rfl rfl rfl (zac (.inr rfl) (ev1 rfl)) ?_
            refine zae ?_
            refine ⟨k + 1, [0, 1, 2, 3, 4], by omega, by simp only []; omega, rfl, ⟨congrArg (fun z => some (D.val (.int .i64 z))) (by first | rfl | omega), rfl, rfl, rfl, rfl, rfl, rfl, trivial⟩, ⟨rfl, rfl, rfl, rfl, rfl, trivial⟩⟩
          · have hab2 : (drwB (fewO y)[k] && drwB (fewO y)[k + 1]) = false := by simpa using hab
            refine zad ?_
            refine zab rfl rfl rfl (op_ldw rfl tb51 (ev1 rfl) rfl rfl) ?_
            refine zab rfl rfl rfl (zah [] [] [] rfl (ev1 rfl) (ec (ev1 rfl) en) rfl rfl (rmay_d (fewO y)[k]) rfl rfl rfl rfl rfl rfl) ?_
            refine zab rfl rfl rfl (zac (.inl rfl) (ev1 rfl)) ?_
            refine zak (gd_t rfl rfl rfl) rfl rfl rfl (op_ldw rfl tb51 (ev1 rfl) rfl rfl) ?_
            refine zak (gd_t rfl rfl rfl) rfl rfl rfl (zah [] [] [] rfl (ev1 rfl) (ec (ev2 rfl) en) rfl rfl (rmay_d (fewO y)[k + 1]) rfl rfl rfl rfl rfl rfl) ?_
            refine zab rfl rfl rfl (op_and rfl (ev1 rfl) (ev3 rfl id)) ?_
            refine zab rfl rfl rfl (zac (.inl rfl) (ev1 rfl)) ?_
            refine zak (gd_t rfl rfl rfl) rfl rfl rfl (zac (.inl rfl) (ev1 rfl)) ?_
            refine zab rfl rfl rfl (op_and rfl (ev1 rfl) (ev3 rfl id)) ?_
            refine zae ?_
            refine dwp_if_f rfl (by simpa using hab2) ?_
            refine zal ?_
            refine zaf ?_
            refine zad ?_
            refine zab rfl rfl rfl (zac (.inl rfl) (ev1 rfl)) ?_
            refine zab rfl rfl rfl (op_ldw rfl tb47 (ev1 rfl) rfl rfl) ?_
            refine zab rfl rfl rfl (op_ldw rfl tb51 (ev1 rfl) rfl rfl) ?_
            refine zab rfl rfl rfl (op_ldw rfl tb51 (ev1 rfl) rfl rfl) ?_
            refine zab rfl rfl rfl (zah [] [] [] rfl (ev1 rfl) (ec (ev1 rfl) (ec (ev1 rfl) (ec (ev1 rfl) (ec (ev1 rfl) en)))) rfl rfl (dline_n1 w h _ (ts.take 17) (dpR_ok _) hc c n r (fewO y)[k] (fewO y)[k + 1] hab2) rfl rfl rfl rfl rfl rfl) ?_
            refine zab rfl rfl rfl (zac (.inl rfl) (ev1 rfl)) ?_
            refine zab rfl rfl rfl (op_ext rfl (ev1 rfl) rfl) ?_
            refine zab rfl rfl rfl (op_ext rfl (ev1 rfl) rfl) ?_
            refine zab rfl rfl rfl (zac (.inr rfl) (ev1 rfl)) ?_
            refine zab rfl rfl rfl (zac (.inr rfl) (ev1 rfl)) ?_
            refine zae ?_
            refine zaf ?_
            refine zad ?_
            refine zab rfl rfl rfl (zac (.inl rfl) (ev1 rfl)) ?_
            refine zab rfl rfl rfl (zac (.inl rfl) (ev1 rfl)) ?_
            refine zab rfl rfl rfl (op_ldmw rfl tb24 (ev1 rfl) rfl rfl) ?_
            refine zab rfl rfl rfl (zac (.inl rfl) (ev1 rfl)) ?_
            refine zab rfl rfl rfl (zah [] [] [] rfl (ev1 rfl) (ec (ev1 rfl) (ec (ev1 rfl) (ec (ev1 rfl) (ec (ev1 rfl) en)))) rfl rfl (says_e w h (ts.take 17) 2 (by decide)) rfl rfl rfl rfl rfl rfl) ?_
            refine zab rfl rfl rfl ((op_not rfl (ev1 rfl)).cast (d' := .val (.bool false)) (by kernel_rfl)) ?_
            refine zae ?_
            refine dwp_if_f rfl (rfl) ?_
            refine zal ?_
            refine zad ?_
            refine zab rfl rfl rfl (zac (.inl rfl) (ev1 rfl)) ?_
            refine zab rfl rfl rfl (op_add' rfl (ev1 rfl) (ev1 rfl) (fun _ => IntWalk.i64_in _ (by omega))) ?_
            refine zab rfl rfl rfl (zac (.inr rfl) (ev1 rfl)) ?_
            refine zae ?_
            refine ⟨k + 1, [0, 1, 2, 3, 4], by omega, by simp only []; omega, rfl, ⟨congrArg (fun z => some (D.val (.int .i64 z))) (by first | rfl | omega), rfl, rfl, rfl, rfl, rfl, rfl, trivial⟩, ⟨rfl, rfl, rfl, rfl, rfl, trivial⟩⟩
        · try simp only [decide_eq_true_eq, decide_eq_false_iff_not, beq_iff_eq, bne_iff_ne, beq_eq_false_iff_ne, bne_eq_false_iff_eq, Bool.not_eq_true', Bool.not_eq_false', Bool.and_eq_true, Bool.or_eq_true, Bool.or_eq_false_iff, ne_eq, Decidable.not_not, Int.not_lt, Int.not_le] at c6
          refine dwp_exit ?_
          refine zaf ?_
          refine dwp_draw [([], []), ([], []), ([3], []), ([], []), ([], []), ([], []), ([], []), ([], []), ([], []), ([], []), ([], []), ([], []), ([], [])] mixed (by kernel_rfl) ?_
          refine zag rfl rfl (zac (.inl rfl) (ev1 rfl)) ?_
          refine zag rfl rfl (zah [] [] [] rfl (ev1 rfl) (ec (ev1 rfl) en) rfl rfl (show_d w h _ (ts.take 17) (dpR_ok _) hc) rfl rfl rfl rfl rfl rfl) ?_
          refine zag rfl rfl (op_ldmw rfl tb24 (ev1 rfl) rfl rfl) ?_
          refine zag rfl rfl ((zah [] [] [] rfl (ev1 rfl) (ec (ev1 rfl) (ec (ev1 rfl) en)) rfl rfl (same_d w h w h (ts.take 17) (ts.take 17) (by omega)) rfl rfl rfl rfl rfl rfl).cast (d' := .val (.bool true)) (by simp)) ?_
          refine zag rfl rfl (zac (.inl rfl) (ev1 rfl)) ?_
          refine lex_k (gd_t (b := true) rfl rfl rfl) rfl rfl (zac (.inl rfl) (ev1 rfl)) rfl (by simp only [upd, zaa, za]; exact rfl) ?_
          refine lex_k (gd_t (b := true) rfl rfl rfl) rfl rfl (zac (.inl rfl) (ev1 rfl)) rfl (by simp only [upd, zaa, za]; exact rfl) ?_
          refine lex_k (gd_t (b := true) rfl rfl rfl) rfl rfl (zac (.inl rfl) (ev1 rfl)) rfl (by simp only [upd, zaa, za]; exact rfl) ?_
          refine lex_k (gd_t (b := true) rfl rfl rfl) rfl rfl (op_len rfl sl48 (ev2 rfl)) rfl (by simp only [upd, zaa, za]; exact rfl) ?_
          refine lex_k (gd_t (b := true) rfl rfl rfl) rfl rfl (op_sltk (j := (fewO y).length) rfl sl48 (ev2 rfl) (bd_some (ev2 rfl)) (fun _ => by omega) (fun _ => by omega) (fun _ => rfl)) rfl (by simp only [upd, zaa, za]; exact rfl) ?_
          refine lex_k (gd_t (b := true) rfl rfl rfl) rfl rfl ((zah [] [] [] rfl (ev1 rfl) (ec (ev2 rfl) (ec (ev2 rfl) en)) rfl rfl (equalP (fewO y) (y.take (fewO y).length)) rfl rfl rfl rfl rfl rfl).cast (d' := .val (.bool true)) (by rw [fewO_eq]; simp)) rfl (by simp only [upd, zaa, za]; exact rfl) ?_
          refine zag rfl rfl ((op_and rfl (ev1 rfl) (ev3 rfl (fun _ => rfl))).cast (d' := .val (.bool true)) (by rfl)) ?_
          refine zag rfl rfl (zac (.inr rfl) (ev1 rfl)) ?_
          refine lex_nil ?_
          refine dwp_ret ?_
          refine kend [0] (rs1 rfl (rv_t rfl)) rfl rfl ?_ ⟨rfl, trivial⟩
          rfl
      · refine zad ?_
        refine zab rfl rfl rfl (zac (.inl rfl) (ev1 rfl)) ?_
        refine zab rfl rfl rfl ((op_not rfl (ev1 rfl)).cast (d' := .val (.bool false)) (by kernel_rfl)) ?_
        refine zab rfl rfl rfl (zac (.inl rfl) (ev1 rfl)) ?_
        refine walk_k (gd_f (b := false) rfl rfl rfl) rfl rfl rfl (zac (.inl rfl) (ev1 rfl)) (by simp only [upd, zaa, za]; exact rfl) ?_
        refine walk_k (gd_f (b := false) rfl rfl rfl) rfl rfl rfl ((zah [] [] [] rfl (ev1 rfl) (ec (ev2 rfl) (ec (ev1 rfl) en)) rfl rfl (ncs_d (fewO y)) rfl rfl rfl rfl rfl rfl).cast (d' := .val (.bool true)) (by rw [show drwL (fewO y) = false by simpa using hdl]; rfl)) (by simp only [upd, zaa, za]; exact rfl) ?_
        refine zab rfl rfl rfl ((op_or rfl (ev1 rfl) (ev3 rfl (fun _ => rfl))).cast (d' := .val (.bool true)) (by rfl)) ?_
        refine zae ?_
        refine dwp_if_t rfl (rfl) ?_
        refine zad ?_
        refine zab rfl rfl rfl (zac (.inr rfl) (ev1 rfl)) ?_
        refine zae ?_
        refine zaf ?_
        refine zai 1 (by simp only [holes, List.cons_append, List.nil_append]; exact rfl) ?_
        refine zad ?_
        refine zab rfl rfl rfl (op_ldmw rfl tb24 (ev1 rfl) rfl rfl) ?_
        refine zaj rfl rfl rfl (op_alloc 4 rfl zr24 rfl) (by simp only [upd, zaa, za]; exact rfl) ?_
        refine walk_s rfl rfl (op_stam rfl tb24 (ev1 rfl) (ev1 rfl) rfl rfl rfl rfl) (by simp only [upd, zaa, za]; exact rfl) ?_
        refine zae ?_
        refine zaf ?_
        refine zaf ?_
        refine zad ?_
        refine zab rfl rfl rfl (zac (.inl rfl) (ev1 rfl)) ?_
        refine zab rfl rfl rfl ((op_eql rfl (ev1 rfl) (ev1 rfl)).cast (d' := .val (.bool false)) (by kernel_rfl)) ?_
        refine zae ?_
        refine dwp_if_f rfl (rfl) ?_
        refine zal ?_
        refine zaf ?_
        refine zad ?_
        refine zab rfl rfl rfl (zac (.inl rfl) (ev1 rfl)) ?_
        refine zab rfl rfl rfl (op_ldw rfl tb47 (ev1 rfl) rfl rfl) ?_
        refine zab rfl rfl rfl (zac (.inl rfl) (ev1 rfl)) ?_
        refine zab rfl rfl rfl (zah [] [] [] rfl (ev1 rfl) (ec (ev1 rfl) (ec (ev1 rfl) (ec (ev1 rfl) en))) rfl rfl (stroke_n w h _ (ts.take 17) (dpR_ok _) hc c n r (fewO y) (sw_bad fun q => hdl q.2) (by omega)) rfl rfl rfl rfl rfl rfl) ?_
        refine zab rfl rfl rfl (zac (.inl rfl) (ev1 rfl)) ?_
        refine zab rfl rfl rfl (op_ext rfl (ev1 rfl) rfl) ?_
        refine zab rfl rfl rfl (op_ext rfl (ev1 rfl) rfl) ?_
        refine zab rfl rfl rfl (zac (.inr rfl) (ev1 rfl)) ?_
        refine zab rfl rfl rfl (zac (.inr rfl) (ev1 rfl)) ?_
        refine zae ?_
        refine zaf ?_
        refine zaf ?_
        refine zad ?_
        refine zab rfl rfl rfl (zac (.inl rfl) (ev1 rfl)) ?_
        refine zab rfl rfl rfl (zac (.inl rfl) (ev1 rfl)) ?_
        refine zab rfl rfl rfl (op_ldmw rfl tb24 (ev1 rfl) rfl rfl) ?_
        refine zab rfl rfl rfl (zac (.inl rfl) (ev1 rfl)) ?_
        refine zab rfl rfl rfl (zah [] [] [] rfl (ev1 rfl) (ec (ev1 rfl) (ec (ev1 rfl) (ec (ev1 rfl) (ec (ev1 rfl) en)))) rfl rfl (says_e w h (ts.take 17) 2 (by decide)) rfl rfl rfl rfl rfl rfl) ?_
        refine zab rfl rfl rfl ((op_not rfl (ev1 rfl)).cast (d' := .val (.bool false)) (by kernel_rfl)) ?_
        refine zae ?_
        refine dwp_if_f rfl (rfl) ?_
        refine zal ?_
        refine zaf ?_
        refine zaf ?_
        refine zad ?_
        refine zab rfl rfl rfl (zac (.inr rfl) (ev1 rfl)) ?_
        refine zae ?_
        refine dwp_block ?_
        refine dwp_loopS ⟨hs0, rfl⟩ (α := Nat) (fun k => [(15, .val (.int .i64 ((k : Int) + 1)))]) [(2, _), (4, _), (7, _), (8, _), (9, _), (11, _)] (fun k => []) [_, _, _, _, _] (fun k => k ≤ (fewO y).length) (fun k => (fewO y).length - k) 0 [0, 1, 2, 3, 4] (Nat.zero_le _) rfl ⟨rfl, rfl, rfl, rfl, rfl, rfl, trivial⟩ ⟨congrArg (fun z => some (D.val (.int .i64 z))) (by first | rfl | omega), trivial⟩ ⟨rfl, rfl, rfl, rfl, rfl, trivial⟩ ?_
        intro k hx
        simp only [upd, zaa, za, List.cons_append, List.nil_append]
        have hk0 := hx
        refine zaf ?_
        refine zaf ?_
        refine zad ?_
        refine zab rfl rfl rfl (zac (.inl rfl) (ev1 rfl)) ?_
        refine zab rfl rfl rfl (zac (.inl rfl) (ev1 rfl)) ?_
        refine zab rfl rfl rfl (op_len rfl sl48 (ev1 rfl)) ?_
        refine zab rfl rfl rfl (op_lss rfl (ev1 rfl) (ev1 rfl)) ?_
        refine zae ?_
        refine dwp_cond rfl (fun c14 => ?_) (fun c14 => ?_)
        · try simp only [decide_eq_true_eq, decide_eq_false_iff_not, beq_iff_eq, bne_iff_ne, beq_eq_false_iff_ne, bne_eq_false_iff_eq, Bool.not_eq_true', Bool.not_eq_false', Bool.and_eq_true, Bool.or_eq_true, Bool.or_eq_false_iff, ne_eq, Decidable.not_not, Int.not_lt, Int.not_le] at c14
          refine zal ?_
          refine zaf ?_
          refine dwp_block ?_
          refine zaf ?_
          have hk : k < (fewO y).length := by omega
          have hk1 : k + 1 < (fewO y).length := by omega
          refine zai 2 (by simp only [holes, List.cons_append, List.nil_append]; exact rfl) ?_
          refine dwp_draw [([], []), ([], []), ([], []), ([], []), ([], []), ([], []), ([], []), ([], []), ([], []), ([5], [5]), ([6], [6]), ([5], [5]), ([6], [6])] mixed (by kernel_rfl) ?_
          refine zag rfl rfl (zac (.inl rfl) (ev1 rfl)) ?_
          refine zag rfl rfl (zac (.inl rfl) (ev1 rfl)) ?_
          refine zag rfl rfl (op_sub' rfl (ev1 rfl) (ev1 rfl) (fun _ => IntWalk.i64_in _ (by omega))) ?_
          refine zag rfl rfl (op_ixsr (j := k) rfl sl48 (ev1 rfl) (ev1 rfl) (fun _ => rfl) (by decide) (by omega) (by omega)) ?_
          refine zag rfl rfl (op_ldwd rfl tb51 (ev1 rfl) rfl) ?_
          refine zag rfl rfl (zac (.inl rfl) (ev1 rfl)) ?_
          refine zag rfl rfl (zac (.inl rfl) (ev1 rfl)) ?_
          refine zag rfl rfl (op_ixsr (j := k + 1) rfl sl48 (ev1 rfl) (ev1 rfl) (fun _ => rfl) (by decide) (by omega) (by omega)) ?_
          refine zag rfl rfl (op_ldwd rfl tb51 (ev1 rfl) rfl) ?_
          refine lex_w rfl rfl (op_alloc 5 rfl zr51 rfl) rfl (by simp only [upd, zaa, za]; exact rfl) ?_
          refine lex_w rfl rfl (op_alloc 6 rfl zr51 rfl) rfl (by simp only [upd, zaa, za]; exact rfl) ?_
          refine lex_s rfl rfl (op_stwa rfl tb51 (ev1 rfl) (ev1 rfl) rfl rfl rfl rfl) rfl (by simp only [upd, zaa, za]; exact rfl) ?_
          refine lex_s rfl rfl (op_stwa rfl tb51 (ev1 rfl) (ev1 rfl) rfl rfl rfl rfl) rfl (by simp only [upd, zaa, za]; exact rfl) ?_
          refine lex_nil ?_
          refine zaf ?_
          refine zai 1 (by simp only [holes, List.cons_append, List.nil_append]; exact rfl) ?_
          refine dwp_draw [([3], []), ([7], [7]), ([], []), ([7], [7])] mixed (by kernel_rfl) ?_
          refine zag rfl rfl (op_ldmw rfl tb24 (ev1 rfl) rfl rfl) ?_
          refine lex_w rfl rfl (op_alloc 7 rfl zr24 rfl) rfl (by simp only [upd, zaa, za]; exact rfl) ?_
          refine zag rfl rfl (zac (.inr rfl) (ev1 rfl)) ?_
          refine lex_s rfl rfl (op_stam rfl tb24 (ev1 rfl) (ev1 rfl) rfl rfl rfl rfl) rfl (by simp only [upd, zaa, za]; exact rfl) ?_
          refine lex_nil ?_
          refine zaf ?_
          refine zaf ?_
          by_cases hab : (drwB (fewO y)[k] && drwB (fewO y)[k + 1]) = true
          · obtain ⟨ha, hb2⟩ := Bool.and_eq_true_iff.1 hab
            have hsl := sw_line hn ha hb2
            refine zad ?_
            refine zab rfl rfl rfl (op_ldw rfl tb51 (ev1 rfl) rfl rfl) ?_
            refine zab rfl rfl rfl ((zah [] [] [] rfl (ev1 rfl) (ec (ev1 rfl) en) rfl rfl (rmay_d (fewO y)[k]) rfl rfl rfl rfl rfl rfl).cast (d' := .val (.bool true)) (by rw [ha])) ?_
            refine zab rfl rfl rfl (zac (.inl rfl) (ev1 rfl)) ?_
            refine walk_k (gd_t (b := true) rfl rfl rfl) rfl rfl rfl (op_ldw rfl tb51 (ev1 rfl) rfl rfl) (by simp only [upd, zaa, za]; exact rfl) ?_
            refine walk_k (gd_t (b := true) rfl rfl rfl) rfl rfl rfl ((zah [] [] [] rfl (ev1 rfl) (ec (ev2 rfl) en) rfl rfl (rmay_d (fewO y)[k + 1]) rfl rfl rfl rfl rfl rfl).cast (d' := .val (.bool true)) (by rw [hb2])) (by simp only [upd, zaa, za]; exact rfl) ?_
            refine zab rfl rfl rfl ((op_and rfl (ev1 rfl) (ev3 rfl (fun _ => rfl))).cast (d' := .val (.bool true)) (by rfl)) ?_
            refine zab rfl rfl rfl (zac (.inl rfl) (ev1 rfl)) ?_
            refine walk_k (gd_t (b := true) rfl rfl rfl) rfl rfl rfl (zac (.inl rfl) (ev1 rfl)) (by simp only [upd, zaa, za]; exact rfl) ?_
            refine zab rfl rfl rfl ((op_and rfl (ev1 rfl) (ev3 rfl (fun _ => rfl))).cast (d' := .val (.bool true)) (by rfl)) ?_
            refine zae ?_
            refine dwp_if_t rfl (rfl) ?_
            refine dwp_draw [([3], []), ([2], []), ([5], []), ([6], []), ([], []), ([], []), ([], []), ([7], [7])] mixed (by kernel_rfl) ?_
            refine zag rfl rfl (op_ldmw rfl tb24 (ev1 rfl) rfl rfl) ?_
            refine zag rfl rfl (op_ldw rfl tb47 (ev1 rfl) rfl rfl) ?_
            refine zag rfl rfl (op_ldw rfl tb51 (ev1 rfl) rfl rfl) ?_
            refine zag rfl rfl (op_ldw rfl tb51 (ev1 rfl) rfl rfl) ?_
            refine zag rfl rfl (zah [] [] [] rfl (ev1 rfl) (ec (ev1 rfl) (ec (ev1 rfl) en)) rfl rfl (rline_d (fewO y)[k] (fewO y)[k + 1] ha hb2) rfl rfl rfl rfl rfl rfl) ?_
            refine zag rfl rfl (zah [] [] [] rfl (ev1 rfl) (ec (ev1 rfl) (ec (ev1 rfl) (ec (ev1 rfl) en))) rfl rfl (rstk_d w h (ts.take 17) hc c n r (lineL (fewO y)[k] (fewO y)[k + 1]) hsl) rfl rfl rfl rfl rfl rfl) ?_
            refine zag rfl rfl (zac (.inr rfl) (ev1 rfl)) ?_
            refine lex_s rfl rfl (op_stmw rfl tb24 (ev1 rfl) (ev1 rfl) rfl rfl rfl rfl) rfl (by simp only [upd, zaa, za]; exact rfl) ?_
            refine lex_nil ?_
            refine zaf ?_
            refine zad ?_
            refine zab rfl rfl rfl (zac (.inl rfl) (ev1 rfl)) ?_
            refine zab rfl rfl rfl (op_ldw rfl tb47 (ev1 rfl) rfl rfl) ?_
            refine zab rfl rfl rfl (op_ldw rfl tb51 (ev1 rfl) rfl rfl) ?_
            refine zab rfl rfl rfl (op_ldw rfl tb51 (ev1 rfl) rfl rfl) ?_
            refine zab rfl rfl rfl (zah [] [] [] rfl (ev1 rfl) (ec (ev1 rfl) (ec (ev1 rfl) (ec (ev1 rfl) (ec (ev1 rfl) en)))) rfl rfl (dline_d w h _ (ts.take 17) (dpR_ok _) hc c n r (fewO y)[k] (fewO y)[k + 1] ha hb2 hsl) rfl rfl rfl rfl rfl rfl) ?_
            refine zab rfl rfl rfl (zac (.inl rfl) (ev1 rfl)) ?_
            refine zab rfl rfl rfl (op_ext rfl (ev1 rfl) rfl) ?_
            refine zab rfl rfl rfl (op_ext rfl (ev1 rfl) rfl) ?_
            refine zab rfl rfl rfl (zac (.inr rfl) (ev1 rfl)) ?_
            refine zab rfl rfl rfl (zac (.inr rfl) (ev1 rfl)) ?_
            refine zae ?_
            refine zaf ?_
            refine zad ?_
            refine zab rfl rfl rfl (zac (.inl rfl) (ev1 rfl)) ?_
            refine zab rfl rfl rfl (zac (.inl rfl) (ev1 rfl)) ?_
            refine zab rfl rfl rfl (op_ldmw rfl tb24 (ev1 rfl) rfl rfl) ?_
            refine zab rfl rfl rfl (zac (.inl rfl) (ev1 rfl)) ?_
            refine zab rfl rfl rfl (zah [] [] [] rfl (ev1 rfl) (ec (ev1 rfl) (ec (ev1 rfl) (ec (ev1 rfl) (ec (ev1 rfl) en)))) rfl rfl (says_d w h (drwC false w h (ts.take 17) c (swL r n (lineL (fewO y)[k] (fewO y)[k + 1]))) (drwC_ok hc _ _ _)) rfl rfl rfl rfl rfl rfl) ?_
            refine zab rfl rfl rfl ((op_not rfl (ev1 rfl)).cast (d' := .val (.bool false)) (by kernel_rfl)) ?_
            refine zae ?_
            refine dwp_if_f rfl (rfl) ?_
            refine zal ?_
            refine zad ?_
            refine zab rfl rfl rfl (zac (.inl rfl) (ev1 rfl)) ?_
            refine zab rfl rfl rfl (op_add' rfl (ev1 rfl) (ev1 rfl) (fun _ => IntWalk.i64_in _ (by omega))) ?_
            refine zab rfl rfl rfl (zac (.inr rfl) (ev1 rfl)) ?_
            refine zae ?_
            refine ⟨k + 1, [0, 1, 2, 3, 4], by omega, by simp only []; omega, rfl, ⟨congrArg (fun z => some (D.val (.int .i64 z))) (by first | rfl | omega), rfl, rfl, rfl, rfl, rfl, rfl, trivial⟩, ⟨rfl, rfl, rfl, rfl, rfl, trivial⟩⟩
          · have hab2 : (drwB (fewO y)[k] && drwB (fewO y)[k + 1]) = false := by simpa using hab
            refine zad ?_
            refine zab rfl rfl rfl (op_ldw rfl tb51 (ev1 rfl) rfl rfl) ?_
            refine zab rfl rfl rfl (zah [] [] [] rfl (ev1 rfl) (ec (ev1 rfl) en) rfl rfl (rmay_d (fewO y)[k]) rfl rfl rfl rfl rfl rfl) ?_
            refine zab rfl rfl rfl (zac (.inl rfl) (ev1 rfl)) ?_
            refine zak (gd_t rfl rfl rfl) rfl rfl rfl (op_ldw rfl tb51 (ev1 rfl) rfl rfl) ?_
            refine zak (gd_t rfl rfl rfl) rfl rfl rfl (zah [] [] [] rfl (ev1 rfl) (ec (ev2 rfl) en) rfl rfl (rmay_d (fewO y)[k + 1]) rfl rfl rfl rfl rfl rfl) ?_
            refine zab rfl rfl rfl (op_and rfl (ev1 rfl) (ev3 rfl id)) ?_
            refine zab rfl rfl rfl (zac (.inl rfl) (ev1 rfl)) ?_
            refine zak (gd_t rfl rfl rfl) rfl rfl rfl (zac (.inl rfl) (ev1 rfl)) ?_
            refine zab rfl rfl rfl (op_and rfl (ev1 rfl) (ev3 rfl id)) ?_
            refine zae ?_
            refine dwp_if_f rfl (by simpa using hab2) ?_
            refine zal ?_
            refine zaf ?_
            refine zad ?_
            refine zab rfl rfl rfl (zac (.inl rfl) (ev1 rfl)) ?_
            refine zab rfl rfl rfl (op_ldw rfl tb47 (ev1 rfl) rfl rfl) ?_
            refine zab rfl rfl rfl (op_ldw rfl tb51 (ev1 rfl) rfl rfl) ?_
            refine zab rfl rfl rfl (op_ldw rfl tb51 (ev1 rfl) rfl rfl) ?_
            refine zab rfl rfl rfl (zah [] [] [] rfl (ev1 rfl) (ec (ev1 rfl) (ec (ev1 rfl) (ec (ev1 rfl) (ec (ev1 rfl) en)))) rfl rfl (dline_n1 w h _ (ts.take 17) (dpR_ok _) hc c n r (fewO y)[k] (fewO y)[k + 1] hab2) rfl rfl rfl rfl rfl rfl) ?_
            refine zab rfl rfl rfl (zac (.inl rfl) (ev1 rfl)) ?_
            refine zab rfl rfl rfl (op_ext rfl (ev1 rfl) rfl) ?_
            refine zab rfl rfl rfl (op_ext rfl (ev1 rfl) rfl) ?_
            refine zab rfl rfl rfl (zac (.inr rfl) (ev1 rfl)) ?_
            refine zab rfl rfl rfl (zac (.inr rfl) (ev1 rfl)) ?_
            refine zae ?_
            refine zaf ?_
            refine zad ?_
            refine zab rfl rfl rfl (zac (.inl rfl) (ev1 rfl)) ?_
            refine zab rfl rfl rfl (zac (.inl rfl) (ev1 rfl)) ?_
            refine zab rfl rfl rfl (op_ldmw rfl tb24 (ev1 rfl) rfl rfl) ?_
            refine zab rfl rfl rfl (zac (.inl rfl) (ev1 rfl)) ?_
            refine zab rfl rfl rfl (zah [] [] [] rfl (ev1 rfl) (ec (ev1 rfl) (ec (ev1 rfl) (ec (ev1 rfl) (ec (ev1 rfl) en)))) rfl rfl (says_e w h (ts.take 17) 2 (by decide)) rfl rfl rfl rfl rfl rfl) ?_
            refine zab rfl rfl rfl ((op_not rfl (ev1 rfl)).cast (d' := .val (.bool false)) (by kernel_rfl)) ?_
            refine zae ?_
            refine dwp_if_f rfl (rfl) ?_
            refine zal ?_
            refine zad ?_
            refine zab rfl rfl rfl (zac (.inl rfl) (ev1 rfl)) ?_
            refine zab rfl rfl rfl (op_add' rfl (ev1 rfl) (ev1 rfl) (fun _ => IntWalk.i64_in _ (by omega))) ?_
            refine zab rfl rfl rfl (zac (.inr rfl) (ev1 rfl)) ?_
            refine zae ?_
            refine ⟨k + 1, [0, 1, 2, 3, 4], by omega, by simp only []; omega, rfl, ⟨congrArg (fun z => some (D.val (.int .i64 z))) (by first | rfl | omega), rfl, rfl, rfl, rfl, rfl, rfl, trivial⟩, ⟨rfl, rfl, rfl, rfl, rfl, trivial⟩⟩
        · try simp only [decide_eq_true_eq, decide_eq_false_iff_not, beq_iff_eq, bne_iff_ne, beq_eq_false_iff_ne, bne_eq_false_iff_eq, Bool.not_eq_true', Bool.not_eq_false', Bool.and_eq_true, Bool.or_eq_true, Bool.or_eq_false_iff, ne_eq, Decidable.not_not, Int.not_lt, Int.not_le] at c14
          refine dwp_exit ?_
          refine zaf ?_
          refine dwp_draw [([], []), ([], []), ([3], []), ([], []), ([], []), ([], []), ([], []), ([], []), ([], []), ([], []), ([], []), ([], []), ([], [])] mixed (by kernel_rfl) ?_
          refine zag rfl rfl (zac (.inl rfl) (ev1 rfl)) ?_
          refine zag rfl rfl (zah [] [] [] rfl (ev1 rfl) (ec (ev1 rfl) en) rfl rfl (show_d w h _ (ts.take 17) (dpR_ok _) hc) rfl rfl rfl rfl rfl rfl) ?_
          refine zag rfl rfl (op_ldmw rfl tb24 (ev1 rfl) rfl rfl) ?_
          refine zag rfl rfl ((zah [] [] [] rfl (ev1 rfl) (ec (ev1 rfl) (ec (ev1 rfl) en)) rfl rfl (same_d w h w h (ts.take 17) (ts.take 17) (by omega)) rfl rfl rfl rfl rfl rfl).cast (d' := .val (.bool true)) (by simp)) ?_
          refine zag rfl rfl (zac (.inl rfl) (ev1 rfl)) ?_
          refine lex_k (gd_t (b := true) rfl rfl rfl) rfl rfl (zac (.inl rfl) (ev1 rfl)) rfl (by simp only [upd, zaa, za]; exact rfl) ?_
          refine lex_k (gd_t (b := true) rfl rfl rfl) rfl rfl (zac (.inl rfl) (ev1 rfl)) rfl (by simp only [upd, zaa, za]; exact rfl) ?_
          refine lex_k (gd_t (b := true) rfl rfl rfl) rfl rfl (zac (.inl rfl) (ev1 rfl)) rfl (by simp only [upd, zaa, za]; exact rfl) ?_
          refine lex_k (gd_t (b := true) rfl rfl rfl) rfl rfl (op_len rfl sl48 (ev2 rfl)) rfl (by simp only [upd, zaa, za]; exact rfl) ?_
          refine lex_k (gd_t (b := true) rfl rfl rfl) rfl rfl (op_sltk (j := (fewO y).length) rfl sl48 (ev2 rfl) (bd_some (ev2 rfl)) (fun _ => by omega) (fun _ => by omega) (fun _ => rfl)) rfl (by simp only [upd, zaa, za]; exact rfl) ?_
          refine lex_k (gd_t (b := true) rfl rfl rfl) rfl rfl ((zah [] [] [] rfl (ev1 rfl) (ec (ev2 rfl) (ec (ev2 rfl) en)) rfl rfl (equalP (fewO y) (y.take (fewO y).length)) rfl rfl rfl rfl rfl rfl).cast (d' := .val (.bool true)) (by rw [fewO_eq]; simp)) rfl (by simp only [upd, zaa, za]; exact rfl) ?_
          refine zag rfl rfl ((op_and rfl (ev1 rfl) (ev3 rfl (fun _ => rfl))).cast (d' := .val (.bool true)) (by rfl)) ?_
          refine zag rfl rfl (zac (.inr rfl) (ev1 rfl)) ?_
          refine lex_nil ?_
          refine dwp_ret ?_
          refine kend [0] (rs1 rfl (rv_t rfl)) rfl rfl ?_ ⟨rfl, trivial⟩
          rfl
    · refine zad ?_
      refine zab rfl rfl rfl (op_fa rfl fo47_1 (ev1 rfl)) ?_
      refine zab rfl rfl rfl (op_ldo rfl tb3 (ev1 rfl) rfl rfl) ?_
      refine zab rfl rfl rfl (op_geq rfl (ev1 rfl) (ev1 rfl)) ?_
      refine zab rfl rfl rfl (zac (.inl rfl) (ev1 rfl)) ?_
      refine zak (gd_t rfl rfl rfl) rfl rfl rfl (op_fa rfl fo47_1 (ev1 rfl)) ?_
      refine zak (gd_t rfl rfl rfl) rfl rfl rfl (op_ldo rfl tb3 (ev2 rfl) rfl rfl) ?_
      refine zak (gd_t rfl rfl rfl) rfl rfl rfl (op_leq rfl (ev2 rfl) (ev1 rfl)) ?_
      refine zab rfl rfl rfl ((op_and rfl (ev1 rfl) (ev3 rfl id)).cast (d' := .val (.bool false)) (by rw [D.val.injEq, Value.bool.injEq]; simp; omega)) ?_
      refine zab rfl rfl rfl (zac (.inr rfl) (ev1 rfl)) ?_
      refine zae ?_
      refine zaf ?_
      refine zad ?_
      refine zab rfl rfl rfl (zac (.inr rfl) (ev1 rfl)) ?_
      refine zae ?_
      refine zaf ?_
      refine zaf ?_
      refine zad ?_
      refine zab rfl rfl rfl (zac (.inl rfl) (ev1 rfl)) ?_
      refine zab rfl rfl rfl ((op_not rfl (ev1 rfl)).cast (d' := .val (.bool true)) (by kernel_rfl)) ?_
      refine zab rfl rfl rfl (zac (.inl rfl) (ev1 rfl)) ?_
      refine zak (gd_f (b := true) rfl rfl rfl) rfl rfl rfl (dop_never (d := .junk)) ?_
      refine zak (gd_f (b := true) rfl rfl rfl) rfl rfl rfl (dop_never (d := .val (.bool false))) ?_
      refine zab rfl rfl rfl ((op_or rfl (ev1 rfl) (ev3 rfl id)).cast (d' := .val (.bool true)) (by rfl)) ?_
      refine zae ?_
      refine dwp_if_t rfl (rfl) ?_
      refine zad ?_
      refine zab rfl rfl rfl (zac (.inr rfl) (ev1 rfl)) ?_
      refine zae ?_
      refine zaf ?_
      refine zai 1 (by simp only [holes, List.cons_append, List.nil_append]; exact rfl) ?_
      refine zad ?_
      refine zab rfl rfl rfl (op_ldmw rfl tb24 (ev1 rfl) rfl rfl) ?_
      refine zaj rfl rfl rfl (op_alloc 4 rfl zr24 rfl) (by simp only [upd, zaa, za]; exact rfl) ?_
      refine walk_s rfl rfl (op_stam rfl tb24 (ev1 rfl) (ev1 rfl) rfl rfl rfl rfl) (by simp only [upd, zaa, za]; exact rfl) ?_
      refine zae ?_
      refine zaf ?_
      refine zaf ?_
      refine zad ?_
      refine zab rfl rfl rfl (zac (.inl rfl) (ev1 rfl)) ?_
      refine zab rfl rfl rfl ((op_eql rfl (ev1 rfl) (ev1 rfl)).cast (d' := .val (.bool false)) (by kernel_rfl)) ?_
      refine zae ?_
      refine dwp_if_f rfl (rfl) ?_
      refine zal ?_
      refine zaf ?_
      refine zad ?_
      refine zab rfl rfl rfl (zac (.inl rfl) (ev1 rfl)) ?_
      refine zab rfl rfl rfl (op_ldw rfl tb47 (ev1 rfl) rfl rfl) ?_
      refine zab rfl rfl rfl (zac (.inl rfl) (ev1 rfl)) ?_
      refine zab rfl rfl rfl (zah [] [] [] rfl (ev1 rfl) (ec (ev1 rfl) (ec (ev1 rfl) (ec (ev1 rfl) en))) rfl rfl (stroke_n w h _ (ts.take 17) (dpR_ok _) hc c n r (fewO y) (sw_bad fun q => hn q.1) (by omega)) rfl rfl rfl rfl rfl rfl) ?_
      refine zab rfl rfl rfl (zac (.inl rfl) (ev1 rfl)) ?_
      refine zab rfl rfl rfl (op_ext rfl (ev1 rfl) rfl) ?_
      refine zab rfl rfl rfl (op_ext rfl (ev1 rfl) rfl) ?_
      refine zab rfl rfl rfl (zac (.inr rfl) (ev1 rfl)) ?_
      refine zab rfl rfl rfl (zac (.inr rfl) (ev1 rfl)) ?_
      refine zae ?_
      refine zaf ?_
      refine zaf ?_
      refine zad ?_
      refine zab rfl rfl rfl (zac (.inl rfl) (ev1 rfl)) ?_
      refine zab rfl rfl rfl (zac (.inl rfl) (ev1 rfl)) ?_
      refine zab rfl rfl rfl (op_ldmw rfl tb24 (ev1 rfl) rfl rfl) ?_
      refine zab rfl rfl rfl (zac (.inl rfl) (ev1 rfl)) ?_
      refine zab rfl rfl rfl (zah [] [] [] rfl (ev1 rfl) (ec (ev1 rfl) (ec (ev1 rfl) (ec (ev1 rfl) (ec (ev1 rfl) en)))) rfl rfl (says_e w h (ts.take 17) 2 (by decide)) rfl rfl rfl rfl rfl rfl) ?_
      refine zab rfl rfl rfl ((op_not rfl (ev1 rfl)).cast (d' := .val (.bool false)) (by kernel_rfl)) ?_
      refine zae ?_
      refine dwp_if_f rfl (rfl) ?_
      refine zal ?_
      refine zaf ?_
      refine zaf ?_
      refine zad ?_
      refine zab rfl rfl rfl (zac (.inr rfl) (ev1 rfl)) ?_
      refine zae ?_
      refine dwp_block ?_
      refine dwp_loopS ⟨hs0, rfl⟩ (α := Nat) (fun k => [(15, .val (.int .i64 ((k : Int) + 1)))]) [(2, _), (4, _), (7, _), (8, _), (9, _), (11, _)] (fun k => []) [_, _, _, _, _] (fun k => k ≤ (fewO y).length) (fun k => (fewO y).length - k) 0 [0, 1, 2, 3, 4] (Nat.zero_le _) rfl ⟨rfl, rfl, rfl, rfl, rfl, rfl, trivial⟩ ⟨congrArg (fun z => some (D.val (.int .i64 z))) (by first | rfl | omega), trivial⟩ ⟨rfl, rfl, rfl, rfl, rfl, trivial⟩ ?_
      intro k hx
      simp only [upd, zaa, za, List.cons_append, List.nil_append]
      have hk0 := hx
      refine zaf ?_
      refine zaf ?_
      refine zad ?_
      refine zab rfl rfl rfl (zac (.inl rfl) (ev1 rfl)) ?_
      refine zab rfl rfl rfl (zac (.inl rfl) (ev1 rfl)) ?_
      refine zab rfl rfl rfl (op_len rfl sl48 (ev1 rfl)) ?_
      refine zab rfl rfl rfl (op_lss rfl (ev1 rfl) (ev1 rfl)) ?_
      refine zae ?_
      refine dwp_cond rfl (fun c22 => ?_) (fun c22 => ?_)
      · try simp only [decide_eq_true_eq, decide_eq_false_iff_not, beq_iff_eq, bne_iff_ne, beq_eq_false_iff_ne, bne_eq_false_iff_eq, Bool.not_eq_true', Bool.not_eq_false', Bool.and_eq_true, Bool.or_eq_true, Bool.or_eq_false_iff, ne_eq, Decidable.not_not, Int.not_lt, Int.not_le] at c22
        refine zal ?_
        refine zaf ?_
        refine dwp_block ?_
        refine zaf ?_
        have hk : k < (fewO y).length := by omega
        have hk1 : k + 1 < (fewO y).length := by omega
        refine zai 2 (by simp only [holes, List.cons_append, List.nil_append]; exact rfl) ?_
        refine dwp_draw [([], []), ([], []), ([], []), ([], []), ([], []), ([], []), ([], []), ([], []), ([], []), ([5], [5]), ([6], [6]), ([5], [5]), ([6], [6])] mixed (by kernel_rfl) ?_
        refine zag rfl rfl (zac (.inl rfl) (ev1 rfl)) ?_
        refine zag rfl rfl (zac (.inl rfl) (ev1 rfl)) ?_
        refine zag rfl rfl (op_sub' rfl (ev1 rfl) (ev1 rfl) (fun _ => IntWalk.i64_in _ (by omega))) ?_
        refine zag rfl rfl (op_ixsr (j := k) rfl sl48 (ev1 rfl) (ev1 rfl) (fun _ => rfl) (by decide) (by omega) (by omega)) ?_
        refine zag rfl rfl (op_ldwd rfl tb51 (ev1 rfl) rfl) ?_
        refine zag rfl rfl (zac (.inl rfl) (ev1 rfl)) ?_
        refine zag rfl rfl (zac (.inl rfl) (ev1 rfl)) ?_
        refine zag rfl rfl (op_ixsr (j := k + 1) rfl sl48 (ev1 rfl) (ev1 rfl) (fun _ => rfl) (by decide) (by omega) (by omega)) ?_
        refine zag rfl rfl (op_ldwd rfl tb51 (ev1 rfl) rfl) ?_
        refine lex_w rfl rfl (op_alloc 5 rfl zr51 rfl) rfl (by simp only [upd, zaa, za]; exact rfl) ?_
        refine lex_w rfl rfl (op_alloc 6 rfl zr51 rfl) rfl (by simp only [upd, zaa, za]; exact rfl) ?_
        refine lex_s rfl rfl (op_stwa rfl tb51 (ev1 rfl) (ev1 rfl) rfl rfl rfl rfl) rfl (by simp only [upd, zaa, za]; exact rfl) ?_
        refine lex_s rfl rfl (op_stwa rfl tb51 (ev1 rfl) (ev1 rfl) rfl rfl rfl rfl) rfl (by simp only [upd, zaa, za]; exact rfl) ?_
        refine lex_nil ?_
        refine zaf ?_
        refine zai 1 (by simp only [holes, List.cons_append, List.nil_append]; exact rfl) ?_
        refine dwp_draw [([3], []), ([7], [7]), ([], []), ([7], [7])] mixed (by kernel_rfl) ?_
        refine zag rfl rfl (op_ldmw rfl tb24 (ev1 rfl) rfl rfl) ?_
        refine lex_w rfl rfl (op_alloc 7 rfl zr24 rfl) rfl (by simp only [upd, zaa, za]; exact rfl) ?_
        refine zag rfl rfl (zac (.inr rfl) (ev1 rfl)) ?_
        refine lex_s rfl rfl (op_stam rfl tb24 (ev1 rfl) (ev1 rfl) rfl rfl rfl rfl) rfl (by simp only [upd, zaa, za]; exact rfl) ?_
        refine lex_nil ?_
        refine zaf ?_
        refine zaf ?_
        by_cases hab : (drwB (fewO y)[k] && drwB (fewO y)[k + 1]) = true
        · obtain ⟨ha, hb2⟩ := Bool.and_eq_true_iff.1 hab
          refine zad ?_
          refine zab rfl rfl rfl (op_ldw rfl tb51 (ev1 rfl) rfl rfl) ?_
          refine zab rfl rfl rfl ((zah [] [] [] rfl (ev1 rfl) (ec (ev1 rfl) en) rfl rfl (rmay_d (fewO y)[k]) rfl rfl rfl rfl rfl rfl).cast (d' := .val (.bool true)) (by rw [ha])) ?_
          refine zab rfl rfl rfl (zac (.inl rfl) (ev1 rfl)) ?_
          refine walk_k (gd_t (b := true) rfl rfl rfl) rfl rfl rfl (op_ldw rfl tb51 (ev1 rfl) rfl rfl) (by simp only [upd, zaa, za]; exact rfl) ?_
          refine walk_k (gd_t (b := true) rfl rfl rfl) rfl rfl rfl ((zah [] [] [] rfl (ev1 rfl) (ec (ev2 rfl) en) rfl rfl (rmay_d (fewO y)[k + 1]) rfl rfl rfl rfl rfl rfl).cast (d' := .val (.bool true)) (by rw [hb2])) (by simp only [upd, zaa, za]; exact rfl) ?_
          refine zab rfl rfl rfl ((op_and rfl (ev1 rfl) (ev3 rfl (fun _ => rfl))).cast (d' := .val (.bool true)) (by rfl)) ?_
          refine zab rfl rfl rfl (zac (.inl rfl) (ev1 rfl)) ?_
          refine walk_k (gd_t (b := true) rfl rfl rfl) rfl rfl rfl (zac (.inl rfl) (ev1 rfl)) (by simp only [upd, zaa, za]; exact rfl) ?_
          refine zab rfl rfl rfl (((op_and rfl (ev1 rfl) (ev3 rfl (fun _ => rfl))).cast (d' := .val (.bool false)) (by rfl)).cast (d' := .val (.bool false)) (by rfl)) ?_
          refine zae ?_
          refine dwp_if_f rfl (rfl) ?_
          refine zal ?_
          refine zaf ?_
          refine zad ?_
          refine zab rfl rfl rfl (zac (.inl rfl) (ev1 rfl)) ?_
          refine zab rfl rfl rfl (op_ldw rfl tb47 (ev1 rfl) rfl rfl) ?_
          refine zab rfl rfl rfl (op_ldw rfl tb51 (ev1 rfl) rfl rfl) ?_
          refine zab rfl rfl rfl (op_ldw rfl tb51 (ev1 rfl) rfl rfl) ?_
          refine zab rfl rfl rfl (zah [] [] [] rfl (ev1 rfl) (ec (ev1 rfl) (ec (ev1 rfl) (ec (ev1 rfl) (ec (ev1 rfl) en)))) rfl rfl (dline_n2 w h _ (ts.take 17) (dpR_ok _) hc c n r (fewO y)[k] (fewO y)[k + 1] ha hb2 (sw_bad fun q => hn q.1)) rfl rfl rfl rfl rfl rfl) ?_
          refine zab rfl rfl rfl (zac (.inl rfl) (ev1 rfl)) ?_
          refine zab rfl rfl rfl (op_ext rfl (ev1 rfl) rfl) ?_
          refine zab rfl rfl rfl (op_ext rfl (ev1 rfl) rfl) ?_
          refine zab rfl rfl rfl (zac (.inr rfl) (ev1 rfl)) ?_
          refine zab rfl rfl rfl (zac (.inr rfl) (ev1 rfl)) ?_
          refine zae ?_
          refine zaf ?_
          refine zad ?_
          refine zab rfl rfl rfl (zac (.inl rfl) (ev1 rfl)) ?_
          refine zab rfl rfl rfl (zac (.inl rfl) (ev1 rfl)) ?_
          refine zab rfl rfl rfl (op_ldmw rfl tb24 (ev1 rfl) rfl rfl) ?_
          refine zab rfl rfl rfl (zac (.inl rfl) (ev1 rfl)) ?_
          refine zab rfl rfl rfl (zah [] [] [] rfl (ev1 rfl) (ec (ev1 rfl) (ec (ev1 rfl) (ec (ev1 rfl) (ec (ev1 rfl) en)))) rfl rfl (says_e w h (ts.take 17) 2 (by decide)) rfl rfl rfl rfl rfl rfl) ?_
          refine zab rfl rfl rfl ((op_not rfl (ev1 rfl)).cast (d' := .val (.bool false)) (by kernel_rfl)) ?_
          refine zae ?_
          refine dwp_if_f rfl (rfl) ?_
          refine zal ?_
          refine zad ?_
          refine zab rfl rfl rfl (zac (.inl rfl) (ev1 rfl)) ?_
          refine zab rfl rfl rfl (op_add' rfl (ev1 rfl) (ev1 rfl) (fun _ => IntWalk.i64_in _ (by omega))) ?_
          refine zab rfl rfl rfl (zac (.inr rfl) (ev1 rfl)) ?_
          refine zae ?_
          refine ⟨k + 1, [0, 1, 2, 3, 4], by omega, by simp only []; omega, rfl, ⟨congrArg (fun z => some (D.val (.int .i64 z))) (by first | rfl | omega), rfl, rfl, rfl, rfl, rfl, rfl, trivial⟩, ⟨rfl, rfl, rfl, rfl, rfl, trivial⟩⟩
        · have hab2 : (drwB (fewO y)[k] && drwB (fewO y)[k + 1]) = false := by simpa using hab
          refine zad ?_
          refine zab rfl rfl rfl (op_ldw rfl tb51 (ev1 rfl) rfl rfl) ?_
          refine zab rfl rfl rfl (zah [] [] [] rfl (ev1 rfl) (ec (ev1 rfl) en) rfl rfl (rmay_d (fewO y)[k]) rfl rfl rfl rfl rfl rfl) ?_
          refine zab rfl rfl rfl (zac (.inl rfl) (ev1 rfl)) ?_
          refine zak (gd_t rfl rfl rfl) rfl rfl rfl (op_ldw rfl tb51 (ev1 rfl) rfl rfl) ?_
          refine zak (gd_t rfl rfl rfl) rfl rfl rfl (zah [] [] [] rfl (ev1 rfl) (ec (ev2 rfl) en) rfl rfl (rmay_d (fewO y)[k + 1]) rfl rfl rfl rfl rfl rfl) ?_
          refine zab rfl rfl rfl (op_and rfl (ev1 rfl) (ev3 rfl id)) ?_
          refine zab rfl rfl rfl (zac (.inl rfl) (ev1 rfl)) ?_
          refine zak (gd_t rfl rfl rfl) rfl rfl rfl (zac (.inl rfl) (ev1 rfl)) ?_
          refine zab rfl rfl rfl (op_and rfl (ev1 rfl) (ev3 rfl id)) ?_
          refine zae ?_
          refine dwp_if_f rfl (by simp) ?_
          refine zal ?_
          refine zaf ?_
          refine zad ?_
          refine zab rfl rfl rfl (zac (.inl rfl) (ev1 rfl)) ?_
          refine zab rfl rfl rfl (op_ldw rfl tb47 (ev1 rfl) rfl rfl) ?_
          refine zab rfl rfl rfl (op_ldw rfl tb51 (ev1 rfl) rfl rfl) ?_
          refine zab rfl rfl rfl (op_ldw rfl tb51 (ev1 rfl) rfl rfl) ?_
          refine zab rfl rfl rfl (zah [] [] [] rfl (ev1 rfl) (ec (ev1 rfl) (ec (ev1 rfl) (ec (ev1 rfl) (ec (ev1 rfl) en)))) rfl rfl (dline_n1 w h _ (ts.take 17) (dpR_ok _) hc c n r (fewO y)[k] (fewO y)[k + 1] hab2) rfl rfl rfl rfl rfl rfl) ?_
          refine zab rfl rfl rfl (zac (.inl rfl) (ev1 rfl)) ?_
          refine zab rfl rfl rfl (op_ext rfl (ev1 rfl) rfl) ?_
          refine zab rfl rfl rfl (op_ext rfl (ev1 rfl) rfl) ?_
          refine zab rfl rfl rfl (zac (.inr rfl) (ev1 rfl)) ?_
          refine zab rfl rfl rfl (zac (.inr rfl) (ev1 rfl)) ?_
          refine zae ?_
          refine zaf ?_
          refine zad ?_
          refine zab rfl rfl rfl (zac (.inl rfl) (ev1 rfl)) ?_
          refine zab rfl rfl rfl (zac (.inl rfl) (ev1 rfl)) ?_
          refine zab rfl rfl rfl (op_ldmw rfl tb24 (ev1 rfl) rfl rfl) ?_
          refine zab rfl rfl rfl (zac (.inl rfl) (ev1 rfl)) ?_
          refine zab rfl rfl rfl (zah [] [] [] rfl (ev1 rfl) (ec (ev1 rfl) (ec (ev1 rfl) (ec (ev1 rfl) (ec (ev1 rfl) en)))) rfl rfl (says_e w h (ts.take 17) 2 (by decide)) rfl rfl rfl rfl rfl rfl) ?_
          refine zab rfl rfl rfl ((op_not rfl (ev1 rfl)).cast (d' := .val (.bool false)) (by kernel_rfl)) ?_
          refine zae ?_
          refine dwp_if_f rfl (rfl) ?_
          refine zal ?_
          refine zad ?_
          refine zab rfl rfl rfl (zac (.inl rfl) (ev1 rfl)) ?_
          refine zab rfl rfl rfl (op_add' rfl (ev1 rfl) (ev1 rfl) (fun _ => IntWalk.i64_in _ (by omega))) ?_
          refine zab rfl rfl rfl (zac (.inr rfl) (ev1 rfl)) ?_
          refine zae ?_
          refine ⟨k + 1, [0, 1, 2, 3, 4], by omega, by simp only []; omega, rfl, ⟨congrArg (fun z => some (D.val (.int .i64 z))) (by first | rfl | omega), rfl, rfl, rfl, rfl, rfl, rfl, trivial⟩, ⟨rfl, rfl, rfl, rfl, rfl, trivial⟩⟩
      · try simp only [decide_eq_true_eq, decide_eq_false_iff_not, beq_iff_eq, bne_iff_ne, beq_eq_false_iff_ne, bne_eq_false_iff_eq, Bool.not_eq_true', Bool.not_eq_false', Bool.and_eq_true, Bool.or_eq_true, Bool.or_eq_false_iff, ne_eq, Decidable.not_not, Int.not_lt, Int.not_le] at c22
        refine dwp_exit ?_
        refine zaf ?_
        refine dwp_draw [([], []), ([], []), ([3], []), ([], []), ([], []), ([], []), ([], []), ([], []), ([], []), ([], []), ([], []), ([], []), ([], [])] mixed (by kernel_rfl) ?_
        refine zag rfl rfl (zac (.inl rfl) (ev1 rfl)) ?_
        refine zag rfl rfl (zah [] [] [] rfl (ev1 rfl) (ec (ev1 rfl) en) rfl rfl (show_d w h _ (ts.take 17) (dpR_ok _) hc) rfl rfl rfl rfl rfl rfl) ?_
        refine zag rfl rfl (op_ldmw rfl tb24 (ev1 rfl) rfl rfl) ?_
        refine zag rfl rfl ((zah [] [] [] rfl (ev1 rfl) (ec (ev1 rfl) (ec (ev1 rfl) en)) rfl rfl (same_d w h w h (ts.take 17) (ts.take 17) (by omega)) rfl rfl rfl rfl rfl rfl).cast (d' := .val (.bool true)) (by simp)) ?_
        refine zag rfl rfl (zac (.inl rfl) (ev1 rfl)) ?_
        refine lex_k (gd_t (b := true) rfl rfl rfl) rfl rfl (zac (.inl rfl) (ev1 rfl)) rfl (by simp only [upd, zaa, za]; exact rfl) ?_
        refine lex_k (gd_t (b := true) rfl rfl rfl) rfl rfl (zac (.inl rfl) (ev1 rfl)) rfl (by simp only [upd, zaa, za]; exact rfl) ?_
        refine lex_k (gd_t (b := true) rfl rfl rfl) rfl rfl (zac (.inl rfl) (ev1 rfl)) rfl (by simp only [upd, zaa, za]; exact rfl) ?_
        refine lex_k (gd_t (b := true) rfl rfl rfl) rfl rfl (op_len rfl sl48 (ev2 rfl)) rfl (by simp only [upd, zaa, za]; exact rfl) ?_
        refine lex_k (gd_t (b := true) rfl rfl rfl) rfl rfl (op_sltk (j := (fewO y).length) rfl sl48 (ev2 rfl) (bd_some (ev2 rfl)) (fun _ => by omega) (fun _ => by omega) (fun _ => rfl)) rfl (by simp only [upd, zaa, za]; exact rfl) ?_
        refine lex_k (gd_t (b := true) rfl rfl rfl) rfl rfl ((zah [] [] [] rfl (ev1 rfl) (ec (ev2 rfl) (ec (ev2 rfl) en)) rfl rfl (equalP (fewO y) (y.take (fewO y).length)) rfl rfl rfl rfl rfl rfl).cast (d' := .val (.bool true)) (by rw [fewO_eq]; simp)) rfl (by simp only [upd, zaa, za]; exact rfl) ?_
        refine zag rfl rfl ((op_and rfl (ev1 rfl) (ev3 rfl (fun _ => rfl))).cast (d' := .val (.bool true)) (by rfl)) ?_
        refine zag rfl rfl (zac (.inr rfl) (ev1 rfl)) ?_
        refine lex_nil ?_
        refine dwp_ret ?_
        refine kend [0] (rs1 rfl (rv_t rfl)) rfl rfl ?_ ⟨rfl, trivial⟩
        rfl
  · refine zad ?_
    refine zab rfl rfl rfl (op_ldmw rfl tb24 (ev1 rfl) rfl rfl) ?_
    refine zab rfl rfl rfl (zah [] [] [] rfl (ev1 rfl) (ec (ev1 rfl) en) rfl rfl (of_0 w h (ts.take 17) (by simpa using hr)) rfl rfl rfl rfl rfl rfl) ?_
    refine zab rfl rfl rfl (zac (.inl rfl) (ev1 rfl)) ?_
    refine zab rfl rfl rfl (op_ext rfl (ev1 rfl) rfl) ?_
    refine zab rfl rfl rfl (op_ext rfl (ev1 rfl) rfl) ?_
    refine zab rfl rfl rfl (zac (.inr rfl) (ev1 rfl)) ?_
    refine zab rfl rfl rfl (zac (.inr rfl) (ev1 rfl)) ?_
    refine zae ?_
    refine zaf ?_
    refine zaf ?_
    refine zad ?_
    refine zab rfl rfl rfl (zac (.inl rfl) (ev1 rfl)) ?_
    refine zab rfl rfl rfl ((op_neq rfl (ev1 rfl) (ev1 rfl)).cast (d' := .val (.bool true)) (by kernel_rfl)) ?_
    refine zae ?_
    refine dwp_if_t rfl (rfl) ?_
    refine zaf ?_
    refine zad ?_
    refine zab rfl rfl rfl (op_ldmw rfl tb24 (ev1 rfl) rfl rfl) ?_
    refine zab rfl rfl rfl ((zah [] [] [] rfl (ev1 rfl) (ec (ev1 rfl) en) rfl rfl (right_d w h (ts.take 17)) rfl rfl rfl rfl rfl rfl).cast (d' := .val (.bool false)) (by simpa using hr)) ?_
    refine zab rfl rfl rfl ((op_not rfl (ev1 rfl)).cast (d' := .val (.bool true)) (by kernel_rfl)) ?_
    refine zab rfl rfl rfl (zac (.inr rfl) (ev1 rfl)) ?_
    refine zae ?_
    refine dwp_ret ?_
    refine kend [0] (rs1 rfl (rv_t rfl)) rfl rfl ?_ ⟨rfl, trivial⟩
    rfl
end Go.Proofs.YtjgnalfnginjbaaGreatDoor
