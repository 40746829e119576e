/- Operations, one behind the other; a call by its contract; Operations: numbers, bools, structs, memory that is read and written. Conditions: what a type is, by the kernel; Memory that stays from now on, within a call; arrays as rows of elements; parts of arrays; Parts of structs of data that hold plain values; What is known of a value, told otherwise: nil slices as rows of nothing, plain structs as lists of cells; Rows of families that grow by append; a row that a variable's cell names joins a family; lines, rectangles, boxes, and what rows of spans have; what a row has, and how many; rows copied and compared; places ranged over; what a row of spans has, by the document; places of canvases; regions, filled, and steps; rims, whole; the document: places, colours, neighbours; the document: how many parts; the document: rims; the document: rims, whole; the law: regions; arguments that are ope. No condition. -/
import Derived.Test.YtfnhckildfbikaaQ6
import Derived.Test.YtfnhckildfbikaaRows
namespace Go.Proofs.Ytfnhckildfbikaa
set_option linter.unusedVariables false
set_option linter.unusedSimpArgs false
open Go.RowKit
section
variable {P : Program} {s0 : St} {n : Cx} {ops : Array Oper}
theorem gd_ff {o : Oper} {F : Fr} {j t : Nat} {g b : Bool} (h : o.guard = some (j, false)) (ht : (ops[j]?).bind (·.dst) = some t) (hl : lk F t = some (.opt g (.val (.bool b)))) : Gd ops o F (g && !b) := by
  unfold Gd; rw [h]; exact ⟨t, g, b, ht, .inl hl, by simp⟩
end

/-! ### names turned back -/
end Go.Proofs.Ytfnhckildfbikaa
namespace Go.Proofs.Ytfnhckildfbikaa
set_option linter.unusedVariables false
set_option linter.unusedSimpArgs false
open Go.RowKit

/-! ### what a type is -/
section
variable {P : Program} {pc : Bool} {o : Oper} {F : Fr} {M : List Blk}
section
variable {T T' : TypeId} {x y : Operand} {k : IntKind} {p q : Int}
end
section
variable {T : TypeId} {x : Operand} {i p k : Nat} {L R : List Value} {v : Value}
theorem op_fad {f q : Nat} (ho : o.op = .fieldAddr T x f) (hT : fdO P T f = some q) (hx : Ev pc F x (.dpf L)) : DOp P pc o F M [] (.dpf (L.drop q)) [] := by
  intro hp a s hok hops hfp
  have hr := ev_at hp hx (by simp [ho, Op.operands]) hops
  generalize hv : a.eval x = vx at hr
  cases hr with
  | @dpf b c _ hI h =>
    refine dg_val hok (run_fieldAddr ho hT hv) (.dpf hI fun j v hj => ?_)
    rw [List.getElem?_drop] at hj
    rw [Nat.add_assoc]
    exact h _ v hj
end
section
variable {T : TypeId} {x y : Operand} {i p n sz : Nat} {k : IntKind} {z : Int} {L : List Value}
variable {e : TypeId} {by' m : Nat}
end
end
end Go.Proofs.Ytfnhckildfbikaa
namespace Go.Proofs.Ytfnhckildfbikaa
set_option linter.unusedVariables false
set_option linter.unusedSimpArgs false
open Go.RowKit
section
variable {P : Program} {s0 : St} {n : Cx}
end
section
variable {P : Program} {pc : Bool} {o : Oper} {F : Fr} {M : List Blk} {T T' : TypeId} {x y : Operand} {i n sz : Nat} {k : IntKind} {z : Int} {α : Type} {en : α → List Value} {l : List α} {j : Nat}
end
section
variable {P : Program} {pc : Bool} {o : Oper} {F : Fr} {M : List Blk}
/-- an array of zeros -/
theorem op_build0a {T : TypeId} {q : Nat × Nat} {Z : List Value} (ho : o.op = .build T #[]) (hT : arE P T = some q) (hZ : zrC P T = some Z) : DOp P pc o F M [] (.val (.agg Z.toArray)) [] := by
  intro hp a s hok hops _
  obtain ⟨i, z, e1, e2, e3⟩ := zrC_spec hZ
  obtain ⟨e, i', h1, h2, h3⟩ := arE_spec (n := q.1) (sz := q.2) hT
  refine dg_val (v := .agg Z.toArray) hok ?_ (.val _)
  have hz0 : (zeroValue T).run P s.w = .ok z s.w := by simp [zeroValue, typeInfo, e1, e2]
  have hz1 : z.cells = Z.toArray := by rw [← e3]
  unfold execOp
  simp only [ho]
  refine run_v ?_
  simp [Instr.build, Sem.run_bind, hz0, run_underlying h1, sizeOf, typeInfo, h2, Instr.fill, hz1]
end
section
variable {P : Program} {s0 : St} {n : Cx}
end
end Go.Proofs.Ytfnhckildfbikaa
namespace Go.Proofs.Ytfnhckildfbikaa
set_option linter.unusedVariables false
set_option linter.unusedSimpArgs false
open Go.RowKit
section
variable {P : Program} {pc : Bool} {o : Oper} {F : Fr} {M : List Blk}
/-- a struct of plain values, as one of data -/
theorem ev_ofagg {x : Operand} {L : List Value} (h : Ev pc F x (.val (.agg L.toArray))) : Ev pc F x (.agg (L.map .val)) := by
  obtain ⟨d, h1, h2⟩ := h
  refine ⟨d, h1, fun s v hp hr => ?_⟩
  have hr := h2 s v hp hr
  cases hr
  exact .agg (by simp) fun j d v h1 h2 => by
    rw [List.getElem?_map, h2] at h1
    cases h1
    exact .val v
end
end Go.Proofs.Ytfnhckildfbikaa
namespace Go.Proofs.Ytfnhckildfbikaa
set_option linter.unusedVariables false
set_option linter.unusedSimpArgs false
open Go.RowKit
section
variable {P : Program} {s0 : St} {n : Cx}
/-- .. of what a slot holds -/
theorem dwp_wk {c : Code} {F : Fr} {M : List Blk} {K : Cont} {d d' : D} (t : Nat) (ht : lk F t = some d) (hw : Wk d d') (h : dwp P s0 n c ((t, d') :: F) M K) : dwp P s0 n c F M K := by
  intro a w hi
  refine h a w ?_
  obtain ⟨h0, s, h1, h2, h3, h4, h5, h6⟩ := hi
  refine ⟨h0, s, h1, h2, h3, fun x e he => ?_, h5, h6⟩
  rw [lk_cons] at he
  split at he
  · rename_i e'
    subst e'
    obtain rfl := Option.some.inj he
    exact hw s _ (h4 t _ ht)
  · exact h4 x e he
end
section
variable {P : Program} {pc : Bool} {o : Oper} {F : Fr} {M : List Blk} {T : TypeId} {x : Operand}
end
end Go.Proofs.Ytfnhckildfbikaa
namespace Go.Proofs.Ytfnhckildfbikaa
set_option linter.unusedVariables false
set_option linter.unusedSimpArgs false
open Go.RowKit
section
variable {P : Program} {pc : Bool} {o : Oper} {F : Fr} {M : List Blk}
end
section
variable {P : Program} {s0 : St} {n : Cx}
end
section
variable {P : Program} {pc : Bool} {o : Oper} {F : Fr} {M : List Blk} {T : TypeId} {x y : Operand} {k : IntKind} {z : Int} {n sz : Nat}
/-- an array of structs that is a value with addresses, at a place -/
theorem op_ixwr {ds : List D} (j : Nat) (ho : o.op = .index T x y) (hT : arV P T = some (n, sz)) (hx : Ev pc F x (.agg ds)) (hy : Ev pc F y (.val (.int k z))) (hz : pc = true → z = (j : Int)) (hj : pc = true → j < n) (hl : j * sz + sz ≤ ds.length) : DOp P pc o F M [] (.agg ((ds.drop (j * sz)).take sz)) [] := by
  intro hp a s hok hops _
  have hr := ev_at hp hx (by simp [ho, Op.operands]) hops
  have e2 := (ev_at hp hy (by simp [ho, Op.operands]) hops).val_eq
  rw [hz hp] at e2
  obtain ⟨e, hu, he⟩ := arV_spec hT
  obtain ⟨dd, i, h1, h2, h3, h4⟩ := tyB_spec he
  have hj := hj hp
  generalize hv : a.eval x = vx at hr
  cases hr with
  | @agg _ vs hvl hel =>
    refine dg_val (v := .agg ((vs.drop (j * sz)).take sz).toArray) hok ?_ (.agg (by simp [hvl]) fun j' d v g1 g2 => ?_)
    · unfold execOp
      simp only [ho, hv, e2]
      refine run_v ?_
      have hagg : (isAgg e).run P s.w = .ok true s.w := by
        unfold isAgg
        rw [Sem.run_bind, run_underlying h1]
        cases dd <;> first | rfl | cases h3
      have hsz : (sizeOf e).run P s.w = .ok sz s.w := by simp [sizeOf, typeInfo, h2, h4]
      have hb : (0 : Int) ≤ (j : Int) ∧ (j : Int) < (n : Int) := by omega
      unfold Instr.index
      simp only [Sem.run_bind, asIntOf, Sem.run_pure, Result.andThen_ok, run_underlying hu, hb, and_self, if_true, hsz, part, hagg, Int.toNat_natCast]
      simp only [List.extract_toArray, List.extract_eq_take_drop, Nat.add_sub_cancel_left]
    · have hj' : j' < sz := by
        have := (List.getElem?_eq_some_iff.1 g1).1
        rw [List.length_take] at this
        omega
      rw [List.getElem?_take_of_lt hj', List.getElem?_drop] at g1 g2
      exact hel _ _ _ g1 g2
end
end Go.Proofs.Ytfnhckildfbikaa
namespace Go.Proofs.Ytfnhckildfbikaa
set_option maxRecDepth 4000
set_option linter.unusedVariables false
set_option linter.unusedSimpArgs false
open Go.RowKit
def cntS (l : List Sp) : Nat := (l.map Sp.wd).sum
theorem pts_mem {s : Sp} {p : P2} : p ∈ s.pts ↔ s.has p.x p.y := by
  unfold Sp.pts Sp.has Sp.wd
  rw [List.mem_map]
  constructor
  · rintro ⟨i, hi, rfl⟩
    rw [List.mem_range] at hi
    exact ⟨rfl, by show s.f ≤ s.f + (i : Int); omega, by show s.f + (i : Int) ≤ s.t; omega⟩
  · rintro ⟨h1, h2, h3⟩
    refine ⟨(p.x - s.f).toNat, List.mem_range.2 (by omega), ?_⟩
    cases p
    simp only at *
    congr 1
    omega
theorem ptsS_mem {l : List Sp} {p : P2} : p ∈ ptsS l ↔ hasS l p.x p.y := by
  unfold ptsS hasS
  rw [List.mem_flatMap]
  exact ⟨fun ⟨s, h, g⟩ => ⟨s, h, pts_mem.1 g⟩, fun ⟨s, h, g⟩ => ⟨s, h, pts_mem.2 g⟩⟩
theorem ptsS_len (l : List Sp) : (ptsS l).length = cntS l := by
  unfold ptsS cntS
  rw [List.length_flatMap]
  congr 1
  exact List.map_congr_left fun s _ => by simp [Sp.pts]
end Go.Proofs.Ytfnhckildfbikaa
namespace Go.Proofs.Ytfnhckildfbikaa
set_option maxRecDepth 4000
set_option linter.unusedVariables false
set_option linter.unusedSimpArgs false
open Go.RowKit
def hitB (s : Sp) (p : P2) : Bool := decide (s.y = p.y) && (decide (s.f ≤ p.x) && decide (p.x ≤ s.t))
theorem hitB_iff {s : Sp} {p : P2} : hitB s p = true ↔ s.has p.x p.y := by
  unfold hitB Sp.has
  simp only [Bool.and_eq_true, decide_eq_true_eq]
theorem cnt_add {l : List Sp} {i : Nat} (hi : i < l.length) : cntS (l.take (i + 1)) = cntS (l.take i) + l[i].wd := by
  unfold cntS
  rw [List.take_succ_eq_append_getElem hi, List.map_append, List.sum_append]
  simp
theorem cnt_le {l : List Sp} (h : chkS l) (i : Nat) : cntS (l.take i) ≤ l.length * 512 := by
  have h1 : ∀ (m : List Sp), (∀ s ∈ m, rchS s ∧ s.f ≤ s.t) → cntS m ≤ m.length * 512 := fun m => by
    induction m with
    | nil => intro _; exact Nat.le_refl _
    | cons a m ih =>
      intro hm
      have h2 := ih fun s hs => hm s (List.mem_cons_of_mem _ hs)
      have h3 := hm a (List.mem_cons_self ..)
      unfold rchS at h3
      have h4 : a.wd ≤ 512 := by unfold Sp.wd; omega
      unfold cntS at *
      rw [List.map_cons, List.sum_cons, List.length_cons]
      omega
  have h2 := h1 (l.take i) fun s hs => h.1 s (List.mem_of_mem_take hs)
  rw [List.length_take] at h2
  have : min i l.length * 512 ≤ l.length * 512 := Nat.mul_le_mul_right _ (Nat.min_le_right _ _)
  omega
end Go.Proofs.Ytfnhckildfbikaa
namespace Go.Proofs.Ytfnhckildfbikaa
set_option maxRecDepth 4000
set_option linter.unusedVariables false
set_option linter.unusedSimpArgs false
open Go.RowKit
theorem pts_mem2 {l : List Sp} {i k : Nat} (hi : i < l.length) (hk : k < l[i].wd) : (⟨l[i].f + (k : Int), l[i].y⟩ : P2) ∈ ptsS l := by
  refine List.mem_flatMap.2 ⟨l[i], List.getElem_mem hi, List.mem_map.2 ⟨k, List.mem_range.2 hk, rfl⟩⟩
end Go.Proofs.Ytfnhckildfbikaa
namespace Go.Proofs.Ytfnhckildfbikaa
set_option maxRecDepth 4000
set_option linter.unusedVariables false
set_option linter.unusedSimpArgs false
open Go.RowKit
def rhasB (l : List Sp) (p : P2) : Bool := l.any fun s => hitB s p
theorem rhasB_iff {l : List Sp} {p : P2} : rhasB l p = true ↔ hasS l p.x p.y := by
  unfold rhasB
  rw [List.any_eq_true]
  exact ⟨fun ⟨s, hs, h⟩ => ⟨s, hs, hitB_iff.1 h⟩, fun ⟨s, hs, h⟩ => ⟨s, hs, hitB_iff.2 h⟩⟩
set_option maxRecDepth 4000 in
set_option maxHeartbeats 1000000 in
theorem rreach_d (n : Int) : DFun Try.prog 60 [.val (.int .i64 n)] [] (.val (.bool (rchB n))) [] := by
  refine zan (N := 9) 0 (by kernel_rfl) Try.func60 rfl rfl rfl (by simp only [fr0, Nat.zero_add, Nat.reduceAdd]; exact rfl) rfl fun s0 hs0 => ?_
  refine zaf ?_
  refine zad ?_
  refine zab rfl rfl rfl (zac (.inr rfl) (ev1 rfl)) ?_
  refine zae ?_
  refine zaf ?_
  refine zad ?_
  refine zab rfl rfl rfl (zac (.inl rfl) (ev1 rfl)) ?_
  refine zab rfl rfl rfl (op_geq rfl (ev1 rfl) (ev1 rfl)) ?_
  refine zab rfl rfl rfl (zac (.inl rfl) (ev1 rfl)) ?_
  refine walk_gr (gd_t rfl rfl rfl) rfl rfl rfl (zac (.inl rfl) (ev1 rfl)) ?_
  refine walk_gr (gd_t rfl rfl rfl) rfl rfl rfl (op_leq rfl (ev2 rfl) (ev1 rfl)) ?_
  refine zab rfl rfl rfl (op_and rfl (ev1 rfl) (ev3 rfl id)) ?_
  refine zab rfl rfl rfl (zac (.inr rfl) (ev1 rfl)) ?_
  refine zae ?_
  refine zao ?_
  refine kend0 (rs1 rfl (rv_t rfl)) rfl ?_
  rfl
set_option maxRecDepth 4000 in
set_option maxHeartbeats 1000000 in
theorem rhas_d (l : List Sp) (p : P2) : DFun Try.prog 61 [.slf 3 l.length (l.flatMap s3), .val (.agg #[.int .i64 p.x, .int .i64 p.y])] [] (.val (.bool (rhasB l p))) [] := by
  refine zan (N := 33) 0 (by kernel_rfl) Try.func61 rfl rfl rfl (by simp only [fr0, Nat.zero_add, Nat.reduceAdd]; exact rfl) rfl fun s0 hs0 => ?_
  refine dwp_len (t := 0) rfl fun hl0 hL0 => ?_
  refine zaf ?_
  refine zai 1 (by simp only [holes, List.cons_append, List.nil_append]; exact rfl) ?_
  refine zad ?_
  refine zaj rfl rfl rfl (op_boxa 0 rfl (ev1 rfl) rfl) (by simp only [upd, zaa, za]; exact rfl) ?_
  refine zab rfl rfl rfl (zac (.inr rfl) (ev1 rfl)) ?_
  refine zae ?_
  refine zaf ?_
  refine zaf ?_
  refine zad ?_
  refine zab rfl rfl rfl (zac (.inl rfl) (ev1 rfl)) ?_
  refine zab rfl rfl rfl (op_len rfl sl35 (ev1 rfl)) ?_
  refine zab rfl rfl rfl (zac (.inl rfl) (ev1 rfl)) ?_
  refine zae ?_
  refine zal ?_
  refine dwp_loopS ⟨hs0, rfl⟩ (α := Nat) (fun i => [(9, .val (.int .i64 (i : Int)))]) [(3, _), (7, _), (8, _)] (fun i => []) [_] (fun i => i ≤ l.length ∧ (l.take i).any (fun s => hitB s p) = false) (fun i => l.length - i) 0 [0] (⟨Nat.zero_le _, rfl⟩) rfl ⟨rfl, rfl, rfl, trivial⟩ ⟨rfl, trivial⟩ ⟨rfl, trivial⟩ ?_
  intro i hx
  simp only [upd, zaa, za, List.cons_append, List.nil_append]
  obtain ⟨hi0, hno⟩ := hx
  refine zaf ?_
  refine zad ?_
  refine zab rfl rfl rfl (op_lss rfl (ev1 rfl) (ev1 rfl)) ?_
  refine zae ?_
  refine zaf ?_
  refine dwp_cond rfl (fun c1 => ?_) (fun c1 => ?_)
  · try simp only [decide_eq_true_eq, decide_eq_false_iff_not, beq_iff_eq, bne_iff_ne, beq_eq_false_iff_ne, bne_eq_false_iff_eq, Bool.not_eq_true', Bool.not_eq_false', Bool.and_eq_true, Bool.or_eq_true, Bool.or_eq_false_iff, ne_eq, Decidable.not_not, Int.not_lt, Int.not_le] at c1
    refine zak ?_
    refine zaf ?_
    refine zal ?_
    refine zaf ?_
    have hi : i < l.length := by omega
    refine zai 1 (by simp only [holes, List.cons_append, List.nil_append]; exact rfl) ?_
    refine zad ?_
    refine zab rfl rfl rfl (op_ixsr (j := i) rfl sl35 (ev1 rfl) (ev1 rfl) (fun _ => rfl) (by decide) (by omega) (by omega)) ?_
    refine zab rfl rfl rfl (op_ldwd rfl tb53 (ev1 rfl) rfl) ?_
    refine zaj rfl rfl rfl (op_alloc 1 rfl zr53 rfl) (by simp only [upd, zaa, za]; exact rfl) ?_
    refine walk_s rfl rfl (op_stwa rfl tb53 (ev1 rfl) (ev1 rfl) rfl rfl rfl rfl) (by simp only [upd, zaa, za]; exact rfl) ?_
    refine zae ?_
    refine zaf ?_
    refine zad ?_
    refine zab rfl rfl rfl (op_fa rfl fo53_0 (ev1 rfl)) ?_
    refine zab rfl rfl rfl (zam rfl tb3 (ev1 rfl) rfl rfl) ?_
    refine zab rfl rfl rfl (op_fa rfl fo34_1 (ev1 rfl)) ?_
    refine zab rfl rfl rfl (zam rfl tb3 (ev1 rfl) rfl rfl) ?_
    refine zab rfl rfl rfl (op_eql rfl (ev1 rfl) (ev1 rfl)) ?_
    refine zab rfl rfl rfl (zac (.inl rfl) (ev1 rfl)) ?_
    refine walk_gr (gd_t rfl rfl rfl) rfl rfl rfl (op_fa rfl fo53_1 (ev1 rfl)) ?_
    refine walk_gr (gd_t rfl rfl rfl) rfl rfl rfl (zam rfl tb3 (ev2 rfl) rfl rfl) ?_
    refine walk_gr (gd_t rfl rfl rfl) rfl rfl rfl (op_fa rfl fo34_0 (ev1 rfl)) ?_
    refine walk_gr (gd_t rfl rfl rfl) rfl rfl rfl (zam rfl tb3 (ev2 rfl) rfl rfl) ?_
    refine walk_gr (gd_t rfl rfl rfl) rfl rfl rfl (op_leq rfl (ev2 rfl) (ev2 rfl)) ?_
    refine zab rfl rfl rfl (op_and rfl (ev1 rfl) (ev3 rfl id)) ?_
    refine zab rfl rfl rfl (zac (.inl rfl) (ev1 rfl)) ?_
    refine walk_gr (gd_t rfl rfl rfl) rfl rfl rfl (op_fa rfl fo34_0 (ev1 rfl)) ?_
    refine walk_gr (gd_t rfl rfl rfl) rfl rfl rfl (zam rfl tb3 (ev2 rfl) rfl rfl) ?_
    refine walk_gr (gd_t rfl rfl rfl) rfl rfl rfl (op_fa rfl fo53_2 (ev1 rfl)) ?_
    refine walk_gr (gd_t rfl rfl rfl) rfl rfl rfl (zam rfl tb3 (ev2 rfl) rfl rfl) ?_
    refine walk_gr (gd_t rfl rfl rfl) rfl rfl rfl (op_leq rfl (ev2 rfl) (ev2 rfl)) ?_
    refine zab rfl rfl rfl (op_and rfl (ev1 rfl) (ev3 rfl id)) ?_
    refine zae ?_
    refine dwp_cond rfl (fun c2 => ?_) (fun c2 => ?_)
    · have hh : hitB l[i] p = true := by rw [← c2]; unfold hitB; simp [Bool.and_assoc]; rfl
      refine zaf ?_
      refine zad ?_
      refine zab rfl rfl rfl (zac (.inr rfl) (ev1 rfl)) ?_
      refine zae ?_
      refine zao ?_
      refine kend0 (rs1 rfl (rv_t rfl)) rfl ?_
      rw [show rhasB l p = true from List.any_eq_true.2 ⟨_, List.getElem_mem hi, hh⟩]
    · have hh : hitB l[i] p = false := by rw [← c2]; unfold hitB; simp [Bool.and_assoc]; rfl
      refine zak ?_
      refine zad ?_
      refine zab rfl rfl rfl (op_add' rfl (ev1 rfl) (ev1 rfl) (fun _ => IntWalk.i64_in _ (by omega))) ?_
      refine zab rfl rfl rfl (zac (.inl rfl) (ev1 rfl)) ?_
      refine zae ?_
      refine ⟨i + 1, [0], ⟨by omega, any_add hi hno hh⟩, by simp only []; omega, rfl, ⟨rfl, rfl, rfl, rfl, trivial⟩, ⟨rfl, trivial⟩⟩
  · try simp only [decide_eq_true_eq, decide_eq_false_iff_not, beq_iff_eq, bne_iff_ne, beq_eq_false_iff_ne, bne_eq_false_iff_eq, Bool.not_eq_true', Bool.not_eq_false', Bool.and_eq_true, Bool.or_eq_true, Bool.or_eq_false_iff, ne_eq, Decidable.not_not, Int.not_lt, Int.not_le] at c1
    refine dwp_exit ?_
    refine zaf ?_
    refine zad ?_
    refine zab rfl rfl rfl (zac (.inr rfl) (ev1 rfl)) ?_
    refine zae ?_
    refine zao ?_
    rw [take_all (by omega)] at hno
    refine kend0 (rs1 rfl (rv_t rfl)) rfl ?_
    rw [show rhasB l p = false from hno]
set_option maxRecDepth 4000 in
set_option maxHeartbeats 1000000 in
theorem rright_d (l : List Sp) : DFun Try.prog 25 [.slf 3 l.length (l.flatMap s3)] [] (.val (.bool (decide (chkS l)))) [] := by
  refine zan (N := 72) 0 (by kernel_rfl) Try.func25 rfl rfl rfl (by simp only [fr0, Nat.zero_add, Nat.reduceAdd]; exact rfl) rfl fun s0 hs0 => ?_
  refine dwp_len (t := 0) rfl fun hl0 hL0 => ?_
  refine zaf ?_
  refine zad ?_
  refine zab rfl rfl rfl (zac (.inr rfl) (ev1 rfl)) ?_
  refine zae ?_
  refine zaf ?_
  refine zaf ?_
  refine zad ?_
  refine zab rfl rfl rfl (zac (.inl rfl) (ev1 rfl)) ?_
  refine zab rfl rfl rfl (op_len rfl sl35 (ev1 rfl)) ?_
  refine zab rfl rfl rfl (zac (.inl rfl) (ev1 rfl)) ?_
  refine zae ?_
  refine zal ?_
  refine dwp_loopS ⟨hs0, rfl⟩ (α := Nat) (fun i => [(7, .val (.int .i64 (i : Int)))]) [(0, _), (5, _), (6, _)] (fun i => []) [] (fun i => i ≤ l.length ∧ chkS (l.take i)) (fun i => l.length - i) 0 [] (⟨Nat.zero_le _, chkS_nil⟩) rfl ⟨rfl, rfl, rfl, trivial⟩ ⟨rfl, trivial⟩ trivial ?_
  intro i hx
  simp only [upd, zaa, za, List.cons_append, List.nil_append]
  obtain ⟨hi0, hok⟩ := hx
  refine zaf ?_
  refine zad ?_
  refine zab rfl rfl rfl (op_lss rfl (ev1 rfl) (ev1 rfl)) ?_
  refine zae ?_
  refine zaf ?_
  refine dwp_cond rfl (fun c1 => ?_) (fun c1 => ?_)
  · try simp only [decide_eq_true_eq, decide_eq_false_iff_not, beq_iff_eq, bne_iff_ne, beq_eq_false_iff_ne, bne_eq_false_iff_eq, Bool.not_eq_true', Bool.not_eq_false', Bool.and_eq_true, Bool.or_eq_true, Bool.or_eq_false_iff, ne_eq, Decidable.not_not, Int.not_lt, Int.not_le] at c1
    refine zak ?_
    refine zaf ?_
    refine zal ?_
    refine zaf ?_
    have hi : i < l.length := by omega
    refine zai 1 (by simp only [holes, List.cons_append, List.nil_append]; exact rfl) ?_
    refine zad ?_
    refine zab rfl rfl rfl (zac (.inl rfl) (ev1 rfl)) ?_
    refine zab rfl rfl rfl (op_ixsr (j := i) rfl sl35 (ev1 rfl) (ev1 rfl) (fun _ => rfl) (by decide) (by omega) (by omega)) ?_
    refine zab rfl rfl rfl (op_ldwd rfl tb53 (ev1 rfl) rfl) ?_
    refine zaj rfl rfl rfl (op_alloc 0 rfl zr53 rfl) (by simp only [upd, zaa, za]; exact rfl) ?_
    refine zab rfl rfl rfl (zac (.inr rfl) (ev1 rfl)) ?_
    refine walk_s rfl rfl (op_stwa rfl tb53 (ev1 rfl) (ev1 rfl) rfl rfl rfl rfl) (by simp only [upd, zaa, za]; exact rfl) ?_
    refine zae ?_
    refine zaf ?_
    refine zaf ?_
    have hri := rchS_iff l[i]
    refine zad ?_
    refine zab rfl rfl rfl (op_fa rfl fo53_0 (ev1 rfl)) ?_
    refine zab rfl rfl rfl (zam rfl tb3 (ev1 rfl) rfl rfl) ?_
    refine zab rfl rfl rfl (zah [] [] [] rfl (ev1 rfl) (ec (ev1 rfl) en) rfl rfl (rreach_d _) rfl rfl rfl rfl rfl rfl) ?_
    refine zab rfl rfl rfl (op_not rfl (ev1 rfl)) ?_
    refine zab rfl rfl rfl (zac (.inl rfl) (ev1 rfl)) ?_
    refine walk_gr (gd_f rfl rfl rfl) rfl rfl rfl (op_fa rfl fo53_1 (ev1 rfl)) ?_
    refine walk_gr (gd_f rfl rfl rfl) rfl rfl rfl (zam rfl tb3 (ev2 rfl) rfl rfl) ?_
    refine walk_gr (gd_f rfl rfl rfl) rfl rfl rfl (zah [] [] [] rfl (ev1 rfl) (ec (ev2 rfl) en) rfl rfl (rreach_d _) rfl rfl rfl rfl rfl rfl) ?_
    refine walk_gr (gd_f rfl rfl rfl) rfl rfl rfl (op_not rfl (ev2 rfl)) ?_
    refine zab rfl rfl rfl (op_or rfl (ev1 rfl) (ev3 rfl id)) ?_
    refine zab rfl rfl rfl (zac (.inl rfl) (ev1 rfl)) ?_
    refine walk_gr (gd_f rfl rfl rfl) rfl rfl rfl (op_fa rfl fo53_2 (ev1 rfl)) ?_
    refine walk_gr (gd_f rfl rfl rfl) rfl rfl rfl (zam rfl tb3 (ev2 rfl) rfl rfl) ?_
    refine walk_gr (gd_f rfl rfl rfl) rfl rfl rfl (zah [] [] [] rfl (ev1 rfl) (ec (ev2 rfl) en) rfl rfl (rreach_d _) rfl rfl rfl rfl rfl rfl) ?_
    refine walk_gr (gd_f rfl rfl rfl) rfl rfl rfl (op_not rfl (ev2 rfl)) ?_
    refine zab rfl rfl rfl (op_or rfl (ev1 rfl) (ev3 rfl id)) ?_
    refine zab rfl rfl rfl (zac (.inl rfl) (ev1 rfl)) ?_
    refine walk_gr (gd_f rfl rfl rfl) rfl rfl rfl (op_fa rfl fo53_1 (ev1 rfl)) ?_
    refine walk_gr (gd_f rfl rfl rfl) rfl rfl rfl (zam rfl tb3 (ev2 rfl) rfl rfl) ?_
    refine walk_gr (gd_f rfl rfl rfl) rfl rfl rfl (op_fa rfl fo53_2 (ev1 rfl)) ?_
    refine walk_gr (gd_f rfl rfl rfl) rfl rfl rfl (zam rfl tb3 (ev2 rfl) rfl rfl) ?_
    refine walk_gr (gd_f rfl rfl rfl) rfl rfl rfl (op_gtr rfl (ev2 rfl) (ev2 rfl)) ?_
    refine zab rfl rfl rfl (op_or rfl (ev1 rfl) (ev3 rfl id)) ?_
    refine zae ?_
    refine dwp_cond rfl (fun c2 => ?_) (fun c2 => ?_)
    · have hv : ¬ (rchS l[i] ∧ l[i].f ≤ l[i].t) := by
        intro hv
        obtain ⟨g1, g2, g3, g4⟩ := hri.1 hv
        rw [g1, g2, g3] at c2
        simp at c2
        omega
      refine zaf ?_
      refine zad ?_
      refine zab rfl rfl rfl (zac (.inr rfl) (ev1 rfl)) ?_
      refine zae ?_
      refine zao ?_
      refine kend0 (rs1 rfl (rv_t rfl)) rfl ?_
      rw [decide_eq_false (chkS_not1 hi hv)]
    · have hv : rchS l[i] ∧ l[i].f ≤ l[i].t := hri.2 (by revert c2; cases rchB l[i].y <;> cases rchB l[i].f <;> cases rchB l[i].t <;> simp)
      refine zak ?_
      refine zaf ?_
      by_cases h0 : 0 < i
      · have hj : i - 1 < l.length := by omega
        have hvj := hok.1 l[i - 1] (List.mem_take_iff_getElem.2 ⟨i - 1, by omega, rfl⟩)
        have hbj := rch_bd hvj.1
        unfold bdS at hbj
        refine dwp_draw [([], []), ([], []), ([], []), ([], []), ([], []), ([], []), ([], []), ([], []), ([], []), ([], []), ([0], []), ([], []), ([], []), ([], []), ([], []), ([], []), ([], []), ([], []), ([], []), ([], []), ([0], []), ([], []), ([], []), ([], []), ([], []), ([], []), ([], []), ([], []), ([], []), ([], []), ([], []), ([0], []), ([], []), ([], []), ([], []), ([], [])] mixed (by kernel_rfl) ?_
        refine zag rfl rfl (zac (.inl rfl) (ev1 rfl)) ?_
        refine zag rfl rfl ((op_gtr rfl (ev1 rfl) (ev1 rfl)).cast (d' := .val (.bool true)) (by rw [D.val.injEq, Value.bool.injEq, decide_eq_true_eq]; omega)) ?_
        refine zag rfl rfl (zac (.inl rfl) (ev1 rfl)) ?_
        refine lex_k (gd_t (b := true) rfl rfl rfl) rfl rfl (zac (.inl rfl) (ev1 rfl)) rfl (by simp only [upd, zaa, za]; exact rfl) ?_
        refine lex_k (gd_t (b := true) rfl rfl rfl) rfl rfl (zac (.inl rfl) (ev1 rfl)) rfl (by simp only [upd, zaa, za]; exact rfl) ?_
        refine lex_k (gd_t (b := true) rfl rfl rfl) rfl rfl (op_sub' rfl (ev2 rfl) (ev1 rfl) (fun _ => IntWalk.i64_in _ (by omega))) rfl (by simp only [upd, zaa, za]; exact rfl) ?_
        refine lex_k (gd_t (b := true) rfl rfl rfl) rfl rfl (op_ixsr (j := i - 1) rfl sl35 (ev2 rfl) (ev2 rfl) (fun _ => rfl) (by decide) (by omega) (by omega)) rfl (by simp only [upd, zaa, za]; exact rfl) ?_
        refine lex_k (gd_t (b := true) rfl rfl rfl) rfl rfl (op_fad rfl fo53_0 (ev2 rfl)) rfl (by simp only [upd, zaa, za]; exact rfl) ?_
        refine lex_k (gd_t (b := true) rfl rfl rfl) rfl rfl (op_ldod rfl tb3 (ev2 rfl) rfl) rfl (by simp only [upd, zaa, za]; exact rfl) ?_
        refine lex_k (gd_t (b := true) rfl rfl rfl) rfl rfl (op_fa rfl fo53_0 (ev1 rfl)) rfl (by simp only [upd, zaa, za]; exact rfl) ?_
        refine lex_k (gd_t (b := true) rfl rfl rfl) rfl rfl (zam rfl tb3 (ev2 rfl) rfl rfl) rfl (by simp only [upd, zaa, za]; exact rfl) ?_
        refine lex_k (gd_t (b := true) rfl rfl rfl) rfl rfl (op_gtr rfl (ev2 rfl) (ev2 rfl)) rfl (by simp only [upd, zaa, za]; exact rfl) ?_
        refine lex_k (gd_t (b := true) rfl rfl rfl) rfl rfl (zac (.inl rfl) (ev2 rfl)) rfl (by simp only [upd, zaa, za]; exact rfl) ?_
        refine lex_gr (gd_ff rfl rfl rfl) rfl rfl (zac (.inl rfl) (ev1 rfl)) ?_
        refine lex_gr (gd_ff rfl rfl rfl) rfl rfl (zac (.inl rfl) (ev1 rfl)) ?_
        refine lex_gr (gd_ff rfl rfl rfl) rfl rfl (op_sub' rfl (ev2 rfl) (ev1 rfl) (fun hp => IntWalk.i64_in _ (by first | omega | (simp at hp; omega)))) ?_
        refine lex_gr (gd_ff rfl rfl rfl) rfl rfl (op_ixsr (j := i - 1) rfl sl35 (ev2 rfl) (ev2 rfl) (fun _ => rfl) (by decide) (by omega) (by omega)) ?_
        refine lex_gr (gd_ff rfl rfl rfl) rfl rfl (op_fad rfl fo53_0 (ev2 rfl)) ?_
        refine lex_gr (gd_ff rfl rfl rfl) rfl rfl (op_ldod rfl tb3 (ev2 rfl) rfl) ?_
        refine lex_gr (gd_ff rfl rfl rfl) rfl rfl (op_fa rfl fo53_0 (ev1 rfl)) ?_
        refine lex_gr (gd_ff rfl rfl rfl) rfl rfl (zam rfl tb3 (ev2 rfl) rfl rfl) ?_
        refine lex_gr (gd_ff rfl rfl rfl) rfl rfl (op_eql rfl (ev2 rfl) (ev2 rfl)) ?_
        refine lex_gr (gd_ff rfl rfl rfl) rfl rfl (zac (.inl rfl) (ev2 rfl)) ?_
        refine lex_gr (gd_tt rfl rfl rfl) rfl rfl (zac (.inl rfl) (ev1 rfl)) ?_
        refine lex_gr (gd_tt rfl rfl rfl) rfl rfl (zac (.inl rfl) (ev1 rfl)) ?_
        refine lex_gr (gd_tt rfl rfl rfl) rfl rfl (op_sub' rfl (ev2 rfl) (ev1 rfl) (fun hp => IntWalk.i64_in _ (by first | omega | (simp at hp; omega)))) ?_
        refine lex_gr (gd_tt rfl rfl rfl) rfl rfl (op_ixsr (j := i - 1) rfl sl35 (ev2 rfl) (ev2 rfl) (fun _ => rfl) (by decide) (by omega) (by omega)) ?_
        refine lex_gr (gd_tt rfl rfl rfl) rfl rfl (op_fad rfl fo53_2 (ev2 rfl)) ?_
        refine lex_gr (gd_tt rfl rfl rfl) rfl rfl (op_ldod rfl tb3 (ev2 rfl) rfl) ?_
        refine lex_gr (gd_tt rfl rfl rfl) rfl rfl (op_add' rfl (ev2 rfl) (ev1 rfl) (fun hp => IntWalk.i64_in _ (by first | omega | (simp at hp; omega)))) ?_
        refine lex_gr (gd_tt rfl rfl rfl) rfl rfl (op_fa rfl fo53_1 (ev1 rfl)) ?_
        refine lex_gr (gd_tt rfl rfl rfl) rfl rfl (zam rfl tb3 (ev2 rfl) rfl rfl) ?_
        refine lex_gr (gd_tt rfl rfl rfl) rfl rfl (op_geq rfl (ev2 rfl) (ev2 rfl)) ?_
        refine lex_gr (gd_ff rfl rfl rfl) rfl rfl (op_and rfl (ev2 rfl) (ev2 rfl)) ?_
        refine lex_k (gd_t (b := true) rfl rfl rfl) rfl rfl (op_or rfl (ev2 rfl) (ev3 rfl id)) rfl (by simp only [upd, zaa, za]; exact rfl) ?_
        refine zag rfl rfl (op_and rfl (ev1 rfl) (ev3 rfl (fun _ => rfl))) ?_
        refine lex_nil ?_
        refine dwp_cond rfl (fun c3 => ?_) (fun c3 => ?_)
        · have hap : ¬ apS l[i - 1] l[i] := by unfold apS; simp at c3; omega
          refine zaf ?_
          refine zad ?_
          refine zab rfl rfl rfl (zac (.inr rfl) (ev1 rfl)) ?_
          refine zae ?_
          refine zao ?_
          refine kend0 (rs1 rfl (rv_t rfl)) rfl ?_
          rw [decide_eq_false (chkS_not2 hi h0 hap)]
        · have hap : apS l[i - 1] l[i] := by unfold apS; simp at c3; omega
          refine zak ?_
          refine zad ?_
          refine zab rfl rfl rfl (op_add' rfl (ev1 rfl) (ev1 rfl) (fun _ => IntWalk.i64_in _ (by omega))) ?_
          refine zab rfl rfl rfl (zac (.inl rfl) (ev1 rfl)) ?_
          refine zae ?_
          refine ⟨i + 1, [], ⟨by omega, chkS_add hi hok hv fun _ => hap⟩, by simp only []; omega, rfl, ⟨rfl, rfl, rfl, rfl, trivial⟩, trivial⟩
      · refine dwp_draw [([], []), ([], []), ([], []), ([], []), ([], []), ([], []), ([], []), ([], []), ([], []), ([], []), ([], []), ([], []), ([], []), ([], []), ([], []), ([], []), ([], []), ([], []), ([], []), ([], []), ([], []), ([], []), ([], []), ([], []), ([], []), ([], []), ([], []), ([], []), ([], []), ([], []), ([], []), ([], []), ([], []), ([], []), ([], []), ([], [])] mixed (by kernel_rfl) ?_
        refine zag rfl rfl (zac (.inl rfl) (ev1 rfl)) ?_
        refine zag rfl rfl ((op_gtr rfl (ev1 rfl) (ev1 rfl)).cast (d' := .val (.bool false)) (by rw [D.val.injEq, Value.bool.injEq, decide_eq_false_iff_not]; omega)) ?_
        refine zag rfl rfl (zac (.inl rfl) (ev1 rfl)) ?_
        refine lex_gr (gd_t (b := false) rfl rfl rfl) rfl rfl (dop_never (d := .junk)) ?_
        refine lex_gr (gd_t (b := false) rfl rfl rfl) rfl rfl (dop_never (d := .junk)) ?_
        refine lex_gr (gd_t (b := false) rfl rfl rfl) rfl rfl (dop_never (d := .val (.bool false))) ?_
        refine lex_gr (gd_t (b := false) rfl rfl rfl) rfl rfl (dop_never (d := .junk)) ?_
        refine lex_gr (gd_t (b := false) rfl rfl rfl) rfl rfl (dop_never (d := .junk)) ?_
        refine lex_gr (gd_t (b := false) rfl rfl rfl) rfl rfl (dop_never (d := .junk)) ?_
        refine lex_gr (gd_t (b := false) rfl rfl rfl) rfl rfl (dop_never (d := .junk)) ?_
        refine lex_gr (gd_t (b := false) rfl rfl rfl) rfl rfl (dop_never (d := .junk)) ?_
        refine lex_gr (gd_t (b := false) rfl rfl rfl) rfl rfl (dop_never (d := .val (.bool false))) ?_
        refine lex_gr (gd_t (b := false) rfl rfl rfl) rfl rfl (dop_never (d := .val (.bool false))) ?_
        refine lex_gr (gd_ff (g := false) (b := false) rfl rfl rfl) rfl rfl (dop_never (d := .junk)) ?_
        refine lex_gr (gd_ff (g := false) (b := false) rfl rfl rfl) rfl rfl (dop_never (d := .junk)) ?_
        refine lex_gr (gd_ff (g := false) (b := false) rfl rfl rfl) rfl rfl (dop_never (d := .val (.bool false))) ?_
        refine lex_gr (gd_ff (g := false) (b := false) rfl rfl rfl) rfl rfl (dop_never (d := .junk)) ?_
        refine lex_gr (gd_ff (g := false) (b := false) rfl rfl rfl) rfl rfl (dop_never (d := .junk)) ?_
        refine lex_gr (gd_ff (g := false) (b := false) rfl rfl rfl) rfl rfl (dop_never (d := .junk)) ?_
        refine lex_gr (gd_ff (g := false) (b := false) rfl rfl rfl) rfl rfl (dop_never (d := .junk)) ?_
        refine lex_gr (gd_ff (g := false) (b := false) rfl rfl rfl) rfl rfl (dop_never (d := .junk)) ?_
        refine lex_gr (gd_ff (g := false) (b := false) rfl rfl rfl) rfl rfl (dop_never (d := .val (.bool false))) ?_
        refine lex_gr (gd_ff (g := false) (b := false) rfl rfl rfl) rfl rfl (dop_never (d := .val (.bool false))) ?_
        refine lex_gr (gd_tt (g := false) (b := false) rfl rfl rfl) rfl rfl (dop_never (d := .junk)) ?_
        refine lex_gr (gd_tt (g := false) (b := false) rfl rfl rfl) rfl rfl (dop_never (d := .junk)) ?_
        refine lex_gr (gd_tt (g := false) (b := false) rfl rfl rfl) rfl rfl (dop_never (d := .val (.bool false))) ?_
        refine lex_gr (gd_tt (g := false) (b := false) rfl rfl rfl) rfl rfl (dop_never (d := .junk)) ?_
        refine lex_gr (gd_tt (g := false) (b := false) rfl rfl rfl) rfl rfl (dop_never (d := .junk)) ?_
        refine lex_gr (gd_tt (g := false) (b := false) rfl rfl rfl) rfl rfl (dop_never (d := .junk)) ?_
        refine lex_gr (gd_tt (g := false) (b := false) rfl rfl rfl) rfl rfl (dop_never (d := .val (.bool false))) ?_
        refine lex_gr (gd_tt (g := false) (b := false) rfl rfl rfl) rfl rfl (dop_never (d := .junk)) ?_
        refine lex_gr (gd_tt (g := false) (b := false) rfl rfl rfl) rfl rfl (dop_never (d := .junk)) ?_
        refine lex_gr (gd_tt (g := false) (b := false) rfl rfl rfl) rfl rfl (dop_never (d := .val (.bool false))) ?_
        refine lex_gr (gd_ff (g := false) (b := false) rfl rfl rfl) rfl rfl (dop_never (d := .val (.bool false))) ?_
        refine lex_gr (gd_t (b := false) rfl rfl rfl) rfl rfl (dop_never (d := .val (.bool false))) ?_
        refine zag rfl rfl ((op_and rfl (ev1 rfl) (ev3 rfl id)).cast (d' := .val (.bool false)) (by rfl)) ?_
        refine lex_nil ?_
        refine dwp_if_f rfl (rfl) ?_
        refine zak ?_
        refine zad ?_
        refine zab rfl rfl rfl (op_add' rfl (ev1 rfl) (ev1 rfl) (fun _ => IntWalk.i64_in _ (by omega))) ?_
        refine zab rfl rfl rfl (zac (.inl rfl) (ev1 rfl)) ?_
        refine zae ?_
        refine ⟨i + 1, [], ⟨by omega, chkS_add hi hok hv fun h => absurd h h0⟩, by simp only []; omega, rfl, ⟨rfl, rfl, rfl, rfl, trivial⟩, trivial⟩
  · try simp only [decide_eq_true_eq, decide_eq_false_iff_not, beq_iff_eq, bne_iff_ne, beq_eq_false_iff_ne, bne_eq_false_iff_eq, Bool.not_eq_true', Bool.not_eq_false', Bool.and_eq_true, Bool.or_eq_true, Bool.or_eq_false_iff, ne_eq, Decidable.not_not, Int.not_lt, Int.not_le] at c1
    refine dwp_exit ?_
    refine zaf ?_
    refine zad ?_
    refine zab rfl rfl rfl (zac (.inr rfl) (ev1 rfl)) ?_
    refine zae ?_
    refine zao ?_
    rw [take_all (by omega)] at hok
    refine kend0 (rs1 rfl (rv_t rfl)) rfl ?_
    rw [decide_eq_true hok]
end Go.Proofs.Ytfnhckildfbikaa
namespace Go.Proofs.Ytfnhckildfbikaa
set_option maxRecDepth 4000
set_option linter.unusedVariables false
set_option linter.unusedSimpArgs false
open Go.RowKit
attribute [local irreducible] zFD srL goF bfsF
attribute [local irreducible] spF spN
set_option maxRecDepth 4000 in
set_option maxHeartbeats 1000000 in
theorem steps_n (w h : Int) (ds : List D) (ts : List TL) (hr : RowOk ds ts) (hc : CvOk w h ts) (hg : tsRng ts) (p u : P2) (tol : Int) (h0 : (refE w h [tol] [p, u]) ≠ 0) : DFun Try.prog 28 [cvD w h ds, .val (.agg #[.int .i64 p.x, .int .i64 p.y]), .val (.agg #[.int .i64 u.x, .int .i64 u.y]), .val (.int .i64 tol)] [] (.tup [.val (.int .i64 0), .val (.int .i64 (refE w h [tol] [p, u]))]) [] := by
  refine zan (N := 33) 0 (by kernel_rfl) Try.func28 rfl rfl rfl (by simp only [fr0, Nat.zero_add, Nat.reduceAdd]; exact rfl) rfl fun s0 hs0 => ?_
  refine zaf ?_
  refine zai 2 (by simp only [holes, List.cons_append, List.nil_append]; exact rfl) ?_
  refine zad ?_
  refine zaj rfl rfl rfl (op_boxa 0 rfl (ev1 rfl) rfl) (by simp only [upd, zaa, za]; exact rfl) ?_
  refine zaj rfl rfl rfl (op_boxa 1 rfl (ev1 rfl) rfl) (by simp only [upd, zaa, za]; exact rfl) ?_
  refine zab rfl rfl rfl (zac (.inr rfl) (ev1 rfl)) ?_
  refine zab rfl rfl rfl (zac (.inr rfl) (ev1 rfl)) ?_
  refine zae ?_
  refine zaf ?_
  refine zaf ?_
  refine zad ?_
  refine zab rfl rfl rfl (zac (.inl rfl) (ev1 rfl)) ?_
  refine zab rfl rfl rfl (zac (.inl rfl) (ev1 rfl)) ?_
  refine zab rfl rfl rfl (op_bs (ps := [(0, .tmp 13)]) rfl sl55 zr3 rfl (vc (ev1 rfl) vn) rfl (by decide) (by decide)) ?_
  refine zab rfl rfl rfl (op_ldw rfl tb34 (ev1 rfl) rfl rfl) ?_
  refine zab rfl rfl rfl (op_ldw rfl tb34 (ev1 rfl) rfl rfl) ?_
  refine zab rfl rfl rfl (op_bs (ps := [(0, .tmp 15), (1, .tmp 16)]) rfl sl64 zr34 rfl (vc (ev1 rfl) (vc (ev1 rfl) vn)) rfl (by decide) (by decide)) ?_
  refine zab rfl rfl rfl (zah [] [] [] rfl (ev1 rfl) (ec (ev1 rfl) (ec (ev1 rfl) (ec (ev1 rfl) en))) rfl rfl (refuse_d w h ds ts hr hc [tol] [p, u]) rfl rfl rfl rfl rfl rfl) ?_
  refine zab rfl rfl rfl (zac (.inr rfl) (ev1 rfl)) ?_
  refine zae ?_
  refine zaf ?_
  refine zad ?_
  refine zab rfl rfl rfl (zac (.inl rfl) (ev1 rfl)) ?_
  refine zab rfl rfl rfl (op_neq rfl (ev1 rfl) (ev1 rfl)) ?_
  refine zae ?_
  refine dwp_if_t rfl (by simpa using h0) ?_
  refine zaf ?_
  refine zad ?_
  refine zab rfl rfl rfl (zac (.inl rfl) (ev1 rfl)) ?_
  refine zab rfl rfl rfl (zac (.inr rfl) (ev1 rfl)) ?_
  refine zab rfl rfl rfl (zac (.inr rfl) (ev1 rfl)) ?_
  refine zae ?_
  refine zao ?_
  refine kend0 (rs2 rfl (rv_t rfl) (rv_t rfl)) rfl ?_
  rfl
set_option maxRecDepth 4000 in
set_option maxHeartbeats 1000000 in
theorem steps_0 (p u : P2) (tol : Int) : DFun Try.prog 28 [.val (.pointer none), .val (.agg #[.int .i64 p.x, .int .i64 p.y]), .val (.agg #[.int .i64 u.x, .int .i64 u.y]), .val (.int .i64 tol)] [] (.tup [.val (.int .i64 0), .val (.int .i64 1)]) [] := by
  refine zan (N := 33) 0 (by kernel_rfl) Try.func28 rfl rfl rfl (by simp only [fr0, Nat.zero_add, Nat.reduceAdd]; exact rfl) rfl fun s0 hs0 => ?_
  refine zaf ?_
  refine zai 2 (by simp only [holes, List.cons_append, List.nil_append]; exact rfl) ?_
  refine zad ?_
  refine zaj rfl rfl rfl (op_boxa 0 rfl (ev1 rfl) rfl) (by simp only [upd, zaa, za]; exact rfl) ?_
  refine zaj rfl rfl rfl (op_boxa 1 rfl (ev1 rfl) rfl) (by simp only [upd, zaa, za]; exact rfl) ?_
  refine zab rfl rfl rfl (zac (.inr rfl) (ev1 rfl)) ?_
  refine zab rfl rfl rfl (zac (.inr rfl) (ev1 rfl)) ?_
  refine zae ?_
  refine zaf ?_
  refine zaf ?_
  refine zad ?_
  refine zab rfl rfl rfl (zac (.inl rfl) (ev1 rfl)) ?_
  refine zab rfl rfl rfl (zac (.inl rfl) (ev1 rfl)) ?_
  refine zab rfl rfl rfl (op_bs (ps := [(0, .tmp 13)]) rfl sl55 zr3 rfl (vc (ev1 rfl) vn) rfl (by decide) (by decide)) ?_
  refine zab rfl rfl rfl (op_ldw rfl tb34 (ev1 rfl) rfl rfl) ?_
  refine zab rfl rfl rfl (op_ldw rfl tb34 (ev1 rfl) rfl rfl) ?_
  refine zab rfl rfl rfl (op_bs (ps := [(0, .tmp 15), (1, .tmp 16)]) rfl sl64 zr34 rfl (vc (ev1 rfl) (vc (ev1 rfl) vn)) rfl (by decide) (by decide)) ?_
  refine zab rfl rfl rfl (zah [] [] [] rfl (ev1 rfl) (ec (ev1 rfl) (ec (ev1 rfl) (ec (ev1 rfl) en))) rfl rfl (refuse_0 [tol] [p, u]) rfl rfl rfl rfl rfl rfl) ?_
  refine zab rfl rfl rfl (zac (.inr rfl) (ev1 rfl)) ?_
  refine zae ?_
  refine zaf ?_
  refine zad ?_
  refine zab rfl rfl rfl (zac (.inl rfl) (ev1 rfl)) ?_
  refine zab rfl rfl rfl (op_neq rfl (ev1 rfl) (ev1 rfl)) ?_
  refine zae ?_
  refine dwp_if_t rfl (rfl) ?_
  refine zaf ?_
  refine zad ?_
  refine zab rfl rfl rfl (zac (.inl rfl) (ev1 rfl)) ?_
  refine zab rfl rfl rfl (zac (.inr rfl) (ev1 rfl)) ?_
  refine zab rfl rfl rfl (zac (.inr rfl) (ev1 rfl)) ?_
  refine zae ?_
  refine zao ?_
  refine kend0 (rs2 rfl (rv_t rfl) (rv_t rfl)) rfl ?_
  rfl
end Go.Proofs.Ytfnhckildfbikaa
namespace Go.Proofs.Ytfnhckildfbikaa
set_option maxRecDepth 4000
set_option linter.unusedVariables false
set_option linter.unusedSimpArgs false
open Go.RowKit
attribute [local irreducible] zFD srL goF bfsF
attribute [local irreducible] spF spN prK
set_option maxRecDepth 4000 in
set_option maxHeartbeats 1000000 in
theorem rim_n (w h : Int) (ds : List D) (ts : List TL) (hr : RowOk ds ts) (hc : CvOk w h ts) (hg : tsRng ts) (l : List Sp) (hl : l.length ≤ 1000000) (hc2 : ¬ chkS l) : DFun Try.prog 24 [cvD w h ds, .slf 3 l.length (l.flatMap s3)] [] (.tup [.val (.slice none 0 0), .val (.int .i64 160)]) [] := by
  refine zan (N := 44) 0 (by kernel_rfl) Try.func24 rfl rfl rfl (by simp only [fr0, Nat.zero_add, Nat.reduceAdd]; exact rfl) rfl fun s0 hs0 => ?_
  refine dwp_len (t := 1) rfl fun hl1 hL1 => ?_
  refine zaf ?_
  refine zai 3 (by simp only [holes, List.cons_append, List.nil_append]; exact rfl) ?_
  refine zad ?_
  refine zaj rfl rfl rfl (op_boxm 0 rfl (ev1 rfl) (fun s v h => by cases h <;> rfl) rfl) (by simp only [upd, zaa, za]; exact rfl) ?_
  refine zaj rfl rfl rfl (op_alloc 1 rfl zr64 rfl) (by simp only [upd, zaa, za]; exact rfl) ?_
  refine zaj rfl rfl rfl (op_alloc 2 rfl zr36 rfl) (by simp only [upd, zaa, za]; exact rfl) ?_
  refine zae ?_
  refine zaf ?_
  refine zaf ?_
  refine zad ?_
  refine zab rfl rfl rfl (op_ldm rfl tb29 (ev1 rfl) rfl rfl) ?_
  refine zab rfl rfl rfl (zah [] [] [] rfl (ev1 rfl) (ec (ev1 rfl) (ec (evnil 1 (ev1 rfl)) (ec (evnil 2 (ev1 rfl)) en))) rfl rfl (refuse_d w h ds ts hr hc [] []) rfl rfl rfl rfl rfl rfl) ?_
  refine zab rfl rfl rfl (zac (.inr rfl) (ev1 rfl)) ?_
  refine zae ?_
  refine zaf ?_
  refine zad ?_
  refine zab rfl rfl rfl (zac (.inl rfl) (ev1 rfl)) ?_
  refine zab rfl rfl rfl (op_neq rfl (ev1 rfl) (ev1 rfl)) ?_
  refine zae ?_
  refine dwp_if_f rfl (by rfl) ?_
  refine zak ?_
  refine zaf ?_
  refine zaf ?_
  refine zad ?_
  refine zab rfl rfl rfl (zac (.inl rfl) (ev1 rfl)) ?_
  refine zab rfl rfl rfl (zah [] [] [] rfl (ev1 rfl) (ec (ev1 rfl) en) rfl rfl (check_d l) rfl rfl rfl rfl rfl rfl) ?_
  refine zab rfl rfl rfl (zac (.inr rfl) (ev1 rfl)) ?_
  refine zae ?_
  refine zaf ?_
  refine zad ?_
  refine zab rfl rfl rfl (zac (.inl rfl) (ev1 rfl)) ?_
  refine zab rfl rfl rfl (op_neq rfl (ev1 rfl) (ev1 rfl)) ?_
  refine zae ?_
  refine dwp_if_t rfl (by rw [chkE_no hc2]; rfl) ?_
  refine zaf ?_
  refine zad ?_
  refine zab rfl rfl rfl (zac (.inl rfl) (ev1 rfl)) ?_
  refine walk_s rfl rfl (op_st rfl tb64 (ev1 rfl) (ev1 rfl) rfl rfl rfl rfl (by decide) rfl) (by simp only [upd, zaa, za]; exact rfl) ?_
  refine walk_s rfl rfl (op_stwi rfl tb36 (ev1 rfl) (ev1 rfl) rfl) (by simp only [upd, zaa, za]; exact rfl) ?_
  refine zae ?_
  refine zao ?_
  refine kend0 (rs2 rfl (rv_1 tb64 rfl rfl rfl) (rv_1 tb36 rfl rfl rfl)) rfl ?_
  rw [chkE_no hc2]
set_option maxRecDepth 4000 in
set_option maxHeartbeats 1000000 in
theorem rim_0 (l : List Sp) : DFun Try.prog 24 [.val (.pointer none), .slf 3 l.length (l.flatMap s3)] [] (.tup [.val (.slice none 0 0), .val (.int .i64 1)]) [] := by
  refine zan (N := 44) 0 (by kernel_rfl) Try.func24 rfl rfl rfl (by simp only [fr0, Nat.zero_add, Nat.reduceAdd]; exact rfl) rfl fun s0 hs0 => ?_
  refine dwp_len (t := 1) rfl fun hl1 hL1 => ?_
  refine zaf ?_
  refine zai 3 (by simp only [holes, List.cons_append, List.nil_append]; exact rfl) ?_
  refine zad ?_
  refine zaj rfl rfl rfl (op_boxm 0 rfl (ev1 rfl) (fun s v h => by cases h <;> rfl) rfl) (by simp only [upd, zaa, za]; exact rfl) ?_
  refine zaj rfl rfl rfl (op_alloc 1 rfl zr64 rfl) (by simp only [upd, zaa, za]; exact rfl) ?_
  refine zaj rfl rfl rfl (op_alloc 2 rfl zr36 rfl) (by simp only [upd, zaa, za]; exact rfl) ?_
  refine zae ?_
  refine zaf ?_
  refine zaf ?_
  refine zad ?_
  refine zab rfl rfl rfl (op_ldm rfl tb29 (ev1 rfl) rfl rfl) ?_
  refine zab rfl rfl rfl (zah [] [] [] rfl (ev1 rfl) (ec (ev1 rfl) (ec (evnil 1 (ev1 rfl)) (ec (evnil 2 (ev1 rfl)) en))) rfl rfl (refuse_0 [] []) rfl rfl rfl rfl rfl rfl) ?_
  refine zab rfl rfl rfl (zac (.inr rfl) (ev1 rfl)) ?_
  refine zae ?_
  refine zaf ?_
  refine zad ?_
  refine zab rfl rfl rfl (zac (.inl rfl) (ev1 rfl)) ?_
  refine zab rfl rfl rfl (op_neq rfl (ev1 rfl) (ev1 rfl)) ?_
  refine zae ?_
  refine dwp_if_t rfl (rfl) ?_
  refine zaf ?_
  refine zad ?_
  refine zab rfl rfl rfl (zac (.inl rfl) (ev1 rfl)) ?_
  refine walk_s rfl rfl (op_st rfl tb64 (ev1 rfl) (ev1 rfl) rfl rfl rfl rfl (by decide) rfl) (by simp only [upd, zaa, za]; exact rfl) ?_
  refine walk_s rfl rfl (op_stwi rfl tb36 (ev1 rfl) (ev1 rfl) rfl) (by simp only [upd, zaa, za]; exact rfl) ?_
  refine zae ?_
  refine zao ?_
  refine kend0 (rs2 rfl (rv_1 tb64 rfl rfl rfl) (rv_1 tb36 rfl rfl rfl)) rfl ?_
  rfl
set_option maxRecDepth 4000 in
set_option maxHeartbeats 1000000 in
theorem rim_no (w h : Int) (ds : List D) (ts : List TL) (hr : RowOk ds ts) (hc : CvOk w h ts) (hg : tsRng ts) (l : List Sp) (hl : l.length ≤ 1000000) (hc2 : chkS l) (ho : onA w h l = false) : DFun Try.prog 24 [cvD w h ds, .slf 3 l.length (l.flatMap s3)] [] (.tup [.val (.slice none 0 0), .val (.int .i64 4)]) [] := by
  refine zan (N := 44) 0 (by kernel_rfl) Try.func24 rfl rfl rfl (by simp only [fr0, Nat.zero_add, Nat.reduceAdd]; exact rfl) rfl fun s0 hs0 => ?_
  refine dwp_len (t := 1) rfl fun hl1 hL1 => ?_
  refine zaf ?_
  refine zai 3 (by simp only [holes, List.cons_append, List.nil_append]; exact rfl) ?_
  refine zad ?_
  refine zaj rfl rfl rfl (op_boxm 0 rfl (ev1 rfl) (fun s v h => by cases h <;> rfl) rfl) (by simp only [upd, zaa, za]; exact rfl) ?_
  refine zaj rfl rfl rfl (op_alloc 1 rfl zr64 rfl) (by simp only [upd, zaa, za]; exact rfl) ?_
  refine zaj rfl rfl rfl (op_alloc 2 rfl zr36 rfl) (by simp only [upd, zaa, za]; exact rfl) ?_
  refine zae ?_
  refine zaf ?_
  refine zaf ?_
  refine zad ?_
  refine zab rfl rfl rfl (op_ldm rfl tb29 (ev1 rfl) rfl rfl) ?_
  refine zab rfl rfl rfl (zah [] [] [] rfl (ev1 rfl) (ec (ev1 rfl) (ec (evnil 1 (ev1 rfl)) (ec (evnil 2 (ev1 rfl)) en))) rfl rfl (refuse_d w h ds ts hr hc [] []) rfl rfl rfl rfl rfl rfl) ?_
  refine zab rfl rfl rfl (zac (.inr rfl) (ev1 rfl)) ?_
  refine zae ?_
  refine zaf ?_
  refine zad ?_
  refine zab rfl rfl rfl (zac (.inl rfl) (ev1 rfl)) ?_
  refine zab rfl rfl rfl (op_neq rfl (ev1 rfl) (ev1 rfl)) ?_
  refine zae ?_
  refine dwp_if_f rfl (by rfl) ?_
  refine zak ?_
  refine zaf ?_
  refine zaf ?_
  refine zad ?_
  refine zab rfl rfl rfl (zac (.inl rfl) (ev1 rfl)) ?_
  refine zab rfl rfl rfl (zah [] [] [] rfl (ev1 rfl) (ec (ev1 rfl) en) rfl rfl (check_d l) rfl rfl rfl rfl rfl rfl) ?_
  refine zab rfl rfl rfl (zac (.inr rfl) (ev1 rfl)) ?_
  refine zae ?_
  refine zaf ?_
  refine zad ?_
  refine zab rfl rfl rfl (zac (.inl rfl) (ev1 rfl)) ?_
  refine zab rfl rfl rfl (op_neq rfl (ev1 rfl) (ev1 rfl)) ?_
  refine zae ?_
  refine dwp_if_f rfl (by rw [chkE_ok hc2]; rfl) ?_
  refine zak ?_
  refine zaf ?_
  refine zai 3 (by simp only [holes, List.cons_append, List.nil_append]; exact rfl) ?_
  refine zad ?_
  refine zab rfl rfl rfl (op_ldm rfl tb29 (ev1 rfl) rfl rfl) ?_
  refine zaj rfl rfl rfl (zah [] [] [3, 4] rfl (ev1 rfl) (ec (ev1 rfl) en) rfl rfl (searchOf_d w h ds) rfl rfl rfl (by exact (wrc (sb_srx rfl rfl) (wrc rfl rfl))) rfl rfl) (by simp only [upd, zaa, za]; exact rfl) ?_
  refine zaj rfl rfl rfl (op_alloc 5 rfl zr84 rfl) (by simp only [upd, zaa, za]; exact rfl) ?_
  refine walk_s rfl rfl (op_stfm rfl tb84 (ev1 rfl) (ev1 rfl) (fun s v h => by cases h <;> exact ⟨rfl, rfl⟩) rfl (by decide)) (by simp only [upd, zaa, za]; exact rfl) ?_
  refine zae ?_
  refine zaf ?_
  refine zaf ?_
  refine zai 1 (by simp only [holes, List.cons_append, List.nil_append]; exact rfl) ?_
  refine zad ?_
  refine zab rfl rfl rfl (zac (.inl rfl) (ev1 rfl)) ?_
  refine zaj rfl rfl rfl (zah [] [] [6] rfl (ev1 rfl) (ec (ev1 rfl) en) rfl rfl (all_d l hl) rfl rfl rfl rfl rfl rfl) (by simp only [upd, zaa, za]; exact rfl) ?_
  refine zae ?_
  refine zal ?_
  refine dwp_hole ?_
  simp only [List.cons_append, List.nil_append]
  refine dwp_rf (FL := [(2, _), (4, _), (5, _), (8, _)]) (st := (rst (onA w h l))) (pe := (rpe .ret (onA w h l))) [7, 0, 1, 2, 5, 3, 4, 6] [] [] 7 rfl rfl (ev1 rfl) rfl (subF_lk ⟨rfl, rfl, rfl, rfl, trivial⟩) rfl rfl (by exact mfits _ _ ⟨rfl, rfl, rfl, rfl, rfl, zap rfl rfl rfl, rfl, rfl, trivial⟩) (all_rm w h ds ts hr hc hg l hc2 hl1) rfl rfl rfl (by exact (wrc rfl (wrc rfl (wrc rfl (wrc rfl (wrc rfl (wrc (sb_srx rfl rfl) (wrc rfl (wrc rfl rfl))))))))) rfl rfl rfl (rst_busy _) (fun e => ?_) (fun c e => ?_)
  · exact absurd e (by rw [ho]; exact fun e => by cases e)
  · obtain ⟨e1, rfl⟩ : onA w h l = false ∧ c = .ret := by
      cases h : onA w h l <;> simp_all [rpe]
    simp only [upd, zaa, za]
    refine zao ?_
    refine kend0 (rs2 rfl (rv_1 tb64 rfl rfl rfl) (rv_1 tb36 rfl rfl rfl)) rfl ?_
    rw [ho]
    rfl
end Go.Proofs.Ytfnhckildfbikaa
namespace Go.Proofs.Ytfnhckildfbikaa
set_option maxRecDepth 4000
set_option linter.unusedVariables false
set_option linter.unusedSimpArgs false
open Go.RowKit
attribute [local irreducible] zFD srL goF bfsF
attribute [local irreducible] spF spN prK
theorem nearB_zero (w : Int) (ts : List TL) (tol : Int) (c : C4) : nearB w ts tol c zFD = nearP w ts tol c := by
  funext q
  unfold nearB
  rw [zFD_at]; rfl
theorem grF_zero (w h : Int) (ts : List TL) (tol : Int) (p : P2) : grF w h ts tol zFD p = rgF w h ts tol p := by unfold grF rgF; rw [nearB_zero]
end Go.Proofs.Ytfnhckildfbikaa
namespace Go.Proofs.Ytfnhckildfbikaa
set_option maxRecDepth 4000
set_option linter.unusedVariables false
set_option linter.unusedSimpArgs false
open Go.RowKit
attribute [local irreducible] zFD
section
variable {On near : P2 → Bool} (hOn : ∀ p, On p = true → inF32 p) {b : FD}
include hOn
end
theorem fieldN_all {W n : Nat} : fieldN W n 0 0 = gtP (fun _ => true) W n := by unfold gtP; exact (List.filter_eq_self.2 fun _ _ => rfl).symm
theorem fieldN_on {w h : Int} (hm : mayS w h = true) {p : P2} : p ∈ fieldN (w * 8).toNat ((h * 8).toNat * (w * 8).toNat) 0 0 ↔ onP w h p = true := by
  have hb := mayS_b hm
  rw [fieldN_all, gtP_mem (by omega)]
  unfold onP
  rw [onS_iff]
  constructor
  · rintro ⟨h1, _⟩; omega
  · intro h1; exact ⟨by omega, rfl⟩
end Go.Proofs.Ytfnhckildfbikaa
namespace Go.Proofs.Ytfnhckildfbikaa
set_option maxRecDepth 4000
set_option linter.unusedVariables false
set_option linter.unusedSimpArgs false
open Go.RowKit
attribute [local irreducible] zFD
theorem ptsS_beh : ∀ {l : List Sp}, okS l → (ptsS l).Pairwise beh
  | [], _ => List.Pairwise.nil
  | s :: l, h => by
    have hs := h.1 s (List.mem_cons_self ..)
    have ht : okS l := ⟨fun a ha => h.1 a (List.mem_cons_of_mem _ ha), (List.pairwise_cons.1 h.2).2⟩
    show (s.pts ++ ptsS l).Pairwise beh
    refine List.pairwise_append.2 ⟨?_, ptsS_beh ht, fun p hp q hq => ?_⟩
    · unfold Sp.pts
      refine List.pairwise_map.2 (List.pairwise_lt_range.imp fun {i j} hij => ?_)
      exact .inr ⟨rfl, show s.f + (i : Int) < s.f + (j : Int) by omega⟩
    · obtain ⟨k, hk, rfl⟩ := List.mem_map.1 hp
      obtain ⟨a, ha, hqa⟩ := List.mem_flatMap.1 hq
      obtain ⟨j, hj, rfl⟩ := List.mem_map.1 hqa
      have hap := (List.pairwise_cons.1 h.2).1 a ha
      have hk := List.mem_range.1 hk
      unfold Sp.wd at hk
      unfold apS at hap
      unfold beh
      simp only
      omega
theorem beh_irr {p : P2} : ¬ beh p p := by unfold beh; omega
theorem beh_asym {p q : P2} (h : beh p q) : ¬ beh q p := by unfold beh at *; omega
theorem beh_uniq : ∀ {l m : List P2}, l.Pairwise beh → m.Pairwise beh → (∀ p, p ∈ l ↔ p ∈ m) → l = m
  | [], [], _, _, _ => rfl
  | [], b :: m, _, _, h => absurd ((h b).2 (List.mem_cons_self ..)) (List.not_mem_nil)
  | a :: l, [], _, _, h => absurd ((h a).1 (List.mem_cons_self ..)) (List.not_mem_nil)
  | a :: l, b :: m, hl, hm, h => by
    obtain ⟨h1, h2⟩ := List.pairwise_cons.1 hl
    obtain ⟨g1, g2⟩ := List.pairwise_cons.1 hm
    have e : a = b := by
      rcases List.mem_cons.1 ((h a).1 (List.mem_cons_self ..)) with e | e
      · exact e
      · rcases List.mem_cons.1 ((h b).2 (List.mem_cons_self ..)) with e2 | e2
        · exact e2.symm
        · exact absurd (h1 b e2) (beh_asym (g1 a e))
    subst e
    congr 1
    refine beh_uniq h2 g2 fun p => ⟨fun hp => ?_, fun hp => ?_⟩
    · rcases List.mem_cons.1 ((h p).1 (List.mem_cons_of_mem _ hp)) with e | e
      · subst e; exact absurd (h1 p hp) beh_irr
      · exact e
    · rcases List.mem_cons.1 ((h p).2 (List.mem_cons_of_mem _ hp)) with e | e
      · subst e; exact absurd (g1 p hp) beh_irr
      · exact e
theorem mtF_at : ∀ (P : List P2) (f : FD), (∀ p ∈ P, inF32 p) → ∀ q, inF32 q → (P.foldl (fun f p => f.put p (0 + 1)) f).at q = if q ∈ P then 1 else f.at q
  | [], f, _, q, _ => by simp
  | p :: P, f, hP, q, hq => by
    rw [List.foldl_cons, mtF_at P _ (fun x hx => hP x (List.mem_cons_of_mem _ hx)) q hq, FD.put_at (hP p (List.mem_cons_self ..)) hq]
    by_cases h1 : q ∈ P
    · rw [if_pos h1, if_pos (List.mem_cons_of_mem _ h1)]
    · rw [if_neg h1]
      by_cases e : q = p
      · subst e; rw [if_pos rfl, if_pos (List.mem_cons_self ..)]
      · rw [if_neg e, if_neg (by simp [e, h1])]
theorem mtF_has {P : List P2} (hP : ∀ p ∈ P, inF32 p) {q : P2} (hq : inF32 q) : (mtF P).has q = decide (q ∈ P) := by
  unfold FD.has mtF
  rw [mtF_at P zFD hP q hq, zFD_at, Bool.eq_iff_iff, decide_eq_true_eq, decide_eq_true_eq]
  by_cases h : q ∈ P
  · rw [if_pos h]; exact ⟨fun _ => h, fun _ => by omega⟩
  · rw [if_neg h]; exact ⟨fun h => by omega, fun g => absurd g h⟩
def rimN (w h : Int) (l : List Sp) (p : P2) : Nat := ((nbL (onP w h) p).filter (rhasB l)).length
def rimQ (w h : Int) (l : List Sp) (p : P2) : Bool := decide (rimN w h l p < 4)
theorem filt_len {α : Type} {q : α → Bool} : ∀ (L : List α), decide ((L.filter q).length < L.length) = !L.all q
  | [] => rfl
  | a :: L => by
    have ih := filt_len (q := q) L
    have hle := List.length_filter_le q L
    cases h : q a with
    | true =>
      rw [List.filter_cons_of_pos h, List.length_cons, List.length_cons, List.all_cons, h, Bool.true_and, ← ih, Bool.eq_iff_iff, decide_eq_true_eq, decide_eq_true_eq]
      omega
    | false =>
      rw [List.filter_cons_of_neg (by rw [h]; decide), List.length_cons, List.all_cons, h, Bool.false_and]
      exact decide_eq_true (by omega)
theorem rimQ_eq {w h : Int} (hm : mayS w h = true) {l : List Sp} (ho : onA w h l = true) (p : P2) : rimQ w h l p = rimB w h (mtF (ptsS l)) p := by
  have hP : ∀ p ∈ ptsS l, inF32 p := fun p hp => onP_in hm p (List.all_eq_true.1 ho p hp)
  unfold rimQ rimN rimB nbL
  rw [List.filter_filter]
  have e := filt_len (q := fun a => rhasB l a && onP w h a) (adjL p)
  rw [adj_len] at e
  rw [e]
  congr 2
  funext n
  cases hn : onP w h n with
  | false => rw [Bool.and_false, Bool.false_and]
  | true =>
    rw [Bool.and_true, Bool.true_and, mtF_has hP (onP_in hm n hn), Bool.eq_iff_iff, rhasB_iff, decide_eq_true_eq, ptsS_mem]
theorem rim_pts {w h : Int} (hm : mayS w h = true) {l : List Sp} (hc : chkS l) (ho : onA w h l = true) : gtP (rmB w h (mtF (ptsS l))) (w * 8).toNat ((h * 8).toNat * (w * 8).toNat) = (ptsS l).filter (rimQ w h l) := by
  have hb := mayS_b hm
  have hP : ∀ p ∈ ptsS l, inF32 p := fun p hp => onP_in hm p (List.all_eq_true.1 ho p hp)
  refine beh_uniq (gtP_beh (by omega) _) ((ptsS_beh hc.ok).sublist List.filter_sublist) fun p => ?_
  have h1 : p ∈ gtP (rmB w h (mtF (ptsS l))) (w * 8).toNat ((h * 8).toNat * (w * 8).toNat) ↔ onP w h p = true ∧ rmB w h (mtF (ptsS l)) p = true := by
    unfold gtP
    rw [List.mem_filter, fieldN_on hm]
  rw [h1, List.mem_filter, rimQ_eq hm ho]
  unfold rmB
  rw [Bool.and_eq_true]
  constructor
  · rintro ⟨g1, g2, g3⟩
    rw [mtF_has hP (onP_in hm p g1), decide_eq_true_eq] at g2
    exact ⟨g2, g3⟩
  · rintro ⟨g1, g2⟩
    have g3 := List.all_eq_true.1 ho p g1
    exact ⟨g3, by rw [mtF_has hP (onP_in hm p g3)]; exact decide_eq_true g1, g2⟩
theorem rq_add {w h : Int} {l L : List Sp} {i k : Nat} (hi : i < l.length) (hk : k < l[i].wd) {q : P2 → Bool} : (ptsS (l.take i) ++ l[i].pts.take (k + 1)).filter q = (ptsS (l.take i) ++ l[i].pts.take k).filter q ++ (if q ⟨l[i].f + (k : Int), l[i].y⟩ = true then [⟨l[i].f + (k : Int), l[i].y⟩] else []) := by
  rw [pts_add hk, ← List.append_assoc, List.filter_append]
  congr 1
  cases hq : q ⟨l[i].f + (k : Int), l[i].y⟩ with
  | true => rw [List.filter_cons_of_pos hq]; rfl
  | false => rw [List.filter_cons_of_neg (by rw [hq]; decide)]; rfl
theorem rq_len {l : List Sp} (hc : chkS l) (hl : l.length ≤ 1000) {i : Nat} (hi : i < l.length) (k : Nat) {q : P2 → Bool} : ((ptsS (l.take i) ++ l[i].pts.take k).filter q).length ≤ 600000 := by
  refine Nat.le_trans (List.length_filter_le ..) ?_
  have h1 := cnt_le hc (i + 1)
  rw [cnt_add hi] at h1
  rw [List.length_append, ptsS_len, List.length_take, pts_wd]
  have : l.length * 512 ≤ 1000 * 512 := Nat.mul_le_mul_right _ hl
  omega
end Go.Proofs.Ytfnhckildfbikaa
namespace Go.Proofs.Ytfnhckildfbikaa
set_option maxRecDepth 4000
set_option linter.unusedVariables false
set_option linter.unusedSimpArgs false
open Go.RowKit
attribute [local irreducible] zFD srL goF bfsF
attribute [local irreducible] spF spN prK
set_option maxRecDepth 4000 in
set_option maxHeartbeats 1000000 in
theorem rrim_d (w h : Int) (ts : List TL) (hc : CvOk w h ts) (l : List Sp) (hk2 : chkS l) (hl : l.length ≤ 1000) (ho : onA w h l = true) : DFun Try.prog 26 [shD w h ts, .slf 3 l.length (l.flatMap s3)] [] (.slf 2 ((ptsS l).filter (rimQ w h l)).length (((ptsS l).filter (rimQ w h l)).flatMap p2)) [] := by
  refine zan (N := 53) 0 (by kernel_rfl) Try.func26 rfl rfl rfl (by simp only [fr0, Nat.zero_add, Nat.reduceAdd]; exact rfl) rfl fun s0 hs0 => ?_
  refine dwp_len (t := 1) rfl fun hl1 hL1 => ?_
  refine zaf ?_
  refine zai 1 (by simp only [holes, List.cons_append, List.nil_append]; exact rfl) ?_
  refine zad ?_
  refine zaj rfl rfl rfl (op_boxam 0 rfl (ev1 rfl) rfl) (by simp only [upd, zaa, za]; exact rfl) ?_
  refine zab rfl rfl rfl (zac (.inr rfl) (ev1 rfl)) ?_
  refine zae ?_
  refine zaf ?_
  refine zad ?_
  refine zab rfl rfl rfl (zac (.inr rfl) (ev1 rfl)) ?_
  refine zae ?_
  refine zaf ?_
  refine zaf ?_
  refine zad ?_
  refine zab rfl rfl rfl (zac (.inl rfl) (ev1 rfl)) ?_
  refine zab rfl rfl rfl (op_len rfl sl35 (ev1 rfl)) ?_
  refine zab rfl rfl rfl (zac (.inl rfl) (ev1 rfl)) ?_
  refine zae ?_
  refine zal ?_
  refine dwp_adopt 5 34 2 rfl rfl rfl ?_
  refine dwp_loopS ⟨hs0, rfl⟩ (α := Nat) (fun i => [(15, .val (.int .i64 (i : Int)))]) [(1, _), (2, _), (5, _), (13, _), (14, _)] (fun i => [(1, .arr 34 2 (((ptsS (l.take i)).filter (rimQ w h l))).length ((((ptsS (l.take i)).filter (rimQ w h l))).flatMap p2))]) [_, .hole] (fun i => i ≤ l.length) (fun i => l.length - i) 0 [0, 1] (Nat.zero_le _) rfl ⟨rfl, rfl, rfl, rfl, rfl, trivial⟩ ⟨rfl, trivial⟩ ⟨rfl, rfl, trivial⟩ ?_
  intro i hx
  simp only [upd, zaa, za, List.cons_append, List.nil_append]
  have hi0 := hx
  refine zaf ?_
  refine zad ?_
  refine zab rfl rfl rfl (op_lss rfl (ev1 rfl) (ev1 rfl)) ?_
  refine zae ?_
  refine zaf ?_
  refine dwp_cond rfl (fun c1 => ?_) (fun c1 => ?_)
  · try simp only [decide_eq_true_eq, decide_eq_false_iff_not, beq_iff_eq, bne_iff_ne, beq_eq_false_iff_ne, bne_eq_false_iff_eq, Bool.not_eq_true', Bool.not_eq_false', Bool.and_eq_true, Bool.or_eq_true, Bool.or_eq_false_iff, ne_eq, Decidable.not_not, Int.not_lt, Int.not_le] at c1
    refine zak ?_
    refine zaf ?_
    refine zal ?_
    refine zaf ?_
    have hi : i < l.length := by omega
    obtain ⟨hrs, hft⟩ := hk2.1 _ (List.getElem_mem hi)
    have hr2 := hrs
    unfold rchS at hr2
    have hwd : (l[i].wd : Int) = l[i].t - l[i].f + 1 := by unfold Sp.wd; omega
    refine zai 1 (by simp only [holes, List.cons_append, List.nil_append]; exact rfl) ?_
    refine zad ?_
    refine zab rfl rfl rfl (op_ixsr (j := i) rfl sl35 (ev1 rfl) (ev1 rfl) (fun _ => rfl) (by decide) (by omega) (by omega)) ?_
    refine zab rfl rfl rfl (op_ldwd rfl tb53 (ev1 rfl) rfl) ?_
    refine zaj rfl rfl rfl (op_alloc 2 rfl zr53 rfl) (by simp only [upd, zaa, za]; exact rfl) ?_
    refine walk_s rfl rfl (op_stwa rfl tb53 (ev1 rfl) (ev1 rfl) rfl rfl rfl rfl) (by simp only [upd, zaa, za]; exact rfl) ?_
    refine zae ?_
    refine zaf ?_
    refine zad ?_
    refine zab rfl rfl rfl (op_fa rfl fo53_1 (ev1 rfl)) ?_
    refine zab rfl rfl rfl (zam rfl tb3 (ev1 rfl) rfl rfl) ?_
    refine zab rfl rfl rfl (zac (.inr rfl) (ev1 rfl)) ?_
    refine zae ?_
    refine zal ?_
    refine dwp_loopS ⟨hs0, rfl⟩ (α := Nat) (fun k => [(8, .val (.int .i64 (l[i].f + (k : Int))))]) [(1, _), (2, _), (5, _), (7, _), (13, _), (14, _), (15, _)] (fun k => [(1, .arr 34 2 (((ptsS (l.take i) ++ l[i].pts.take k).filter (rimQ w h l))).length ((((ptsS (l.take i) ++ l[i].pts.take k).filter (rimQ w h l))).flatMap p2))]) [_, .hole, _] (fun k => k ≤ l[i].wd) (fun k => l[i].wd - k) 0 [0, 1, 2] (Nat.zero_le _) rfl ⟨rfl, rfl, rfl, rfl, rfl, rfl, rfl, trivial⟩ ⟨congrArg (fun z => some (D.val (.int .i64 z))) (by first | rfl | omega), trivial⟩ ⟨rfl, by rw [List.take_zero, List.append_nil]; rfl, rfl, trivial⟩ ?_
    intro k hx
    simp only [upd, zaa, za, List.cons_append, List.nil_append]
    have hk0 := hx
    have hql := rq_len hk2 hl hi k (q := rimQ w h l)
    refine zaf ?_
    refine zaf ?_
    refine zad ?_
    refine zab rfl rfl rfl (zac (.inl rfl) (ev1 rfl)) ?_
    refine zab rfl rfl rfl (op_fa rfl fo53_2 (ev1 rfl)) ?_
    refine zab rfl rfl rfl (zam rfl tb3 (ev1 rfl) rfl rfl) ?_
    refine zab rfl rfl rfl (op_leq rfl (ev1 rfl) (ev1 rfl)) ?_
    refine zae ?_
    refine dwp_cond rfl (fun c2 => ?_) (fun c2 => ?_)
    · try simp only [decide_eq_true_eq, decide_eq_false_iff_not, beq_iff_eq, bne_iff_ne, beq_eq_false_iff_ne, bne_eq_false_iff_eq, Bool.not_eq_true', Bool.not_eq_false', Bool.and_eq_true, Bool.or_eq_true, Bool.or_eq_false_iff, ne_eq, Decidable.not_not, Int.not_lt, Int.not_le] at c2
      refine zak ?_
      refine zaf ?_
      refine zal ?_
      refine zaf ?_
      have hk : k < l[i].wd := by omega
      have hpo : onP w h (⟨l[i].f + (k : Int), l[i].y⟩ : P2) = true := List.all_eq_true.1 ho _ (pts_mem2 hi hk)
      have hpi := onP_in hc.may _ hpo
      have hnl := nbL_len (onP w h) (⟨l[i].f + (k : Int), l[i].y⟩ : P2)
      refine zai 1 (by simp only [holes, List.cons_append, List.nil_append]; exact rfl) ?_
      refine zad ?_
      refine zab rfl rfl rfl (zac (.inl rfl) (ev1 rfl)) ?_
      refine zab rfl rfl rfl (op_fa rfl fo53_0 (ev1 rfl)) ?_
      refine zab rfl rfl rfl (zam rfl tb3 (ev1 rfl) rfl rfl) ?_
      refine zab rfl rfl rfl (op_build (ps := [(0, .tmp 27), (1, .tmp 29)]) rfl fl34 zr34 (vc (ev1 rfl) (vc (ev1 rfl) vn)) rfl rfl) ?_
      refine zaj rfl rfl rfl (op_alloc 3 rfl zr34 rfl) (by simp only [upd, zaa, za]; exact rfl) ?_
      refine walk_s rfl rfl (op_stwa rfl tb34 (ev1 rfl) (ev1 rfl) rfl rfl rfl rfl) (by simp only [upd, zaa, za]; exact rfl) ?_
      refine zae ?_
      refine zaf ?_
      refine zad ?_
      refine zab rfl rfl rfl (zac (.inr rfl) (ev1 rfl)) ?_
      refine zae ?_
      refine zaf ?_
      refine zaf ?_
      refine zad ?_
      refine zab rfl rfl rfl (op_ldmw rfl tb24 (ev1 rfl) rfl rfl) ?_
      refine zab rfl rfl rfl (op_ldw rfl tb34 (ev1 rfl) rfl rfl) ?_
      refine zab rfl rfl rfl (zah [] [] [] rfl (ev1 rfl) (ec (ev1 rfl) (ec (ev1 rfl) en)) rfl rfl (rnb_d w h ts hc (⟨l[i].f + (k : Int), l[i].y⟩ : P2) hpi) rfl rfl rfl rfl rfl rfl) ?_
      refine zab rfl rfl rfl (op_len rfl sl64 (ev1 rfl)) ?_
      refine zab rfl rfl rfl (zac (.inl rfl) (ev1 rfl)) ?_
      refine zae ?_
      refine zal ?_
      refine dwp_loopS ⟨hs0, rfl⟩ (α := Nat) (fun j => [(10, .val (.int .i64 ((((nbL (onP w h) (⟨l[i].f + (k : Int), l[i].y⟩ : P2)).take j).filter (rhasB l)).length : Int))), (35, .val (.int .i64 (j : Int)))]) [(1, _), (2, _), (5, _), (7, _), (8, _), (9, _), (13, _), (14, _), (15, _), (33, _), (34, _)] (fun j => []) [_, _, _, _] (fun j => j ≤ (nbL (onP w h) (⟨l[i].f + (k : Int), l[i].y⟩ : P2)).length) (fun j => (nbL (onP w h) (⟨l[i].f + (k : Int), l[i].y⟩ : P2)).length - j) 0 [0, 1, 2, 3] (Nat.zero_le _) rfl ⟨rfl, rfl, rfl, rfl, rfl, rfl, rfl, rfl, rfl, rfl, rfl, trivial⟩ ⟨rfl, rfl, trivial⟩ ⟨rfl, rfl, rfl, rfl, trivial⟩ ?_
      intro j hx
      simp only [upd, zaa, za, List.cons_append, List.nil_append]
      have hj0 := hx
      have hfl : (((nbL (onP w h) (⟨l[i].f + (k : Int), l[i].y⟩ : P2)).take j).filter (rhasB l)).length ≤ 4 := Nat.le_trans (List.length_filter_le ..) (Nat.le_trans (List.length_take_le ..) (by omega))
      refine zaf ?_
      refine zad ?_
      refine zab rfl rfl rfl (op_lss rfl (ev1 rfl) (ev1 rfl)) ?_
      refine zae ?_
      refine zaf ?_
      refine dwp_cond rfl (fun c3 => ?_) (fun c3 => ?_)
      · try simp only [decide_eq_true_eq, decide_eq_false_iff_not, beq_iff_eq, bne_iff_ne, beq_eq_false_iff_ne, bne_eq_false_iff_eq, Bool.not_eq_true', Bool.not_eq_false', Bool.and_eq_true, Bool.or_eq_true, Bool.or_eq_false_iff, ne_eq, Decidable.not_not, Int.not_lt, Int.not_le] at c3
        refine zak ?_
        refine zaf ?_
        refine zal ?_
        refine zaf ?_
        have hj : j < (nbL (onP w h) (⟨l[i].f + (k : Int), l[i].y⟩ : P2)).length := by omega
        refine zai 1 (by simp only [holes, List.cons_append, List.nil_append]; exact rfl) ?_
        refine zad ?_
        refine zab rfl rfl rfl (op_ixsr (j := j) rfl sl64 (ev1 rfl) (ev1 rfl) (fun _ => rfl) (by decide) (by omega) (by omega)) ?_
        refine zab rfl rfl rfl (op_ldwd rfl tb34 (ev1 rfl) rfl) ?_
        refine zaj rfl rfl rfl (op_alloc 4 rfl zr34 rfl) (by simp only [upd, zaa, za]; exact rfl) ?_
        refine walk_s rfl rfl (op_stwa rfl tb34 (ev1 rfl) (ev1 rfl) rfl rfl rfl rfl) (by simp only [upd, zaa, za]; exact rfl) ?_
        refine zae ?_
        refine zaf ?_
        refine zad ?_
        refine zab rfl rfl rfl (zac (.inl rfl) (ev1 rfl)) ?_
        refine zab rfl rfl rfl (op_ldw rfl tb34 (ev1 rfl) rfl rfl) ?_
        refine zab rfl rfl rfl (zah [] [] [] rfl (ev1 rfl) (ec (ev1 rfl) (ec (ev1 rfl) en)) rfl rfl (rhas_d l _) rfl rfl rfl rfl rfl rfl) ?_
        refine zae ?_
        refine dwp_cond rfl (fun c4 => ?_) (fun c4 => ?_)
        · refine zad ?_
          refine zab rfl rfl rfl (zac (.inl rfl) (ev1 rfl)) ?_
          refine zab rfl rfl rfl (op_add' rfl (ev1 rfl) (ev1 rfl) (fun _ => IntWalk.i64_in _ (by omega))) ?_
          refine zab rfl rfl rfl (zac (.inr rfl) (ev1 rfl)) ?_
          refine zae ?_
          refine zad ?_
          refine zab rfl rfl rfl (op_add' rfl (ev1 rfl) (ev1 rfl) (fun _ => IntWalk.i64_in _ (by omega))) ?_
          refine zab rfl rfl rfl (zac (.inl rfl) (ev1 rfl)) ?_
          refine zae ?_
          refine ⟨j + 1, [0, 1, 2, 3], by omega, by simp only []; omega, rfl, ⟨by rw [tk_filt hj, if_pos c4, List.length_append]; rfl, rfl, rfl, rfl, rfl, rfl, rfl, rfl, rfl, rfl, rfl, rfl, rfl, trivial⟩, ⟨rfl, rfl, rfl, rfl, trivial⟩⟩
        · refine zak ?_
          refine zad ?_
          refine zab rfl rfl rfl (op_add' rfl (ev1 rfl) (ev1 rfl) (fun _ => IntWalk.i64_in _ (by omega))) ?_
          refine zab rfl rfl rfl (zac (.inl rfl) (ev1 rfl)) ?_
          refine zae ?_
          refine ⟨j + 1, [0, 1, 2, 3], by omega, by simp only []; omega, rfl, ⟨by rw [tk_filt hj, if_neg (by rw [c4]; decide), List.append_nil]; rfl, rfl, rfl, rfl, rfl, rfl, rfl, rfl, rfl, rfl, rfl, rfl, rfl, trivial⟩, ⟨rfl, rfl, rfl, rfl, trivial⟩⟩
      · try simp only [decide_eq_true_eq, decide_eq_false_iff_not, beq_iff_eq, bne_iff_ne, beq_eq_false_iff_ne, bne_eq_false_iff_eq, Bool.not_eq_true', Bool.not_eq_false', Bool.and_eq_true, Bool.or_eq_true, Bool.or_eq_false_iff, ne_eq, Decidable.not_not, Int.not_lt, Int.not_le] at c3
        refine dwp_exit ?_
        refine zaf ?_
        have htk : (nbL (onP w h) (⟨l[i].f + (k : Int), l[i].y⟩ : P2)).take j = nbL (onP w h) (⟨l[i].f + (k : Int), l[i].y⟩ : P2) := List.take_of_length_le (by omega)
        rw [htk]
        refine zad ?_
        refine zab rfl rfl rfl (zac (.inl rfl) (ev1 rfl)) ?_
        refine zab rfl rfl rfl (op_lss rfl (ev1 rfl) (ev1 rfl)) ?_
        refine zae ?_
        refine dwp_cond rfl (fun c5 => ?_) (fun c5 => ?_)
        · have hq : rimQ w h l (⟨l[i].f + (k : Int), l[i].y⟩ : P2) = true := by unfold rimQ rimN; simp only [decide_eq_true_eq] at c5 ⊢; omega
          refine zai 1 (by simp only [holes, List.cons_append, List.nil_append]; exact rfl) ?_
          refine zad ?_
          refine zab rfl rfl rfl (zac (.inl rfl) (ev1 rfl)) ?_
          refine zab rfl rfl rfl (op_ldw rfl tb34 (ev1 rfl) rfl rfl) ?_
          refine zab rfl rfl rfl (op_bs (ps := [(0, .tmp 48)]) rfl sl64 zr34 rfl (vc (ev1 rfl) vn) rfl (by decide) (by decide)) ?_
          refine zaj rfl rfl rfl (op_app (j := 4) rfl sl64 zr34 rfl (ev1 rfl) (ev1 rfl) src_slf rfl rfl (fun _ => rfl) (fun _ => ⟨by omega, by omega⟩)) (by simp only [upd, zaa, za]; exact rfl) ?_
          refine zab rfl rfl rfl (zac (.inr rfl) (ev1 rfl)) ?_
          refine zae ?_
          refine zad ?_
          refine zab rfl rfl rfl (zac (.inl rfl) (ev1 rfl)) ?_
          refine zab rfl rfl rfl (op_add' rfl (ev1 rfl) (ev1 rfl) (fun _ => IntWalk.i64_in _ (by omega))) ?_
          refine zab rfl rfl rfl (zac (.inr rfl) (ev1 rfl)) ?_
          refine zae ?_
          refine ⟨k + 1, [0, 4, 2], by omega, by simp only []; omega, rfl, ⟨congrArg (fun z => some (D.val (.int .i64 z))) (by first | rfl | omega), rfl, rfl, rfl, rfl, rfl, rfl, rfl, trivial⟩, ⟨rfl, arr_eq (by rw [rq_add (L := []) hi hk (w := w) (h := h), if_pos hq, List.length_append]; rfl) (by rw [rq_add (L := []) hi hk (w := w) (h := h), if_pos hq, List.flatMap_append]; rfl), rfl, trivial⟩⟩
        · have hq : rimQ w h l (⟨l[i].f + (k : Int), l[i].y⟩ : P2) = false := by unfold rimQ rimN; simp only [decide_eq_false_iff_not] at c5 ⊢; omega
          refine zak ?_
          refine zad ?_
          refine zab rfl rfl rfl (zac (.inl rfl) (ev1 rfl)) ?_
          refine zab rfl rfl rfl (op_add' rfl (ev1 rfl) (ev1 rfl) (fun _ => IntWalk.i64_in _ (by omega))) ?_
          refine zab rfl rfl rfl (zac (.inr rfl) (ev1 rfl)) ?_
          refine zae ?_
          refine ⟨k + 1, [0, 1, 2], by omega, by simp only []; omega, rfl, ⟨congrArg (fun z => some (D.val (.int .i64 z))) (by first | rfl | omega), rfl, rfl, rfl, rfl, rfl, rfl, rfl, trivial⟩, ⟨rfl, arr_eq (by rw [rq_add (L := []) hi hk (w := w) (h := h), if_neg (by rw [hq]; decide), List.append_nil]) (by rw [rq_add (L := []) hi hk (w := w) (h := h), if_neg (by rw [hq]; decide), List.append_nil]), rfl, trivial⟩⟩
    · try simp only [decide_eq_true_eq, decide_eq_false_iff_not, beq_iff_eq, bne_iff_ne, beq_eq_false_iff_ne, bne_eq_false_iff_eq, Bool.not_eq_true', Bool.not_eq_false', Bool.and_eq_true, Bool.or_eq_true, Bool.or_eq_false_iff, ne_eq, Decidable.not_not, Int.not_lt, Int.not_le] at c2
      refine dwp_exit ?_
      refine zad ?_
      refine zab rfl rfl rfl (op_add' rfl (ev1 rfl) (ev1 rfl) (fun _ => IntWalk.i64_in _ (by omega))) ?_
      refine zab rfl rfl rfl (zac (.inl rfl) (ev1 rfl)) ?_
      refine zae ?_
      obtain rfl : k = l[i].wd := by omega
      have hpt : l[i].pts.take l[i].wd = l[i].pts := List.take_of_length_le (by rw [pts_wd]; exact Nat.le_refl _)
      refine ⟨i + 1, [0, 1], by omega, by simp only []; omega, rfl, ⟨rfl, rfl, rfl, rfl, rfl, rfl, trivial⟩, ⟨rfl, by rw [ptsS_add hi, hpt]; rfl, trivial⟩⟩
  · try simp only [decide_eq_true_eq, decide_eq_false_iff_not, beq_iff_eq, bne_iff_ne, beq_eq_false_iff_ne, bne_eq_false_iff_eq, Bool.not_eq_true', Bool.not_eq_false', Bool.and_eq_true, Bool.or_eq_true, Bool.or_eq_false_iff, ne_eq, Decidable.not_not, Int.not_lt, Int.not_le] at c1
    refine dwp_exit ?_
    refine zaf ?_
    refine dwp_giveA 5 rfl rfl (by simp only [zaa, za]; exact rfl) ?_
    have hil : l.take i = l := take_all (by omega)
    rw [hil]
    refine zad ?_
    refine zab rfl rfl rfl (zac (.inl rfl) (ev1 rfl)) ?_
    refine zab rfl rfl rfl (zac (.inr rfl) (ev1 rfl)) ?_
    refine zae ?_
    refine zao ?_
    refine kend0 (rs1 rfl (rv_t rfl)) rfl ?_
    rfl
end Go.Proofs.Ytfnhckildfbikaa
namespace Go.Proofs.Ytfnhckildfbikaa
set_option maxRecDepth 4000
set_option linter.unusedVariables false
set_option linter.unusedSimpArgs false
open Go.RowKit
attribute [local irreducible] crT crU pcV rgF rgS gtP zFD fV
theorem refE_b1 {w h tol : Int} {ps : List P2} (hb : badT tol = true) : refE w h [tol] ps = 2 := refE_t (by simp [hb])
end Go.Proofs.Ytfnhckildfbikaa
namespace Go.Proofs.Ytfnhckildfbikaa
set_option maxRecDepth 4000
set_option linter.unusedVariables false
set_option linter.unusedSimpArgs false
open Go.RowKit
open Go.ChangeShapes Go.WideShapes Go.ChangeAt Go.Joins Go.Deep
theorem fits_s3 (cs : List Value) (h : fitsP [.int .i64, .int .i64, .int .i64] cs) : ∃ p : Sp, p.rng ∧ cs = s3 p := by
  obtain ⟨x0, r, rfl, h0, g1⟩ := fitsP_cons h
  obtain ⟨x1, r, rfl, h1, g2⟩ := fitsP_cons g1
  obtain ⟨x2, r, rfl, h2, g3⟩ := fitsP_cons g2
  obtain rfl := fitsP_nil g3
  obtain ⟨x, wx, rfl⟩ := fits_prim_i64 h0
  obtain ⟨y, wy, rfl⟩ := fits_prim_i64 h1
  obtain ⟨z, wz, rfl⟩ := fits_prim_i64 h2
  exact ⟨⟨x, y, z⟩, ⟨wx, wy, wz⟩, rfl⟩
end Go.Proofs.Ytfnhckildfbikaa
namespace Go.Proofs.Ytfnhckildfbikaa
set_option maxRecDepth 4000
set_option linter.unusedVariables false
set_option linter.unusedSimpArgs false
open Go.RowKit
attribute [local irreducible] crT crU pcV rgF rgS gtP zFD fV
theorem ar70 : arE Try.prog 70 = some (5, 1) := by kernel_rfl
theorem av45 : arV Try.prog 45 = some (32, 32) := by kernel_rfl
theorem aw43 : arW Try.prog 43 = some 32 := by kernel_rfl
theorem sl62 : slE Try.prog 62 = some (70, 5, 40) := by kernel_rfl
theorem tb70 : tyB Try.prog 70 = some (true, 5) := by kernel_rfl
theorem zr70 : zrC Try.prog 70 = some [.int .i64 0, .int .i64 0, .int .i64 0, .int .i64 0, .int .i64 0] := by kernel_rfl
theorem refE_off {w h tol : Int} {p u : P2} (hb : badT tol = false) (ho : (onP w h p && onP w h u) = false) : refE w h [tol] [p, u] = 4 := by
  unfold refE
  rw [if_neg (by simp [hb]), if_pos]
  simp only [List.any_cons, List.any_nil, Bool.or_false]
  revert ho
  cases onP w h p <;> cases onP w h u <;> simp
theorem refE_k2 {w h tol : Int} {p u : P2} (hb : badT tol = false) (ho : (onP w h p && onP w h u) = true) : refE w h [tol] [p, u] = 0 := by
  unfold refE
  rw [if_neg (by simp [hb]), if_neg]
  rw [Bool.and_eq_true] at ho
  simp [ho.1, ho.2]
theorem fV_two {f : FD} {p : P2} (hp : inF32 p) : ((((fV f).map D.val).drop (p.y.toNat * 32)).take 32)[p.x.toNat]? = some (.val (.int .i64 ((f.at p : Nat) : Int))) := by
  have hp2 := hp
  unfold inF32 at hp2
  have h := fV_at (f := f) hp
  rw [Nat.zero_add, Nat.mul_one] at h
  rw [List.getElem?_take, if_pos (by omega), List.getElem?_drop, List.getElem?_map, h]
  rfl
theorem fV_twol {f : FD} {p : P2} (hp : inF32 p) : p.y.toNat * 32 + 32 ≤ ((fV f).map D.val).length := by
  unfold inF32 at hp
  rw [List.length_map, fV_len]
  omega
def endB (w h : Int) (s : Sp) : Bool := onP w h ⟨s.f, s.y⟩ && onP w h ⟨s.t, s.y⟩
def noS (w h : Int) (l : List Sp) : Int := if l.all (endB w h) = true then 0 else 4
theorem noS_yes {w h : Int} {l : List Sp} {i : Nat} (hi : i < l.length) (he : endB w h l[i] = true) : noS w h (l.take (i + 1)) = noS w h (l.take i) := by
  unfold noS
  rw [List.take_succ_eq_append_getElem hi, List.all_append]
  simp [he]
theorem noS_no {w h : Int} {l : List Sp} {i : Nat} (hi : i < l.length) (he : endB w h l[i] = false) : noS w h (l.take (i + 1)) = 4 := by
  unfold noS
  rw [List.take_succ_eq_append_getElem hi, List.all_append]
  simp [he]
theorem end_one {w h : Int} {s : Sp} (hs : s.f ≤ s.t) : endB w h s = oneS w h s := by
  unfold endB oneS
  rw [Bool.eq_iff_iff, Bool.and_eq_true, List.all_eq_true]
  have hwd : (s.wd : Int) = s.t - s.f + 1 := by unfold Sp.wd; omega
  constructor
  · rintro ⟨h1, h2⟩ p hp
    obtain ⟨k, hk, rfl⟩ := List.mem_map.1 hp
    have hk := List.mem_range.1 hk
    unfold onP at *
    have g1 := onS_iff.1 h1
    have g2 := onS_iff.1 h2
    simp only at g1 g2
    exact onS_iff.2 ⟨by simp only; omega, by simp only; omega⟩
  · intro h1
    refine ⟨?_, ?_⟩
    · have := h1 ⟨s.f + ((0 : Nat) : Int), s.y⟩ (List.mem_map.2 ⟨0, List.mem_range.2 (by omega), rfl⟩)
      rwa [show s.f + ((0 : Nat) : Int) = s.f by omega] at this
    · have := h1 ⟨s.f + ((s.wd - 1 : Nat) : Int), s.y⟩ (List.mem_map.2 ⟨s.wd - 1, List.mem_range.2 (by omega), rfl⟩)
      rwa [show s.f + ((s.wd - 1 : Nat) : Int) = s.t by omega] at this
theorem all_flat {α β : Type} {f : α → List β} {q : β → Bool} : ∀ (l : List α), (l.flatMap f).all q = l.all fun a => (f a).all q
  | [] => rfl
  | a :: l => by rw [List.flatMap_cons, List.all_append, List.all_cons, all_flat l]
theorem all_cgr {α : Type} {q r : α → Bool} : ∀ (l : List α), (∀ a ∈ l, q a = r a) → l.all q = l.all r
  | [], _ => rfl
  | a :: l, h => by rw [List.all_cons, List.all_cons, h a (List.mem_cons_self ..), all_cgr l fun b hb => h b (List.mem_cons_of_mem _ hb)]
theorem noS_eq {w h : Int} {l : List Sp} (hc : chkS l) : noS w h l = errZ (onA w h l) := by
  unfold noS errZ onA
  have e : l.all (endB w h) = (ptsS l).all (onP w h) := by
    unfold ptsS
    rw [all_flat]
    exact all_cgr l fun s hs => end_one (hc.1 s hs).2
  rw [e]
theorem steps_b (w h : Int) (ds : List D) (ts : List TL) (hr : RowOk ds ts) (hc : CvOk w h ts) (hg : tsRng ts) (p u : P2) (tol : Int) (hb : badT tol = true) : DFun Try.prog 28 [cvD w h ds, .val (.agg #[.int .i64 p.x, .int .i64 p.y]), .val (.agg #[.int .i64 u.x, .int .i64 u.y]), .val (.int .i64 tol)] [] (.tup [.val (.int .i64 0), .val (.int .i64 2)]) [] := by
  have h1 := steps_n w h ds ts hr hc hg p u tol (by rw [refE_b1 hb]; decide)
  rw [refE_b1 hb] at h1
  exact h1
theorem steps_off (w h : Int) (ds : List D) (ts : List TL) (hr : RowOk ds ts) (hc : CvOk w h ts) (hg : tsRng ts) (p u : P2) (tol : Int) (hb : badT tol = false) (ho : (onP w h p && onP w h u) = false) : DFun Try.prog 28 [cvD w h ds, .val (.agg #[.int .i64 p.x, .int .i64 p.y]), .val (.agg #[.int .i64 u.x, .int .i64 u.y]), .val (.int .i64 tol)] [] (.tup [.val (.int .i64 0), .val (.int .i64 4)]) [] := by
  have h1 := steps_n w h ds ts hr hc hg p u tol (by rw [refE_off hb ho]; decide)
  rw [refE_off hb ho] at h1
  exact h1
set_option maxRecDepth 4000 in
set_option maxHeartbeats 1000000 in
theorem frims_d (w h : Int) (ts : List TL) (hg : tsRng ts) (z : List Sp) (l : List (Int × Int × Int × Int × Int)) : DFun Try.prog 5 [shD w h ts, .slf 3 z.length (z.flatMap s3), .slf 5 l.length (l.flatMap q5)] [] (.val (.bool true)) [] := by
  have hlz : (z.take 40).length ≤ 40 := by rw [List.length_take]; omega
  refine zan (N := 173) 0 (by kernel_rfl) Try.func5 rfl rfl rfl (by simp only [fr0, Nat.zero_add, Nat.reduceAdd]; exact rfl) rfl fun s0 hs0 => ?_
  refine dwp_len (t := 1) rfl fun hl1 hL1 => ?_
  refine dwp_len (t := 2) rfl fun hl2 hL2 => ?_
  refine zaf ?_
  refine zai 1 (by simp only [holes, List.cons_append, List.nil_append]; exact rfl) ?_
  refine zad ?_
  refine zaj rfl rfl rfl (op_boxam 0 rfl (ev1 rfl) rfl) (by simp only [upd, zaa, za]; exact rfl) ?_
  refine zab rfl rfl rfl (zac (.inr rfl) (ev1 rfl)) ?_
  refine zae ?_
  refine zaf ?_
  refine zaf ?_
  refine zad ?_
  refine zab rfl rfl rfl (zah [] [] [] rfl (ev1 rfl) en rfl rfl (wakes_d) rfl rfl rfl rfl rfl rfl) ?_
  refine zab rfl rfl rfl ((op_not rfl (ev1 rfl)).cast (d' := .val (.bool false)) (by kernel_rfl)) ?_
  refine zae ?_
  refine dwp_if_f rfl (rfl) ?_
  refine zak ?_
  refine zaf ?_
  by_cases hr : rightB w h (ts.take 17) = true
  · have hc := rightB_ok hr
    have hle := hc.le
    refine zai 1 (by simp only [holes, List.cons_append, List.nil_append]; exact rfl) ?_
    refine zad ?_
    refine zab rfl rfl rfl (op_ldmw rfl tb24 (ev1 rfl) rfl rfl) ?_
    refine zab rfl rfl rfl (zah [] [] [] rfl (ev1 rfl) (ec (ev1 rfl) en) rfl rfl (lof_y w h ts hc) rfl rfl rfl rfl rfl rfl) ?_
    refine zab rfl rfl rfl (zac (.inl rfl) (ev1 rfl)) ?_
    refine zab rfl rfl rfl (op_ext rfl (ev1 rfl) rfl) ?_
    refine zab rfl rfl rfl (op_ext rfl (ev1 rfl) rfl) ?_
    refine zab rfl rfl rfl (op_ext rfl (ev1 rfl) rfl) ?_
    refine zaj rfl rfl rfl (op_alloc 1 rfl zr24 rfl) (by simp only [upd, zaa, za]; exact rfl) ?_
    refine zab rfl rfl rfl (zac (.inr rfl) (ev1 rfl)) ?_
    refine walk_s rfl rfl (op_stam rfl tb24 (ev1 rfl) (ev1 rfl) rfl rfl rfl rfl) (by simp only [upd, zaa, za]; exact rfl) ?_
    refine zab rfl rfl rfl (zac (.inr rfl) (ev1 rfl)) ?_
    refine zae ?_
    refine zaf ?_
    refine zaf ?_
    refine zad ?_
    refine zab rfl rfl rfl (zac (.inl rfl) (ev1 rfl)) ?_
    refine zab rfl rfl rfl ((op_not rfl (ev1 rfl)).cast (d' := .val (.bool false)) (by kernel_rfl)) ?_
    refine zae ?_
    refine dwp_if_f rfl (rfl) ?_
    refine zak ?_
    refine zaf ?_
    refine zad ?_
    refine zab rfl rfl rfl (zac (.inl rfl) (ev1 rfl)) ?_
    refine zab rfl rfl rfl (zac (.inl rfl) (ev1 rfl)) ?_
    refine zab rfl rfl rfl (op_len rfl sl35 (ev1 rfl)) ?_
    refine zab rfl rfl rfl (op_min rfl (ev1 rfl) (ev1 rfl)) ?_
    refine zab rfl rfl rfl (op_sltk (j := min z.length 40) rfl sl35 (ev1 rfl) (bd_some (ev1 rfl)) (fun _ => by omega) (fun _ => by omega) (fun _ => rfl)) ?_
    refine zab rfl rfl rfl ((zah [] [] [] rfl (ev1 rfl) (ec (ev1 rfl) en) rfl rfl (cloneS_f _ (by rw [List.length_take]; omega)) rfl rfl rfl rfl rfl rfl).cast (d' := .slf 3 (z.take 40).length ((z.take 40).flatMap s3)) (by rw [tkmin])) ?_
    refine zab rfl rfl rfl (zac (.inr rfl) (ev1 rfl)) ?_
    refine zae ?_
    refine zaf ?_
    by_cases hk2 : chkS (z.take 40)
    · by_cases ho : onA w h (z.take 40) = true
      · refine zad ?_
        refine zab rfl rfl rfl (zac (.inl rfl) (ev1 rfl)) ?_
        refine zab rfl rfl rfl (zac (.inl rfl) (ev1 rfl)) ?_
        refine zab rfl rfl rfl (zah [] [] [] rfl (ev1 rfl) (ec (ev1 rfl) (ec (ev1 rfl) en)) rfl rfl (rim_d w h _ (ts.take 17) (dpR_ok _) hc (take_rng hg 17) (z.take 40) (by omega) hk2 ho) rfl rfl rfl rfl rfl rfl) ?_
        refine zab rfl rfl rfl (zac (.inl rfl) (ev1 rfl)) ?_
        refine zab rfl rfl rfl (op_ext rfl (ev1 rfl) rfl) ?_
        refine zab rfl rfl rfl (op_ext rfl (ev1 rfl) rfl) ?_
        refine zab rfl rfl rfl (zac (.inr rfl) (ev1 rfl)) ?_
        refine zab rfl rfl rfl (zac (.inr rfl) (ev1 rfl)) ?_
        refine zae ?_
        refine zaf ?_
        refine zad ?_
        refine zab rfl rfl rfl (zac (.inr rfl) (ev1 rfl)) ?_
        refine zae ?_
        refine zaf ?_
        refine zad ?_
        refine zab rfl rfl rfl (zac (.inr rfl) (ev1 rfl)) ?_
        refine zae ?_
        refine zaf ?_
        refine zaf ?_
        refine zad ?_
        refine zab rfl rfl rfl (zac (.inl rfl) (ev1 rfl)) ?_
        refine zab rfl rfl rfl ((zah [] [] [] rfl (ev1 rfl) (ec (ev1 rfl) en) rfl rfl (rright_d (z.take 40)) rfl rfl rfl rfl rfl rfl).cast (d' := .val (.bool true)) (by rw [decide_eq_true hk2])) ?_
        refine zae ?_
        refine dwp_if_t rfl (rfl) ?_
        refine zaf ?_
        refine zad ?_
        refine zab rfl rfl rfl (zac (.inr rfl) (ev1 rfl)) ?_
        refine zae ?_
        refine zaf ?_
        refine zad ?_
        refine zab rfl rfl rfl (zac (.inl rfl) (ev1 rfl)) ?_
        refine zab rfl rfl rfl (op_len rfl sl35 (ev1 rfl)) ?_
        refine zab rfl rfl rfl (zac (.inl rfl) (ev1 rfl)) ?_
        refine zae ?_
        refine zal ?_
        refine dwp_loopS ⟨hs0, rfl⟩ (α := Nat) (fun k => [(14, .val (.int .i64 (noS w h ((z.take 40).take k)))), (57, .val (.int .i64 (k : Int)))]) [(2, _), (7, _), (8, _), (10, _), (11, _), (12, _), (13, _), (55, _), (56, _)] (fun k => []) [_, _] (fun k => k ≤ (z.take 40).length) (fun k => (z.take 40).length - k) 0 [0, 1] (Nat.zero_le _) rfl ⟨rfl, rfl, rfl, rfl, rfl, rfl, rfl, rfl, rfl, trivial⟩ ⟨rfl, rfl, trivial⟩ ⟨rfl, rfl, trivial⟩ ?_
        intro k hx
        simp only [upd, zaa, za, List.cons_append, List.nil_append]
        have hk0 := hx
        refine zaf ?_
        refine zad ?_
        refine zab rfl rfl rfl (op_lss rfl (ev1 rfl) (ev1 rfl)) ?_
        refine zae ?_
        refine zaf ?_
        refine dwp_cond rfl (fun c4 => ?_) (fun c4 => ?_)
        · try simp only [decide_eq_true_eq, decide_eq_false_iff_not, beq_iff_eq, bne_iff_ne, beq_eq_false_iff_ne, bne_eq_false_iff_eq, Bool.not_eq_true', Bool.not_eq_false', Bool.and_eq_true, Bool.or_eq_true, Bool.or_eq_false_iff, ne_eq, Decidable.not_not, Int.not_lt, Int.not_le] at c4
          refine zak ?_
          refine zaf ?_
          refine zal ?_
          refine zaf ?_
          have hk : k < (z.take 40).length := by omega
          refine zai 1 (by simp only [holes, List.cons_append, List.nil_append]; exact rfl) ?_
          refine zad ?_
          refine zab rfl rfl rfl (op_ixsr (j := k) rfl sl35 (ev1 rfl) (ev1 rfl) (fun _ => rfl) (by decide) (by omega) (by omega)) ?_
          refine zab rfl rfl rfl (op_ldwd rfl tb53 (ev1 rfl) rfl) ?_
          refine zaj rfl rfl rfl (op_alloc 2 rfl zr53 rfl) (by simp only [upd, zaa, za]; exact rfl) ?_
          refine walk_s rfl rfl (op_stwa rfl tb53 (ev1 rfl) (ev1 rfl) rfl rfl rfl rfl) (by simp only [upd, zaa, za]; exact rfl) ?_
          refine zae ?_
          refine zaf ?_
          refine zad ?_
          refine zab rfl rfl rfl (op_ldmw rfl tb24 (ev1 rfl) rfl rfl) ?_
          refine zab rfl rfl rfl (op_fa rfl fo53_1 (ev1 rfl)) ?_
          refine zab rfl rfl rfl (zam rfl tb3 (ev1 rfl) rfl rfl) ?_
          refine zab rfl rfl rfl (op_fa rfl fo53_0 (ev1 rfl)) ?_
          refine zab rfl rfl rfl (zam rfl tb3 (ev1 rfl) rfl rfl) ?_
          refine zab rfl rfl rfl (op_build (ps := [(0, .tmp 63), (1, .tmp 65)]) rfl fl34 zr34 (vc (ev1 rfl) (vc (ev1 rfl) vn)) rfl rfl) ?_
          refine zab rfl rfl rfl (zah [] [] [] rfl (ev1 rfl) (ec (ev1 rfl) (ec (ev1 rfl) en)) rfl rfl (ron_d w h (ts.take 17) hc ⟨(z.take 40)[k].f, (z.take 40)[k].y⟩) rfl rfl rfl rfl rfl rfl) ?_
          refine zab rfl rfl rfl (op_not rfl (ev1 rfl)) ?_
          refine zab rfl rfl rfl (zac (.inl rfl) (ev1 rfl)) ?_
          refine walk_gr (gd_f rfl rfl rfl) rfl rfl rfl (op_ldmw rfl tb24 (ev1 rfl) rfl rfl) ?_
          refine walk_gr (gd_f rfl rfl rfl) rfl rfl rfl (op_fa rfl fo53_2 (ev1 rfl)) ?_
          refine walk_gr (gd_f rfl rfl rfl) rfl rfl rfl (zam rfl tb3 (ev2 rfl) rfl rfl) ?_
          refine walk_gr (gd_f rfl rfl rfl) rfl rfl rfl (op_fa rfl fo53_0 (ev1 rfl)) ?_
          refine walk_gr (gd_f rfl rfl rfl) rfl rfl rfl (zam rfl tb3 (ev2 rfl) rfl rfl) ?_
          refine walk_gr (gd_f rfl rfl rfl) rfl rfl rfl (op_build (ps := [(0, .tmp 72), (1, .tmp 74)]) rfl fl34 zr34 (vc (ev2 rfl) (vc (ev2 rfl) vn)) rfl rfl) ?_
          refine walk_gr (gd_f rfl rfl rfl) rfl rfl rfl (zah [] [] [] rfl (ev1 rfl) (ec (ev2 rfl) (ec (ev2 rfl) en)) rfl rfl (ron_d w h (ts.take 17) hc ⟨(z.take 40)[k].t, (z.take 40)[k].y⟩) rfl rfl rfl rfl rfl rfl) ?_
          refine walk_gr (gd_f rfl rfl rfl) rfl rfl rfl (op_not rfl (ev2 rfl)) ?_
          refine zab rfl rfl rfl (op_or rfl (ev1 rfl) (ev3 rfl id)) ?_
          refine zae ?_
          refine dwp_cond rfl (fun c2 => ?_) (fun c2 => ?_)
          · have c3 : endB w h (z.take 40)[k] = false := by
              unfold endB
              revert c2
              cases onP w h ⟨(z.take 40)[k].f, (z.take 40)[k].y⟩ <;> cases onP w h ⟨(z.take 40)[k].t, (z.take 40)[k].y⟩ <;> simp
            refine zad ?_
            refine zab rfl rfl rfl (zac (.inr rfl) (ev1 rfl)) ?_
            refine zae ?_
            refine zad ?_
            refine zab rfl rfl rfl (op_add' rfl (ev1 rfl) (ev1 rfl) (fun _ => IntWalk.i64_in _ (by omega))) ?_
            refine zab rfl rfl rfl (zac (.inl rfl) (ev1 rfl)) ?_
            refine zae ?_
            refine ⟨k + 1, [0, 1], by omega, by simp only []; omega, rfl, ⟨by rw [noS_no hk (by simpa using c3)]; rfl, rfl, rfl, rfl, rfl, rfl, rfl, rfl, rfl, rfl, rfl, trivial⟩, ⟨rfl, rfl, trivial⟩⟩
          · have c3 : endB w h (z.take 40)[k] = true := by
              unfold endB
              revert c2
              cases onP w h ⟨(z.take 40)[k].f, (z.take 40)[k].y⟩ <;> cases onP w h ⟨(z.take 40)[k].t, (z.take 40)[k].y⟩ <;> simp
            refine zak ?_
            refine zad ?_
            refine zab rfl rfl rfl (op_add' rfl (ev1 rfl) (ev1 rfl) (fun _ => IntWalk.i64_in _ (by omega))) ?_
            refine zab rfl rfl rfl (zac (.inl rfl) (ev1 rfl)) ?_
            refine zae ?_
            refine ⟨k + 1, [0, 1], by omega, by simp only []; omega, rfl, ⟨by rw [noS_yes hk (by simpa using c3)]; rfl, rfl, rfl, rfl, rfl, rfl, rfl, rfl, rfl, rfl, rfl, trivial⟩, ⟨rfl, rfl, trivial⟩⟩
        · try simp only [decide_eq_true_eq, decide_eq_false_iff_not, beq_iff_eq, bne_iff_ne, beq_eq_false_iff_ne, bne_eq_false_iff_eq, Bool.not_eq_true', Bool.not_eq_false', Bool.and_eq_true, Bool.or_eq_true, Bool.or_eq_false_iff, ne_eq, Decidable.not_not, Int.not_lt, Int.not_le] at c4
          refine dwp_exit ?_
          refine zaf ?_
          refine zaf ?_
          refine dwp_wk 14 rfl (Wk.of_eq (d' := .val (.int .i64 0)) (by rw [take_all (by omega), noS_eq hk2, ho]; rfl)) ?_
          refine zad ?_
          refine zab rfl rfl rfl (zac (.inl rfl) (ev1 rfl)) ?_
          refine zab rfl rfl rfl ((op_eql rfl (ev1 rfl) (ev1 rfl)).cast (d' := .val (.bool true)) (by kernel_rfl)) ?_
          refine zae ?_
          refine dwp_if_t rfl (rfl) ?_
          refine zad ?_
          refine zab rfl rfl rfl (op_ldmw rfl tb24 (ev1 rfl) rfl rfl) ?_
          refine zab rfl rfl rfl (zac (.inl rfl) (ev1 rfl)) ?_
          refine zab rfl rfl rfl (zah [] [] [] rfl (ev1 rfl) (ec (ev1 rfl) (ec (ev1 rfl) en)) rfl rfl (rrim_d w h (ts.take 17) hc (z.take 40) hk2 (by omega) ho) rfl rfl rfl rfl rfl rfl) ?_
          refine zab rfl rfl rfl (zac (.inr rfl) (ev1 rfl)) ?_
          refine zae ?_
          refine zaf ?_
          refine zaf ?_
          refine zad ?_
          refine zab rfl rfl rfl (zac (.inl rfl) (ev1 rfl)) ?_
          refine zab rfl rfl rfl (zac (.inl rfl) (ev1 rfl)) ?_
          refine zab rfl rfl rfl ((op_neq rfl (ev1 rfl) (ev1 rfl)).cast (d' := .val (.bool false)) (by kernel_rfl)) ?_
          refine zab rfl rfl rfl (zac (.inl rfl) (ev1 rfl)) ?_
          refine walk_k (gd_f (b := false) rfl rfl rfl) rfl rfl rfl (zac (.inl rfl) (ev1 rfl)) (by simp only [upd, zaa, za]; exact rfl) ?_
          refine walk_k (gd_f (b := false) rfl rfl rfl) rfl rfl rfl (zac (.inl rfl) (ev1 rfl)) (by simp only [upd, zaa, za]; exact rfl) ?_
          refine walk_k (gd_f (b := false) rfl rfl rfl) rfl rfl rfl ((zah [] [] [] rfl (ev1 rfl) (ec (ev2 rfl) (ec (ev2 rfl) en)) rfl rfl (equalPt _ ((ptsS (z.take 40)).filter (rimQ w h (z.take 40)))) rfl rfl rfl rfl rfl rfl).cast (d' := .val (.bool true)) (by rw [rim_pts hc.may hk2 ho]; simp)) (by simp only [upd, zaa, za]; exact rfl) ?_
          refine walk_k (gd_f (b := false) rfl rfl rfl) rfl rfl rfl ((op_not rfl (ev2 rfl)).cast (d' := .val (.bool false)) (by kernel_rfl)) (by simp only [upd, zaa, za]; exact rfl) ?_
          refine zab rfl rfl rfl ((op_or rfl (ev1 rfl) (ev3 rfl (fun _ => rfl))).cast (d' := .val (.bool false)) (by rfl)) ?_
          refine zae ?_
          refine dwp_if_f rfl (rfl) ?_
          refine zak ?_
          refine zaf ?_
          refine zaf ?_
          refine zad ?_
          refine zab rfl rfl rfl (zac (.inl rfl) (ev1 rfl)) ?_
          refine zab rfl rfl rfl (op_len rfl sl62 (ev1 rfl)) ?_
          refine zab rfl rfl rfl (zac (.inl rfl) (ev1 rfl)) ?_
          refine zae ?_
          refine zal ?_
          refine dwp_loopS ⟨hs0, rfl⟩ (α := Nat) (fun i => [(96, .val (.int .i64 (i : Int)))]) [(7, _), (8, _), (94, _), (95, _)] (fun i => []) [_, _] (fun i => i ≤ l.length) (fun i => l.length - i) 0 [0, 1] (Nat.zero_le _) rfl ⟨rfl, rfl, rfl, rfl, trivial⟩ ⟨rfl, trivial⟩ ⟨rfl, rfl, trivial⟩ ?_
          intro i hx
          simp only [upd, zaa, za, List.cons_append, List.nil_append]
          have hi0 := hx
          refine zaf ?_
          refine zad ?_
          refine zab rfl rfl rfl (op_lss rfl (ev1 rfl) (ev1 rfl)) ?_
          refine zae ?_
          refine zaf ?_
          refine dwp_cond rfl (fun c8 => ?_) (fun c8 => ?_)
          · try simp only [decide_eq_true_eq, decide_eq_false_iff_not, beq_iff_eq, bne_iff_ne, beq_eq_false_iff_ne, bne_eq_false_iff_eq, Bool.not_eq_true', Bool.not_eq_false', Bool.and_eq_true, Bool.or_eq_true, Bool.or_eq_false_iff, ne_eq, Decidable.not_not, Int.not_lt, Int.not_le] at c8
            refine zak ?_
            refine zaf ?_
            refine zal ?_
            refine zaf ?_
            have hi : i < l.length := by omega
            refine zai 1 (by simp only [holes, List.cons_append, List.nil_append]; exact rfl) ?_
            refine zad ?_
            refine zab rfl rfl rfl (zac (.inl rfl) (ev1 rfl)) ?_
            refine zab rfl rfl rfl (op_ixsr (j := i) rfl sl62 (ev1 rfl) (ev1 rfl) (fun _ => rfl) (by decide) (by omega) (by omega)) ?_
            refine zab rfl rfl rfl (op_ldwd rfl tb70 (ev1 rfl) rfl) ?_
            refine zaj rfl rfl rfl (op_alloc 2 rfl zr70 rfl) (by simp only [upd, zaa, za]; exact rfl) ?_
            refine zab rfl rfl rfl (zac (.inr rfl) (ev1 rfl)) ?_
            refine walk_s rfl rfl (op_stwa rfl tb70 (ev1 rfl) (ev1 rfl) rfl rfl rfl rfl) (by simp only [upd, zaa, za]; exact rfl) ?_
            refine zae ?_
            refine zaf ?_
            refine zaf ?_
            refine zad ?_
            refine zab rfl rfl rfl (zac (.inl rfl) (ev1 rfl)) ?_
            refine zab rfl rfl rfl (op_eql rfl (ev1 rfl) (ev1 rfl)) ?_
            refine zae ?_
            refine dwp_cond rfl (fun c9 => ?_) (fun c9 => ?_)
            · try simp only [decide_eq_true_eq, decide_eq_false_iff_not, beq_iff_eq, bne_iff_ne, beq_eq_false_iff_ne, bne_eq_false_iff_eq, Bool.not_eq_true', Bool.not_eq_false', Bool.and_eq_true, Bool.or_eq_true, Bool.or_eq_false_iff, ne_eq, Decidable.not_not, Int.not_lt, Int.not_le] at c9
              refine dwp_exit ?_
              refine zaf ?_
              refine zad ?_
              refine zab rfl rfl rfl (zah [] [] [] rfl (ev1 rfl) (ec (ev1 rfl) (ec (evnil 3 (ev1 rfl)) en)) rfl rfl (rim_0 []) rfl rfl rfl rfl rfl rfl) ?_
              refine zab rfl rfl rfl (zac (.inl rfl) (ev1 rfl)) ?_
              refine zab rfl rfl rfl (op_ext rfl (ev1 rfl) rfl) ?_
              refine zab rfl rfl rfl (op_ext rfl (ev1 rfl) rfl) ?_
              refine zab rfl rfl rfl (zac (.inr rfl) (ev1 rfl)) ?_
              refine zab rfl rfl rfl (zac (.inr rfl) (ev1 rfl)) ?_
              refine zae ?_
              refine zaf ?_
              refine zad ?_
              refine zab rfl rfl rfl (op_build0 rfl fl34 zr34) ?_
              refine zab rfl rfl rfl (op_build0 rfl fl34 zr34) ?_
              refine zab rfl rfl rfl (zah [] [] [] rfl (ev1 rfl) (ec (ev1 rfl) (ec (ev1 rfl) (ec (ev1 rfl) (ec (ev1 rfl) en)))) rfl rfl (steps_0 ⟨0, 0⟩ ⟨0, 0⟩ 0) rfl rfl rfl rfl rfl rfl) ?_
              refine zab rfl rfl rfl (zac (.inl rfl) (ev1 rfl)) ?_
              refine zab rfl rfl rfl (op_ext rfl (ev1 rfl) rfl) ?_
              refine zab rfl rfl rfl (op_ext rfl (ev1 rfl) rfl) ?_
              refine zab rfl rfl rfl (zac (.inr rfl) (ev1 rfl)) ?_
              refine zab rfl rfl rfl (zac (.inr rfl) (ev1 rfl)) ?_
              refine zae ?_
              refine zaf ?_
              refine zad ?_
              refine zab rfl rfl rfl (zac (.inl rfl) (ev1 rfl)) ?_
              refine zab rfl rfl rfl ((op_eql rfl (ev1 rfl) (ev1 rfl)).cast (d' := .val (.bool true)) (by kernel_rfl)) ?_
              refine zab rfl rfl rfl (zac (.inl rfl) (ev1 rfl)) ?_
              refine walk_k (gd_t (b := true) rfl rfl rfl) rfl rfl rfl (zac (.inl rfl) (ev1 rfl)) (by simp only [upd, zaa, za]; exact rfl) ?_
              refine walk_k (gd_t (b := true) rfl rfl rfl) rfl rfl rfl ((op_eql rfl (ev2 rfl) (ev1 rfl)).cast (d' := .val (.bool true)) (by kernel_rfl)) (by simp only [upd, zaa, za]; exact rfl) ?_
              refine zab rfl rfl rfl ((op_and rfl (ev1 rfl) (ev3 rfl (fun _ => rfl))).cast (d' := .val (.bool true)) (by rfl)) ?_
              refine zab rfl rfl rfl (zac (.inr rfl) (ev1 rfl)) ?_
              refine zae ?_
              refine zao ?_
              refine kend0 (rs1 rfl (rv_t rfl)) rfl ?_
              rfl
            · try simp only [decide_eq_true_eq, decide_eq_false_iff_not, beq_iff_eq, bne_iff_ne, beq_eq_false_iff_ne, bne_eq_false_iff_eq, Bool.not_eq_true', Bool.not_eq_false', Bool.and_eq_true, Bool.or_eq_true, Bool.or_eq_false_iff, ne_eq, Decidable.not_not, Int.not_lt, Int.not_le] at c9
              refine zak ?_
              refine zaf ?_
              by_cases hbad : badT l[i].2.2.2.2 = true
              · refine zai 2 (by simp only [holes, List.cons_append, List.nil_append]; exact rfl) ?_
                refine dwp_draw [([], []), ([2], []), ([], []), ([2], []), ([], []), ([], []), ([2], []), ([], []), ([2], []), ([], []), ([], []), ([2], []), ([3], [3]), ([4], [4]), ([3], [3]), ([4], [4]), ([], [])] mixed (by kernel_rfl) ?_
                refine zag rfl rfl (op_ixl rfl ar70 (ev1 rfl) (ev1 rfl) (fun _ => by omega)) ?_
                refine zag rfl rfl (zam rfl tb3 (ev1 rfl) rfl rfl) ?_
                refine zag rfl rfl (op_ixl rfl ar70 (ev1 rfl) (ev1 rfl) (fun _ => by omega)) ?_
                refine zag rfl rfl (zam rfl tb3 (ev1 rfl) rfl rfl) ?_
                refine zag rfl rfl (op_build (ps := [(0, .tmp 104), (1, .tmp 106)]) rfl fl34 zr34 (vc (ev1 rfl) (vc (ev1 rfl) vn)) rfl rfl) ?_
                refine zag rfl rfl (op_ixl rfl ar70 (ev1 rfl) (ev1 rfl) (fun _ => by omega)) ?_
                refine zag rfl rfl (zam rfl tb3 (ev1 rfl) rfl rfl) ?_
                refine zag rfl rfl (op_ixl rfl ar70 (ev1 rfl) (ev1 rfl) (fun _ => by omega)) ?_
                refine zag rfl rfl (zam rfl tb3 (ev1 rfl) rfl rfl) ?_
                refine zag rfl rfl (op_build (ps := [(0, .tmp 109), (1, .tmp 111)]) rfl fl34 zr34 (vc (ev1 rfl) (vc (ev1 rfl) vn)) rfl rfl) ?_
                refine zag rfl rfl (op_ixl rfl ar70 (ev1 rfl) (ev1 rfl) (fun _ => by omega)) ?_
                refine zag rfl rfl (zam rfl tb3 (ev1 rfl) rfl rfl) ?_
                refine lex_w rfl rfl (op_alloc 3 rfl zr34 rfl) rfl (by simp only [upd, zaa, za]; exact rfl) ?_
                refine lex_w rfl rfl (op_alloc 4 rfl zr34 rfl) rfl (by simp only [upd, zaa, za]; exact rfl) ?_
                refine lex_s rfl rfl (op_stwa rfl tb34 (ev1 rfl) (ev1 rfl) rfl rfl rfl rfl) rfl (by simp only [upd, zaa, za]; exact rfl) ?_
                refine lex_s rfl rfl (op_stwa rfl tb34 (ev1 rfl) (ev1 rfl) rfl rfl rfl rfl) rfl (by simp only [upd, zaa, za]; exact rfl) ?_
                refine zag rfl rfl (zac (.inr rfl) (ev1 rfl)) ?_
                refine lex_nil ?_
                refine zaf ?_
                refine zad ?_
                refine zab rfl rfl rfl (zac (.inl rfl) (ev1 rfl)) ?_
                refine zab rfl rfl rfl (op_ldw rfl tb34 (ev1 rfl) rfl rfl) ?_
                refine zab rfl rfl rfl (op_ldw rfl tb34 (ev1 rfl) rfl rfl) ?_
                refine zab rfl rfl rfl (zac (.inl rfl) (ev1 rfl)) ?_
                refine zab rfl rfl rfl (zah [] [] [] rfl (ev1 rfl) (ec (ev1 rfl) (ec (ev1 rfl) (ec (ev1 rfl) (ec (ev1 rfl) en)))) rfl rfl (steps_b w h _ (ts.take 17) (dpR_ok _) hc (take_rng hg 17) (⟨l[i].1, l[i].2.1⟩ : P2) (⟨l[i].2.2.1, l[i].2.2.2.1⟩ : P2) l[i].2.2.2.2 hbad) rfl rfl rfl rfl rfl rfl) ?_
                refine zab rfl rfl rfl (zac (.inl rfl) (ev1 rfl)) ?_
                refine zab rfl rfl rfl (op_ext rfl (ev1 rfl) rfl) ?_
                refine zab rfl rfl rfl (op_ext rfl (ev1 rfl) rfl) ?_
                refine zab rfl rfl rfl (zac (.inr rfl) (ev1 rfl)) ?_
                refine zab rfl rfl rfl (zac (.inr rfl) (ev1 rfl)) ?_
                refine zae ?_
                refine zaf ?_
                refine zad ?_
                refine zab rfl rfl rfl (zac (.inr rfl) (ev1 rfl)) ?_
                refine zab rfl rfl rfl (zac (.inr rfl) (ev1 rfl)) ?_
                refine zae ?_
                refine zaf ?_
                refine zaf ?_
                refine zad ?_
                refine zab rfl rfl rfl (zac (.inl rfl) (ev1 rfl)) ?_
                refine zab rfl rfl rfl ((zah [] [] [] rfl (ev1 rfl) (ec (ev1 rfl) en) rfl rfl (rtol_d l[i].2.2.2.2) rfl rfl rfl rfl rfl rfl).cast (d' := .val (.bool false)) (by rw [hbad]; rfl)) ?_
                refine zae ?_
                refine dwp_if_f rfl (rfl) ?_
                refine zak ?_
                refine zaf ?_
                refine zad ?_
                refine zab rfl rfl rfl (zac (.inl rfl) (ev1 rfl)) ?_
                refine zab rfl rfl rfl (zac (.inl rfl) (ev1 rfl)) ?_
                refine zab rfl rfl rfl ((op_neq rfl (ev1 rfl) (ev1 rfl)).cast (d' := .val (.bool false)) (by kernel_rfl)) ?_
                refine zab rfl rfl rfl (zac (.inl rfl) (ev1 rfl)) ?_
                refine walk_k (gd_f (b := false) rfl rfl rfl) rfl rfl rfl (zac (.inl rfl) (ev1 rfl)) (by simp only [upd, zaa, za]; exact rfl) ?_
                refine walk_k (gd_f (b := false) rfl rfl rfl) rfl rfl rfl (zac (.inl rfl) (ev1 rfl)) (by simp only [upd, zaa, za]; exact rfl) ?_
                refine walk_k (gd_f (b := false) rfl rfl rfl) rfl rfl rfl ((op_neq rfl (ev2 rfl) (ev2 rfl)).cast (d' := .val (.bool false)) (by kernel_rfl)) (by simp only [upd, zaa, za]; exact rfl) ?_
                refine zab rfl rfl rfl ((op_or rfl (ev1 rfl) (ev3 rfl (fun _ => rfl))).cast (d' := .val (.bool false)) (by rfl)) ?_
                refine zae ?_
                refine dwp_if_f rfl (rfl) ?_
                refine zak ?_
                refine zad ?_
                refine zab rfl rfl rfl (op_add' rfl (ev1 rfl) (ev1 rfl) (fun _ => IntWalk.i64_in _ (by omega))) ?_
                refine zab rfl rfl rfl (zac (.inl rfl) (ev1 rfl)) ?_
                refine zae ?_
                refine ⟨i + 1, [0, 1], by omega, by simp only []; omega, rfl, ⟨rfl, rfl, rfl, rfl, rfl, trivial⟩, ⟨rfl, rfl, trivial⟩⟩
              · refine zai 2 (by simp only [holes, List.cons_append, List.nil_append]; exact rfl) ?_
                refine dwp_draw [([], []), ([2], []), ([], []), ([2], []), ([], []), ([], []), ([2], []), ([], []), ([2], []), ([], []), ([], []), ([2], []), ([3], [3]), ([4], [4]), ([3], [3]), ([4], [4]), ([], [])] mixed (by kernel_rfl) ?_
                refine zag rfl rfl (op_ixl rfl ar70 (ev1 rfl) (ev1 rfl) (fun _ => by omega)) ?_
                refine zag rfl rfl (zam rfl tb3 (ev1 rfl) rfl rfl) ?_
                refine zag rfl rfl (op_ixl rfl ar70 (ev1 rfl) (ev1 rfl) (fun _ => by omega)) ?_
                refine zag rfl rfl (zam rfl tb3 (ev1 rfl) rfl rfl) ?_
                refine zag rfl rfl (op_build (ps := [(0, .tmp 104), (1, .tmp 106)]) rfl fl34 zr34 (vc (ev1 rfl) (vc (ev1 rfl) vn)) rfl rfl) ?_
                refine zag rfl rfl (op_ixl rfl ar70 (ev1 rfl) (ev1 rfl) (fun _ => by omega)) ?_
                refine zag rfl rfl (zam rfl tb3 (ev1 rfl) rfl rfl) ?_
                refine zag rfl rfl (op_ixl rfl ar70 (ev1 rfl) (ev1 rfl) (fun _ => by omega)) ?_
                refine zag rfl rfl (zam rfl tb3 (ev1 rfl) rfl rfl) ?_
                refine zag rfl rfl (op_build (ps := [(0, .tmp 109), (1, .tmp 111)]) rfl fl34 zr34 (vc (ev1 rfl) (vc (ev1 rfl) vn)) rfl rfl) ?_
                refine zag rfl rfl (op_ixl rfl ar70 (ev1 rfl) (ev1 rfl) (fun _ => by omega)) ?_
                refine zag rfl rfl (zam rfl tb3 (ev1 rfl) rfl rfl) ?_
                refine lex_w rfl rfl (op_alloc 3 rfl zr34 rfl) rfl (by simp only [upd, zaa, za]; exact rfl) ?_
                refine lex_w rfl rfl (op_alloc 4 rfl zr34 rfl) rfl (by simp only [upd, zaa, za]; exact rfl) ?_
                refine lex_s rfl rfl (op_stwa rfl tb34 (ev1 rfl) (ev1 rfl) rfl rfl rfl rfl) rfl (by simp only [upd, zaa, za]; exact rfl) ?_
                refine lex_s rfl rfl (op_stwa rfl tb34 (ev1 rfl) (ev1 rfl) rfl rfl rfl rfl) rfl (by simp only [upd, zaa, za]; exact rfl) ?_
                refine zag rfl rfl (zac (.inr rfl) (ev1 rfl)) ?_
                refine lex_nil ?_
                refine zaf ?_
                by_cases hon : (onP w h (⟨l[i].1, l[i].2.1⟩ : P2) && onP w h (⟨l[i].2.2.1, l[i].2.2.2.1⟩ : P2)) = true
                · by_cases hh : (rgF w h (ts.take 17) l[i].2.2.2.2 (⟨l[i].1, l[i].2.1⟩ : P2)).has (⟨l[i].2.2.1, l[i].2.2.2.1⟩ : P2) = true
                  · have hbad : badT l[i].2.2.2.2 = false := by simpa using hbad
                    have hon2 := Bool.and_eq_true_iff.1 hon
                    have hu := onP_in hc.may _ hon2.2
                    have hu2 : (0 ≤ l[i].2.2.1 ∧ l[i].2.2.1 < 32) ∧ 0 ≤ l[i].2.2.2.1 ∧ l[i].2.2.2.1 < 32 := hu
                    have hat := rgF_le (ts := (ts.take 17)) (tol := l[i].2.2.2.2) hc.may hon2.1 hu
                    refine zad ?_
                    refine zab rfl rfl rfl (zac (.inl rfl) (ev1 rfl)) ?_
                    refine zab rfl rfl rfl (op_ldw rfl tb34 (ev1 rfl) rfl rfl) ?_
                    refine zab rfl rfl rfl (op_ldw rfl tb34 (ev1 rfl) rfl rfl) ?_
                    refine zab rfl rfl rfl (zac (.inl rfl) (ev1 rfl)) ?_
                    refine zab rfl rfl rfl (zah [] [] [] rfl (ev1 rfl) (ec (ev1 rfl) (ec (ev1 rfl) (ec (ev1 rfl) (ec (ev1 rfl) en)))) rfl rfl (steps_d w h _ (ts.take 17) (dpR_ok _) hc (take_rng hg 17) (⟨l[i].1, l[i].2.1⟩ : P2) (⟨l[i].2.2.1, l[i].2.2.2.1⟩ : P2) l[i].2.2.2.2 (refE_k2 hbad hon) hh) rfl rfl rfl rfl rfl rfl) ?_
                    refine zab rfl rfl rfl (zac (.inl rfl) (ev1 rfl)) ?_
                    refine zab rfl rfl rfl (op_ext rfl (ev1 rfl) rfl) ?_
                    refine zab rfl rfl rfl (op_ext rfl (ev1 rfl) rfl) ?_
                    refine zab rfl rfl rfl (zac (.inr rfl) (ev1 rfl)) ?_
                    refine zab rfl rfl rfl (zac (.inr rfl) (ev1 rfl)) ?_
                    refine zae ?_
                    refine zaf ?_
                    refine zad ?_
                    refine zab rfl rfl rfl (zac (.inr rfl) (ev1 rfl)) ?_
                    refine zab rfl rfl rfl (zac (.inr rfl) (ev1 rfl)) ?_
                    refine zae ?_
                    refine zaf ?_
                    refine zaf ?_
                    refine zad ?_
                    refine zab rfl rfl rfl (zac (.inl rfl) (ev1 rfl)) ?_
                    refine zab rfl rfl rfl ((zah [] [] [] rfl (ev1 rfl) (ec (ev1 rfl) en) rfl rfl (rtol_d l[i].2.2.2.2) rfl rfl rfl rfl rfl rfl).cast (d' := .val (.bool true)) (by rw [hbad]; rfl)) ?_
                    refine zae ?_
                    refine dwp_if_t rfl (rfl) ?_
                    refine zaf ?_
                    refine zad ?_
                    refine zab rfl rfl rfl (zac (.inr rfl) (ev1 rfl)) ?_
                    refine zae ?_
                    refine zaf ?_
                    refine zad ?_
                    refine zab rfl rfl rfl (op_ldmw rfl tb24 (ev1 rfl) rfl rfl) ?_
                    refine zab rfl rfl rfl (op_ldw rfl tb34 (ev1 rfl) rfl rfl) ?_
                    refine zab rfl rfl rfl ((zah [] [] [] rfl (ev1 rfl) (ec (ev1 rfl) (ec (ev1 rfl) en)) rfl rfl (ron_d w h (ts.take 17) hc (⟨l[i].1, l[i].2.1⟩ : P2)) rfl rfl rfl rfl rfl rfl).cast (d' := .val (.bool true)) (by rw [hon2.1])) ?_
                    refine zab rfl rfl rfl (zac (.inl rfl) (ev1 rfl)) ?_
                    refine walk_k (gd_t (b := true) rfl rfl rfl) rfl rfl rfl (op_ldmw rfl tb24 (ev1 rfl) rfl rfl) (by simp only [upd, zaa, za]; exact rfl) ?_
                    refine walk_k (gd_t (b := true) rfl rfl rfl) rfl rfl rfl (op_ldw rfl tb34 (ev1 rfl) rfl rfl) (by simp only [upd, zaa, za]; exact rfl) ?_
                    refine walk_k (gd_t (b := true) rfl rfl rfl) rfl rfl rfl ((zah [] [] [] rfl (ev1 rfl) (ec (ev2 rfl) (ec (ev2 rfl) en)) rfl rfl (ron_d w h (ts.take 17) hc (⟨l[i].2.2.1, l[i].2.2.2.1⟩ : P2)) rfl rfl rfl rfl rfl rfl).cast (d' := .val (.bool true)) (by rw [hon2.2])) (by simp only [upd, zaa, za]; exact rfl) ?_
                    refine zab rfl rfl rfl ((op_and rfl (ev1 rfl) (ev3 rfl (fun _ => rfl))).cast (d' := .val (.bool true)) (by rfl)) ?_
                    refine zae ?_
                    refine dwp_if_t rfl (rfl) ?_
                    refine zaf ?_
                    refine dwp_draw [([1], []), ([3], []), ([], []), ([], []), ([], []), ([], []), ([4], []), ([], []), ([], []), ([4], []), ([], []), ([], [])] mixed (by kernel_rfl) ?_
                    refine zag rfl rfl (op_ldmw rfl tb24 (ev1 rfl) rfl rfl) ?_
                    refine zag rfl rfl (op_ldw rfl tb34 (ev1 rfl) rfl rfl) ?_
                    refine zag rfl rfl (zac (.inl rfl) (ev1 rfl)) ?_
                    refine zag rfl rfl ((op_build0a rfl ar45 zr45).cast (d' := .val (.agg (fV zFD).toArray)) (by rw [← fV_zero])) ?_
                    refine zag rfl rfl ((zah [] [] [] rfl (ev1 rfl) (ec (ev1 rfl) (ec (ev1 rfl) (ec (ev1 rfl) (ec (ev1 rfl) en)))) rfl rfl (rgrown_d w h (ts.take 17) hc (take_rng hg 17) (⟨l[i].1, l[i].2.1⟩ : P2) hon2.1 l[i].2.2.2.2 zFD) rfl rfl rfl rfl rfl rfl).cast (d' := .val (.agg (fV (rgF w h (ts.take 17) l[i].2.2.2.2 (⟨l[i].1, l[i].2.1⟩ : P2))).toArray)) (by rw [grF_zero])) ?_
                    refine zag rfl rfl (op_fa rfl fo34_1 (ev1 rfl)) ?_
                    refine zag rfl rfl (zam rfl tb3 (ev1 rfl) rfl rfl) ?_
                    refine zag rfl rfl (op_ixwr (l[i].2.2.2.1.toNat) rfl av45 (ev_ofagg (ev1 rfl)) (ev1 rfl) (fun _ => by omega) (fun _ => by omega) (fV_twol (p := (⟨l[i].2.2.1, l[i].2.2.2.1⟩ : P2)) hu)) ?_
                    refine zag rfl rfl (op_fa rfl fo34_0 (ev1 rfl)) ?_
                    refine zag rfl rfl (zam rfl tb3 (ev1 rfl) rfl rfl) ?_
                    refine zag rfl rfl (op_ixw (l[i].2.2.1.toNat) rfl aw43 (ev1 rfl) (ev1 rfl) (fun _ => by omega) (by omega) (fV_two (p := (⟨l[i].2.2.1, l[i].2.2.2.1⟩ : P2)) hu)) ?_
                    refine zag rfl rfl (zac (.inr rfl) (ev1 rfl)) ?_
                    refine lex_nil ?_
                    refine zaf ?_
                    refine zad ?_
                    refine zab rfl rfl rfl (zac (.inl rfl) (ev1 rfl)) ?_
                    refine zab rfl rfl rfl ((op_gtr rfl (ev1 rfl) (ev1 rfl)).cast (d' := .val (.bool true)) (by rw [← hh, ← has_int])) ?_
                    refine zae ?_
                    refine dwp_if_t rfl (rfl) ?_
                    refine zad ?_
                    refine zab rfl rfl rfl (zac (.inl rfl) (ev1 rfl)) ?_
                    refine zab rfl rfl rfl (op_sub' rfl (ev1 rfl) (ev1 rfl) (fun _ => IntWalk.i64_in _ (by omega))) ?_
                    refine zab rfl rfl rfl (zac (.inr rfl) (ev1 rfl)) ?_
                    refine zab rfl rfl rfl (zac (.inr rfl) (ev1 rfl)) ?_
                    refine zae ?_
                    refine zaf ?_
                    refine zad ?_
                    refine zab rfl rfl rfl (zac (.inl rfl) (ev1 rfl)) ?_
                    refine zab rfl rfl rfl (zac (.inl rfl) (ev1 rfl)) ?_
                    refine zab rfl rfl rfl ((op_neq rfl (ev1 rfl) (ev1 rfl)).cast (d' := .val (.bool false)) (by simp)) ?_
                    refine zab rfl rfl rfl (zac (.inl rfl) (ev1 rfl)) ?_
                    refine walk_k (gd_f (b := false) rfl rfl rfl) rfl rfl rfl (zac (.inl rfl) (ev1 rfl)) (by simp only [upd, zaa, za]; exact rfl) ?_
                    refine walk_k (gd_f (b := false) rfl rfl rfl) rfl rfl rfl (zac (.inl rfl) (ev1 rfl)) (by simp only [upd, zaa, za]; exact rfl) ?_
                    refine walk_k (gd_f (b := false) rfl rfl rfl) rfl rfl rfl ((op_neq rfl (ev2 rfl) (ev2 rfl)).cast (d' := .val (.bool false)) (by kernel_rfl)) (by simp only [upd, zaa, za]; exact rfl) ?_
                    refine zab rfl rfl rfl ((op_or rfl (ev1 rfl) (ev3 rfl (fun _ => rfl))).cast (d' := .val (.bool false)) (by rfl)) ?_
                    refine zae ?_
                    refine dwp_if_f rfl (rfl) ?_
                    refine zak ?_
                    refine zad ?_
                    refine zab rfl rfl rfl (op_add' rfl (ev1 rfl) (ev1 rfl) (fun _ => IntWalk.i64_in _ (by omega))) ?_
                    refine zab rfl rfl rfl (zac (.inl rfl) (ev1 rfl)) ?_
                    refine zae ?_
                    refine ⟨i + 1, [0, 1], by omega, by simp only []; omega, rfl, ⟨rfl, rfl, rfl, rfl, rfl, trivial⟩, ⟨rfl, rfl, trivial⟩⟩
                  · have hbad : badT l[i].2.2.2.2 = false := by simpa using hbad
                    have hon2 := Bool.and_eq_true_iff.1 hon
                    have hu := onP_in hc.may _ hon2.2
                    have hu2 : (0 ≤ l[i].2.2.1 ∧ l[i].2.2.1 < 32) ∧ 0 ≤ l[i].2.2.2.1 ∧ l[i].2.2.2.1 < 32 := hu
                    have hat := rgF_le (ts := (ts.take 17)) (tol := l[i].2.2.2.2) hc.may hon2.1 hu
                    refine zad ?_
                    refine zab rfl rfl rfl (zac (.inl rfl) (ev1 rfl)) ?_
                    refine zab rfl rfl rfl (op_ldw rfl tb34 (ev1 rfl) rfl rfl) ?_
                    refine zab rfl rfl rfl (op_ldw rfl tb34 (ev1 rfl) rfl rfl) ?_
                    refine zab rfl rfl rfl (zac (.inl rfl) (ev1 rfl)) ?_
                    refine zab rfl rfl rfl (zah [] [] [] rfl (ev1 rfl) (ec (ev1 rfl) (ec (ev1 rfl) (ec (ev1 rfl) (ec (ev1 rfl) en)))) rfl rfl (steps_no w h _ (ts.take 17) (dpR_ok _) hc (take_rng hg 17) (⟨l[i].1, l[i].2.1⟩ : P2) (⟨l[i].2.2.1, l[i].2.2.2.1⟩ : P2) l[i].2.2.2.2 (refE_k2 hbad hon) (by simpa using hh)) rfl rfl rfl rfl rfl rfl) ?_
                    refine zab rfl rfl rfl (zac (.inl rfl) (ev1 rfl)) ?_
                    refine zab rfl rfl rfl (op_ext rfl (ev1 rfl) rfl) ?_
                    refine zab rfl rfl rfl (op_ext rfl (ev1 rfl) rfl) ?_
                    refine zab rfl rfl rfl (zac (.inr rfl) (ev1 rfl)) ?_
                    refine zab rfl rfl rfl (zac (.inr rfl) (ev1 rfl)) ?_
                    refine zae ?_
                    refine zaf ?_
                    refine zad ?_
                    refine zab rfl rfl rfl (zac (.inr rfl) (ev1 rfl)) ?_
                    refine zab rfl rfl rfl (zac (.inr rfl) (ev1 rfl)) ?_
                    refine zae ?_
                    refine zaf ?_
                    refine zaf ?_
                    refine zad ?_
                    refine zab rfl rfl rfl (zac (.inl rfl) (ev1 rfl)) ?_
                    refine zab rfl rfl rfl ((zah [] [] [] rfl (ev1 rfl) (ec (ev1 rfl) en) rfl rfl (rtol_d l[i].2.2.2.2) rfl rfl rfl rfl rfl rfl).cast (d' := .val (.bool true)) (by rw [hbad]; rfl)) ?_
                    refine zae ?_
                    refine dwp_if_t rfl (rfl) ?_
                    refine zaf ?_
                    refine zad ?_
                    refine zab rfl rfl rfl (zac (.inr rfl) (ev1 rfl)) ?_
                    refine zae ?_
                    refine zaf ?_
                    refine zad ?_
                    refine zab rfl rfl rfl (op_ldmw rfl tb24 (ev1 rfl) rfl rfl) ?_
                    refine zab rfl rfl rfl (op_ldw rfl tb34 (ev1 rfl) rfl rfl) ?_
                    refine zab rfl rfl rfl ((zah [] [] [] rfl (ev1 rfl) (ec (ev1 rfl) (ec (ev1 rfl) en)) rfl rfl (ron_d w h (ts.take 17) hc (⟨l[i].1, l[i].2.1⟩ : P2)) rfl rfl rfl rfl rfl rfl).cast (d' := .val (.bool true)) (by rw [hon2.1])) ?_
                    refine zab rfl rfl rfl (zac (.inl rfl) (ev1 rfl)) ?_
                    refine walk_k (gd_t (b := true) rfl rfl rfl) rfl rfl rfl (op_ldmw rfl tb24 (ev1 rfl) rfl rfl) (by simp only [upd, zaa, za]; exact rfl) ?_
                    refine walk_k (gd_t (b := true) rfl rfl rfl) rfl rfl rfl (op_ldw rfl tb34 (ev1 rfl) rfl rfl) (by simp only [upd, zaa, za]; exact rfl) ?_
                    refine walk_k (gd_t (b := true) rfl rfl rfl) rfl rfl rfl ((zah [] [] [] rfl (ev1 rfl) (ec (ev2 rfl) (ec (ev2 rfl) en)) rfl rfl (ron_d w h (ts.take 17) hc (⟨l[i].2.2.1, l[i].2.2.2.1⟩ : P2)) rfl rfl rfl rfl rfl rfl).cast (d' := .val (.bool true)) (by rw [hon2.2])) (by simp only [upd, zaa, za]; exact rfl) ?_
                    refine zab rfl rfl rfl ((op_and rfl (ev1 rfl) (ev3 rfl (fun _ => rfl))).cast (d' := .val (.bool true)) (by rfl)) ?_
                    refine zae ?_
                    refine dwp_if_t rfl (rfl) ?_
                    refine zaf ?_
                    refine dwp_draw [([1], []), ([3], []), ([], []), ([], []), ([], []), ([], []), ([4], []), ([], []), ([], []), ([4], []), ([], []), ([], [])] mixed (by kernel_rfl) ?_
                    refine zag rfl rfl (op_ldmw rfl tb24 (ev1 rfl) rfl rfl) ?_
                    refine zag rfl rfl (op_ldw rfl tb34 (ev1 rfl) rfl rfl) ?_
                    refine zag rfl rfl (zac (.inl rfl) (ev1 rfl)) ?_
                    refine zag rfl rfl ((op_build0a rfl ar45 zr45).cast (d' := .val (.agg (fV zFD).toArray)) (by rw [← fV_zero])) ?_
                    refine zag rfl rfl ((zah [] [] [] rfl (ev1 rfl) (ec (ev1 rfl) (ec (ev1 rfl) (ec (ev1 rfl) (ec (ev1 rfl) en)))) rfl rfl (rgrown_d w h (ts.take 17) hc (take_rng hg 17) (⟨l[i].1, l[i].2.1⟩ : P2) hon2.1 l[i].2.2.2.2 zFD) rfl rfl rfl rfl rfl rfl).cast (d' := .val (.agg (fV (rgF w h (ts.take 17) l[i].2.2.2.2 (⟨l[i].1, l[i].2.1⟩ : P2))).toArray)) (by rw [grF_zero])) ?_
                    refine zag rfl rfl (op_fa rfl fo34_1 (ev1 rfl)) ?_
                    refine zag rfl rfl (zam rfl tb3 (ev1 rfl) rfl rfl) ?_
                    refine zag rfl rfl (op_ixwr (l[i].2.2.2.1.toNat) rfl av45 (ev_ofagg (ev1 rfl)) (ev1 rfl) (fun _ => by omega) (fun _ => by omega) (fV_twol (p := (⟨l[i].2.2.1, l[i].2.2.2.1⟩ : P2)) hu)) ?_
                    refine zag rfl rfl (op_fa rfl fo34_0 (ev1 rfl)) ?_
                    refine zag rfl rfl (zam rfl tb3 (ev1 rfl) rfl rfl) ?_
                    refine zag rfl rfl (op_ixw (l[i].2.2.1.toNat) rfl aw43 (ev1 rfl) (ev1 rfl) (fun _ => by omega) (by omega) (fV_two (p := (⟨l[i].2.2.1, l[i].2.2.2.1⟩ : P2)) hu)) ?_
                    refine zag rfl rfl (zac (.inr rfl) (ev1 rfl)) ?_
                    refine lex_nil ?_
                    refine zaf ?_
                    refine zad ?_
                    refine zab rfl rfl rfl (zac (.inl rfl) (ev1 rfl)) ?_
                    refine zab rfl rfl rfl ((op_gtr rfl (ev1 rfl) (ev1 rfl)).cast (d' := .val (.bool false)) (by rw [← (Bool.not_eq_true _).mp hh, ← has_int])) ?_
                    refine zae ?_
                    refine dwp_if_f rfl (rfl) ?_
                    refine zak ?_
                    refine zaf ?_
                    refine zad ?_
                    refine zab rfl rfl rfl (zac (.inl rfl) (ev1 rfl)) ?_
                    refine zab rfl rfl rfl (zac (.inl rfl) (ev1 rfl)) ?_
                    refine zab rfl rfl rfl ((op_neq rfl (ev1 rfl) (ev1 rfl)).cast (d' := .val (.bool false)) (by kernel_rfl)) ?_
                    refine zab rfl rfl rfl (zac (.inl rfl) (ev1 rfl)) ?_
                    refine walk_k (gd_f (b := false) rfl rfl rfl) rfl rfl rfl (zac (.inl rfl) (ev1 rfl)) (by simp only [upd, zaa, za]; exact rfl) ?_
                    refine walk_k (gd_f (b := false) rfl rfl rfl) rfl rfl rfl (zac (.inl rfl) (ev1 rfl)) (by simp only [upd, zaa, za]; exact rfl) ?_
                    refine walk_k (gd_f (b := false) rfl rfl rfl) rfl rfl rfl ((op_neq rfl (ev2 rfl) (ev2 rfl)).cast (d' := .val (.bool false)) (by kernel_rfl)) (by simp only [upd, zaa, za]; exact rfl) ?_
                    refine zab rfl rfl rfl ((op_or rfl (ev1 rfl) (ev3 rfl (fun _ => rfl))).cast (d' := .val (.bool false)) (by rfl)) ?_
                    refine zae ?_
                    refine dwp_if_f rfl (rfl) ?_
                    refine zak ?_
                    refine zad ?_
                    refine zab rfl rfl rfl (op_add' rfl (ev1 rfl) (ev1 rfl) (fun _ => IntWalk.i64_in _ (by omega))) ?_
                    refine zab rfl rfl rfl (zac (.inl rfl) (ev1 rfl)) ?_
                    refine zae ?_
                    refine ⟨i + 1, [0, 1], by omega, by simp only []; omega, rfl, ⟨rfl, rfl, rfl, rfl, rfl, trivial⟩, ⟨rfl, rfl, trivial⟩⟩
                · have hbad : badT l[i].2.2.2.2 = false := by simpa using hbad
                  have hon : (onP w h (⟨l[i].1, l[i].2.1⟩ : P2) && onP w h (⟨l[i].2.2.1, l[i].2.2.2.1⟩ : P2)) = false := by simpa using hon
                  refine zad ?_
                  refine zab rfl rfl rfl (zac (.inl rfl) (ev1 rfl)) ?_
                  refine zab rfl rfl rfl (op_ldw rfl tb34 (ev1 rfl) rfl rfl) ?_
                  refine zab rfl rfl rfl (op_ldw rfl tb34 (ev1 rfl) rfl rfl) ?_
                  refine zab rfl rfl rfl (zac (.inl rfl) (ev1 rfl)) ?_
                  refine zab rfl rfl rfl (zah [] [] [] rfl (ev1 rfl) (ec (ev1 rfl) (ec (ev1 rfl) (ec (ev1 rfl) (ec (ev1 rfl) en)))) rfl rfl (steps_off w h _ (ts.take 17) (dpR_ok _) hc (take_rng hg 17) (⟨l[i].1, l[i].2.1⟩ : P2) (⟨l[i].2.2.1, l[i].2.2.2.1⟩ : P2) l[i].2.2.2.2 hbad hon) rfl rfl rfl rfl rfl rfl) ?_
                  refine zab rfl rfl rfl (zac (.inl rfl) (ev1 rfl)) ?_
                  refine zab rfl rfl rfl (op_ext rfl (ev1 rfl) rfl) ?_
                  refine zab rfl rfl rfl (op_ext rfl (ev1 rfl) rfl) ?_
                  refine zab rfl rfl rfl (zac (.inr rfl) (ev1 rfl)) ?_
                  refine zab rfl rfl rfl (zac (.inr rfl) (ev1 rfl)) ?_
                  refine zae ?_
                  refine zaf ?_
                  refine zad ?_
                  refine zab rfl rfl rfl (zac (.inr rfl) (ev1 rfl)) ?_
                  refine zab rfl rfl rfl (zac (.inr rfl) (ev1 rfl)) ?_
                  refine zae ?_
                  refine zaf ?_
                  refine zaf ?_
                  refine zad ?_
                  refine zab rfl rfl rfl (zac (.inl rfl) (ev1 rfl)) ?_
                  refine zab rfl rfl rfl ((zah [] [] [] rfl (ev1 rfl) (ec (ev1 rfl) en) rfl rfl (rtol_d l[i].2.2.2.2) rfl rfl rfl rfl rfl rfl).cast (d' := .val (.bool true)) (by rw [hbad]; rfl)) ?_
                  refine zae ?_
                  refine dwp_if_t rfl (rfl) ?_
                  refine zaf ?_
                  refine zad ?_
                  refine zab rfl rfl rfl (zac (.inr rfl) (ev1 rfl)) ?_
                  refine zae ?_
                  refine zaf ?_
                  refine zad ?_
                  refine zab rfl rfl rfl (op_ldmw rfl tb24 (ev1 rfl) rfl rfl) ?_
                  refine zab rfl rfl rfl (op_ldw rfl tb34 (ev1 rfl) rfl rfl) ?_
                  refine zab rfl rfl rfl (zah [] [] [] rfl (ev1 rfl) (ec (ev1 rfl) (ec (ev1 rfl) en)) rfl rfl (ron_d w h (ts.take 17) hc (⟨l[i].1, l[i].2.1⟩ : P2)) rfl rfl rfl rfl rfl rfl) ?_
                  refine zab rfl rfl rfl (zac (.inl rfl) (ev1 rfl)) ?_
                  refine walk_gr (gd_t rfl rfl rfl) rfl rfl rfl (op_ldmw rfl tb24 (ev1 rfl) rfl rfl) ?_
                  refine walk_gr (gd_t rfl rfl rfl) rfl rfl rfl (op_ldw rfl tb34 (ev1 rfl) rfl rfl) ?_
                  refine walk_gr (gd_t rfl rfl rfl) rfl rfl rfl (zah [] [] [] rfl (ev1 rfl) (ec (ev2 rfl) (ec (ev2 rfl) en)) rfl rfl (ron_d w h (ts.take 17) hc (⟨l[i].2.2.1, l[i].2.2.2.1⟩ : P2)) rfl rfl rfl rfl rfl rfl) ?_
                  refine zab rfl rfl rfl (op_and rfl (ev1 rfl) (ev3 rfl id)) ?_
                  refine zae ?_
                  refine dwp_if_f rfl (by rw [← hon]) ?_
                  refine zak ?_
                  refine zaf ?_
                  refine zad ?_
                  refine zab rfl rfl rfl (zac (.inl rfl) (ev1 rfl)) ?_
                  refine zab rfl rfl rfl (zac (.inl rfl) (ev1 rfl)) ?_
                  refine zab rfl rfl rfl ((op_neq rfl (ev1 rfl) (ev1 rfl)).cast (d' := .val (.bool false)) (by kernel_rfl)) ?_
                  refine zab rfl rfl rfl (zac (.inl rfl) (ev1 rfl)) ?_
                  refine walk_k (gd_f (b := false) rfl rfl rfl) rfl rfl rfl (zac (.inl rfl) (ev1 rfl)) (by simp only [upd, zaa, za]; exact rfl) ?_
                  refine walk_k (gd_f (b := false) rfl rfl rfl) rfl rfl rfl (zac (.inl rfl) (ev1 rfl)) (by simp only [upd, zaa, za]; exact rfl) ?_
                  refine walk_k (gd_f (b := false) rfl rfl rfl) rfl rfl rfl ((op_neq rfl (ev2 rfl) (ev2 rfl)).cast (d' := .val (.bool false)) (by kernel_rfl)) (by simp only [upd, zaa, za]; exact rfl) ?_
                  refine zab rfl rfl rfl ((op_or rfl (ev1 rfl) (ev3 rfl (fun _ => rfl))).cast (d' := .val (.bool false)) (by rfl)) ?_
                  refine zae ?_
                  refine dwp_if_f rfl (rfl) ?_
                  refine zak ?_
                  refine zad ?_
                  refine zab rfl rfl rfl (op_add' rfl (ev1 rfl) (ev1 rfl) (fun _ => IntWalk.i64_in _ (by omega))) ?_
                  refine zab rfl rfl rfl (zac (.inl rfl) (ev1 rfl)) ?_
                  refine zae ?_
                  refine ⟨i + 1, [0, 1], by omega, by simp only []; omega, rfl, ⟨rfl, rfl, rfl, rfl, rfl, trivial⟩, ⟨rfl, rfl, trivial⟩⟩
          · try simp only [decide_eq_true_eq, decide_eq_false_iff_not, beq_iff_eq, bne_iff_ne, beq_eq_false_iff_ne, bne_eq_false_iff_eq, Bool.not_eq_true', Bool.not_eq_false', Bool.and_eq_true, Bool.or_eq_true, Bool.or_eq_false_iff, ne_eq, Decidable.not_not, Int.not_lt, Int.not_le] at c8
            refine dwp_exit ?_
            refine zaf ?_
            refine zad ?_
            refine zab rfl rfl rfl (zah [] [] [] rfl (ev1 rfl) (ec (ev1 rfl) (ec (evnil 3 (ev1 rfl)) en)) rfl rfl (rim_0 []) rfl rfl rfl rfl rfl rfl) ?_
            refine zab rfl rfl rfl (zac (.inl rfl) (ev1 rfl)) ?_
            refine zab rfl rfl rfl (op_ext rfl (ev1 rfl) rfl) ?_
            refine zab rfl rfl rfl (op_ext rfl (ev1 rfl) rfl) ?_
            refine zab rfl rfl rfl (zac (.inr rfl) (ev1 rfl)) ?_
            refine zab rfl rfl rfl (zac (.inr rfl) (ev1 rfl)) ?_
            refine zae ?_
            refine zaf ?_
            refine zad ?_
            refine zab rfl rfl rfl (op_build0 rfl fl34 zr34) ?_
            refine zab rfl rfl rfl (op_build0 rfl fl34 zr34) ?_
            refine zab rfl rfl rfl (zah [] [] [] rfl (ev1 rfl) (ec (ev1 rfl) (ec (ev1 rfl) (ec (ev1 rfl) (ec (ev1 rfl) en)))) rfl rfl (steps_0 ⟨0, 0⟩ ⟨0, 0⟩ 0) rfl rfl rfl rfl rfl rfl) ?_
            refine zab rfl rfl rfl (zac (.inl rfl) (ev1 rfl)) ?_
            refine zab rfl rfl rfl (op_ext rfl (ev1 rfl) rfl) ?_
            refine zab rfl rfl rfl (op_ext rfl (ev1 rfl) rfl) ?_
            refine zab rfl rfl rfl (zac (.inr rfl) (ev1 rfl)) ?_
            refine zab rfl rfl rfl (zac (.inr rfl) (ev1 rfl)) ?_
            refine zae ?_
            refine zaf ?_
            refine zad ?_
            refine zab rfl rfl rfl (zac (.inl rfl) (ev1 rfl)) ?_
            refine zab rfl rfl rfl ((op_eql rfl (ev1 rfl) (ev1 rfl)).cast (d' := .val (.bool true)) (by kernel_rfl)) ?_
            refine zab rfl rfl rfl (zac (.inl rfl) (ev1 rfl)) ?_
            refine walk_k (gd_t (b := true) rfl rfl rfl) rfl rfl rfl (zac (.inl rfl) (ev1 rfl)) (by simp only [upd, zaa, za]; exact rfl) ?_
            refine walk_k (gd_t (b := true) rfl rfl rfl) rfl rfl rfl ((op_eql rfl (ev2 rfl) (ev1 rfl)).cast (d' := .val (.bool true)) (by kernel_rfl)) (by simp only [upd, zaa, za]; exact rfl) ?_
            refine zab rfl rfl rfl ((op_and rfl (ev1 rfl) (ev3 rfl (fun _ => rfl))).cast (d' := .val (.bool true)) (by rfl)) ?_
            refine zab rfl rfl rfl (zac (.inr rfl) (ev1 rfl)) ?_
            refine zae ?_
            refine zao ?_
            refine kend0 (rs1 rfl (rv_t rfl)) rfl ?_
            rfl
      · have ho : onA w h (z.take 40) = false := by simpa using ho
        refine zad ?_
        refine zab rfl rfl rfl (zac (.inl rfl) (ev1 rfl)) ?_
        refine zab rfl rfl rfl (zac (.inl rfl) (ev1 rfl)) ?_
        refine zab rfl rfl rfl (zah [] [] [] rfl (ev1 rfl) (ec (ev1 rfl) (ec (ev1 rfl) en)) rfl rfl (rim_no w h _ (ts.take 17) (dpR_ok _) hc (take_rng hg 17) (z.take 40) (by omega) hk2 ho) rfl rfl rfl rfl rfl rfl) ?_
        refine zab rfl rfl rfl (zac (.inl rfl) (ev1 rfl)) ?_
        refine zab rfl rfl rfl (op_ext rfl (ev1 rfl) rfl) ?_
        refine zab rfl rfl rfl (op_ext rfl (ev1 rfl) rfl) ?_
        refine zab rfl rfl rfl (zac (.inr rfl) (ev1 rfl)) ?_
        refine zab rfl rfl rfl (zac (.inr rfl) (ev1 rfl)) ?_
        refine zae ?_
        refine zaf ?_
        refine zad ?_
        refine zab rfl rfl rfl (zac (.inr rfl) (ev1 rfl)) ?_
        refine zae ?_
        refine zaf ?_
        refine zad ?_
        refine zab rfl rfl rfl (zac (.inr rfl) (ev1 rfl)) ?_
        refine zae ?_
        refine zaf ?_
        refine zaf ?_
        refine zad ?_
        refine zab rfl rfl rfl (zac (.inl rfl) (ev1 rfl)) ?_
        refine zab rfl rfl rfl ((zah [] [] [] rfl (ev1 rfl) (ec (ev1 rfl) en) rfl rfl (rright_d (z.take 40)) rfl rfl rfl rfl rfl rfl).cast (d' := .val (.bool true)) (by rw [decide_eq_true hk2])) ?_
        refine zae ?_
        refine dwp_if_t rfl (rfl) ?_
        refine zaf ?_
        refine zad ?_
        refine zab rfl rfl rfl (zac (.inr rfl) (ev1 rfl)) ?_
        refine zae ?_
        refine zaf ?_
        refine zad ?_
        refine zab rfl rfl rfl (zac (.inl rfl) (ev1 rfl)) ?_
        refine zab rfl rfl rfl (op_len rfl sl35 (ev1 rfl)) ?_
        refine zab rfl rfl rfl (zac (.inl rfl) (ev1 rfl)) ?_
        refine zae ?_
        refine zal ?_
        refine dwp_loopS ⟨hs0, rfl⟩ (α := Nat) (fun k => [(14, .val (.int .i64 (noS w h ((z.take 40).take k)))), (57, .val (.int .i64 (k : Int)))]) [(2, _), (7, _), (8, _), (10, _), (11, _), (12, _), (13, _), (55, _), (56, _)] (fun k => []) [_, _] (fun k => k ≤ (z.take 40).length) (fun k => (z.take 40).length - k) 0 [0, 1] (Nat.zero_le _) rfl ⟨rfl, rfl, rfl, rfl, rfl, rfl, rfl, rfl, rfl, trivial⟩ ⟨rfl, rfl, trivial⟩ ⟨rfl, rfl, trivial⟩ ?_
        intro k hx
        simp only [upd, zaa, za, List.cons_append, List.nil_append]
        have hk0 := hx
        refine zaf ?_
        refine zad ?_
        refine zab rfl rfl rfl (op_lss rfl (ev1 rfl) (ev1 rfl)) ?_
        refine zae ?_
        refine zaf ?_
        refine dwp_cond rfl (fun c24 => ?_) (fun c24 => ?_)
        · try simp only [decide_eq_true_eq, decide_eq_false_iff_not, beq_iff_eq, bne_iff_ne, beq_eq_false_iff_ne, bne_eq_false_iff_eq, Bool.not_eq_true', Bool.not_eq_false', Bool.and_eq_true, Bool.or_eq_true, Bool.or_eq_false_iff, ne_eq, Decidable.not_not, Int.not_lt, Int.not_le] at c24
          refine zak ?_
          refine zaf ?_
          refine zal ?_
          refine zaf ?_
          have hk : k < (z.take 40).length := by omega
          refine zai 1 (by simp only [holes, List.cons_append, List.nil_append]; exact rfl) ?_
          refine zad ?_
          refine zab rfl rfl rfl (op_ixsr (j := k) rfl sl35 (ev1 rfl) (ev1 rfl) (fun _ => rfl) (by decide) (by omega) (by omega)) ?_
          refine zab rfl rfl rfl (op_ldwd rfl tb53 (ev1 rfl) rfl) ?_
          refine zaj rfl rfl rfl (op_alloc 2 rfl zr53 rfl) (by simp only [upd, zaa, za]; exact rfl) ?_
          refine walk_s rfl rfl (op_stwa rfl tb53 (ev1 rfl) (ev1 rfl) rfl rfl rfl rfl) (by simp only [upd, zaa, za]; exact rfl) ?_
          refine zae ?_
          refine zaf ?_
          refine zad ?_
          refine zab rfl rfl rfl (op_ldmw rfl tb24 (ev1 rfl) rfl rfl) ?_
          refine zab rfl rfl rfl (op_fa rfl fo53_1 (ev1 rfl)) ?_
          refine zab rfl rfl rfl (zam rfl tb3 (ev1 rfl) rfl rfl) ?_
          refine zab rfl rfl rfl (op_fa rfl fo53_0 (ev1 rfl)) ?_
          refine zab rfl rfl rfl (zam rfl tb3 (ev1 rfl) rfl rfl) ?_
          refine zab rfl rfl rfl (op_build (ps := [(0, .tmp 63), (1, .tmp 65)]) rfl fl34 zr34 (vc (ev1 rfl) (vc (ev1 rfl) vn)) rfl rfl) ?_
          refine zab rfl rfl rfl (zah [] [] [] rfl (ev1 rfl) (ec (ev1 rfl) (ec (ev1 rfl) en)) rfl rfl (ron_d w h (ts.take 17) hc ⟨(z.take 40)[k].f, (z.take 40)[k].y⟩) rfl rfl rfl rfl rfl rfl) ?_
          refine zab rfl rfl rfl (op_not rfl (ev1 rfl)) ?_
          refine zab rfl rfl rfl (zac (.inl rfl) (ev1 rfl)) ?_
          refine walk_gr (gd_f rfl rfl rfl) rfl rfl rfl (op_ldmw rfl tb24 (ev1 rfl) rfl rfl) ?_
          refine walk_gr (gd_f rfl rfl rfl) rfl rfl rfl (op_fa rfl fo53_2 (ev1 rfl)) ?_
          refine walk_gr (gd_f rfl rfl rfl) rfl rfl rfl (zam rfl tb3 (ev2 rfl) rfl rfl) ?_
          refine walk_gr (gd_f rfl rfl rfl) rfl rfl rfl (op_fa rfl fo53_0 (ev1 rfl)) ?_
          refine walk_gr (gd_f rfl rfl rfl) rfl rfl rfl (zam rfl tb3 (ev2 rfl) rfl rfl) ?_
          refine walk_gr (gd_f rfl rfl rfl) rfl rfl rfl (op_build (ps := [(0, .tmp 72), (1, .tmp 74)]) rfl fl34 zr34 (vc (ev2 rfl) (vc (ev2 rfl) vn)) rfl rfl) ?_
          refine walk_gr (gd_f rfl rfl rfl) rfl rfl rfl (zah [] [] [] rfl (ev1 rfl) (ec (ev2 rfl) (ec (ev2 rfl) en)) rfl rfl (ron_d w h (ts.take 17) hc ⟨(z.take 40)[k].t, (z.take 40)[k].y⟩) rfl rfl rfl rfl rfl rfl) ?_
          refine walk_gr (gd_f rfl rfl rfl) rfl rfl rfl (op_not rfl (ev2 rfl)) ?_
          refine zab rfl rfl rfl (op_or rfl (ev1 rfl) (ev3 rfl id)) ?_
          refine zae ?_
          refine dwp_cond rfl (fun c2 => ?_) (fun c2 => ?_)
          · have c3 : endB w h (z.take 40)[k] = false := by
              unfold endB
              revert c2
              cases onP w h ⟨(z.take 40)[k].f, (z.take 40)[k].y⟩ <;> cases onP w h ⟨(z.take 40)[k].t, (z.take 40)[k].y⟩ <;> simp
            refine zad ?_
            refine zab rfl rfl rfl (zac (.inr rfl) (ev1 rfl)) ?_
            refine zae ?_
            refine zad ?_
            refine zab rfl rfl rfl (op_add' rfl (ev1 rfl) (ev1 rfl) (fun _ => IntWalk.i64_in _ (by omega))) ?_
            refine zab rfl rfl rfl (zac (.inl rfl) (ev1 rfl)) ?_
            refine zae ?_
            refine ⟨k + 1, [0, 1], by omega, by simp only []; omega, rfl, ⟨by rw [noS_no hk (by simpa using c3)]; rfl, rfl, rfl, rfl, rfl, rfl, rfl, rfl, rfl, rfl, rfl, trivial⟩, ⟨rfl, rfl, trivial⟩⟩
          · have c3 : endB w h (z.take 40)[k] = true := by
              unfold endB
              revert c2
              cases onP w h ⟨(z.take 40)[k].f, (z.take 40)[k].y⟩ <;> cases onP w h ⟨(z.take 40)[k].t, (z.take 40)[k].y⟩ <;> simp
            refine zak ?_
            refine zad ?_
            refine zab rfl rfl rfl (op_add' rfl (ev1 rfl) (ev1 rfl) (fun _ => IntWalk.i64_in _ (by omega))) ?_
            refine zab rfl rfl rfl (zac (.inl rfl) (ev1 rfl)) ?_
            refine zae ?_
            refine ⟨k + 1, [0, 1], by omega, by simp only []; omega, rfl, ⟨by rw [noS_yes hk (by simpa using c3)]; rfl, rfl, rfl, rfl, rfl, rfl, rfl, rfl, rfl, rfl, rfl, trivial⟩, ⟨rfl, rfl, trivial⟩⟩
        · try simp only [decide_eq_true_eq, decide_eq_false_iff_not, beq_iff_eq, bne_iff_ne, beq_eq_false_iff_ne, bne_eq_false_iff_eq, Bool.not_eq_true', Bool.not_eq_false', Bool.and_eq_true, Bool.or_eq_true, Bool.or_eq_false_iff, ne_eq, Decidable.not_not, Int.not_lt, Int.not_le] at c24
          refine dwp_exit ?_
          refine zaf ?_
          refine zaf ?_
          refine dwp_wk 14 rfl (Wk.of_eq (d' := .val (.int .i64 4)) (by rw [take_all (by omega), noS_eq hk2, ho]; rfl)) ?_
          refine zad ?_
          refine zab rfl rfl rfl (zac (.inl rfl) (ev1 rfl)) ?_
          refine zab rfl rfl rfl ((op_eql rfl (ev1 rfl) (ev1 rfl)).cast (d' := .val (.bool false)) (by kernel_rfl)) ?_
          refine zae ?_
          refine dwp_if_f rfl (rfl) ?_
          refine zak ?_
          refine zaf ?_
          refine zaf ?_
          refine zad ?_
          refine zab rfl rfl rfl (zac (.inl rfl) (ev1 rfl)) ?_
          refine zab rfl rfl rfl (zac (.inl rfl) (ev1 rfl)) ?_
          refine zab rfl rfl rfl ((op_neq rfl (ev1 rfl) (ev1 rfl)).cast (d' := .val (.bool false)) (by kernel_rfl)) ?_
          refine zab rfl rfl rfl (zac (.inl rfl) (ev1 rfl)) ?_
          refine walk_k (gd_f (b := false) rfl rfl rfl) rfl rfl rfl (zac (.inl rfl) (ev1 rfl)) (by simp only [upd, zaa, za]; exact rfl) ?_
          refine walk_k (gd_f (b := false) rfl rfl rfl) rfl rfl rfl (zac (.inl rfl) (ev1 rfl)) (by simp only [upd, zaa, za]; exact rfl) ?_
          refine walk_k (gd_f (b := false) rfl rfl rfl) rfl rfl rfl ((zah [] [] [] rfl (ev1 rfl) (ec (evnil 2 (ev2 rfl)) (ec (evnil 2 (ev2 rfl)) en)) rfl rfl (equalPt [] []) rfl rfl rfl rfl rfl rfl).cast (d' := .val (.bool true)) (by rfl)) (by simp only [upd, zaa, za]; exact rfl) ?_
          refine walk_k (gd_f (b := false) rfl rfl rfl) rfl rfl rfl ((op_not rfl (ev2 rfl)).cast (d' := .val (.bool false)) (by kernel_rfl)) (by simp only [upd, zaa, za]; exact rfl) ?_
          refine zab rfl rfl rfl ((op_or rfl (ev1 rfl) (ev3 rfl (fun _ => rfl))).cast (d' := .val (.bool false)) (by rfl)) ?_
          refine zae ?_
          refine dwp_if_f rfl (rfl) ?_
          refine zak ?_
          refine zaf ?_
          refine zaf ?_
          refine zad ?_
          refine zab rfl rfl rfl (zac (.inl rfl) (ev1 rfl)) ?_
          refine zab rfl rfl rfl (op_len rfl sl62 (ev1 rfl)) ?_
          refine zab rfl rfl rfl (zac (.inl rfl) (ev1 rfl)) ?_
          refine zae ?_
          refine zal ?_
          refine dwp_loopS ⟨hs0, rfl⟩ (α := Nat) (fun i => [(96, .val (.int .i64 (i : Int)))]) [(7, _), (8, _), (94, _), (95, _)] (fun i => []) [_, _] (fun i => i ≤ l.length) (fun i => l.length - i) 0 [0, 1] (Nat.zero_le _) rfl ⟨rfl, rfl, rfl, rfl, trivial⟩ ⟨rfl, trivial⟩ ⟨rfl, rfl, trivial⟩ ?_
          intro i hx
          simp only [upd, zaa, za, List.cons_append, List.nil_append]
          have hi0 := hx
          refine zaf ?_
          refine zad ?_
          refine zab rfl rfl rfl (op_lss rfl (ev1 rfl) (ev1 rfl)) ?_
          refine zae ?_
          refine zaf ?_
          refine dwp_cond rfl (fun c28 => ?_) (fun c28 => ?_)
          · try simp only [decide_eq_true_eq, decide_eq_false_iff_not, beq_iff_eq, bne_iff_ne, beq_eq_false_iff_ne, bne_eq_false_iff_eq, Bool.not_eq_true', Bool.not_eq_false', Bool.and_eq_true, Bool.or_eq_true, Bool.or_eq_false_iff, ne_eq, Decidable.not_not, Int.not_lt, Int.not_le] at c28
            refine zak ?_
            refine zaf ?_
            refine zal ?_
            refine zaf ?_
            have hi : i < l.length := by omega
            refine zai 1 (by simp only [holes, List.cons_append, List.nil_append]; exact rfl) ?_
            refine zad ?_
            refine zab rfl rfl rfl (zac (.inl rfl) (ev1 rfl)) ?_
            refine zab rfl rfl rfl (op_ixsr (j := i) rfl sl62 (ev1 rfl) (ev1 rfl) (fun _ => rfl) (by decide) (by omega) (by omega)) ?_
            refine zab rfl rfl rfl (op_ldwd rfl tb70 (ev1 rfl) rfl) ?_
            refine zaj rfl rfl rfl (op_alloc 2 rfl zr70 rfl) (by simp only [upd, zaa, za]; exact rfl) ?_
            refine zab rfl rfl rfl (zac (.inr rfl) (ev1 rfl)) ?_
            refine walk_s rfl rfl (op_stwa rfl tb70 (ev1 rfl) (ev1 rfl) rfl rfl rfl rfl) (by simp only [upd, zaa, za]; exact rfl) ?_
            refine zae ?_
            refine zaf ?_
            refine zaf ?_
            refine zad ?_
            refine zab rfl rfl rfl (zac (.inl rfl) (ev1 rfl)) ?_
            refine zab rfl rfl rfl (op_eql rfl (ev1 rfl) (ev1 rfl)) ?_
            refine zae ?_
            refine dwp_cond rfl (fun c29 => ?_) (fun c29 => ?_)
            · try simp only [decide_eq_true_eq, decide_eq_false_iff_not, beq_iff_eq, bne_iff_ne, beq_eq_false_iff_ne, bne_eq_false_iff_eq, Bool.not_eq_true', Bool.not_eq_false', Bool.and_eq_true, Bool.or_eq_true, Bool.or_eq_false_iff, ne_eq, Decidable.not_not, Int.not_lt, Int.not_le] at c29
              refine dwp_exit ?_
              refine zaf ?_
              refine zad ?_
              refine zab rfl rfl rfl (zah [] [] [] rfl (ev1 rfl) (ec (ev1 rfl) (ec (evnil 3 (ev1 rfl)) en)) rfl rfl (rim_0 []) rfl rfl rfl rfl rfl rfl) ?_
              refine zab rfl rfl rfl (zac (.inl rfl) (ev1 rfl)) ?_
              refine zab rfl rfl rfl (op_ext rfl (ev1 rfl) rfl) ?_
              refine zab rfl rfl rfl (op_ext rfl (ev1 rfl) rfl) ?_
              refine zab rfl rfl rfl (zac (.inr rfl) (ev1 rfl)) ?_
              refine zab rfl rfl rfl (zac (.inr rfl) (ev1 rfl)) ?_
              refine zae ?_
              refine zaf ?_
              refine zad ?_
              refine zab rfl rfl rfl (op_build0 rfl fl34 zr34) ?_
              refine zab rfl rfl rfl (op_build0 rfl fl34 zr34) ?_
              refine zab rfl rfl rfl (zah [] [] [] rfl (ev1 rfl) (ec (ev1 rfl) (ec (ev1 rfl) (ec (ev1 rfl) (ec (ev1 rfl) en)))) rfl rfl (steps_0 ⟨0, 0⟩ ⟨0, 0⟩ 0) rfl rfl rfl rfl rfl rfl) ?_
              refine zab rfl rfl rfl (zac (.inl rfl) (ev1 rfl)) ?_
              refine zab rfl rfl rfl (op_ext rfl (ev1 rfl) rfl) ?_
              refine zab rfl rfl rfl (op_ext rfl (ev1 rfl) rfl) ?_
              refine zab rfl rfl rfl (zac (.inr rfl) (ev1 rfl)) ?_
              refine zab rfl rfl rfl (zac (.inr rfl) (ev1 rfl)) ?_
              refine zae ?_
              refine zaf ?_
              refine zad ?_
              refine zab rfl rfl rfl (zac (.inl rfl) (ev1 rfl)) ?_
              refine zab rfl rfl rfl ((op_eql rfl (ev1 rfl) (ev1 rfl)).cast (d' := .val (.bool true)) (by kernel_rfl)) ?_
              refine zab rfl rfl rfl (zac (.inl rfl) (ev1 rfl)) ?_
              refine walk_k (gd_t (b := true) rfl rfl rfl) rfl rfl rfl (zac (.inl rfl) (ev1 rfl)) (by simp only [upd, zaa, za]; exact rfl) ?_
              refine walk_k (gd_t (b := true) rfl rfl rfl) rfl rfl rfl ((op_eql rfl (ev2 rfl) (ev1 rfl)).cast (d' := .val (.bool true)) (by kernel_rfl)) (by simp only [upd, zaa, za]; exact rfl) ?_
              refine zab rfl rfl rfl ((op_and rfl (ev1 rfl) (ev3 rfl (fun _ => rfl))).cast (d' := .val (.bool true)) (by rfl)) ?_
              refine zab rfl rfl rfl (zac (.inr rfl) (ev1 rfl)) ?_
              refine zae ?_
              refine zao ?_
              refine kend0 (rs1 rfl (rv_t rfl)) rfl ?_
              rfl
            · try simp only [decide_eq_true_eq, decide_eq_false_iff_not, beq_iff_eq, bne_iff_ne, beq_eq_false_iff_ne, bne_eq_false_iff_eq, Bool.not_eq_true', Bool.not_eq_false', Bool.and_eq_true, Bool.or_eq_true, Bool.or_eq_false_iff, ne_eq, Decidable.not_not, Int.not_lt, Int.not_le] at c29
              refine zak ?_
              refine zaf ?_
              by_cases hbad : badT l[i].2.2.2.2 = true
              · refine zai 2 (by simp only [holes, List.cons_append, List.nil_append]; exact rfl) ?_
                refine dwp_draw [([], []), ([2], []), ([], []), ([2], []), ([], []), ([], []), ([2], []), ([], []), ([2], []), ([], []), ([], []), ([2], []), ([3], [3]), ([4], [4]), ([3], [3]), ([4], [4]), ([], [])] mixed (by kernel_rfl) ?_
                refine zag rfl rfl (op_ixl rfl ar70 (ev1 rfl) (ev1 rfl) (fun _ => by omega)) ?_
                refine zag rfl rfl (zam rfl tb3 (ev1 rfl) rfl rfl) ?_
                refine zag rfl rfl (op_ixl rfl ar70 (ev1 rfl) (ev1 rfl) (fun _ => by omega)) ?_
                refine zag rfl rfl (zam rfl tb3 (ev1 rfl) rfl rfl) ?_
                refine zag rfl rfl (op_build (ps := [(0, .tmp 104), (1, .tmp 106)]) rfl fl34 zr34 (vc (ev1 rfl) (vc (ev1 rfl) vn)) rfl rfl) ?_
                refine zag rfl rfl (op_ixl rfl ar70 (ev1 rfl) (ev1 rfl) (fun _ => by omega)) ?_
                refine zag rfl rfl (zam rfl tb3 (ev1 rfl) rfl rfl) ?_
                refine zag rfl rfl (op_ixl rfl ar70 (ev1 rfl) (ev1 rfl) (fun _ => by omega)) ?_
                refine zag rfl rfl (zam rfl tb3 (ev1 rfl) rfl rfl) ?_
                refine zag rfl rfl (op_build (ps := [(0, .tmp 109), (1, .tmp 111)]) rfl fl34 zr34 (vc (ev1 rfl) (vc (ev1 rfl) vn)) rfl rfl) ?_
                refine zag rfl rfl (op_ixl rfl ar70 (ev1 rfl) (ev1 rfl) (fun _ => by omega)) ?_
                refine zag rfl rfl (zam rfl tb3 (ev1 rfl) rfl rfl) ?_
                refine lex_w rfl rfl (op_alloc 3 rfl zr34 rfl) rfl (by simp only [upd, zaa, za]; exact rfl) ?_
                refine lex_w rfl rfl (op_alloc 4 rfl zr34 rfl) rfl (by simp only [upd, zaa, za]; exact rfl) ?_
                refine lex_s rfl rfl (op_stwa rfl tb34 (ev1 rfl) (ev1 rfl) rfl rfl rfl rfl) rfl (by simp only [upd, zaa, za]; exact rfl) ?_
                refine lex_s rfl rfl (op_stwa rfl tb34 (ev1 rfl) (ev1 rfl) rfl rfl rfl rfl) rfl (by simp only [upd, zaa, za]; exact rfl) ?_
                refine zag rfl rfl (zac (.inr rfl) (ev1 rfl)) ?_
                refine lex_nil ?_
                refine zaf ?_
                refine zad ?_
                refine zab rfl rfl rfl (zac (.inl rfl) (ev1 rfl)) ?_
                refine zab rfl rfl rfl (op_ldw rfl tb34 (ev1 rfl) rfl rfl) ?_
                refine zab rfl rfl rfl (op_ldw rfl tb34 (ev1 rfl) rfl rfl) ?_
                refine zab rfl rfl rfl (zac (.inl rfl) (ev1 rfl)) ?_
                refine zab rfl rfl rfl (zah [] [] [] rfl (ev1 rfl) (ec (ev1 rfl) (ec (ev1 rfl) (ec (ev1 rfl) (ec (ev1 rfl) en)))) rfl rfl (steps_b w h _ (ts.take 17) (dpR_ok _) hc (take_rng hg 17) (⟨l[i].1, l[i].2.1⟩ : P2) (⟨l[i].2.2.1, l[i].2.2.2.1⟩ : P2) l[i].2.2.2.2 hbad) rfl rfl rfl rfl rfl rfl) ?_
                refine zab rfl rfl rfl (zac (.inl rfl) (ev1 rfl)) ?_
                refine zab rfl rfl rfl (op_ext rfl (ev1 rfl) rfl) ?_
                refine zab rfl rfl rfl (op_ext rfl (ev1 rfl) rfl) ?_
                refine zab rfl rfl rfl (zac (.inr rfl) (ev1 rfl)) ?_
                refine zab rfl rfl rfl (zac (.inr rfl) (ev1 rfl)) ?_
                refine zae ?_
                refine zaf ?_
                refine zad ?_
                refine zab rfl rfl rfl (zac (.inr rfl) (ev1 rfl)) ?_
                refine zab rfl rfl rfl (zac (.inr rfl) (ev1 rfl)) ?_
                refine zae ?_
                refine zaf ?_
                refine zaf ?_
                refine zad ?_
                refine zab rfl rfl rfl (zac (.inl rfl) (ev1 rfl)) ?_
                refine zab rfl rfl rfl ((zah [] [] [] rfl (ev1 rfl) (ec (ev1 rfl) en) rfl rfl (rtol_d l[i].2.2.2.2) rfl rfl rfl rfl rfl rfl).cast (d' := .val (.bool false)) (by rw [hbad]; rfl)) ?_
                refine zae ?_
                refine dwp_if_f rfl (rfl) ?_
                refine zak ?_
                refine zaf ?_
                refine zad ?_
                refine zab rfl rfl rfl (zac (.inl rfl) (ev1 rfl)) ?_
                refine zab rfl rfl rfl (zac (.inl rfl) (ev1 rfl)) ?_
                refine zab rfl rfl rfl ((op_neq rfl (ev1 rfl) (ev1 rfl)).cast (d' := .val (.bool false)) (by kernel_rfl)) ?_
                refine zab rfl rfl rfl (zac (.inl rfl) (ev1 rfl)) ?_
                refine walk_k (gd_f (b := false) rfl rfl rfl) rfl rfl rfl (zac (.inl rfl) (ev1 rfl)) (by simp only [upd, zaa, za]; exact rfl) ?_
                refine walk_k (gd_f (b := false) rfl rfl rfl) rfl rfl rfl (zac (.inl rfl) (ev1 rfl)) (by simp only [upd, zaa, za]; exact rfl) ?_
                refine walk_k (gd_f (b := false) rfl rfl rfl) rfl rfl rfl ((op_neq rfl (ev2 rfl) (ev2 rfl)).cast (d' := .val (.bool false)) (by kernel_rfl)) (by simp only [upd, zaa, za]; exact rfl) ?_
                refine zab rfl rfl rfl ((op_or rfl (ev1 rfl) (ev3 rfl (fun _ => rfl))).cast (d' := .val (.bool false)) (by rfl)) ?_
                refine zae ?_
                refine dwp_if_f rfl (rfl) ?_
                refine zak ?_
                refine zad ?_
                refine zab rfl rfl rfl (op_add' rfl (ev1 rfl) (ev1 rfl) (fun _ => IntWalk.i64_in _ (by omega))) ?_
                refine zab rfl rfl rfl (zac (.inl rfl) (ev1 rfl)) ?_
                refine zae ?_
                refine ⟨i + 1, [0, 1], by omega, by simp only []; omega, rfl, ⟨rfl, rfl, rfl, rfl, rfl, trivial⟩, ⟨rfl, rfl, trivial⟩⟩
              · refine zai 2 (by simp only [holes, List.cons_append, List.nil_append]; exact rfl) ?_
                refine dwp_draw [([], []), ([2], []), ([], []), ([2], []), ([], []), ([], []), ([2], []), ([], []), ([2], []), ([], []), ([], []), ([2], []), ([3], [3]), ([4], [4]), ([3], [3]), ([4], [4]), ([], [])] mixed (by kernel_rfl) ?_
                refine zag rfl rfl (op_ixl rfl ar70 (ev1 rfl) (ev1 rfl) (fun _ => by omega)) ?_
                refine zag rfl rfl (zam rfl tb3 (ev1 rfl) rfl rfl) ?_
                refine zag rfl rfl (op_ixl rfl ar70 (ev1 rfl) (ev1 rfl) (fun _ => by omega)) ?_
                refine zag rfl rfl (zam rfl tb3 (ev1 rfl) rfl rfl) ?_
                refine zag rfl rfl (op_build (ps := [(0, .tmp 104), (1, .tmp 106)]) rfl fl34 zr34 (vc (ev1 rfl) (vc (ev1 rfl) vn)) rfl rfl) ?_
                refine zag rfl rfl (op_ixl rfl ar70 (ev1 rfl) (ev1 rfl) (fun _ => by omega)) ?_
                refine zag rfl rfl (zam rfl tb3 (ev1 rfl) rfl rfl) ?_
                refine zag rfl rfl (op_ixl rfl ar70 (ev1 rfl) (ev1 rfl) (fun _ => by omega)) ?_
                refine zag rfl rfl (zam rfl tb3 (ev1 rfl) rfl rfl) ?_
                refine zag rfl rfl (op_build (ps := [(0, .tmp 109), (1, .tmp 111)]) rfl fl34 zr34 (vc (ev1 rfl) (vc (ev1 rfl) vn)) rfl rfl) ?_
                refine zag rfl rfl (op_ixl rfl ar70 (ev1 rfl) (ev1 rfl) (fun _ => by omega)) ?_
                refine zag rfl rfl (zam rfl tb3 (ev1 rfl) rfl rfl) ?_
                refine lex_w rfl rfl (op_alloc 3 rfl zr34 rfl) rfl (by simp only [upd, zaa, za]; exact rfl) ?_
                refine lex_w rfl rfl (op_alloc 4 rfl zr34 rfl) rfl (by simp only [upd, zaa, za]; exact rfl) ?_
                refine lex_s rfl rfl (op_stwa rfl tb34 (ev1 rfl) (ev1 rfl) rfl rfl rfl rfl) rfl (by simp only [upd, zaa, za]; exact rfl) ?_
                refine lex_s rfl rfl (op_stwa rfl tb34 (ev1 rfl) (ev1 rfl) rfl rfl rfl rfl) rfl (by simp only [upd, zaa, za]; exact rfl) ?_
                refine zag rfl rfl (zac (.inr rfl) (ev1 rfl)) ?_
                refine lex_nil ?_
                refine zaf ?_
                by_cases hon : (onP w h (⟨l[i].1, l[i].2.1⟩ : P2) && onP w h (⟨l[i].2.2.1, l[i].2.2.2.1⟩ : P2)) = true
                · by_cases hh : (rgF w h (ts.take 17) l[i].2.2.2.2 (⟨l[i].1, l[i].2.1⟩ : P2)).has (⟨l[i].2.2.1, l[i].2.2.2.1⟩ : P2) = true
                  · have hbad : badT l[i].2.2.2.2 = false := by simpa using hbad
                    have hon2 := Bool.and_eq_true_iff.1 hon
                    have hu := onP_in hc.may _ hon2.2
                    have hu2 : (0 ≤ l[i].2.2.1 ∧ l[i].2.2.1 < 32) ∧ 0 ≤ l[i].2.2.2.1 ∧ l[i].2.2.2.1 < 32 := hu
                    have hat := rgF_le (ts := (ts.take 17)) (tol := l[i].2.2.2.2) hc.may hon2.1 hu
                    refine zad ?_
                    refine zab rfl rfl rfl (zac (.inl rfl) (ev1 rfl)) ?_
                    refine zab rfl rfl rfl (op_ldw rfl tb34 (ev1 rfl) rfl rfl) ?_
                    refine zab rfl rfl rfl (op_ldw rfl tb34 (ev1 rfl) rfl rfl) ?_
                    refine zab rfl rfl rfl (zac (.inl rfl) (ev1 rfl)) ?_
                    refine zab rfl rfl rfl (zah [] [] [] rfl (ev1 rfl) (ec (ev1 rfl) (ec (ev1 rfl) (ec (ev1 rfl) (ec (ev1 rfl) en)))) rfl rfl (steps_d w h _ (ts.take 17) (dpR_ok _) hc (take_rng hg 17) (⟨l[i].1, l[i].2.1⟩ : P2) (⟨l[i].2.2.1, l[i].2.2.2.1⟩ : P2) l[i].2.2.2.2 (refE_k2 hbad hon) hh) rfl rfl rfl rfl rfl rfl) ?_
                    refine zab rfl rfl rfl (zac (.inl rfl) (ev1 rfl)) ?_
                    refine zab rfl rfl rfl (op_ext rfl (ev1 rfl) rfl) ?_
                    refine zab rfl rfl rfl (op_ext rfl (ev1 rfl) rfl) ?_
                    refine zab rfl rfl rfl (zac (.inr rfl) (ev1 rfl)) ?_
                    refine zab rfl rfl rfl (zac (.inr rfl) (ev1 rfl)) ?_
                    refine zae ?_
                    refine zaf ?_
                    refine zad ?_
                    refine zab rfl rfl rfl (zac (.inr rfl) (ev1 rfl)) ?_
                    refine zab rfl rfl rfl (zac (.inr rfl) (ev1 rfl)) ?_
                    refine zae ?_
                    refine zaf ?_
                    refine zaf ?_
                    refine zad ?_
                    refine zab rfl rfl rfl (zac (.inl rfl) (ev1 rfl)) ?_
                    refine zab rfl rfl rfl ((zah [] [] [] rfl (ev1 rfl) (ec (ev1 rfl) en) rfl rfl (rtol_d l[i].2.2.2.2) rfl rfl rfl rfl rfl rfl).cast (d' := .val (.bool true)) (by rw [hbad]; rfl)) ?_
                    refine zae ?_
                    refine dwp_if_t rfl (rfl) ?_
                    refine zaf ?_
                    refine zad ?_
                    refine zab rfl rfl rfl (zac (.inr rfl) (ev1 rfl)) ?_
                    refine zae ?_
                    refine zaf ?_
                    refine zad ?_
                    refine zab rfl rfl rfl (op_ldmw rfl tb24 (ev1 rfl) rfl rfl) ?_
                    refine zab rfl rfl rfl (op_ldw rfl tb34 (ev1 rfl) rfl rfl) ?_
                    refine zab rfl rfl rfl ((zah [] [] [] rfl (ev1 rfl) (ec (ev1 rfl) (ec (ev1 rfl) en)) rfl rfl (ron_d w h (ts.take 17) hc (⟨l[i].1, l[i].2.1⟩ : P2)) rfl rfl rfl rfl rfl rfl).cast (d' := .val (.bool true)) (by rw [hon2.1])) ?_
                    refine zab rfl rfl rfl (zac (.inl rfl) (ev1 rfl)) ?_
                    refine walk_k (gd_t (b := true) rfl rfl rfl) rfl rfl rfl (op_ldmw rfl tb24 (ev1 rfl) rfl rfl) (by simp only [upd, zaa, za]; exact rfl) ?_
                    refine walk_k (gd_t (b := true) rfl rfl rfl) rfl rfl rfl (op_ldw rfl tb34 (ev1 rfl) rfl rfl) (by simp only [upd, zaa, za]; exact rfl) ?_
                    refine walk_k (gd_t (b := true) rfl rfl rfl) rfl rfl rfl ((zah [] [] [] rfl (ev1 rfl) (ec (ev2 rfl) (ec (ev2 rfl) en)) rfl rfl (ron_d w h (ts.take 17) hc (⟨l[i].2.2.1, l[i].2.2.2.1⟩ : P2)) rfl rfl rfl rfl rfl rfl).cast (d' := .val (.bool true)) (by rw [hon2.2])) (by simp only [upd, zaa, za]; exact rfl) ?_
                    refine zab rfl rfl rfl ((op_and rfl (ev1 rfl) (ev3 rfl (fun _ => rfl))).cast (d' := .val (.bool true)) (by rfl)) ?_
                    refine zae ?_
                    refine dwp_if_t rfl (rfl) ?_
                    refine zaf ?_
                    refine dwp_draw [([1], []), ([3], []), ([], []), ([], []), ([], []), ([], []), ([4], []), ([], []), ([], []), ([4], []), ([], []), ([], [])] mixed (by kernel_rfl) ?_
                    refine zag rfl rfl (op_ldmw rfl tb24 (ev1 rfl) rfl rfl) ?_
                    refine zag rfl rfl (op_ldw rfl tb34 (ev1 rfl) rfl rfl) ?_
                    refine zag rfl rfl (zac (.inl rfl) (ev1 rfl)) ?_
                    refine zag rfl rfl ((op_build0a rfl ar45 zr45).cast (d' := .val (.agg (fV zFD).toArray)) (by rw [← fV_zero])) ?_
                    refine zag rfl rfl ((zah [] [] [] rfl (ev1 rfl) (ec (ev1 rfl) (ec (ev1 rfl) (ec (ev1 rfl) (ec (ev1 rfl) en)))) rfl rfl (rgrown_d w h (ts.take 17) hc (take_rng hg 17) (⟨l[i].1, l[i].2.1⟩ : P2) hon2.1 l[i].2.2.2.2 zFD) rfl rfl rfl rfl rfl rfl).cast (d' := .val (.agg (fV (rgF w h (ts.take 17) l[i].2.2.2.2 (⟨l[i].1, l[i].2.1⟩ : P2))).toArray)) (by rw [grF_zero])) ?_
                    refine zag rfl rfl (op_fa rfl fo34_1 (ev1 rfl)) ?_
                    refine zag rfl rfl (zam rfl tb3 (ev1 rfl) rfl rfl) ?_
                    refine zag rfl rfl (op_ixwr (l[i].2.2.2.1.toNat) rfl av45 (ev_ofagg (ev1 rfl)) (ev1 rfl) (fun _ => by omega) (fun _ => by omega) (fV_twol (p := (⟨l[i].2.2.1, l[i].2.2.2.1⟩ : P2)) hu)) ?_
                    refine zag rfl rfl (op_fa rfl fo34_0 (ev1 rfl)) ?_
                    refine zag rfl rfl (zam rfl tb3 (ev1 rfl) rfl rfl) ?_
                    refine zag rfl rfl (op_ixw (l[i].2.2.1.toNat) rfl aw43 (ev1 rfl) (ev1 rfl) (fun _ => by omega) (by omega) (fV_two (p := (⟨l[i].2.2.1, l[i].2.2.2.1⟩ : P2)) hu)) ?_
                    refine zag rfl rfl (zac (.inr rfl) (ev1 rfl)) ?_
                    refine lex_nil ?_
                    refine zaf ?_
                    refine zad ?_
                    refine zab rfl rfl rfl (zac (.inl rfl) (ev1 rfl)) ?_
                    refine zab rfl rfl rfl ((op_gtr rfl (ev1 rfl) (ev1 rfl)).cast (d' := .val (.bool true)) (by rw [← hh, ← has_int])) ?_
                    refine zae ?_
                    refine dwp_if_t rfl (rfl) ?_
                    refine zad ?_
                    refine zab rfl rfl rfl (zac (.inl rfl) (ev1 rfl)) ?_
                    refine zab rfl rfl rfl (op_sub' rfl (ev1 rfl) (ev1 rfl) (fun _ => IntWalk.i64_in _ (by omega))) ?_
                    refine zab rfl rfl rfl (zac (.inr rfl) (ev1 rfl)) ?_
                    refine zab rfl rfl rfl (zac (.inr rfl) (ev1 rfl)) ?_
                    refine zae ?_
                    refine zaf ?_
                    refine zad ?_
                    refine zab rfl rfl rfl (zac (.inl rfl) (ev1 rfl)) ?_
                    refine zab rfl rfl rfl (zac (.inl rfl) (ev1 rfl)) ?_
                    refine zab rfl rfl rfl ((op_neq rfl (ev1 rfl) (ev1 rfl)).cast (d' := .val (.bool false)) (by simp)) ?_
                    refine zab rfl rfl rfl (zac (.inl rfl) (ev1 rfl)) ?_
                    refine walk_k (gd_f (b := false) rfl rfl rfl) rfl rfl rfl (zac (.inl rfl) (ev1 rfl)) (by simp only [upd, zaa, za]; exact rfl) ?_
                    refine walk_k (gd_f (b := false) rfl rfl rfl) rfl rfl rfl (zac (.inl rfl) (ev1 rfl)) (by simp only [upd, zaa, za]; exact rfl) ?_
                    refine walk_k (gd_f (b := false) rfl rfl rfl) rfl rfl rfl ((op_neq rfl (ev2 rfl) (ev2 rfl)).cast (d' := .val (.bool false)) (by kernel_rfl)) (by simp only [upd, zaa, za]; exact rfl) ?_
                    refine zab rfl rfl rfl ((op_or rfl (ev1 rfl) (ev3 rfl (fun _ => rfl))).cast (d' := .val (.bool false)) (by rfl)) ?_
                    refine zae ?_
                    refine dwp_if_f rfl (rfl) ?_
                    refine zak ?_
                    refine zad ?_
                    refine zab rfl rfl rfl (op_add' rfl (ev1 rfl) (ev1 rfl) (fun _ => IntWalk.i64_in _ (by omega))) ?_
                    refine zab rfl rfl rfl (zac (.inl rfl) (ev1 rfl)) ?_
                    refine zae ?_
                    refine ⟨i + 1, [0, 1], by omega, by simp only []; omega, rfl, ⟨rfl, rfl, rfl, rfl, rfl, trivial⟩, ⟨rfl, rfl, trivial⟩⟩
                  · have hbad : badT l[i].2.2.2.2 = false := by simpa using hbad
                    have hon2 := Bool.and_eq_true_iff.1 hon
                    have hu := onP_in hc.may _ hon2.2
                    have hu2 : (0 ≤ l[i].2.2.1 ∧ l[i].2.2.1 < 32) ∧ 0 ≤ l[i].2.2.2.1 ∧ l[i].2.2.2.1 < 32 := hu
                    have hat := rgF_le (ts := (ts.take 17)) (tol := l[i].2.2.2.2) hc.may hon2.1 hu
                    refine zad ?_
                    refine zab rfl rfl rfl (zac (.inl rfl) (ev1 rfl)) ?_
                    refine zab rfl rfl rfl (op_ldw rfl tb34 (ev1 rfl) rfl rfl) ?_
                    refine zab rfl rfl rfl (op_ldw rfl tb34 (ev1 rfl) rfl rfl) ?_
                    refine zab rfl rfl rfl (zac (.inl rfl) (ev1 rfl)) ?_
                    refine zab rfl rfl rfl (zah [] [] [] rfl (ev1 rfl) (ec (ev1 rfl) (ec (ev1 rfl) (ec (ev1 rfl) (ec (ev1 rfl) en)))) rfl rfl (steps_no w h _ (ts.take 17) (dpR_ok _) hc (take_rng hg 17) (⟨l[i].1, l[i].2.1⟩ : P2) (⟨l[i].2.2.1, l[i].2.2.2.1⟩ : P2) l[i].2.2.2.2 (refE_k2 hbad hon) (by simpa using hh)) rfl rfl rfl rfl rfl rfl) ?_
                    refine zab rfl rfl rfl (zac (.inl rfl) (ev1 rfl)) ?_
                    refine zab rfl rfl rfl (op_ext rfl (ev1 rfl) rfl) ?_
                    refine zab rfl rfl rfl (op_ext rfl (ev1 rfl) rfl) ?_
                    refine zab rfl rfl rfl (zac (.inr rfl) (ev1 rfl)) ?_
                    refine zab rfl rfl rfl (zac (.inr rfl) (ev1 rfl)) ?_
                    refine zae ?_
                    refine zaf ?_
                    refine zad ?_
                    refine zab rfl rfl rfl (zac (.inr rfl) (ev1 rfl)) ?_
                    refine zab rfl rfl rfl (zac (.inr rfl) (ev1 rfl)) ?_
                    refine zae ?_
                    refine zaf ?_
                    refine zaf ?_
                    refine zad ?_
                    refine zab rfl rfl rfl (zac (.inl rfl) (ev1 rfl)) ?_
                    refine zab rfl rfl rfl ((zah [] [] [] rfl (ev1 rfl) (ec (ev1 rfl) en) rfl rfl (rtol_d l[i].2.2.2.2) rfl rfl rfl rfl rfl rfl).cast (d' := .val (.bool true)) (by rw [hbad]; rfl)) ?_
                    refine zae ?_
                    refine dwp_if_t rfl (rfl) ?_
                    refine zaf ?_
                    refine zad ?_
                    refine zab rfl rfl rfl (zac (.inr rfl) (ev1 rfl)) ?_
                    refine zae ?_
                    refine zaf ?_
                    refine zad ?_
                    refine zab rfl rfl rfl (op_ldmw rfl tb24 (ev1 rfl) rfl rfl) ?_
                    refine zab rfl rfl rfl (op_ldw rfl tb34 (ev1 rfl) rfl rfl) ?_
                    refine zab rfl rfl rfl ((zah [] [] [] rfl (ev1 rfl) (ec (ev1 rfl) (ec (ev1 rfl) en)) rfl rfl (ron_d w h (ts.take 17) hc (⟨l[i].1, l[i].2.1⟩ : P2)) rfl rfl rfl rfl rfl rfl).cast (d' := .val (.bool true)) (by rw [hon2.1])) ?_
                    refine zab rfl rfl rfl (zac (.inl rfl) (ev1 rfl)) ?_
                    refine walk_k (gd_t (b := true) rfl rfl rfl) rfl rfl rfl (op_ldmw rfl tb24 (ev1 rfl) rfl rfl) (by simp only [upd, zaa, za]; exact rfl) ?_
                    refine walk_k (gd_t (b := true) rfl rfl rfl) rfl rfl rfl (op_ldw rfl tb34 (ev1 rfl) rfl rfl) (by simp only [upd, zaa, za]; exact rfl) ?_
                    refine walk_k (gd_t (b := true) rfl rfl rfl) rfl rfl rfl ((zah [] [] [] rfl (ev1 rfl) (ec (ev2 rfl) (ec (ev2 rfl) en)) rfl rfl (ron_d w h (ts.take 17) hc (⟨l[i].2.2.1, l[i].2.2.2.1⟩ : P2)) rfl rfl rfl rfl rfl rfl).cast (d' := .val (.bool true)) (by rw [hon2.2])) (by simp only [upd, zaa, za]; exact rfl) ?_
                    refine zab rfl rfl rfl ((op_and rfl (ev1 rfl) (ev3 rfl (fun _ => rfl))).cast (d' := .val (.bool true)) (by rfl)) ?_
                    refine zae ?_
                    refine dwp_if_t rfl (rfl) ?_
                    refine zaf ?_
                    refine dwp_draw [([1], []), ([3], []), ([], []), ([], []), ([], []), ([], []), ([4], []), ([], []), ([], []), ([4], []), ([], []), ([], [])] mixed (by kernel_rfl) ?_
                    refine zag rfl rfl (op_ldmw rfl tb24 (ev1 rfl) rfl rfl) ?_
                    refine zag rfl rfl (op_ldw rfl tb34 (ev1 rfl) rfl rfl) ?_
                    refine zag rfl rfl (zac (.inl rfl) (ev1 rfl)) ?_
                    refine zag rfl rfl ((op_build0a rfl ar45 zr45).cast (d' := .val (.agg (fV zFD).toArray)) (by rw [← fV_zero])) ?_
                    refine zag rfl rfl ((zah [] [] [] rfl (ev1 rfl) (ec (ev1 rfl) (ec (ev1 rfl) (ec (ev1 rfl) (ec (ev1 rfl) en)))) rfl rfl (rgrown_d w h (ts.take 17) hc (take_rng hg 17) (⟨l[i].1, l[i].2.1⟩ : P2) hon2.1 l[i].2.2.2.2 zFD) rfl rfl rfl rfl rfl rfl).cast (d' := .val (.agg (fV (rgF w h (ts.take 17) l[i].2.2.2.2 (⟨l[i].1, l[i].2.1⟩ : P2))).toArray)) (by rw [grF_zero])) ?_
                    refine zag rfl rfl (op_fa rfl fo34_1 (ev1 rfl)) ?_
                    refine zag rfl rfl (zam rfl tb3 (ev1 rfl) rfl rfl) ?_
                    refine zag rfl rfl (op_ixwr (l[i].2.2.2.1.toNat) rfl av45 (ev_ofagg (ev1 rfl)) (ev1 rfl) (fun _ => by omega) (fun _ => by omega) (fV_twol (p := (⟨l[i].2.2.1, l[i].2.2.2.1⟩ : P2)) hu)) ?_
                    refine zag rfl rfl (op_fa rfl fo34_0 (ev1 rfl)) ?_
                    refine zag rfl rfl (zam rfl tb3 (ev1 rfl) rfl rfl) ?_
                    refine zag rfl rfl (op_ixw (l[i].2.2.1.toNat) rfl aw43 (ev1 rfl) (ev1 rfl) (fun _ => by omega) (by omega) (fV_two (p := (⟨l[i].2.2.1, l[i].2.2.2.1⟩ : P2)) hu)) ?_
                    refine zag rfl rfl (zac (.inr rfl) (ev1 rfl)) ?_
                    refine lex_nil ?_
                    refine zaf ?_
                    refine zad ?_
                    refine zab rfl rfl rfl (zac (.inl rfl) (ev1 rfl)) ?_
                    refine zab rfl rfl rfl ((op_gtr rfl (ev1 rfl) (ev1 rfl)).cast (d' := .val (.bool false)) (by rw [← (Bool.not_eq_true _).mp hh, ← has_int])) ?_
                    refine zae ?_
                    refine dwp_if_f rfl (rfl) ?_
                    refine zak ?_
                    refine zaf ?_
                    refine zad ?_
                    refine zab rfl rfl rfl (zac (.inl rfl) (ev1 rfl)) ?_
                    refine zab rfl rfl rfl (zac (.inl rfl) (ev1 rfl)) ?_
                    refine zab rfl rfl rfl ((op_neq rfl (ev1 rfl) (ev1 rfl)).cast (d' := .val (.bool false)) (by kernel_rfl)) ?_
                    refine zab rfl rfl rfl (zac (.inl rfl) (ev1 rfl)) ?_
                    refine walk_k (gd_f (b := false) rfl rfl rfl) rfl rfl rfl (zac (.inl rfl) (ev1 rfl)) (by simp only [upd, zaa, za]; exact rfl) ?_
                    refine walk_k (gd_f (b := false) rfl rfl rfl) rfl rfl rfl (zac (.inl rfl) (ev1 rfl)) (by simp only [upd, zaa, za]; exact rfl) ?_
                    refine walk_k (gd_f (b := false) rfl rfl rfl) rfl rfl rfl ((op_neq rfl (ev2 rfl) (ev2 rfl)).cast (d' := .val (.bool false)) (by kernel_rfl)) (by simp only [upd, zaa, za]; exact rfl) ?_
                    refine zab rfl rfl rfl ((op_or rfl (ev1 rfl) (ev3 rfl (fun _ => rfl))).cast (d' := .val (.bool false)) (by rfl)) ?_
                    refine zae ?_
                    refine dwp_if_f rfl (rfl) ?_
                    refine zak ?_
                    refine zad ?_
                    refine zab rfl rfl rfl (op_add' rfl (ev1 rfl) (ev1 rfl) (fun _ => IntWalk.i64_in _ (by omega))) ?_
                    refine zab rfl rfl rfl (zac (.inl rfl) (ev1 rfl)) ?_
                    refine zae ?_
                    refine ⟨i + 1, [0, 1], by omega, by simp only []; omega, rfl, ⟨rfl, rfl, rfl, rfl, rfl, trivial⟩, ⟨rfl, rfl, trivial⟩⟩
                · have hbad : badT l[i].2.2.2.2 = false := by simpa using hbad
                  have hon : (onP w h (⟨l[i].1, l[i].2.1⟩ : P2) && onP w h (⟨l[i].2.2.1, l[i].2.2.2.1⟩ : P2)) = false := by simpa using hon
                  refine zad ?_
                  refine zab rfl rfl rfl (zac (.inl rfl) (ev1 rfl)) ?_
                  refine zab rfl rfl rfl (op_ldw rfl tb34 (ev1 rfl) rfl rfl) ?_
                  refine zab rfl rfl rfl (op_ldw rfl tb34 (ev1 rfl) rfl rfl) ?_
                  refine zab rfl rfl rfl (zac (.inl rfl) (ev1 rfl)) ?_
                  refine zab rfl rfl rfl (zah [] [] [] rfl (ev1 rfl) (ec (ev1 rfl) (ec (ev1 rfl) (ec (ev1 rfl) (ec (ev1 rfl) en)))) rfl rfl (steps_off w h _ (ts.take 17) (dpR_ok _) hc (take_rng hg 17) (⟨l[i].1, l[i].2.1⟩ : P2) (⟨l[i].2.2.1, l[i].2.2.2.1⟩ : P2) l[i].2.2.2.2 hbad hon) rfl rfl rfl rfl rfl rfl) ?_
                  refine zab rfl rfl rfl (zac (.inl rfl) (ev1 rfl)) ?_
                  refine zab rfl rfl rfl (op_ext rfl (ev1 rfl) rfl) ?_
                  refine zab rfl rfl rfl (op_ext rfl (ev1 rfl) rfl) ?_
                  refine zab rfl rfl rfl (zac (.inr rfl) (ev1 rfl)) ?_
                  refine zab rfl rfl rfl (zac (.inr rfl) (ev1 rfl)) ?_
                  refine zae ?_
                  refine zaf ?_
                  refine zad ?_
                  refine zab rfl rfl rfl (zac (.inr rfl) (ev1 rfl)) ?_
                  refine zab rfl rfl rfl (zac (.inr rfl) (ev1 rfl)) ?_
                  refine zae ?_
                  refine zaf ?_
                  refine zaf ?_
                  refine zad ?_
                  refine zab rfl rfl rfl (zac (.inl rfl) (ev1 rfl)) ?_
                  refine zab rfl rfl rfl ((zah [] [] [] rfl (ev1 rfl) (ec (ev1 rfl) en) rfl rfl (rtol_d l[i].2.2.2.2) rfl rfl rfl rfl rfl rfl).cast (d' := .val (.bool true)) (by rw [hbad]; rfl)) ?_
                  refine zae ?_
                  refine dwp_if_t rfl (rfl) ?_
                  refine zaf ?_
                  refine zad ?_
                  refine zab rfl rfl rfl (zac (.inr rfl) (ev1 rfl)) ?_
                  refine zae ?_
                  refine zaf ?_
                  refine zad ?_
                  refine zab rfl rfl rfl (op_ldmw rfl tb24 (ev1 rfl) rfl rfl) ?_
                  refine zab rfl rfl rfl (op_ldw rfl tb34 (ev1 rfl) rfl rfl) ?_
                  refine zab rfl rfl rfl (zah [] [] [] rfl (ev1 rfl) (ec (ev1 rfl) (ec (ev1 rfl) en)) rfl rfl (ron_d w h (ts.take 17) hc (⟨l[i].1, l[i].2.1⟩ : P2)) rfl rfl rfl rfl rfl rfl) ?_
                  refine zab rfl rfl rfl (zac (.inl rfl) (ev1 rfl)) ?_
                  refine walk_gr (gd_t rfl rfl rfl) rfl rfl rfl (op_ldmw rfl tb24 (ev1 rfl) rfl rfl) ?_
                  refine walk_gr (gd_t rfl rfl rfl) rfl rfl rfl (op_ldw rfl tb34 (ev1 rfl) rfl rfl) ?_
                  refine walk_gr (gd_t rfl rfl rfl) rfl rfl rfl (zah [] [] [] rfl (ev1 rfl) (ec (ev2 rfl) (ec (ev2 rfl) en)) rfl rfl (ron_d w h (ts.take 17) hc (⟨l[i].2.2.1, l[i].2.2.2.1⟩ : P2)) rfl rfl rfl rfl rfl rfl) ?_
                  refine zab rfl rfl rfl (op_and rfl (ev1 rfl) (ev3 rfl id)) ?_
                  refine zae ?_
                  refine dwp_if_f rfl (by rw [← hon]) ?_
                  refine zak ?_
                  refine zaf ?_
                  refine zad ?_
                  refine zab rfl rfl rfl (zac (.inl rfl) (ev1 rfl)) ?_
                  refine zab rfl rfl rfl (zac (.inl rfl) (ev1 rfl)) ?_
                  refine zab rfl rfl rfl ((op_neq rfl (ev1 rfl) (ev1 rfl)).cast (d' := .val (.bool false)) (by kernel_rfl)) ?_
                  refine zab rfl rfl rfl (zac (.inl rfl) (ev1 rfl)) ?_
                  refine walk_k (gd_f (b := false) rfl rfl rfl) rfl rfl rfl (zac (.inl rfl) (ev1 rfl)) (by simp only [upd, zaa, za]; exact rfl) ?_
                  refine walk_k (gd_f (b := false) rfl rfl rfl) rfl rfl rfl (zac (.inl rfl) (ev1 rfl)) (by simp only [upd, zaa, za]; exact rfl) ?_
                  refine walk_k (gd_f (b := false) rfl rfl rfl) rfl rfl rfl ((op_neq rfl (ev2 rfl) (ev2 rfl)).cast (d' := .val (.bool false)) (by kernel_rfl)) (by simp only [upd, zaa, za]; exact rfl) ?_
                  refine zab rfl rfl rfl ((op_or rfl (ev1 rfl) (ev3 rfl (fun _ => rfl))).cast (d' := .val (.bool false)) (by rfl)) ?_
                  refine zae ?_
                  refine dwp_if_f rfl (rfl) ?_
                  refine zak ?_
                  refine zad ?_
                  refine zab rfl rfl rfl (op_add' rfl (ev1 rfl) (ev1 rfl) (fun _ => IntWalk.i64_in _ (by omega))) ?_
                  refine zab rfl rfl rfl (zac (.inl rfl) (ev1 rfl)) ?_
                  refine zae ?_
                  refine ⟨i + 1, [0, 1], by omega, by simp only []; omega, rfl, ⟨rfl, rfl, rfl, rfl, rfl, trivial⟩, ⟨rfl, rfl, trivial⟩⟩
          · try simp only [decide_eq_true_eq, decide_eq_false_iff_not, beq_iff_eq, bne_iff_ne, beq_eq_false_iff_ne, bne_eq_false_iff_eq, Bool.not_eq_true', Bool.not_eq_false', Bool.and_eq_true, Bool.or_eq_true, Bool.or_eq_false_iff, ne_eq, Decidable.not_not, Int.not_lt, Int.not_le] at c28
            refine dwp_exit ?_
            refine zaf ?_
            refine zad ?_
            refine zab rfl rfl rfl (zah [] [] [] rfl (ev1 rfl) (ec (ev1 rfl) (ec (evnil 3 (ev1 rfl)) en)) rfl rfl (rim_0 []) rfl rfl rfl rfl rfl rfl) ?_
            refine zab rfl rfl rfl (zac (.inl rfl) (ev1 rfl)) ?_
            refine zab rfl rfl rfl (op_ext rfl (ev1 rfl) rfl) ?_
            refine zab rfl rfl rfl (op_ext rfl (ev1 rfl) rfl) ?_
            refine zab rfl rfl rfl (zac (.inr rfl) (ev1 rfl)) ?_
            refine zab rfl rfl rfl (zac (.inr rfl) (ev1 rfl)) ?_
            refine zae ?_
            refine zaf ?_
            refine zad ?_
            refine zab rfl rfl rfl (op_build0 rfl fl34 zr34) ?_
            refine zab rfl rfl rfl (op_build0 rfl fl34 zr34) ?_
            refine zab rfl rfl rfl (zah [] [] [] rfl (ev1 rfl) (ec (ev1 rfl) (ec (ev1 rfl) (ec (ev1 rfl) (ec (ev1 rfl) en)))) rfl rfl (steps_0 ⟨0, 0⟩ ⟨0, 0⟩ 0) rfl rfl rfl rfl rfl rfl) ?_
            refine zab rfl rfl rfl (zac (.inl rfl) (ev1 rfl)) ?_
            refine zab rfl rfl rfl (op_ext rfl (ev1 rfl) rfl) ?_
            refine zab rfl rfl rfl (op_ext rfl (ev1 rfl) rfl) ?_
            refine zab rfl rfl rfl (zac (.inr rfl) (ev1 rfl)) ?_
            refine zab rfl rfl rfl (zac (.inr rfl) (ev1 rfl)) ?_
            refine zae ?_
            refine zaf ?_
            refine zad ?_
            refine zab rfl rfl rfl (zac (.inl rfl) (ev1 rfl)) ?_
            refine zab rfl rfl rfl ((op_eql rfl (ev1 rfl) (ev1 rfl)).cast (d' := .val (.bool true)) (by kernel_rfl)) ?_
            refine zab rfl rfl rfl (zac (.inl rfl) (ev1 rfl)) ?_
            refine walk_k (gd_t (b := true) rfl rfl rfl) rfl rfl rfl (zac (.inl rfl) (ev1 rfl)) (by simp only [upd, zaa, za]; exact rfl) ?_
            refine walk_k (gd_t (b := true) rfl rfl rfl) rfl rfl rfl ((op_eql rfl (ev2 rfl) (ev1 rfl)).cast (d' := .val (.bool true)) (by kernel_rfl)) (by simp only [upd, zaa, za]; exact rfl) ?_
            refine zab rfl rfl rfl ((op_and rfl (ev1 rfl) (ev3 rfl (fun _ => rfl))).cast (d' := .val (.bool true)) (by rfl)) ?_
            refine zab rfl rfl rfl (zac (.inr rfl) (ev1 rfl)) ?_
            refine zae ?_
            refine zao ?_
            refine kend0 (rs1 rfl (rv_t rfl)) rfl ?_
            rfl
    · refine zad ?_
      refine zab rfl rfl rfl (zac (.inl rfl) (ev1 rfl)) ?_
      refine zab rfl rfl rfl (zac (.inl rfl) (ev1 rfl)) ?_
      refine zab rfl rfl rfl (zah [] [] [] rfl (ev1 rfl) (ec (ev1 rfl) (ec (ev1 rfl) en)) rfl rfl (rim_n w h _ (ts.take 17) (dpR_ok _) hc (take_rng hg 17) (z.take 40) (by omega) hk2) rfl rfl rfl rfl rfl rfl) ?_
      refine zab rfl rfl rfl (zac (.inl rfl) (ev1 rfl)) ?_
      refine zab rfl rfl rfl (op_ext rfl (ev1 rfl) rfl) ?_
      refine zab rfl rfl rfl (op_ext rfl (ev1 rfl) rfl) ?_
      refine zab rfl rfl rfl (zac (.inr rfl) (ev1 rfl)) ?_
      refine zab rfl rfl rfl (zac (.inr rfl) (ev1 rfl)) ?_
      refine zae ?_
      refine zaf ?_
      refine zad ?_
      refine zab rfl rfl rfl (zac (.inr rfl) (ev1 rfl)) ?_
      refine zae ?_
      refine zaf ?_
      refine zad ?_
      refine zab rfl rfl rfl (zac (.inr rfl) (ev1 rfl)) ?_
      refine zae ?_
      refine zaf ?_
      refine zaf ?_
      refine zad ?_
      refine zab rfl rfl rfl (zac (.inl rfl) (ev1 rfl)) ?_
      refine zab rfl rfl rfl ((zah [] [] [] rfl (ev1 rfl) (ec (ev1 rfl) en) rfl rfl (rright_d (z.take 40)) rfl rfl rfl rfl rfl rfl).cast (d' := .val (.bool false)) (by rw [decide_eq_false hk2])) ?_
      refine zae ?_
      refine dwp_if_f rfl (rfl) ?_
      refine zak ?_
      refine zaf ?_
      refine zaf ?_
      refine zad ?_
      refine zab rfl rfl rfl (zac (.inl rfl) (ev1 rfl)) ?_
      refine zab rfl rfl rfl ((op_eql rfl (ev1 rfl) (ev1 rfl)).cast (d' := .val (.bool false)) (by kernel_rfl)) ?_
      refine zae ?_
      refine dwp_if_f rfl (rfl) ?_
      refine zak ?_
      refine zaf ?_
      refine zaf ?_
      refine zad ?_
      refine zab rfl rfl rfl (zac (.inl rfl) (ev1 rfl)) ?_
      refine zab rfl rfl rfl (zac (.inl rfl) (ev1 rfl)) ?_
      refine zab rfl rfl rfl ((op_neq rfl (ev1 rfl) (ev1 rfl)).cast (d' := .val (.bool false)) (by kernel_rfl)) ?_
      refine zab rfl rfl rfl (zac (.inl rfl) (ev1 rfl)) ?_
      refine walk_k (gd_f (b := false) rfl rfl rfl) rfl rfl rfl (zac (.inl rfl) (ev1 rfl)) (by simp only [upd, zaa, za]; exact rfl) ?_
      refine walk_k (gd_f (b := false) rfl rfl rfl) rfl rfl rfl (zac (.inl rfl) (ev1 rfl)) (by simp only [upd, zaa, za]; exact rfl) ?_
      refine walk_k (gd_f (b := false) rfl rfl rfl) rfl rfl rfl ((zah [] [] [] rfl (ev1 rfl) (ec (evnil 2 (ev2 rfl)) (ec (evnil 2 (ev2 rfl)) en)) rfl rfl (equalPt [] []) rfl rfl rfl rfl rfl rfl).cast (d' := .val (.bool true)) (by rfl)) (by simp only [upd, zaa, za]; exact rfl) ?_
      refine walk_k (gd_f (b := false) rfl rfl rfl) rfl rfl rfl ((op_not rfl (ev2 rfl)).cast (d' := .val (.bool false)) (by kernel_rfl)) (by simp only [upd, zaa, za]; exact rfl) ?_
      refine zab rfl rfl rfl ((op_or rfl (ev1 rfl) (ev3 rfl (fun _ => rfl))).cast (d' := .val (.bool false)) (by rfl)) ?_
      refine zae ?_
      refine dwp_if_f rfl (rfl) ?_
      refine zak ?_
      refine zaf ?_
      refine zaf ?_
      refine zad ?_
      refine zab rfl rfl rfl (zac (.inl rfl) (ev1 rfl)) ?_
      refine zab rfl rfl rfl (op_len rfl sl62 (ev1 rfl)) ?_
      refine zab rfl rfl rfl (zac (.inl rfl) (ev1 rfl)) ?_
      refine zae ?_
      refine zal ?_
      refine dwp_loopS ⟨hs0, rfl⟩ (α := Nat) (fun i => [(96, .val (.int .i64 (i : Int)))]) [(7, _), (8, _), (94, _), (95, _)] (fun i => []) [_, _] (fun i => i ≤ l.length) (fun i => l.length - i) 0 [0, 1] (Nat.zero_le _) rfl ⟨rfl, rfl, rfl, rfl, trivial⟩ ⟨rfl, trivial⟩ ⟨rfl, rfl, trivial⟩ ?_
      intro i hx
      simp only [upd, zaa, za, List.cons_append, List.nil_append]
      have hi0 := hx
      refine zaf ?_
      refine zad ?_
      refine zab rfl rfl rfl (op_lss rfl (ev1 rfl) (ev1 rfl)) ?_
      refine zae ?_
      refine zaf ?_
      refine dwp_cond rfl (fun c46 => ?_) (fun c46 => ?_)
      · try simp only [decide_eq_true_eq, decide_eq_false_iff_not, beq_iff_eq, bne_iff_ne, beq_eq_false_iff_ne, bne_eq_false_iff_eq, Bool.not_eq_true', Bool.not_eq_false', Bool.and_eq_true, Bool.or_eq_true, Bool.or_eq_false_iff, ne_eq, Decidable.not_not, Int.not_lt, Int.not_le] at c46
        refine zak ?_
        refine zaf ?_
        refine zal ?_
        refine zaf ?_
        have hi : i < l.length := by omega
        refine zai 1 (by simp only [holes, List.cons_append, List.nil_append]; exact rfl) ?_
        refine zad ?_
        refine zab rfl rfl rfl (zac (.inl rfl) (ev1 rfl)) ?_
        refine zab rfl rfl rfl (op_ixsr (j := i) rfl sl62 (ev1 rfl) (ev1 rfl) (fun _ => rfl) (by decide) (by omega) (by omega)) ?_
        refine zab rfl rfl rfl (op_ldwd rfl tb70 (ev1 rfl) rfl) ?_
        refine zaj rfl rfl rfl (op_alloc 2 rfl zr70 rfl) (by simp only [upd, zaa, za]; exact rfl) ?_
        refine zab rfl rfl rfl (zac (.inr rfl) (ev1 rfl)) ?_
        refine walk_s rfl rfl (op_stwa rfl tb70 (ev1 rfl) (ev1 rfl) rfl rfl rfl rfl) (by simp only [upd, zaa, za]; exact rfl) ?_
        refine zae ?_
        refine zaf ?_
        refine zaf ?_
        refine zad ?_
        refine zab rfl rfl rfl (zac (.inl rfl) (ev1 rfl)) ?_
        refine zab rfl rfl rfl (op_eql rfl (ev1 rfl) (ev1 rfl)) ?_
        refine zae ?_
        refine dwp_cond rfl (fun c47 => ?_) (fun c47 => ?_)
        · try simp only [decide_eq_true_eq, decide_eq_false_iff_not, beq_iff_eq, bne_iff_ne, beq_eq_false_iff_ne, bne_eq_false_iff_eq, Bool.not_eq_true', Bool.not_eq_false', Bool.and_eq_true, Bool.or_eq_true, Bool.or_eq_false_iff, ne_eq, Decidable.not_not, Int.not_lt, Int.not_le] at c47
          refine dwp_exit ?_
          refine zaf ?_
          refine zad ?_
          refine zab rfl rfl rfl (zah [] [] [] rfl (ev1 rfl) (ec (ev1 rfl) (ec (evnil 3 (ev1 rfl)) en)) rfl rfl (rim_0 []) rfl rfl rfl rfl rfl rfl) ?_
          refine zab rfl rfl rfl (zac (.inl rfl) (ev1 rfl)) ?_
          refine zab rfl rfl rfl (op_ext rfl (ev1 rfl) rfl) ?_
          refine zab rfl rfl rfl (op_ext rfl (ev1 rfl) rfl) ?_
          refine zab rfl rfl rfl (zac (.inr rfl) (ev1 rfl)) ?_
          refine zab rfl rfl rfl (zac (.inr rfl) (ev1 rfl)) ?_
          refine zae ?_
          refine zaf ?_
          refine zad ?_
          refine zab rfl rfl rfl (op_build0 rfl fl34 zr34) ?_
          refine zab rfl rfl rfl (op_build0 rfl fl34 zr34) ?_
          refine zab rfl rfl rfl (zah [] [] [] rfl (ev1 rfl) (ec (ev1 rfl) (ec (ev1 rfl) (ec (ev1 rfl) (ec (ev1 rfl) en)))) rfl rfl (steps_0 ⟨0, 0⟩ ⟨0, 0⟩ 0) rfl rfl rfl rfl rfl rfl) ?_
          refine zab rfl rfl rfl (zac (.inl rfl) (ev1 rfl)) ?_
          refine zab rfl rfl rfl (op_ext rfl (ev1 rfl) rfl) ?_
          refine zab rfl rfl rfl (op_ext rfl (ev1 rfl) rfl) ?_
          refine zab rfl rfl rfl (zac (.inr rfl) (ev1 rfl)) ?_
          refine zab rfl rfl rfl (zac (.inr rfl) (ev1 rfl)) ?_
          refine zae ?_
          refine zaf ?_
          refine zad ?_
          refine zab rfl rfl rfl (zac (.inl rfl) (ev1 rfl)) ?_
          refine zab rfl rfl rfl ((op_eql rfl (ev1 rfl) (ev1 rfl)).cast (d' := .val (.bool true)) (by kernel_rfl)) ?_
          refine zab rfl rfl rfl (zac (.inl rfl) (ev1 rfl)) ?_
          refine walk_k (gd_t (b := true) rfl rfl rfl) rfl rfl rfl (zac (.inl rfl) (ev1 rfl)) (by simp only [upd, zaa, za]; exact rfl) ?_
          refine walk_k (gd_t (b := true) rfl rfl rfl) rfl rfl rfl ((op_eql rfl (ev2 rfl) (ev1 rfl)).cast (d' := .val (.bool true)) (by kernel_rfl)) (by simp only [upd, zaa, za]; exact rfl) ?_
          refine zab rfl rfl rfl ((op_and rfl (ev1 rfl) (ev3 rfl (fun _ => rfl))).cast (d' := .val (.bool true)) (by rfl)) ?_
          refine zab rfl rfl rfl (zac (.inr rfl) (ev1 rfl)) ?_
          refine zae ?_
          refine zao ?_
          refine kend0 (rs1 rfl (rv_t rfl)) rfl ?_
          rfl
        · try simp only [decide_eq_true_eq, decide_eq_false_iff_not, beq_iff_eq, bne_iff_ne, beq_eq_false_iff_ne, bne_eq_false_iff_eq, Bool.not_eq_true', Bool.not_eq_false', Bool.and_eq_true, Bool.or_eq_true, Bool.or_eq_false_iff, ne_eq, Decidable.not_not, Int.not_lt, Int.not_le] at c47
          refine zak ?_
          refine zaf ?_
          by_cases hbad : badT l[i].2.2.2.2 = true
          · refine zai 2 (by simp only [holes, List.cons_append, List.nil_append]; exact rfl) ?_
            refine dwp_draw [([], []), ([2], []), ([], []), ([2], []), ([], []), ([], []), ([2], []), ([], []), ([2], []), ([], []), ([], []), ([2], []), ([3], [3]), ([4], [4]), ([3], [3]), ([4], [4]), ([], [])] mixed (by kernel_rfl) ?_
            refine zag rfl rfl (op_ixl rfl ar70 (ev1 rfl) (ev1 rfl) (fun _ => by omega)) ?_
            refine zag rfl rfl (zam rfl tb3 (ev1 rfl) rfl rfl) ?_
            refine zag rfl rfl (op_ixl rfl ar70 (ev1 rfl) (ev1 rfl) (fun _ => by omega)) ?_
            refine zag rfl rfl (zam rfl tb3 (ev1 rfl) rfl rfl) ?_
            refine zag rfl rfl (op_build (ps := [(0, .tmp 104), (1, .tmp 106)]) rfl fl34 zr34 (vc (ev1 rfl) (vc (ev1 rfl) vn)) rfl rfl) ?_
            refine zag rfl rfl (op_ixl rfl ar70 (ev1 rfl) (ev1 rfl) (fun _ => by omega)) ?_
            refine zag rfl rfl (zam rfl tb3 (ev1 rfl) rfl rfl) ?_
            refine zag rfl rfl (op_ixl rfl ar70 (ev1 rfl) (ev1 rfl) (fun _ => by omega)) ?_
            refine zag rfl rfl (zam rfl tb3 (ev1 rfl) rfl rfl) ?_
            refine zag rfl rfl (op_build (ps := [(0, .tmp 109), (1, .tmp 111)]) rfl fl34 zr34 (vc (ev1 rfl) (vc (ev1 rfl) vn)) rfl rfl) ?_
            refine zag rfl rfl (op_ixl rfl ar70 (ev1 rfl) (ev1 rfl) (fun _ => by omega)) ?_
            refine zag rfl rfl (zam rfl tb3 (ev1 rfl) rfl rfl) ?_
            refine lex_w rfl rfl (op_alloc 3 rfl zr34 rfl) rfl (by simp only [upd, zaa, za]; exact rfl) ?_
            refine lex_w rfl rfl (op_alloc 4 rfl zr34 rfl) rfl (by simp only [upd, zaa, za]; exact rfl) ?_
            refine lex_s rfl rfl (op_stwa rfl tb34 (ev1 rfl) (ev1 rfl) rfl rfl rfl rfl) rfl (by simp only [upd, zaa, za]; exact rfl) ?_
            refine lex_s rfl rfl (op_stwa rfl tb34 (ev1 rfl) (ev1 rfl) rfl rfl rfl rfl) rfl (by simp only [upd, zaa, za]; exact rfl) ?_
            refine zag rfl rfl (zac (.inr rfl) (ev1 rfl)) ?_
            refine lex_nil ?_
            refine zaf ?_
            refine zad ?_
            refine zab rfl rfl rfl (zac (.inl rfl) (ev1 rfl)) ?_
            refine zab rfl rfl rfl (op_ldw rfl tb34 (ev1 rfl) rfl rfl) ?_
            refine zab rfl rfl rfl (op_ldw rfl tb34 (ev1 rfl) rfl rfl) ?_
            refine zab rfl rfl rfl (zac (.inl rfl) (ev1 rfl)) ?_
            refine zab rfl rfl rfl (zah [] [] [] rfl (ev1 rfl) (ec (ev1 rfl) (ec (ev1 rfl) (ec (ev1 rfl) (ec (ev1 rfl) en)))) rfl rfl (steps_b w h _ (ts.take 17) (dpR_ok _) hc (take_rng hg 17) (⟨l[i].1, l[i].2.1⟩ : P2) (⟨l[i].2.2.1, l[i].2.2.2.1⟩ : P2) l[i].2.2.2.2 hbad) rfl rfl rfl rfl rfl rfl) ?_
            refine zab rfl rfl rfl (zac (.inl rfl) (ev1 rfl)) ?_
            refine zab rfl rfl rfl (op_ext rfl (ev1 rfl) rfl) ?_
            refine zab rfl rfl rfl (op_ext rfl (ev1 rfl) rfl) ?_
            refine zab rfl rfl rfl (zac (.inr rfl) (ev1 rfl)) ?_
            refine zab rfl rfl rfl (zac (.inr rfl) (ev1 rfl)) ?_
            refine zae ?_
            refine zaf ?_
            refine zad ?_
            refine zab rfl rfl rfl (zac (.inr rfl) (ev1 rfl)) ?_
            refine zab rfl rfl rfl (zac (.inr rfl) (ev1 rfl)) ?_
            refine zae ?_
            refine zaf ?_
            refine zaf ?_
            refine zad ?_
            refine zab rfl rfl rfl (zac (.inl rfl) (ev1 rfl)) ?_
            refine zab rfl rfl rfl ((zah [] [] [] rfl (ev1 rfl) (ec (ev1 rfl) en) rfl rfl (rtol_d l[i].2.2.2.2) rfl rfl rfl rfl rfl rfl).cast (d' := .val (.bool false)) (by rw [hbad]; rfl)) ?_
            refine zae ?_
            refine dwp_if_f rfl (rfl) ?_
            refine zak ?_
            refine zaf ?_
            refine zad ?_
            refine zab rfl rfl rfl (zac (.inl rfl) (ev1 rfl)) ?_
            refine zab rfl rfl rfl (zac (.inl rfl) (ev1 rfl)) ?_
            refine zab rfl rfl rfl ((op_neq rfl (ev1 rfl) (ev1 rfl)).cast (d' := .val (.bool false)) (by kernel_rfl)) ?_
            refine zab rfl rfl rfl (zac (.inl rfl) (ev1 rfl)) ?_
            refine walk_k (gd_f (b := false) rfl rfl rfl) rfl rfl rfl (zac (.inl rfl) (ev1 rfl)) (by simp only [upd, zaa, za]; exact rfl) ?_
            refine walk_k (gd_f (b := false) rfl rfl rfl) rfl rfl rfl (zac (.inl rfl) (ev1 rfl)) (by simp only [upd, zaa, za]; exact rfl) ?_
            refine walk_k (gd_f (b := false) rfl rfl rfl) rfl rfl rfl ((op_neq rfl (ev2 rfl) (ev2 rfl)).cast (d' := .val (.bool false)) (by kernel_rfl)) (by simp only [upd, zaa, za]; exact rfl) ?_
            refine zab rfl rfl rfl ((op_or rfl (ev1 rfl) (ev3 rfl (fun _ => rfl))).cast (d' := .val (.bool false)) (by rfl)) ?_
            refine zae ?_
            refine dwp_if_f rfl (rfl) ?_
            refine zak ?_
            refine zad ?_
            refine zab rfl rfl rfl (op_add' rfl (ev1 rfl) (ev1 rfl) (fun _ => IntWalk.i64_in _ (by omega))) ?_
            refine zab rfl rfl rfl (zac (.inl rfl) (ev1 rfl)) ?_
            refine zae ?_
            refine ⟨i + 1, [0, 1], by omega, by simp only []; omega, rfl, ⟨rfl, rfl, rfl, rfl, rfl, trivial⟩, ⟨rfl, rfl, trivial⟩⟩
          · refine zai 2 (by simp only [holes, List.cons_append, List.nil_append]; exact rfl) ?_
            refine dwp_draw [([], []), ([2], []), ([], []), ([2], []), ([], []), ([], []), ([2], []), ([], []), ([2], []), ([], []), ([], []), ([2], []), ([3], [3]), ([4], [4]), ([3], [3]), ([4], [4]), ([], [])] mixed (by kernel_rfl) ?_
            refine zag rfl rfl (op_ixl rfl ar70 (ev1 rfl) (ev1 rfl) (fun _ => by omega)) ?_
            refine zag rfl rfl (zam rfl tb3 (ev1 rfl) rfl rfl) ?_
            refine zag rfl rfl (op_ixl rfl ar70 (ev1 rfl) (ev1 rfl) (fun _ => by omega)) ?_
            refine zag rfl rfl (zam rfl tb3 (ev1 rfl) rfl rfl) ?_
            refine zag rfl rfl (op_build (ps := [(0, .tmp 104), (1, .tmp 106)]) rfl fl34 zr34 (vc (ev1 rfl) (vc (ev1 rfl) vn)) rfl rfl) ?_
            refine zag rfl rfl (op_ixl rfl ar70 (ev1 rfl) (ev1 rfl) (fun _ => by omega)) ?_
            refine zag rfl rfl (zam rfl tb3 (ev1 rfl) rfl rfl) ?_
            refine zag rfl rfl (op_ixl rfl ar70 (ev1 rfl) (ev1 rfl) (fun _ => by omega)) ?_
            refine zag rfl rfl (zam rfl tb3 (ev1 rfl) rfl rfl) ?_
            refine zag rfl rfl (op_build (ps := [(0, .tmp 109), (1, .tmp 111)]) rfl fl34 zr34 (vc (ev1 rfl) (vc (ev1 rfl) vn)) rfl rfl) ?_
            refine zag rfl rfl (op_ixl rfl ar70 (ev1 rfl) (ev1 rfl) (fun _ => by omega)) ?_
            refine zag rfl rfl (zam rfl tb3 (ev1 rfl) rfl rfl) ?_
            refine lex_w rfl rfl (op_alloc 3 rfl zr34 rfl) rfl (by simp only [upd, zaa, za]; exact rfl) ?_
            refine lex_w rfl rfl (op_alloc 4 rfl zr34 rfl) rfl (by simp only [upd, zaa, za]; exact rfl) ?_
            refine lex_s rfl rfl (op_stwa rfl tb34 (ev1 rfl) (ev1 rfl) rfl rfl rfl rfl) rfl (by simp only [upd, zaa, za]; exact rfl) ?_
            refine lex_s rfl rfl (op_stwa rfl tb34 (ev1 rfl) (ev1 rfl) rfl rfl rfl rfl) rfl (by simp only [upd, zaa, za]; exact rfl) ?_
            refine zag rfl rfl (zac (.inr rfl) (ev1 rfl)) ?_
            refine lex_nil ?_
            refine zaf ?_
            by_cases hon : (onP w h (⟨l[i].1, l[i].2.1⟩ : P2) && onP w h (⟨l[i].2.2.1, l[i].2.2.2.1⟩ : P2)) = true
            · by_cases hh : (rgF w h (ts.take 17) l[i].2.2.2.2 (⟨l[i].1, l[i].2.1⟩ : P2)).has (⟨l[i].2.2.1, l[i].2.2.2.1⟩ : P2) = true
              · have hbad : badT l[i].2.2.2.2 = false := by simpa using hbad
                have hon2 := Bool.and_eq_true_iff.1 hon
                have hu := onP_in hc.may _ hon2.2
                have hu2 : (0 ≤ l[i].2.2.1 ∧ l[i].2.2.1 < 32) ∧ 0 ≤ l[i].2.2.2.1 ∧ l[i].2.2.2.1 < 32 := hu
                have hat := rgF_le (ts := (ts.take 17)) (tol := l[i].2.2.2.2) hc.may hon2.1 hu
                refine zad ?_
                refine zab rfl rfl rfl (zac (.inl rfl) (ev1 rfl)) ?_
                refine zab rfl rfl rfl (op_ldw rfl tb34 (ev1 rfl) rfl rfl) ?_
                refine zab rfl rfl rfl (op_ldw rfl tb34 (ev1 rfl) rfl rfl) ?_
                refine zab rfl rfl rfl (zac (.inl rfl) (ev1 rfl)) ?_
                refine zab rfl rfl rfl (zah [] [] [] rfl (ev1 rfl) (ec (ev1 rfl) (ec (ev1 rfl) (ec (ev1 rfl) (ec (ev1 rfl) en)))) rfl rfl (steps_d w h _ (ts.take 17) (dpR_ok _) hc (take_rng hg 17) (⟨l[i].1, l[i].2.1⟩ : P2) (⟨l[i].2.2.1, l[i].2.2.2.1⟩ : P2) l[i].2.2.2.2 (refE_k2 hbad hon) hh) rfl rfl rfl rfl rfl rfl) ?_
                refine zab rfl rfl rfl (zac (.inl rfl) (ev1 rfl)) ?_
                refine zab rfl rfl rfl (op_ext rfl (ev1 rfl) rfl) ?_
                refine zab rfl rfl rfl (op_ext rfl (ev1 rfl) rfl) ?_
                refine zab rfl rfl rfl (zac (.inr rfl) (ev1 rfl)) ?_
                refine zab rfl rfl rfl (zac (.inr rfl) (ev1 rfl)) ?_
                refine zae ?_
                refine zaf ?_
                refine zad ?_
                refine zab rfl rfl rfl (zac (.inr rfl) (ev1 rfl)) ?_
                refine zab rfl rfl rfl (zac (.inr rfl) (ev1 rfl)) ?_
                refine zae ?_
                refine zaf ?_
                refine zaf ?_
                refine zad ?_
                refine zab rfl rfl rfl (zac (.inl rfl) (ev1 rfl)) ?_
                refine zab rfl rfl rfl ((zah [] [] [] rfl (ev1 rfl) (ec (ev1 rfl) en) rfl rfl (rtol_d l[i].2.2.2.2) rfl rfl rfl rfl rfl rfl).cast (d' := .val (.bool true)) (by rw [hbad]; rfl)) ?_
                refine zae ?_
                refine dwp_if_t rfl (rfl) ?_
                refine zaf ?_
                refine zad ?_
                refine zab rfl rfl rfl (zac (.inr rfl) (ev1 rfl)) ?_
                refine zae ?_
                refine zaf ?_
                refine zad ?_
                refine zab rfl rfl rfl (op_ldmw rfl tb24 (ev1 rfl) rfl rfl) ?_
                refine zab rfl rfl rfl (op_ldw rfl tb34 (ev1 rfl) rfl rfl) ?_
                refine zab rfl rfl rfl ((zah [] [] [] rfl (ev1 rfl) (ec (ev1 rfl) (ec (ev1 rfl) en)) rfl rfl (ron_d w h (ts.take 17) hc (⟨l[i].1, l[i].2.1⟩ : P2)) rfl rfl rfl rfl rfl rfl).cast (d' := .val (.bool true)) (by rw [hon2.1])) ?_
                refine zab rfl rfl rfl (zac (.inl rfl) (ev1 rfl)) ?_
                refine walk_k (gd_t (b := true) rfl rfl rfl) rfl rfl rfl (op_ldmw rfl tb24 (ev1 rfl) rfl rfl) (by simp only [upd, zaa, za]; exact rfl) ?_
                refine walk_k (gd_t (b := true) rfl rfl rfl) rfl rfl rfl (op_ldw rfl tb34 (ev1 rfl) rfl rfl) (by simp only [upd, zaa, za]; exact rfl) ?_
                refine walk_k (gd_t (b := true) rfl rfl rfl) rfl rfl rfl ((zah [] [] [] rfl (ev1 rfl) (ec (ev2 rfl) (ec (ev2 rfl) en)) rfl rfl (ron_d w h (ts.take 17) hc (⟨l[i].2.2.1, l[i].2.2.2.1⟩ : P2)) rfl rfl rfl rfl rfl rfl).cast (d' := .val (.bool true)) (by rw [hon2.2])) (by simp only [upd, zaa, za]; exact rfl) ?_
                refine zab rfl rfl rfl ((op_and rfl (ev1 rfl) (ev3 rfl (fun _ => rfl))).cast (d' := .val (.bool true)) (by rfl)) ?_
                refine zae ?_
                refine dwp_if_t rfl (rfl) ?_
                refine zaf ?_
                refine dwp_draw [([1], []), ([3], []), ([], []), ([], []), ([], []), ([], []), ([4], []), ([], []), ([], []), ([4], []), ([], []), ([], [])] mixed (by kernel_rfl) ?_
                refine zag rfl rfl (op_ldmw rfl tb24 (ev1 rfl) rfl rfl) ?_
                refine zag rfl rfl (op_ldw rfl tb34 (ev1 rfl) rfl rfl) ?_
                refine zag rfl rfl (zac (.inl rfl) (ev1 rfl)) ?_
                refine zag rfl rfl ((op_build0a rfl ar45 zr45).cast (d' := .val (.agg (fV zFD).toArray)) (by rw [← fV_zero])) ?_
                refine zag rfl rfl ((zah [] [] [] rfl (ev1 rfl) (ec (ev1 rfl) (ec (ev1 rfl) (ec (ev1 rfl) (ec (ev1 rfl) en)))) rfl rfl (rgrown_d w h (ts.take 17) hc (take_rng hg 17) (⟨l[i].1, l[i].2.1⟩ : P2) hon2.1 l[i].2.2.2.2 zFD) rfl rfl rfl rfl rfl rfl).cast (d' := .val (.agg (fV (rgF w h (ts.take 17) l[i].2.2.2.2 (⟨l[i].1, l[i].2.1⟩ : P2))).toArray)) (by rw [grF_zero])) ?_
                refine zag rfl rfl (op_fa rfl fo34_1 (ev1 rfl)) ?_
                refine zag rfl rfl (zam rfl tb3 (ev1 rfl) rfl rfl) ?_
                refine zag rfl rfl (op_ixwr (l[i].2.2.2.1.toNat) rfl av45 (ev_ofagg (ev1 rfl)) (ev1 rfl) (fun _ => by omega) (fun _ => by omega) (fV_twol (p := (⟨l[i].2.2.1, l[i].2.2.2.1⟩ : P2)) hu)) ?_
                refine zag rfl rfl (op_fa rfl fo34_0 (ev1 rfl)) ?_
                refine zag rfl rfl (zam rfl tb3 (ev1 rfl) rfl rfl) ?_
                refine zag rfl rfl (op_ixw (l[i].2.2.1.toNat) rfl aw43 (ev1 rfl) (ev1 rfl) (fun _ => by omega) (by omega) (fV_two (p := (⟨l[i].2.2.1, l[i].2.2.2.1⟩ : P2)) hu)) ?_
                refine zag rfl rfl (zac (.inr rfl) (ev1 rfl)) ?_
                refine lex_nil ?_
                refine zaf ?_
                refine zad ?_
                refine zab rfl rfl rfl (zac (.inl rfl) (ev1 rfl)) ?_
                refine zab rfl rfl rfl ((op_gtr rfl (ev1 rfl) (ev1 rfl)).cast (d' := .val (.bool true)) (by rw [← hh, ← has_int])) ?_
                refine zae ?_
                refine dwp_if_t rfl (rfl) ?_
                refine zad ?_
                refine zab rfl rfl rfl (zac (.inl rfl) (ev1 rfl)) ?_
                refine zab rfl rfl rfl (op_sub' rfl (ev1 rfl) (ev1 rfl) (fun _ => IntWalk.i64_in _ (by omega))) ?_
                refine zab rfl rfl rfl (zac (.inr rfl) (ev1 rfl)) ?_
                refine zab rfl rfl rfl (zac (.inr rfl) (ev1 rfl)) ?_
                refine zae ?_
                refine zaf ?_
                refine zad ?_
                refine zab rfl rfl rfl (zac (.inl rfl) (ev1 rfl)) ?_
                refine zab rfl rfl rfl (zac (.inl rfl) (ev1 rfl)) ?_
                refine zab rfl rfl rfl ((op_neq rfl (ev1 rfl) (ev1 rfl)).cast (d' := .val (.bool false)) (by simp)) ?_
                refine zab rfl rfl rfl (zac (.inl rfl) (ev1 rfl)) ?_
                refine walk_k (gd_f (b := false) rfl rfl rfl) rfl rfl rfl (zac (.inl rfl) (ev1 rfl)) (by simp only [upd, zaa, za]; exact rfl) ?_
                refine walk_k (gd_f (b := false) rfl rfl rfl) rfl rfl rfl (zac (.inl rfl) (ev1 rfl)) (by simp only [upd, zaa, za]; exact rfl) ?_
                refine walk_k (gd_f (b := false) rfl rfl rfl) rfl rfl rfl ((op_neq rfl (ev2 rfl) (ev2 rfl)).cast (d' := .val (.bool false)) (by kernel_rfl)) (by simp only [upd, zaa, za]; exact rfl) ?_
                refine zab rfl rfl rfl ((op_or rfl (ev1 rfl) (ev3 rfl (fun _ => rfl))).cast (d' := .val (.bool false)) (by rfl)) ?_
                refine zae ?_
                refine dwp_if_f rfl (rfl) ?_
                refine zak ?_
                refine zad ?_
                refine zab rfl rfl rfl (op_add' rfl (ev1 rfl) (ev1 rfl) (fun _ => IntWalk.i64_in _ (by omega))) ?_
                refine zab rfl rfl rfl (zac (.inl rfl) (ev1 rfl)) ?_
                refine zae ?_
                refine ⟨i + 1, [0, 1], by omega, by simp only []; omega, rfl, ⟨rfl, rfl, rfl, rfl, rfl, trivial⟩, ⟨rfl, rfl, trivial⟩⟩
              · have hbad : badT l[i].2.2.2.2 = false := by simpa using hbad
                have hon2 := Bool.and_eq_true_iff.1 hon
                have hu := onP_in hc.may _ hon2.2
                have hu2 : (0 ≤ l[i].2.2.1 ∧ l[i].2.2.1 < 32) ∧ 0 ≤ l[i].2.2.2.1 ∧ l[i].2.2.2.1 < 32 := hu
                have hat := rgF_le (ts := (ts.take 17)) (tol := l[i].2.2.2.2) hc.may hon2.1 hu
                refine zad ?_
                refine zab rfl rfl rfl (zac (.inl rfl) (ev1 rfl)) ?_
                refine zab rfl rfl rfl (op_ldw rfl tb34 (ev1 rfl) rfl rfl) ?_
                refine zab rfl rfl rfl (op_ldw rfl tb34 (ev1 rfl) rfl rfl) ?_
                refine zab rfl rfl rfl (zac (.inl rfl) (ev1 rfl)) ?_
                refine zab rfl rfl rfl (zah [] [] [] rfl (ev1 rfl) (ec (ev1 rfl) (ec (ev1 rfl) (ec (ev1 rfl) (ec (ev1 rfl) en)))) rfl rfl (steps_no w h _ (ts.take 17) (dpR_ok _) hc (take_rng hg 17) (⟨l[i].1, l[i].2.1⟩ : P2) (⟨l[i].2.2.1, l[i].2.2.2.1⟩ : P2) l[i].2.2.2.2 (refE_k2 hbad hon) (by simpa using hh)) rfl rfl rfl rfl rfl rfl) ?_
                refine zab rfl rfl rfl (zac (.inl rfl) (ev1 rfl)) ?_
                refine zab rfl rfl rfl (op_ext rfl (ev1 rfl) rfl) ?_
                refine zab rfl rfl rfl (op_ext rfl (ev1 rfl) rfl) ?_
                refine zab rfl rfl rfl (zac (.inr rfl) (ev1 rfl)) ?_
                refine zab rfl rfl rfl (zac (.inr rfl) (ev1 rfl)) ?_
                refine zae ?_
                refine zaf ?_
                refine zad ?_
                refine zab rfl rfl rfl (zac (.inr rfl) (ev1 rfl)) ?_
                refine zab rfl rfl rfl (zac (.inr rfl) (ev1 rfl)) ?_
                refine zae ?_
                refine zaf ?_
                refine zaf ?_
                refine zad ?_
                refine zab rfl rfl rfl (zac (.inl rfl) (ev1 rfl)) ?_
                refine zab rfl rfl rfl ((zah [] [] [] rfl (ev1 rfl) (ec (ev1 rfl) en) rfl rfl (rtol_d l[i].2.2.2.2) rfl rfl rfl rfl rfl rfl).cast (d' := .val (.bool true)) (by rw [hbad]; rfl)) ?_
                refine zae ?_
                refine dwp_if_t rfl (rfl) ?_
                refine zaf ?_
                refine zad ?_
                refine zab rfl rfl rfl (zac (.inr rfl) (ev1 rfl)) ?_
                refine zae ?_
                refine zaf ?_
                refine zad ?_
                refine zab rfl rfl rfl (op_ldmw rfl tb24 (ev1 rfl) rfl rfl) ?_
                refine zab rfl rfl rfl (op_ldw rfl tb34 (ev1 rfl) rfl rfl) ?_
                refine zab rfl rfl rfl ((zah [] [] [] rfl (ev1 rfl) (ec (ev1 rfl) (ec (ev1 rfl) en)) rfl rfl (ron_d w h (ts.take 17) hc (⟨l[i].1, l[i].2.1⟩ : P2)) rfl rfl rfl rfl rfl rfl).cast (d' := .val (.bool true)) (by rw [hon2.1])) ?_
                refine zab rfl rfl rfl (zac (.inl rfl) (ev1 rfl)) ?_
                refine walk_k (gd_t (b := true) rfl rfl rfl) rfl rfl rfl (op_ldmw rfl tb24 (ev1 rfl) rfl rfl) (by simp only [upd, zaa, za]; exact rfl) ?_
                refine walk_k (gd_t (b := true) rfl rfl rfl) rfl rfl rfl (op_ldw rfl tb34 (ev1 rfl) rfl rfl) (by simp only [upd, zaa, za]; exact rfl) ?_
                refine walk_k (gd_t (b := true) rfl rfl rfl) rfl rfl rfl ((zah [] [] [] rfl (ev1 rfl) (ec (ev2 rfl) (ec (ev2 rfl) en)) rfl rfl (ron_d w h (ts.take 17) hc (⟨l[i].2.2.1, l[i].2.2.2.1⟩ : P2)) rfl rfl rfl rfl rfl rfl).cast (d' := .val (.bool true)) (by rw [hon2.2])) (by simp only [upd, zaa, za]; exact rfl) ?_
                refine zab rfl rfl rfl ((op_and rfl (ev1 rfl) (ev3 rfl (fun _ => rfl))).cast (d' := .val (.bool true)) (by rfl)) ?_
                refine zae ?_
                refine dwp_if_t rfl (rfl) ?_
                refine zaf ?_
                refine dwp_draw [([1], []), ([3], []), ([], []), ([], []), ([], []), ([], []), ([4], []), ([], []), ([], []), ([4], []), ([], []), ([], [])] mixed (by kernel_rfl) ?_
                refine zag rfl rfl (op_ldmw rfl tb24 (ev1 rfl) rfl rfl) ?_
                refine zag rfl rfl (op_ldw rfl tb34 (ev1 rfl) rfl rfl) ?_
                refine zag rfl rfl (zac (.inl rfl) (ev1 rfl)) ?_
                refine zag rfl rfl ((op_build0a rfl ar45 zr45).cast (d' := .val (.agg (fV zFD).toArray)) (by rw [← fV_zero])) ?_
                refine zag rfl rfl ((zah [] [] [] rfl (ev1 rfl) (ec (ev1 rfl) (ec (ev1 rfl) (ec (ev1 rfl) (ec (ev1 rfl) en)))) rfl rfl (rgrown_d w h (ts.take 17) hc (take_rng hg 17) (⟨l[i].1, l[i].2.1⟩ : P2) hon2.1 l[i].2.2.2.2 zFD) rfl rfl rfl rfl rfl rfl).cast (d' := .val (.agg (fV (rgF w h (ts.take 17) l[i].2.2.2.2 (⟨l[i].1, l[i].2.1⟩ : P2))).toArray)) (by rw [grF_zero])) ?_
                refine zag rfl rfl (op_fa rfl fo34_1 (ev1 rfl)) ?_
                refine zag rfl rfl (zam rfl tb3 (ev1 rfl) rfl rfl) ?_
                refine zag rfl rfl (op_ixwr (l[i].2.2.2.1.toNat) rfl av45 (ev_ofagg (ev1 rfl)) (ev1 rfl) (fun _ => by omega) (fun _ => by omega) (fV_twol (p := (⟨l[i].2.2.1, l[i].2.2.2.1⟩ : P2)) hu)) ?_
                refine zag rfl rfl (op_fa rfl fo34_0 (ev1 rfl)) ?_
                refine zag rfl rfl (zam rfl tb3 (ev1 rfl) rfl rfl) ?_
                refine zag rfl rfl (op_ixw (l[i].2.2.1.toNat) rfl aw43 (ev1 rfl) (ev1 rfl) (fun _ => by omega) (by omega) (fV_two (p := (⟨l[i].2.2.1, l[i].2.2.2.1⟩ : P2)) hu)) ?_
                refine zag rfl rfl (zac (.inr rfl) (ev1 rfl)) ?_
                refine lex_nil ?_
                refine zaf ?_
                refine zad ?_
                refine zab rfl rfl rfl (zac (.inl rfl) (ev1 rfl)) ?_
                refine zab rfl rfl rfl ((op_gtr rfl (ev1 rfl) (ev1 rfl)).cast (d' := .val (.bool false)) (by rw [← (Bool.not_eq_true _).mp hh, ← has_int])) ?_
                refine zae ?_
                refine dwp_if_f rfl (rfl) ?_
                refine zak ?_
                refine zaf ?_
                refine zad ?_
                refine zab rfl rfl rfl (zac (.inl rfl) (ev1 rfl)) ?_
                refine zab rfl rfl rfl (zac (.inl rfl) (ev1 rfl)) ?_
                refine zab rfl rfl rfl ((op_neq rfl (ev1 rfl) (ev1 rfl)).cast (d' := .val (.bool false)) (by kernel_rfl)) ?_
                refine zab rfl rfl rfl (zac (.inl rfl) (ev1 rfl)) ?_
                refine walk_k (gd_f (b := false) rfl rfl rfl) rfl rfl rfl (zac (.inl rfl) (ev1 rfl)) (by simp only [upd, zaa, za]; exact rfl) ?_
                refine walk_k (gd_f (b := false) rfl rfl rfl) rfl rfl rfl (zac (.inl rfl) (ev1 rfl)) (by simp only [upd, zaa, za]; exact rfl) ?_
                refine walk_k (gd_f (b := false) rfl rfl rfl) rfl rfl rfl ((op_neq rfl (ev2 rfl) (ev2 rfl)).cast (d' := .val (.bool false)) (by kernel_rfl)) (by simp only [upd, zaa, za]; exact rfl) ?_
                refine zab rfl rfl rfl ((op_or rfl (ev1 rfl) (ev3 rfl (fun _ => rfl))).cast (d' := .val (.bool false)) (by rfl)) ?_
                refine zae ?_
                refine dwp_if_f rfl (rfl) ?_
                refine zak ?_
                refine zad ?_
                refine zab rfl rfl rfl (op_add' rfl (ev1 rfl) (ev1 rfl) (fun _ => IntWalk.i64_in _ (by omega))) ?_
                refine zab rfl rfl rfl (zac (.inl rfl) (ev1 rfl)) ?_
                refine zae ?_
                refine ⟨i + 1, [0, 1], by omega, by simp only []; omega, rfl, ⟨rfl, rfl, rfl, rfl, rfl, trivial⟩, ⟨rfl, rfl, trivial⟩⟩
            · have hbad : badT l[i].2.2.2.2 = false := by simpa using hbad
              have hon : (onP w h (⟨l[i].1, l[i].2.1⟩ : P2) && onP w h (⟨l[i].2.2.1, l[i].2.2.2.1⟩ : P2)) = false := by simpa using hon
              refine zad ?_
              refine zab rfl rfl rfl (zac (.inl rfl) (ev1 rfl)) ?_
              refine zab rfl rfl rfl (op_ldw rfl tb34 (ev1 rfl) rfl rfl) ?_
              refine zab rfl rfl rfl (op_ldw rfl tb34 (ev1 rfl) rfl rfl) ?_
              refine zab rfl rfl rfl (zac (.inl rfl) (ev1 rfl)) ?_
              refine zab rfl rfl rfl (zah [] [] [] rfl (ev1 rfl) (ec (ev1 rfl) (ec (ev1 rfl) (ec (ev1 rfl) (ec (ev1 rfl) en)))) rfl rfl (steps_off w h _ (ts.take 17) (dpR_ok _) hc (take_rng hg 17) (⟨l[i].1, l[i].2.1⟩ : P2) (⟨l[i].2.2.1, l[i].2.2.2.1⟩ : P2) l[i].2.2.2.2 hbad hon) rfl rfl rfl rfl rfl rfl) ?_
              refine zab rfl rfl rfl (zac (.inl rfl) (ev1 rfl)) ?_
              refine zab rfl rfl rfl (op_ext rfl (ev1 rfl) rfl) ?_
              refine zab rfl rfl rfl (op_ext rfl (ev1 rfl) rfl) ?_
              refine zab rfl rfl rfl (zac (.inr rfl) (ev1 rfl)) ?_
              refine zab rfl rfl rfl (zac (.inr rfl) (ev1 rfl)) ?_
              refine zae ?_
              refine zaf ?_
              refine zad ?_
              refine zab rfl rfl rfl (zac (.inr rfl) (ev1 rfl)) ?_
              refine zab rfl rfl rfl (zac (.inr rfl) (ev1 rfl)) ?_
              refine zae ?_
              refine zaf ?_
              refine zaf ?_
              refine zad ?_
              refine zab rfl rfl rfl (zac (.inl rfl) (ev1 rfl)) ?_
              refine zab rfl rfl rfl ((zah [] [] [] rfl (ev1 rfl) (ec (ev1 rfl) en) rfl rfl (rtol_d l[i].2.2.2.2) rfl rfl rfl rfl rfl rfl).cast (d' := .val (.bool true)) (by rw [hbad]; rfl)) ?_
              refine zae ?_
              refine dwp_if_t rfl (rfl) ?_
              refine zaf ?_
              refine zad ?_
              refine zab rfl rfl rfl (zac (.inr rfl) (ev1 rfl)) ?_
              refine zae ?_
              refine zaf ?_
              refine zad ?_
              refine zab rfl rfl rfl (op_ldmw rfl tb24 (ev1 rfl) rfl rfl) ?_
              refine zab rfl rfl rfl (op_ldw rfl tb34 (ev1 rfl) rfl rfl) ?_
              refine zab rfl rfl rfl (zah [] [] [] rfl (ev1 rfl) (ec (ev1 rfl) (ec (ev1 rfl) en)) rfl rfl (ron_d w h (ts.take 17) hc (⟨l[i].1, l[i].2.1⟩ : P2)) rfl rfl rfl rfl rfl rfl) ?_
              refine zab rfl rfl rfl (zac (.inl rfl) (ev1 rfl)) ?_
              refine walk_gr (gd_t rfl rfl rfl) rfl rfl rfl (op_ldmw rfl tb24 (ev1 rfl) rfl rfl) ?_
              refine walk_gr (gd_t rfl rfl rfl) rfl rfl rfl (op_ldw rfl tb34 (ev1 rfl) rfl rfl) ?_
              refine walk_gr (gd_t rfl rfl rfl) rfl rfl rfl (zah [] [] [] rfl (ev1 rfl) (ec (ev2 rfl) (ec (ev2 rfl) en)) rfl rfl (ron_d w h (ts.take 17) hc (⟨l[i].2.2.1, l[i].2.2.2.1⟩ : P2)) rfl rfl rfl rfl rfl rfl) ?_
              refine zab rfl rfl rfl (op_and rfl (ev1 rfl) (ev3 rfl id)) ?_
              refine zae ?_
              refine dwp_if_f rfl (by rw [← hon]) ?_
              refine zak ?_
              refine zaf ?_
              refine zad ?_
              refine zab rfl rfl rfl (zac (.inl rfl) (ev1 rfl)) ?_
              refine zab rfl rfl rfl (zac (.inl rfl) (ev1 rfl)) ?_
              refine zab rfl rfl rfl ((op_neq rfl (ev1 rfl) (ev1 rfl)).cast (d' := .val (.bool false)) (by kernel_rfl)) ?_
              refine zab rfl rfl rfl (zac (.inl rfl) (ev1 rfl)) ?_
              refine walk_k (gd_f (b := false) rfl rfl rfl) rfl rfl rfl (zac (.inl rfl) (ev1 rfl)) (by simp only [upd, zaa, za]; exact rfl) ?_
              refine walk_k (gd_f (b := false) rfl rfl rfl) rfl rfl rfl (zac (.inl rfl) (ev1 rfl)) (by simp only [upd, zaa, za]; exact rfl) ?_
              refine walk_k (gd_f (b := false) rfl rfl rfl) rfl rfl rfl ((op_neq rfl (ev2 rfl) (ev2 rfl)).cast (d' := .val (.bool false)) (by kernel_rfl)) (by simp only [upd, zaa, za]; exact rfl) ?_
              refine zab rfl rfl rfl ((op_or rfl (ev1 rfl) (ev3 rfl (fun _ => rfl))).cast (d' := .val (.bool false)) (by rfl)) ?_
              refine zae ?_
              refine dwp_if_f rfl (rfl) ?_
              refine zak ?_
              refine zad ?_
              refine zab rfl rfl rfl (op_add' rfl (ev1 rfl) (ev1 rfl) (fun _ => IntWalk.i64_in _ (by omega))) ?_
              refine zab rfl rfl rfl (zac (.inl rfl) (ev1 rfl)) ?_
              refine zae ?_
              refine ⟨i + 1, [0, 1], by omega, by simp only []; omega, rfl, ⟨rfl, rfl, rfl, rfl, rfl, trivial⟩, ⟨rfl, rfl, trivial⟩⟩
      · try simp only [decide_eq_true_eq, decide_eq_false_iff_not, beq_iff_eq, bne_iff_ne, beq_eq_false_iff_ne, bne_eq_false_iff_eq, Bool.not_eq_true', Bool.not_eq_false', Bool.and_eq_true, Bool.or_eq_true, Bool.or_eq_false_iff, ne_eq, Decidable.not_not, Int.not_lt, Int.not_le] at c46
        refine dwp_exit ?_
        refine zaf ?_
        refine zad ?_
        refine zab rfl rfl rfl (zah [] [] [] rfl (ev1 rfl) (ec (ev1 rfl) (ec (evnil 3 (ev1 rfl)) en)) rfl rfl (rim_0 []) rfl rfl rfl rfl rfl rfl) ?_
        refine zab rfl rfl rfl (zac (.inl rfl) (ev1 rfl)) ?_
        refine zab rfl rfl rfl (op_ext rfl (ev1 rfl) rfl) ?_
        refine zab rfl rfl rfl (op_ext rfl (ev1 rfl) rfl) ?_
        refine zab rfl rfl rfl (zac (.inr rfl) (ev1 rfl)) ?_
        refine zab rfl rfl rfl (zac (.inr rfl) (ev1 rfl)) ?_
        refine zae ?_
        refine zaf ?_
        refine zad ?_
        refine zab rfl rfl rfl (op_build0 rfl fl34 zr34) ?_
        refine zab rfl rfl rfl (op_build0 rfl fl34 zr34) ?_
        refine zab rfl rfl rfl (zah [] [] [] rfl (ev1 rfl) (ec (ev1 rfl) (ec (ev1 rfl) (ec (ev1 rfl) (ec (ev1 rfl) en)))) rfl rfl (steps_0 ⟨0, 0⟩ ⟨0, 0⟩ 0) rfl rfl rfl rfl rfl rfl) ?_
        refine zab rfl rfl rfl (zac (.inl rfl) (ev1 rfl)) ?_
        refine zab rfl rfl rfl (op_ext rfl (ev1 rfl) rfl) ?_
        refine zab rfl rfl rfl (op_ext rfl (ev1 rfl) rfl) ?_
        refine zab rfl rfl rfl (zac (.inr rfl) (ev1 rfl)) ?_
        refine zab rfl rfl rfl (zac (.inr rfl) (ev1 rfl)) ?_
        refine zae ?_
        refine zaf ?_
        refine zad ?_
        refine zab rfl rfl rfl (zac (.inl rfl) (ev1 rfl)) ?_
        refine zab rfl rfl rfl ((op_eql rfl (ev1 rfl) (ev1 rfl)).cast (d' := .val (.bool true)) (by kernel_rfl)) ?_
        refine zab rfl rfl rfl (zac (.inl rfl) (ev1 rfl)) ?_
        refine walk_k (gd_t (b := true) rfl rfl rfl) rfl rfl rfl (zac (.inl rfl) (ev1 rfl)) (by simp only [upd, zaa, za]; exact rfl) ?_
        refine walk_k (gd_t (b := true) rfl rfl rfl) rfl rfl rfl ((op_eql rfl (ev2 rfl) (ev1 rfl)).cast (d' := .val (.bool true)) (by kernel_rfl)) (by simp only [upd, zaa, za]; exact rfl) ?_
        refine zab rfl rfl rfl ((op_and rfl (ev1 rfl) (ev3 rfl (fun _ => rfl))).cast (d' := .val (.bool true)) (by rfl)) ?_
        refine zab rfl rfl rfl (zac (.inr rfl) (ev1 rfl)) ?_
        refine zae ?_
        refine zao ?_
        refine kend0 (rs1 rfl (rv_t rfl)) rfl ?_
        rfl
  · refine zai 1 (by simp only [holes, List.cons_append, List.nil_append]; exact rfl) ?_
    refine zad ?_
    refine zab rfl rfl rfl (op_ldmw rfl tb24 (ev1 rfl) rfl rfl) ?_
    refine zab rfl rfl rfl (zah [] [] [] rfl (ev1 rfl) (ec (ev1 rfl) en) rfl rfl (lof_n w h ts (by simpa using hr)) rfl rfl rfl rfl rfl rfl) ?_
    refine zab rfl rfl rfl (zac (.inl rfl) (ev1 rfl)) ?_
    refine zab rfl rfl rfl (op_ext rfl (ev1 rfl) rfl) ?_
    refine zab rfl rfl rfl (op_ext rfl (ev1 rfl) rfl) ?_
    refine zab rfl rfl rfl (op_ext rfl (ev1 rfl) rfl) ?_
    refine zaj rfl rfl rfl (op_alloc 1 rfl zr24 rfl) (by simp only [upd, zaa, za]; exact rfl) ?_
    refine zab rfl rfl rfl (zac (.inr rfl) (ev1 rfl)) ?_
    refine walk_s rfl rfl (op_stam rfl tb24 (ev1 rfl) (ev1 rfl) rfl rfl rfl rfl) (by simp only [upd, zaa, za]; exact rfl) ?_
    refine zab rfl rfl rfl (zac (.inr rfl) (ev1 rfl)) ?_
    refine zae ?_
    refine zaf ?_
    refine zaf ?_
    refine zad ?_
    refine zab rfl rfl rfl (zac (.inl rfl) (ev1 rfl)) ?_
    refine zab rfl rfl rfl ((op_not rfl (ev1 rfl)).cast (d' := .val (.bool true)) (by kernel_rfl)) ?_
    refine zae ?_
    refine dwp_if_t rfl (rfl) ?_
    refine zaf ?_
    refine zad ?_
    refine zab rfl rfl rfl (zac (.inr rfl) (ev1 rfl)) ?_
    refine zae ?_
    refine zao ?_
    refine kend0 (rs1 rfl (rv_t rfl)) rfl ?_
    rfl
end Go.Proofs.Ytfnhckildfbikaa
namespace Go.Proofs.Ytfnhckildfbikaa
set_option maxRecDepth 4000
set_option linter.unusedVariables false
set_option linter.unusedSimpArgs false
open Go.RowKit
open Go.ChangeShapes Go.WideShapes Go.ChangeAt Go.Joins Go.Deep
theorem fits_q5 (cs : List Value) (h : fitsP [.int .i64, .int .i64, .int .i64, .int .i64, .int .i64] cs) : ∃ a : Int × Int × Int × Int × Int, True ∧ cs = q5 a := by
  obtain ⟨x0, r, rfl, h0, g1⟩ := fitsP_cons h
  obtain ⟨x1, r, rfl, h1, g2⟩ := fitsP_cons g1
  obtain ⟨x2, r, rfl, h2, g3⟩ := fitsP_cons g2
  obtain ⟨x3, r, rfl, h3, g4⟩ := fitsP_cons g3
  obtain ⟨x4, r, rfl, h4, g5⟩ := fitsP_cons g4
  obtain rfl := fitsP_nil g5
  obtain ⟨a, _, rfl⟩ := fits_prim_i64 h0
  obtain ⟨b, _, rfl⟩ := fits_prim_i64 h1
  obtain ⟨c, _, rfl⟩ := fits_prim_i64 h2
  obtain ⟨d, _, rfl⟩ := fits_prim_i64 h3
  obtain ⟨e, _, rfl⟩ := fits_prim_i64 h4
  exact ⟨(a, b, c, d, e), trivial, rfl⟩
end Go.Proofs.Ytfnhckildfbikaa
