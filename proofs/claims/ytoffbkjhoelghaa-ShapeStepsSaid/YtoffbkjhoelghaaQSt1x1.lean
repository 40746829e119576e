/- Operations, one behind the other; a call by its contract; A region that draws its order: walked once, in the text's order. Conditions: the kernel's look at its edges; Operations: numbers, bools, structs, memory that is read and written. Conditions: what a type is, by the kernel; Operations that make memory, and write it. Conditions: what a type is, by the kernel; Structs and arrays compared, cell by cell. Conditions: what a type is, by the kernel; Codes within a function; a loop's rounds one by one; strings; Arrays of words that are values, read at a place; cells at a place that is not known; lines, rectangles, boxes, and what rows of spans have; what a row has, and how many; lines and rectangles; arguments that are opened; a line from place to place. No condition. -/
import Derived.Test.YtoffbkjhoelghaaQ4
import Derived.Test.YtoffbkjhoelghaaRows
namespace Go.Proofs.Ytoffbkjhoelghaa
set_option linter.unusedVariables false
set_option linter.unusedSimpArgs false
open Go.RowKit
section
variable {P : Program} {s0 : St} {n : Cx} {ops : Array Oper}
theorem gd_ff {o : Oper} {F : Fr} {j t : Nat} {g b : Bool} (h : o.guard = some (j, false)) (ht : (ops[j]?).bind (·.dst) = some t) (hl : lk F t = some (.opt g (.val (.bool b)))) : Gd ops o F (g && !b) := by
  unfold Gd; rw [h]; exact ⟨t, g, b, ht, .inl hl, by simp⟩
end

/-! ### names turned back -/
end Go.Proofs.Ytoffbkjhoelghaa
namespace Go.Proofs.Ytoffbkjhoelghaa
set_option linter.unusedVariables false
set_option linter.unusedSimpArgs false
open Go.RowKit
/-- behind a guard that is known to hold -/
theorem lex_k {P : Program} {ops : Array Oper} {o : Oper} {rest : List Oper} {fp wi : List Nat} {fps : List (List Nat × List Nat)} {F : Fr} {M M' : List Blk} {Q : Fr → List Blk → Prop} {d : D} {t : Nat} {wr : List (Nat × Blk)} (hg : Gd ops o F true) (hn : o.guard.isSome = true) (hd : o.dst = some t) (h : DOp P true o F M fp d wr) (hw : wr.map (·.1) = wi) (hM : upd M wr = M')
    (hk : Lex P ops rest fps ((t, .opt true d) :: F) M' Q) : Lex P ops (o :: rest) ((fp, wi) :: fps) F M Q :=
by
  unfold Lex
  refine ⟨true, d, wr, hg, h, hw, (fun h => by cases h), ?_⟩
  unfold gdd
  cases e : o.guard with
  | none => rw [e] at hn; cases hn
  | some x => rw [hd, hM]; exact hk
section
variable {l : List Oper} {E : List Rc} {F : Fr} {M : List Blk}
end
end Go.Proofs.Ytoffbkjhoelghaa
namespace Go.Proofs.Ytoffbkjhoelghaa
set_option linter.unusedVariables false
set_option linter.unusedSimpArgs false
open Go.RowKit

/-! ### what a type is -/
section
variable {P : Program} {pc : Bool} {o : Oper} {F : Fr} {M : List Blk}
section
variable {T T' : TypeId} {x y : Operand} {k : IntKind} {p q : Int}
end
/-- two values of one type compared, by a law on their equality -/
theorem op_eqv {T T' : TypeId} {x y : Operand} {v u : Value} {b : Bool} (ho : o.op = .binOp .eql T x y T') (hx : Ev pc F x (.val v)) (hy : Ev pc F y (.val u)) (hg : ∀ w, (eqGuard .eql T x y v u).run P w = .ok () w) (h : ∀ w, (binOp .eql T v u).run P w = .ok (.bool b) w) : DOp P pc o F M [] (.val (.bool b)) [] :=
  op_val2 hx hy (by simp [ho, Op.operands]) fun _ a w e1 e2 => by
    unfold execOp
    simp only [ho, e1, e2]
    exact run_v (by rw [Sem.run_bind, hg, Result.andThen_ok, h])
section
variable {T : TypeId} {x : Operand} {i p k : Nat} {L R : List Value} {v : Value}
theorem op_ldod (ho : o.op = .load T x) (hT : tyB P T = some (false, k)) (hx : Ev pc F x (.dpf L)) (hR : L[0]? = some v) : DOp P pc o F M [] (.val v) [] := by
  intro hp a s hok hops hfp
  have hr := ev_at hp hx (by simp [ho, Op.operands]) hops
  generalize hv : a.eval x = vx at hr
  cases hr with
  | @dpf b q _ hI h => exact dg_val hok (run_load_one ho hT hv (by simpa using h 0 v hR)) (.val _)
theorem op_fad {f q : Nat} (ho : o.op = .fieldAddr T x f) (hT : fdO P T f = some q) (hx : Ev pc F x (.dpf L)) : DOp P pc o F M [] (.dpf (L.drop q)) [] := by
  intro hp a s hok hops hfp
  have hr := ev_at hp hx (by simp [ho, Op.operands]) hops
  generalize hv : a.eval x = vx at hr
  cases hr with
  | @dpf b c _ hI h =>
    refine dg_val hok (run_fieldAddr ho hT hv) (.dpf hI fun j v hj => ?_)
    rw [List.getElem?_drop] at hj
    rw [Nat.add_assoc]
    exact h _ v hj
end
section
variable {T : TypeId} {x y : Operand} {i p n sz : Nat} {k : IntKind} {z : Int} {L : List Value}
variable {e : TypeId} {by' m : Nat}
end
end
end Go.Proofs.Ytoffbkjhoelghaa
namespace Go.Proofs.Ytoffbkjhoelghaa
set_option linter.unusedVariables false
set_option linter.unusedSimpArgs false
open Go.RowKit
section
variable {P : Program} {pc : Bool} {o : Oper} {F : Fr} {M : List Blk}
theorem op_stwb {T T' : TypeId} {x y : Operand} {i : Nat} {rw' : Bool} {z : Bool} {v : Value} (ho : o.op = .store T x y) (hT : tyB P T = some (rw', 1)) (hx : Ev pc F x (.loc i 0)) (hy : Ev pc F y (.val (.bool z))) (hM : M[i]? = some (.flat T' [v])) : DOp P pc o F M [i] .junk [(i, .flat T' [.bool z])] :=
  op_stw ho hT hx hy hM rfl rfl rfl rfl
end
end Go.Proofs.Ytoffbkjhoelghaa
namespace Go.Proofs.Ytoffbkjhoelghaa
set_option linter.unusedVariables false
set_option linter.unusedSimpArgs false
open Go.RowKit
section
variable {P : Program}
variable {pc : Bool} {o : Oper} {F : Fr} {M : List Blk}
theorem op_eqr {T T' : TypeId} {x y : Operand} {L1 L2 : List Value} {b : Bool} {k : Nat} (he : eqT P 9 T L1 L2 = some b) (ho : o.op = .binOp .eql T x y T') (hg : P.eqGuardType P.depth T = false) (hT : tyB P T = some (true, k)) (hx : Ev pc F x (.val (.agg L1.toArray))) (hy : Ev pc F y (.val (.agg L2.toArray))) : DOp P pc o F M [] (.val (.bool b)) [] :=
  op_eqv ho hx hy (fun w => run_eqGuard_agg w _ _ _ _ _ _ hg) fun w => by
    have := eqT_run (P := P) 9 9991 T L1 L2 b w he
    rw [row_val hT, row_val hT] at this
    rw [run_eql_struct, this]; rfl
end
end Go.Proofs.Ytoffbkjhoelghaa
namespace Go.Proofs.Ytoffbkjhoelghaa
set_option linter.unusedVariables false
set_option linter.unusedSimpArgs false
open Go.RowKit
def rst : Bool → LoopState
  | true => .ready
  | false => .done
def rpe (c : Code) : Bool → Option Code
  | true => none
  | false => some c
theorem rst_busy (r : Bool) : rst r ≠ .busy := by cases r <;> simp [rst]
section
variable {P : Program} {s0 : St} {n : Cx}
end
end Go.Proofs.Ytoffbkjhoelghaa
namespace Go.Proofs.Ytoffbkjhoelghaa
set_option linter.unusedVariables false
set_option linter.unusedSimpArgs false
open Go.RowKit
section
variable {P : Program} {pc : Bool} {o : Oper} {F : Fr} {M : List Blk} {T : TypeId} {x y : Operand} {k : IntKind} {z : Int} {n : Nat}
end
/-- behind a guard that does not hold nothing is done -/
theorem dop_never {P : Program} {o : Oper} {F : Fr} {M : List Blk} {d : D} : DOp P false o F M [] d [] := fun h => by cases h
end Go.Proofs.Ytoffbkjhoelghaa
namespace Go.Proofs.Ytoffbkjhoelghaa
set_option maxRecDepth 4000
set_option linter.unusedVariables false
set_option linter.unusedSimpArgs false
open Go.RowKit
theorem far_le {n k w : Nat} (hn : 0 < n) (hk : k ≤ n) : farN n k w ≤ w := by
  unfold farN
  refine Nat.le_of_lt_succ ((Nat.div_lt_iff_lt_mul (by omega)).2 ?_)
  have h1 : 2 * k * w ≤ 2 * n * w := Nat.mul_le_mul_right w (Nat.mul_le_mul_left 2 hk)
  have h2 : w.succ * (2 * n) = 2 * n * w + 2 * n := by rw [Nat.succ_mul, Nat.mul_comm w]
  omega
theorem far_step {n k w : Nat} (hn : 0 < n) (hw : w ≤ n) : farN n k w ≤ farN n (k + 1) w ∧ farN n (k + 1) w ≤ farN n k w + 1 := by
  unfold farN
  have e : 2 * (k + 1) * w + n = 2 * k * w + n + 2 * w := by rw [Nat.mul_add, Nat.add_mul]; omega
  rw [e]
  refine ⟨Nat.div_le_div_right (by omega), ?_⟩
  have : (2 * k * w + n + 2 * w) / (2 * n) ≤ (2 * k * w + n + 2 * n) / (2 * n) := Nat.div_le_div_right (by omega)
  rwa [Nat.add_div_right _ (by omega)] at this
theorem line_inj {a b : P2} {j k : Nat} (hj : j ≤ gr2 a b) (hk : k ≤ gr2 a b) (h : lineP a b j = lineP a b k) : j = k := by
  rcases Nat.eq_zero_or_pos (gr2 a b) with h0 | h0
  · omega
  · have hc : gr2 a b = wayN a.x b.x ∨ gr2 a b = wayN a.y b.y := by unfold gr2; omega
    rcases hc with e | e
    · have := congrArg P2.x h
      have this : alongZ (gr2 a b) j a.x b.x = alongZ (gr2 a b) k a.x b.x := this
      unfold alongZ at this
      rw [← e, far_self h0, far_self h0] at this
      split at this <;> omega
    · have := congrArg P2.y h
      have this : alongZ (gr2 a b) j a.y b.y = alongZ (gr2 a b) k a.y b.y := this
      unfold alongZ at this
      rw [← e, far_self h0, far_self h0] at this
      split at this <;> omega
theorem along_step {n k : Nat} {a b : Int} (hn : 0 < n) (hw : wayN a b ≤ n) : max (alongZ n (k + 1) a b - alongZ n k a b) (alongZ n k a b - alongZ n (k + 1) a b) ≤ 1 := by
  have := far_step (k := k) hn hw
  unfold alongZ
  split <;> omega
theorem along_in {n k : Nat} {a b : Int} (hk : k ≤ n) (hw : wayN a b ≤ n) : min a b ≤ alongZ n k a b ∧ alongZ n k a b ≤ max a b := by
  have e := wayN_eq a b
  rcases Nat.eq_zero_or_pos n with h | h
  · subst h
    have : k = 0 := by omega
    subst this
    unfold alongZ
    rw [far_zero]
    split <;> omega
  · have := far_le (w := wayN a b) h hk
    unfold alongZ
    split <;> omega
theorem way_gr (a b : P2) : wayN a.x b.x ≤ gr2 a b ∧ wayN a.y b.y ≤ gr2 a b := by unfold gr2; omega
def rectL (a b : P2) : List Sp := (List.range (wayN a.y b.y + 1)).map fun j : Nat => ⟨min a.y b.y + (j : Int), min a.x b.x, max a.x b.x⟩
theorem rect_ok (a b : P2) : okS (rectL a b) := by
  refine ⟨fun s hs => ?_, ?_⟩
  · obtain ⟨j, _, rfl⟩ := List.mem_map.1 hs
    show min a.x b.x ≤ max a.x b.x
    omega
  · refine List.pairwise_map.2 (List.pairwise_lt_range.imp fun h => ?_)
    left
    show min a.y b.y + _ < min a.y b.y + _
    omega
theorem rect_has (a b : P2) (x y : Int) : hasS (rectL a b) x y ↔ (min a.x b.x ≤ x ∧ x ≤ max a.x b.x) ∧ min a.y b.y ≤ y ∧ y ≤ max a.y b.y := by
  have e := wayN_eq a.y b.y
  constructor
  · rintro ⟨s, hs, h1, h2, h3⟩
    obtain ⟨j, hj, rfl⟩ := List.mem_map.1 hs
    rw [List.mem_range] at hj
    simp only at h1 h2 h3
    omega
  · rintro ⟨h1, h2⟩
    refine ⟨_, List.mem_map.2 ⟨(y - min a.y b.y).toNat, List.mem_range.2 (by omega), rfl⟩, ?_, ?_, ?_⟩
    · show min a.y b.y + (((y - min a.y b.y).toNat : Nat) : Int) = y; omega
    · exact h1.1
    · exact h1.2
end Go.Proofs.Ytoffbkjhoelghaa
namespace Go.Proofs.Ytoffbkjhoelghaa
set_option maxRecDepth 4000
set_option linter.unusedVariables false
set_option linter.unusedSimpArgs false
open Go.RowKit
theorem zr4 : zrC Try.prog 4 = some [.bool false] := by kernel_rfl
noncomputable def hsrA : Code := rfA (pth [1, 0, 1, 1, 0, 1, 0] (bodyOf Try.f33))
noncomputable def hsrB : Code := rfB (pth [1, 0, 1, 1, 0, 1, 0] (bodyOf Try.f33))
def hitB (s : Sp) (p : P2) : Bool := decide (s.y = p.y) && (decide (s.f ≤ p.x) && decide (p.x ≤ s.t))
theorem hitB_iff {s : Sp} {p : P2} : hitB s p = true ↔ s.has p.x p.y := by
  unfold hitB Sp.has
  simp only [Bool.and_eq_true, decide_eq_true_eq]
def goB (s : Sp) (p : P2) : Bool := !decide (p.y < s.y) && !hitB s p
def hasB (l : List Sp) (p : P2) : Bool := decide (hasS l p.x p.y)
theorem hasB_stop {l : List Sp} (hc : chkS l) {p : P2} {i : Nat} (hi : i < l.length) (ha : (l.take i).all (fun s => goB s p) = true) (hg : goB l[i] p = false) : hasB l p = hitB l[i] p := by
  unfold hasB
  rw [Bool.eq_iff_iff, decide_eq_true_eq, hitB_iff]
  constructor
  · rintro ⟨s, hs, h⟩
    obtain ⟨j, hj, rfl⟩ := List.getElem_of_mem hs
    rcases Nat.lt_trichotomy j i with e | e | e
    · have := List.all_eq_true.1 ha l[j] (List.mem_take_iff_getElem.2 ⟨j, by omega, rfl⟩)
      unfold goB at this
      rw [hitB_iff.2 h] at this
      simp at this
    · subst e; exact h
    · unfold goB at hg
      cases hh : hitB l[i] p with
      | true => exact hitB_iff.1 hh
      | false =>
        rw [hh] at hg
        have h1 : p.y < l[i].y := by simpa using hg
        have h2 := List.pairwise_iff_getElem.1 hc.2 i j hi hj e
        have h3 := h.1
        unfold apS at h2
        omega
  · exact fun h => ⟨_, List.getElem_mem hi, h⟩
theorem hasB_end {l : List Sp} {p : P2} (ha : l.all (fun s => goB s p) = true) : hasB l p = false := by
  unfold hasB
  rw [decide_eq_false_iff_not]
  rintro ⟨s, hs, h⟩
  have := List.all_eq_true.1 ha s hs
  unfold goB at this
  rw [hitB_iff.2 h] at this
  simp at this
theorem all_add {α : Type} {q : α → Bool} {l : List α} {i : Nat} (hi : i < l.length) (h : (l.take i).all q = true) (hq : q l[i] = true) : (l.take (i + 1)).all q = true := by
  rw [List.take_succ_eq_append_getElem hi, List.all_append, h]
  simp [hq]
theorem all_no {α : Type} {q : α → Bool} {l : List α} {i : Nat} (hi : i < l.length) (hq : q l[i] = false) : l.all q = false := List.all_eq_false.2 ⟨_, List.getElem_mem hi, by simp [hq]⟩
set_option maxRecDepth 4000 in
set_option maxHeartbeats 1000000 in
theorem hasRound_y (s : Sp) (p : P2) (b : Bool) (h : p.y < s.y) : DRound Try.prog 0 [.val (.agg (s3 s).toArray)] [.lp 35 [(3, .loc 1 0), (5, .loc 2 0)] #[9] hsrA hsrB .ready none, .flat 25 [.int .i64 p.x, .int .i64 p.y], .flat 4 [.bool b]] false [.lp 35 [(3, .loc 1 0), (5, .loc 2 0)] #[9] hsrA hsrB .done (some (.exit 0)), .flat 25 [.int .i64 p.x, .int .i64 p.y], .flat 4 [.bool b]] := by
  refine dround_go 3 rfl rfl (by simp) rfl rfl fun s0 hs0 => ?_
  refine dwp_holes 1 (by simp only [holes, List.cons_append, List.nil_append]; exact rfl) ?_
  refine zad ?_
  refine walk_w rfl rfl rfl (op_alloc 3 rfl zr40 rfl) (by simp only [upd, zaa, za]; exact rfl) ?_
  refine walk_s rfl rfl (op_stwa rfl tb40 (ev1 rfl) (ev1 rfl) rfl rfl rfl rfl) (by simp only [upd, zaa, za]; exact rfl) ?_
  refine zaf ?_
  refine ⟨rfl, ?_⟩
  simp only [zaa, za]
  refine dwp_block ?_
  refine zae ?_
  refine zae ?_
  refine zad ?_
  refine zab rfl rfl rfl (op_fa rfl fo40_0 (ev1 rfl)) ?_
  refine zab rfl rfl rfl (op_ldo rfl tb3 (ev1 rfl) rfl rfl) ?_
  refine zab rfl rfl rfl (op_fa rfl fo25_1 (ev1 rfl)) ?_
  refine zab rfl rfl rfl (op_ldo rfl tb3 (ev1 rfl) rfl rfl) ?_
  refine zab rfl rfl rfl (op_gtr rfl (ev1 rfl) (ev1 rfl)) ?_
  refine zaf ?_
  refine dwp_if_t rfl (by simpa using h) ?_
  refine dwp_exit ?_
  refine ⟨by first | rfl | assumption | simp_all, rfl, [0, 1, 2], rfl, ⟨rfl, rfl, rfl, trivial⟩⟩
set_option maxRecDepth 4000 in
set_option maxHeartbeats 1000000 in
theorem hasRound_t (s : Sp) (p : P2) (b : Bool) (h : ¬ p.y < s.y ∧ hitB s p = true) : DRound Try.prog 0 [.val (.agg (s3 s).toArray)] [.lp 35 [(3, .loc 1 0), (5, .loc 2 0)] #[9] hsrA hsrB .ready none, .flat 25 [.int .i64 p.x, .int .i64 p.y], .flat 4 [.bool b]] false [.lp 35 [(3, .loc 1 0), (5, .loc 2 0)] #[9] hsrA hsrB .done (some (.exit 0)), .flat 25 [.int .i64 p.x, .int .i64 p.y], .flat 4 [.bool true]] := by
  refine dround_go 3 rfl rfl (by simp) rfl rfl fun s0 hs0 => ?_
  refine dwp_holes 1 (by simp only [holes, List.cons_append, List.nil_append]; exact rfl) ?_
  refine zad ?_
  refine walk_w rfl rfl rfl (op_alloc 3 rfl zr40 rfl) (by simp only [upd, zaa, za]; exact rfl) ?_
  refine walk_s rfl rfl (op_stwa rfl tb40 (ev1 rfl) (ev1 rfl) rfl rfl rfl rfl) (by simp only [upd, zaa, za]; exact rfl) ?_
  refine zaf ?_
  refine ⟨rfl, ?_⟩
  simp only [zaa, za]
  refine dwp_block ?_
  refine zae ?_
  refine zae ?_
  refine zad ?_
  refine zab rfl rfl rfl (op_fa rfl fo40_0 (ev1 rfl)) ?_
  refine zab rfl rfl rfl (op_ldo rfl tb3 (ev1 rfl) rfl rfl) ?_
  refine zab rfl rfl rfl (op_fa rfl fo25_1 (ev1 rfl)) ?_
  refine zab rfl rfl rfl (op_ldo rfl tb3 (ev1 rfl) rfl rfl) ?_
  refine zab rfl rfl rfl (op_gtr rfl (ev1 rfl) (ev1 rfl)) ?_
  refine zaf ?_
  refine dwp_if_f rfl (by simpa using h.1) ?_
  refine dwp_skip ?_
  refine zae ?_
  refine zad ?_
  refine zab rfl rfl rfl (op_fa rfl fo40_0 (ev1 rfl)) ?_
  refine zab rfl rfl rfl (op_ldo rfl tb3 (ev1 rfl) rfl rfl) ?_
  refine zab rfl rfl rfl (op_fa rfl fo25_1 (ev1 rfl)) ?_
  refine zab rfl rfl rfl (op_ldo rfl tb3 (ev1 rfl) rfl rfl) ?_
  refine zab rfl rfl rfl (op_eql rfl (ev1 rfl) (ev1 rfl)) ?_
  refine zab rfl rfl rfl (zac (.inl rfl) (ev1 rfl)) ?_
  refine walk_gr (gd_t rfl rfl rfl) rfl rfl rfl (op_fa rfl fo40_1 (ev1 rfl)) ?_
  refine walk_gr (gd_t rfl rfl rfl) rfl rfl rfl (op_ldo rfl tb3 (ev2 rfl) rfl rfl) ?_
  refine walk_gr (gd_t rfl rfl rfl) rfl rfl rfl (op_fa rfl fo25_0 (ev1 rfl)) ?_
  refine walk_gr (gd_t rfl rfl rfl) rfl rfl rfl (op_ldo rfl tb3 (ev2 rfl) rfl rfl) ?_
  refine walk_gr (gd_t rfl rfl rfl) rfl rfl rfl (op_leq rfl (ev2 rfl) (ev2 rfl)) ?_
  refine zab rfl rfl rfl (op_and rfl (ev1 rfl) (ev3 rfl id)) ?_
  refine zab rfl rfl rfl (zac (.inl rfl) (ev1 rfl)) ?_
  refine walk_gr (gd_t rfl rfl rfl) rfl rfl rfl (op_fa rfl fo25_0 (ev1 rfl)) ?_
  refine walk_gr (gd_t rfl rfl rfl) rfl rfl rfl (op_ldo rfl tb3 (ev2 rfl) rfl rfl) ?_
  refine walk_gr (gd_t rfl rfl rfl) rfl rfl rfl (op_fa rfl fo40_2 (ev1 rfl)) ?_
  refine walk_gr (gd_t rfl rfl rfl) rfl rfl rfl (op_ldo rfl tb3 (ev2 rfl) rfl rfl) ?_
  refine walk_gr (gd_t rfl rfl rfl) rfl rfl rfl (op_leq rfl (ev2 rfl) (ev2 rfl)) ?_
  refine zab rfl rfl rfl (op_and rfl (ev1 rfl) (ev3 rfl id)) ?_
  refine zaf ?_
  refine dwp_if_t rfl (by have := h.2; unfold hitB at this; simp at this; simp [this]) ?_
  refine zae ?_
  refine zad ?_
  refine walk_s rfl rfl (op_stwb rfl tb4 (ev1 rfl) (ev1 rfl) rfl) (by simp only [upd, zaa, za]; exact rfl) ?_
  refine zaf ?_
  refine dwp_exit ?_
  refine ⟨by first | rfl | assumption | simp_all, rfl, [0, 1, 2], rfl, ⟨rfl, rfl, rfl, trivial⟩⟩
set_option maxRecDepth 4000 in
set_option maxHeartbeats 1000000 in
theorem hasRound_g (s : Sp) (p : P2) (b : Bool) (h : ¬ p.y < s.y ∧ hitB s p = false) : DRound Try.prog 0 [.val (.agg (s3 s).toArray)] [.lp 35 [(3, .loc 1 0), (5, .loc 2 0)] #[9] hsrA hsrB .ready none, .flat 25 [.int .i64 p.x, .int .i64 p.y], .flat 4 [.bool b]] true [.lp 35 [(3, .loc 1 0), (5, .loc 2 0)] #[9] hsrA hsrB .ready none, .flat 25 [.int .i64 p.x, .int .i64 p.y], .flat 4 [.bool b]] := by
  refine dround_go 3 rfl rfl (by simp) rfl rfl fun s0 hs0 => ?_
  refine dwp_holes 1 (by simp only [holes, List.cons_append, List.nil_append]; exact rfl) ?_
  refine zad ?_
  refine walk_w rfl rfl rfl (op_alloc 3 rfl zr40 rfl) (by simp only [upd, zaa, za]; exact rfl) ?_
  refine walk_s rfl rfl (op_stwa rfl tb40 (ev1 rfl) (ev1 rfl) rfl rfl rfl rfl) (by simp only [upd, zaa, za]; exact rfl) ?_
  refine zaf ?_
  refine ⟨rfl, ?_⟩
  simp only [zaa, za]
  refine dwp_block ?_
  refine zae ?_
  refine zae ?_
  refine zad ?_
  refine zab rfl rfl rfl (op_fa rfl fo40_0 (ev1 rfl)) ?_
  refine zab rfl rfl rfl (op_ldo rfl tb3 (ev1 rfl) rfl rfl) ?_
  refine zab rfl rfl rfl (op_fa rfl fo25_1 (ev1 rfl)) ?_
  refine zab rfl rfl rfl (op_ldo rfl tb3 (ev1 rfl) rfl rfl) ?_
  refine zab rfl rfl rfl (op_gtr rfl (ev1 rfl) (ev1 rfl)) ?_
  refine zaf ?_
  refine dwp_if_f rfl (by simpa using h.1) ?_
  refine dwp_skip ?_
  refine zae ?_
  refine zad ?_
  refine zab rfl rfl rfl (op_fa rfl fo40_0 (ev1 rfl)) ?_
  refine zab rfl rfl rfl (op_ldo rfl tb3 (ev1 rfl) rfl rfl) ?_
  refine zab rfl rfl rfl (op_fa rfl fo25_1 (ev1 rfl)) ?_
  refine zab rfl rfl rfl (op_ldo rfl tb3 (ev1 rfl) rfl rfl) ?_
  refine zab rfl rfl rfl (op_eql rfl (ev1 rfl) (ev1 rfl)) ?_
  refine zab rfl rfl rfl (zac (.inl rfl) (ev1 rfl)) ?_
  refine walk_gr (gd_t rfl rfl rfl) rfl rfl rfl (op_fa rfl fo40_1 (ev1 rfl)) ?_
  refine walk_gr (gd_t rfl rfl rfl) rfl rfl rfl (op_ldo rfl tb3 (ev2 rfl) rfl rfl) ?_
  refine walk_gr (gd_t rfl rfl rfl) rfl rfl rfl (op_fa rfl fo25_0 (ev1 rfl)) ?_
  refine walk_gr (gd_t rfl rfl rfl) rfl rfl rfl (op_ldo rfl tb3 (ev2 rfl) rfl rfl) ?_
  refine walk_gr (gd_t rfl rfl rfl) rfl rfl rfl (op_leq rfl (ev2 rfl) (ev2 rfl)) ?_
  refine zab rfl rfl rfl (op_and rfl (ev1 rfl) (ev3 rfl id)) ?_
  refine zab rfl rfl rfl (zac (.inl rfl) (ev1 rfl)) ?_
  refine walk_gr (gd_t rfl rfl rfl) rfl rfl rfl (op_fa rfl fo25_0 (ev1 rfl)) ?_
  refine walk_gr (gd_t rfl rfl rfl) rfl rfl rfl (op_ldo rfl tb3 (ev2 rfl) rfl rfl) ?_
  refine walk_gr (gd_t rfl rfl rfl) rfl rfl rfl (op_fa rfl fo40_2 (ev1 rfl)) ?_
  refine walk_gr (gd_t rfl rfl rfl) rfl rfl rfl (op_ldo rfl tb3 (ev2 rfl) rfl rfl) ?_
  refine walk_gr (gd_t rfl rfl rfl) rfl rfl rfl (op_leq rfl (ev2 rfl) (ev2 rfl)) ?_
  refine zab rfl rfl rfl (op_and rfl (ev1 rfl) (ev3 rfl id)) ?_
  refine zaf ?_
  refine dwp_if_f rfl (by rw [← h.2]; unfold hitB; simp [Bool.and_assoc]; rfl) ?_
  refine dwp_skip ?_
  refine ⟨by first | rfl | assumption | simp_all, rfl, [0, 1, 2], rfl, ⟨rfl, rfl, rfl, trivial⟩⟩
theorem hasRound (s : Sp) (p : P2) : DRound Try.prog 0 [.val (.agg (s3 s).toArray)] [.lp 35 [(3, .loc 1 0), (5, .loc 2 0)] #[9] hsrA hsrB .ready none, .flat 25 [.int .i64 p.x, .int .i64 p.y], .flat 4 [.bool false]] (goB s p) [.lp 35 [(3, .loc 1 0), (5, .loc 2 0)] #[9] hsrA hsrB (rst (goB s p)) (rpe (.exit 0) (goB s p)), .flat 25 [.int .i64 p.x, .int .i64 p.y], .flat 4 [.bool (hitB s p)]] := by
  by_cases h : p.y < s.y
  · have e : goB s p = false := by unfold goB; simp [h]
    have e2 : hitB s p = false := by unfold hitB; rw [decide_eq_false (by omega)]; rfl
    rw [e, e2]
    exact hasRound_y s p false h
  · cases hh : hitB s p with
    | true =>
      have e : goB s p = false := by unfold goB; simp [hh]
      rw [e]
      exact hasRound_t s p false ⟨h, hh⟩
    | false =>
      have e : goB s p = true := by unfold goB; simp [hh]; omega
      rw [e]
      exact hasRound_g s p false ⟨h, hh⟩
set_option maxRecDepth 4000 in
set_option maxHeartbeats 1000000 in
theorem told_has (l : List Sp) (hc : chkS l) (p : P2) (hn : l.length ≤ 9223372036854775807) : DFun Try.prog 68 [.yld 0, .loc 3 0] [.lp 35 [(3, .loc 1 0), (5, .loc 2 0)] #[9] hsrA hsrB .ready none, .flat 25 [.int .i64 p.x, .int .i64 p.y], .flat 4 [.bool false], .mix 32 [.slf 3 (l).length ((l).flatMap s3)]] (.tup []) [.lp 35 [(3, .loc 1 0), (5, .loc 2 0)] #[9] hsrA hsrB (rst (l.all fun s => goB s p)) (rpe (.exit 0) (l.all fun s => goB s p)), .flat 25 [.int .i64 p.x, .int .i64 p.y], .flat 4 [.bool (hasB l p)], .mix 32 [.slf 3 (l).length ((l).flatMap s3)]] := by
  refine dcalls_go (N := 19) 4 (by kernel_rfl) Try.func68 rfl rfl rfl (by simp only [fr0, Nat.zero_add, Nat.reduceAdd]; exact rfl) rfl fun s0 hs0 => ?_
  refine zae ?_
  refine zae ?_
  refine zad ?_
  refine zab rfl rfl rfl (op_ldm rfl tb32 (ev1 rfl) rfl rfl) ?_
  refine zab rfl rfl rfl (dop_call [] [] [] rfl (ev1 rfl) (ec (ev1 rfl) en) rfl rfl (check_d l) rfl rfl rfl rfl rfl rfl) ?_
  refine zab rfl rfl rfl (op_neq rfl (ev1 rfl) (ev1 rfl)) ?_
  refine zaf ?_
  refine dwp_if_f rfl (by rw [chkE_ok hc]; rfl) ?_
  refine dwp_skip ?_
  refine zae ?_
  refine zad ?_
  refine zab rfl rfl rfl (op_ldm rfl tb32 (ev1 rfl) rfl rfl) ?_
  refine zab rfl rfl rfl (op_len rfl sl32 (ev1 rfl)) ?_
  refine zab rfl rfl rfl (zac (.inl rfl) (ev1 rfl)) ?_
  refine zaf ?_
  refine dwp_block ?_
  refine dwp_loopS ⟨hs0, rfl⟩ (α := Nat) (fun i => [(10, .val (.int .i64 (i : Int)))]) [(0, _), (8, _), (9, _)] (fun i => []) [_, _, _, _] (fun i => i ≤ l.length ∧ (l.take i).all (fun s => goB s p) = true) (fun i => l.length - i) 0 [0, 1, 2, 3] (⟨Nat.zero_le _, rfl⟩) rfl ⟨rfl, rfl, rfl, trivial⟩ ⟨rfl, trivial⟩ ⟨rfl, rfl, rfl, rfl, trivial⟩ ?_
  intro i hx
  simp only [upd, zaa, za, List.cons_append, List.nil_append]
  obtain ⟨hi0, hall⟩ := hx
  refine zae ?_
  refine zad ?_
  refine zab rfl rfl rfl (op_lss rfl (ev1 rfl) (ev1 rfl)) ?_
  refine zaf ?_
  refine zae ?_
  refine dwp_cond rfl (fun c2 => ?_) (fun c2 => ?_)
  · try simp only [decide_eq_true_eq, decide_eq_false_iff_not, beq_iff_eq, bne_iff_ne, beq_eq_false_iff_ne, bne_eq_false_iff_eq, Bool.not_eq_true', Bool.not_eq_false', Bool.and_eq_true, Bool.or_eq_true, Bool.or_eq_false_iff, ne_eq, Decidable.not_not, Int.not_lt, Int.not_le] at c2
    refine dwp_skip ?_
    refine zae ?_
    refine dwp_block ?_
    refine zae ?_
    have hi : i < l.length := by omega
    refine dwp_holes 1 (by simp only [holes, List.cons_append, List.nil_append]; exact rfl) ?_
    refine zad ?_
    refine zab rfl rfl rfl (op_ixsr (j := i) rfl sl32 (ev1 rfl) (ev1 rfl) (fun _ => rfl) (by decide) (by omega) (by omega)) ?_
    refine zab rfl rfl rfl (op_ldwd rfl tb40 (ev1 rfl) rfl) ?_
    refine walk_w rfl rfl rfl (op_alloc 4 rfl zr40 rfl) (by simp only [upd, zaa, za]; exact rfl) ?_
    refine walk_s rfl rfl (op_stwa rfl tb40 (ev1 rfl) (ev1 rfl) rfl rfl rfl rfl) (by simp only [upd, zaa, za]; exact rfl) ?_
    refine zaf ?_
    refine zae ?_
    refine zad ?_
    refine zab rfl rfl rfl (zac (.inl rfl) (ev1 rfl)) ?_
    refine zab rfl rfl rfl (op_ldw rfl tb40 (ev1 rfl) rfl rfl) ?_
    refine walk_w rfl rfl rfl (op_y (i := 0) [0, 1, 2] [] [] rfl (ev1 rfl) (ec (ev1 rfl) en) rfl rfl rfl (hasRound l[i] p) rfl rfl rfl rfl rfl) (by simp only [upd, zaa, za]; exact rfl) ?_
    refine zab rfl rfl rfl (op_not rfl (ev1 rfl)) ?_
    refine zaf ?_
    refine dwp_cond rfl (fun c2 => ?_) (fun c2 => ?_)
    · have hg : goB l[i] p = false := by simpa using c2
      refine dwp_ret ?_
      have e1 := hasB_stop hc hi hall hg
      have e2 := all_no (q := fun s => goB s p) hi hg
      rw [e1, e2, hg]
      refine kend [0, 1, 2, 3] (res_none rfl) rfl rfl ?_ ⟨rfl, rfl, rfl, rfl, trivial⟩
      rfl
    · have hg : goB l[i] p = true := by simpa using c2
      refine dwp_skip ?_
      refine zad ?_
      refine zab rfl rfl rfl (op_add' rfl (ev1 rfl) (ev1 rfl) (fun _ => IntWalk.i64_in _ (by omega))) ?_
      refine zab rfl rfl rfl (zac (.inl rfl) (ev1 rfl)) ?_
      refine zaf ?_
      have hnh : hitB l[i] p = false := by unfold goB at hg; revert hg; cases hitB l[i] p <;> simp
      rw [hg, hnh]
      refine ⟨i + 1, [0, 1, 2, 3], ⟨by omega, all_add hi hall hg⟩, by simp only []; omega, rfl, ⟨rfl, rfl, rfl, rfl, trivial⟩, ⟨rfl, rfl, rfl, rfl, trivial⟩⟩
  · try simp only [decide_eq_true_eq, decide_eq_false_iff_not, beq_iff_eq, bne_iff_ne, beq_eq_false_iff_ne, bne_eq_false_iff_eq, Bool.not_eq_true', Bool.not_eq_false', Bool.and_eq_true, Bool.or_eq_true, Bool.or_eq_false_iff, ne_eq, Decidable.not_not, Int.not_lt, Int.not_le] at c2
    refine dwp_exit ?_
    rw [take_all (by omega)] at hall
    have e1 := hasB_end hall
    rw [e1, hall]
    refine kend [0, 1, 2, 3] (res_none rfl) rfl rfl ?_ ⟨rfl, rfl, rfl, rfl, trivial⟩
    rfl
set_option maxRecDepth 4000 in
set_option maxHeartbeats 1000000 in
theorem told_has_no (l : List Sp) (hc : ¬ chkS l) (p : P2) : DFun Try.prog 68 [.yld 0, .loc 3 0] [.lp 35 [(3, .loc 1 0), (5, .loc 2 0)] #[9] hsrA hsrB .ready none, .flat 25 [.int .i64 p.x, .int .i64 p.y], .flat 4 [.bool false], .mix 32 [.slf 3 (l).length ((l).flatMap s3)]] (.tup []) [.lp 35 [(3, .loc 1 0), (5, .loc 2 0)] #[9] hsrA hsrB .ready none, .flat 25 [.int .i64 p.x, .int .i64 p.y], .flat 4 [.bool false], .mix 32 [.slf 3 (l).length ((l).flatMap s3)]] := by
  refine dcalls_go (N := 19) 4 (by kernel_rfl) Try.func68 rfl rfl rfl (by simp only [fr0, Nat.zero_add, Nat.reduceAdd]; exact rfl) rfl fun s0 hs0 => ?_
  refine zae ?_
  refine zae ?_
  refine zad ?_
  refine zab rfl rfl rfl (op_ldm rfl tb32 (ev1 rfl) rfl rfl) ?_
  refine zab rfl rfl rfl (dop_call [] [] [] rfl (ev1 rfl) (ec (ev1 rfl) en) rfl rfl (check_d l) rfl rfl rfl rfl rfl rfl) ?_
  refine zab rfl rfl rfl (op_neq rfl (ev1 rfl) (ev1 rfl)) ?_
  refine zaf ?_
  refine dwp_if_t rfl (by rw [chkE_no hc]; rfl) ?_
  refine dwp_ret ?_
  refine kend [0, 1, 2, 3] (res_none rfl) rfl rfl ?_ ⟨rfl, rfl, rfl, rfl, trivial⟩
  rfl
set_option maxRecDepth 4000 in
set_option maxHeartbeats 1000000 in
theorem has_ok (l : List Sp) (hc : chkS l) (p : P2) : DFun Try.prog 33 [.slf 3 (l).length ((l).flatMap s3), .val (.agg #[.int .i64 p.x, .int .i64 p.y])] [] (.val (.bool (hasB l p))) [] := by
  refine dcalls_go (N := 35) 0 (by kernel_rfl) Try.func33 rfl rfl rfl (by simp only [fr0, Nat.zero_add, Nat.reduceAdd]; exact rfl) rfl fun s0 hs0 => ?_
  refine dwp_len (t := 0) rfl fun hl0 hL0 => ?_
  refine zae ?_
  refine dwp_holes 1 (by simp only [holes, List.cons_append, List.nil_append]; exact rfl) ?_
  refine zad ?_
  refine walk_w rfl rfl rfl (op_boxa 0 rfl (ev1 rfl) rfl) (by simp only [upd, zaa, za]; exact rfl) ?_
  refine zab rfl rfl rfl (zac (.inr rfl) (ev1 rfl)) ?_
  refine zaf ?_
  refine dwp_scope ?_
  refine zae ?_
  refine dwp_holes 1 (by simp only [holes, List.cons_append, List.nil_append]; exact rfl) ?_
  refine zad ?_
  refine walk_w rfl rfl rfl (op_alloc 1 rfl zr4 rfl) (by simp only [upd, zaa, za]; exact rfl) ?_
  refine walk_s rfl rfl (op_stwb rfl tb4 (ev1 rfl) (ev1 rfl) rfl) (by simp only [upd, zaa, za]; exact rfl) ?_
  refine zaf ?_
  refine zae ?_
  refine dwp_label ?_
  refine zae ?_
  refine zae ?_
  refine dwp_holes 1 (by simp only [holes, List.cons_append, List.nil_append]; exact rfl) ?_
  refine zad ?_
  refine zab rfl rfl rfl (zac (.inl rfl) (ev1 rfl)) ?_
  refine walk_w rfl rfl rfl (dop_call [] [] [2] rfl (ev1 rfl) (ec (ev1 rfl) en) rfl rfl (told_d l) rfl rfl rfl rfl rfl rfl) (by simp only [upd, zaa, za]; exact rfl) ?_
  refine zaf ?_
  refine dwp_block ?_
  refine dwp_hole ?_
  simp only [List.cons_append, List.nil_append]
  refine dwp_rf (FL := [(3, _), (5, _)]) (st := (rst (l.all fun s => goB s p))) (pe := (rpe (.exit 0) (l.all fun s => goB s p))) [3, 0, 1, 2] [] [] 3 rfl rfl (ev1 rfl) rfl (subF_lk ⟨rfl, rfl, trivial⟩) rfl rfl rfl (told_has l hc p hl0) rfl rfl rfl rfl rfl rfl rfl (rst_busy _) (fun e => ?_) (fun c e => ?_)
  · simp only [upd, zaa, za]
    refine zae ?_
    refine zad ?_
    refine zab rfl rfl rfl (op_ldo rfl tb4 (ev1 rfl) rfl rfl) ?_
    refine zab rfl rfl rfl (zac (.inr rfl) (ev1 rfl)) ?_
    refine zaf ?_
    refine dwp_ret ?_
    refine kend0 (rs1 rfl (rv_t rfl)) rfl ?_
    rfl
  · obtain ⟨e1, rfl⟩ : (l.all fun s => goB s p) = false ∧ c = .exit 0 := by
      cases h : (l.all fun s => goB s p) <;> simp_all [rpe]
    simp only [upd, zaa, za]
    refine dwp_exit ?_
    refine zae ?_
    refine zad ?_
    refine zab rfl rfl rfl (op_ldo rfl tb4 (ev1 rfl) rfl rfl) ?_
    refine zab rfl rfl rfl (zac (.inr rfl) (ev1 rfl)) ?_
    refine zaf ?_
    refine dwp_ret ?_
    refine kend0 (rs1 rfl (rv_t rfl)) rfl ?_
    rfl
set_option maxRecDepth 4000 in
set_option maxHeartbeats 1000000 in
theorem has_no (l : List Sp) (hc : ¬ chkS l) (p : P2) : DFun Try.prog 33 [.slf 3 (l).length ((l).flatMap s3), .val (.agg #[.int .i64 p.x, .int .i64 p.y])] [] (.val (.bool false)) [] := by
  refine dcalls_go (N := 35) 0 (by kernel_rfl) Try.func33 rfl rfl rfl (by simp only [fr0, Nat.zero_add, Nat.reduceAdd]; exact rfl) rfl fun s0 hs0 => ?_
  refine dwp_len (t := 0) rfl fun hl0 hL0 => ?_
  refine zae ?_
  refine dwp_holes 1 (by simp only [holes, List.cons_append, List.nil_append]; exact rfl) ?_
  refine zad ?_
  refine walk_w rfl rfl rfl (op_boxa 0 rfl (ev1 rfl) rfl) (by simp only [upd, zaa, za]; exact rfl) ?_
  refine zab rfl rfl rfl (zac (.inr rfl) (ev1 rfl)) ?_
  refine zaf ?_
  refine dwp_scope ?_
  refine zae ?_
  refine dwp_holes 1 (by simp only [holes, List.cons_append, List.nil_append]; exact rfl) ?_
  refine zad ?_
  refine walk_w rfl rfl rfl (op_alloc 1 rfl zr4 rfl) (by simp only [upd, zaa, za]; exact rfl) ?_
  refine walk_s rfl rfl (op_stwb rfl tb4 (ev1 rfl) (ev1 rfl) rfl) (by simp only [upd, zaa, za]; exact rfl) ?_
  refine zaf ?_
  refine zae ?_
  refine dwp_label ?_
  refine zae ?_
  refine zae ?_
  refine dwp_holes 1 (by simp only [holes, List.cons_append, List.nil_append]; exact rfl) ?_
  refine zad ?_
  refine zab rfl rfl rfl (zac (.inl rfl) (ev1 rfl)) ?_
  refine walk_w rfl rfl rfl (dop_call [] [] [2] rfl (ev1 rfl) (ec (ev1 rfl) en) rfl rfl (told_d l) rfl rfl rfl rfl rfl rfl) (by simp only [upd, zaa, za]; exact rfl) ?_
  refine zaf ?_
  refine dwp_block ?_
  refine dwp_hole ?_
  simp only [List.cons_append, List.nil_append]
  refine dwp_rf (FL := [(3, _), (5, _)]) (st := .ready) (pe := none) [3, 0, 1, 2] [] [] 3 rfl rfl (ev1 rfl) rfl (subF_lk ⟨rfl, rfl, trivial⟩) rfl rfl rfl (told_has_no l hc p) rfl rfl rfl rfl rfl rfl rfl (by simp) (fun e => ?_) (fun c e => ?_)
  · simp only [upd, zaa, za]
    refine zae ?_
    refine zad ?_
    refine zab rfl rfl rfl (op_ldo rfl tb4 (ev1 rfl) rfl rfl) ?_
    refine zab rfl rfl rfl (zac (.inr rfl) (ev1 rfl)) ?_
    refine zaf ?_
    refine dwp_ret ?_
    refine kend0 (rs1 rfl (rv_t rfl)) rfl ?_
    rfl
  · cases e
def hasL (l : List Sp) (p : P2) : Bool := decide (chkS l) && hasB l p
theorem has_d (l : List Sp) (p : P2) : DFun Try.prog 33 [.slf 3 (l).length ((l).flatMap s3), .val (.agg #[.int .i64 p.x, .int .i64 p.y])] [] (.val (.bool (hasL l p))) [] := by
  by_cases hc : chkS l
  · have e : hasL l p = hasB l p := by unfold hasL; rw [decide_eq_true hc]; rfl
    rw [e]; exact has_ok l hc p
  · have e : hasL l p = false := by unfold hasL; rw [decide_eq_false hc]; rfl
    rw [e]; exact has_no l hc p
end Go.Proofs.Ytoffbkjhoelghaa
namespace Go.Proofs.Ytoffbkjhoelghaa
set_option maxRecDepth 4000
set_option linter.unusedVariables false
set_option linter.unusedSimpArgs false
open Go.RowKit
def rctL (a b : P2) : List Sp := if (drwB a && drwB b) = true then rectL a b else []
theorem rct_ok {a b : P2} (h : (drwB a && drwB b) = true) : rctL a b = rectL a b ∧ drwE a b = 0 := by unfold rctL drwE; rw [if_pos h, if_pos h]; exact ⟨rfl, rfl⟩
theorem rct_no {a b : P2} (h : (drwB a && drwB b) = false) : rctL a b = [] ∧ drwE a b = 2 := by unfold rctL drwE; rw [h]; exact ⟨rfl, rfl⟩
def rectK (a b : P2) (k : Nat) : List Sp := (List.range k).map fun j : Nat => ⟨min a.y b.y + (j : Int), min a.x b.x, max a.x b.x⟩
theorem rectK_succ (a b : P2) (k : Nat) : rectK a b (k + 1) = rectK a b k ++ [⟨min a.y b.y + (k : Int), min a.x b.x, max a.x b.x⟩] := by unfold rectK; rw [List.range_succ, List.map_append]; rfl
theorem rectK_len (a b : P2) (k : Nat) : (rectK a b k).length = k := by unfold rectK; simp
theorem rectK_all (a b : P2) : rectK a b (wayN a.y b.y + 1) = rectL a b := rfl
set_option maxRecDepth 4000 in
set_option maxHeartbeats 1000000 in
theorem rect_no (a b : P2) (h : (drwB a && drwB b) = false) : DFun Try.prog 12 [.val (.agg #[.int .i64 a.x, .int .i64 a.y]), .val (.agg #[.int .i64 b.x, .int .i64 b.y])] [] (.tup [.val (.slice none 0 0), .val (.int .i64 2)]) [] := by
  refine dcalls_go (N := 42) 0 (by kernel_rfl) Try.func12 rfl rfl rfl (by simp only [fr0, Nat.zero_add, Nat.reduceAdd]; exact rfl) rfl fun s0 hs0 => ?_
  refine zae ?_
  refine dwp_holes 2 (by simp only [holes, List.cons_append, List.nil_append]; exact rfl) ?_
  refine zad ?_
  refine walk_w rfl rfl rfl (op_boxa 0 rfl (ev1 rfl) rfl) (by simp only [upd, zaa, za]; exact rfl) ?_
  refine walk_w rfl rfl rfl (op_boxa 1 rfl (ev1 rfl) rfl) (by simp only [upd, zaa, za]; exact rfl) ?_
  refine zab rfl rfl rfl (zac (.inr rfl) (ev1 rfl)) ?_
  refine zab rfl rfl rfl (zac (.inr rfl) (ev1 rfl)) ?_
  refine zaf ?_
  refine zae ?_
  refine zae ?_
  refine zad ?_
  refine zab rfl rfl rfl (op_ldw rfl tb25 (ev1 rfl) rfl rfl) ?_
  refine zab rfl rfl rfl (op_ldw rfl tb25 (ev1 rfl) rfl rfl) ?_
  refine zab rfl rfl rfl (op_bs (ps := [(0, .tmp 8), (1, .tmp 9)]) rfl sl28 zr25 rfl (vc (ev1 rfl) (vc (ev1 rfl) vn)) rfl (by decide) (by decide)) ?_
  refine zab rfl rfl rfl (dop_call [] [] [] rfl (ev1 rfl) (ec (ev1 rfl) en) rfl rfl (undrawn_d [a, b]) rfl rfl rfl rfl rfl rfl) ?_
  refine zaf ?_
  refine dwp_if_t rfl (by unfold drwL; rcases Bool.and_eq_false_iff.1 h with h | h <;> simp [h]) ?_
  refine zae ?_
  refine zad ?_
  refine zab rfl rfl rfl (zac (.inr rfl) (ev1 rfl)) ?_
  refine zab rfl rfl rfl (zac (.inr rfl) (ev1 rfl)) ?_
  refine zaf ?_
  refine dwp_ret ?_
  refine kend0 (rs2 rfl (rv_t rfl) (rv_t rfl)) rfl ?_
  rfl
set_option maxRecDepth 4000 in
set_option maxHeartbeats 1000000 in
theorem rect_o (a b : P2) (ha : drwB a = true) (hb : drwB b = true) : DFun Try.prog 12 [.val (.agg #[.int .i64 a.x, .int .i64 a.y]), .val (.agg #[.int .i64 b.x, .int .i64 b.y])] [] (.tup [.arr 0, .val (.int .i64 0)]) [.arr 40 3 (rectL a b).length ((rectL a b).flatMap s3)] := by
  have hA := drwB_iff.1 ha
  have hB := drwB_iff.1 hb
  have hwy := wayN_eq a.y b.y
  refine dcalls_go (N := 42) 0 (by kernel_rfl) Try.func12 rfl rfl rfl (by simp only [fr0, Nat.zero_add, Nat.reduceAdd]; exact rfl) rfl fun s0 hs0 => ?_
  refine zae ?_
  refine dwp_holes 2 (by simp only [holes, List.cons_append, List.nil_append]; exact rfl) ?_
  refine zad ?_
  refine walk_w rfl rfl rfl (op_boxa 0 rfl (ev1 rfl) rfl) (by simp only [upd, zaa, za]; exact rfl) ?_
  refine walk_w rfl rfl rfl (op_boxa 1 rfl (ev1 rfl) rfl) (by simp only [upd, zaa, za]; exact rfl) ?_
  refine zab rfl rfl rfl (zac (.inr rfl) (ev1 rfl)) ?_
  refine zab rfl rfl rfl (zac (.inr rfl) (ev1 rfl)) ?_
  refine zaf ?_
  refine zae ?_
  refine zae ?_
  refine zad ?_
  refine zab rfl rfl rfl (op_ldw rfl tb25 (ev1 rfl) rfl rfl) ?_
  refine zab rfl rfl rfl (op_ldw rfl tb25 (ev1 rfl) rfl rfl) ?_
  refine zab rfl rfl rfl (op_bs (ps := [(0, .tmp 8), (1, .tmp 9)]) rfl sl28 zr25 rfl (vc (ev1 rfl) (vc (ev1 rfl) vn)) rfl (by decide) (by decide)) ?_
  refine zab rfl rfl rfl (dop_call [] [] [] rfl (ev1 rfl) (ec (ev1 rfl) en) rfl rfl (undrawn_d [a, b]) rfl rfl rfl rfl rfl rfl) ?_
  refine zaf ?_
  refine dwp_if_f rfl (by unfold drwL; simp [ha, hb]) ?_
  refine dwp_skip ?_
  refine zae ?_
  refine zad ?_
  refine zab rfl rfl rfl (zac (.inr rfl) (ev1 rfl)) ?_
  refine zaf ?_
  refine zae ?_
  refine zae ?_
  refine zad ?_
  refine zab rfl rfl rfl (op_fa rfl fo25_1 (ev1 rfl)) ?_
  refine zab rfl rfl rfl (op_ldo rfl tb3 (ev1 rfl) rfl rfl) ?_
  refine zab rfl rfl rfl (op_fa rfl fo25_1 (ev1 rfl)) ?_
  refine zab rfl rfl rfl (op_ldo rfl tb3 (ev1 rfl) rfl rfl) ?_
  refine zab rfl rfl rfl (op_min rfl (ev1 rfl) (ev1 rfl)) ?_
  refine zab rfl rfl rfl (zac (.inr rfl) (ev1 rfl)) ?_
  refine zaf ?_
  refine dwp_block ?_
  refine dwp_adopt 6 40 3 rfl rfl rfl ?_
  refine dwp_loopS ⟨hs0, rfl⟩ (α := Nat) (fun k => [(7, .val (.int .i64 (min a.y b.y + (k : Int))))]) [(2, _), (3, _), (6, _)] (fun k => [(2, .arr 40 3 (rectK a b k).length ((rectK a b k).flatMap s3))]) [_, _, .hole] (fun k => k ≤ wayN a.y b.y + 1) (fun k => wayN a.y b.y + 1 - k) 0 [0, 1, 2] (Nat.zero_le _) rfl ⟨rfl, rfl, rfl, trivial⟩ ⟨congrArg (fun z => some (D.val (.int .i64 z))) (Int.add_zero _).symm, trivial⟩ ⟨rfl, rfl, rfl, trivial⟩ ?_
  intro k hx
  simp only [upd, zaa, za, List.cons_append, List.nil_append]
  have hk := hx
  have hkl := rectK_len a b k
  refine zae ?_
  refine zae ?_
  refine zad ?_
  refine zab rfl rfl rfl (zac (.inl rfl) (ev1 rfl)) ?_
  refine zab rfl rfl rfl (op_fa rfl fo25_1 (ev1 rfl)) ?_
  refine zab rfl rfl rfl (op_ldo rfl tb3 (ev1 rfl) rfl rfl) ?_
  refine zab rfl rfl rfl (op_fa rfl fo25_1 (ev1 rfl)) ?_
  refine zab rfl rfl rfl (op_ldo rfl tb3 (ev1 rfl) rfl rfl) ?_
  refine zab rfl rfl rfl (op_max rfl (ev1 rfl) (ev1 rfl)) ?_
  refine zab rfl rfl rfl (op_leq rfl (ev1 rfl) (ev1 rfl)) ?_
  refine zaf ?_
  refine dwp_cond rfl (fun c2 => ?_) (fun c2 => ?_)
  · try simp only [decide_eq_true_eq, decide_eq_false_iff_not, beq_iff_eq, bne_iff_ne, beq_eq_false_iff_ne, bne_eq_false_iff_eq, Bool.not_eq_true', Bool.not_eq_false', Bool.and_eq_true, Bool.or_eq_true, Bool.or_eq_false_iff, ne_eq, Decidable.not_not, Int.not_lt, Int.not_le] at c2
    refine dwp_skip ?_
    refine zae ?_
    refine dwp_block ?_
    refine dwp_holes 1 (by simp only [holes, List.cons_append, List.nil_append]; exact rfl) ?_
    refine zad ?_
    refine zab rfl rfl rfl (zac (.inl rfl) (ev1 rfl)) ?_
    refine zab rfl rfl rfl (zac (.inl rfl) (ev1 rfl)) ?_
    refine zab rfl rfl rfl (op_fa rfl fo25_0 (ev1 rfl)) ?_
    refine zab rfl rfl rfl (op_ldo rfl tb3 (ev1 rfl) rfl rfl) ?_
    refine zab rfl rfl rfl (op_fa rfl fo25_0 (ev1 rfl)) ?_
    refine zab rfl rfl rfl (op_ldo rfl tb3 (ev1 rfl) rfl rfl) ?_
    refine zab rfl rfl rfl (op_min rfl (ev1 rfl) (ev1 rfl)) ?_
    refine zab rfl rfl rfl (op_fa rfl fo25_0 (ev1 rfl)) ?_
    refine zab rfl rfl rfl (op_ldo rfl tb3 (ev1 rfl) rfl rfl) ?_
    refine zab rfl rfl rfl (op_fa rfl fo25_0 (ev1 rfl)) ?_
    refine zab rfl rfl rfl (op_ldo rfl tb3 (ev1 rfl) rfl rfl) ?_
    refine zab rfl rfl rfl (op_max rfl (ev1 rfl) (ev1 rfl)) ?_
    refine zab rfl rfl rfl (op_build (ps := [(0, .tmp 27), (1, .tmp 32), (2, .tmp 37)]) rfl fl40 zr40 (vc (ev1 rfl) (vc (ev1 rfl) (vc (ev1 rfl) vn))) rfl rfl) ?_
    refine zab rfl rfl rfl (op_bs (ps := [(0, .tmp 38)]) rfl sl32 zr40 rfl (vc (ev1 rfl) vn) rfl (by decide) (by decide)) ?_
    refine walk_w rfl rfl rfl (op_app (j := 3) rfl sl32 zr40 rfl (ev1 rfl) (ev1 rfl) src_slf rfl rfl (fun _ => rfl) (fun _ => ⟨by omega, by omega⟩)) (by simp only [upd, zaa, za]; exact rfl) ?_
    refine zab rfl rfl rfl (zac (.inr rfl) (ev1 rfl)) ?_
    refine zaf ?_
    refine zad ?_
    refine zab rfl rfl rfl (zac (.inl rfl) (ev1 rfl)) ?_
    refine zab rfl rfl rfl (op_add' rfl (ev1 rfl) (ev1 rfl) (fun _ => IntWalk.i64_in _ (by omega))) ?_
    refine zab rfl rfl rfl (zac (.inr rfl) (ev1 rfl)) ?_
    refine zaf ?_
    refine ⟨k + 1, [0, 1, 3], by omega, by simp only []; omega, rfl, ⟨congrArg (fun z => some (D.val (.int .i64 z))) (by omega), rfl, rfl, rfl, trivial⟩, ⟨rfl, rfl, (by rw [rectK_succ, List.length_append, List.flatMap_append]; rfl), trivial⟩⟩
  · try simp only [decide_eq_true_eq, decide_eq_false_iff_not, beq_iff_eq, bne_iff_ne, beq_eq_false_iff_ne, bne_eq_false_iff_eq, Bool.not_eq_true', Bool.not_eq_false', Bool.and_eq_true, Bool.or_eq_true, Bool.or_eq_false_iff, ne_eq, Decidable.not_not, Int.not_lt, Int.not_le] at c2
    refine dwp_exit ?_
    refine zae ?_
    refine zad ?_
    refine zab rfl rfl rfl (zac (.inl rfl) (ev1 rfl)) ?_
    refine zab rfl rfl rfl (zac (.inr rfl) (ev1 rfl)) ?_
    refine zab rfl rfl rfl (zac (.inr rfl) (ev1 rfl)) ?_
    refine zaf ?_
    refine dwp_ret ?_
    refine kend [2] (rs2 rfl (rv_t rfl) (rv_t rfl)) rfl rfl ?_ ⟨?_, trivial⟩
    rfl
    exact (by rw [← rectK_all, show wayN a.y b.y + 1 = k by omega]; rfl)
theorem rect_d (a b : P2) : DFun Try.prog 12 [.val (.agg #[.int .i64 a.x, .int .i64 a.y]), .val (.agg #[.int .i64 b.x, .int .i64 b.y])] [] (.tup [.slf 3 ((rctL a b)).length (((rctL a b)).flatMap s3), .val (.int .i64 (drwE a b))]) [] := by
  cases h : (drwB a && drwB b) with
  | true =>
    obtain ⟨e1, e2⟩ := rct_ok h
    obtain ⟨ha, hb⟩ := Bool.and_eq_true_iff.1 h
    rw [e1, e2]
    exact freeze (rect_o a b ha hb) rfl
  | false =>
    obtain ⟨e1, e2⟩ := rct_no h
    rw [e1, e2]
    exact (rect_no a b h).wk (Wk.tup (WkL.cons (Wk.slf0 3) (WkL.cons (Wk.refl _) WkL.nil)))
end Go.Proofs.Ytoffbkjhoelghaa
namespace Go.Proofs.Ytoffbkjhoelghaa
set_option maxRecDepth 4000
set_option linter.unusedVariables false
set_option linter.unusedSimpArgs false
open Go.RowKit
open Go.ChangeShapes Go.WideShapes Go.ChangeAt Go.Joins Go.Deep
theorem fits_p2 (cs : List Value) (h : fitsP [.int .i64, .int .i64] cs) : ∃ p : P2, p.rng ∧ cs = p2 p := by
  obtain ⟨x0, r, rfl, h0, g1⟩ := fitsP_cons h
  obtain ⟨x1, r, rfl, h1, g2⟩ := fitsP_cons g1
  obtain rfl := fitsP_nil g2
  obtain ⟨x, wx, rfl⟩ := fits_prim_i64 h0
  obtain ⟨y, wy, rfl⟩ := fits_prim_i64 h1
  exact ⟨⟨x, y⟩, ⟨wx, wy⟩, rfl⟩
end Go.Proofs.Ytoffbkjhoelghaa
namespace Go.Proofs.Ytoffbkjhoelghaa
set_option maxRecDepth 4000
set_option linter.unusedVariables false
set_option linter.unusedSimpArgs false
open Go.RowKit
theorem op_max4 {P : Program} {pc : Bool} {o : Oper} {F : Fr} {M : List Blk} {x y z u : Operand} {T1 T2 T3 T4 : TypeId} {k : IntKind} {p q r t : Int} (ho : o.op = .call { callee := .builtin .max, args := #[x, y, z, u], argTypes := #[T1, T2, T3, T4] }) (hx : Ev pc F x (.val (.int k p))) (hy : Ev pc F y (.val (.int k q))) (hz : Ev pc F z (.val (.int k r))) (hu : Ev pc F u (.val (.int k t))) : DOp P pc o F M [] (.val (.int k (max (max (max p q) r) t))) [] := by
  intro hp a s hok hops _
  have e1 := (ev_at hp hx (by simp [ho, Op.operands, Call.operands]) hops).val_eq
  have e2 := (ev_at hp hy (by simp [ho, Op.operands, Call.operands]) hops).val_eq
  have e3 := (ev_at hp hz (by simp [ho, Op.operands, Call.operands]) hops).val_eq
  have e4 := (ev_at hp hu (by simp [ho, Op.operands, Call.operands]) hops).val_eq
  refine dg_val hok ?_ (.val _)
  have m : ∀ p q : Int, (if p < q then q else p) = max p q := fun p q => by rw [Int.max_def]; split <;> split <;> omega
  refine run_builtin ho (fun cs => rfl) ?_
  simp [Builtin.max_, e1, e2, e3, e4, Builtin.max2, m]
theorem lineL_len (a b : P2) : (lineL a b).length = gr2 a b + 1 := by unfold lineL; simp
theorem lineL_at {a b : P2} {i : Nat} (h : i < (lineL a b).length) : (lineL a b)[i] = lineP a b i := by simp only [lineL, List.getElem_map, List.getElem_range]
theorem lineL_ne {a b : P2} {i : Nat} (hi : i < (lineL a b).length) : (lineL a b)[i] ∉ (lineL a b).take i := fun h => by
  obtain ⟨j, hj, e⟩ := List.mem_take_iff_getElem.1 h
  have hl := lineL_len a b
  have e' : (lineL a b)[j] = (lineL a b)[i] := e
  rw [lineL_at, lineL_at] at e'
  have := line_inj (by omega) (by omega) e'
  omega
theorem line_box {a b : P2} {k : Nat} (hk : k ≤ gr2 a b) : (min a.x b.x ≤ (lineP a b k).x ∧ (lineP a b k).x ≤ max a.x b.x) ∧ min a.y b.y ≤ (lineP a b k).y ∧ (lineP a b k).y ≤ max a.y b.y :=
  ⟨along_in hk (way_gr a b).1, along_in hk (way_gr a b).2⟩
theorem line_adj {a b : P2} {k : Nat} (hk : k < gr2 a b) : max ((lineP a b (k + 1)).x - (lineP a b k).x) ((lineP a b k).x - (lineP a b (k + 1)).x) ≤ 1 ∧ max ((lineP a b (k + 1)).y - (lineP a b k).y) ((lineP a b k).y - (lineP a b (k + 1)).y) ≤ 1 :=
  ⟨along_step (by omega) (way_gr a b).1, along_step (by omega) (way_gr a b).2⟩
theorem rect_chk {a b : P2} (ha : drwB a = true) (hb : drwB b = true) : chkS (rectL a b) := by
  have hA := drwB_iff.1 ha
  have hB := drwB_iff.1 hb
  refine ⟨fun s hs => ⟨?_, (rect_ok a b).1 s hs⟩, (rect_ok a b).2⟩
  have hw := wayN_eq a.y b.y
  obtain ⟨j, hj, rfl⟩ := List.mem_map.1 hs
  rw [List.mem_range] at hj
  unfold rchS
  simp only
  omega
theorem hasL_iff2 {l : List Sp} (h : chkS l) (p : P2) : hasL l p = true ↔ hasS l p.x p.y := by unfold hasL hasB; rw [decide_eq_true h, Bool.true_and, decide_eq_true_eq]
set_option maxRecDepth 4000 in
set_option maxHeartbeats 1000000 in
theorem ixp_d (l : List P2) (p : P2) : DFun Try.prog 56 [.slf 2 (l).length ((l).flatMap p2), .val (.agg #[.int .i64 p.x, .int .i64 p.y])] [] (.val (.int .i64 (ixZ (fun q => decide (p = q)) l))) [] := by
  refine dcalls_go (N := 19) 0 (by kernel_rfl) Try.func56 rfl rfl rfl (by simp only [fr0, Nat.zero_add, Nat.reduceAdd]; exact rfl) rfl fun s0 hs0 => ?_
  refine dwp_len (t := 0) rfl fun hl0 hL0 => ?_
  refine zae ?_
  refine dwp_holes 1 (by simp only [holes, List.cons_append, List.nil_append]; exact rfl) ?_
  refine zad ?_
  refine walk_w rfl rfl rfl (op_boxa 0 rfl (ev1 rfl) rfl) (by simp only [upd, zaa, za]; exact rfl) ?_
  refine zab rfl rfl rfl (zac (.inr rfl) (ev1 rfl)) ?_
  refine zaf ?_
  refine zae ?_
  refine zae ?_
  refine zad ?_
  refine zab rfl rfl rfl (zac (.inl rfl) (ev1 rfl)) ?_
  refine zab rfl rfl rfl (op_len rfl sl28 (ev1 rfl)) ?_
  refine zab rfl rfl rfl (zac (.inl rfl) (ev1 rfl)) ?_
  refine zaf ?_
  refine dwp_block ?_
  refine dwp_loopS ⟨hs0, rfl⟩ (α := Nat) (fun i => [(8, .val (.int .i64 (i : Int)))]) [(0, _), (3, _), (7, _)] (fun i => []) [_] (fun i => i ≤ l.length ∧ (l.take i).any (fun q => decide (p = q)) = false) (fun i => l.length - i) 0 [0] (⟨Nat.zero_le _, rfl⟩) rfl ⟨rfl, rfl, rfl, trivial⟩ ⟨rfl, trivial⟩ ⟨rfl, trivial⟩ ?_
  intro i hx
  simp only [upd, zaa, za, List.cons_append, List.nil_append]
  obtain ⟨hi0, hno⟩ := hx
  refine zae ?_
  refine zad ?_
  refine zab rfl rfl rfl (op_lss rfl (ev1 rfl) (ev1 rfl)) ?_
  refine zaf ?_
  refine zae ?_
  refine dwp_cond rfl (fun c1 => ?_) (fun c1 => ?_)
  · try simp only [decide_eq_true_eq, decide_eq_false_iff_not, beq_iff_eq, bne_iff_ne, beq_eq_false_iff_ne, bne_eq_false_iff_eq, Bool.not_eq_true', Bool.not_eq_false', Bool.and_eq_true, Bool.or_eq_true, Bool.or_eq_false_iff, ne_eq, Decidable.not_not, Int.not_lt, Int.not_le] at c1
    refine dwp_skip ?_
    refine zae ?_
    refine dwp_block ?_
    refine zae ?_
    refine zad ?_
    refine zab rfl rfl rfl (zac (.inl rfl) (ev1 rfl)) ?_
    refine zab rfl rfl rfl (zac (.inr rfl) (ev1 rfl)) ?_
    refine zaf ?_
    refine zae ?_
    refine dwp_draw [([0], []), ([], []), ([], []), ([], []), ([], []), ([], [])] mixed (by kernel_rfl) ?_
    refine lex_r rfl rfl (op_ldw rfl tb25 (ev1 rfl) rfl rfl) ?_
    refine lex_r rfl rfl (zac (.inl rfl) (ev1 rfl)) ?_
    refine lex_r rfl rfl (zac (.inl rfl) (ev1 rfl)) ?_
    refine lex_r rfl rfl (op_ixsr (j := i) rfl sl28 (ev1 rfl) (ev1 rfl) (fun _ => rfl) (by decide) (by omega) (by omega)) ?_
    refine lex_r rfl rfl (op_ldwd rfl tb25 (ev1 rfl) rfl) ?_
    refine lex_r rfl rfl (op_eqr eq25 rfl gd25 tb25 (ev1 rfl) (ev1 rfl)) ?_
    refine lex_nil ?_
    refine dwp_cond rfl (fun c2 => ?_) (fun c2 => ?_)
    · refine zae ?_
      refine zad ?_
      refine zab rfl rfl rfl (zac (.inl rfl) (ev1 rfl)) ?_
      refine zab rfl rfl rfl (zac (.inr rfl) (ev1 rfl)) ?_
      refine zaf ?_
      refine dwp_ret ?_
      refine kend0 (rs1 rfl (rv_t rfl)) rfl ?_
      rw [ixZ_at (by omega) hno c2]
    · refine dwp_skip ?_
      refine zad ?_
      refine zab rfl rfl rfl (op_add' rfl (ev1 rfl) (ev1 rfl) (fun _ => IntWalk.i64_in _ (by omega))) ?_
      refine zab rfl rfl rfl (zac (.inl rfl) (ev1 rfl)) ?_
      refine zaf ?_
      have hi : i < l.length := by omega
      refine ⟨i + 1, [0], ⟨by omega, any_add (by omega) hno c2⟩, by simp only []; omega, rfl, ⟨rfl, rfl, rfl, rfl, trivial⟩, ⟨rfl, trivial⟩⟩
  · try simp only [decide_eq_true_eq, decide_eq_false_iff_not, beq_iff_eq, bne_iff_ne, beq_eq_false_iff_ne, bne_eq_false_iff_eq, Bool.not_eq_true', Bool.not_eq_false', Bool.and_eq_true, Bool.or_eq_true, Bool.or_eq_false_iff, ne_eq, Decidable.not_not, Int.not_lt, Int.not_le] at c1
    refine dwp_exit ?_
    refine zae ?_
    refine zad ?_
    refine zab rfl rfl rfl (zac (.inr rfl) (ev1 rfl)) ?_
    refine zaf ?_
    refine dwp_ret ?_
    rw [take_all (by omega)] at hno
    refine kend0 (rs1 rfl (rv_t rfl)) rfl ?_
    rw [ixZ_no hno]
set_option maxRecDepth 4000 in
set_option maxHeartbeats 1000000 in
theorem ctp_d (l : List P2) (p : P2) : DFun Try.prog 36 [.slf 2 (l).length ((l).flatMap p2), .val (.agg #[.int .i64 p.x, .int .i64 p.y])] [] (.val (.bool (decide (p ∈ l)))) [] := by
  refine dcalls_go (N := 9) 0 (by kernel_rfl) Try.func36 rfl rfl rfl (by simp only [fr0, Nat.zero_add, Nat.reduceAdd]; exact rfl) rfl fun s0 hs0 => ?_
  refine dwp_len (t := 0) rfl fun hl0 hL0 => ?_
  refine zae ?_
  refine dwp_holes 1 (by simp only [holes, List.cons_append, List.nil_append]; exact rfl) ?_
  refine zad ?_
  refine walk_w rfl rfl rfl (op_boxa 0 rfl (ev1 rfl) rfl) (by simp only [upd, zaa, za]; exact rfl) ?_
  refine zab rfl rfl rfl (zac (.inr rfl) (ev1 rfl)) ?_
  refine zaf ?_
  refine zae ?_
  refine zad ?_
  refine zab rfl rfl rfl (zac (.inl rfl) (ev1 rfl)) ?_
  refine zab rfl rfl rfl (op_ldw rfl tb25 (ev1 rfl) rfl rfl) ?_
  refine zab rfl rfl rfl (dop_call [] [] [] rfl (ev1 rfl) (ec (ev1 rfl) (ec (ev1 rfl) en)) rfl rfl (ixp_d l p) rfl rfl rfl rfl rfl rfl) ?_
  refine zab rfl rfl rfl (op_geq rfl (ev1 rfl) (ev1 rfl)) ?_
  refine zab rfl rfl rfl (zac (.inr rfl) (ev1 rfl)) ?_
  refine zaf ?_
  refine dwp_ret ?_
  refine kend0 (rs1 rfl (rv_t rfl)) rfl ?_
  rw [ixZ_nn, D.val.injEq, Value.bool.injEq, Bool.eq_iff_iff]
  simp
set_option maxRecDepth 4000 in
set_option maxHeartbeats 1000000 in
theorem steps_d (a b : P2) : DFun Try.prog 6 [.val (.agg #[.int .i64 a.x, .int .i64 a.y]), .val (.agg #[.int .i64 b.x, .int .i64 b.y])] [] (.val (.bool true)) [] := by
  refine dcalls_go (N := 154) 0 (by kernel_rfl) Try.func6 rfl rfl rfl (by simp only [fr0, Nat.zero_add, Nat.reduceAdd]; exact rfl) rfl fun s0 hs0 => ?_
  refine zae ?_
  refine dwp_holes 2 (by simp only [holes, List.cons_append, List.nil_append]; exact rfl) ?_
  refine zad ?_
  refine walk_w rfl rfl rfl (op_boxa 0 rfl (ev1 rfl) rfl) (by simp only [upd, zaa, za]; exact rfl) ?_
  refine walk_w rfl rfl rfl (op_boxa 1 rfl (ev1 rfl) rfl) (by simp only [upd, zaa, za]; exact rfl) ?_
  refine zab rfl rfl rfl (zac (.inr rfl) (ev1 rfl)) ?_
  refine zaf ?_
  refine zae ?_
  refine zae ?_
  refine zad ?_
  refine zab rfl rfl rfl (dop_call [] [] [] rfl (ev1 rfl) en rfl rfl (wakes_d) rfl rfl rfl rfl rfl rfl) ?_
  refine zab rfl rfl rfl (op_not rfl (ev1 rfl)) ?_
  refine zaf ?_
  refine dwp_if_f rfl (rfl) ?_
  refine dwp_skip ?_
  refine zae ?_
  refine zad ?_
  refine zab rfl rfl rfl (op_ldw rfl tb25 (ev1 rfl) rfl rfl) ?_
  refine zab rfl rfl rfl (op_ldw rfl tb25 (ev1 rfl) rfl rfl) ?_
  refine zab rfl rfl rfl (dop_call [] [] [] rfl (ev1 rfl) (ec (ev1 rfl) (ec (ev1 rfl) en)) rfl rfl (line_d a b) rfl rfl rfl rfl rfl rfl) ?_
  refine zab rfl rfl rfl (zac (.inl rfl) (ev1 rfl)) ?_
  refine zab rfl rfl rfl (op_ext rfl (ev1 rfl) rfl) ?_
  refine zab rfl rfl rfl (op_ext rfl (ev1 rfl) rfl) ?_
  refine zab rfl rfl rfl (zac (.inr rfl) (ev1 rfl)) ?_
  refine zab rfl rfl rfl (zac (.inr rfl) (ev1 rfl)) ?_
  refine zaf ?_
  refine zae ?_
  refine zad ?_
  refine zab rfl rfl rfl (op_ldw rfl tb25 (ev1 rfl) rfl rfl) ?_
  refine zab rfl rfl rfl (op_ldw rfl tb25 (ev1 rfl) rfl rfl) ?_
  refine zab rfl rfl rfl (dop_call [] [] [] rfl (ev1 rfl) (ec (ev1 rfl) (ec (ev1 rfl) en)) rfl rfl (rect_d a b) rfl rfl rfl rfl rfl rfl) ?_
  refine zab rfl rfl rfl (zac (.inl rfl) (ev1 rfl)) ?_
  refine zab rfl rfl rfl (op_ext rfl (ev1 rfl) rfl) ?_
  refine zab rfl rfl rfl (op_ext rfl (ev1 rfl) rfl) ?_
  refine zab rfl rfl rfl (zac (.inr rfl) (ev1 rfl)) ?_
  refine zab rfl rfl rfl (zac (.inr rfl) (ev1 rfl)) ?_
  refine zaf ?_
  refine zae ?_
  refine zae ?_
  by_cases hd : (drwB a && drwB b) = true
  · obtain ⟨ha, hb⟩ := Bool.and_eq_true_iff.1 hd
    have hA := drwB_iff.1 ha
    have hB := drwB_iff.1 hb
    have hlen := lineL_len a b
    have hwx := wayN_eq a.x b.x
    have hwy := wayN_eq a.y b.y
    have hgr : (gr2 a b : Int) = max (wayN a.x b.x : Int) (wayN a.y b.y : Int) := by unfold gr2; omega
    have hl0 : (lineL a b)[0] = a := by rw [lineL_at, line_zero]
    have hln : (lineL a b)[gr2 a b] = b := by rw [lineL_at, line_end]
    rw [(lin_ok hd).1, (lin_ok hd).2, (rct_ok hd).1]
    refine zad ?_
    refine zab rfl rfl rfl (zac (.inl rfl) (ev1 rfl)) ?_
    refine zab rfl rfl rfl (op_neq rfl (ev1 rfl) (ev1 rfl)) ?_
    refine zaf ?_
    refine dwp_if_f rfl (rfl) ?_
    refine dwp_skip ?_
    refine zae ?_
    refine zae ?_
    refine dwp_draw [([], []), ([], []), ([], []), ([], []), ([], []), ([], []), ([], []), ([], []), ([], []), ([], []), ([], []), ([0], []), ([], []), ([], []), ([], []), ([], []), ([], []), ([], []), ([], []), ([], []), ([], []), ([1], []), ([], []), ([], [])] mixed (by kernel_rfl) ?_
    refine lex_r rfl rfl (zac (.inl rfl) (ev1 rfl)) ?_
    refine lex_r rfl rfl ((op_neq rfl (ev1 rfl) (ev1 rfl)).cast (d' := .val (.bool false)) (by rfl)) ?_
    refine lex_r rfl rfl (zac (.inl rfl) (ev1 rfl)) ?_
    refine lex_k (gd_f (b := false) rfl rfl rfl) rfl rfl (zac (.inl rfl) (ev1 rfl)) rfl (by simp only [upd, zaa, za]; exact rfl) ?_
    refine lex_k (gd_f (b := false) rfl rfl rfl) rfl rfl (op_len rfl sl28 (ev2 rfl)) rfl (by simp only [upd, zaa, za]; exact rfl) ?_
    refine lex_k (gd_f (b := false) rfl rfl rfl) rfl rfl ((op_lss rfl (ev2 rfl) (ev1 rfl)).cast (d' := .val (.bool false)) (by rw [hlen, D.val.injEq, Value.bool.injEq, decide_eq_false_iff_not]; omega)) rfl (by simp only [upd, zaa, za]; exact rfl) ?_
    refine lex_r rfl rfl ((op_or rfl (ev1 rfl) (ev3 rfl (fun _ => rfl))).cast (d' := .val (.bool false)) (by rfl)) ?_
    refine lex_r rfl rfl (zac (.inl rfl) (ev1 rfl)) ?_
    refine lex_k (gd_f (b := false) rfl rfl rfl) rfl rfl (zac (.inl rfl) (ev1 rfl)) rfl (by simp only [upd, zaa, za]; exact rfl) ?_
    refine lex_k (gd_f (b := false) rfl rfl rfl) rfl rfl (op_ixsr (j := 0) rfl sl28 (ev2 rfl) (ev1 rfl) (fun _ => rfl) (by decide) (by omega) (by omega)) rfl (by simp only [upd, zaa, za]; exact rfl) ?_
    refine lex_k (gd_f (b := false) rfl rfl rfl) rfl rfl (op_ldwd rfl tb25 (ev2 rfl) rfl) rfl (by simp only [upd, zaa, za]; exact rfl) ?_
    refine lex_k (gd_f (b := false) rfl rfl rfl) rfl rfl (op_ldw rfl tb25 (ev1 rfl) rfl rfl) rfl (by simp only [upd, zaa, za]; exact rfl) ?_
    refine lex_k (gd_f (b := false) rfl rfl rfl) rfl rfl ((op_ner eq25 rfl gd25 tb25 (ev2 rfl) (ev2 rfl)).cast (d' := .val (.bool false)) (by rw [hl0]; simp)) rfl (by simp only [upd, zaa, za]; exact rfl) ?_
    refine lex_r rfl rfl ((op_or rfl (ev1 rfl) (ev3 rfl (fun _ => rfl))).cast (d' := .val (.bool false)) (by rfl)) ?_
    refine lex_r rfl rfl (zac (.inl rfl) (ev1 rfl)) ?_
    refine lex_k (gd_f (b := false) rfl rfl rfl) rfl rfl (zac (.inl rfl) (ev1 rfl)) rfl (by simp only [upd, zaa, za]; exact rfl) ?_
    refine lex_k (gd_f (b := false) rfl rfl rfl) rfl rfl (zac (.inl rfl) (ev1 rfl)) rfl (by simp only [upd, zaa, za]; exact rfl) ?_
    refine lex_k (gd_f (b := false) rfl rfl rfl) rfl rfl (op_len rfl sl28 (ev2 rfl)) rfl (by simp only [upd, zaa, za]; exact rfl) ?_
    refine lex_k (gd_f (b := false) rfl rfl rfl) rfl rfl (op_sub' rfl (ev2 rfl) (ev1 rfl) (fun _ => IntWalk.i64_in _ (by omega))) rfl (by simp only [upd, zaa, za]; exact rfl) ?_
    refine lex_k (gd_f (b := false) rfl rfl rfl) rfl rfl (op_ixsr (j := gr2 a b) rfl sl28 (ev2 rfl) (ev2 rfl) (fun _ => rfl) (by decide) (by omega) (by omega)) rfl (by simp only [upd, zaa, za]; exact rfl) ?_
    refine lex_k (gd_f (b := false) rfl rfl rfl) rfl rfl (op_ldwd rfl tb25 (ev2 rfl) rfl) rfl (by simp only [upd, zaa, za]; exact rfl) ?_
    refine lex_k (gd_f (b := false) rfl rfl rfl) rfl rfl (op_ldw rfl tb25 (ev1 rfl) rfl rfl) rfl (by simp only [upd, zaa, za]; exact rfl) ?_
    refine lex_k (gd_f (b := false) rfl rfl rfl) rfl rfl ((op_ner eq25 rfl gd25 tb25 (ev2 rfl) (ev2 rfl)).cast (d' := .val (.bool false)) (by rw [hln]; simp)) rfl (by simp only [upd, zaa, za]; exact rfl) ?_
    refine lex_r rfl rfl ((op_or rfl (ev1 rfl) (ev3 rfl (fun _ => rfl))).cast (d' := .val (.bool false)) (by rfl)) ?_
    refine lex_nil ?_
    refine dwp_if_f rfl (rfl) ?_
    refine dwp_skip ?_
    refine zae ?_
    refine zae ?_
    refine zad ?_
    refine zab rfl rfl rfl (zac (.inl rfl) (ev1 rfl)) ?_
    refine zab rfl rfl rfl (op_len rfl sl28 (ev1 rfl)) ?_
    refine zab rfl rfl rfl (zac (.inl rfl) (ev1 rfl)) ?_
    refine zaf ?_
    refine dwp_block ?_
    refine dwp_loopS ⟨hs0, rfl⟩ (α := Nat) (fun i => [(66, .val (.int .i64 (i : Int)))]) [(2, _), (3, _), (5, _), (7, _), (64, _), (65, _)] (fun i => []) [_, _] (fun i => i ≤ (lineL a b).length) (fun i => (lineL a b).length - i) 0 [0, 1] (Nat.zero_le _) rfl ⟨rfl, rfl, rfl, rfl, rfl, rfl, trivial⟩ ⟨rfl, trivial⟩ ⟨rfl, rfl, trivial⟩ ?_
    intro i hx
    simp only [upd, zaa, za, List.cons_append, List.nil_append]
    have hi0 := hx
    refine zae ?_
    refine zad ?_
    refine zab rfl rfl rfl (op_lss rfl (ev1 rfl) (ev1 rfl)) ?_
    refine zaf ?_
    refine zae ?_
    refine dwp_cond rfl (fun c4 => ?_) (fun c4 => ?_)
    · try simp only [decide_eq_true_eq, decide_eq_false_iff_not, beq_iff_eq, bne_iff_ne, beq_eq_false_iff_ne, bne_eq_false_iff_eq, Bool.not_eq_true', Bool.not_eq_false', Bool.and_eq_true, Bool.or_eq_true, Bool.or_eq_false_iff, ne_eq, Decidable.not_not, Int.not_lt, Int.not_le] at c4
      refine dwp_skip ?_
      refine zae ?_
      refine dwp_block ?_
      refine zae ?_
      have hi : i < (lineL a b).length := by omega
      have hpi := lineL_at hi
      have hbi := line_box (a := a) (b := b) (k := i) (by omega)
      rw [← hpi] at hbi
      have hhas : hasL (rectL a b) (lineL a b)[i] = true := (hasL_iff2 (rect_chk ha hb) _).2 ((rect_has a b _ _).2 hbi)
      refine dwp_holes 1 (by simp only [holes, List.cons_append, List.nil_append]; exact rfl) ?_
      refine zad ?_
      refine zab rfl rfl rfl (zac (.inl rfl) (ev1 rfl)) ?_
      refine zab rfl rfl rfl (op_ixsr (j := i) rfl sl28 (ev1 rfl) (ev1 rfl) (fun _ => rfl) (by decide) (by omega) (by omega)) ?_
      refine zab rfl rfl rfl (op_ldwd rfl tb25 (ev1 rfl) rfl) ?_
      refine walk_w rfl rfl rfl (op_alloc 2 rfl zr25 rfl) (by simp only [upd, zaa, za]; exact rfl) ?_
      refine zab rfl rfl rfl (zac (.inr rfl) (ev1 rfl)) ?_
      refine walk_s rfl rfl (op_stwa rfl tb25 (ev1 rfl) (ev1 rfl) rfl rfl rfl rfl) (by simp only [upd, zaa, za]; exact rfl) ?_
      refine zaf ?_
      refine zae ?_
      refine zae ?_
      refine dwp_draw [([], []), ([2], []), ([], []), ([], []), ([], []), ([], []), ([], []), ([], []), ([2], []), ([], []), ([], [])] mixed (by kernel_rfl) ?_
      refine lex_r rfl rfl (zac (.inl rfl) (ev1 rfl)) ?_
      refine lex_r rfl rfl (op_ldw rfl tb25 (ev1 rfl) rfl rfl) ?_
      refine lex_r rfl rfl (dop_call [] [] [] rfl (ev1 rfl) (ec (ev1 rfl) (ec (ev1 rfl) en)) rfl rfl (has_d (rectL a b) (lineL a b)[i]) rfl rfl rfl rfl rfl rfl) ?_
      refine lex_r rfl rfl ((op_not rfl (ev1 rfl)).cast (d' := .val (.bool false)) (by rw [hhas]; rfl)) ?_
      refine lex_r rfl rfl (zac (.inl rfl) (ev1 rfl)) ?_
      refine lex_k (gd_f (b := false) rfl rfl rfl) rfl rfl (zac (.inl rfl) (ev1 rfl)) rfl (by simp only [upd, zaa, za]; exact rfl) ?_
      refine lex_k (gd_f (b := false) rfl rfl rfl) rfl rfl (zac (.inl rfl) (ev1 rfl)) rfl (by simp only [upd, zaa, za]; exact rfl) ?_
      refine lex_k (gd_f (b := false) rfl rfl rfl) rfl rfl (op_sltk (j := i) rfl sl28 (ev2 rfl) (bd_some (ev2 rfl)) (fun _ => by omega) (fun _ => by omega) (fun _ => rfl)) rfl (by simp only [upd, zaa, za]; exact rfl) ?_
      refine lex_k (gd_f (b := false) rfl rfl rfl) rfl rfl (op_ldw rfl tb25 (ev1 rfl) rfl rfl) rfl (by simp only [upd, zaa, za]; exact rfl) ?_
      refine lex_k (gd_f (b := false) rfl rfl rfl) rfl rfl ((dop_call [] [] [] rfl (ev1 rfl) (ec (ev2 rfl) (ec (ev2 rfl) en)) rfl rfl (ctp_d ((lineL a b).take i) (lineL a b)[i]) rfl rfl rfl rfl rfl rfl).cast (d' := .val (.bool false)) (by rw [decide_eq_false (lineL_ne hi)])) rfl (by simp only [upd, zaa, za]; exact rfl) ?_
      refine lex_r rfl rfl ((op_or rfl (ev1 rfl) (ev3 rfl (fun _ => rfl))).cast (d' := .val (.bool false)) (by rfl)) ?_
      refine lex_nil ?_
      refine dwp_if_f rfl (rfl) ?_
      refine dwp_skip ?_
      refine zae ?_
      by_cases h0 : 0 < i
      · have hj : i - 1 < (lineL a b).length := by omega
        have hbj := line_box (a := a) (b := b) (k := i - 1) (by omega)
        have had := line_adj (a := a) (b := b) (k := i - 1) (by omega)
        rw [show i - 1 + 1 = i by omega, ← hpi, ← lineL_at hj] at had
        rw [← lineL_at hj] at hbj
        refine dwp_draw [([], []), ([], []), ([], []), ([], []), ([2], []), ([], []), ([], []), ([], []), ([], []), ([], []), ([], []), ([], []), ([], []), ([], []), ([], []), ([], []), ([], []), ([], []), ([], []), ([2], []), ([], []), ([], []), ([], []), ([], []), ([], []), ([2], []), ([], []), ([], []), ([], []), ([], []), ([], []), ([], []), ([], []), ([], []), ([], []), ([], []), ([], []), ([], []), ([], []), ([], []), ([2], []), ([], []), ([], []), ([], []), ([], []), ([], [])] mixed (by kernel_rfl) ?_
        refine lex_r rfl rfl (zac (.inl rfl) (ev1 rfl)) ?_
        refine lex_r rfl rfl ((op_gtr rfl (ev1 rfl) (ev1 rfl)).cast (d' := .val (.bool true)) (by rw [D.val.injEq, Value.bool.injEq, decide_eq_true_eq]; omega)) ?_
        refine lex_r rfl rfl (zac (.inl rfl) (ev1 rfl)) ?_
        refine lex_k (gd_t (b := true) rfl rfl rfl) rfl rfl (op_fa rfl fo25_0 (ev1 rfl)) rfl (by simp only [upd, zaa, za]; exact rfl) ?_
        refine lex_k (gd_t (b := true) rfl rfl rfl) rfl rfl (op_ldo rfl tb3 (ev2 rfl) rfl rfl) rfl (by simp only [upd, zaa, za]; exact rfl) ?_
        refine lex_k (gd_t (b := true) rfl rfl rfl) rfl rfl (zac (.inl rfl) (ev1 rfl)) rfl (by simp only [upd, zaa, za]; exact rfl) ?_
        refine lex_k (gd_t (b := true) rfl rfl rfl) rfl rfl (zac (.inl rfl) (ev1 rfl)) rfl (by simp only [upd, zaa, za]; exact rfl) ?_
        refine lex_k (gd_t (b := true) rfl rfl rfl) rfl rfl (op_sub' rfl (ev2 rfl) (ev1 rfl) (fun _ => IntWalk.i64_in _ (by omega))) rfl (by simp only [upd, zaa, za]; exact rfl) ?_
        refine lex_k (gd_t (b := true) rfl rfl rfl) rfl rfl (op_ixsr (j := i - 1) rfl sl28 (ev2 rfl) (ev2 rfl) (fun _ => rfl) (by decide) (by omega) (by omega)) rfl (by simp only [upd, zaa, za]; exact rfl) ?_
        refine lex_k (gd_t (b := true) rfl rfl rfl) rfl rfl (op_fad rfl fo25_0 (ev2 rfl)) rfl (by simp only [upd, zaa, za]; exact rfl) ?_
        refine lex_k (gd_t (b := true) rfl rfl rfl) rfl rfl (op_ldod rfl tb3 (ev2 rfl) rfl) rfl (by simp only [upd, zaa, za]; exact rfl) ?_
        refine lex_k (gd_t (b := true) rfl rfl rfl) rfl rfl (op_sub' rfl (ev2 rfl) (ev2 rfl) (fun _ => IntWalk.i64_in _ (by omega))) rfl (by simp only [upd, zaa, za]; exact rfl) ?_
        refine lex_k (gd_t (b := true) rfl rfl rfl) rfl rfl (zac (.inl rfl) (ev1 rfl)) rfl (by simp only [upd, zaa, za]; exact rfl) ?_
        refine lex_k (gd_t (b := true) rfl rfl rfl) rfl rfl (zac (.inl rfl) (ev1 rfl)) rfl (by simp only [upd, zaa, za]; exact rfl) ?_
        refine lex_k (gd_t (b := true) rfl rfl rfl) rfl rfl (op_sub' rfl (ev2 rfl) (ev1 rfl) (fun _ => IntWalk.i64_in _ (by omega))) rfl (by simp only [upd, zaa, za]; exact rfl) ?_
        refine lex_k (gd_t (b := true) rfl rfl rfl) rfl rfl (op_ixsr (j := i - 1) rfl sl28 (ev2 rfl) (ev2 rfl) (fun _ => rfl) (by decide) (by omega) (by omega)) rfl (by simp only [upd, zaa, za]; exact rfl) ?_
        refine lex_k (gd_t (b := true) rfl rfl rfl) rfl rfl (op_fad rfl fo25_0 (ev2 rfl)) rfl (by simp only [upd, zaa, za]; exact rfl) ?_
        refine lex_k (gd_t (b := true) rfl rfl rfl) rfl rfl (op_ldod rfl tb3 (ev2 rfl) rfl) rfl (by simp only [upd, zaa, za]; exact rfl) ?_
        refine lex_k (gd_t (b := true) rfl rfl rfl) rfl rfl (op_fa rfl fo25_0 (ev1 rfl)) rfl (by simp only [upd, zaa, za]; exact rfl) ?_
        refine lex_k (gd_t (b := true) rfl rfl rfl) rfl rfl (op_ldo rfl tb3 (ev2 rfl) rfl rfl) rfl (by simp only [upd, zaa, za]; exact rfl) ?_
        refine lex_k (gd_t (b := true) rfl rfl rfl) rfl rfl (op_sub' rfl (ev2 rfl) (ev2 rfl) (fun _ => IntWalk.i64_in _ (by omega))) rfl (by simp only [upd, zaa, za]; exact rfl) ?_
        refine lex_k (gd_t (b := true) rfl rfl rfl) rfl rfl (op_max rfl (ev2 rfl) (ev2 rfl)) rfl (by simp only [upd, zaa, za]; exact rfl) ?_
        refine lex_k (gd_t (b := true) rfl rfl rfl) rfl rfl ((op_gtr rfl (ev2 rfl) (ev1 rfl)).cast (d' := .val (.bool false)) (by rw [D.val.injEq, Value.bool.injEq, decide_eq_false_iff_not]; omega)) rfl (by simp only [upd, zaa, za]; exact rfl) ?_
        refine lex_k (gd_t (b := true) rfl rfl rfl) rfl rfl (zac (.inl rfl) (ev2 rfl)) rfl (by simp only [upd, zaa, za]; exact rfl) ?_
        refine lex_k (gd_ff (g := true) (b := false) rfl rfl rfl) rfl rfl (op_fa rfl fo25_1 (ev1 rfl)) rfl (by simp only [upd, zaa, za]; exact rfl) ?_
        refine lex_k (gd_ff (g := true) (b := false) rfl rfl rfl) rfl rfl (op_ldo rfl tb3 (ev2 rfl) rfl rfl) rfl (by simp only [upd, zaa, za]; exact rfl) ?_
        refine lex_k (gd_ff (g := true) (b := false) rfl rfl rfl) rfl rfl (zac (.inl rfl) (ev1 rfl)) rfl (by simp only [upd, zaa, za]; exact rfl) ?_
        refine lex_k (gd_ff (g := true) (b := false) rfl rfl rfl) rfl rfl (zac (.inl rfl) (ev1 rfl)) rfl (by simp only [upd, zaa, za]; exact rfl) ?_
        refine lex_k (gd_ff (g := true) (b := false) rfl rfl rfl) rfl rfl (op_sub' rfl (ev2 rfl) (ev1 rfl) (fun _ => IntWalk.i64_in _ (by omega))) rfl (by simp only [upd, zaa, za]; exact rfl) ?_
        refine lex_k (gd_ff (g := true) (b := false) rfl rfl rfl) rfl rfl (op_ixsr (j := i - 1) rfl sl28 (ev2 rfl) (ev2 rfl) (fun _ => rfl) (by decide) (by omega) (by omega)) rfl (by simp only [upd, zaa, za]; exact rfl) ?_
        refine lex_k (gd_ff (g := true) (b := false) rfl rfl rfl) rfl rfl (op_fad rfl fo25_1 (ev2 rfl)) rfl (by simp only [upd, zaa, za]; exact rfl) ?_
        refine lex_k (gd_ff (g := true) (b := false) rfl rfl rfl) rfl rfl (op_ldod rfl tb3 (ev2 rfl) rfl) rfl (by simp only [upd, zaa, za]; exact rfl) ?_
        refine lex_k (gd_ff (g := true) (b := false) rfl rfl rfl) rfl rfl (op_sub' rfl (ev2 rfl) (ev2 rfl) (fun _ => IntWalk.i64_in _ (by omega))) rfl (by simp only [upd, zaa, za]; exact rfl) ?_
        refine lex_k (gd_ff (g := true) (b := false) rfl rfl rfl) rfl rfl (zac (.inl rfl) (ev1 rfl)) rfl (by simp only [upd, zaa, za]; exact rfl) ?_
        refine lex_k (gd_ff (g := true) (b := false) rfl rfl rfl) rfl rfl (zac (.inl rfl) (ev1 rfl)) rfl (by simp only [upd, zaa, za]; exact rfl) ?_
        refine lex_k (gd_ff (g := true) (b := false) rfl rfl rfl) rfl rfl (op_sub' rfl (ev2 rfl) (ev1 rfl) (fun _ => IntWalk.i64_in _ (by omega))) rfl (by simp only [upd, zaa, za]; exact rfl) ?_
        refine lex_k (gd_ff (g := true) (b := false) rfl rfl rfl) rfl rfl (op_ixsr (j := i - 1) rfl sl28 (ev2 rfl) (ev2 rfl) (fun _ => rfl) (by decide) (by omega) (by omega)) rfl (by simp only [upd, zaa, za]; exact rfl) ?_
        refine lex_k (gd_ff (g := true) (b := false) rfl rfl rfl) rfl rfl (op_fad rfl fo25_1 (ev2 rfl)) rfl (by simp only [upd, zaa, za]; exact rfl) ?_
        refine lex_k (gd_ff (g := true) (b := false) rfl rfl rfl) rfl rfl (op_ldod rfl tb3 (ev2 rfl) rfl) rfl (by simp only [upd, zaa, za]; exact rfl) ?_
        refine lex_k (gd_ff (g := true) (b := false) rfl rfl rfl) rfl rfl (op_fa rfl fo25_1 (ev1 rfl)) rfl (by simp only [upd, zaa, za]; exact rfl) ?_
        refine lex_k (gd_ff (g := true) (b := false) rfl rfl rfl) rfl rfl (op_ldo rfl tb3 (ev2 rfl) rfl rfl) rfl (by simp only [upd, zaa, za]; exact rfl) ?_
        refine lex_k (gd_ff (g := true) (b := false) rfl rfl rfl) rfl rfl (op_sub' rfl (ev2 rfl) (ev2 rfl) (fun _ => IntWalk.i64_in _ (by omega))) rfl (by simp only [upd, zaa, za]; exact rfl) ?_
        refine lex_k (gd_ff (g := true) (b := false) rfl rfl rfl) rfl rfl (op_max rfl (ev2 rfl) (ev2 rfl)) rfl (by simp only [upd, zaa, za]; exact rfl) ?_
        refine lex_k (gd_ff (g := true) (b := false) rfl rfl rfl) rfl rfl ((op_gtr rfl (ev2 rfl) (ev1 rfl)).cast (d' := .val (.bool false)) (by rw [D.val.injEq, Value.bool.injEq, decide_eq_false_iff_not]; omega)) rfl (by simp only [upd, zaa, za]; exact rfl) ?_
        refine lex_k (gd_t (b := true) rfl rfl rfl) rfl rfl ((op_or rfl (ev2 rfl) (ev3 rfl (fun _ => rfl))).cast (d' := .val (.bool false)) (by rfl)) rfl (by simp only [upd, zaa, za]; exact rfl) ?_
        refine lex_r rfl rfl ((op_and rfl (ev1 rfl) (ev3 rfl (fun _ => rfl))).cast (d' := .val (.bool false)) (by rfl)) ?_
        refine lex_nil ?_
        refine dwp_if_f rfl (rfl) ?_
        refine dwp_skip ?_
        refine zad ?_
        refine zab rfl rfl rfl (op_add' rfl (ev1 rfl) (ev1 rfl) (fun _ => IntWalk.i64_in _ (by omega))) ?_
        refine zab rfl rfl rfl (zac (.inl rfl) (ev1 rfl)) ?_
        refine zaf ?_
        refine ⟨i + 1, [0, 1], by omega, by simp only []; omega, rfl, ⟨rfl, rfl, rfl, rfl, rfl, rfl, rfl, trivial⟩, ⟨rfl, rfl, trivial⟩⟩
      · refine dwp_draw [([], []), ([], []), ([], []), ([], []), ([], []), ([], []), ([], []), ([], []), ([], []), ([], []), ([], []), ([], []), ([], []), ([], []), ([], []), ([], []), ([], []), ([], []), ([], []), ([], []), ([], []), ([], []), ([], []), ([], []), ([], []), ([], []), ([], []), ([], []), ([], []), ([], []), ([], []), ([], []), ([], []), ([], []), ([], []), ([], []), ([], []), ([], []), ([], []), ([], []), ([], []), ([], []), ([], []), ([], []), ([], []), ([], [])] mixed (by kernel_rfl) ?_
        refine lex_r rfl rfl (zac (.inl rfl) (ev1 rfl)) ?_
        refine lex_r rfl rfl ((op_gtr rfl (ev1 rfl) (ev1 rfl)).cast (d' := .val (.bool false)) (by rw [D.val.injEq, Value.bool.injEq, decide_eq_false_iff_not]; omega)) ?_
        refine lex_r rfl rfl (zac (.inl rfl) (ev1 rfl)) ?_
        refine lex_gr (gd_t (b := false) rfl rfl rfl) rfl rfl (dop_never (d := .junk)) ?_
        refine lex_gr (gd_t (b := false) rfl rfl rfl) rfl rfl (dop_never (d := .junk)) ?_
        refine lex_gr (gd_t (b := false) rfl rfl rfl) rfl rfl (dop_never (d := .junk)) ?_
        refine lex_gr (gd_t (b := false) rfl rfl rfl) rfl rfl (dop_never (d := .junk)) ?_
        refine lex_gr (gd_t (b := false) rfl rfl rfl) rfl rfl (dop_never (d := .val (.bool false))) ?_
        refine lex_gr (gd_t (b := false) rfl rfl rfl) rfl rfl (dop_never (d := .junk)) ?_
        refine lex_gr (gd_t (b := false) rfl rfl rfl) rfl rfl (dop_never (d := .junk)) ?_
        refine lex_gr (gd_t (b := false) rfl rfl rfl) rfl rfl (dop_never (d := .junk)) ?_
        refine lex_gr (gd_t (b := false) rfl rfl rfl) rfl rfl (dop_never (d := .val (.bool false))) ?_
        refine lex_gr (gd_t (b := false) rfl rfl rfl) rfl rfl (dop_never (d := .junk)) ?_
        refine lex_gr (gd_t (b := false) rfl rfl rfl) rfl rfl (dop_never (d := .junk)) ?_
        refine lex_gr (gd_t (b := false) rfl rfl rfl) rfl rfl (dop_never (d := .val (.bool false))) ?_
        refine lex_gr (gd_t (b := false) rfl rfl rfl) rfl rfl (dop_never (d := .junk)) ?_
        refine lex_gr (gd_t (b := false) rfl rfl rfl) rfl rfl (dop_never (d := .junk)) ?_
        refine lex_gr (gd_t (b := false) rfl rfl rfl) rfl rfl (dop_never (d := .junk)) ?_
        refine lex_gr (gd_t (b := false) rfl rfl rfl) rfl rfl (dop_never (d := .junk)) ?_
        refine lex_gr (gd_t (b := false) rfl rfl rfl) rfl rfl (dop_never (d := .junk)) ?_
        refine lex_gr (gd_t (b := false) rfl rfl rfl) rfl rfl (dop_never (d := .val (.bool false))) ?_
        refine lex_gr (gd_t (b := false) rfl rfl rfl) rfl rfl (dop_never (d := .junk)) ?_
        refine lex_gr (gd_t (b := false) rfl rfl rfl) rfl rfl (dop_never (d := .val (.bool false))) ?_
        refine lex_gr (gd_t (b := false) rfl rfl rfl) rfl rfl (dop_never (d := .val (.bool false))) ?_
        refine lex_gr (gd_ff (g := false) (b := false) rfl rfl rfl) rfl rfl (dop_never (d := .junk)) ?_
        refine lex_gr (gd_ff (g := false) (b := false) rfl rfl rfl) rfl rfl (dop_never (d := .junk)) ?_
        refine lex_gr (gd_ff (g := false) (b := false) rfl rfl rfl) rfl rfl (dop_never (d := .junk)) ?_
        refine lex_gr (gd_ff (g := false) (b := false) rfl rfl rfl) rfl rfl (dop_never (d := .junk)) ?_
        refine lex_gr (gd_ff (g := false) (b := false) rfl rfl rfl) rfl rfl (dop_never (d := .val (.bool false))) ?_
        refine lex_gr (gd_ff (g := false) (b := false) rfl rfl rfl) rfl rfl (dop_never (d := .junk)) ?_
        refine lex_gr (gd_ff (g := false) (b := false) rfl rfl rfl) rfl rfl (dop_never (d := .junk)) ?_
        refine lex_gr (gd_ff (g := false) (b := false) rfl rfl rfl) rfl rfl (dop_never (d := .junk)) ?_
        refine lex_gr (gd_ff (g := false) (b := false) rfl rfl rfl) rfl rfl (dop_never (d := .val (.bool false))) ?_
        refine lex_gr (gd_ff (g := false) (b := false) rfl rfl rfl) rfl rfl (dop_never (d := .junk)) ?_
        refine lex_gr (gd_ff (g := false) (b := false) rfl rfl rfl) rfl rfl (dop_never (d := .junk)) ?_
        refine lex_gr (gd_ff (g := false) (b := false) rfl rfl rfl) rfl rfl (dop_never (d := .val (.bool false))) ?_
        refine lex_gr (gd_ff (g := false) (b := false) rfl rfl rfl) rfl rfl (dop_never (d := .junk)) ?_
        refine lex_gr (gd_ff (g := false) (b := false) rfl rfl rfl) rfl rfl (dop_never (d := .junk)) ?_
        refine lex_gr (gd_ff (g := false) (b := false) rfl rfl rfl) rfl rfl (dop_never (d := .junk)) ?_
        refine lex_gr (gd_ff (g := false) (b := false) rfl rfl rfl) rfl rfl (dop_never (d := .junk)) ?_
        refine lex_gr (gd_ff (g := false) (b := false) rfl rfl rfl) rfl rfl (dop_never (d := .junk)) ?_
        refine lex_gr (gd_ff (g := false) (b := false) rfl rfl rfl) rfl rfl (dop_never (d := .val (.bool false))) ?_
        refine lex_gr (gd_ff (g := false) (b := false) rfl rfl rfl) rfl rfl (dop_never (d := .junk)) ?_
        refine lex_gr (gd_ff (g := false) (b := false) rfl rfl rfl) rfl rfl (dop_never (d := .val (.bool false))) ?_
        refine lex_gr (gd_t (b := false) rfl rfl rfl) rfl rfl (dop_never (d := .val (.bool false))) ?_
        refine lex_r rfl rfl ((op_and rfl (ev1 rfl) (ev3 rfl id)).cast (d' := .val (.bool false)) (by rfl)) ?_
        refine lex_nil ?_
        refine dwp_if_f rfl (rfl) ?_
        refine dwp_skip ?_
        refine zad ?_
        refine zab rfl rfl rfl (op_add' rfl (ev1 rfl) (ev1 rfl) (fun _ => IntWalk.i64_in _ (by omega))) ?_
        refine zab rfl rfl rfl (zac (.inl rfl) (ev1 rfl)) ?_
        refine zaf ?_
        refine ⟨i + 1, [0, 1], by omega, by simp only []; omega, rfl, ⟨rfl, rfl, rfl, rfl, rfl, rfl, rfl, trivial⟩, ⟨rfl, rfl, trivial⟩⟩
    · try simp only [decide_eq_true_eq, decide_eq_false_iff_not, beq_iff_eq, bne_iff_ne, beq_eq_false_iff_ne, bne_eq_false_iff_eq, Bool.not_eq_true', Bool.not_eq_false', Bool.and_eq_true, Bool.or_eq_true, Bool.or_eq_false_iff, ne_eq, Decidable.not_not, Int.not_lt, Int.not_le] at c4
      refine dwp_exit ?_
      refine zae ?_
      refine zad ?_
      refine zab rfl rfl rfl (zac (.inl rfl) (ev1 rfl)) ?_
      refine zab rfl rfl rfl (op_len rfl sl28 (ev1 rfl)) ?_
      refine zab rfl rfl rfl (op_fa rfl fo25_0 (ev1 rfl)) ?_
      refine zab rfl rfl rfl (op_ldo rfl tb3 (ev1 rfl) rfl rfl) ?_
      refine zab rfl rfl rfl (op_fa rfl fo25_0 (ev1 rfl)) ?_
      refine zab rfl rfl rfl (op_ldo rfl tb3 (ev1 rfl) rfl rfl) ?_
      refine zab rfl rfl rfl (op_sub' rfl (ev1 rfl) (ev1 rfl) (fun _ => IntWalk.i64_in _ (by omega))) ?_
      refine zab rfl rfl rfl (op_fa rfl fo25_0 (ev1 rfl)) ?_
      refine zab rfl rfl rfl (op_ldo rfl tb3 (ev1 rfl) rfl rfl) ?_
      refine zab rfl rfl rfl (op_fa rfl fo25_0 (ev1 rfl)) ?_
      refine zab rfl rfl rfl (op_ldo rfl tb3 (ev1 rfl) rfl rfl) ?_
      refine zab rfl rfl rfl (op_sub' rfl (ev1 rfl) (ev1 rfl) (fun _ => IntWalk.i64_in _ (by omega))) ?_
      refine zab rfl rfl rfl (op_fa rfl fo25_1 (ev1 rfl)) ?_
      refine zab rfl rfl rfl (op_ldo rfl tb3 (ev1 rfl) rfl rfl) ?_
      refine zab rfl rfl rfl (op_fa rfl fo25_1 (ev1 rfl)) ?_
      refine zab rfl rfl rfl (op_ldo rfl tb3 (ev1 rfl) rfl rfl) ?_
      refine zab rfl rfl rfl (op_sub' rfl (ev1 rfl) (ev1 rfl) (fun _ => IntWalk.i64_in _ (by omega))) ?_
      refine zab rfl rfl rfl (op_fa rfl fo25_1 (ev1 rfl)) ?_
      refine zab rfl rfl rfl (op_ldo rfl tb3 (ev1 rfl) rfl rfl) ?_
      refine zab rfl rfl rfl (op_fa rfl fo25_1 (ev1 rfl)) ?_
      refine zab rfl rfl rfl (op_ldo rfl tb3 (ev1 rfl) rfl rfl) ?_
      refine zab rfl rfl rfl (op_sub' rfl (ev1 rfl) (ev1 rfl) (fun _ => IntWalk.i64_in _ (by omega))) ?_
      refine zab rfl rfl rfl (op_max4 rfl (ev1 rfl) (ev1 rfl) (ev1 rfl) (ev1 rfl)) ?_
      refine zab rfl rfl rfl (op_add' rfl (ev1 rfl) (ev1 rfl) (fun _ => IntWalk.i64_in _ (by omega))) ?_
      refine zab rfl rfl rfl (op_eql rfl (ev1 rfl) (ev1 rfl)) ?_
      refine zab rfl rfl rfl (zac (.inr rfl) (ev1 rfl)) ?_
      refine zaf ?_
      refine dwp_ret ?_
      refine kend0 (rs1 rfl (rv_t rfl)) rfl ?_
      rw [D.val.injEq, Value.bool.injEq, hlen]
      simp
      omega
  · have hd2 : (drwB a && drwB b) = false := by simpa using hd
    rw [(lin_no hd2).1, (lin_no hd2).2, (rct_no hd2).1]
    refine zad ?_
    refine zab rfl rfl rfl (zac (.inl rfl) (ev1 rfl)) ?_
    refine zab rfl rfl rfl (op_neq rfl (ev1 rfl) (ev1 rfl)) ?_
    refine zaf ?_
    refine dwp_if_t rfl (rfl) ?_
    refine zae ?_
    refine zad ?_
    refine zab rfl rfl rfl (zac (.inl rfl) (ev1 rfl)) ?_
    refine zab rfl rfl rfl (zac (.inl rfl) (ev1 rfl)) ?_
    refine zab rfl rfl rfl (op_eql rfl (ev1 rfl) (ev1 rfl)) ?_
    refine zab rfl rfl rfl (zac (.inl rfl) (ev1 rfl)) ?_
    refine walk_gr (gd_t rfl rfl rfl) rfl rfl rfl (zac (.inl rfl) (ev1 rfl)) ?_
    refine walk_gr (gd_t rfl rfl rfl) rfl rfl rfl (op_len rfl sl28 (ev2 rfl)) ?_
    refine walk_gr (gd_t rfl rfl rfl) rfl rfl rfl (op_eql rfl (ev2 rfl) (ev1 rfl)) ?_
    refine zab rfl rfl rfl (op_and rfl (ev1 rfl) (ev3 rfl id)) ?_
    refine zab rfl rfl rfl (zac (.inl rfl) (ev1 rfl)) ?_
    refine walk_gr (gd_t rfl rfl rfl) rfl rfl rfl (zac (.inl rfl) (ev1 rfl)) ?_
    refine walk_gr (gd_t rfl rfl rfl) rfl rfl rfl (op_len rfl sl32 (ev2 rfl)) ?_
    refine walk_gr (gd_t rfl rfl rfl) rfl rfl rfl (op_eql rfl (ev2 rfl) (ev1 rfl)) ?_
    refine zab rfl rfl rfl (op_and rfl (ev1 rfl) (ev3 rfl id)) ?_
    refine zab rfl rfl rfl (zac (.inr rfl) (ev1 rfl)) ?_
    refine zaf ?_
    refine dwp_ret ?_
    refine kend0 (rs1 rfl (rv_t rfl)) rfl ?_
    rfl
end Go.Proofs.Ytoffbkjhoelghaa
