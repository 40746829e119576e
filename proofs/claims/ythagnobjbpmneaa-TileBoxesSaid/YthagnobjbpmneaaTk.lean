/- the laws of places and of moves, walked -/
import Derived.Test.YthagnobjbpmneaaTj
namespace Go.Proofs.Ythagnobjbpmneaa
set_option linter.unusedVariables false
set_option linter.unusedSimpArgs false
open Go.RowKit

theorem clonePf (l : List P2) (h : l.length ≤ 5000) : DFun Try.prog 10 [.slf 2 l.length (l.flatMap p2)] [] (.slf 2 l.length (l.flatMap p2)) [] := freeze (cloneP l h) rfl

set_option maxRecDepth 4000 in
set_option maxHeartbeats 1000000 in
theorem places_d (t : TL) (c : C4) (l : List P2) : DFun Try.prog 3 [tD t, c4D c, .slf 2 l.length (l.flatMap p2)] [] (.val (.bool true)) [] := by
  refine dcalls_go (N := 107) 0 (by kernel_rfl) Try.func3 rfl rfl rfl (by simp only [fr0, Nat.zero_add, Nat.reduceAdd]; exact rfl) rfl fun s0 hs0 => ?_
  refine dwp_len (t := 2) rfl fun hl2 hL2 => ?_
  refine dwp_seq ?_
  refine dwp_holes 2 (by simp only [holes, List.cons_append, List.nil_append]; exact rfl) ?_
  refine dwp_region ?_
  refine walk_w rfl rfl rfl (op_boxa 0 rfl (ev1 rfl) rfl) (by simp only [upd, List.set_cons_zero, List.set_cons_succ]; exact rfl) ?_
  refine walk_w rfl rfl rfl (op_boxa 1 rfl (ev1 rfl) rfl) (by simp only [upd, List.set_cons_zero, List.set_cons_succ]; exact rfl) ?_
  refine walk_r rfl rfl rfl (op_move (.inr rfl) (ev1 rfl)) ?_
  refine walk_nil ?_
  refine dwp_seq ?_
  refine dwp_seq ?_
  refine dwp_region ?_
  refine walk_r rfl rfl rfl (dop_call [] [] [] rfl (ev1 rfl) en rfl rfl (wakes_d) rfl rfl rfl rfl rfl rfl) ?_
  refine walk_r rfl rfl rfl (op_not rfl (ev1 rfl)) ?_
  refine walk_nil ?_
  refine dwp_if_f rfl (rfl) ?_
  refine dwp_skip ?_
  refine dwp_seq ?_
  refine dwp_region ?_
  refine walk_r rfl rfl rfl (op_move (.inl rfl) (ev1 rfl)) ?_
  refine walk_r rfl rfl rfl (op_move (.inl rfl) (ev1 rfl)) ?_
  refine walk_r rfl rfl rfl (op_len rfl sl26 (ev1 rfl)) ?_
  refine walk_r rfl rfl rfl (op_min rfl (ev1 rfl) (ev1 rfl)) ?_
  refine walk_r rfl rfl rfl (op_sltk (j := min l.length 12) rfl sl26 (ev1 rfl) (bd_some (ev1 rfl)) (fun _ => by omega) (fun _ => by omega) (fun _ => rfl)) ?_
  refine walk_r rfl rfl rfl (dop_call [] [] [] rfl (ev1 rfl) (ec (ev1 rfl) en) rfl rfl (clonePf _ (by rw [List.length_take]; omega)) rfl rfl rfl rfl rfl rfl) ?_
  refine walk_r rfl rfl rfl (op_move (.inr rfl) (ev1 rfl)) ?_
  refine walk_nil ?_
  refine dwp_seq ?_
  refine dwp_seq ?_
  obtain ⟨q, hq⟩ : ∃ q, q = l.take (min l.length 12) := ⟨_, rfl⟩
  rw [← hq]
  have hq12 : q.length ≤ 12 ∧ q.length ≤ l.length := by rw [hq, List.length_take]; omega
  have hqn : q.length = min l.length 12 := by rw [hq, List.length_take]; omega
  have hql : q = l.take q.length := by rw [hqn]; exact hq
  refine dwp_region ?_
  refine walk_r rfl rfl rfl (op_move (.inl rfl) (ev1 rfl)) ?_
  refine walk_r rfl rfl rfl (op_len rfl sl26 (ev1 rfl)) ?_
  refine walk_r rfl rfl rfl (op_move (.inl rfl) (ev1 rfl)) ?_
  refine walk_nil ?_
  refine dwp_block ?_
  refine dwp_loopS ⟨hs0, rfl⟩ (α := Nat) (fun k => [(28, .val (.int .i64 (k : Int)))]) [(2, _), (3, _), (4, _), (7, _), (26, _), (27, _)] (fun k => []) [_, _] (fun k => k ≤ q.length) (fun k => q.length - k) 0 [0, 1] (by simp) rfl ⟨rfl, rfl, rfl, rfl, rfl, rfl, trivial⟩ ⟨rfl, trivial⟩ ⟨rfl, rfl, trivial⟩ ?_
  intro k hx
  simp only [upd, List.set_cons_zero, List.set_cons_succ, List.cons_append, List.nil_append]
  have hk := hx
  refine dwp_seq ?_
  refine dwp_region ?_
  refine walk_r rfl rfl rfl (op_lss rfl (ev1 rfl) (ev1 rfl)) ?_
  refine walk_nil ?_
  refine dwp_seq ?_
  refine dwp_cond rfl (fun c2 => ?_) (fun c2 => ?_)
  · try simp only [decide_eq_true_eq, decide_eq_false_iff_not, beq_iff_eq, bne_iff_ne, beq_eq_false_iff_ne, bne_eq_false_iff_eq, Bool.not_eq_true', Bool.not_eq_false', Bool.and_eq_true, Bool.or_eq_true, Bool.or_eq_false_iff, ne_eq, Decidable.not_not, Int.not_lt, Int.not_le] at c2
    refine dwp_skip ?_
    refine dwp_seq ?_
    refine dwp_block ?_
    refine dwp_seq ?_
    refine dwp_holes 1 (by simp only [holes, List.cons_append, List.nil_append]; exact rfl) ?_
    refine dwp_region ?_
    refine walk_r rfl rfl rfl (op_ixsr (j := k) rfl sl26 (ev1 rfl) (ev1 rfl) (fun _ => rfl) (by decide) (by omega) (by omega)) ?_
    refine walk_r rfl rfl rfl (op_ldwd rfl tb30 (ev1 rfl) rfl) ?_
    refine walk_w rfl rfl rfl (op_alloc 2 rfl zr30 rfl) (by simp only [upd, List.set_cons_zero, List.set_cons_succ]; exact rfl) ?_
    refine walk_s rfl rfl (op_stwa rfl tb30 (ev1 rfl) (ev1 rfl) rfl rfl rfl rfl) (by simp only [upd, List.set_cons_zero, List.set_cons_succ]; exact rfl) ?_
    refine walk_nil ?_
    refine dwp_seq ?_
    refine dwp_holes 1 (by simp only [holes, List.cons_append, List.nil_append]; exact rfl) ?_
    refine dwp_region ?_
    refine walk_r rfl rfl rfl (op_ldw rfl tb25 (ev1 rfl) rfl (tc_len _)) ?_
    refine walk_r rfl rfl rfl (op_fa rfl fo30_0 (ev1 rfl)) ?_
    refine walk_r rfl rfl rfl (op_ldo rfl tb3 (ev1 rfl) rfl rfl) ?_
    refine walk_r rfl rfl rfl (op_fa rfl fo30_1 (ev1 rfl)) ?_
    refine walk_r rfl rfl rfl (op_ldo rfl tb3 (ev1 rfl) rfl rfl) ?_
    refine walk_r rfl rfl rfl (dop_call [] [] [] rfl (ev1 rfl) (ec (ev1 rfl) (ec (ev1 rfl) (ec (ev1 rfl) en))) rfl rfl (at_d _ _ _) rfl rfl rfl rfl rfl rfl) ?_
    refine walk_r rfl rfl rfl (op_move (.inl rfl) (ev1 rfl)) ?_
    refine walk_r rfl rfl rfl (op_ext rfl (ev1 rfl) rfl) ?_
    refine walk_r rfl rfl rfl (op_ext rfl (ev1 rfl) rfl) ?_
    refine walk_w rfl rfl rfl (op_alloc 3 rfl zr23 rfl) (by simp only [upd, List.set_cons_zero, List.set_cons_succ]; exact rfl) ?_
    refine walk_s rfl rfl (op_stwa rfl tb23 (ev1 rfl) (ev1 rfl) rfl rfl rfl rfl) (by simp only [upd, List.set_cons_zero, List.set_cons_succ]; exact rfl) ?_
    refine walk_r rfl rfl rfl (op_move (.inr rfl) (ev1 rfl)) ?_
    refine walk_nil ?_
    refine dwp_seq ?_
    refine dwp_holes 1 (by simp only [holes, List.cons_append, List.nil_append]; exact rfl) ?_
    refine dwp_region ?_
    refine walk_r rfl rfl rfl (op_build0 rfl fl23 zr23) ?_
    refine walk_w rfl rfl rfl (op_alloc 4 rfl zr23 rfl) (by simp only [upd, List.set_cons_zero, List.set_cons_succ]; exact rfl) ?_
    refine walk_s rfl rfl (op_stwa rfl tb23 (ev1 rfl) (ev1 rfl) rfl rfl rfl rfl) (by simp only [upd, List.set_cons_zero, List.set_cons_succ]; exact rfl) ?_
    refine walk_r rfl rfl rfl (op_move (.inr rfl) (ev1 rfl)) ?_
    refine walk_nil ?_
    refine dwp_seq ?_
    refine dwp_seq ?_
    refine dwp_region ?_
    refine walk_r rfl rfl rfl (op_fa rfl fo30_0 (ev1 rfl)) ?_
    refine walk_r rfl rfl rfl (op_ldo rfl tb3 (ev1 rfl) rfl rfl) ?_
    refine walk_r rfl rfl rfl (op_fa rfl fo30_1 (ev1 rfl)) ?_
    refine walk_r rfl rfl rfl (op_ldo rfl tb3 (ev1 rfl) rfl rfl) ?_
    refine walk_r rfl rfl rfl (dop_call [] [] [] rfl (ev1 rfl) (ec (ev1 rfl) (ec (ev1 rfl) en)) rfl rfl (refIs_d _ _) rfl rfl rfl rfl rfl rfl) ?_
    refine walk_nil ?_
    refine dwp_cond rfl (fun hon => ?_) (fun hon => ?_)
    · refine dwp_region ?_
      refine walk_r rfl rfl rfl (op_ldw rfl tb25 (ev1 rfl) rfl (tc_len _)) ?_
      refine walk_r rfl rfl rfl (op_fa rfl fo30_0 (ev1 rfl)) ?_
      refine walk_r rfl rfl rfl (op_ldo rfl tb3 (ev1 rfl) rfl rfl) ?_
      refine walk_r rfl rfl rfl (op_fa rfl fo30_1 (ev1 rfl)) ?_
      refine walk_r rfl rfl rfl (op_ldo rfl tb3 (ev1 rfl) rfl rfl) ?_
      refine walk_r rfl rfl rfl (dop_call [] [] [] rfl (ev1 rfl) (ec (ev1 rfl) (ec (ev1 rfl) (ec (ev1 rfl) en))) rfl rfl (refAt_d _ _ _ hon) rfl rfl rfl rfl rfl rfl) ?_
      refine walk_s rfl rfl (op_stwa rfl tb23 (ev1 rfl) (ev1 rfl) rfl rfl rfl rfl) (by simp only [upd, List.set_cons_zero, List.set_cons_succ]; exact rfl) ?_
      refine walk_r rfl rfl rfl (op_move (.inr rfl) (ev1 rfl)) ?_
      refine walk_nil ?_
      refine dwp_seq ?_
      refine dwp_region ?_
      refine walk_r rfl rfl rfl (op_ldw rfl tb23 (ev1 rfl) rfl rfl) ?_
      refine walk_r rfl rfl rfl (op_ldw rfl tb23 (ev1 rfl) rfl rfl) ?_
      refine walk_r rfl rfl rfl (op_ner eq23 rfl gd23 tb23 (ev1 rfl) (ev1 rfl)) ?_
      refine walk_r rfl rfl rfl (op_move (.inl rfl) (ev1 rfl)) ?_
      refine walk_gr (gd_f rfl rfl rfl) rfl rfl rfl (op_move (.inl rfl) (ev1 rfl)) ?_
      refine walk_gr (gd_f rfl rfl rfl) rfl rfl rfl (op_move (.inl rfl) (ev1 rfl)) ?_
      refine walk_gr (gd_f rfl rfl rfl) rfl rfl rfl (op_neq rfl (ev2 rfl) (ev2 rfl)) ?_
      refine walk_r rfl rfl rfl (op_or rfl (ev1 rfl) (ev3 rfl id)) ?_
      refine walk_nil ?_
      refine dwp_if_f rfl (by simp [hon, errOr, zC4]) ?_
      refine dwp_skip ?_
      refine dwp_region ?_
      refine walk_r rfl rfl rfl (op_add' rfl (ev1 rfl) (ev1 rfl) (fun _ => IntWalk.i64_in _ (by omega))) ?_
      refine walk_r rfl rfl rfl (op_move (.inl rfl) (ev1 rfl)) ?_
      refine walk_nil ?_
      refine ⟨k + 1, [0, 1], by omega, by simp only []; omega, rfl, ⟨rfl, rfl, rfl, rfl, rfl, rfl, rfl, trivial⟩, ⟨rfl, rfl, trivial⟩⟩
    · refine dwp_skip ?_
      refine dwp_seq ?_
      refine dwp_region ?_
      refine walk_r rfl rfl rfl (op_ldw rfl tb23 (ev1 rfl) rfl rfl) ?_
      refine walk_r rfl rfl rfl (op_ldw rfl tb23 (ev1 rfl) rfl rfl) ?_
      refine walk_r rfl rfl rfl (op_ner eq23 rfl gd23 tb23 (ev1 rfl) (ev1 rfl)) ?_
      refine walk_r rfl rfl rfl (op_move (.inl rfl) (ev1 rfl)) ?_
      refine walk_gr (gd_f rfl rfl rfl) rfl rfl rfl (op_move (.inl rfl) (ev1 rfl)) ?_
      refine walk_gr (gd_f rfl rfl rfl) rfl rfl rfl (op_move (.inl rfl) (ev1 rfl)) ?_
      refine walk_gr (gd_f rfl rfl rfl) rfl rfl rfl (op_neq rfl (ev2 rfl) (ev2 rfl)) ?_
      refine walk_r rfl rfl rfl (op_or rfl (ev1 rfl) (ev3 rfl id)) ?_
      refine walk_nil ?_
      refine dwp_if_f rfl (by simp [hon, errOr, zC4]) ?_
      refine dwp_skip ?_
      refine dwp_region ?_
      refine walk_r rfl rfl rfl (op_add' rfl (ev1 rfl) (ev1 rfl) (fun _ => IntWalk.i64_in _ (by omega))) ?_
      refine walk_r rfl rfl rfl (op_move (.inl rfl) (ev1 rfl)) ?_
      refine walk_nil ?_
      refine ⟨k + 1, [0, 1], by omega, by simp only []; omega, rfl, ⟨rfl, rfl, rfl, rfl, rfl, rfl, rfl, trivial⟩, ⟨rfl, rfl, trivial⟩⟩
  · try simp only [decide_eq_true_eq, decide_eq_false_iff_not, beq_iff_eq, bne_iff_ne, beq_eq_false_iff_ne, bne_eq_false_iff_eq, Bool.not_eq_true', Bool.not_eq_false', Bool.and_eq_true, Bool.or_eq_true, Bool.or_eq_false_iff, ne_eq, Decidable.not_not, Int.not_lt, Int.not_le] at c2
    refine dwp_exit ?_
    refine dwp_seq ?_
    refine dwp_holes 1 (by simp only [holes, List.cons_append, List.nil_append]; exact rfl) ?_
    refine dwp_region ?_
    refine walk_r rfl rfl rfl (op_ldw rfl tb25 (ev1 rfl) rfl (tc_len _)) ?_
    refine walk_r rfl rfl rfl (op_ldw rfl tb23 (ev1 rfl) rfl rfl) ?_
    refine walk_r rfl rfl rfl (op_move (.inl rfl) (ev1 rfl)) ?_
    refine walk_r rfl rfl rfl (dop_call [] [] [] rfl (ev1 rfl) (ec (ev1 rfl) (ec (ev1 rfl) (ec (ev1 rfl) en))) rfl rfl (with_d _ _ _) rfl rfl rfl rfl rfl rfl) ?_
    refine walk_r rfl rfl rfl (op_move (.inl rfl) (ev1 rfl)) ?_
    refine walk_r rfl rfl rfl (op_ext rfl (ev1 rfl) rfl) ?_
    refine walk_r rfl rfl rfl (op_ext rfl (ev1 rfl) rfl) ?_
    refine walk_w rfl rfl rfl (op_alloc 2 rfl zr25 rfl) (by simp only [upd, List.set_cons_zero, List.set_cons_succ]; exact rfl) ?_
    refine walk_s rfl rfl (op_stwa rfl tb25 (ev1 rfl) (ev1 rfl) rfl (tc_len _) (tc_oc _) ((tc_len _).trans (tc_len _).symm)) (by simp only [upd, List.set_cons_zero, List.set_cons_succ]; exact rfl) ?_
    refine walk_r rfl rfl rfl (op_move (.inr rfl) (ev1 rfl)) ?_
    refine walk_nil ?_
    refine dwp_seq ?_
    refine dwp_holes 1 (by simp only [holes, List.cons_append, List.nil_append]; exact rfl) ?_
    refine dwp_region ?_
    refine walk_r rfl rfl rfl (op_ldw rfl tb25 (ev1 rfl) rfl (tc_len _)) ?_
    refine walk_r rfl rfl rfl (op_ldw rfl tb23 (ev1 rfl) rfl rfl) ?_
    refine walk_r rfl rfl rfl (op_move (.inl rfl) (ev1 rfl)) ?_
    refine walk_r rfl rfl rfl (dop_call [] [] [] rfl (ev1 rfl) (ec (ev1 rfl) (ec (ev1 rfl) (ec (ev1 rfl) en))) rfl rfl (refWith_d _ _ _) rfl rfl rfl rfl rfl rfl) ?_
    refine walk_r rfl rfl rfl (op_move (.inl rfl) (ev1 rfl)) ?_
    refine walk_r rfl rfl rfl (op_ext rfl (ev1 rfl) rfl) ?_
    refine walk_r rfl rfl rfl (op_ext rfl (ev1 rfl) rfl) ?_
    refine walk_w rfl rfl rfl (op_alloc 3 rfl zr25 rfl) (by simp only [upd, List.set_cons_zero, List.set_cons_succ]; exact rfl) ?_
    refine walk_s rfl rfl (op_stwa rfl tb25 (ev1 rfl) (ev1 rfl) rfl (tc_len _) (tc_oc _) ((tc_len _).trans (tc_len _).symm)) (by simp only [upd, List.set_cons_zero, List.set_cons_succ]; exact rfl) ?_
    refine walk_r rfl rfl rfl (op_move (.inr rfl) (ev1 rfl)) ?_
    refine walk_nil ?_
    refine dwp_seq ?_
    refine dwp_draw [([2], []), ([3], []), ([], []), ([], []), ([], []), ([], []), ([], []), ([], []), ([], []), ([], []), ([], []), ([], []), ([], []), ([], []), ([], []), ([], []), ([], []), ([1], []), ([], []), ([1], []), ([], []), ([], []), ([], []), ([], []), ([], []), ([], []), ([], []), ([], []), ([], []), ([], []), ([], []), ([], [])] mixed (by kernel_rfl) ?_
    refine lex_r rfl rfl (op_ldw rfl tb25 (ev1 rfl) rfl (tc_len _)) ?_
    refine lex_r rfl rfl (op_ldw rfl tb25 (ev1 rfl) rfl (tc_len _)) ?_
    refine lex_r rfl rfl (op_eqr eq25 rfl gd25 tb25 (ev1 rfl) (ev1 rfl)) ?_
    refine lex_r rfl rfl (op_move (.inl rfl) (ev1 rfl)) ?_
    refine lex_gr (gd_t rfl rfl rfl) rfl rfl (op_move (.inl rfl) (ev1 rfl)) ?_
    refine lex_gr (gd_t rfl rfl rfl) rfl rfl (op_eql rfl (ev2 rfl) (ev1 rfl)) ?_
    refine lex_gr (gd_t rfl rfl rfl) rfl rfl (op_move (.inl rfl) (ev1 rfl)) ?_
    refine lex_gr (gd_t rfl rfl rfl) rfl rfl (op_eqb rfl un4 (ev2 rfl) (ev2 rfl)) ?_
    refine lex_r rfl rfl (op_and rfl (ev1 rfl) (ev3 rfl id)) ?_
    refine lex_r rfl rfl (op_move (.inl rfl) (ev1 rfl)) ?_
    refine lex_gr (gd_t rfl rfl rfl) rfl rfl (op_move (.inl rfl) (ev1 rfl)) ?_
    refine lex_gr (gd_t rfl rfl rfl) rfl rfl (op_move (.inl rfl) (ev2 rfl)) ?_
    refine lex_gr (gd_ff rfl rfl rfl) rfl rfl (op_move (.inl rfl) (ev1 rfl)) ?_
    refine lex_gr (gd_ff rfl rfl rfl) rfl rfl (op_eql rfl (ev2 rfl) (ev1 rfl)) ?_
    refine lex_gr (gd_t rfl rfl rfl) rfl rfl (op_or rfl (ev2 rfl) (ev2 rfl)) ?_
    refine lex_r rfl rfl (op_and rfl (ev1 rfl) (ev3 rfl id)) ?_
    refine lex_r rfl rfl (op_move (.inl rfl) (ev1 rfl)) ?_
    refine lex_gr (gd_t rfl rfl rfl) rfl rfl (op_ldw rfl tb23 (ev1 rfl) rfl rfl) ?_
    refine lex_gr (gd_t rfl rfl rfl) rfl rfl (dop_call [] [] [] rfl (ev1 rfl) (ec (ev2 rfl) en) rfl rfl (new_d _) rfl rfl rfl rfl rfl rfl) ?_
    refine lex_gr (gd_t rfl rfl rfl) rfl rfl (op_ldw rfl tb23 (ev1 rfl) rfl rfl) ?_
    refine lex_gr (gd_t rfl rfl rfl) rfl rfl (dop_call [] [] [] rfl (ev1 rfl) (ec (ev2 rfl) en) rfl rfl (refNew_d _) rfl rfl rfl rfl rfl rfl) ?_
    refine lex_gr (gd_t rfl rfl rfl) rfl rfl (op_eqr eq25 rfl gd25 tb25 (ev2 rfl) (ev2 rfl)) ?_
    refine lex_r rfl rfl (op_and rfl (ev1 rfl) (ev3 rfl id)) ?_
    refine lex_r rfl rfl (op_move (.inl rfl) (ev1 rfl)) ?_
    refine lex_gr (gd_t rfl rfl rfl) rfl rfl (op_move (.inl rfl) (ev1 rfl)) ?_
    refine lex_gr (gd_t rfl rfl rfl) rfl rfl (op_move (.inl rfl) (ev1 rfl)) ?_
    refine lex_gr (gd_t rfl rfl rfl) rfl rfl (op_move (.inl rfl) (ev1 rfl)) ?_
    refine lex_gr (gd_t rfl rfl rfl) rfl rfl (op_len rfl sl26 (ev2 rfl)) ?_
    refine lex_gr (gd_t rfl rfl rfl) rfl rfl (op_sltk (j := q.length) rfl sl26 (ev2 rfl) (bd_some (ev2 rfl)) (fun _ => by omega) (fun _ => by omega) (fun _ => rfl)) ?_
    refine lex_gr (gd_t rfl rfl rfl) rfl rfl (dop_call [] [] [] rfl (ev1 rfl) (ec (ev2 rfl) (ec (ev2 rfl) en)) rfl rfl (equalP _ _) rfl rfl rfl rfl rfl rfl) ?_
    refine lex_r rfl rfl (op_and rfl (ev1 rfl) (ev3 rfl id)) ?_
    refine lex_r rfl rfl (op_move (.inr rfl) (ev1 rfl)) ?_
    refine lex_nil ?_
    refine dwp_ret ?_
    refine kend0 (rs1 rfl (rv_t rfl)) rfl ?_
    have e : decide (q = l.take q.length) = true := decide_eq_true hql
    rw [e]
    cases hall : q.all onP <;> simp [withT, withR, hall]

set_option maxRecDepth 4000 in
set_option maxHeartbeats 1000000 in
theorem moves_d (t : TL) (l : List P2) (c : C4) : DFun Try.prog 5 [tD t, .slf 2 l.length (l.flatMap p2), c4D c] [] (.val (.bool true)) [] := by
  refine dcalls_go (N := 52) 0 (by kernel_rfl) Try.func5 rfl rfl rfl (by simp only [fr0, Nat.zero_add, Nat.reduceAdd]; exact rfl) rfl fun s0 hs0 => ?_
  refine dwp_len (t := 1) rfl fun hl1 hL1 => ?_
  refine dwp_seq ?_
  refine dwp_holes 2 (by simp only [holes, List.cons_append, List.nil_append]; exact rfl) ?_
  refine dwp_region ?_
  refine walk_w rfl rfl rfl (op_boxa 0 rfl (ev1 rfl) rfl) (by simp only [upd, List.set_cons_zero, List.set_cons_succ]; exact rfl) ?_
  refine walk_w rfl rfl rfl (op_boxa 1 rfl (ev1 rfl) rfl) (by simp only [upd, List.set_cons_zero, List.set_cons_succ]; exact rfl) ?_
  refine walk_r rfl rfl rfl (op_move (.inr rfl) (ev1 rfl)) ?_
  refine walk_nil ?_
  refine dwp_seq ?_
  refine dwp_seq ?_
  refine dwp_region ?_
  refine walk_r rfl rfl rfl (dop_call [] [] [] rfl (ev1 rfl) en rfl rfl (wakes_d) rfl rfl rfl rfl rfl rfl) ?_
  refine walk_r rfl rfl rfl (op_not rfl (ev1 rfl)) ?_
  refine walk_nil ?_
  refine dwp_if_f rfl (rfl) ?_
  refine dwp_skip ?_
  refine dwp_seq ?_
  refine dwp_seq ?_
  refine dwp_draw [([0], []), ([], []), ([0], []), ([], []), ([], [])] mixed (by kernel_rfl) ?_
  refine lex_r rfl rfl (op_ldw rfl tb25 (ev1 rfl) rfl (tc_len _)) ?_
  refine lex_r rfl rfl (dop_call [] [] [] rfl (ev1 rfl) (ec (ev1 rfl) en) rfl rfl (flip_d _) rfl rfl rfl rfl rfl rfl) ?_
  refine lex_r rfl rfl (op_ldw rfl tb25 (ev1 rfl) rfl (tc_len _)) ?_
  refine lex_r rfl rfl (dop_call [] [] [] rfl (ev1 rfl) (ec (ev1 rfl) en) rfl rfl (refFlip_d _) rfl rfl rfl rfl rfl rfl) ?_
  refine lex_r rfl rfl (op_ner eq25 rfl gd25 tb25 (ev1 rfl) (ev1 rfl)) ?_
  refine lex_nil ?_
  refine dwp_if_f rfl (by simp) ?_
  refine dwp_skip ?_
  refine dwp_seq ?_
  refine dwp_seq ?_
  refine dwp_region ?_
  refine walk_r rfl rfl rfl (op_move (.inl rfl) (ev1 rfl)) ?_
  refine walk_r rfl rfl rfl (op_len rfl sl26 (ev1 rfl)) ?_
  refine walk_r rfl rfl rfl (op_move (.inl rfl) (ev1 rfl)) ?_
  refine walk_nil ?_
  refine dwp_block ?_
  refine dwp_loopS ⟨hs0, rfl⟩ (α := Nat) (fun k => [(18, .val (.int .i64 (k : Int)))]) [(3, _), (5, _), (16, _), (17, _)] (fun k => []) [_, _] (fun k => k ≤ l.length) (fun k => l.length - k) 0 [0, 1] (by simp) rfl ⟨rfl, rfl, rfl, rfl, trivial⟩ ⟨rfl, trivial⟩ ⟨rfl, rfl, trivial⟩ ?_
  intro k hx
  simp only [upd, List.set_cons_zero, List.set_cons_succ, List.cons_append, List.nil_append]
  have hk := hx
  refine dwp_seq ?_
  refine dwp_region ?_
  refine walk_r rfl rfl rfl (op_lss rfl (ev1 rfl) (ev1 rfl)) ?_
  refine walk_nil ?_
  refine dwp_seq ?_
  refine dwp_cond rfl (fun c3 => ?_) (fun c3 => ?_)
  · try simp only [decide_eq_true_eq, decide_eq_false_iff_not, beq_iff_eq, bne_iff_ne, beq_eq_false_iff_ne, bne_eq_false_iff_eq, Bool.not_eq_true', Bool.not_eq_false', Bool.and_eq_true, Bool.or_eq_true, Bool.or_eq_false_iff, ne_eq, Decidable.not_not, Int.not_lt, Int.not_le] at c3
    refine dwp_skip ?_
    refine dwp_seq ?_
    refine dwp_block ?_
    refine dwp_seq ?_
    refine dwp_holes 1 (by simp only [holes, List.cons_append, List.nil_append]; exact rfl) ?_
    refine dwp_region ?_
    refine walk_r rfl rfl rfl (op_move (.inl rfl) (ev1 rfl)) ?_
    refine walk_r rfl rfl rfl (op_ixsr (j := k) rfl sl26 (ev1 rfl) (ev1 rfl) (fun _ => rfl) (by decide) (by omega) (by omega)) ?_
    refine walk_r rfl rfl rfl (op_ldwd rfl tb30 (ev1 rfl) rfl) ?_
    refine walk_w rfl rfl rfl (op_alloc 2 rfl zr30 rfl) (by simp only [upd, List.set_cons_zero, List.set_cons_succ]; exact rfl) ?_
    refine walk_r rfl rfl rfl (op_move (.inr rfl) (ev1 rfl)) ?_
    refine walk_s rfl rfl (op_stwa rfl tb30 (ev1 rfl) (ev1 rfl) rfl rfl rfl rfl) (by simp only [upd, List.set_cons_zero, List.set_cons_succ]; exact rfl) ?_
    refine walk_nil ?_
    refine dwp_seq ?_
    refine dwp_seq ?_
    refine dwp_region ?_
    refine walk_r rfl rfl rfl (op_move (.inl rfl) (ev1 rfl)) ?_
    refine walk_r rfl rfl rfl (op_eql rfl (ev1 rfl) (ev1 rfl)) ?_
    refine walk_nil ?_
    refine dwp_cond rfl (fun c4 => ?_) (fun c4 => ?_)
    · try simp only [decide_eq_true_eq, decide_eq_false_iff_not, beq_iff_eq, bne_iff_ne, beq_eq_false_iff_ne, bne_eq_false_iff_eq, Bool.not_eq_true', Bool.not_eq_false', Bool.and_eq_true, Bool.or_eq_true, Bool.or_eq_false_iff, ne_eq, Decidable.not_not, Int.not_lt, Int.not_le] at c4
      refine dwp_exit ?_
      refine dwp_seq ?_
      refine dwp_region ?_
      refine walk_r rfl rfl rfl (op_move (.inr rfl) (ev1 rfl)) ?_
      refine walk_nil ?_
      refine dwp_ret ?_
      refine kend0 (rs1 rfl (rv_t rfl)) rfl ?_
      rfl
    · try simp only [decide_eq_true_eq, decide_eq_false_iff_not, beq_iff_eq, bne_iff_ne, beq_eq_false_iff_ne, bne_eq_false_iff_eq, Bool.not_eq_true', Bool.not_eq_false', Bool.and_eq_true, Bool.or_eq_true, Bool.or_eq_false_iff, ne_eq, Decidable.not_not, Int.not_lt, Int.not_le] at c4
      refine dwp_skip ?_
      refine dwp_seq ?_
      refine dwp_draw [([0], []), ([], []), ([2], []), ([], []), ([0], []), ([], []), ([2], []), ([], []), ([], []), ([], []), ([0], []), ([], []), ([2], []), ([], []), ([2], []), ([1], []), ([], []), ([0], []), ([], []), ([2], []), ([], []), ([2], []), ([1], []), ([], []), ([], []), ([], [])] mixed (by kernel_rfl) ?_
      refine lex_r rfl rfl (op_ldw rfl tb25 (ev1 rfl) rfl (tc_len _)) ?_
      refine lex_r rfl rfl (op_fa rfl fo30_0 (ev1 rfl)) ?_
      refine lex_r rfl rfl (op_ldo rfl tb3 (ev1 rfl) rfl rfl) ?_
      refine lex_r rfl rfl (dop_call [] [] [] rfl (ev1 rfl) (ec (ev1 rfl) (ec (ev1 rfl) en)) rfl rfl (turn_d _ _) rfl rfl rfl rfl rfl rfl) ?_
      refine lex_r rfl rfl (op_ldw rfl tb25 (ev1 rfl) rfl (tc_len _)) ?_
      refine lex_r rfl rfl (op_fa rfl fo30_0 (ev1 rfl)) ?_
      refine lex_r rfl rfl (op_ldo rfl tb3 (ev1 rfl) rfl rfl) ?_
      refine lex_r rfl rfl (dop_call [] [] [] rfl (ev1 rfl) (ec (ev1 rfl) (ec (ev1 rfl) en)) rfl rfl (refTurns_d _ _) rfl rfl rfl rfl rfl rfl) ?_
      refine lex_r rfl rfl (op_ner eq25 rfl gd25 tb25 (ev1 rfl) (ev1 rfl)) ?_
      refine lex_r rfl rfl (op_move (.inl rfl) (ev1 rfl)) ?_
      refine lex_gr (gd_f rfl rfl rfl) rfl rfl (op_ldw rfl tb25 (ev1 rfl) rfl (tc_len _)) ?_
      refine lex_gr (gd_f rfl rfl rfl) rfl rfl (op_fa rfl fo30_0 (ev1 rfl)) ?_
      refine lex_gr (gd_f rfl rfl rfl) rfl rfl (op_ldo rfl tb3 (ev2 rfl) rfl rfl) ?_
      refine lex_gr (gd_f rfl rfl rfl) rfl rfl (op_fa rfl fo30_1 (ev1 rfl)) ?_
      refine lex_gr (gd_f rfl rfl rfl) rfl rfl (op_ldo rfl tb3 (ev2 rfl) rfl rfl) ?_
      refine lex_gr (gd_f rfl rfl rfl) rfl rfl (op_ldw rfl tb23 (ev1 rfl) rfl rfl) ?_
      refine lex_gr (gd_f rfl rfl rfl) rfl rfl (dop_call [] [] [] rfl (ev1 rfl) (ec (ev2 rfl) (ec (ev2 rfl) (ec (ev2 rfl) (ec (ev2 rfl) en)))) rfl rfl (shift_d _ _ _ _) rfl rfl rfl rfl rfl rfl) ?_
      refine lex_gr (gd_f rfl rfl rfl) rfl rfl (op_ldw rfl tb25 (ev1 rfl) rfl (tc_len _)) ?_
      refine lex_gr (gd_f rfl rfl rfl) rfl rfl (op_fa rfl fo30_0 (ev1 rfl)) ?_
      refine lex_gr (gd_f rfl rfl rfl) rfl rfl (op_ldo rfl tb3 (ev2 rfl) rfl rfl) ?_
      refine lex_gr (gd_f rfl rfl rfl) rfl rfl (op_fa rfl fo30_1 (ev1 rfl)) ?_
      refine lex_gr (gd_f rfl rfl rfl) rfl rfl (op_ldo rfl tb3 (ev2 rfl) rfl rfl) ?_
      refine lex_gr (gd_f rfl rfl rfl) rfl rfl (op_ldw rfl tb23 (ev1 rfl) rfl rfl) ?_
      refine lex_gr (gd_f rfl rfl rfl) rfl rfl (dop_call [] [] [] rfl (ev1 rfl) (ec (ev2 rfl) (ec (ev2 rfl) (ec (ev2 rfl) (ec (ev2 rfl) en)))) rfl rfl (refShift_d _ _ _ _) rfl rfl rfl rfl rfl rfl) ?_
      refine lex_gr (gd_f rfl rfl rfl) rfl rfl (op_ner eq25 rfl gd25 tb25 (ev2 rfl) (ev2 rfl)) ?_
      refine lex_r rfl rfl (op_or rfl (ev1 rfl) (ev3 rfl id)) ?_
      refine lex_nil ?_
      refine dwp_if_f rfl (by simp) ?_
      refine dwp_skip ?_
      refine dwp_region ?_
      refine walk_r rfl rfl rfl (op_add' rfl (ev1 rfl) (ev1 rfl) (fun _ => IntWalk.i64_in _ (by omega))) ?_
      refine walk_r rfl rfl rfl (op_move (.inl rfl) (ev1 rfl)) ?_
      refine walk_nil ?_
      refine ⟨k + 1, [0, 1], by omega, by simp only []; omega, rfl, ⟨rfl, rfl, rfl, rfl, rfl, trivial⟩, ⟨rfl, rfl, trivial⟩⟩
  · try simp only [decide_eq_true_eq, decide_eq_false_iff_not, beq_iff_eq, bne_iff_ne, beq_eq_false_iff_ne, bne_eq_false_iff_eq, Bool.not_eq_true', Bool.not_eq_false', Bool.and_eq_true, Bool.or_eq_true, Bool.or_eq_false_iff, ne_eq, Decidable.not_not, Int.not_lt, Int.not_le] at c3
    refine dwp_exit ?_
    refine dwp_seq ?_
    refine dwp_region ?_
    refine walk_r rfl rfl rfl (op_move (.inr rfl) (ev1 rfl)) ?_
    refine walk_nil ?_
    refine dwp_ret ?_
    refine kend0 (rs1 rfl (rv_t rfl)) rfl ?_
    rfl

end Go.Proofs.Ythagnobjbpmneaa
