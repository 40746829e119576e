/- the law of what leads back, walked -/
import Derived.Test.YthagnobjbpmneaaTk
import Derived.Test.YthagnobjbpmneaaTm
namespace Go.Proofs.Ythagnobjbpmneaa
set_option linter.unusedVariables false
set_option linter.unusedSimpArgs false
open Go.RowKit
attribute [local irreducible] mvT turnT flipT turnsT shiftT colsL countT runsT qN cnt withT withR boxT boxK

set_option maxRecDepth 4000 in
set_option maxHeartbeats 1000000 in
theorem back_d (t : TL) (q : Int) : DFun Try.prog 6 [tD t, .val (.int .i64 q)] [] (.val (.bool true)) [] := by
  have hr := tmod_bd q
  obtain ⟨r, hrr⟩ : ∃ r, r = q.tmod 1000 := ⟨_, rfl⟩
  rw [← hrr] at hr
  refine dcalls_go (N := 80) 0 (by kernel_rfl) Try.func6 rfl rfl rfl (by simp only [fr0, Nat.zero_add, Nat.reduceAdd]; exact rfl) rfl fun s0 hs0 => ?_
  refine dwp_seq ?_
  refine dwp_holes 1 (by simp only [holes, List.cons_append, List.nil_append]; exact rfl) ?_
  refine dwp_region ?_
  refine walk_w rfl rfl rfl (op_boxa 0 rfl (ev1 rfl) rfl) (by simp only [upd, List.set_cons_zero, List.set_cons_succ]; exact rfl) ?_
  refine walk_r rfl rfl rfl (op_move (.inr rfl) (ev1 rfl)) ?_
  refine walk_nil ?_
  refine dwp_seq ?_
  refine dwp_seq ?_
  refine dwp_region ?_
  refine walk_r rfl rfl rfl (dop_call [] [] [] rfl (ev1 rfl) en rfl rfl (wakes_d) rfl rfl rfl rfl rfl rfl) ?_
  refine walk_r rfl rfl rfl (op_not rfl (ev1 rfl)) ?_
  refine walk_nil ?_
  refine dwp_if_f rfl (rfl) ?_
  refine dwp_skip ?_
  refine dwp_seq ?_
  refine dwp_region ?_
  refine walk_r rfl rfl rfl (op_move (.inl rfl) (ev1 rfl)) ?_
  refine walk_r rfl rfl rfl (op_rem rfl (ev1 rfl) (ev1 rfl) (fun _ => by omega)) ?_
  refine walk_r rfl rfl rfl (op_move (.inr rfl) (ev1 rfl)) ?_
  refine walk_nil ?_
  refine dwp_seq ?_
  rw [← hrr]
  refine dwp_holes 1 (by simp only [holes, List.cons_append, List.nil_append]; exact rfl) ?_
  refine dwp_region ?_
  refine walk_r rfl rfl rfl (op_ldw rfl tb25 (ev1 rfl) rfl (tc_len _)) ?_
  refine walk_r rfl rfl rfl (op_move (.inl rfl) (ev1 rfl)) ?_
  refine walk_r rfl rfl rfl (dop_call [] [] [] rfl (ev1 rfl) (ec (ev1 rfl) (ec (ev1 rfl) en)) rfl rfl (turn_d _ r) rfl rfl rfl rfl rfl rfl) ?_
  refine walk_w rfl rfl rfl (op_alloc 1 rfl zr25 rfl) (by simp only [upd, List.set_cons_zero, List.set_cons_succ]; exact rfl) ?_
  refine walk_s rfl rfl (op_stwa rfl tb25 (ev1 rfl) (ev1 rfl) rfl (tc_len _) (tc_oc _) ((tc_len _).trans (tc_len _).symm)) (by simp only [upd, List.set_cons_zero, List.set_cons_succ]; exact rfl) ?_
  refine walk_nil ?_
  refine dwp_seq ?_
  refine dwp_seq ?_
  refine dwp_draw [([0], []), ([], []), ([], []), ([0], []), ([], []), ([], []), ([1], []), ([], []), ([], []), ([], []), ([0], []), ([], []), ([], []), ([], []), ([1], []), ([], []), ([1], []), ([], []), ([], []), ([], []), ([1], []), ([], []), ([0], []), ([], []), ([], []), ([], []), ([], []), ([], []), ([], [])] mixed (by kernel_rfl) ?_
  refine lex_r rfl rfl (op_ldw rfl tb25 (ev1 rfl) rfl (tc_len _)) ?_
  refine lex_r rfl rfl (dop_call [] [] [] rfl (ev1 rfl) (ec (ev1 rfl) en) rfl rfl (flip_d _) rfl rfl rfl rfl rfl rfl) ?_
  refine lex_r rfl rfl (dop_call [] [] [] rfl (ev1 rfl) (ec (ev1 rfl) en) rfl rfl (flip_d _) rfl rfl rfl rfl rfl rfl) ?_
  refine lex_r rfl rfl (op_ldw rfl tb25 (ev1 rfl) rfl (tc_len _)) ?_
  refine lex_r rfl rfl (op_ner eq25 rfl gd25 tb25 (ev1 rfl) (ev1 rfl)) ?_
  refine lex_r rfl rfl (op_move (.inl rfl) (ev1 rfl)) ?_
  refine lex_gr (gd_f rfl rfl rfl) rfl rfl (op_ldw rfl tb25 (ev1 rfl) rfl (tc_len _)) ?_
  refine lex_gr (gd_f rfl rfl rfl) rfl rfl (op_move (.inl rfl) (ev1 rfl)) ?_
  refine lex_gr (gd_f rfl rfl rfl) rfl rfl (op_neg' rfl (ev2 rfl) (fun hp => IntWalk.i64_in _ (by first | omega | (simp at hp; omega)))) ?_
  refine lex_gr (gd_f rfl rfl rfl) rfl rfl (dop_call [] [] [] rfl (ev1 rfl) (ec (ev2 rfl) (ec (ev2 rfl) en)) rfl rfl (turn_d _ (-r)) rfl rfl rfl rfl rfl rfl) ?_
  refine lex_gr (gd_f rfl rfl rfl) rfl rfl (op_ldw rfl tb25 (ev1 rfl) rfl (tc_len _)) ?_
  refine lex_gr (gd_f rfl rfl rfl) rfl rfl (op_ner eq25 rfl gd25 tb25 (ev2 rfl) (ev2 rfl)) ?_
  refine lex_r rfl rfl (op_or rfl (ev1 rfl) (ev3 rfl id)) ?_
  refine lex_r rfl rfl (op_move (.inl rfl) (ev1 rfl)) ?_
  refine lex_gr (gd_f rfl rfl rfl) rfl rfl (op_ldw rfl tb25 (ev1 rfl) rfl (tc_len _)) ?_
  refine lex_gr (gd_f rfl rfl rfl) rfl rfl (dop_call [] [] [] rfl (ev1 rfl) (ec (ev2 rfl) (ec (ev1 rfl) en)) rfl rfl (turn_d _ 4) rfl rfl rfl rfl rfl rfl) ?_
  refine lex_gr (gd_f rfl rfl rfl) rfl rfl (op_ldw rfl tb25 (ev1 rfl) rfl (tc_len _)) ?_
  refine lex_gr (gd_f rfl rfl rfl) rfl rfl (op_ner eq25 rfl gd25 tb25 (ev2 rfl) (ev2 rfl)) ?_
  refine lex_r rfl rfl (op_or rfl (ev1 rfl) (ev3 rfl id)) ?_
  refine lex_r rfl rfl (op_move (.inl rfl) (ev1 rfl)) ?_
  refine lex_gr (gd_f rfl rfl rfl) rfl rfl (op_ldw rfl tb25 (ev1 rfl) rfl (tc_len _)) ?_
  refine lex_gr (gd_f rfl rfl rfl) rfl rfl (dop_call [] [] [] rfl (ev1 rfl) (ec (ev2 rfl) en) rfl rfl (flip_d _) rfl rfl rfl rfl rfl rfl) ?_
  refine lex_gr (gd_f rfl rfl rfl) rfl rfl (op_ldw rfl tb25 (ev1 rfl) rfl (tc_len _)) ?_
  refine lex_gr (gd_f rfl rfl rfl) rfl rfl (dop_call [] [] [] rfl (ev1 rfl) (ec (ev2 rfl) en) rfl rfl (flip_d _) rfl rfl rfl rfl rfl rfl) ?_
  refine lex_gr (gd_f rfl rfl rfl) rfl rfl (op_move (.inl rfl) (ev1 rfl)) ?_
  refine lex_gr (gd_f rfl rfl rfl) rfl rfl (op_neg' rfl (ev2 rfl) (fun hp => IntWalk.i64_in _ (by first | omega | (simp at hp; omega)))) ?_
  refine lex_gr (gd_f rfl rfl rfl) rfl rfl (dop_call [] [] [] rfl (ev1 rfl) (ec (ev2 rfl) (ec (ev2 rfl) en)) rfl rfl (turn_d _ (-r)) rfl rfl rfl rfl rfl rfl) ?_
  refine lex_gr (gd_f rfl rfl rfl) rfl rfl (op_ner eq25 rfl gd25 tb25 (ev2 rfl) (ev2 rfl)) ?_
  refine lex_r rfl rfl (op_or rfl (ev1 rfl) (ev3 rfl id)) ?_
  refine lex_nil ?_
  refine dwp_if_f rfl (by simp [flip2, turns_back, qN_4, turnsT, flip_turns]) ?_
  refine dwp_skip ?_
  refine dwp_seq ?_
  refine dwp_seq ?_
  refine dwp_region ?_
  refine walk_r rfl rfl rfl (op_ldw rfl tb25 (ev1 rfl) rfl (tc_len _)) ?_
  refine walk_r rfl rfl rfl (dop_call [] [] [] rfl (ev1 rfl) (ec (ev1 rfl) en) rfl rfl (colors_d _) rfl rfl rfl rfl rfl rfl) ?_
  refine walk_r rfl rfl rfl (op_len rfl sl43 (ev1 rfl)) ?_
  refine walk_r rfl rfl rfl (op_move (.inl rfl) (ev1 rfl)) ?_
  refine walk_nil ?_
  refine dwp_block ?_
  refine dwp_loopS ⟨hs0, rfl⟩ (α := Nat) (fun k => [(48, .val (.int .i64 (k : Int)))]) [(2, _), (5, _), (46, _), (47, _)] (fun k => []) [_, _] (fun k => k ≤ (colsL t.l).length) (fun k => (colsL t.l).length - k) 0 [0, 1] (by simp) rfl ⟨rfl, rfl, rfl, rfl, trivial⟩ ⟨rfl, trivial⟩ ⟨rfl, rfl, trivial⟩ ?_
  intro k hx
  simp only [upd, List.set_cons_zero, List.set_cons_succ, List.cons_append, List.nil_append]
  have hk := hx
  have hcl := cols_len t.l
  rw [t.h] at hcl
  refine dwp_seq ?_
  refine dwp_region ?_
  refine walk_r rfl rfl rfl (op_lss rfl (ev1 rfl) (ev1 rfl)) ?_
  refine walk_nil ?_
  refine dwp_seq ?_
  refine dwp_cond rfl (fun c3 => ?_) (fun c3 => ?_)
  · try simp only [decide_eq_true_eq, decide_eq_false_iff_not, beq_iff_eq, bne_iff_ne, beq_eq_false_iff_ne, bne_eq_false_iff_eq, Bool.not_eq_true', Bool.not_eq_false', Bool.and_eq_true, Bool.or_eq_true, Bool.or_eq_false_iff, ne_eq, Decidable.not_not, Int.not_lt, Int.not_le] at c3
    refine dwp_skip ?_
    refine dwp_seq ?_
    refine dwp_block ?_
    refine dwp_seq ?_
    refine dwp_holes 1 (by simp only [holes, List.cons_append, List.nil_append]; exact rfl) ?_
    refine dwp_region ?_
    refine walk_r rfl rfl rfl (op_ixsr (j := k) rfl sl43 (ev1 rfl) (ev1 rfl) (fun _ => rfl) (by decide) (by omega) (by omega)) ?_
    refine walk_r rfl rfl rfl (op_ldwd rfl tb23 (ev1 rfl) rfl) ?_
    refine walk_w rfl rfl rfl (op_alloc 2 rfl zr23 rfl) (by simp only [upd, List.set_cons_zero, List.set_cons_succ]; exact rfl) ?_
    refine walk_s rfl rfl (op_stwa rfl tb23 (ev1 rfl) (ev1 rfl) rfl rfl rfl rfl) (by simp only [upd, List.set_cons_zero, List.set_cons_succ]; exact rfl) ?_
    refine walk_nil ?_
    refine dwp_seq ?_
    refine dwp_region ?_
    refine walk_r rfl rfl rfl (op_ldw rfl tb25 (ev1 rfl) rfl (tc_len _)) ?_
    refine walk_r rfl rfl rfl (op_ldw rfl tb23 (ev1 rfl) rfl rfl) ?_
    refine walk_r rfl rfl rfl (dop_call [] [] [] rfl (ev1 rfl) (ec (ev1 rfl) (ec (ev1 rfl) en)) rfl rfl (count_d _ _) rfl rfl rfl rfl rfl rfl) ?_
    refine walk_r rfl rfl rfl (op_move (.inr rfl) (ev1 rfl)) ?_
    refine walk_nil ?_
    refine dwp_seq ?_
    refine dwp_draw [([1], []), ([2], []), ([], []), ([], []), ([], []), ([], []), ([0], []), ([], []), ([2], []), ([], []), ([], []), ([], []), ([], []), ([], []), ([], []), ([], []), ([], [])] mixed (by kernel_rfl) ?_
    refine lex_r rfl rfl (op_ldw rfl tb25 (ev1 rfl) rfl (tc_len _)) ?_
    refine lex_r rfl rfl (op_ldw rfl tb23 (ev1 rfl) rfl rfl) ?_
    refine lex_r rfl rfl (dop_call [] [] [] rfl (ev1 rfl) (ec (ev1 rfl) (ec (ev1 rfl) en)) rfl rfl (count_d _ _) rfl rfl rfl rfl rfl rfl) ?_
    refine lex_r rfl rfl (op_move (.inl rfl) (ev1 rfl)) ?_
    refine lex_r rfl rfl (op_neq rfl (ev1 rfl) (ev1 rfl)) ?_
    refine lex_r rfl rfl (op_move (.inl rfl) (ev1 rfl)) ?_
    refine lex_gr (gd_f rfl rfl rfl) rfl rfl (op_ldw rfl tb25 (ev1 rfl) rfl (tc_len _)) ?_
    refine lex_gr (gd_f rfl rfl rfl) rfl rfl (dop_call [] [] [] rfl (ev1 rfl) (ec (ev2 rfl) en) rfl rfl (flip_d _) rfl rfl rfl rfl rfl rfl) ?_
    refine lex_gr (gd_f rfl rfl rfl) rfl rfl (op_ldw rfl tb23 (ev1 rfl) rfl rfl) ?_
    refine lex_gr (gd_f rfl rfl rfl) rfl rfl (dop_call [] [] [] rfl (ev1 rfl) (ec (ev2 rfl) (ec (ev2 rfl) en)) rfl rfl (count_d _ _) rfl rfl rfl rfl rfl rfl) ?_
    refine lex_gr (gd_f rfl rfl rfl) rfl rfl (op_move (.inl rfl) (ev1 rfl)) ?_
    refine lex_gr (gd_f rfl rfl rfl) rfl rfl (op_neq rfl (ev2 rfl) (ev2 rfl)) ?_
    refine lex_r rfl rfl (op_or rfl (ev1 rfl) (ev3 rfl id)) ?_
    refine lex_r rfl rfl (op_move (.inl rfl) (ev1 rfl)) ?_
    refine lex_gr (gd_f rfl rfl rfl) rfl rfl (op_move (.inl rfl) (ev1 rfl)) ?_
    refine lex_gr (gd_f rfl rfl rfl) rfl rfl (op_lss rfl (ev2 rfl) (ev1 rfl)) ?_
    refine lex_r rfl rfl (op_or rfl (ev1 rfl) (ev3 rfl id)) ?_
    refine lex_nil ?_
    refine dwp_if_f rfl (by
  have h1 := count_perm (turns_perm (qN r) t) (colsL t.l)[k]
  have h2 := count_perm (flip_perm t) (colsL t.l)[k]
  have h3 := count_pos (t := t) (List.getElem_mem (l := colsL t.l) (n := k) (by omega))
  simp [h1, h2]
  omega) ?_
    refine dwp_skip ?_
    refine dwp_region ?_
    refine walk_r rfl rfl rfl (op_add' rfl (ev1 rfl) (ev1 rfl) (fun _ => IntWalk.i64_in _ (by omega))) ?_
    refine walk_r rfl rfl rfl (op_move (.inl rfl) (ev1 rfl)) ?_
    refine walk_nil ?_
    refine ⟨k + 1, [0, 1], by omega, by simp only []; omega, rfl, ⟨rfl, rfl, rfl, rfl, rfl, trivial⟩, ⟨rfl, rfl, trivial⟩⟩
  · try simp only [decide_eq_true_eq, decide_eq_false_iff_not, beq_iff_eq, bne_iff_ne, beq_eq_false_iff_ne, bne_eq_false_iff_eq, Bool.not_eq_true', Bool.not_eq_false', Bool.and_eq_true, Bool.or_eq_true, Bool.or_eq_false_iff, ne_eq, Decidable.not_not, Int.not_lt, Int.not_le] at c3
    refine dwp_exit ?_
    refine dwp_seq ?_
    refine dwp_draw [([1], []), ([], []), ([], []), ([0], []), ([], []), ([], []), ([], []), ([], [])] mixed (by kernel_rfl) ?_
    refine lex_r rfl rfl (op_ldw rfl tb25 (ev1 rfl) rfl (tc_len _)) ?_
    refine lex_r rfl rfl (dop_call [] [] [] rfl (ev1 rfl) (ec (ev1 rfl) en) rfl rfl (colors_d _) rfl rfl rfl rfl rfl rfl) ?_
    refine lex_r rfl rfl (op_len rfl sl43 (ev1 rfl)) ?_
    refine lex_r rfl rfl (op_ldw rfl tb25 (ev1 rfl) rfl (tc_len _)) ?_
    refine lex_r rfl rfl (dop_call [] [] [] rfl (ev1 rfl) (ec (ev1 rfl) en) rfl rfl (colors_d _) rfl rfl rfl rfl rfl rfl) ?_
    refine lex_r rfl rfl (op_len rfl sl43 (ev1 rfl)) ?_
    refine lex_r rfl rfl (op_eql rfl (ev1 rfl) (ev1 rfl)) ?_
    refine lex_r rfl rfl (op_move (.inr rfl) (ev1 rfl)) ?_
    refine lex_nil ?_
    refine dwp_ret ?_
    refine kend0 (rs1 rfl (rv_t rfl)) rfl ?_
    have h1 := cols_perm (turns_perm (qN r) t)
    simp [h1]

end Go.Proofs.Ythagnobjbpmneaa
