/- the law of counts, walked -/
import Derived.Test.YthagnobjbpmneaaTo
namespace Go.Proofs.Ythagnobjbpmneaa
set_option linter.unusedVariables false
set_option linter.unusedSimpArgs false
open Go.RowKit
attribute [local irreducible] mvT turnT flipT turnsT shiftT colsL countT runsT qN cnt withT withR boxT boxK

set_option maxRecDepth 4000 in
set_option maxHeartbeats 1000000 in
theorem counts_d (t u : TL) (l : List C4) : DFun Try.prog 4 [tD t, tD u, .slf 4 l.length (l.flatMap c4)] [] (.val (.bool true)) [] := by
  refine dcalls_go (N := 75) 0 (by kernel_rfl) Try.func4 rfl rfl rfl (by simp only [fr0, Nat.zero_add, Nat.reduceAdd]; exact rfl) rfl fun s0 hs0 => ?_
  refine dwp_len (t := 2) rfl fun hl2 hL2 => ?_
  refine dwp_seq ?_
  refine dwp_holes 2 (by simp only [holes, List.cons_append, List.nil_append]; exact rfl) ?_
  refine dwp_region ?_
  refine walk_w rfl rfl rfl (op_boxa 0 rfl (ev1 rfl) rfl) (by simp only [upd, List.set_cons_zero, List.set_cons_succ]; exact rfl) ?_
  refine walk_w rfl rfl rfl (op_boxa 1 rfl (ev1 rfl) rfl) (by simp only [upd, List.set_cons_zero, List.set_cons_succ]; exact rfl) ?_
  refine walk_r rfl rfl rfl (op_move (.inr rfl) (ev1 rfl)) ?_
  refine walk_nil ?_
  refine dwp_seq ?_
  refine dwp_seq ?_
  refine dwp_region ?_
  refine walk_r rfl rfl rfl (dop_call [] [] [] rfl (ev1 rfl) en rfl rfl (wakes_d) rfl rfl rfl rfl rfl rfl) ?_
  refine walk_r rfl rfl rfl (op_not rfl (ev1 rfl)) ?_
  refine walk_nil ?_
  refine dwp_if_f rfl (rfl) ?_
  refine dwp_skip ?_
  refine dwp_seq ?_
  refine dwp_seq ?_
  refine dwp_draw [([0], []), ([], []), ([0], []), ([], []), ([], []), ([], []), ([], []), ([0], []), ([], []), ([0], []), ([], []), ([], []), ([], [])] mixed (by kernel_rfl) ?_
  refine lex_r rfl rfl (op_ldw rfl tb25 (ev1 rfl) rfl (tc_len _)) ?_
  refine lex_r rfl rfl (dop_call [] [] [] rfl (ev1 rfl) (ec (ev1 rfl) en) rfl rfl (colors_d _) rfl rfl rfl rfl rfl rfl) ?_
  refine lex_r rfl rfl (op_ldw rfl tb25 (ev1 rfl) rfl (tc_len _)) ?_
  refine lex_r rfl rfl (dop_call [] [] [] rfl (ev1 rfl) (ec (ev1 rfl) en) rfl rfl (refColors_f _) rfl rfl rfl rfl rfl rfl) ?_
  refine lex_r rfl rfl (dop_call [] [] [] rfl (ev1 rfl) (ec (ev1 rfl) (ec (ev1 rfl) en)) rfl rfl (equalC _ _) rfl rfl rfl rfl rfl rfl) ?_
  refine lex_r rfl rfl (op_not rfl (ev1 rfl)) ?_
  refine lex_r rfl rfl (op_move (.inl rfl) (ev1 rfl)) ?_
  refine lex_gr (gd_f rfl rfl rfl) rfl rfl (op_ldw rfl tb25 (ev1 rfl) rfl (tc_len _)) ?_
  refine lex_gr (gd_f rfl rfl rfl) rfl rfl (dop_call [] [] [] rfl (ev1 rfl) (ec (ev2 rfl) en) rfl rfl (runs_d _) rfl rfl rfl rfl rfl rfl) ?_
  refine lex_gr (gd_f rfl rfl rfl) rfl rfl (op_ldw rfl tb25 (ev1 rfl) rfl (tc_len _)) ?_
  refine lex_gr (gd_f rfl rfl rfl) rfl rfl (dop_call [] [] [] rfl (ev1 rfl) (ec (ev2 rfl) en) rfl rfl (refRuns_d _) rfl rfl rfl rfl rfl rfl) ?_
  refine lex_gr (gd_f rfl rfl rfl) rfl rfl (op_neq rfl (ev2 rfl) (ev2 rfl)) ?_
  refine lex_r rfl rfl (op_or rfl (ev1 rfl) (ev3 rfl id)) ?_
  refine lex_nil ?_
  refine dwp_if_f rfl (by simp) ?_
  refine dwp_skip ?_
  refine dwp_seq ?_
  refine dwp_seq ?_
  refine dwp_holes 1 (by simp only [holes, List.cons_append, List.nil_append]; exact rfl) ?_
  refine dwp_draw [([], []), ([], []), ([], []), ([], []), ([], []), ([], []), ([], []), ([], []), ([], []), ([0], []), ([], []), ([1], []), ([], []), ([2], [2]), ([2], []), ([], [])] mixed (by kernel_rfl) ?_
  refine lex_r rfl rfl (op_move (.inl rfl) (ev1 rfl)) ?_
  refine lex_r rfl rfl (op_move (.inl rfl) (ev1 rfl)) ?_
  refine lex_r rfl rfl (op_len rfl sl43 (ev1 rfl)) ?_
  refine lex_r rfl rfl (op_min rfl (ev1 rfl) (ev1 rfl)) ?_
  refine lex_r rfl rfl (op_move (.inl rfl) (ev1 rfl)) ?_
  refine lex_r rfl rfl (op_len rfl sl43 (ev1 rfl)) ?_
  refine lex_r rfl rfl (op_min rfl (ev1 rfl) (ev1 rfl)) ?_
  refine lex_r rfl rfl (op_sl3 (j := min l.length 6) rfl sl43 (ev1 rfl) (ev1 rfl) (ev1 rfl) (fun hp => by first | omega | (simp at hp; omega)) (fun hp => by first | omega | (simp at hp; omega)) (fun hp => by first | omega | (simp at hp; omega)) (fun _ => rfl)) ?_
  refine lex_r rfl rfl (op_ixfr (j := 0) rfl ar25 (ev1 rfl) (ev1 rfl) (fun _ => by omega) (fun _ => by omega)) ?_
  refine lex_r rfl rfl (op_ldfr (zC4) rfl tb23 (ev1 rfl) rfl (fun _ => rfl) (fun _ => by rw [TL.h]; omega)) ?_
  refine lex_r rfl rfl (op_ixfr (j := 9) rfl ar25 (ev1 rfl) (ev1 rfl) (fun _ => by omega) (fun _ => by omega)) ?_
  refine lex_r rfl rfl (op_ldfr (zC4) rfl tb23 (ev1 rfl) rfl (fun _ => rfl) (fun _ => by rw [TL.h]; omega)) ?_
  refine lex_r rfl rfl (op_bs (ps := [(0, .tmp 37), (1, .tmp 39)]) rfl sl43 zr23 rfl (vc (ev1 rfl) (vc (ev1 rfl) vn)) rfl (by decide) (by decide)) ?_
  refine lex_w rfl rfl (op_apc 2 rfl sl43 zr23 rfl (ev1 rfl) (ev1 rfl) src_slf rfl (fun _ => ⟨by decide, by rw [List.length_take]; omega, by rw [List.length_take]; omega⟩)) rfl (by simp only [upd, List.set_cons_zero, List.set_cons_succ]; exact rfl) ?_
  refine lex_r rfl rfl (op_lena rfl sl43 (ev1 rfl) rfl) ?_
  refine lex_r rfl rfl (op_move (.inl rfl) (ev1 rfl)) ?_
  refine lex_nil ?_
  refine dwp_block ?_
  refine dwp_loopS ⟨hs0, rfl⟩ (α := Nat) (fun k => [(43, .val (.int .i64 (k : Int)))]) [(3, _), (4, _), (41, _), (42, _)] (fun k => [(2, .arr 23 4 ((l.take (min l.length 6) ++ [t.l.getD 0 zC4, u.l.getD 9 zC4])).length (((l.take (min l.length 6) ++ [t.l.getD 0 zC4, u.l.getD 9 zC4])).flatMap c4))]) [_, _, .hole] (fun k => k ≤ (l.take (min l.length 6) ++ [t.l.getD 0 zC4, u.l.getD 9 zC4]).length) (fun k => (l.take (min l.length 6) ++ [t.l.getD 0 zC4, u.l.getD 9 zC4]).length - k) 0 [0, 1, 2] (by simp) rfl ⟨rfl, rfl, rfl, rfl, trivial⟩ ⟨rfl, trivial⟩ ⟨rfl, rfl, arr_eq (by simp) (by simp [Value.cells]), trivial⟩ ?_
  intro k hx
  simp only [upd, List.set_cons_zero, List.set_cons_succ, List.cons_append, List.nil_append]
  have hk := hx
  have hn : (l.take (min l.length 6) ++ [t.l.getD 0 zC4, u.l.getD 9 zC4]).length ≤ 8 := by simp; omega
  have hR : (l.take (min l.length 6) ++ [t.l.getD 0 zC4, u.l.getD 9 zC4]).length = (l.take (min l.length 6)).length + 2 := by simp
  refine dwp_seq ?_
  refine dwp_region ?_
  refine walk_r rfl rfl rfl (op_lss rfl (ev1 rfl) (ev1 rfl)) ?_
  refine walk_nil ?_
  refine dwp_seq ?_
  refine dwp_cond rfl (fun c3 => ?_) (fun c3 => ?_)
  · try simp only [decide_eq_true_eq, decide_eq_false_iff_not, beq_iff_eq, bne_iff_ne, beq_eq_false_iff_ne, bne_eq_false_iff_eq, Bool.not_eq_true', Bool.not_eq_false', Bool.and_eq_true, Bool.or_eq_true, Bool.or_eq_false_iff, ne_eq, Decidable.not_not, Int.not_lt, Int.not_le] at c3
    refine dwp_skip ?_
    refine dwp_seq ?_
    refine dwp_block ?_
    refine dwp_seq ?_
    refine dwp_holes 1 (by simp only [holes, List.cons_append, List.nil_append]; exact rfl) ?_
    refine dwp_region ?_
    refine walk_r rfl rfl rfl (op_ixar (j := k) rfl sl43 (ev1 rfl) (ev1 rfl) rfl (fun _ => by first | rfl | omega) (fun _ => by omega)) ?_
    refine walk_r rfl rfl rfl (op_ldar rfl tb23 (ev1 rfl) rfl (fun _ => rfl) (by omega)) ?_
    refine walk_w rfl rfl rfl (op_alloc 3 rfl zr23 rfl) (by simp only [upd, List.set_cons_zero, List.set_cons_succ]; exact rfl) ?_
    refine walk_s rfl rfl (op_stwa rfl tb23 (ev1 rfl) (ev1 rfl) rfl rfl rfl rfl) (by simp only [upd, List.set_cons_zero, List.set_cons_succ]; exact rfl) ?_
    refine walk_nil ?_
    refine dwp_seq ?_
    refine dwp_draw [([0], []), ([3], []), ([], []), ([0], []), ([3], []), ([], []), ([], [])] mixed (by kernel_rfl) ?_
    refine lex_r rfl rfl (op_ldw rfl tb25 (ev1 rfl) rfl (tc_len _)) ?_
    refine lex_r rfl rfl (op_ldw rfl tb23 (ev1 rfl) rfl rfl) ?_
    refine lex_r rfl rfl (dop_call [] [] [] rfl (ev1 rfl) (ec (ev1 rfl) (ec (ev1 rfl) en)) rfl rfl (count_d _ _) rfl rfl rfl rfl rfl rfl) ?_
    refine lex_r rfl rfl (op_ldw rfl tb25 (ev1 rfl) rfl (tc_len _)) ?_
    refine lex_r rfl rfl (op_ldw rfl tb23 (ev1 rfl) rfl rfl) ?_
    refine lex_r rfl rfl (dop_call [] [] [] rfl (ev1 rfl) (ec (ev1 rfl) (ec (ev1 rfl) en)) rfl rfl (refCount_d _ _) rfl rfl rfl rfl rfl rfl) ?_
    refine lex_r rfl rfl (op_neq rfl (ev1 rfl) (ev1 rfl)) ?_
    refine lex_nil ?_
    refine dwp_if_f rfl (by simp) ?_
    refine dwp_skip ?_
    refine dwp_region ?_
    refine walk_r rfl rfl rfl (op_add' rfl (ev1 rfl) (ev1 rfl) (fun _ => IntWalk.i64_in _ (by omega))) ?_
    refine walk_r rfl rfl rfl (op_move (.inl rfl) (ev1 rfl)) ?_
    refine walk_nil ?_
    refine ⟨k + 1, [0, 1, 2], by omega, by simp only []; omega, rfl, ⟨rfl, rfl, rfl, rfl, rfl, trivial⟩, ⟨rfl, rfl, rfl, trivial⟩⟩
  · try simp only [decide_eq_true_eq, decide_eq_false_iff_not, beq_iff_eq, bne_iff_ne, beq_eq_false_iff_ne, bne_eq_false_iff_eq, Bool.not_eq_true', Bool.not_eq_false', Bool.and_eq_true, Bool.or_eq_true, Bool.or_eq_false_iff, ne_eq, Decidable.not_not, Int.not_lt, Int.not_le] at c3
    refine dwp_exit ?_
    refine dwp_seq ?_
    refine dwp_holes 1 (by simp only [holes, List.cons_append, List.nil_append]; exact rfl) ?_
    refine dwp_region ?_
    refine walk_r rfl rfl rfl (op_ldw rfl tb25 (ev1 rfl) rfl (tc_len _)) ?_
    refine walk_r rfl rfl rfl (op_ldw rfl tb25 (ev1 rfl) rfl (tc_len _)) ?_
    refine walk_r rfl rfl rfl (dop_call [] [] [] rfl (ev1 rfl) (ec (ev1 rfl) (ec (ev1 rfl) en)) rfl rfl (box_d _ _) rfl rfl rfl rfl rfl rfl) ?_
    refine walk_r rfl rfl rfl (op_move (.inl rfl) (ev1 rfl)) ?_
    refine walk_r rfl rfl rfl (op_ext rfl (ev1 rfl) rfl) ?_
    refine walk_r rfl rfl rfl (op_ext rfl (ev1 rfl) rfl) ?_
    refine walk_w rfl rfl rfl (op_alloc 3 rfl zr49 rfl) (by simp only [upd, List.set_cons_zero, List.set_cons_succ]; exact rfl) ?_
    refine walk_s rfl rfl (op_stwa rfl tb49 (ev1 rfl) (ev1 rfl) rfl rfl rfl rfl) (by simp only [upd, List.set_cons_zero, List.set_cons_succ]; exact rfl) ?_
    refine walk_r rfl rfl rfl (op_move (.inr rfl) (ev1 rfl)) ?_
    refine walk_nil ?_
    refine dwp_seq ?_
    refine dwp_holes 1 (by simp only [holes, List.cons_append, List.nil_append]; exact rfl) ?_
    refine dwp_region ?_
    refine walk_r rfl rfl rfl (op_ldw rfl tb25 (ev1 rfl) rfl (tc_len _)) ?_
    refine walk_r rfl rfl rfl (op_ldw rfl tb25 (ev1 rfl) rfl (tc_len _)) ?_
    refine walk_r rfl rfl rfl (dop_call [] [] [] rfl (ev1 rfl) (ec (ev1 rfl) (ec (ev1 rfl) en)) rfl rfl (refBox_d _ _) rfl rfl rfl rfl rfl rfl) ?_
    refine walk_r rfl rfl rfl (op_move (.inl rfl) (ev1 rfl)) ?_
    refine walk_r rfl rfl rfl (op_ext rfl (ev1 rfl) rfl) ?_
    refine walk_r rfl rfl rfl (op_ext rfl (ev1 rfl) rfl) ?_
    refine walk_w rfl rfl rfl (op_alloc 4 rfl zr49 rfl) (by simp only [upd, List.set_cons_zero, List.set_cons_succ]; exact rfl) ?_
    refine walk_s rfl rfl (op_stwa rfl tb49 (ev1 rfl) (ev1 rfl) rfl rfl rfl rfl) (by simp only [upd, List.set_cons_zero, List.set_cons_succ]; exact rfl) ?_
    refine walk_r rfl rfl rfl (op_move (.inr rfl) (ev1 rfl)) ?_
    refine walk_nil ?_
    refine dwp_seq ?_
    refine dwp_region ?_
    refine walk_r rfl rfl rfl (op_ldw rfl tb49 (ev1 rfl) rfl rfl) ?_
    refine walk_r rfl rfl rfl (op_ldw rfl tb49 (ev1 rfl) rfl rfl) ?_
    refine walk_r rfl rfl rfl (op_eqr eq49 rfl gd49 tb49 (ev1 rfl) (ev1 rfl)) ?_
    refine walk_r rfl rfl rfl (op_move (.inl rfl) (ev1 rfl)) ?_
    refine walk_gr (gd_t rfl rfl rfl) rfl rfl rfl (op_move (.inl rfl) (ev1 rfl)) ?_
    refine walk_gr (gd_t rfl rfl rfl) rfl rfl rfl (op_move (.inl rfl) (ev1 rfl)) ?_
    refine walk_gr (gd_t rfl rfl rfl) rfl rfl rfl (op_eqb rfl un4 (ev2 rfl) (ev2 rfl)) ?_
    refine walk_r rfl rfl rfl (op_and rfl (ev1 rfl) (ev3 rfl id)) ?_
    refine walk_r rfl rfl rfl (op_move (.inr rfl) (ev1 rfl)) ?_
    refine walk_nil ?_
    refine dwp_ret ?_
    refine kend0 (rs1 rfl (rv_t rfl)) rfl ?_
    simp

end Go.Proofs.Ythagnobjbpmneaa
