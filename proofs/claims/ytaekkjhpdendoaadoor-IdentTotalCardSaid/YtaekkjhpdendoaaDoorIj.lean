/- ids stand in one order: the law, walked -/
import Derived.Test.YtaekkjhpdendoaaDoorIi
namespace Go.Proofs.YtaekkjhpdendoaaDoor
set_option linter.unusedVariables false
set_option linter.unusedSimpArgs false
open Go.RowKit

set_option maxRecDepth 4000 in
set_option maxHeartbeats 1000000 in
theorem total_d (a b c : I3) : DFun Tryd.prog 6 [idD a, idD b, idD c] [] (.val (.bool true)) [] := by
  refine dcalls_go (N := 88) 0 (by kernel_rfl) Tryd.func6 rfl rfl rfl (by simp only [fr0, Nat.zero_add, Nat.reduceAdd]; exact rfl) rfl fun s0 hs0 => ?_
  refine dwp_seq ?_
  refine dwp_holes 3 (by simp only [holes, List.cons_append, List.nil_append]; exact rfl) ?_
  refine dwp_region ?_
  refine walk_w rfl rfl rfl (op_boxa 0 rfl (ev1 rfl) rfl) (by simp only [upd, List.set_cons_zero, List.set_cons_succ]; exact rfl) ?_
  refine walk_w rfl rfl rfl (op_boxa 1 rfl (ev1 rfl) rfl) (by simp only [upd, List.set_cons_zero, List.set_cons_succ]; exact rfl) ?_
  refine walk_w rfl rfl rfl (op_boxa 2 rfl (ev1 rfl) rfl) (by simp only [upd, List.set_cons_zero, List.set_cons_succ]; exact rfl) ?_
  refine walk_r rfl rfl rfl (op_move (.inr rfl) (ev1 rfl)) ?_
  refine walk_nil ?_
  refine dwp_seq ?_
  refine dwp_seq ?_
  refine dwp_region ?_
  refine walk_r rfl rfl rfl (dop_call [] [] [] rfl (ev1 rfl) en rfl rfl (wakes_d) rfl rfl rfl rfl rfl rfl) ?_
  refine walk_r rfl rfl rfl (op_not rfl (ev1 rfl)) ?_
  refine walk_nil ?_
  refine dwp_if_f rfl (rfl) ?_
  refine dwp_skip ?_
  refine dwp_seq ?_
  refine dwp_seq ?_
  refine dwp_draw [([0], []), ([1], []), ([], []), ([1], []), ([0], []), ([], []), ([], []), ([], []), ([], []), ([0], []), ([1], []), ([], []), ([], []), ([0], []), ([1], []), ([], []), ([], []), ([], [])] mixed (by kernel_rfl) ?_
  refine lex_r rfl rfl (op_ldw rfl tb27 (ev1 rfl) rfl rfl) ?_
  refine lex_r rfl rfl (op_ldw rfl tb27 (ev1 rfl) rfl rfl) ?_
  refine lex_r rfl rfl (dop_call [] [] [] rfl (ev1 rfl) (ec (ev1 rfl) (ec (ev1 rfl) en)) rfl rfl (compare_d _ _) rfl rfl rfl rfl rfl rfl) ?_
  refine lex_r rfl rfl (op_ldw rfl tb27 (ev1 rfl) rfl rfl) ?_
  refine lex_r rfl rfl (op_ldw rfl tb27 (ev1 rfl) rfl rfl) ?_
  refine lex_r rfl rfl (dop_call [] [] [] rfl (ev1 rfl) (ec (ev1 rfl) (ec (ev1 rfl) en)) rfl rfl (compare_d _ _) rfl rfl rfl rfl rfl rfl) ?_
  refine lex_r rfl rfl (op_neg rfl (ev1 rfl)) ?_
  refine lex_r rfl rfl (op_neq rfl (ev1 rfl) (ev1 rfl)) ?_
  refine lex_r rfl rfl (op_move (.inl rfl) (ev1 rfl)) ?_
  refine lex_gr (gd_f rfl rfl rfl) rfl rfl (op_ldw rfl tb27 (ev1 rfl) rfl rfl) ?_
  refine lex_gr (gd_f rfl rfl rfl) rfl rfl (op_ldw rfl tb27 (ev1 rfl) rfl rfl) ?_
  refine lex_gr (gd_f rfl rfl rfl) rfl rfl (dop_call [] [] [] rfl (ev1 rfl) (ec (ev2 rfl) (ec (ev2 rfl) en)) rfl rfl (compare_d _ _) rfl rfl rfl rfl rfl rfl) ?_
  refine lex_gr (gd_f rfl rfl rfl) rfl rfl (op_eql rfl (ev2 rfl) (ev1 rfl)) ?_
  refine lex_gr (gd_f rfl rfl rfl) rfl rfl (op_ldw rfl tb27 (ev1 rfl) rfl rfl) ?_
  refine lex_gr (gd_f rfl rfl rfl) rfl rfl (op_ldw rfl tb27 (ev1 rfl) rfl rfl) ?_
  refine lex_gr (gd_f rfl rfl rfl) rfl rfl (op_eqr eq27 rfl gd27 tb27 (ev2 rfl) (ev2 rfl)) ?_
  refine lex_gr (gd_f rfl rfl rfl) rfl rfl (op_neb rfl un4 (ev2 rfl) (ev2 rfl)) ?_
  refine lex_r rfl rfl (op_or rfl (ev1 rfl) (ev3 rfl id)) ?_
  refine lex_nil ?_
  refine dwp_if_f rfl (tot1 a b) ?_
  refine dwp_skip ?_
  refine dwp_seq ?_
  refine dwp_seq ?_
  refine dwp_region ?_
  refine walk_r rfl rfl rfl (op_ldw rfl tb27 (ev1 rfl) rfl rfl) ?_
  refine walk_r rfl rfl rfl (op_ldw rfl tb27 (ev1 rfl) rfl rfl) ?_
  refine walk_r rfl rfl rfl (dop_call [] [] [] rfl (ev1 rfl) (ec (ev1 rfl) (ec (ev1 rfl) en)) rfl rfl (lessC_d _ _) rfl rfl rfl rfl rfl rfl) ?_
  refine walk_r rfl rfl rfl (op_move (.inl rfl) (ev1 rfl)) ?_
  refine walk_gr (gd_t rfl rfl rfl) rfl rfl rfl (op_ldw rfl tb27 (ev1 rfl) rfl rfl) ?_
  refine walk_gr (gd_t rfl rfl rfl) rfl rfl rfl (op_ldw rfl tb27 (ev1 rfl) rfl rfl) ?_
  refine walk_gr (gd_t rfl rfl rfl) rfl rfl rfl (dop_call [] [] [] rfl (ev1 rfl) (ec (ev2 rfl) (ec (ev2 rfl) en)) rfl rfl (lessC_d _ _) rfl rfl rfl rfl rfl rfl) ?_
  refine walk_r rfl rfl rfl (op_and rfl (ev1 rfl) (ev3 rfl id)) ?_
  refine walk_r rfl rfl rfl (op_move (.inl rfl) (ev1 rfl)) ?_
  refine walk_gr (gd_t rfl rfl rfl) rfl rfl rfl (op_ldw rfl tb27 (ev1 rfl) rfl rfl) ?_
  refine walk_gr (gd_t rfl rfl rfl) rfl rfl rfl (op_ldw rfl tb27 (ev1 rfl) rfl rfl) ?_
  refine walk_gr (gd_t rfl rfl rfl) rfl rfl rfl (dop_call [] [] [] rfl (ev1 rfl) (ec (ev2 rfl) (ec (ev2 rfl) en)) rfl rfl (lessC_d _ _) rfl rfl rfl rfl rfl rfl) ?_
  refine walk_gr (gd_t rfl rfl rfl) rfl rfl rfl (op_not rfl (ev2 rfl)) ?_
  refine walk_r rfl rfl rfl (op_and rfl (ev1 rfl) (ev3 rfl id)) ?_
  refine walk_nil ?_
  refine dwp_if_f rfl (tot2 a b c) ?_
  refine dwp_skip ?_
  refine dwp_seq ?_
  have hlen : (isortC [a, b, c]).length = 3 := isortC_len _
  refine dwp_holes 1 (by simp only [holes, List.cons_append, List.nil_append]; exact rfl) ?_
  refine dwp_region ?_
  refine walk_r rfl rfl rfl (op_ldw rfl tb27 (ev1 rfl) rfl rfl) ?_
  refine walk_r rfl rfl rfl (op_ldw rfl tb27 (ev1 rfl) rfl rfl) ?_
  refine walk_r rfl rfl rfl (op_ldw rfl tb27 (ev1 rfl) rfl rfl) ?_
  refine walk_r rfl rfl rfl (op_bs (ps := [(0, .tmp 42), (1, .tmp 43), (2, .tmp 44)]) rfl sl22 zr27 rfl (vc (ev1 rfl) (vc (ev1 rfl) (vc (ev1 rfl) vn))) rfl (by decide) (by decide)) ?_
  refine walk_w rfl rfl rfl (dop_call [] [] [3] rfl (ev1 rfl) (ec (ev1 rfl) en) rfl rfl (sortedO_d [a, b, c] (Nat.le_of_ble_eq_true rfl)) rfl rfl rfl rfl rfl rfl) (by simp only [upd, List.set_cons_zero, List.set_cons_succ]; exact rfl) ?_
  refine walk_r rfl rfl rfl (op_move (.inr rfl) (ev1 rfl)) ?_
  refine walk_nil ?_
  refine dwp_seq ?_
  refine dwp_draw [([], []), ([3], []), ([], []), ([], []), ([], []), ([3], []), ([3], []), ([], []), ([3], []), ([3], []), ([], []), ([], []), ([], []), ([], []), ([], []), ([3], []), ([3], []), ([], []), ([3], []), ([3], []), ([], []), ([], []), ([], []), ([], []), ([], []), ([3], []), ([0], []), ([1], []), ([], []), ([], []), ([1], []), ([2], []), ([], []), ([], []), ([], []), ([0], []), ([2], []), ([], []), ([], []), ([], []), ([], []), ([], [])] mixed (by kernel_rfl) ?_
  refine lex_r rfl rfl (op_move (.inl rfl) (ev1 rfl)) ?_
  refine lex_r rfl rfl (op_lena rfl sl22 (ev1 rfl) rfl) ?_
  refine lex_r rfl rfl (op_eql rfl (ev1 rfl) (ev1 rfl)) ?_
  refine lex_r rfl rfl (op_move (.inl rfl) (ev1 rfl)) ?_
  refine lex_gr (gd_t rfl rfl rfl) rfl rfl (op_move (.inl rfl) (ev1 rfl)) ?_
  refine lex_gr (gd_t rfl rfl rfl) rfl rfl (op_ixar (j := 1) rfl sl22 (ev2 rfl) (ev1 rfl) rfl (fun _ => rfl) (fun _ => by omega)) ?_
  refine lex_gr (gd_t rfl rfl rfl) rfl rfl (op_ldar rfl tb27 (ev2 rfl) rfl (fun _ => rfl) (by omega)) ?_
  refine lex_gr (gd_t rfl rfl rfl) rfl rfl (op_move (.inl rfl) (ev1 rfl)) ?_
  refine lex_gr (gd_t rfl rfl rfl) rfl rfl (op_ixar (j := 0) rfl sl22 (ev2 rfl) (ev1 rfl) rfl (fun _ => rfl) (fun _ => by omega)) ?_
  refine lex_gr (gd_t rfl rfl rfl) rfl rfl (op_ldar rfl tb27 (ev2 rfl) rfl (fun _ => rfl) (by omega)) ?_
  refine lex_gr (gd_t rfl rfl rfl) rfl rfl (dop_call [] [] [] rfl (ev1 rfl) (ec (ev2 rfl) (ec (ev2 rfl) en)) rfl rfl (lessC_d _ _) rfl rfl rfl rfl rfl rfl) ?_
  refine lex_gr (gd_t rfl rfl rfl) rfl rfl (op_not rfl (ev2 rfl)) ?_
  refine lex_r rfl rfl (op_and rfl (ev1 rfl) (ev3 rfl id)) ?_
  refine lex_r rfl rfl (op_move (.inl rfl) (ev1 rfl)) ?_
  refine lex_gr (gd_t rfl rfl rfl) rfl rfl (op_move (.inl rfl) (ev1 rfl)) ?_
  refine lex_gr (gd_t rfl rfl rfl) rfl rfl (op_ixar (j := 2) rfl sl22 (ev2 rfl) (ev1 rfl) rfl (fun _ => rfl) (fun _ => by omega)) ?_
  refine lex_gr (gd_t rfl rfl rfl) rfl rfl (op_ldar rfl tb27 (ev2 rfl) rfl (fun _ => rfl) (by omega)) ?_
  refine lex_gr (gd_t rfl rfl rfl) rfl rfl (op_move (.inl rfl) (ev1 rfl)) ?_
  refine lex_gr (gd_t rfl rfl rfl) rfl rfl (op_ixar (j := 1) rfl sl22 (ev2 rfl) (ev1 rfl) rfl (fun _ => rfl) (fun _ => by omega)) ?_
  refine lex_gr (gd_t rfl rfl rfl) rfl rfl (op_ldar rfl tb27 (ev2 rfl) rfl (fun _ => rfl) (by omega)) ?_
  refine lex_gr (gd_t rfl rfl rfl) rfl rfl (dop_call [] [] [] rfl (ev1 rfl) (ec (ev2 rfl) (ec (ev2 rfl) en)) rfl rfl (lessC_d _ _) rfl rfl rfl rfl rfl rfl) ?_
  refine lex_gr (gd_t rfl rfl rfl) rfl rfl (op_not rfl (ev2 rfl)) ?_
  refine lex_r rfl rfl (op_and rfl (ev1 rfl) (ev3 rfl id)) ?_
  refine lex_r rfl rfl (op_move (.inl rfl) (ev1 rfl)) ?_
  refine lex_gr (gd_t rfl rfl rfl) rfl rfl (op_move (.inl rfl) (ev1 rfl)) ?_
  refine lex_gr (gd_t rfl rfl rfl) rfl rfl (dop_call [] [3] [] rfl (ev1 rfl) (ec (ev2 rfl) en) rfl rfl (rising_d _) rfl rfl rfl rfl rfl rfl) ?_
  refine lex_gr (gd_t rfl rfl rfl) rfl rfl (op_ldw rfl tb27 (ev1 rfl) rfl rfl) ?_
  refine lex_gr (gd_t rfl rfl rfl) rfl rfl (op_ldw rfl tb27 (ev1 rfl) rfl rfl) ?_
  refine lex_gr (gd_t rfl rfl rfl) rfl rfl (op_ner eq27 rfl gd27 tb27 (ev2 rfl) (ev2 rfl)) ?_
  refine lex_gr (gd_t rfl rfl rfl) rfl rfl (op_move (.inl rfl) (ev2 rfl)) ?_
  refine lex_gr (gd_tt rfl rfl rfl) rfl rfl (op_ldw rfl tb27 (ev1 rfl) rfl rfl) ?_
  refine lex_gr (gd_tt rfl rfl rfl) rfl rfl (op_ldw rfl tb27 (ev1 rfl) rfl rfl) ?_
  refine lex_gr (gd_tt rfl rfl rfl) rfl rfl (op_ner eq27 rfl gd27 tb27 (ev2 rfl) (ev2 rfl)) ?_
  refine lex_gr (gd_t rfl rfl rfl) rfl rfl (op_and rfl (ev2 rfl) (ev2 rfl)) ?_
  refine lex_gr (gd_t rfl rfl rfl) rfl rfl (op_move (.inl rfl) (ev2 rfl)) ?_
  refine lex_gr (gd_tt rfl rfl rfl) rfl rfl (op_ldw rfl tb27 (ev1 rfl) rfl rfl) ?_
  refine lex_gr (gd_tt rfl rfl rfl) rfl rfl (op_ldw rfl tb27 (ev1 rfl) rfl rfl) ?_
  refine lex_gr (gd_tt rfl rfl rfl) rfl rfl (op_ner eq27 rfl gd27 tb27 (ev2 rfl) (ev2 rfl)) ?_
  refine lex_gr (gd_t rfl rfl rfl) rfl rfl (op_and rfl (ev2 rfl) (ev2 rfl)) ?_
  refine lex_gr (gd_t rfl rfl rfl) rfl rfl (op_eqb rfl un4 (ev2 rfl) (ev2 rfl)) ?_
  refine lex_r rfl rfl (op_and rfl (ev1 rfl) (ev3 rfl id)) ?_
  refine lex_r rfl rfl (op_move (.inr rfl) (ev1 rfl)) ?_
  refine lex_nil ?_
  refine dwp_ret ?_
  refine kend0 (rs1 rfl (rv_t rfl)) rfl ?_
  obtain ⟨x, y, z, e1, e2, e3, e4⟩ := tot3 a b c
  change D.val (.bool (_ && _ && _ && (_ == (!eqI a b && !eqI b c && !eqI a c)))) = _
  rw [← e4]
  simp [e1, e2, e3]

theorem refSortedO_d (l : List I3) (h : l.length < 20) : DFun Tryd.prog 18 [rowD l] [] (.arr 0) [.arr 27 3 (sortD l).length ((sortD l).flatMap idc)] := by
  rw [sortD_len]
  exact refSorted_d l h

end Go.Proofs.YtaekkjhpdendoaaDoor
