/- the layer does something -/
import Derived.Test.YtaekkjhpdendoaaDoorIh
namespace Go.Proofs.YtaekkjhpdendoaaDoor
set_option linter.unusedVariables false
set_option linter.unusedSimpArgs false
open Go.RowKit

set_option maxRecDepth 4000 in
set_option maxHeartbeats 1000000 in
theorem wakes_d : DFun Tryd.prog 9 [] [] (.val (.bool true)) [] := by
  refine dcalls_go (N := 108) 0 (by kernel_rfl) Tryd.func9 rfl rfl rfl (by simp only [fr0, Nat.zero_add, Nat.reduceAdd]; exact rfl) rfl fun s0 hs0 => ?_
  refine dwp_seq ?_
  refine dwp_region ?_
  refine walk_r rfl rfl rfl (op_move (.inr rfl) (ev1 rfl)) ?_
  refine walk_nil ?_
  refine dwp_seq ?_
  refine dwp_holes 3 (by simp only [holes, List.cons_append, List.nil_append]; exact rfl) ?_
  refine dwp_region ?_
  refine walk_r rfl rfl rfl (op_build (ps := [(0, .const (.int .u64 3)), (1, .const (.int .i64 1)), (2, .const (.int .u64 2))]) rfl fl27 zr27 (vc (ev1 rfl) (vc (ev1 rfl) (vc (ev1 rfl) vn))) rfl rfl) ?_
  refine walk_r rfl rfl rfl (op_build (ps := [(0, .const (.int .u64 2)), (1, .const (.int .i64 2)), (2, .const (.int .u64 1))]) rfl fl27 zr27 (vc (ev1 rfl) (vc (ev1 rfl) (vc (ev1 rfl) vn))) rfl rfl) ?_
  refine walk_r rfl rfl rfl (op_build (ps := [(0, .const (.int .u64 2)), (1, .const (.int .i64 1)), (2, .const (.int .u64 9))]) rfl fl27 zr27 (vc (ev1 rfl) (vc (ev1 rfl) (vc (ev1 rfl) vn))) rfl rfl) ?_
  refine walk_w rfl rfl rfl (op_alloc 0 rfl zr27 rfl) (by simp only [upd, List.set_cons_zero, List.set_cons_succ]; exact rfl) ?_
  refine walk_w rfl rfl rfl (op_alloc 1 rfl zr27 rfl) (by simp only [upd, List.set_cons_zero, List.set_cons_succ]; exact rfl) ?_
  refine walk_w rfl rfl rfl (op_alloc 2 rfl zr27 rfl) (by simp only [upd, List.set_cons_zero, List.set_cons_succ]; exact rfl) ?_
  refine walk_s rfl rfl (op_stwa rfl tb27 (ev1 rfl) (ev1 rfl) rfl rfl rfl rfl) (by simp only [upd, List.set_cons_zero, List.set_cons_succ]; exact rfl) ?_
  refine walk_s rfl rfl (op_stwa rfl tb27 (ev1 rfl) (ev1 rfl) rfl rfl rfl rfl) (by simp only [upd, List.set_cons_zero, List.set_cons_succ]; exact rfl) ?_
  refine walk_s rfl rfl (op_stwa rfl tb27 (ev1 rfl) (ev1 rfl) rfl rfl rfl rfl) (by simp only [upd, List.set_cons_zero, List.set_cons_succ]; exact rfl) ?_
  refine walk_nil ?_
  refine dwp_seq ?_
  refine dwp_holes 2 (by simp only [holes, List.cons_append, List.nil_append]; exact rfl) ?_
  refine dwp_region ?_
  refine walk_r rfl rfl rfl (op_build (ps := [(0, .const (.int .i64 2)), (1, .const (.int .u64 7)), (2, .const (.int .u64 3))]) rfl fl40 zr40 (vc (ev1 rfl) (vc (ev1 rfl) (vc (ev1 rfl) vn))) rfl rfl) ?_
  refine walk_r rfl rfl rfl (dop_call [] [] [] rfl (ev1 rfl) (ec (ev1 rfl) en) rfl rfl (next_d ⟨2, 7, 3⟩ ⟨by decide, by decide⟩) rfl rfl rfl rfl rfl rfl) ?_
  refine walk_r rfl rfl rfl (op_move (.inl rfl) (ev1 rfl)) ?_
  refine walk_r rfl rfl rfl (op_ext rfl (ev1 rfl) rfl) ?_
  refine walk_r rfl rfl rfl (op_ext rfl (ev1 rfl) rfl) ?_
  refine walk_r rfl rfl rfl (op_ext rfl (ev1 rfl) rfl) ?_
  refine walk_w rfl rfl rfl (op_alloc 3 rfl zr40 rfl) (by simp only [upd, List.set_cons_zero, List.set_cons_succ]; exact rfl) ?_
  refine walk_w rfl rfl rfl (op_alloc 4 rfl zr27 rfl) (by simp only [upd, List.set_cons_zero, List.set_cons_succ]; exact rfl) ?_
  refine walk_s rfl rfl (op_stwa rfl tb40 (ev1 rfl) (ev1 rfl) rfl rfl rfl rfl) (by simp only [upd, List.set_cons_zero, List.set_cons_succ]; exact rfl) ?_
  refine walk_s rfl rfl (op_stwa rfl tb27 (ev1 rfl) (ev1 rfl) rfl rfl rfl rfl) (by simp only [upd, List.set_cons_zero, List.set_cons_succ]; exact rfl) ?_
  refine walk_r rfl rfl rfl (op_move (.inr rfl) (ev1 rfl)) ?_
  refine walk_nil ?_
  refine dwp_seq ?_
  refine dwp_region ?_
  refine walk_r rfl rfl rfl (op_ldw rfl tb40 (ev1 rfl) rfl rfl) ?_
  refine walk_r rfl rfl rfl (op_bs (ps := [(0, .const (.int .u64 5)), (1, .const (.int .u64 20))]) rfl sl37 zr25 rfl (vc (ev1 rfl) (vc (ev1 rfl) vn)) rfl (by decide) (by decide)) ?_
  refine walk_r rfl rfl rfl (dop_call [] [] [] rfl (ev1 rfl) (ec (ev1 rfl) (ec (ev1 rfl) en)) rfl rfl (seeC_d _ [5, 20]) rfl rfl rfl rfl rfl rfl) ?_
  refine walk_r rfl rfl rfl (op_move (.inl rfl) (ev1 rfl)) ?_
  refine walk_r rfl rfl rfl (op_ext rfl (ev1 rfl) rfl) ?_
  refine walk_r rfl rfl rfl (op_ext rfl (ev1 rfl) rfl) ?_
  refine walk_s rfl rfl (op_stwa rfl tb40 (ev1 rfl) (ev1 rfl) rfl rfl rfl rfl) (by simp only [upd, List.set_cons_zero, List.set_cons_succ]; exact rfl) ?_
  refine walk_r rfl rfl rfl (op_move (.inr rfl) (ev1 rfl)) ?_
  refine walk_nil ?_
  refine dwp_seq ?_
  refine dwp_holes 2 (by simp only [holes, List.cons_append, List.nil_append]; exact rfl) ?_
  refine dwp_region ?_
  refine walk_r rfl rfl rfl (op_ldw rfl tb40 (ev1 rfl) rfl rfl) ?_
  refine walk_r rfl rfl rfl (dop_call [] [] [] rfl (ev1 rfl) (ec (ev1 rfl) en) rfl rfl (next_d _ ⟨by decide, by decide⟩) rfl rfl rfl rfl rfl rfl) ?_
  refine walk_r rfl rfl rfl (op_move (.inl rfl) (ev1 rfl)) ?_
  refine walk_r rfl rfl rfl (op_ext rfl (ev1 rfl) rfl) ?_
  refine walk_r rfl rfl rfl (op_ext rfl (ev1 rfl) rfl) ?_
  refine walk_r rfl rfl rfl (op_ext rfl (ev1 rfl) rfl) ?_
  refine walk_w rfl rfl rfl (op_alloc 5 rfl zr40 rfl) (by simp only [upd, List.set_cons_zero, List.set_cons_succ]; exact rfl) ?_
  refine walk_w rfl rfl rfl (op_alloc 6 rfl zr27 rfl) (by simp only [upd, List.set_cons_zero, List.set_cons_succ]; exact rfl) ?_
  refine walk_s rfl rfl (op_stwa rfl tb40 (ev1 rfl) (ev1 rfl) rfl rfl rfl rfl) (by simp only [upd, List.set_cons_zero, List.set_cons_succ]; exact rfl) ?_
  refine walk_s rfl rfl (op_stwa rfl tb27 (ev1 rfl) (ev1 rfl) rfl rfl rfl rfl) (by simp only [upd, List.set_cons_zero, List.set_cons_succ]; exact rfl) ?_
  refine walk_r rfl rfl rfl (op_move (.inr rfl) (ev1 rfl)) ?_
  refine walk_nil ?_
  refine dwp_seq ?_
  refine dwp_holes 2 (by simp only [holes, List.cons_append, List.nil_append]; exact rfl) ?_
  refine dwp_region ?_
  refine walk_r rfl rfl rfl (op_build (ps := [(0, .const (.int .i64 1)), (1, .const (.int .u64 4611686018427387904))]) rfl fl40 zr40 (vc (ev1 rfl) (vc (ev1 rfl) vn)) rfl rfl) ?_
  refine walk_r rfl rfl rfl (dop_call [] [] [] rfl (ev1 rfl) (ec (ev1 rfl) en) rfl rfl (next_d ⟨1, 4611686018427387904, 0⟩ ⟨by decide, by decide⟩) rfl rfl rfl rfl rfl rfl) ?_
  refine walk_r rfl rfl rfl (op_move (.inl rfl) (ev1 rfl)) ?_
  refine walk_r rfl rfl rfl (op_ext rfl (ev1 rfl) rfl) ?_
  refine walk_r rfl rfl rfl (op_ext rfl (ev1 rfl) rfl) ?_
  refine walk_r rfl rfl rfl (op_ext rfl (ev1 rfl) rfl) ?_
  refine walk_w rfl rfl rfl (op_alloc 7 rfl zr40 rfl) (by simp only [upd, List.set_cons_zero, List.set_cons_succ]; exact rfl) ?_
  refine walk_w rfl rfl rfl (op_alloc 8 rfl zr27 rfl) (by simp only [upd, List.set_cons_zero, List.set_cons_succ]; exact rfl) ?_
  refine walk_s rfl rfl (op_stwa rfl tb40 (ev1 rfl) (ev1 rfl) rfl rfl rfl rfl) (by simp only [upd, List.set_cons_zero, List.set_cons_succ]; exact rfl) ?_
  refine walk_s rfl rfl (op_stwa rfl tb27 (ev1 rfl) (ev1 rfl) rfl rfl rfl rfl) (by simp only [upd, List.set_cons_zero, List.set_cons_succ]; exact rfl) ?_
  refine walk_r rfl rfl rfl (op_move (.inr rfl) (ev1 rfl)) ?_
  refine walk_nil ?_
  refine dwp_seq ?_
  refine dwp_holes 1 (by simp only [holes, List.cons_append, List.nil_append]; exact rfl) ?_
  refine dwp_region ?_
  refine walk_r rfl rfl rfl (dop_call [] [] [] rfl (ev1 rfl) (ec (ev1 rfl) en) rfl rfl (read_w) rfl rfl rfl rfl rfl rfl) ?_
  refine walk_r rfl rfl rfl (op_move (.inl rfl) (ev1 rfl)) ?_
  refine walk_r rfl rfl rfl (op_ext rfl (ev1 rfl) rfl) ?_
  refine walk_r rfl rfl rfl (op_ext rfl (ev1 rfl) rfl) ?_
  refine walk_w rfl rfl rfl (op_alloc 9 rfl zr27 rfl) (by simp only [upd, List.set_cons_zero, List.set_cons_succ]; exact rfl) ?_
  refine walk_s rfl rfl (op_stwa rfl tb27 (ev1 rfl) (ev1 rfl) rfl rfl rfl rfl) (by simp only [upd, List.set_cons_zero, List.set_cons_succ]; exact rfl) ?_
  refine walk_r rfl rfl rfl (op_move (.inr rfl) (ev1 rfl)) ?_
  refine walk_nil ?_
  refine dwp_seq ?_
  refine dwp_draw [([], []), ([], []), ([], []), ([], []), ([], []), ([], []), ([], []), ([], []), ([], []), ([], []), ([], []), ([], []), ([], []), ([], []), ([], []), ([], []), ([], []), ([], []), ([], []), ([0], []), ([1], []), ([2], []), ([], []), ([], []), ([2], []), ([1], []), ([0], []), ([], []), ([], []), ([], []), ([], []), ([4], []), ([], []), ([], []), ([], []), ([], []), ([6], []), ([], []), ([], []), ([], []), ([], []), ([9], []), ([4], []), ([], []), ([], []), ([], []), ([4], []), ([], []), ([], []), ([], []), ([], []), ([2], []), ([1], []), ([], []), ([], []), ([], []), ([], []), ([], []), ([], []), ([], []), ([], []), ([], [])] mixed (by kernel_rfl) ?_
  refine lex_r rfl rfl (op_move (.inl rfl) (ev1 rfl)) ?_
  refine lex_r rfl rfl (op_eql rfl (ev1 rfl) (ev1 rfl)) ?_
  refine lex_r rfl rfl (op_move (.inl rfl) (ev1 rfl)) ?_
  refine lex_gr (gd_t rfl rfl rfl) rfl rfl (op_move (.inl rfl) (ev1 rfl)) ?_
  refine lex_gr (gd_t rfl rfl rfl) rfl rfl (op_eql rfl (ev2 rfl) (ev1 rfl)) ?_
  refine lex_r rfl rfl (op_and rfl (ev1 rfl) (ev3 rfl id)) ?_
  refine lex_r rfl rfl (op_move (.inl rfl) (ev1 rfl)) ?_
  refine lex_gr (gd_t rfl rfl rfl) rfl rfl (op_move (.inl rfl) (ev1 rfl)) ?_
  refine lex_gr (gd_t rfl rfl rfl) rfl rfl (op_eql rfl (ev2 rfl) (ev1 rfl)) ?_
  refine lex_r rfl rfl (op_and rfl (ev1 rfl) (ev3 rfl id)) ?_
  refine lex_r rfl rfl (op_move (.inl rfl) (ev1 rfl)) ?_
  refine lex_gr (gd_t rfl rfl rfl) rfl rfl (op_move (.inl rfl) (ev1 rfl)) ?_
  refine lex_gr (gd_t rfl rfl rfl) rfl rfl (op_eql rfl (ev2 rfl) (ev1 rfl)) ?_
  refine lex_r rfl rfl (op_and rfl (ev1 rfl) (ev3 rfl id)) ?_
  refine lex_r rfl rfl (op_move (.inl rfl) (ev1 rfl)) ?_
  refine lex_gr (gd_t rfl rfl rfl) rfl rfl (op_move (.inl rfl) (ev1 rfl)) ?_
  refine lex_gr (gd_t rfl rfl rfl) rfl rfl (op_eql rfl (ev2 rfl) (ev1 rfl)) ?_
  refine lex_r rfl rfl (op_and rfl (ev1 rfl) (ev3 rfl id)) ?_
  refine lex_r rfl rfl (op_move (.inl rfl) (ev1 rfl)) ?_
  refine lex_gr (gd_t rfl rfl rfl) rfl rfl (op_ldw rfl tb27 (ev1 rfl) rfl rfl) ?_
  refine lex_gr (gd_t rfl rfl rfl) rfl rfl (op_ldw rfl tb27 (ev1 rfl) rfl rfl) ?_
  refine lex_gr (gd_t rfl rfl rfl) rfl rfl (op_ldw rfl tb27 (ev1 rfl) rfl rfl) ?_
  refine lex_gr (gd_t rfl rfl rfl) rfl rfl (op_bs (ps := [(0, .tmp 66), (1, .tmp 67), (2, .tmp 68)]) rfl sl22 zr27 rfl (vc (ev2 rfl) (vc (ev2 rfl) (vc (ev2 rfl) vn))) rfl (by decide) (by decide)) ?_
  refine lex_gr (gd_t rfl rfl rfl) rfl rfl (dop_call [] [] [] rfl (ev1 rfl) (ec (ev2 rfl) en) rfl rfl (sortedZ_d [⟨3, 1, 2⟩, ⟨2, 2, 1⟩, ⟨2, 1, 9⟩] (by decide)) rfl rfl rfl rfl rfl rfl) ?_
  refine lex_gr (gd_t rfl rfl rfl) rfl rfl (op_ldw rfl tb27 (ev1 rfl) rfl rfl) ?_
  refine lex_gr (gd_t rfl rfl rfl) rfl rfl (op_ldw rfl tb27 (ev1 rfl) rfl rfl) ?_
  refine lex_gr (gd_t rfl rfl rfl) rfl rfl (op_ldw rfl tb27 (ev1 rfl) rfl rfl) ?_
  refine lex_gr (gd_t rfl rfl rfl) rfl rfl (op_bs (ps := [(0, .tmp 71), (1, .tmp 72), (2, .tmp 73)]) rfl sl22 zr27 rfl (vc (ev2 rfl) (vc (ev2 rfl) (vc (ev2 rfl) vn))) rfl (by decide) (by decide)) ?_
  refine lex_gr (gd_t rfl rfl rfl) rfl rfl (dop_call [] [] [] rfl (ev1 rfl) (ec (ev2 rfl) (ec (ev2 rfl) en)) rfl rfl (equalId _ [⟨2, 1, 9⟩, ⟨2, 2, 1⟩, ⟨3, 1, 2⟩]) rfl rfl rfl rfl rfl rfl) ?_
  refine lex_r rfl rfl (op_and rfl (ev1 rfl) (ev3 rfl id)) ?_
  refine lex_r rfl rfl (op_move (.inl rfl) (ev1 rfl)) ?_
  refine lex_gr (gd_t rfl rfl rfl) rfl rfl (op_ldw rfl tb27 (ev1 rfl) rfl rfl) ?_
  refine lex_gr (gd_t rfl rfl rfl) rfl rfl (op_build (ps := [(0, .const (.int .u64 8)), (1, .const (.int .i64 2)), (2, .const (.int .u64 4))]) rfl fl27 zr27 (vc (ev1 rfl) (vc (ev1 rfl) (vc (ev1 rfl) vn))) rfl rfl) ?_
  refine lex_gr (gd_t rfl rfl rfl) rfl rfl (op_eqr eq27 rfl gd27 tb27 (ev2 rfl) (ev2 rfl)) ?_
  refine lex_r rfl rfl (op_and rfl (ev1 rfl) (ev3 rfl id)) ?_
  refine lex_r rfl rfl (op_move (.inl rfl) (ev1 rfl)) ?_
  refine lex_gr (gd_t rfl rfl rfl) rfl rfl (op_ldw rfl tb27 (ev1 rfl) rfl rfl) ?_
  refine lex_gr (gd_t rfl rfl rfl) rfl rfl (op_build (ps := [(0, .const (.int .u64 21)), (1, .const (.int .i64 2)), (2, .const (.int .u64 5))]) rfl fl27 zr27 (vc (ev1 rfl) (vc (ev1 rfl) (vc (ev1 rfl) vn))) rfl rfl) ?_
  refine lex_gr (gd_t rfl rfl rfl) rfl rfl (op_eqr eq27 rfl gd27 tb27 (ev2 rfl) (ev2 rfl)) ?_
  refine lex_r rfl rfl (op_and rfl (ev1 rfl) (ev3 rfl id)) ?_
  refine lex_r rfl rfl (op_move (.inl rfl) (ev1 rfl)) ?_
  refine lex_gr (gd_t rfl rfl rfl) rfl rfl (op_ldw rfl tb27 (ev1 rfl) rfl rfl) ?_
  refine lex_gr (gd_t rfl rfl rfl) rfl rfl (op_ldw rfl tb27 (ev1 rfl) rfl rfl) ?_
  refine lex_gr (gd_t rfl rfl rfl) rfl rfl (op_eqr eq27 rfl gd27 tb27 (ev2 rfl) (ev2 rfl)) ?_
  refine lex_r rfl rfl (op_and rfl (ev1 rfl) (ev3 rfl id)) ?_
  refine lex_r rfl rfl (op_move (.inl rfl) (ev1 rfl)) ?_
  refine lex_gr (gd_t rfl rfl rfl) rfl rfl (op_ldw rfl tb27 (ev1 rfl) rfl rfl) ?_
  refine lex_gr (gd_t rfl rfl rfl) rfl rfl (dop_call [] [] [] rfl (ev1 rfl) (ec (ev2 rfl) en) rfl rfl (text_w) rfl rfl rfl rfl rfl rfl) ?_
  refine lex_gr (gd_t rfl rfl rfl) rfl rfl (op_eqs rfl (ev2 rfl) (ev1 rfl)) ?_
  refine lex_r rfl rfl (op_and rfl (ev1 rfl) (ev3 rfl id)) ?_
  refine lex_r rfl rfl (op_move (.inl rfl) (ev1 rfl)) ?_
  refine lex_gr (gd_t rfl rfl rfl) rfl rfl (op_ldw rfl tb27 (ev1 rfl) rfl rfl) ?_
  refine lex_gr (gd_t rfl rfl rfl) rfl rfl (op_ldw rfl tb27 (ev1 rfl) rfl rfl) ?_
  refine lex_gr (gd_t rfl rfl rfl) rfl rfl (dop_call [] [] [] rfl (ev1 rfl) (ec (ev2 rfl) (ec (ev2 rfl) en)) rfl rfl (compare_d ⟨2, 1, 9⟩ ⟨2, 2, 1⟩) rfl rfl rfl rfl rfl rfl) ?_
  refine lex_gr (gd_t rfl rfl rfl) rfl rfl (op_eql rfl (ev2 rfl) (ev1 rfl)) ?_
  refine lex_r rfl rfl (op_and rfl (ev1 rfl) (ev3 rfl id)) ?_
  refine lex_r rfl rfl (op_move (.inl rfl) (ev1 rfl)) ?_
  refine lex_gr (gd_t rfl rfl rfl) rfl rfl (op_build (ps := [(1, .const (.int .i64 1)), (2, .const (.int .u64 1))]) rfl fl27 zr27 (vc (ev1 rfl) (vc (ev1 rfl) vn)) rfl rfl) ?_
  refine lex_gr (gd_t rfl rfl rfl) rfl rfl (dop_call [] [] [] rfl (ev1 rfl) (ec (ev2 rfl) en) rfl rfl (check_d ⟨0, 1, 1⟩) rfl rfl rfl rfl rfl rfl) ?_
  refine lex_gr (gd_t rfl rfl rfl) rfl rfl (op_eql rfl (ev2 rfl) (ev1 rfl)) ?_
  refine lex_r rfl rfl (op_and rfl (ev1 rfl) (ev3 rfl id)) ?_
  refine lex_r rfl rfl (op_move (.inr rfl) (ev1 rfl)) ?_
  refine lex_nil ?_
  refine dwp_ret ?_
  refine kend0 (rs1 rfl (rv_t rfl)) rfl ?_
  have e : ∀ p : ByteArray, (p.toList == p.toList) = true := fun p => beq_self_eq_true _
  rw [sorted_eq, e]
  rfl

end Go.Proofs.YtaekkjhpdendoaaDoor
