/- the texts of three ids, and what is read of one; what numbers a text has; texts that have no numbers; ids that are read; more types; the numbers of the document's parts; the ids that the document reads; both read the same; the layer does something; the texts of ids, and the ids of texts: the law, walked; Text and Read are each other's way back: the law, walked; arguments that are opened. No condition. -/
import Derived.Test.YtaekkjhpdendoaaDoorQ3
namespace Go.Proofs.YtaekkjhpdendoaaDoor
set_option linter.unusedVariables false
set_option linter.unusedSimpArgs false
open Go.RowKit
set_option maxRecDepth 4000 in
set_option maxHeartbeats 1000000 in
theorem small8_d : DFun Tryd.prog 64 [.val (.int .i64 8)] [] (.val (.string ⟨#[56]⟩)) [] := by
  refine dcalls_go (N := 15) 0 (by kernel_rfl) Tryd.func64 rfl rfl rfl (by simp only [fr0, Nat.zero_add, Nat.reduceAdd]; exact rfl) rfl fun s0 hs0 => ?_
  refine dwp_seq ?_
  refine dwp_region ?_
  refine walk_r rfl rfl rfl (op_move (.inr rfl) (ev1 rfl)) ?_
  refine walk_nil ?_
  refine dwp_seq ?_
  refine dwp_seq ?_
  refine dwp_region ?_
  refine walk_r rfl rfl rfl (op_move (.inl rfl) (ev1 rfl)) ?_
  refine walk_r rfl rfl rfl (op_lss rfl (ev1 rfl) (ev1 rfl)) ?_
  refine walk_nil ?_
  refine dwp_if_t rfl (rfl) ?_
  refine dwp_seq ?_
  refine dwp_region ?_
  refine walk_r rfl rfl rfl (op_move (.inl rfl) (ev1 rfl)) ?_
  refine walk_r rfl rfl rfl (op_move (.inl rfl) (ev1 rfl)) ?_
  refine walk_r rfl rfl rfl (op_add' rfl (ev1 rfl) (ev1 rfl) (fun _ => IntWalk.i64_in _ (by omega))) ?_
  refine walk_r rfl rfl rfl (op_slst (i := 8) (j := 9) rfl un9 (ev1 rfl) (bd_some (ev1 rfl)) (bd_some (ev1 rfl)) (fun _ => rfl) (fun _ => rfl) (fun _ => by decide)) ?_
  refine walk_r rfl rfl rfl (op_move (.inr rfl) (ev1 rfl)) ?_
  refine walk_nil ?_
  refine dwp_ret ?_
  refine kend0 (rs1 rfl (rv_t rfl)) rfl ?_
  rfl
set_option maxRecDepth 4000 in
set_option maxHeartbeats 1000000 in
theorem fmtU8_d : DFun Tryd.prog 60 [.val (.int .u64 8), .val (.int .i64 10)] [] (.val (.string ⟨#[56]⟩)) [] := by
  refine dcalls_go (N := 32) 0 (by kernel_rfl) Tryd.func60 rfl rfl rfl (by simp only [fr0, Nat.zero_add, Nat.reduceAdd]; exact rfl) rfl fun s0 hs0 => ?_
  refine dwp_seq ?_
  refine dwp_region ?_
  refine walk_r rfl rfl rfl (op_move (.inr rfl) (ev1 rfl)) ?_
  refine walk_nil ?_
  refine dwp_seq ?_
  refine dwp_seq ?_
  refine dwp_region ?_
  refine walk_r rfl rfl rfl (op_move (.inl rfl) (ev1 rfl)) ?_
  refine walk_r rfl rfl rfl (op_eql rfl (ev1 rfl) (ev1 rfl)) ?_
  refine walk_nil ?_
  refine dwp_if_t rfl (rfl) ?_
  refine dwp_seq ?_
  refine dwp_seq ?_
  refine dwp_region ?_
  refine walk_r rfl rfl rfl (op_move (.inl rfl) (ev1 rfl)) ?_
  refine walk_r rfl rfl rfl (op_lss rfl (ev1 rfl) (ev1 rfl)) ?_
  refine walk_nil ?_
  refine dwp_if_t rfl (rfl) ?_
  refine dwp_seq ?_
  refine dwp_region ?_
  refine walk_r rfl rfl rfl (op_move (.inl rfl) (ev1 rfl)) ?_
  refine walk_r rfl rfl rfl (op_conv' ty25 kn3 rfl (ev1 rfl) (fun _ => IntWalk.i64_in _ (by omega))) ?_
  refine walk_r rfl rfl rfl (dop_call [] [] [] rfl (ev1 rfl) (ec (ev1 rfl) en) rfl rfl (small8_d) rfl rfl rfl rfl rfl rfl) ?_
  refine walk_r rfl rfl rfl (op_move (.inr rfl) (ev1 rfl)) ?_
  refine walk_nil ?_
  refine dwp_ret ?_
  refine kend0 (rs1 rfl (rv_t rfl)) rfl ?_
  rfl
set_option maxRecDepth 4000 in
set_option maxHeartbeats 1000000 in
theorem fmtUs8_d : DFun Tryd.prog 47 [.val (.int .u64 8), .val (.int .i64 10)] [] (.val (.string ⟨#[56]⟩)) [] := by
  refine dcalls_go (N := 8) 0 (by kernel_rfl) Tryd.func47 rfl rfl rfl (by simp only [fr0, Nat.zero_add, Nat.reduceAdd]; exact rfl) rfl fun s0 hs0 => ?_
  refine dwp_seq ?_
  refine dwp_region ?_
  refine walk_r rfl rfl rfl (op_move (.inr rfl) (ev1 rfl)) ?_
  refine walk_nil ?_
  refine dwp_seq ?_
  refine dwp_region ?_
  refine walk_r rfl rfl rfl (op_move (.inl rfl) (ev1 rfl)) ?_
  refine walk_r rfl rfl rfl (op_move (.inl rfl) (ev1 rfl)) ?_
  refine walk_r rfl rfl rfl (dop_call [] [] [] rfl (ev1 rfl) (ec (ev1 rfl) (ec (ev1 rfl) en)) rfl rfl (fmtU8_d) rfl rfl rfl rfl rfl rfl) ?_
  refine walk_r rfl rfl rfl (op_move (.inr rfl) (ev1 rfl)) ?_
  refine walk_nil ?_
  refine dwp_ret ?_
  refine kend0 (rs1 rfl (rv_t rfl)) rfl ?_
  rfl
set_option maxRecDepth 4000 in
set_option maxHeartbeats 1000000 in
theorem small2_d : DFun Tryd.prog 64 [.val (.int .i64 2)] [] (.val (.string ⟨#[50]⟩)) [] := by
  refine dcalls_go (N := 15) 0 (by kernel_rfl) Tryd.func64 rfl rfl rfl (by simp only [fr0, Nat.zero_add, Nat.reduceAdd]; exact rfl) rfl fun s0 hs0 => ?_
  refine dwp_seq ?_
  refine dwp_region ?_
  refine walk_r rfl rfl rfl (op_move (.inr rfl) (ev1 rfl)) ?_
  refine walk_nil ?_
  refine dwp_seq ?_
  refine dwp_seq ?_
  refine dwp_region ?_
  refine walk_r rfl rfl rfl (op_move (.inl rfl) (ev1 rfl)) ?_
  refine walk_r rfl rfl rfl (op_lss rfl (ev1 rfl) (ev1 rfl)) ?_
  refine walk_nil ?_
  refine dwp_if_t rfl (rfl) ?_
  refine dwp_seq ?_
  refine dwp_region ?_
  refine walk_r rfl rfl rfl (op_move (.inl rfl) (ev1 rfl)) ?_
  refine walk_r rfl rfl rfl (op_move (.inl rfl) (ev1 rfl)) ?_
  refine walk_r rfl rfl rfl (op_add' rfl (ev1 rfl) (ev1 rfl) (fun _ => IntWalk.i64_in _ (by omega))) ?_
  refine walk_r rfl rfl rfl (op_slst (i := 2) (j := 3) rfl un9 (ev1 rfl) (bd_some (ev1 rfl)) (bd_some (ev1 rfl)) (fun _ => rfl) (fun _ => rfl) (fun _ => by decide)) ?_
  refine walk_r rfl rfl rfl (op_move (.inr rfl) (ev1 rfl)) ?_
  refine walk_nil ?_
  refine dwp_ret ?_
  refine kend0 (rs1 rfl (rv_t rfl)) rfl ?_
  rfl
set_option maxRecDepth 4000 in
set_option maxHeartbeats 1000000 in
theorem fmtI2_d : DFun Tryd.prog 68 [.val (.int .i64 2), .val (.int .i64 10)] [] (.val (.string ⟨#[50]⟩)) [] := by
  refine dcalls_go (N := 54) 0 (by kernel_rfl) Tryd.func68 rfl rfl rfl (by simp only [fr0, Nat.zero_add, Nat.reduceAdd]; exact rfl) rfl fun s0 hs0 => ?_
  refine dwp_seq ?_
  refine dwp_region ?_
  refine walk_r rfl rfl rfl (op_move (.inr rfl) (ev1 rfl)) ?_
  refine walk_nil ?_
  refine dwp_seq ?_
  refine dwp_seq ?_
  refine dwp_region ?_
  refine walk_r rfl rfl rfl (op_move (.inl rfl) (ev1 rfl)) ?_
  refine walk_r rfl rfl rfl (op_eql rfl (ev1 rfl) (ev1 rfl)) ?_
  refine walk_nil ?_
  refine dwp_if_t rfl (rfl) ?_
  refine dwp_seq ?_
  refine dwp_seq ?_
  refine dwp_region ?_
  refine walk_r rfl rfl rfl (op_move (.inl rfl) (ev1 rfl)) ?_
  refine walk_r rfl rfl rfl (op_leq rfl (ev1 rfl) (ev1 rfl)) ?_
  refine walk_r rfl rfl rfl (op_move (.inl rfl) (ev1 rfl)) ?_
  refine walk_gr (gd_t rfl rfl rfl) rfl rfl rfl (op_move (.inl rfl) (ev1 rfl)) ?_
  refine walk_gr (gd_t rfl rfl rfl) rfl rfl rfl (op_lss rfl (ev2 rfl) (ev1 rfl)) ?_
  refine walk_r rfl rfl rfl (op_and rfl (ev1 rfl) (ev3 rfl id)) ?_
  refine walk_nil ?_
  refine dwp_if_t rfl (rfl) ?_
  refine dwp_seq ?_
  refine dwp_region ?_
  refine walk_r rfl rfl rfl (op_move (.inl rfl) (ev1 rfl)) ?_
  refine walk_r rfl rfl rfl (dop_call [] [] [] rfl (ev1 rfl) (ec (ev1 rfl) en) rfl rfl (small2_d) rfl rfl rfl rfl rfl rfl) ?_
  refine walk_r rfl rfl rfl (op_move (.inr rfl) (ev1 rfl)) ?_
  refine walk_nil ?_
  refine dwp_ret ?_
  refine kend0 (rs1 rfl (rv_t rfl)) rfl ?_
  rfl
set_option maxRecDepth 4000 in
set_option maxHeartbeats 1000000 in
theorem itoa2_d : DFun Tryd.prog 61 [.val (.int .i64 2)] [] (.val (.string ⟨#[50]⟩)) [] := by
  refine dcalls_go (N := 5) 0 (by kernel_rfl) Tryd.func61 rfl rfl rfl (by simp only [fr0, Nat.zero_add, Nat.reduceAdd]; exact rfl) rfl fun s0 hs0 => ?_
  refine dwp_seq ?_
  refine dwp_region ?_
  refine walk_r rfl rfl rfl (op_move (.inr rfl) (ev1 rfl)) ?_
  refine walk_nil ?_
  refine dwp_seq ?_
  refine dwp_region ?_
  refine walk_r rfl rfl rfl (op_move (.inl rfl) (ev1 rfl)) ?_
  refine walk_r rfl rfl rfl (dop_call [] [] [] rfl (ev1 rfl) (ec (ev1 rfl) (ec (ev1 rfl) en)) rfl rfl (fmtI2_d) rfl rfl rfl rfl rfl rfl) ?_
  refine walk_r rfl rfl rfl (op_move (.inr rfl) (ev1 rfl)) ?_
  refine walk_nil ?_
  refine dwp_ret ?_
  refine kend0 (rs1 rfl (rv_t rfl)) rfl ?_
  rfl
set_option maxRecDepth 4000 in
set_option maxHeartbeats 1000000 in
theorem itoas2_d : DFun Tryd.prog 48 [.val (.int .i64 2)] [] (.val (.string ⟨#[50]⟩)) [] := by
  refine dcalls_go (N := 5) 0 (by kernel_rfl) Tryd.func48 rfl rfl rfl (by simp only [fr0, Nat.zero_add, Nat.reduceAdd]; exact rfl) rfl fun s0 hs0 => ?_
  refine dwp_seq ?_
  refine dwp_region ?_
  refine walk_r rfl rfl rfl (op_move (.inr rfl) (ev1 rfl)) ?_
  refine walk_nil ?_
  refine dwp_seq ?_
  refine dwp_region ?_
  refine walk_r rfl rfl rfl (op_move (.inl rfl) (ev1 rfl)) ?_
  refine walk_r rfl rfl rfl (dop_call [] [] [] rfl (ev1 rfl) (ec (ev1 rfl) en) rfl rfl (itoa2_d) rfl rfl rfl rfl rfl rfl) ?_
  refine walk_r rfl rfl rfl (op_move (.inr rfl) (ev1 rfl)) ?_
  refine walk_nil ?_
  refine dwp_ret ?_
  refine kend0 (rs1 rfl (rv_t rfl)) rfl ?_
  rfl
set_option maxRecDepth 4000 in
set_option maxHeartbeats 1000000 in
theorem small4_d : DFun Tryd.prog 64 [.val (.int .i64 4)] [] (.val (.string ⟨#[52]⟩)) [] := by
  refine dcalls_go (N := 15) 0 (by kernel_rfl) Tryd.func64 rfl rfl rfl (by simp only [fr0, Nat.zero_add, Nat.reduceAdd]; exact rfl) rfl fun s0 hs0 => ?_
  refine dwp_seq ?_
  refine dwp_region ?_
  refine walk_r rfl rfl rfl (op_move (.inr rfl) (ev1 rfl)) ?_
  refine walk_nil ?_
  refine dwp_seq ?_
  refine dwp_seq ?_
  refine dwp_region ?_
  refine walk_r rfl rfl rfl (op_move (.inl rfl) (ev1 rfl)) ?_
  refine walk_r rfl rfl rfl (op_lss rfl (ev1 rfl) (ev1 rfl)) ?_
  refine walk_nil ?_
  refine dwp_if_t rfl (rfl) ?_
  refine dwp_seq ?_
  refine dwp_region ?_
  refine walk_r rfl rfl rfl (op_move (.inl rfl) (ev1 rfl)) ?_
  refine walk_r rfl rfl rfl (op_move (.inl rfl) (ev1 rfl)) ?_
  refine walk_r rfl rfl rfl (op_add' rfl (ev1 rfl) (ev1 rfl) (fun _ => IntWalk.i64_in _ (by omega))) ?_
  refine walk_r rfl rfl rfl (op_slst (i := 4) (j := 5) rfl un9 (ev1 rfl) (bd_some (ev1 rfl)) (bd_some (ev1 rfl)) (fun _ => rfl) (fun _ => rfl) (fun _ => by decide)) ?_
  refine walk_r rfl rfl rfl (op_move (.inr rfl) (ev1 rfl)) ?_
  refine walk_nil ?_
  refine dwp_ret ?_
  refine kend0 (rs1 rfl (rv_t rfl)) rfl ?_
  rfl
set_option maxRecDepth 4000 in
set_option maxHeartbeats 1000000 in
theorem fmtU4_d : DFun Tryd.prog 60 [.val (.int .u64 4), .val (.int .i64 10)] [] (.val (.string ⟨#[52]⟩)) [] := by
  refine dcalls_go (N := 32) 0 (by kernel_rfl) Tryd.func60 rfl rfl rfl (by simp only [fr0, Nat.zero_add, Nat.reduceAdd]; exact rfl) rfl fun s0 hs0 => ?_
  refine dwp_seq ?_
  refine dwp_region ?_
  refine walk_r rfl rfl rfl (op_move (.inr rfl) (ev1 rfl)) ?_
  refine walk_nil ?_
  refine dwp_seq ?_
  refine dwp_seq ?_
  refine dwp_region ?_
  refine walk_r rfl rfl rfl (op_move (.inl rfl) (ev1 rfl)) ?_
  refine walk_r rfl rfl rfl (op_eql rfl (ev1 rfl) (ev1 rfl)) ?_
  refine walk_nil ?_
  refine dwp_if_t rfl (rfl) ?_
  refine dwp_seq ?_
  refine dwp_seq ?_
  refine dwp_region ?_
  refine walk_r rfl rfl rfl (op_move (.inl rfl) (ev1 rfl)) ?_
  refine walk_r rfl rfl rfl (op_lss rfl (ev1 rfl) (ev1 rfl)) ?_
  refine walk_nil ?_
  refine dwp_if_t rfl (rfl) ?_
  refine dwp_seq ?_
  refine dwp_region ?_
  refine walk_r rfl rfl rfl (op_move (.inl rfl) (ev1 rfl)) ?_
  refine walk_r rfl rfl rfl (op_conv' ty25 kn3 rfl (ev1 rfl) (fun _ => IntWalk.i64_in _ (by omega))) ?_
  refine walk_r rfl rfl rfl (dop_call [] [] [] rfl (ev1 rfl) (ec (ev1 rfl) en) rfl rfl (small4_d) rfl rfl rfl rfl rfl rfl) ?_
  refine walk_r rfl rfl rfl (op_move (.inr rfl) (ev1 rfl)) ?_
  refine walk_nil ?_
  refine dwp_ret ?_
  refine kend0 (rs1 rfl (rv_t rfl)) rfl ?_
  rfl
set_option maxRecDepth 4000 in
set_option maxHeartbeats 1000000 in
theorem fmtUs4_d : DFun Tryd.prog 47 [.val (.int .u64 4), .val (.int .i64 10)] [] (.val (.string ⟨#[52]⟩)) [] := by
  refine dcalls_go (N := 8) 0 (by kernel_rfl) Tryd.func47 rfl rfl rfl (by simp only [fr0, Nat.zero_add, Nat.reduceAdd]; exact rfl) rfl fun s0 hs0 => ?_
  refine dwp_seq ?_
  refine dwp_region ?_
  refine walk_r rfl rfl rfl (op_move (.inr rfl) (ev1 rfl)) ?_
  refine walk_nil ?_
  refine dwp_seq ?_
  refine dwp_region ?_
  refine walk_r rfl rfl rfl (op_move (.inl rfl) (ev1 rfl)) ?_
  refine walk_r rfl rfl rfl (op_move (.inl rfl) (ev1 rfl)) ?_
  refine walk_r rfl rfl rfl (dop_call [] [] [] rfl (ev1 rfl) (ec (ev1 rfl) (ec (ev1 rfl) en)) rfl rfl (fmtU4_d) rfl rfl rfl rfl rfl rfl) ?_
  refine walk_r rfl rfl rfl (op_move (.inr rfl) (ev1 rfl)) ?_
  refine walk_nil ?_
  refine dwp_ret ?_
  refine kend0 (rs1 rfl (rv_t rfl)) rfl ?_
  rfl
set_option maxRecDepth 4000 in
set_option maxHeartbeats 1000000 in
theorem text_w : DFun Tryd.prog 31 [idD ⟨8, 2, 4⟩] [] (.val (.string ⟨#[56, 46, 50, 46, 52]⟩)) [] := by
  refine dcalls_go (N := 16) 0 (by kernel_rfl) Tryd.func31 rfl rfl rfl (by simp only [fr0, Nat.zero_add, Nat.reduceAdd]; exact rfl) rfl fun s0 hs0 => ?_
  refine dwp_seq ?_
  refine dwp_holes 1 (by simp only [holes, List.cons_append, List.nil_append]; exact rfl) ?_
  refine dwp_region ?_
  refine walk_w rfl rfl rfl (op_boxa 0 rfl (ev1 rfl) rfl) (by simp only [upd, List.set_cons_zero, List.set_cons_succ]; exact rfl) ?_
  refine walk_r rfl rfl rfl (op_move (.inr rfl) (ev1 rfl)) ?_
  refine walk_nil ?_
  refine dwp_seq ?_
  refine dwp_draw [([], []), ([0], []), ([], []), ([], []), ([], []), ([0], []), ([], []), ([], []), ([], []), ([], []), ([0], []), ([], []), ([], []), ([], [])] mixed (by kernel_rfl) ?_
  refine lex_r rfl rfl (op_fa rfl fo27_0 (ev1 rfl)) ?_
  refine lex_r rfl rfl (op_ldo rfl tb25 (ev1 rfl) rfl rfl) ?_
  refine lex_r rfl rfl (dop_call [] [] [] rfl (ev1 rfl) (ec (ev1 rfl) (ec (ev1 rfl) en)) rfl rfl (fmtUs8_d) rfl rfl rfl rfl rfl rfl) ?_
  refine lex_r rfl rfl (op_cat rfl (ev1 rfl) (ev1 rfl) (fun _ => by decide)) ?_
  refine lex_r rfl rfl (op_fa rfl fo27_1 (ev1 rfl)) ?_
  refine lex_r rfl rfl (op_ldo rfl tb3 (ev1 rfl) rfl rfl) ?_
  refine lex_r rfl rfl (dop_call [] [] [] rfl (ev1 rfl) (ec (ev1 rfl) en) rfl rfl (itoas2_d) rfl rfl rfl rfl rfl rfl) ?_
  refine lex_r rfl rfl (op_cat rfl (ev1 rfl) (ev1 rfl) (fun _ => by decide)) ?_
  refine lex_r rfl rfl (op_cat rfl (ev1 rfl) (ev1 rfl) (fun _ => by decide)) ?_
  refine lex_r rfl rfl (op_fa rfl fo27_2 (ev1 rfl)) ?_
  refine lex_r rfl rfl (op_ldo rfl tb25 (ev1 rfl) rfl rfl) ?_
  refine lex_r rfl rfl (dop_call [] [] [] rfl (ev1 rfl) (ec (ev1 rfl) (ec (ev1 rfl) en)) rfl rfl (fmtUs4_d) rfl rfl rfl rfl rfl rfl) ?_
  refine lex_r rfl rfl (op_cat rfl (ev1 rfl) (ev1 rfl) (fun _ => by decide)) ?_
  refine lex_r rfl rfl (op_move (.inr rfl) (ev1 rfl)) ?_
  refine lex_nil ?_
  refine dwp_ret ?_
  refine kend0 (rs1 rfl (rv_t rfl)) rfl ?_
  rfl
set_option maxRecDepth 4000 in
set_option maxHeartbeats 1000000 in
theorem need_ok (b : Bool) (h : b = true) : DFun Tryd.prog 52 [.val (.bool b)] [] (.tup []) [] := by
  refine dcalls_go (N := 6) 0 (by kernel_rfl) Tryd.func52 rfl rfl rfl (by simp only [fr0, Nat.zero_add, Nat.reduceAdd]; exact rfl) rfl fun s0 hs0 => ?_
  refine dwp_seq ?_
  refine dwp_region ?_
  refine walk_r rfl rfl rfl (op_move (.inl rfl) (ev1 rfl)) ?_
  refine walk_r rfl rfl rfl (op_not rfl (ev1 rfl)) ?_
  refine walk_nil ?_
  refine dwp_if_f rfl (by rw [h]; rfl) ?_
  refine dwp_skip ?_
  refine kend0 (res_none rfl) rfl ?_
  rfl
set_option maxRecDepth 4000 in
set_option maxHeartbeats 1000000 in
theorem grown_d (n r : Int) (h1 : 48 ≤ r) (h2 : r ≤ 57) (h3 : 0 ≤ n) (h4 : n ≤ (4611686018427387904 - (r - 48)) / 10) : DFun Tryd.prog 62 [.val (.int .u64 n), .val (.int .i32 r)] [] (.val (.int .u64 (10 * n + (r - 48)))) [] := by
  refine dcalls_go (N := 26) 0 (by kernel_rfl) Tryd.func62 rfl rfl rfl (by simp only [fr0, Nat.zero_add, Nat.reduceAdd]; exact rfl) rfl fun s0 hs0 => ?_
  refine dwp_seq ?_
  refine dwp_region ?_
  refine walk_r rfl rfl rfl (op_move (.inr rfl) (ev1 rfl)) ?_
  refine walk_nil ?_
  refine dwp_seq ?_
  refine dwp_region ?_
  refine walk_r rfl rfl rfl (op_move (.inl rfl) (ev1 rfl)) ?_
  refine walk_r rfl rfl rfl (op_geq rfl (ev1 rfl) (ev1 rfl)) ?_
  refine walk_r rfl rfl rfl (op_move (.inl rfl) (ev1 rfl)) ?_
  refine walk_gr (gd_t rfl rfl rfl) rfl rfl rfl (op_move (.inl rfl) (ev1 rfl)) ?_
  refine walk_gr (gd_t rfl rfl rfl) rfl rfl rfl (op_leq rfl (ev2 rfl) (ev1 rfl)) ?_
  refine walk_r rfl rfl rfl (op_and rfl (ev1 rfl) (ev3 rfl id)) ?_
  refine walk_r rfl rfl rfl (dop_call [] [] [] rfl (ev1 rfl) (ec (ev1 rfl) en) rfl rfl (need_ok _ (by simp; omega)) rfl rfl rfl rfl rfl rfl) ?_
  refine walk_nil ?_
  refine dwp_seq ?_
  refine dwp_region ?_
  refine walk_r rfl rfl rfl (op_move (.inl rfl) (ev1 rfl)) ?_
  refine walk_r rfl rfl rfl (op_sub' rfl (ev1 rfl) (ev1 rfl) (fun _ => IntWalk.i32_in _ (by omega))) ?_
  refine walk_r rfl rfl rfl (op_conv' ty21 kn25 rfl (ev1 rfl) (fun _ => IntWalk.u64_in _ (by omega))) ?_
  refine walk_r rfl rfl rfl (op_move (.inr rfl) (ev1 rfl)) ?_
  refine walk_nil ?_
  refine dwp_seq ?_
  refine dwp_region ?_
  refine walk_r rfl rfl rfl (op_move (.inl rfl) (ev1 rfl)) ?_
  refine walk_r rfl rfl rfl (op_move (.inl rfl) (ev1 rfl)) ?_
  refine walk_r rfl rfl rfl (op_sub' rfl (ev1 rfl) (ev1 rfl) (fun _ => IntWalk.u64_in _ (by omega))) ?_
  refine walk_r rfl rfl rfl (op_quo' rfl (ev1 rfl) (ev1 rfl) (fun _ => ⟨by omega, by omega, IntWalk.u64_in _ (by omega)⟩)) ?_
  refine walk_r rfl rfl rfl (op_leq rfl (ev1 rfl) (ev1 rfl)) ?_
  refine walk_r rfl rfl rfl (dop_call [] [] [] rfl (ev1 rfl) (ec (ev1 rfl) en) rfl rfl (need_ok _ (by simp; omega)) rfl rfl rfl rfl rfl rfl) ?_
  refine walk_nil ?_
  refine dwp_seq ?_
  refine dwp_region ?_
  refine walk_r rfl rfl rfl (op_move (.inl rfl) (ev1 rfl)) ?_
  refine walk_r rfl rfl rfl (op_mul' rfl (ev1 rfl) (ev1 rfl) (fun _ => IntWalk.u64_in _ (by omega))) ?_
  refine walk_r rfl rfl rfl (op_move (.inl rfl) (ev1 rfl)) ?_
  refine walk_r rfl rfl rfl (op_add' rfl (ev1 rfl) (ev1 rfl) (fun _ => IntWalk.u64_in _ (by omega))) ?_
  refine walk_r rfl rfl rfl (op_move (.inr rfl) (ev1 rfl)) ?_
  refine walk_nil ?_
  refine dwp_ret ?_
  refine kend0 (rs1 rfl (rv_t rfl)) rfl ?_
  rfl
set_option maxRecDepth 4000 in
set_option maxHeartbeats 1000000 in
theorem numbers_w : DFun Tryd.prog 51 [.val (.string ⟨#[56, 46, 50, 46, 52]⟩)] [] (.val (.agg #[.int .u64 8, .int .u64 2, .int .u64 4])) [] := by
  refine dcalls_go (N := 50) 0 (by kernel_rfl) Tryd.func51 rfl rfl rfl (by simp only [fr0, Nat.zero_add, Nat.reduceAdd]; exact rfl) rfl fun s0 hs0 => ?_
  refine dwp_seq ?_
  refine dwp_holes 1 (by simp only [holes, List.cons_append, List.nil_append]; exact rfl) ?_
  refine dwp_region ?_
  refine walk_w rfl rfl rfl (op_alloc 0 rfl zr91 rfl) (by simp only [upd, List.set_cons_zero, List.set_cons_succ]; exact rfl) ?_
  refine walk_nil ?_
  refine dwp_seq ?_
  refine dwp_holes 1 (by simp only [holes, List.cons_append, List.nil_append]; exact rfl) ?_
  refine dwp_region ?_
  refine walk_w rfl rfl rfl (op_alloc 1 rfl zr91 rfl) (by simp only [upd, List.set_cons_zero, List.set_cons_succ]; exact rfl) ?_
  refine walk_nil ?_
  refine dwp_seq ?_
  refine dwp_region ?_
  refine walk_r rfl rfl rfl (op_move (.inr rfl) (ev1 rfl)) ?_
  refine walk_r rfl rfl rfl (op_move (.inr rfl) (ev1 rfl)) ?_
  refine walk_nil ?_
  refine dwp_seq ?_
  refine dwp_seq ?_
  refine dwp_holes 1 (by simp only [holes, List.cons_append, List.nil_append]; exact rfl) ?_
  refine dwp_region ?_
  refine walk_r rfl rfl rfl (op_move (.inl rfl) (ev1 rfl)) ?_
  refine walk_w rfl rfl rfl (op_rgs 2 rfl un9 (ev1 rfl) rfl) (by simp only [upd, List.set_cons_zero, List.set_cons_succ]; exact rfl) ?_
  refine walk_nil ?_
  refine dwp_block ?_
  refine dwp_dloop (dloop_step ?_)
  refine dwp_seq ?_
  refine dwp_region ?_
  refine walk_w rfl rfl rfl (op_nxs (c := 56) (wd' := 1) rfl (ev1 rfl) rfl (fun _ => by decide) (by kernel_rfl)) (by simp only [upd, List.set_cons_zero, List.set_cons_succ]; exact rfl) ?_
  refine walk_r rfl rfl rfl (op_ext rfl (ev1 rfl) rfl) ?_
  refine walk_nil ?_
  refine dwp_seq ?_
  refine dwp_if_t rfl (rfl) ?_
  refine dwp_skip ?_
  refine dwp_block ?_
  refine dwp_seq ?_
  refine dwp_region ?_
  refine walk_r rfl rfl rfl (op_ext rfl (ev1 rfl) rfl) ?_
  refine walk_r rfl rfl rfl (op_move (.inr rfl) (ev1 rfl)) ?_
  refine walk_nil ?_
  refine dwp_seq ?_
  refine dwp_seq ?_
  refine dwp_region ?_
  refine walk_r rfl rfl rfl (op_move (.inl rfl) (ev1 rfl)) ?_
  refine walk_r rfl rfl rfl (op_eql rfl (ev1 rfl) (ev1 rfl)) ?_
  refine walk_nil ?_
  refine dwp_if_f rfl (rfl) ?_
  refine dwp_skip ?_
  refine dwp_seq ?_
  refine dwp_region ?_
  refine walk_r rfl rfl rfl (op_move (.inl rfl) (ev1 rfl)) ?_
  refine walk_r rfl rfl rfl (op_eql rfl (ev1 rfl) (ev1 rfl)) ?_
  refine walk_r rfl rfl rfl (op_move (.inl rfl) (ev1 rfl)) ?_
  refine walk_gr (gd_f rfl rfl rfl) rfl rfl rfl (op_move (.inl rfl) (ev1 rfl)) ?_
  refine walk_gr (gd_f rfl rfl rfl) rfl rfl rfl (op_ixl rfl ar91 (ev1 rfl) (ev2 rfl) (fun _ => by omega)) ?_
  refine walk_gr (gd_f rfl rfl rfl) rfl rfl rfl (op_ldo rfl tb25 (ev2 rfl) rfl rfl) ?_
  refine walk_gr (gd_f rfl rfl rfl) rfl rfl rfl (op_gtr rfl (ev2 rfl) (ev1 rfl)) ?_
  refine walk_r rfl rfl rfl (op_or rfl (ev1 rfl) (ev3 rfl id)) ?_
  refine walk_r rfl rfl rfl (dop_call [] [] [] rfl (ev1 rfl) (ec (ev1 rfl) en) rfl rfl (need_ok _ rfl) rfl rfl rfl rfl rfl rfl) ?_
  refine walk_nil ?_
  refine dwp_seq ?_
  refine dwp_region ?_
  refine walk_r rfl rfl rfl (op_move (.inl rfl) (ev1 rfl)) ?_
  refine walk_r rfl rfl rfl (op_move (.inl rfl) (ev1 rfl)) ?_
  refine walk_r rfl rfl rfl (op_ixl rfl ar91 (ev1 rfl) (ev1 rfl) (fun _ => by omega)) ?_
  refine walk_r rfl rfl rfl (op_ldo rfl tb25 (ev1 rfl) rfl rfl) ?_
  refine walk_r rfl rfl rfl (op_move (.inl rfl) (ev1 rfl)) ?_
  refine walk_r rfl rfl rfl (dop_call [] [] [] rfl (ev1 rfl) (ec (ev1 rfl) (ec (ev1 rfl) en)) rfl rfl (grown_d _ _ (by decide) (by decide) (by decide) (by decide)) rfl rfl rfl rfl rfl rfl) ?_
  refine walk_r rfl rfl rfl (op_ixl rfl ar91 (ev1 rfl) (ev1 rfl) (fun _ => by omega)) ?_
  refine walk_s rfl rfl (op_st1 rfl tb25 (ev1 rfl) (ev1 rfl) rfl (Nat.le_of_ble_eq_true rfl) rfl) (by simp only [upd, List.set_cons_zero, List.set_cons_succ]; exact rfl) ?_
  refine walk_nil ?_
  refine dwp_region ?_
  refine walk_r rfl rfl rfl (op_move (.inl rfl) (ev1 rfl)) ?_
  refine walk_r rfl rfl rfl (op_add' rfl (ev1 rfl) (ev1 rfl) (fun _ => IntWalk.i64_in _ (by omega))) ?_
  refine walk_r rfl rfl rfl (op_move (.inr rfl) (ev1 rfl)) ?_
  refine walk_nil ?_
  refine dloop_step ?_
  refine dwp_seq ?_
  refine dwp_region ?_
  refine walk_w rfl rfl rfl (op_nxs (c := 46) (wd' := 1) rfl (ev1 rfl) rfl (fun _ => by decide) (by kernel_rfl)) (by simp only [upd, List.set_cons_zero, List.set_cons_succ]; exact rfl) ?_
  refine walk_r rfl rfl rfl (op_ext rfl (ev1 rfl) rfl) ?_
  refine walk_nil ?_
  refine dwp_seq ?_
  refine dwp_if_t rfl (rfl) ?_
  refine dwp_skip ?_
  refine dwp_block ?_
  refine dwp_seq ?_
  refine dwp_region ?_
  refine walk_r rfl rfl rfl (op_ext rfl (ev1 rfl) rfl) ?_
  refine walk_r rfl rfl rfl (op_move (.inr rfl) (ev1 rfl)) ?_
  refine walk_nil ?_
  refine dwp_seq ?_
  refine dwp_seq ?_
  refine dwp_region ?_
  refine walk_r rfl rfl rfl (op_move (.inl rfl) (ev1 rfl)) ?_
  refine walk_r rfl rfl rfl (op_eql rfl (ev1 rfl) (ev1 rfl)) ?_
  refine walk_nil ?_
  refine dwp_if_t rfl (rfl) ?_
  refine dwp_seq ?_
  refine dwp_region ?_
  refine walk_r rfl rfl rfl (op_move (.inl rfl) (ev1 rfl)) ?_
  refine walk_r rfl rfl rfl (op_gtr rfl (ev1 rfl) (ev1 rfl)) ?_
  refine walk_r rfl rfl rfl (op_move (.inl rfl) (ev1 rfl)) ?_
  refine walk_gr (gd_t rfl rfl rfl) rfl rfl rfl (op_move (.inl rfl) (ev1 rfl)) ?_
  refine walk_gr (gd_t rfl rfl rfl) rfl rfl rfl (op_lss rfl (ev2 rfl) (ev1 rfl)) ?_
  refine walk_r rfl rfl rfl (op_and rfl (ev1 rfl) (ev3 rfl id)) ?_
  refine walk_r rfl rfl rfl (dop_call [] [] [] rfl (ev1 rfl) (ec (ev1 rfl) en) rfl rfl (need_ok _ rfl) rfl rfl rfl rfl rfl rfl) ?_
  refine walk_nil ?_
  refine dwp_seq ?_
  refine dwp_region ?_
  refine walk_r rfl rfl rfl (op_move (.inl rfl) (ev1 rfl)) ?_
  refine walk_r rfl rfl rfl (op_add' rfl (ev1 rfl) (ev1 rfl) (fun _ => IntWalk.i64_in _ (by omega))) ?_
  refine walk_r rfl rfl rfl (op_move (.inr rfl) (ev1 rfl)) ?_
  refine walk_r rfl rfl rfl (op_move (.inr rfl) (ev1 rfl)) ?_
  refine walk_nil ?_
  refine dwp_exit ?_
  refine dloop_step ?_
  refine dwp_seq ?_
  refine dwp_region ?_
  refine walk_w rfl rfl rfl (op_nxs (c := 50) (wd' := 1) rfl (ev1 rfl) rfl (fun _ => by decide) (by kernel_rfl)) (by simp only [upd, List.set_cons_zero, List.set_cons_succ]; exact rfl) ?_
  refine walk_r rfl rfl rfl (op_ext rfl (ev1 rfl) rfl) ?_
  refine walk_nil ?_
  refine dwp_seq ?_
  refine dwp_if_t rfl (rfl) ?_
  refine dwp_skip ?_
  refine dwp_block ?_
  refine dwp_seq ?_
  refine dwp_region ?_
  refine walk_r rfl rfl rfl (op_ext rfl (ev1 rfl) rfl) ?_
  refine walk_r rfl rfl rfl (op_move (.inr rfl) (ev1 rfl)) ?_
  refine walk_nil ?_
  refine dwp_seq ?_
  refine dwp_seq ?_
  refine dwp_region ?_
  refine walk_r rfl rfl rfl (op_move (.inl rfl) (ev1 rfl)) ?_
  refine walk_r rfl rfl rfl (op_eql rfl (ev1 rfl) (ev1 rfl)) ?_
  refine walk_nil ?_
  refine dwp_if_f rfl (rfl) ?_
  refine dwp_skip ?_
  refine dwp_seq ?_
  refine dwp_region ?_
  refine walk_r rfl rfl rfl (op_move (.inl rfl) (ev1 rfl)) ?_
  refine walk_r rfl rfl rfl (op_eql rfl (ev1 rfl) (ev1 rfl)) ?_
  refine walk_r rfl rfl rfl (op_move (.inl rfl) (ev1 rfl)) ?_
  refine walk_gr (gd_f rfl rfl rfl) rfl rfl rfl (op_move (.inl rfl) (ev1 rfl)) ?_
  refine walk_gr (gd_f rfl rfl rfl) rfl rfl rfl (op_ixl rfl ar91 (ev1 rfl) (ev2 rfl) (fun _ => by omega)) ?_
  refine walk_gr (gd_f rfl rfl rfl) rfl rfl rfl (op_ldo rfl tb25 (ev2 rfl) rfl rfl) ?_
  refine walk_gr (gd_f rfl rfl rfl) rfl rfl rfl (op_gtr rfl (ev2 rfl) (ev1 rfl)) ?_
  refine walk_r rfl rfl rfl (op_or rfl (ev1 rfl) (ev3 rfl id)) ?_
  refine walk_r rfl rfl rfl (dop_call [] [] [] rfl (ev1 rfl) (ec (ev1 rfl) en) rfl rfl (need_ok _ rfl) rfl rfl rfl rfl rfl rfl) ?_
  refine walk_nil ?_
  refine dwp_seq ?_
  refine dwp_region ?_
  refine walk_r rfl rfl rfl (op_move (.inl rfl) (ev1 rfl)) ?_
  refine walk_r rfl rfl rfl (op_move (.inl rfl) (ev1 rfl)) ?_
  refine walk_r rfl rfl rfl (op_ixl rfl ar91 (ev1 rfl) (ev1 rfl) (fun _ => by omega)) ?_
  refine walk_r rfl rfl rfl (op_ldo rfl tb25 (ev1 rfl) rfl rfl) ?_
  refine walk_r rfl rfl rfl (op_move (.inl rfl) (ev1 rfl)) ?_
  refine walk_r rfl rfl rfl (dop_call [] [] [] rfl (ev1 rfl) (ec (ev1 rfl) (ec (ev1 rfl) en)) rfl rfl (grown_d _ _ (by decide) (by decide) (by decide) (by decide)) rfl rfl rfl rfl rfl rfl) ?_
  refine walk_r rfl rfl rfl (op_ixl rfl ar91 (ev1 rfl) (ev1 rfl) (fun _ => by omega)) ?_
  refine walk_s rfl rfl (op_st1 rfl tb25 (ev1 rfl) (ev1 rfl) rfl (Nat.le_of_ble_eq_true rfl) rfl) (by simp only [upd, List.set_cons_zero, List.set_cons_succ]; exact rfl) ?_
  refine walk_nil ?_
  refine dwp_region ?_
  refine walk_r rfl rfl rfl (op_move (.inl rfl) (ev1 rfl)) ?_
  refine walk_r rfl rfl rfl (op_add' rfl (ev1 rfl) (ev1 rfl) (fun _ => IntWalk.i64_in _ (by omega))) ?_
  refine walk_r rfl rfl rfl (op_move (.inr rfl) (ev1 rfl)) ?_
  refine walk_nil ?_
  refine dloop_step ?_
  refine dwp_seq ?_
  refine dwp_region ?_
  refine walk_w rfl rfl rfl (op_nxs (c := 46) (wd' := 1) rfl (ev1 rfl) rfl (fun _ => by decide) (by kernel_rfl)) (by simp only [upd, List.set_cons_zero, List.set_cons_succ]; exact rfl) ?_
  refine walk_r rfl rfl rfl (op_ext rfl (ev1 rfl) rfl) ?_
  refine walk_nil ?_
  refine dwp_seq ?_
  refine dwp_if_t rfl (rfl) ?_
  refine dwp_skip ?_
  refine dwp_block ?_
  refine dwp_seq ?_
  refine dwp_region ?_
  refine walk_r rfl rfl rfl (op_ext rfl (ev1 rfl) rfl) ?_
  refine walk_r rfl rfl rfl (op_move (.inr rfl) (ev1 rfl)) ?_
  refine walk_nil ?_
  refine dwp_seq ?_
  refine dwp_seq ?_
  refine dwp_region ?_
  refine walk_r rfl rfl rfl (op_move (.inl rfl) (ev1 rfl)) ?_
  refine walk_r rfl rfl rfl (op_eql rfl (ev1 rfl) (ev1 rfl)) ?_
  refine walk_nil ?_
  refine dwp_if_t rfl (rfl) ?_
  refine dwp_seq ?_
  refine dwp_region ?_
  refine walk_r rfl rfl rfl (op_move (.inl rfl) (ev1 rfl)) ?_
  refine walk_r rfl rfl rfl (op_gtr rfl (ev1 rfl) (ev1 rfl)) ?_
  refine walk_r rfl rfl rfl (op_move (.inl rfl) (ev1 rfl)) ?_
  refine walk_gr (gd_t rfl rfl rfl) rfl rfl rfl (op_move (.inl rfl) (ev1 rfl)) ?_
  refine walk_gr (gd_t rfl rfl rfl) rfl rfl rfl (op_lss rfl (ev2 rfl) (ev1 rfl)) ?_
  refine walk_r rfl rfl rfl (op_and rfl (ev1 rfl) (ev3 rfl id)) ?_
  refine walk_r rfl rfl rfl (dop_call [] [] [] rfl (ev1 rfl) (ec (ev1 rfl) en) rfl rfl (need_ok _ rfl) rfl rfl rfl rfl rfl rfl) ?_
  refine walk_nil ?_
  refine dwp_seq ?_
  refine dwp_region ?_
  refine walk_r rfl rfl rfl (op_move (.inl rfl) (ev1 rfl)) ?_
  refine walk_r rfl rfl rfl (op_add' rfl (ev1 rfl) (ev1 rfl) (fun _ => IntWalk.i64_in _ (by omega))) ?_
  refine walk_r rfl rfl rfl (op_move (.inr rfl) (ev1 rfl)) ?_
  refine walk_r rfl rfl rfl (op_move (.inr rfl) (ev1 rfl)) ?_
  refine walk_nil ?_
  refine dwp_exit ?_
  refine dloop_step ?_
  refine dwp_seq ?_
  refine dwp_region ?_
  refine walk_w rfl rfl rfl (op_nxs (c := 52) (wd' := 1) rfl (ev1 rfl) rfl (fun _ => by decide) (by kernel_rfl)) (by simp only [upd, List.set_cons_zero, List.set_cons_succ]; exact rfl) ?_
  refine walk_r rfl rfl rfl (op_ext rfl (ev1 rfl) rfl) ?_
  refine walk_nil ?_
  refine dwp_seq ?_
  refine dwp_if_t rfl (rfl) ?_
  refine dwp_skip ?_
  refine dwp_block ?_
  refine dwp_seq ?_
  refine dwp_region ?_
  refine walk_r rfl rfl rfl (op_ext rfl (ev1 rfl) rfl) ?_
  refine walk_r rfl rfl rfl (op_move (.inr rfl) (ev1 rfl)) ?_
  refine walk_nil ?_
  refine dwp_seq ?_
  refine dwp_seq ?_
  refine dwp_region ?_
  refine walk_r rfl rfl rfl (op_move (.inl rfl) (ev1 rfl)) ?_
  refine walk_r rfl rfl rfl (op_eql rfl (ev1 rfl) (ev1 rfl)) ?_
  refine walk_nil ?_
  refine dwp_if_f rfl (rfl) ?_
  refine dwp_skip ?_
  refine dwp_seq ?_
  refine dwp_region ?_
  refine walk_r rfl rfl rfl (op_move (.inl rfl) (ev1 rfl)) ?_
  refine walk_r rfl rfl rfl (op_eql rfl (ev1 rfl) (ev1 rfl)) ?_
  refine walk_r rfl rfl rfl (op_move (.inl rfl) (ev1 rfl)) ?_
  refine walk_gr (gd_f rfl rfl rfl) rfl rfl rfl (op_move (.inl rfl) (ev1 rfl)) ?_
  refine walk_gr (gd_f rfl rfl rfl) rfl rfl rfl (op_ixl rfl ar91 (ev1 rfl) (ev2 rfl) (fun _ => by omega)) ?_
  refine walk_gr (gd_f rfl rfl rfl) rfl rfl rfl (op_ldo rfl tb25 (ev2 rfl) rfl rfl) ?_
  refine walk_gr (gd_f rfl rfl rfl) rfl rfl rfl (op_gtr rfl (ev2 rfl) (ev1 rfl)) ?_
  refine walk_r rfl rfl rfl (op_or rfl (ev1 rfl) (ev3 rfl id)) ?_
  refine walk_r rfl rfl rfl (dop_call [] [] [] rfl (ev1 rfl) (ec (ev1 rfl) en) rfl rfl (need_ok _ rfl) rfl rfl rfl rfl rfl rfl) ?_
  refine walk_nil ?_
  refine dwp_seq ?_
  refine dwp_region ?_
  refine walk_r rfl rfl rfl (op_move (.inl rfl) (ev1 rfl)) ?_
  refine walk_r rfl rfl rfl (op_move (.inl rfl) (ev1 rfl)) ?_
  refine walk_r rfl rfl rfl (op_ixl rfl ar91 (ev1 rfl) (ev1 rfl) (fun _ => by omega)) ?_
  refine walk_r rfl rfl rfl (op_ldo rfl tb25 (ev1 rfl) rfl rfl) ?_
  refine walk_r rfl rfl rfl (op_move (.inl rfl) (ev1 rfl)) ?_
  refine walk_r rfl rfl rfl (dop_call [] [] [] rfl (ev1 rfl) (ec (ev1 rfl) (ec (ev1 rfl) en)) rfl rfl (grown_d _ _ (by decide) (by decide) (by decide) (by decide)) rfl rfl rfl rfl rfl rfl) ?_
  refine walk_r rfl rfl rfl (op_ixl rfl ar91 (ev1 rfl) (ev1 rfl) (fun _ => by omega)) ?_
  refine walk_s rfl rfl (op_st1 rfl tb25 (ev1 rfl) (ev1 rfl) rfl (Nat.le_of_ble_eq_true rfl) rfl) (by simp only [upd, List.set_cons_zero, List.set_cons_succ]; exact rfl) ?_
  refine walk_nil ?_
  refine dwp_region ?_
  refine walk_r rfl rfl rfl (op_move (.inl rfl) (ev1 rfl)) ?_
  refine walk_r rfl rfl rfl (op_add' rfl (ev1 rfl) (ev1 rfl) (fun _ => IntWalk.i64_in _ (by omega))) ?_
  refine walk_r rfl rfl rfl (op_move (.inr rfl) (ev1 rfl)) ?_
  refine walk_nil ?_
  refine dloop_step ?_
  refine dwp_seq ?_
  refine dwp_region ?_
  refine walk_r rfl rfl rfl (op_nxe rfl (ev1 rfl) rfl (fun _ => by decide)) ?_
  refine walk_r rfl rfl rfl (op_ext rfl (ev1 rfl) rfl) ?_
  refine walk_nil ?_
  refine dwp_seq ?_
  refine dwp_if_f rfl (rfl) ?_
  refine dwp_exit ?_
  refine dwp_seq ?_
  refine dwp_region ?_
  refine walk_r rfl rfl rfl (op_move (.inl rfl) (ev1 rfl)) ?_
  refine walk_r rfl rfl rfl (op_eql rfl (ev1 rfl) (ev1 rfl)) ?_
  refine walk_r rfl rfl rfl (op_move (.inl rfl) (ev1 rfl)) ?_
  refine walk_gr (gd_t rfl rfl rfl) rfl rfl rfl (op_move (.inl rfl) (ev1 rfl)) ?_
  refine walk_gr (gd_t rfl rfl rfl) rfl rfl rfl (op_gtr rfl (ev2 rfl) (ev1 rfl)) ?_
  refine walk_r rfl rfl rfl (op_and rfl (ev1 rfl) (ev3 rfl id)) ?_
  refine walk_r rfl rfl rfl (dop_call [] [] [] rfl (ev1 rfl) (ec (ev1 rfl) en) rfl rfl (need_ok _ rfl) rfl rfl rfl rfl rfl rfl) ?_
  refine walk_nil ?_
  refine dwp_seq ?_
  refine dwp_region ?_
  refine walk_r rfl rfl rfl (op_ldw rfl tb91 (ev1 rfl) rfl rfl) ?_
  refine walk_s rfl rfl (op_stwa rfl tb91 (ev1 rfl) (ev1 rfl) rfl rfl rfl rfl) (by simp only [upd, List.set_cons_zero, List.set_cons_succ]; exact rfl) ?_
  refine walk_nil ?_
  refine dwp_ret ?_
  refine kend0 (rs1 rfl (rv_w tb91 rfl rfl rfl)) rfl ?_
  rfl
set_option maxRecDepth 4000 in
set_option maxHeartbeats 1000000 in
theorem read1_idle (L : List Value) (e : Int) : DDef Tryd.prog 50 [.loc 0 0, .loc 1 0] [.flat 27 L, .flat 28 [.int .i64 e]] none none [.flat 27 L, .flat 28 [.int .i64 e]] := by
  refine ddef_go (dr := .tup []) (t := 5) (N := 11) 2 (by kernel_rfl) Tryd.func50 rfl rfl rfl (by simp only [fr0, Nat.zero_add, Nat.reduceAdd]; exact rfl) rfl rfl rfl rfl rfl fun s0 hs0 => ?_
  refine walk_hole ?_
  simp only [List.cons_append, List.nil_append]
  refine walk_r rfl rfl rfl (op_tan rfl ni89 zv89 (ev1 rfl)) ?_
  refine walk_r rfl rfl rfl (op_move (.inl rfl) (ev1 rfl)) ?_
  refine walk_r rfl rfl rfl (op_ext rfl (ev1 rfl) rfl) ?_
  refine walk_r rfl rfl rfl (op_ext rfl (ev1 rfl) rfl) ?_
  refine walk_w rfl rfl rfl (op_alloc 2 rfl zr89 rfl) (by simp only [upd, List.set_cons_zero, List.set_cons_succ]; exact rfl) ?_
  refine walk_s rfl rfl (op_stwa rfl tb89 (ev1 rfl) (ev1 rfl) rfl rfl rfl rfl) (by simp only [upd, List.set_cons_zero, List.set_cons_succ]; exact rfl) ?_
  refine walk_r rfl rfl rfl (op_move (.inr rfl) (ev1 rfl)) ?_
  refine walk_nil ?_
  refine dwp_seq ?_
  refine dwp_region ?_
  refine walk_r rfl rfl rfl (op_move (.inl rfl) (ev1 rfl)) ?_
  refine walk_nil ?_
  refine dwp_if_f rfl (rfl) ?_
  refine dwp_skip ?_
  refine kend [0, 1] (res_none rfl) rfl rfl ?_ ⟨rfl, rfl, trivial⟩
  rfl
set_option maxRecDepth 4000 in
set_option maxHeartbeats 1000000 in
theorem read_w : DFun Tryd.prog 33 [.val (.string ⟨#[56, 46, 50, 46, 52]⟩)] [] (.tup [idD ⟨8, 2, 4⟩, .val (.int .i64 0)]) [] := by
  refine dcalls_body (N := 25) 0 (by kernel_rfl) Tryd.func33 rfl rfl rfl (by simp only [fr0, Nat.zero_add, Nat.reduceAdd]; exact rfl) rfl fun s0 hs0 => ?_
  refine dbody_seq rfl hs0 ?_
  refine dwp_holes 2 (by simp only [holes, List.cons_append, List.nil_append]; exact rfl) ?_
  refine dwp_region ?_
  refine walk_w rfl rfl rfl (op_alloc 0 rfl zr27 rfl) (by simp only [upd, List.set_cons_zero, List.set_cons_succ]; exact rfl) ?_
  refine walk_w rfl rfl rfl (op_alloc 1 rfl zr28 rfl) (by simp only [upd, List.set_cons_zero, List.set_cons_succ]; exact rfl) ?_
  refine walk_nil ?_
  refine dbody_defer (l0 := [_]) rfl rfl rfl rfl rfl hs0 ?_
  refine walk_r rfl rfl rfl (op_mkf rfl en (ec (ev1 rfl) (ec (ev1 rfl) en))) ?_
  refine walk_nil ⟨_, _, _, 2, ev1 rfl, Nat.le_trans hs0 (by decide), rfl, ?_⟩
  have hs1 : s0.M.length ≤ 2 := Nat.le_trans hs0 (by decide)
  refine dbody_end rfl hs0 ?_
  refine dwp_seq ?_
  refine dwp_holes 1 (by simp only [holes, List.cons_append, List.nil_append]; exact rfl) ?_
  refine dwp_region ?_
  refine walk_r rfl rfl rfl (op_move (.inl rfl) (ev1 rfl)) ?_
  refine walk_r rfl rfl rfl (dop_call [] [] [] rfl (ev1 rfl) (ec (ev1 rfl) en) rfl rfl (numbers_w) rfl rfl rfl rfl rfl rfl) ?_
  refine walk_w rfl rfl rfl (op_alloc 2 rfl zr91 rfl) (by simp only [upd, List.set_cons_zero, List.set_cons_succ]; exact rfl) ?_
  refine walk_s rfl rfl (op_stwa rfl tb91 (ev1 rfl) (ev1 rfl) rfl rfl rfl rfl) (by simp only [upd, List.set_cons_zero, List.set_cons_succ]; exact rfl) ?_
  refine walk_nil ?_
  refine dwp_seq ?_
  refine dwp_region ?_
  refine walk_r rfl rfl rfl (op_ixl rfl ar91 (ev1 rfl) (ev1 rfl) (fun _ => by omega)) ?_
  refine walk_r rfl rfl rfl (op_ldo rfl tb25 (ev1 rfl) rfl rfl) ?_
  refine walk_r rfl rfl rfl (op_leq rfl (ev1 rfl) (ev1 rfl)) ?_
  refine walk_r rfl rfl rfl (dop_call [] [] [] rfl (ev1 rfl) (ec (ev1 rfl) en) rfl rfl (need_ok _ rfl) rfl rfl rfl rfl rfl rfl) ?_
  refine walk_nil ?_
  refine dwp_seq ?_
  refine dwp_region ?_
  refine walk_r rfl rfl rfl (op_ixl rfl ar91 (ev1 rfl) (ev1 rfl) (fun _ => by omega)) ?_
  refine walk_r rfl rfl rfl (op_ldo rfl tb25 (ev1 rfl) rfl rfl) ?_
  refine walk_r rfl rfl rfl (op_ixl rfl ar91 (ev1 rfl) (ev1 rfl) (fun _ => by omega)) ?_
  refine walk_r rfl rfl rfl (op_ldo rfl tb25 (ev1 rfl) rfl rfl) ?_
  refine walk_r rfl rfl rfl (op_conv' ty25 kn3 rfl (ev1 rfl) (fun _ => IntWalk.i64_in _ (by omega))) ?_
  refine walk_r rfl rfl rfl (op_ixl rfl ar91 (ev1 rfl) (ev1 rfl) (fun _ => by omega)) ?_
  refine walk_r rfl rfl rfl (op_ldo rfl tb25 (ev1 rfl) rfl rfl) ?_
  refine walk_r rfl rfl rfl (op_build (ps := [(0, .tmp 13), (1, .tmp 16), (2, .tmp 18)]) rfl fl27 zr27 (vc (ev1 rfl) (vc (ev1 rfl) (vc (ev1 rfl) vn))) rfl rfl) ?_
  refine walk_s rfl rfl (op_stwa rfl tb27 (ev1 rfl) (ev1 rfl) rfl rfl rfl rfl) (by simp only [upd, List.set_cons_zero, List.set_cons_succ]; exact rfl) ?_
  refine walk_nil ?_
  refine dwp_seq ?_
  refine dwp_region ?_
  refine walk_r rfl rfl rfl (op_ldw rfl tb27 (ev1 rfl) rfl rfl) ?_
  refine walk_r rfl rfl rfl (dop_call [] [] [] rfl (ev1 rfl) (ec (ev1 rfl) en) rfl rfl (check_d ⟨8, 2, 4⟩) rfl rfl rfl rfl rfl rfl) ?_
  refine walk_r rfl rfl rfl (op_eql rfl (ev1 rfl) (ev1 rfl)) ?_
  refine walk_r rfl rfl rfl (dop_call [] [] [] rfl (ev1 rfl) (ec (ev1 rfl) en) rfl rfl (need_ok _ rfl) rfl rfl rfl rfl rfl rfl) ?_
  refine walk_nil ?_
  refine dwp_seq ?_
  refine dwp_region ?_
  refine walk_r rfl rfl rfl (op_ldw rfl tb27 (ev1 rfl) rfl rfl) ?_
  refine walk_s rfl rfl (op_stwa rfl tb27 (ev1 rfl) (ev1 rfl) rfl rfl rfl rfl) (by simp only [upd, List.set_cons_zero, List.set_cons_succ]; exact rfl) ?_
  refine walk_s rfl rfl (op_stwi rfl tb28 (ev1 rfl) (ev1 rfl) rfl) (by simp only [upd, List.set_cons_zero, List.set_cons_succ]; exact rfl) ?_
  refine walk_nil ?_
  refine dwp_ret ?_
  refine kdef (dturn_idle [0, 1] [] rfl rfl (read1_idle _ _) rfl rfl rfl rfl rfl) ?_
  refine kend0 (rs2 rfl (rv_w tb27 rfl rfl rfl) (rv_1 tb28 rfl rfl rfl)) rfl ?_
  rfl
theorem sortedZ_d (l : List I3) (h : l.length < 20) : DFun Tryd.prog 16 [rowD l] [] (rowD (isortC l)) [] := by
  show DFun _ _ _ _ (.slf 3 (isortC l).length ((isortC l).flatMap idc)) _
  rw [isortC_len]
  exact freeze (sorted_d l h) rfl
end Go.Proofs.YtaekkjhpdendoaaDoor

namespace Go.Proofs.YtaekkjhpdendoaaDoor
set_option linter.unusedVariables false
set_option linter.unusedSimpArgs false
open Go.RowKit
def u6 (x : Nat) : List Value := [.int .u64 (x : Int)]
theorem u6_len (l : List Nat) : (l.flatMap u6).length = l.length := by have := flat_len (en := u6) (sz := 1) (fun _ => rfl) l; omega
/-- the numbers of a text that points part -/
def mach : List Nat → List Nat → Nat → Nat → Option (List Nat)
  | [], ns, k, d => if k = 2 ∧ 0 < d then some ns else none
  | b :: r, ns, k, d => if b = 46 then (if 0 < d ∧ k < 2 then mach r ns (k + 1) 0 else none)
    else if (d = 0 ∨ 0 < ns.getD k 0) ∧ (48 ≤ b ∧ b ≤ 57) ∧ ns.getD k 0 ≤ (4611686018427387904 - (b - 48)) / 10 then mach r (ns.set k (10 * ns.getD k 0 + (b - 48))) k (d + 1) else none
theorem mach_end {ns R : List Nat} {k d : Nat} (h : mach [] ns k d = some R) : (k = 2 ∧ 0 < d) ∧ ns = R := by
  unfold mach at h
  split at h
  · rename_i g; exact ⟨g, Option.some.inj h⟩
  · cases h
theorem mach_end_no {ns : List Nat} {k d : Nat} (h : mach [] ns k d = none) : ¬ (k = 2 ∧ 0 < d) := by
  unfold mach at h
  split at h
  · cases h
  · assumption
theorem mach_dot {r ns R : List Nat} {k d : Nat} (h : mach (46 :: r) ns k d = some R) : (0 < d ∧ k < 2) ∧ mach r ns (k + 1) 0 = some R := by
  unfold mach at h
  rw [if_pos rfl] at h
  split at h
  · rename_i g; exact ⟨g, h⟩
  · cases h
theorem mach_num {r ns R : List Nat} {b k d : Nat} (hb : b ≠ 46) (h : mach (b :: r) ns k d = some R) : ((d = 0 ∨ 0 < ns.getD k 0) ∧ (48 ≤ b ∧ b ≤ 57) ∧ ns.getD k 0 ≤ (4611686018427387904 - (b - 48)) / 10) ∧ mach r (ns.set k (10 * ns.getD k 0 + (b - 48))) k (d + 1) = some R := by
  unfold mach at h
  rw [if_neg hb] at h
  split at h
  · rename_i g; exact ⟨g, h⟩
  · cases h
theorem mach_dot_no {r ns : List Nat} {k d : Nat} (h : mach (46 :: r) ns k d = none) (g : 0 < d ∧ k < 2) : mach r ns (k + 1) 0 = none := by
  unfold mach at h
  rw [if_pos rfl, if_pos g] at h
  exact h
theorem mach_num_no {r ns : List Nat} {b k d : Nat} (hb : b ≠ 46) (h : mach (b :: r) ns k d = none) (g : (d = 0 ∨ 0 < ns.getD k 0) ∧ (48 ≤ b ∧ b ≤ 57) ∧ ns.getD k 0 ≤ (4611686018427387904 - (b - 48)) / 10) : mach r (ns.set k (10 * ns.getD k 0 + (b - 48))) k (d + 1) = none := by
  unfold mach at h
  rw [if_neg hb, if_pos g] at h
  exact h
theorem mach_lo {r ns R : List Nat} {b k d : Nat} (h : mach (b :: r) ns k d = some R) : b < 128 := by
  by_cases hb : b = 46
  · omega
  · have := (mach_num hb h).1.2.1; omega
theorem drop_at {l : List Nat} {q : Nat} (h : q < l.length) : l.drop q = l.getD q 0 :: l.drop (q + 1) := by
  rw [List.drop_eq_getElem_cons h, List.getD_eq_getElem?_getD, List.getElem?_eq_getElem h]
  rfl
theorem drop_end {l : List Nat} {q : Nat} (h : ¬ q < l.length) : l.drop q = [] := List.drop_of_length_le (by omega)
theorem grownN (x b : Nat) (h1 : 48 ≤ b) (h2 : b ≤ 57) (h4 : x ≤ (4611686018427387904 - (b - 48)) / 10) : DFun Tryd.prog 62 [.val (.int .u64 (x : Int)), .val (.int .i32 (b : Int))] [] (.val (.int .u64 ((10 * x + (b - 48) : Nat) : Int))) [] := by
  rw [show ((10 * x + (b - 48) : Nat) : Int) = 10 * (x : Int) + ((b : Int) - 48) by omega]
  exact grown_d x b (by omega) (by omega) (by omega) (by omega)
theorem or_dig {d x : Nat} (h : d = 0 ∨ 0 < x) : (((d : Int) == 0) || decide ((0 : Int) < (x : Int))) = true := by
  rcases h with h | h <;> simp [h]
theorem needB (b : Bool) (h : b = true) : DFun Tryd.prog 52 [.val (.bool b)] [] (.tup []) [] := need_ok b h
set_option maxRecDepth 4000 in
set_option maxHeartbeats 1000000 in
theorem numbers_d (l R : List Nat) (hl : isB l) (hll : l.length ≤ 9223372036854775807) (hR : mach l [0, 0, 0] 0 0 = some R) : DFun Tryd.prog 51 [.val (.string (strN l))] [] (.val (.agg (R.flatMap u6).toArray)) [] := by
  refine dcalls_go (N := 50) 0 (by kernel_rfl) Tryd.func51 rfl rfl rfl (by simp only [fr0, Nat.zero_add, Nat.reduceAdd]; exact rfl) rfl fun s0 hs0 => ?_
  refine dwp_seq ?_
  refine dwp_holes 1 (by simp only [holes, List.cons_append, List.nil_append]; exact rfl) ?_
  refine dwp_region ?_
  refine walk_w rfl rfl rfl (op_alloc 0 rfl zr91 rfl) (by simp only [upd, List.set_cons_zero, List.set_cons_succ]; exact rfl) ?_
  refine walk_nil ?_
  refine dwp_seq ?_
  refine dwp_holes 1 (by simp only [holes, List.cons_append, List.nil_append]; exact rfl) ?_
  refine dwp_region ?_
  refine walk_w rfl rfl rfl (op_alloc 1 rfl zr91 rfl) (by simp only [upd, List.set_cons_zero, List.set_cons_succ]; exact rfl) ?_
  refine walk_nil ?_
  refine dwp_seq ?_
  refine dwp_region ?_
  refine walk_r rfl rfl rfl (op_move (.inr rfl) (ev1 rfl)) ?_
  refine walk_r rfl rfl rfl (op_move (.inr rfl) (ev1 rfl)) ?_
  refine walk_nil ?_
  refine dwp_seq ?_
  refine dwp_seq ?_
  refine dwp_holes 1 (by simp only [holes, List.cons_append, List.nil_append]; exact rfl) ?_
  refine dwp_region ?_
  refine walk_r rfl rfl rfl (op_move (.inl rfl) (ev1 rfl)) ?_
  refine walk_w rfl rfl rfl (op_rgs 2 rfl un9 (ev1 rfl) rfl) (by simp only [upd, List.set_cons_zero, List.set_cons_succ]; exact rfl) ?_
  refine walk_nil ?_
  refine dwp_block ?_
  refine dwp_loopS ⟨hs0, rfl⟩ (α := Nat × List Nat × Nat × Nat) (fun x => [(4, .val (.int .i64 (x.2.2.1 : Int))), (5, .val (.int .i64 (x.2.2.2 : Int)))]) [(2, _), (3, _), (9, _)] (fun x => [(1, .flat 91 (x.2.1.flatMap u6)), (2, .obj (.stringIter (strN l) x.1))]) [_, .hole, .hole] (fun x => x.1 ≤ l.length ∧ x.2.1.length = 3 ∧ x.2.2.1 ≤ 2 ∧ x.2.2.2 ≤ x.1 ∧ mach (l.drop x.1) x.2.1 x.2.2.1 x.2.2.2 = some R) (fun x => l.length - x.1) (0, [0, 0, 0], 0, 0) [0, 1, 2] (⟨Nat.zero_le _, rfl, by decide, Nat.le_refl _, hR⟩) rfl ⟨rfl, rfl, rfl, trivial⟩ ⟨rfl, rfl, trivial⟩ ⟨rfl, rfl, rfl, trivial⟩ ?_
  intro x hx
  simp only [upd, List.set_cons_zero, List.set_cons_succ, List.cons_append, List.nil_append]
  obtain ⟨q, ns, k, d⟩ := x
  obtain ⟨hq, hns, hk, hd, hm⟩ := hx
  dsimp only at hq hns hk hd hm ⊢
  refine dwp_seq ?_
  by_cases hql : q < l.length
  · rw [drop_at hql] at hm
    have hlo := mach_lo hm
    refine dwp_region ?_
    refine walk_w rfl rfl rfl (op_nxlo hl hql hlo rfl (ev1 rfl) rfl) (by simp only [upd, List.set_cons_zero, List.set_cons_succ]; exact rfl) ?_
    refine walk_r rfl rfl rfl (op_ext rfl (ev1 rfl) rfl) ?_
    refine walk_nil ?_
    refine dwp_seq ?_
    refine dwp_if_t rfl (rfl) ?_
    refine dwp_skip ?_
    refine dwp_block ?_
    refine dwp_seq ?_
    refine dwp_region ?_
    refine walk_r rfl rfl rfl (op_ext rfl (ev1 rfl) rfl) ?_
    refine walk_r rfl rfl rfl (op_move (.inr rfl) (ev1 rfl)) ?_
    refine walk_nil ?_
    refine dwp_seq ?_
    refine dwp_seq ?_
    refine dwp_region ?_
    refine walk_r rfl rfl rfl (op_move (.inl rfl) (ev1 rfl)) ?_
    refine walk_r rfl rfl rfl (op_eql rfl (ev1 rfl) (ev1 rfl)) ?_
    refine walk_nil ?_
    refine dwp_cond rfl (fun c14 => ?_) (fun c14 => ?_)
    · have hb : l.getD q 0 = 46 := by have := eq_of_beq c14; omega
      rw [hb] at hm
      obtain ⟨g1, g2⟩ := mach_dot hm
      refine dwp_seq ?_
      refine dwp_region ?_
      refine walk_r rfl rfl rfl (op_move (.inl rfl) (ev1 rfl)) ?_
      refine walk_r rfl rfl rfl (op_gtr rfl (ev1 rfl) (ev1 rfl)) ?_
      refine walk_r rfl rfl rfl (op_move (.inl rfl) (ev1 rfl)) ?_
      refine walk_gr (gd_t rfl rfl rfl) rfl rfl rfl (op_move (.inl rfl) (ev1 rfl)) ?_
      refine walk_gr (gd_t rfl rfl rfl) rfl rfl rfl (op_lss rfl (ev2 rfl) (ev1 rfl)) ?_
      refine walk_r rfl rfl rfl (op_and rfl (ev1 rfl) (ev3 rfl id)) ?_
      refine walk_r rfl rfl rfl (dop_call [] [] [] rfl (ev1 rfl) (ec (ev1 rfl) en) rfl rfl (needB _ (by simp; omega)) rfl rfl rfl rfl rfl rfl) ?_
      refine walk_nil ?_
      refine dwp_seq ?_
      refine dwp_region ?_
      refine walk_r rfl rfl rfl (op_move (.inl rfl) (ev1 rfl)) ?_
      refine walk_r rfl rfl rfl (op_add' rfl (ev1 rfl) (ev1 rfl) (fun _ => IntWalk.i64_in _ (by omega))) ?_
      refine walk_r rfl rfl rfl (op_move (.inr rfl) (ev1 rfl)) ?_
      refine walk_r rfl rfl rfl (op_move (.inr rfl) (ev1 rfl)) ?_
      refine walk_nil ?_
      refine dwp_exit ?_
      refine ⟨(q + 1, ns, k + 1, 0), [0, 1, 2], ⟨by omega, hns, by dsimp only; omega, Nat.zero_le _, g2⟩, by simp only []; omega, rfl, ⟨rfl, rfl, rfl, rfl, rfl, trivial⟩, ⟨rfl, rfl, rfl, trivial⟩⟩
    · have hb : l.getD q 0 ≠ 46 := fun e => by rw [e] at c14; exact absurd c14 (by decide)
      obtain ⟨⟨g1, ⟨g3, g4⟩, g5⟩, g2⟩ := mach_num hb hm
      refine dwp_skip ?_
      refine dwp_seq ?_
      refine dwp_region ?_
      refine walk_r rfl rfl rfl (op_move (.inl rfl) (ev1 rfl)) ?_
      refine walk_r rfl rfl rfl (op_eql rfl (ev1 rfl) (ev1 rfl)) ?_
      refine walk_r rfl rfl rfl (op_move (.inl rfl) (ev1 rfl)) ?_
      refine walk_gr (gd_f rfl rfl rfl) rfl rfl rfl (op_move (.inl rfl) (ev1 rfl)) ?_
      refine walk_gr (gd_f rfl rfl rfl) rfl rfl rfl (op_ixfr (j := k) rfl ar91 (ev1 rfl) (ev2 rfl) (fun hp => by first | omega | (simp at hp; omega)) (fun hp => by first | omega | (simp at hp; omega))) ?_
      refine walk_gr (gd_f rfl rfl rfl) rfl rfl rfl (op_ldf1 (0) rfl tb25 (ev2 rfl) rfl (fun _ => rfl) (by decide) (fun _ => by omega) rfl) ?_
      refine walk_gr (gd_f rfl rfl rfl) rfl rfl rfl (op_gtr rfl (ev2 rfl) (ev1 rfl)) ?_
      refine walk_r rfl rfl rfl (op_or rfl (ev1 rfl) (ev3 rfl id)) ?_
      refine walk_r rfl rfl rfl (dop_call [] [] [] rfl (ev1 rfl) (ec (ev1 rfl) en) rfl rfl (needB _ (or_dig g1)) rfl rfl rfl rfl rfl rfl) ?_
      refine walk_nil ?_
      refine dwp_seq ?_
      refine dwp_region ?_
      refine walk_r rfl rfl rfl (op_move (.inl rfl) (ev1 rfl)) ?_
      refine walk_r rfl rfl rfl (op_move (.inl rfl) (ev1 rfl)) ?_
      refine walk_r rfl rfl rfl (op_ixfr (j := k) rfl ar91 (ev1 rfl) (ev1 rfl) (fun _ => by omega) (fun _ => by omega)) ?_
      refine walk_r rfl rfl rfl (op_ldf1 (0) rfl tb25 (ev1 rfl) rfl (fun _ => rfl) (by decide) (fun _ => by omega) rfl) ?_
      refine walk_r rfl rfl rfl (op_move (.inl rfl) (ev1 rfl)) ?_
      refine walk_r rfl rfl rfl (dop_call [] [] [] rfl (ev1 rfl) (ec (ev1 rfl) (ec (ev1 rfl) en)) rfl rfl (grownN _ _ g3 g4 g5) rfl rfl rfl rfl rfl rfl) ?_
      refine walk_r rfl rfl rfl (op_ixfr (j := k) rfl ar91 (ev1 rfl) (ev1 rfl) (fun _ => by omega) (fun _ => by omega)) ?_
      refine walk_s rfl rfl (op_stfr (q := 10 * ns.getD k 0 + (l.getD q 0 - 48)) rfl tb25 (ev1 rfl) (ev1 rfl) rfl rfl rfl (fun _ => rfl) (fun _ => by omega)) (by simp only [upd, List.set_cons_zero, List.set_cons_succ]; exact rfl) ?_
      refine walk_nil ?_
      refine dwp_region ?_
      refine walk_r rfl rfl rfl (op_move (.inl rfl) (ev1 rfl)) ?_
      refine walk_r rfl rfl rfl (op_add' rfl (ev1 rfl) (ev1 rfl) (fun _ => IntWalk.i64_in _ (by omega))) ?_
      refine walk_r rfl rfl rfl (op_move (.inr rfl) (ev1 rfl)) ?_
      refine walk_nil ?_
      refine ⟨(q + 1, ns.set k (10 * ns.getD k 0 + (l.getD q 0 - 48)), k, d + 1), [0, 1, 2], ⟨by omega, by simp [hns], hk, by dsimp only; omega, g2⟩, by simp only []; omega, rfl, ⟨rfl, rfl, rfl, rfl, rfl, trivial⟩, ⟨rfl, rfl, rfl, trivial⟩⟩
  · rw [drop_end hql] at hm
    obtain ⟨⟨g1, g2⟩, rfl⟩ := mach_end hm
    refine dwp_region ?_
    refine walk_r rfl rfl rfl (op_nxn rfl (ev1 rfl) rfl (fun _ => by omega)) ?_
    refine walk_r rfl rfl rfl (op_ext rfl (ev1 rfl) rfl) ?_
    refine walk_nil ?_
    refine dwp_seq ?_
    refine dwp_if_f rfl (rfl) ?_
    refine dwp_exit ?_
    refine dwp_seq ?_
    refine dwp_region ?_
    refine walk_r rfl rfl rfl (op_move (.inl rfl) (ev1 rfl)) ?_
    refine walk_r rfl rfl rfl (op_eql rfl (ev1 rfl) (ev1 rfl)) ?_
    refine walk_r rfl rfl rfl (op_move (.inl rfl) (ev1 rfl)) ?_
    refine walk_gr (gd_t rfl rfl rfl) rfl rfl rfl (op_move (.inl rfl) (ev1 rfl)) ?_
    refine walk_gr (gd_t rfl rfl rfl) rfl rfl rfl (op_gtr rfl (ev2 rfl) (ev1 rfl)) ?_
    refine walk_r rfl rfl rfl (op_and rfl (ev1 rfl) (ev3 rfl id)) ?_
    refine walk_r rfl rfl rfl (dop_call [] [] [] rfl (ev1 rfl) (ec (ev1 rfl) en) rfl rfl (needB _ (by simp; omega)) rfl rfl rfl rfl rfl rfl) ?_
    refine walk_nil ?_
    refine dwp_seq ?_
    refine dwp_region ?_
    refine walk_r rfl rfl rfl (op_ldw rfl tb91 (ev1 rfl) rfl (by rw [u6_len]; exact hns)) ?_
    refine walk_s rfl rfl (op_stwa rfl tb91 (ev1 rfl) (ev1 rfl) rfl (by rw [u6_len]; exact hns) (flat_oc (fun _ => rfl) ns) (by rw [u6_len]; exact hns)) (by simp only [upd, List.set_cons_zero, List.set_cons_succ]; exact rfl) ?_
    refine walk_nil ?_
    refine dwp_ret ?_
    refine kend0 (rs1 rfl (rv_w tb91 rfl rfl (by first | rfl | (rw [u6_len]; assumption)))) rfl ?_
    rfl
end Go.Proofs.YtaekkjhpdendoaaDoor

namespace Go.Proofs.YtaekkjhpdendoaaDoor
set_option linter.unusedVariables false
set_option linter.unusedSimpArgs false
open Go.RowKit
theorem or_dig_no {d x : Nat} (h : ¬ (d = 0 ∨ 0 < x)) : (((d : Int) == 0) || decide ((0 : Int) < (x : Int))) = false := by
  have h1 : d ≠ 0 := fun e => h (.inl e)
  have h2 : ¬ 0 < x := fun e => h (.inr e)
  simp [h1, h2]
theorem op_nxhi {P : Program} {pc : Bool} {o : Oper} {F : Fr} {M : List Blk} {x : Operand} {i q c w : Nat} {l : List Nat} (hq : q < l.length) (hd : Utf8.decode (strN l) q = (c, w)) (ho : o.op = .next x true) (hx : Ev pc F x (.loc i 0)) (hM : M[i]? = some (.obj (.stringIter (strN l) q))) :
    DOp P pc o F M [i] (.tup [.val (.bool true), .val (.int .i64 q), .val (.int .i32 (c : Int))]) [(i, .obj (.stringIter (strN l) (q + w)))] :=
  op_nxs ho hx hM (fun _ => by rw [strN_size]; exact hq) hd
set_option maxRecDepth 4000 in
set_option maxHeartbeats 1000000 in
theorem needN (b : Bool) (h : b = false) : DPan Tryd.prog 52 [.val (.bool b)] [] (.ifc 89 (.val (.agg #[]))) [] := by
  refine dcalls_go (N := 6) 0 (by kernel_rfl) Tryd.func52 rfl rfl rfl (by simp only [fr0, Nat.zero_add, Nat.reduceAdd]; exact rfl) rfl fun s0 hs0 => ?_
  refine dwp_seq ?_
  refine dwp_region ?_
  refine walk_r rfl rfl rfl (op_move (.inl rfl) (ev1 rfl)) ?_
  refine walk_r rfl rfl rfl (op_not rfl (ev1 rfl)) ?_
  refine walk_nil ?_
  refine dwp_if_t rfl (by rw [h]; rfl) ?_
  refine dwp_region ?_
  refine walk_r rfl rfl rfl (op_build0 rfl fl89 zr89) ?_
  refine walk_r rfl rfl rfl (op_mi rfl ni89 (ev1 rfl)) ?_
  refine walk_p rfl (op_pan rfl (ev1 rfl)) rfl ?_
  refine kpan0 rfl ?_
  rfl
set_option maxRecDepth 4000 in
set_option maxHeartbeats 1000000 in
theorem grownP (x b : Nat) (h : ¬ ((48 ≤ b ∧ b ≤ 57) ∧ x ≤ (4611686018427387904 - (b - 48)) / 10)) : DPan Tryd.prog 62 [.val (.int .u64 (x : Int)), .val (.int .i32 (b : Int))] [] (.ifc 89 (.val (.agg #[]))) [] := by
  refine dcalls_go (N := 26) 0 (by kernel_rfl) Tryd.func62 rfl rfl rfl (by simp only [fr0, Nat.zero_add, Nat.reduceAdd]; exact rfl) rfl fun s0 hs0 => ?_
  refine dwp_seq ?_
  refine dwp_region ?_
  refine walk_r rfl rfl rfl (op_move (.inr rfl) (ev1 rfl)) ?_
  refine walk_nil ?_
  refine dwp_seq ?_
  by_cases hd : 48 ≤ b ∧ b ≤ 57
  · refine dwp_region ?_
    refine walk_r rfl rfl rfl (op_move (.inl rfl) (ev1 rfl)) ?_
    refine walk_r rfl rfl rfl (op_geq rfl (ev1 rfl) (ev1 rfl)) ?_
    refine walk_r rfl rfl rfl (op_move (.inl rfl) (ev1 rfl)) ?_
    refine walk_gr (gd_t rfl rfl rfl) rfl rfl rfl (op_move (.inl rfl) (ev1 rfl)) ?_
    refine walk_gr (gd_t rfl rfl rfl) rfl rfl rfl (op_leq rfl (ev2 rfl) (ev1 rfl)) ?_
    refine walk_r rfl rfl rfl (op_and rfl (ev1 rfl) (ev3 rfl id)) ?_
    refine walk_r rfl rfl rfl (dop_call [] [] [] rfl (ev1 rfl) (ec (ev1 rfl) en) rfl rfl (needB _ (by simp; omega)) rfl rfl rfl rfl rfl rfl) ?_
    refine walk_nil ?_
    refine dwp_seq ?_
    refine dwp_region ?_
    refine walk_r rfl rfl rfl (op_move (.inl rfl) (ev1 rfl)) ?_
    refine walk_r rfl rfl rfl (op_sub' rfl (ev1 rfl) (ev1 rfl) (fun _ => IntWalk.i32_in _ (by omega))) ?_
    refine walk_r rfl rfl rfl (op_conv' ty21 kn25 rfl (ev1 rfl) (fun _ => IntWalk.u64_in _ (by omega))) ?_
    refine walk_r rfl rfl rfl (op_move (.inr rfl) (ev1 rfl)) ?_
    refine walk_nil ?_
    refine dwp_seq ?_
    refine dwp_region ?_
    refine walk_r rfl rfl rfl (op_move (.inl rfl) (ev1 rfl)) ?_
    refine walk_r rfl rfl rfl (op_move (.inl rfl) (ev1 rfl)) ?_
    refine walk_r rfl rfl rfl (op_sub' rfl (ev1 rfl) (ev1 rfl) (fun _ => IntWalk.u64_in _ (by omega))) ?_
    refine walk_r rfl rfl rfl (op_quo' rfl (ev1 rfl) (ev1 rfl) (fun _ => ⟨by omega, by omega, IntWalk.u64_in _ (by omega)⟩)) ?_
    refine walk_r rfl rfl rfl (op_leq rfl (ev1 rfl) (ev1 rfl)) ?_
    refine walk_p rfl (dop_callP [] [] [] rfl (ev1 rfl) (ec (ev1 rfl) en) rfl rfl (needN _ (by simp; omega)) rfl rfl rfl rfl rfl rfl) rfl ?_
    refine kpan0 rfl ?_
    rfl
  · refine dwp_region ?_
    refine walk_r rfl rfl rfl (op_move (.inl rfl) (ev1 rfl)) ?_
    refine walk_r rfl rfl rfl (op_geq rfl (ev1 rfl) (ev1 rfl)) ?_
    refine walk_r rfl rfl rfl (op_move (.inl rfl) (ev1 rfl)) ?_
    refine walk_gr (gd_t rfl rfl rfl) rfl rfl rfl (op_move (.inl rfl) (ev1 rfl)) ?_
    refine walk_gr (gd_t rfl rfl rfl) rfl rfl rfl (op_leq rfl (ev2 rfl) (ev1 rfl)) ?_
    refine walk_r rfl rfl rfl (op_and rfl (ev1 rfl) (ev3 rfl id)) ?_
    refine walk_p rfl (dop_callP [] [] [] rfl (ev1 rfl) (ec (ev1 rfl) en) rfl rfl (needN _ (by simp; omega)) rfl rfl rfl rfl rfl rfl) rfl ?_
    refine kpan0 rfl ?_
    rfl
set_option maxRecDepth 4000 in
set_option maxHeartbeats 1000000 in
theorem numbers_no (l : List Nat) (hl : isB l) (hll : l.length ≤ 9223372036854775807) (hR : mach l [0, 0, 0] 0 0 = none) : DPan Tryd.prog 51 [.val (.string (strN l))] [] (.ifc 89 (.val (.agg #[]))) [] := by
  refine dcalls_go (N := 50) 0 (by kernel_rfl) Tryd.func51 rfl rfl rfl (by simp only [fr0, Nat.zero_add, Nat.reduceAdd]; exact rfl) rfl fun s0 hs0 => ?_
  refine dwp_seq ?_
  refine dwp_holes 1 (by simp only [holes, List.cons_append, List.nil_append]; exact rfl) ?_
  refine dwp_region ?_
  refine walk_w rfl rfl rfl (op_alloc 0 rfl zr91 rfl) (by simp only [upd, List.set_cons_zero, List.set_cons_succ]; exact rfl) ?_
  refine walk_nil ?_
  refine dwp_seq ?_
  refine dwp_holes 1 (by simp only [holes, List.cons_append, List.nil_append]; exact rfl) ?_
  refine dwp_region ?_
  refine walk_w rfl rfl rfl (op_alloc 1 rfl zr91 rfl) (by simp only [upd, List.set_cons_zero, List.set_cons_succ]; exact rfl) ?_
  refine walk_nil ?_
  refine dwp_seq ?_
  refine dwp_region ?_
  refine walk_r rfl rfl rfl (op_move (.inr rfl) (ev1 rfl)) ?_
  refine walk_r rfl rfl rfl (op_move (.inr rfl) (ev1 rfl)) ?_
  refine walk_nil ?_
  refine dwp_seq ?_
  refine dwp_seq ?_
  refine dwp_holes 1 (by simp only [holes, List.cons_append, List.nil_append]; exact rfl) ?_
  refine dwp_region ?_
  refine walk_r rfl rfl rfl (op_move (.inl rfl) (ev1 rfl)) ?_
  refine walk_w rfl rfl rfl (op_rgs 2 rfl un9 (ev1 rfl) rfl) (by simp only [upd, List.set_cons_zero, List.set_cons_succ]; exact rfl) ?_
  refine walk_nil ?_
  refine dwp_block ?_
  refine dwp_loopS ⟨hs0, rfl⟩ (α := Nat × List Nat × Nat × Nat) (fun x => [(4, .val (.int .i64 (x.2.2.1 : Int))), (5, .val (.int .i64 (x.2.2.2 : Int)))]) [(2, _), (3, _), (9, _)] (fun x => [(1, .flat 91 (x.2.1.flatMap u6)), (2, .obj (.stringIter (strN l) x.1))]) [_, .hole, .hole] (fun x => x.1 ≤ l.length ∧ x.2.1.length = 3 ∧ x.2.2.1 ≤ 2 ∧ x.2.2.2 ≤ x.1 ∧ mach (l.drop x.1) x.2.1 x.2.2.1 x.2.2.2 = none) (fun x => l.length - x.1) (0, [0, 0, 0], 0, 0) [0, 1, 2] (⟨Nat.zero_le _, rfl, by decide, Nat.le_refl _, hR⟩) rfl ⟨rfl, rfl, rfl, trivial⟩ ⟨rfl, rfl, trivial⟩ ⟨rfl, rfl, rfl, trivial⟩ ?_
  intro x hx
  simp only [upd, List.set_cons_zero, List.set_cons_succ, List.cons_append, List.nil_append]
  obtain ⟨q, ns, k, d⟩ := x
  obtain ⟨hq, hns, hk, hd, hm⟩ := hx
  dsimp only at hq hns hk hd hm ⊢
  refine dwp_seq ?_
  by_cases hql : q < l.length
  · by_cases hlo : l.getD q 0 < 128
    · rw [drop_at hql] at hm
      refine dwp_region ?_
      refine walk_w rfl rfl rfl (op_nxlo hl hql hlo rfl (ev1 rfl) rfl) (by simp only [upd, List.set_cons_zero, List.set_cons_succ]; exact rfl) ?_
      refine walk_r rfl rfl rfl (op_ext rfl (ev1 rfl) rfl) ?_
      refine walk_nil ?_
      refine dwp_seq ?_
      refine dwp_if_t rfl (rfl) ?_
      refine dwp_skip ?_
      refine dwp_block ?_
      refine dwp_seq ?_
      refine dwp_region ?_
      refine walk_r rfl rfl rfl (op_ext rfl (ev1 rfl) rfl) ?_
      refine walk_r rfl rfl rfl (op_move (.inr rfl) (ev1 rfl)) ?_
      refine walk_nil ?_
      refine dwp_seq ?_
      refine dwp_seq ?_
      refine dwp_region ?_
      refine walk_r rfl rfl rfl (op_move (.inl rfl) (ev1 rfl)) ?_
      refine walk_r rfl rfl rfl (op_eql rfl (ev1 rfl) (ev1 rfl)) ?_
      refine walk_nil ?_
      refine dwp_cond rfl (fun c14 => ?_) (fun c14 => ?_)
      · have hb : l.getD q 0 = 46 := by have := eq_of_beq c14; omega
        rw [hb] at hm
        refine dwp_seq ?_
        by_cases g1 : 0 < d ∧ k < 2
        · have g2 := mach_dot_no hm g1
          refine dwp_region ?_
          refine walk_r rfl rfl rfl (op_move (.inl rfl) (ev1 rfl)) ?_
          refine walk_r rfl rfl rfl (op_gtr rfl (ev1 rfl) (ev1 rfl)) ?_
          refine walk_r rfl rfl rfl (op_move (.inl rfl) (ev1 rfl)) ?_
          refine walk_gr (gd_t rfl rfl rfl) rfl rfl rfl (op_move (.inl rfl) (ev1 rfl)) ?_
          refine walk_gr (gd_t rfl rfl rfl) rfl rfl rfl (op_lss rfl (ev2 rfl) (ev1 rfl)) ?_
          refine walk_r rfl rfl rfl (op_and rfl (ev1 rfl) (ev3 rfl id)) ?_
          refine walk_r rfl rfl rfl (dop_call [] [] [] rfl (ev1 rfl) (ec (ev1 rfl) en) rfl rfl (needB _ (by simp; omega)) rfl rfl rfl rfl rfl rfl) ?_
          refine walk_nil ?_
          refine dwp_seq ?_
          refine dwp_region ?_
          refine walk_r rfl rfl rfl (op_move (.inl rfl) (ev1 rfl)) ?_
          refine walk_r rfl rfl rfl (op_add' rfl (ev1 rfl) (ev1 rfl) (fun _ => IntWalk.i64_in _ (by omega))) ?_
          refine walk_r rfl rfl rfl (op_move (.inr rfl) (ev1 rfl)) ?_
          refine walk_r rfl rfl rfl (op_move (.inr rfl) (ev1 rfl)) ?_
          refine walk_nil ?_
          refine dwp_exit ?_
          refine ⟨(q + 1, ns, k + 1, 0), [0, 1, 2], ⟨by omega, hns, by dsimp only; omega, Nat.zero_le _, g2⟩, by simp only []; omega, rfl, ⟨rfl, rfl, rfl, rfl, rfl, trivial⟩, ⟨rfl, rfl, rfl, trivial⟩⟩
        · refine dwp_region ?_
          refine walk_r rfl rfl rfl (op_move (.inl rfl) (ev1 rfl)) ?_
          refine walk_r rfl rfl rfl (op_gtr rfl (ev1 rfl) (ev1 rfl)) ?_
          refine walk_r rfl rfl rfl (op_move (.inl rfl) (ev1 rfl)) ?_
          refine walk_gr (gd_t rfl rfl rfl) rfl rfl rfl (op_move (.inl rfl) (ev1 rfl)) ?_
          refine walk_gr (gd_t rfl rfl rfl) rfl rfl rfl (op_lss rfl (ev2 rfl) (ev1 rfl)) ?_
          refine walk_r rfl rfl rfl (op_and rfl (ev1 rfl) (ev3 rfl id)) ?_
          refine walk_p rfl (dop_callP [] [] [] rfl (ev1 rfl) (ec (ev1 rfl) en) rfl rfl (needN _ (by simp; omega)) rfl rfl rfl rfl rfl rfl) rfl ?_
          refine kpan0 rfl ?_
          rfl
      · have hb : l.getD q 0 ≠ 46 := fun e => by rw [e] at c14; exact absurd c14 (by decide)
        refine dwp_skip ?_
        refine dwp_seq ?_
        by_cases g3 : d = 0 ∨ 0 < ns.getD k 0
        · refine dwp_region ?_
          refine walk_r rfl rfl rfl (op_move (.inl rfl) (ev1 rfl)) ?_
          refine walk_r rfl rfl rfl (op_eql rfl (ev1 rfl) (ev1 rfl)) ?_
          refine walk_r rfl rfl rfl (op_move (.inl rfl) (ev1 rfl)) ?_
          refine walk_gr (gd_f rfl rfl rfl) rfl rfl rfl (op_move (.inl rfl) (ev1 rfl)) ?_
          refine walk_gr (gd_f rfl rfl rfl) rfl rfl rfl (op_ixfr (j := k) rfl ar91 (ev1 rfl) (ev2 rfl) (fun hp => by first | omega | (simp at hp; omega)) (fun hp => by first | omega | (simp at hp; omega))) ?_
          refine walk_gr (gd_f rfl rfl rfl) rfl rfl rfl (op_ldf1 (0) rfl tb25 (ev2 rfl) rfl (fun _ => rfl) (by decide) (fun _ => by omega) rfl) ?_
          refine walk_gr (gd_f rfl rfl rfl) rfl rfl rfl (op_gtr rfl (ev2 rfl) (ev1 rfl)) ?_
          refine walk_r rfl rfl rfl (op_or rfl (ev1 rfl) (ev3 rfl id)) ?_
          refine walk_r rfl rfl rfl (dop_call [] [] [] rfl (ev1 rfl) (ec (ev1 rfl) en) rfl rfl (needB _ (or_dig g3)) rfl rfl rfl rfl rfl rfl) ?_
          refine walk_nil ?_
          refine dwp_seq ?_
          by_cases g4 : (48 ≤ l.getD q 0 ∧ l.getD q 0 ≤ 57) ∧ ns.getD k 0 ≤ (4611686018427387904 - (l.getD q 0 - 48)) / 10
          · have g2 := mach_num_no hb hm ⟨g3, g4⟩
            refine dwp_region ?_
            refine walk_r rfl rfl rfl (op_move (.inl rfl) (ev1 rfl)) ?_
            refine walk_r rfl rfl rfl (op_move (.inl rfl) (ev1 rfl)) ?_
            refine walk_r rfl rfl rfl (op_ixfr (j := k) rfl ar91 (ev1 rfl) (ev1 rfl) (fun _ => by omega) (fun _ => by omega)) ?_
            refine walk_r rfl rfl rfl (op_ldf1 (0) rfl tb25 (ev1 rfl) rfl (fun _ => rfl) (by decide) (fun _ => by omega) rfl) ?_
            refine walk_r rfl rfl rfl (op_move (.inl rfl) (ev1 rfl)) ?_
            refine walk_r rfl rfl rfl (dop_call [] [] [] rfl (ev1 rfl) (ec (ev1 rfl) (ec (ev1 rfl) en)) rfl rfl (grownN _ _ g4.1.1 g4.1.2 g4.2) rfl rfl rfl rfl rfl rfl) ?_
            refine walk_r rfl rfl rfl (op_ixfr (j := k) rfl ar91 (ev1 rfl) (ev1 rfl) (fun _ => by omega) (fun _ => by omega)) ?_
            refine walk_s rfl rfl (op_stfr (q := 10 * ns.getD k 0 + (l.getD q 0 - 48)) rfl tb25 (ev1 rfl) (ev1 rfl) rfl rfl rfl (fun _ => rfl) (fun _ => by omega)) (by simp only [upd, List.set_cons_zero, List.set_cons_succ]; exact rfl) ?_
            refine walk_nil ?_
            refine dwp_region ?_
            refine walk_r rfl rfl rfl (op_move (.inl rfl) (ev1 rfl)) ?_
            refine walk_r rfl rfl rfl (op_add' rfl (ev1 rfl) (ev1 rfl) (fun _ => IntWalk.i64_in _ (by omega))) ?_
            refine walk_r rfl rfl rfl (op_move (.inr rfl) (ev1 rfl)) ?_
            refine walk_nil ?_
            refine ⟨(q + 1, ns.set k (10 * ns.getD k 0 + (l.getD q 0 - 48)), k, d + 1), [0, 1, 2], ⟨by omega, by simp [hns], hk, by dsimp only; omega, g2⟩, by simp only []; omega, rfl, ⟨rfl, rfl, rfl, rfl, rfl, trivial⟩, ⟨rfl, rfl, rfl, trivial⟩⟩
          · refine dwp_region ?_
            refine walk_r rfl rfl rfl (op_move (.inl rfl) (ev1 rfl)) ?_
            refine walk_r rfl rfl rfl (op_move (.inl rfl) (ev1 rfl)) ?_
            refine walk_r rfl rfl rfl (op_ixfr (j := k) rfl ar91 (ev1 rfl) (ev1 rfl) (fun _ => by omega) (fun _ => by omega)) ?_
            refine walk_r rfl rfl rfl (op_ldf1 (0) rfl tb25 (ev1 rfl) rfl (fun _ => rfl) (by decide) (fun _ => by omega) rfl) ?_
            refine walk_r rfl rfl rfl (op_move (.inl rfl) (ev1 rfl)) ?_
            refine walk_p rfl (dop_callP [] [] [] rfl (ev1 rfl) (ec (ev1 rfl) (ec (ev1 rfl) en)) rfl rfl (grownP _ _ g4) rfl rfl rfl rfl rfl rfl) rfl ?_
            refine kpan0 rfl ?_
            rfl
        · refine dwp_region ?_
          refine walk_r rfl rfl rfl (op_move (.inl rfl) (ev1 rfl)) ?_
          refine walk_r rfl rfl rfl (op_eql rfl (ev1 rfl) (ev1 rfl)) ?_
          refine walk_r rfl rfl rfl (op_move (.inl rfl) (ev1 rfl)) ?_
          refine walk_gr (gd_f rfl rfl rfl) rfl rfl rfl (op_move (.inl rfl) (ev1 rfl)) ?_
          refine walk_gr (gd_f rfl rfl rfl) rfl rfl rfl (op_ixfr (j := k) rfl ar91 (ev1 rfl) (ev2 rfl) (fun hp => by first | omega | (simp at hp; omega)) (fun hp => by first | omega | (simp at hp; omega))) ?_
          refine walk_gr (gd_f rfl rfl rfl) rfl rfl rfl (op_ldf1 (0) rfl tb25 (ev2 rfl) rfl (fun _ => rfl) (by decide) (fun _ => by omega) rfl) ?_
          refine walk_gr (gd_f rfl rfl rfl) rfl rfl rfl (op_gtr rfl (ev2 rfl) (ev1 rfl)) ?_
          refine walk_r rfl rfl rfl (op_or rfl (ev1 rfl) (ev3 rfl id)) ?_
          refine walk_p rfl (dop_callP [] [] [] rfl (ev1 rfl) (ec (ev1 rfl) en) rfl rfl (needN _ (or_dig_no g3)) rfl rfl rfl rfl rfl rfl) rfl ?_
          refine kpan0 rfl ?_
          rfl
    · obtain ⟨c, w, hdec, hc, hw⟩ := dec_hi hl hql hlo
      refine dwp_region ?_
      refine walk_w rfl rfl rfl (op_nxhi hql hdec rfl (ev1 rfl) rfl) (by simp only [upd, List.set_cons_zero, List.set_cons_succ]; exact rfl) ?_
      refine walk_r rfl rfl rfl (op_ext rfl (ev1 rfl) rfl) ?_
      refine walk_nil ?_
      refine dwp_seq ?_
      refine dwp_if_t rfl (rfl) ?_
      refine dwp_skip ?_
      refine dwp_block ?_
      refine dwp_seq ?_
      refine dwp_region ?_
      refine walk_r rfl rfl rfl (op_ext rfl (ev1 rfl) rfl) ?_
      refine walk_r rfl rfl rfl (op_move (.inr rfl) (ev1 rfl)) ?_
      refine walk_nil ?_
      refine dwp_seq ?_
      refine dwp_seq ?_
      refine dwp_region ?_
      refine walk_r rfl rfl rfl (op_move (.inl rfl) (ev1 rfl)) ?_
      refine walk_r rfl rfl rfl (op_eql rfl (ev1 rfl) (ev1 rfl)) ?_
      refine walk_nil ?_
      refine dwp_if_f rfl (by simp; omega) ?_
      refine dwp_skip ?_
      refine dwp_seq ?_
      by_cases g3 : d = 0 ∨ 0 < ns.getD k 0
      · refine dwp_region ?_
        refine walk_r rfl rfl rfl (op_move (.inl rfl) (ev1 rfl)) ?_
        refine walk_r rfl rfl rfl (op_eql rfl (ev1 rfl) (ev1 rfl)) ?_
        refine walk_r rfl rfl rfl (op_move (.inl rfl) (ev1 rfl)) ?_
        refine walk_gr (gd_f rfl rfl rfl) rfl rfl rfl (op_move (.inl rfl) (ev1 rfl)) ?_
        refine walk_gr (gd_f rfl rfl rfl) rfl rfl rfl (op_ixfr (j := k) rfl ar91 (ev1 rfl) (ev2 rfl) (fun hp => by first | omega | (simp at hp; omega)) (fun hp => by first | omega | (simp at hp; omega))) ?_
        refine walk_gr (gd_f rfl rfl rfl) rfl rfl rfl (op_ldf1 (0) rfl tb25 (ev2 rfl) rfl (fun _ => rfl) (by decide) (fun _ => by omega) rfl) ?_
        refine walk_gr (gd_f rfl rfl rfl) rfl rfl rfl (op_gtr rfl (ev2 rfl) (ev1 rfl)) ?_
        refine walk_r rfl rfl rfl (op_or rfl (ev1 rfl) (ev3 rfl id)) ?_
        refine walk_r rfl rfl rfl (dop_call [] [] [] rfl (ev1 rfl) (ec (ev1 rfl) en) rfl rfl (needB _ (or_dig g3)) rfl rfl rfl rfl rfl rfl) ?_
        refine walk_nil ?_
        refine dwp_seq ?_
        refine dwp_region ?_
        refine walk_r rfl rfl rfl (op_move (.inl rfl) (ev1 rfl)) ?_
        refine walk_r rfl rfl rfl (op_move (.inl rfl) (ev1 rfl)) ?_
        refine walk_r rfl rfl rfl (op_ixfr (j := k) rfl ar91 (ev1 rfl) (ev1 rfl) (fun _ => by omega) (fun _ => by omega)) ?_
        refine walk_r rfl rfl rfl (op_ldf1 (0) rfl tb25 (ev1 rfl) rfl (fun _ => rfl) (by decide) (fun _ => by omega) rfl) ?_
        refine walk_r rfl rfl rfl (op_move (.inl rfl) (ev1 rfl)) ?_
        refine walk_p rfl (dop_callP [] [] [] rfl (ev1 rfl) (ec (ev1 rfl) (ec (ev1 rfl) en)) rfl rfl (grownP _ c (by omega)) rfl rfl rfl rfl rfl rfl) rfl ?_
        refine kpan0 rfl ?_
        rfl
      · refine dwp_region ?_
        refine walk_r rfl rfl rfl (op_move (.inl rfl) (ev1 rfl)) ?_
        refine walk_r rfl rfl rfl (op_eql rfl (ev1 rfl) (ev1 rfl)) ?_
        refine walk_r rfl rfl rfl (op_move (.inl rfl) (ev1 rfl)) ?_
        refine walk_gr (gd_f rfl rfl rfl) rfl rfl rfl (op_move (.inl rfl) (ev1 rfl)) ?_
        refine walk_gr (gd_f rfl rfl rfl) rfl rfl rfl (op_ixfr (j := k) rfl ar91 (ev1 rfl) (ev2 rfl) (fun hp => by first | omega | (simp at hp; omega)) (fun hp => by first | omega | (simp at hp; omega))) ?_
        refine walk_gr (gd_f rfl rfl rfl) rfl rfl rfl (op_ldf1 (0) rfl tb25 (ev2 rfl) rfl (fun _ => rfl) (by decide) (fun _ => by omega) rfl) ?_
        refine walk_gr (gd_f rfl rfl rfl) rfl rfl rfl (op_gtr rfl (ev2 rfl) (ev1 rfl)) ?_
        refine walk_r rfl rfl rfl (op_or rfl (ev1 rfl) (ev3 rfl id)) ?_
        refine walk_p rfl (dop_callP [] [] [] rfl (ev1 rfl) (ec (ev1 rfl) en) rfl rfl (needN _ (or_dig_no g3)) rfl rfl rfl rfl rfl rfl) rfl ?_
        refine kpan0 rfl ?_
        rfl
  · rw [drop_end hql] at hm
    have g1 := mach_end_no hm
    refine dwp_region ?_
    refine walk_r rfl rfl rfl (op_nxn rfl (ev1 rfl) rfl (fun _ => by omega)) ?_
    refine walk_r rfl rfl rfl (op_ext rfl (ev1 rfl) rfl) ?_
    refine walk_nil ?_
    refine dwp_seq ?_
    refine dwp_if_f rfl (rfl) ?_
    refine dwp_exit ?_
    refine dwp_seq ?_
    refine dwp_region ?_
    refine walk_r rfl rfl rfl (op_move (.inl rfl) (ev1 rfl)) ?_
    refine walk_r rfl rfl rfl (op_eql rfl (ev1 rfl) (ev1 rfl)) ?_
    refine walk_r rfl rfl rfl (op_move (.inl rfl) (ev1 rfl)) ?_
    refine walk_gr (gd_t rfl rfl rfl) rfl rfl rfl (op_move (.inl rfl) (ev1 rfl)) ?_
    refine walk_gr (gd_t rfl rfl rfl) rfl rfl rfl (op_gtr rfl (ev2 rfl) (ev1 rfl)) ?_
    refine walk_r rfl rfl rfl (op_and rfl (ev1 rfl) (ev3 rfl id)) ?_
    refine walk_p rfl (dop_callP [] [] [] rfl (ev1 rfl) (ec (ev1 rfl) en) rfl rfl (needN _ (by simp; omega)) rfl rfl rfl rfl rfl rfl) rfl ?_
    refine kpan0 rfl ?_
    rfl
end Go.Proofs.YtaekkjhpdendoaaDoor

namespace Go.Proofs.YtaekkjhpdendoaaDoor
set_option linter.unusedVariables false
set_option linter.unusedSimpArgs false
open Go.RowKit
theorem mach_len : ∀ (l ns R : List Nat) (k d : Nat), mach l ns k d = some R → R.length = ns.length
  | [], ns, R, k, d, h => by obtain ⟨_, rfl⟩ := mach_end h; rfl
  | b :: r, ns, R, k, d, h => by
    by_cases hb : b = 46
    · subst hb; exact mach_len r ns R _ _ (mach_dot h).2
    · rw [mach_len r _ R _ _ (mach_num hb h).2, List.length_set]
theorem numbers3 (l : List Nat) (a b c : Nat) (hl : isB l) (hll : l.length ≤ 9223372036854775807) (hR : mach l [0, 0, 0] 0 0 = some [a, b, c]) : DFun Tryd.prog 51 [.val (.string (strN l))] [] (.val (.agg #[.int .u64 (a : Int), .int .u64 (b : Int), .int .u64 (c : Int)])) [] := numbers_d l [a, b, c] hl hll hR
set_option maxRecDepth 4000 in
set_option maxHeartbeats 1000000 in
theorem read1_caught (a b c e : Int) : DDef Tryd.prog 50 [.loc 0 0, .loc 1 0] [.flat 27 [.int .u64 a, .int .i64 b, .int .u64 c], .flat 28 [.int .i64 e]] (some (.ifc 89 (.val (.agg #[])))) none [.flat 27 [.int .u64 0, .int .i64 0, .int .u64 0], .flat 28 [.int .i64 210]] := by
  refine ddef_go (dr := .tup []) (t := 5) (N := 11) 2 (by kernel_rfl) Tryd.func50 rfl rfl rfl (by simp only [fr0, Nat.zero_add, Nat.reduceAdd]; exact rfl) rfl rfl rfl rfl rfl fun s0 hs0 => ?_
  refine walk_hole ?_
  simp only [List.cons_append, List.nil_append]
  refine walk_r rfl rfl rfl (op_tay rfl ni89 (ev1 rfl)) ?_
  refine walk_r rfl rfl rfl (op_move (.inl rfl) (ev1 rfl)) ?_
  refine walk_r rfl rfl rfl (op_ext rfl (ev1 rfl) rfl) ?_
  refine walk_r rfl rfl rfl (op_ext rfl (ev1 rfl) rfl) ?_
  refine walk_w rfl rfl rfl (op_alloc 2 rfl zr89 rfl) (by simp only [upd, List.set_cons_zero, List.set_cons_succ]; exact rfl) ?_
  refine walk_s rfl rfl (op_stwa rfl tb89 (ev1 rfl) (ev1 rfl) rfl rfl rfl rfl) (by simp only [upd, List.set_cons_zero, List.set_cons_succ]; exact rfl) ?_
  refine walk_r rfl rfl rfl (op_move (.inr rfl) (ev1 rfl)) ?_
  refine walk_nil ?_
  refine dwp_seq ?_
  refine dwp_region ?_
  refine walk_r rfl rfl rfl (op_move (.inl rfl) (ev1 rfl)) ?_
  refine walk_nil ?_
  refine dwp_if_t rfl (rfl) ?_
  refine dwp_region ?_
  refine walk_r rfl rfl rfl (op_build0 rfl fl27 zr27) ?_
  refine walk_s rfl rfl (op_stwa rfl tb27 (ev1 rfl) (ev1 rfl) rfl rfl rfl rfl) (by simp only [upd, List.set_cons_zero, List.set_cons_succ]; exact rfl) ?_
  refine walk_s rfl rfl (op_stwi rfl tb28 (ev1 rfl) (ev1 rfl) rfl) (by simp only [upd, List.set_cons_zero, List.set_cons_succ]; exact rfl) ?_
  refine walk_nil ?_
  refine kend [0, 1] (res_none rfl) rfl rfl ?_ ⟨rfl, rfl, trivial⟩
  rfl
set_option maxRecDepth 4000 in
set_option maxHeartbeats 1000000 in
theorem read_ok (l : List Nat) (a b c : Nat) (hl : isB l) (hll : l.length ≤ 9223372036854775807) (hR : mach l [0, 0, 0] 0 0 = some [a, b, c]) (hb : b ≤ 8) (hm : mayR ⟨a, b, c⟩ = true) : DFun Tryd.prog 33 [.val (.string (strN l))] [] (.tup [idD ⟨a, b, c⟩, .val (.int .i64 0)]) [] := by
  refine dcalls_body (N := 25) 0 (by kernel_rfl) Tryd.func33 rfl rfl rfl (by simp only [fr0, Nat.zero_add, Nat.reduceAdd]; exact rfl) rfl fun s0 hs0 => ?_
  refine dbody_seq rfl hs0 ?_
  refine dwp_holes 2 (by simp only [holes, List.cons_append, List.nil_append]; exact rfl) ?_
  refine dwp_region ?_
  refine walk_w rfl rfl rfl (op_alloc 0 rfl zr27 rfl) (by simp only [upd, List.set_cons_zero, List.set_cons_succ]; exact rfl) ?_
  refine walk_w rfl rfl rfl (op_alloc 1 rfl zr28 rfl) (by simp only [upd, List.set_cons_zero, List.set_cons_succ]; exact rfl) ?_
  refine walk_nil ?_
  refine dbody_defer (l0 := [_]) rfl rfl rfl rfl rfl hs0 ?_
  refine walk_r rfl rfl rfl (op_mkf rfl en (ec (ev1 rfl) (ec (ev1 rfl) en))) ?_
  refine walk_nil ⟨_, _, _, 2, ev1 rfl, Nat.le_trans hs0 (by decide), rfl, ?_⟩
  have hs1 : s0.M.length ≤ 2 := Nat.le_trans hs0 (by decide)
  refine dbody_end rfl hs0 ?_
  refine dwp_seq ?_
  refine dwp_holes 1 (by simp only [holes, List.cons_append, List.nil_append]; exact rfl) ?_
  refine dwp_region ?_
  refine walk_r rfl rfl rfl (op_move (.inl rfl) (ev1 rfl)) ?_
  refine walk_r rfl rfl rfl (dop_call [] [] [] rfl (ev1 rfl) (ec (ev1 rfl) en) rfl rfl (numbers3 l a b c hl hll hR) rfl rfl rfl rfl rfl rfl) ?_
  refine walk_w rfl rfl rfl (op_alloc 2 rfl zr91 rfl) (by simp only [upd, List.set_cons_zero, List.set_cons_succ]; exact rfl) ?_
  refine walk_s rfl rfl (op_stwa rfl tb91 (ev1 rfl) (ev1 rfl) rfl rfl rfl rfl) (by simp only [upd, List.set_cons_zero, List.set_cons_succ]; exact rfl) ?_
  refine walk_nil ?_
  refine dwp_seq ?_
  refine dwp_region ?_
  refine walk_r rfl rfl rfl (op_ixl rfl ar91 (ev1 rfl) (ev1 rfl) (fun _ => by omega)) ?_
  refine walk_r rfl rfl rfl (op_ldo rfl tb25 (ev1 rfl) rfl rfl) ?_
  refine walk_r rfl rfl rfl (op_leq rfl (ev1 rfl) (ev1 rfl)) ?_
  refine walk_r rfl rfl rfl (dop_call [] [] [] rfl (ev1 rfl) (ec (ev1 rfl) en) rfl rfl (needB _ (by simp; omega)) rfl rfl rfl rfl rfl rfl) ?_
  refine walk_nil ?_
  refine dwp_seq ?_
  refine dwp_region ?_
  refine walk_r rfl rfl rfl (op_ixl rfl ar91 (ev1 rfl) (ev1 rfl) (fun _ => by omega)) ?_
  refine walk_r rfl rfl rfl (op_ldo rfl tb25 (ev1 rfl) rfl rfl) ?_
  refine walk_r rfl rfl rfl (op_ixl rfl ar91 (ev1 rfl) (ev1 rfl) (fun _ => by omega)) ?_
  refine walk_r rfl rfl rfl (op_ldo rfl tb25 (ev1 rfl) rfl rfl) ?_
  refine walk_r rfl rfl rfl (op_conv' ty25 kn3 rfl (ev1 rfl) (fun _ => IntWalk.i64_in _ (by omega))) ?_
  refine walk_r rfl rfl rfl (op_ixl rfl ar91 (ev1 rfl) (ev1 rfl) (fun _ => by omega)) ?_
  refine walk_r rfl rfl rfl (op_ldo rfl tb25 (ev1 rfl) rfl rfl) ?_
  refine walk_r rfl rfl rfl (op_build (ps := [(0, .tmp 13), (1, .tmp 16), (2, .tmp 18)]) rfl fl27 zr27 (vc (ev1 rfl) (vc (ev1 rfl) (vc (ev1 rfl) vn))) rfl rfl) ?_
  refine walk_s rfl rfl (op_stwa rfl tb27 (ev1 rfl) (ev1 rfl) rfl rfl rfl rfl) (by simp only [upd, List.set_cons_zero, List.set_cons_succ]; exact rfl) ?_
  refine walk_nil ?_
  refine dwp_seq ?_
  refine dwp_region ?_
  refine walk_r rfl rfl rfl (op_ldw rfl tb27 (ev1 rfl) rfl rfl) ?_
  refine walk_r rfl rfl rfl (dop_call [] [] [] rfl (ev1 rfl) (ec (ev1 rfl) en) rfl rfl (check_d ⟨a, b, c⟩) rfl rfl rfl rfl rfl rfl) ?_
  refine walk_r rfl rfl rfl (op_eql rfl (ev1 rfl) (ev1 rfl)) ?_
  refine walk_r rfl rfl rfl (dop_call [] [] [] rfl (ev1 rfl) (ec (ev1 rfl) en) rfl rfl (needB _ (by rw [hm]; rfl)) rfl rfl rfl rfl rfl rfl) ?_
  refine walk_nil ?_
  refine dwp_seq ?_
  refine dwp_region ?_
  refine walk_r rfl rfl rfl (op_ldw rfl tb27 (ev1 rfl) rfl rfl) ?_
  refine walk_s rfl rfl (op_stwa rfl tb27 (ev1 rfl) (ev1 rfl) rfl rfl rfl rfl) (by simp only [upd, List.set_cons_zero, List.set_cons_succ]; exact rfl) ?_
  refine walk_s rfl rfl (op_stwi rfl tb28 (ev1 rfl) (ev1 rfl) rfl) (by simp only [upd, List.set_cons_zero, List.set_cons_succ]; exact rfl) ?_
  refine walk_nil ?_
  refine dwp_ret ?_
  refine kdef (dturn_idle [0, 1] [] rfl rfl (read1_idle _ _) rfl rfl rfl rfl rfl) ?_
  refine kend0 (rs2 rfl (rv_w tb27 rfl rfl rfl) (rv_1 tb28 rfl rfl rfl)) rfl ?_
  rfl
set_option maxRecDepth 4000 in
set_option maxHeartbeats 1000000 in
theorem read_big (l : List Nat) (a b c : Nat) (hl : isB l) (hll : l.length ≤ 9223372036854775807) (hR : mach l [0, 0, 0] 0 0 = some [a, b, c]) (hb : ¬ b ≤ 8) : DFun Tryd.prog 33 [.val (.string (strN l))] [] (.tup [idD ⟨0, 0, 0⟩, .val (.int .i64 210)]) [] := by
  refine dcalls_body (N := 25) 0 (by kernel_rfl) Tryd.func33 rfl rfl rfl (by simp only [fr0, Nat.zero_add, Nat.reduceAdd]; exact rfl) rfl fun s0 hs0 => ?_
  refine dbody_seq rfl hs0 ?_
  refine dwp_holes 2 (by simp only [holes, List.cons_append, List.nil_append]; exact rfl) ?_
  refine dwp_region ?_
  refine walk_w rfl rfl rfl (op_alloc 0 rfl zr27 rfl) (by simp only [upd, List.set_cons_zero, List.set_cons_succ]; exact rfl) ?_
  refine walk_w rfl rfl rfl (op_alloc 1 rfl zr28 rfl) (by simp only [upd, List.set_cons_zero, List.set_cons_succ]; exact rfl) ?_
  refine walk_nil ?_
  refine dbody_defer (l0 := [_]) rfl rfl rfl rfl rfl hs0 ?_
  refine walk_r rfl rfl rfl (op_mkf rfl en (ec (ev1 rfl) (ec (ev1 rfl) en))) ?_
  refine walk_nil ⟨_, _, _, 2, ev1 rfl, Nat.le_trans hs0 (by decide), rfl, ?_⟩
  have hs1 : s0.M.length ≤ 2 := Nat.le_trans hs0 (by decide)
  refine dbody_end rfl hs0 ?_
  refine dwp_seq ?_
  refine dwp_holes 1 (by simp only [holes, List.cons_append, List.nil_append]; exact rfl) ?_
  refine dwp_region ?_
  refine walk_r rfl rfl rfl (op_move (.inl rfl) (ev1 rfl)) ?_
  refine walk_r rfl rfl rfl (dop_call [] [] [] rfl (ev1 rfl) (ec (ev1 rfl) en) rfl rfl (numbers3 l a b c hl hll hR) rfl rfl rfl rfl rfl rfl) ?_
  refine walk_w rfl rfl rfl (op_alloc 2 rfl zr91 rfl) (by simp only [upd, List.set_cons_zero, List.set_cons_succ]; exact rfl) ?_
  refine walk_s rfl rfl (op_stwa rfl tb91 (ev1 rfl) (ev1 rfl) rfl rfl rfl rfl) (by simp only [upd, List.set_cons_zero, List.set_cons_succ]; exact rfl) ?_
  refine walk_nil ?_
  refine dwp_seq ?_
  refine dwp_region ?_
  refine walk_r rfl rfl rfl (op_ixl rfl ar91 (ev1 rfl) (ev1 rfl) (fun _ => by omega)) ?_
  refine walk_r rfl rfl rfl (op_ldo rfl tb25 (ev1 rfl) rfl rfl) ?_
  refine walk_r rfl rfl rfl (op_leq rfl (ev1 rfl) (ev1 rfl)) ?_
  refine walk_p rfl (dop_callP [] [] [] rfl (ev1 rfl) (ec (ev1 rfl) en) rfl rfl (needN _ (by simp; omega)) rfl rfl rfl rfl rfl rfl) rfl ?_
  refine kdef (dturn_caught [0, 1] [] rfl rfl rfl (read1_caught _ _ _ _) rfl rfl rfl rfl rfl) ?_
  refine kend0 (rs2 rfl (rv_w tb27 rfl rfl rfl) (rv_1 tb28 rfl rfl rfl)) rfl ?_
  rfl
set_option maxRecDepth 4000 in
set_option maxHeartbeats 1000000 in
theorem read_bad (l : List Nat) (a b c : Nat) (hl : isB l) (hll : l.length ≤ 9223372036854775807) (hR : mach l [0, 0, 0] 0 0 = some [a, b, c]) (hb : b ≤ 8) (hm : mayR ⟨a, b, c⟩ = false) : DFun Tryd.prog 33 [.val (.string (strN l))] [] (.tup [idD ⟨0, 0, 0⟩, .val (.int .i64 210)]) [] := by
  refine dcalls_body (N := 25) 0 (by kernel_rfl) Tryd.func33 rfl rfl rfl (by simp only [fr0, Nat.zero_add, Nat.reduceAdd]; exact rfl) rfl fun s0 hs0 => ?_
  refine dbody_seq rfl hs0 ?_
  refine dwp_holes 2 (by simp only [holes, List.cons_append, List.nil_append]; exact rfl) ?_
  refine dwp_region ?_
  refine walk_w rfl rfl rfl (op_alloc 0 rfl zr27 rfl) (by simp only [upd, List.set_cons_zero, List.set_cons_succ]; exact rfl) ?_
  refine walk_w rfl rfl rfl (op_alloc 1 rfl zr28 rfl) (by simp only [upd, List.set_cons_zero, List.set_cons_succ]; exact rfl) ?_
  refine walk_nil ?_
  refine dbody_defer (l0 := [_]) rfl rfl rfl rfl rfl hs0 ?_
  refine walk_r rfl rfl rfl (op_mkf rfl en (ec (ev1 rfl) (ec (ev1 rfl) en))) ?_
  refine walk_nil ⟨_, _, _, 2, ev1 rfl, Nat.le_trans hs0 (by decide), rfl, ?_⟩
  have hs1 : s0.M.length ≤ 2 := Nat.le_trans hs0 (by decide)
  refine dbody_end rfl hs0 ?_
  refine dwp_seq ?_
  refine dwp_holes 1 (by simp only [holes, List.cons_append, List.nil_append]; exact rfl) ?_
  refine dwp_region ?_
  refine walk_r rfl rfl rfl (op_move (.inl rfl) (ev1 rfl)) ?_
  refine walk_r rfl rfl rfl (dop_call [] [] [] rfl (ev1 rfl) (ec (ev1 rfl) en) rfl rfl (numbers3 l a b c hl hll hR) rfl rfl rfl rfl rfl rfl) ?_
  refine walk_w rfl rfl rfl (op_alloc 2 rfl zr91 rfl) (by simp only [upd, List.set_cons_zero, List.set_cons_succ]; exact rfl) ?_
  refine walk_s rfl rfl (op_stwa rfl tb91 (ev1 rfl) (ev1 rfl) rfl rfl rfl rfl) (by simp only [upd, List.set_cons_zero, List.set_cons_succ]; exact rfl) ?_
  refine walk_nil ?_
  refine dwp_seq ?_
  refine dwp_region ?_
  refine walk_r rfl rfl rfl (op_ixl rfl ar91 (ev1 rfl) (ev1 rfl) (fun _ => by omega)) ?_
  refine walk_r rfl rfl rfl (op_ldo rfl tb25 (ev1 rfl) rfl rfl) ?_
  refine walk_r rfl rfl rfl (op_leq rfl (ev1 rfl) (ev1 rfl)) ?_
  refine walk_r rfl rfl rfl (dop_call [] [] [] rfl (ev1 rfl) (ec (ev1 rfl) en) rfl rfl (needB _ (by simp; omega)) rfl rfl rfl rfl rfl rfl) ?_
  refine walk_nil ?_
  refine dwp_seq ?_
  refine dwp_region ?_
  refine walk_r rfl rfl rfl (op_ixl rfl ar91 (ev1 rfl) (ev1 rfl) (fun _ => by omega)) ?_
  refine walk_r rfl rfl rfl (op_ldo rfl tb25 (ev1 rfl) rfl rfl) ?_
  refine walk_r rfl rfl rfl (op_ixl rfl ar91 (ev1 rfl) (ev1 rfl) (fun _ => by omega)) ?_
  refine walk_r rfl rfl rfl (op_ldo rfl tb25 (ev1 rfl) rfl rfl) ?_
  refine walk_r rfl rfl rfl (op_conv' ty25 kn3 rfl (ev1 rfl) (fun _ => IntWalk.i64_in _ (by omega))) ?_
  refine walk_r rfl rfl rfl (op_ixl rfl ar91 (ev1 rfl) (ev1 rfl) (fun _ => by omega)) ?_
  refine walk_r rfl rfl rfl (op_ldo rfl tb25 (ev1 rfl) rfl rfl) ?_
  refine walk_r rfl rfl rfl (op_build (ps := [(0, .tmp 13), (1, .tmp 16), (2, .tmp 18)]) rfl fl27 zr27 (vc (ev1 rfl) (vc (ev1 rfl) (vc (ev1 rfl) vn))) rfl rfl) ?_
  refine walk_s rfl rfl (op_stwa rfl tb27 (ev1 rfl) (ev1 rfl) rfl rfl rfl rfl) (by simp only [upd, List.set_cons_zero, List.set_cons_succ]; exact rfl) ?_
  refine walk_nil ?_
  refine dwp_seq ?_
  refine dwp_region ?_
  refine walk_r rfl rfl rfl (op_ldw rfl tb27 (ev1 rfl) rfl rfl) ?_
  refine walk_r rfl rfl rfl (dop_call [] [] [] rfl (ev1 rfl) (ec (ev1 rfl) en) rfl rfl (check_d ⟨a, b, c⟩) rfl rfl rfl rfl rfl rfl) ?_
  refine walk_r rfl rfl rfl (op_eql rfl (ev1 rfl) (ev1 rfl)) ?_
  refine walk_p rfl (dop_callP [] [] [] rfl (ev1 rfl) (ec (ev1 rfl) en) rfl rfl (needN _ (by rw [hm]; rfl)) rfl rfl rfl rfl rfl rfl) rfl ?_
  refine kdef (dturn_caught [0, 1] [] rfl rfl rfl (read1_caught _ _ _ _) rfl rfl rfl rfl rfl) ?_
  refine kend0 (rs2 rfl (rv_w tb27 rfl rfl rfl) (rv_1 tb28 rfl rfl rfl)) rfl ?_
  rfl
set_option maxRecDepth 4000 in
set_option maxHeartbeats 1000000 in
theorem read_none (l : List Nat) (hl : isB l) (hll : l.length ≤ 9223372036854775807) (hR : mach l [0, 0, 0] 0 0 = none) : DFun Tryd.prog 33 [.val (.string (strN l))] [] (.tup [idD ⟨0, 0, 0⟩, .val (.int .i64 210)]) [] := by
  refine dcalls_body (N := 25) 0 (by kernel_rfl) Tryd.func33 rfl rfl rfl (by simp only [fr0, Nat.zero_add, Nat.reduceAdd]; exact rfl) rfl fun s0 hs0 => ?_
  refine dbody_seq rfl hs0 ?_
  refine dwp_holes 2 (by simp only [holes, List.cons_append, List.nil_append]; exact rfl) ?_
  refine dwp_region ?_
  refine walk_w rfl rfl rfl (op_alloc 0 rfl zr27 rfl) (by simp only [upd, List.set_cons_zero, List.set_cons_succ]; exact rfl) ?_
  refine walk_w rfl rfl rfl (op_alloc 1 rfl zr28 rfl) (by simp only [upd, List.set_cons_zero, List.set_cons_succ]; exact rfl) ?_
  refine walk_nil ?_
  refine dbody_defer (l0 := [_]) rfl rfl rfl rfl rfl hs0 ?_
  refine walk_r rfl rfl rfl (op_mkf rfl en (ec (ev1 rfl) (ec (ev1 rfl) en))) ?_
  refine walk_nil ⟨_, _, _, 2, ev1 rfl, Nat.le_trans hs0 (by decide), rfl, ?_⟩
  have hs1 : s0.M.length ≤ 2 := Nat.le_trans hs0 (by decide)
  refine dbody_end rfl hs0 ?_
  refine dwp_seq ?_
  refine dwp_holes 1 (by simp only [holes, List.cons_append, List.nil_append]; exact rfl) ?_
  refine dwp_region ?_
  refine walk_r rfl rfl rfl (op_move (.inl rfl) (ev1 rfl)) ?_
  refine walk_p rfl (dop_callP [] [] [] rfl (ev1 rfl) (ec (ev1 rfl) en) rfl rfl (numbers_no l hl hll hR) rfl rfl rfl rfl rfl rfl) rfl ?_
  refine kdef (dturn_caught [0, 1] [] rfl rfl rfl (read1_caught _ _ _ _) rfl rfl rfl rfl rfl) ?_
  refine kend0 (rs2 rfl (rv_w tb27 rfl rfl rfl) (rv_1 tb28 rfl rfl rfl)) rfl ?_
  rfl
/-- the id that is read -/
def readC (l : List Nat) : Option I3 := match mach l [0, 0, 0] 0 0 with
  | some [a, b, c] => if b ≤ 8 ∧ mayR ⟨a, b, c⟩ = true then some ⟨a, b, c⟩ else none
  | _ => none
theorem read_d (l : List Nat) (hl : isB l) (hll : l.length ≤ 9223372036854775807) : DFun Tryd.prog 33 [.val (.string (strN l))] [] (.tup [idD ((readC l).getD ⟨0, 0, 0⟩), .val (.int .i64 (if (readC l).isSome = true then 0 else 210))]) [] := by
  unfold readC
  cases hR : mach l [0, 0, 0] 0 0 with
  | none => exact read_none l hl hll hR
  | some R =>
    have h3 := mach_len _ _ _ _ _ hR
    match R, h3 with
    | [a, b, c], _ =>
      show DFun _ _ _ _ (.tup [idD ((if b ≤ 8 ∧ mayR ⟨a, b, c⟩ = true then some (⟨a, b, c⟩ : I3) else none).getD ⟨0, 0, 0⟩), .val (.int .i64 (if (if b ≤ 8 ∧ mayR ⟨a, b, c⟩ = true then some (⟨a, b, c⟩ : I3) else none).isSome = true then 0 else 210))]) _
      by_cases hb : b ≤ 8
      · cases hm : mayR ⟨a, b, c⟩ with
        | true => rw [if_pos ⟨hb, rfl⟩]; exact read_ok l a b c hl hll hR hb hm
        | false => rw [if_neg (fun h => by cases h.2)]; exact read_bad l a b c hl hll hR hb hm
      · rw [if_neg (fun h => hb h.1)]; exact read_big l a b c hl hll hR hb
end Go.Proofs.YtaekkjhpdendoaaDoor

namespace Go.Proofs.YtaekkjhpdendoaaDoor
set_option linter.unusedVariables false
set_option linter.unusedSimpArgs false
open Go.RowKit
theorem sl55 : slE Tryd.prog 55 = some (9, 1, 16) := by kernel_rfl
theorem tb9 : tyB Tryd.prog 9 = some (false, 1) := by kernel_rfl
theorem zr9 : zrC Tryd.prog 9 = some [.string ⟨#[]⟩] := by kernel_rfl
end Go.Proofs.YtaekkjhpdendoaaDoor

namespace Go.Proofs.YtaekkjhpdendoaaDoor
set_option linter.unusedVariables false
set_option linter.unusedSimpArgs false
open Go.RowKit
def isDg (b : Nat) : Bool := decide (48 ≤ b ∧ b ≤ 57)
def valN (s : List Nat) : Nat := s.foldl (fun n b => 10 * n + (b - 48)) 0
theorem valN_snoc (s : List Nat) (b : Nat) : valN (s ++ [b]) = 10 * valN s + (b - 48) := by simp [valN]
theorem valN_lt : ∀ (n : Nat) (s : List Nat), s.length = n → s.all isDg = true → valN s < 10 ^ n
  | 0, s, h, _ => by rw [List.eq_nil_of_length_eq_zero h]; decide
  | n + 1, s, h, h2 => by
    obtain ⟨t, b, rfl⟩ : ∃ t b, s = t ++ [b] := ⟨s.dropLast, s.getLast (by intro e; subst e; simp at h), (List.dropLast_concat_getLast _).symm⟩
    rw [List.all_append, Bool.and_eq_true] at h2
    have h3 := valN_lt n t (by simpa using h) h2.1
    have h4 : isDg b = true := by simpa using h2.2
    unfold isDg at h4
    have h5 := of_decide_eq_true h4
    rw [valN_snoc, Nat.pow_succ]
    omega
/-- the number of a row of digits -/
def partF (s : List Nat) : Nat × Bool := if s.all isDg = true then (valN (s.take 19), decide (1 ≤ s.length ∧ s.length ≤ 19)) else (0, false)
theorem partF_lt (s : List Nat) : (partF s).1 < 10000000000000000000 := by
  unfold partF
  split
  · rename_i h
    have h1 : (s.take 19).all isDg = true := List.all_eq_true.2 fun x hx => List.all_eq_true.1 h x (List.mem_of_mem_take hx)
    have h2 := valN_lt _ (s.take 19) rfl h1
    have h3 : (s.take 19).length ≤ 19 := by rw [List.length_take]; omega
    have h4 := Nat.pow_le_pow_right (n := 10) (by decide) h3
    exact Nat.lt_of_lt_of_le h2 h4
  · exact Nat.zero_lt_succ _
theorem take_lo {s : List Nat} {k : Nat} (h : k < s.length) : s.take (k + 1) = s.take k ++ [s.getD k 0] := by
  rw [List.take_succ_eq_append_getElem h, List.getD_eq_getElem?_getD, List.getElem?_eq_getElem h]
  rfl
theorem all_take {s : List Nat} {k : Nat} (h : k < s.length) (h1 : (s.take k).all isDg = true) (h2 : isDg (s.getD k 0) = true) : (s.take (k + 1)).all isDg = true := by
  rw [take_lo h, List.all_append, h1]
  simpa using h2
theorem part_no {s : List Nat} {k : Nat} (h : k < s.length) (h2 : isDg (s.getD k 0) = false) : partF s = (0, false) := by
  unfold partF
  rw [if_neg]
  intro e
  have := List.all_eq_true.1 e (s.getD k 0) (by rw [List.getD_eq_getElem?_getD, List.getElem?_eq_getElem h]; exact List.getElem_mem h)
  rw [h2] at this
  cases this
theorem part_yes {s : List Nat} (h : s.all isDg = true) : partF s = (valN (s.take 19), decide (1 ≤ s.length ∧ s.length ≤ 19)) := by
  unfold partF; rw [if_pos h]
theorem val_bd {s : List Nat} {k : Nat} (h : k < 19) (h1 : (s.take k).all isDg = true) : valN (s.take k) < 1000000000000000000 := by
  have h2 := valN_lt _ (s.take k) rfl h1
  have h3 : (s.take k).length ≤ 18 := by rw [List.length_take]; omega
  exact Nat.lt_of_lt_of_le h2 (Nat.pow_le_pow_right (n := 10) (by decide) h3)
set_option maxRecDepth 4000 in
set_option maxHeartbeats 1000000 in
theorem part_d (s : List Nat) (hl : isB s) (hll : s.length ≤ 1000000) : DFun Tryd.prog 53 [.val (.string (strN s))] [] (.tup [.val (.int .u64 (((partF s).1 : Nat) : Int)), .val (.bool (partF s).2)]) [] := by
  refine dcalls_go (N := 41) 0 (by kernel_rfl) Tryd.func53 rfl rfl rfl (by simp only [fr0, Nat.zero_add, Nat.reduceAdd]; exact rfl) rfl fun s0 hs0 => ?_
  refine dwp_seq ?_
  refine dwp_region ?_
  refine walk_r rfl rfl rfl (op_move (.inr rfl) (ev1 rfl)) ?_
  refine walk_r rfl rfl rfl (op_move (.inr rfl) (ev1 rfl)) ?_
  refine walk_nil ?_
  refine dwp_seq ?_
  refine dwp_region ?_
  refine walk_r rfl rfl rfl (op_move (.inr rfl) (ev1 rfl)) ?_
  refine walk_nil ?_
  refine dwp_seq ?_
  refine dwp_seq ?_
  refine dwp_region ?_
  refine walk_r rfl rfl rfl (op_move (.inl rfl) (ev1 rfl)) ?_
  refine walk_r rfl rfl rfl (op_lenn rfl un9 (ev1 rfl)) ?_
  refine walk_r rfl rfl rfl (op_move (.inl rfl) (ev1 rfl)) ?_
  refine walk_nil ?_
  refine dwp_block ?_
  refine dwp_loopS ⟨hs0, rfl⟩ (α := Nat) (fun k => [(4, .val (.int .u64 ((valN (s.take (min k 19)) : Nat) : Int))), (8, .val (.int .i64 (k : Int)))]) [(0, _), (7, _)] (fun k => []) [] (fun k => k ≤ s.length ∧ (s.take k).all isDg = true) (fun k => s.length - k) 0 [] (⟨Nat.zero_le _, rfl⟩) rfl ⟨rfl, rfl, trivial⟩ ⟨rfl, rfl, trivial⟩ trivial ?_
  intro k hx
  simp only [upd, List.set_cons_zero, List.set_cons_succ, List.cons_append, List.nil_append]
  obtain ⟨hk, ha⟩ := hx
  refine dwp_seq ?_
  refine dwp_region ?_
  refine walk_r rfl rfl rfl (op_lss rfl (ev1 rfl) (ev1 rfl)) ?_
  refine walk_nil ?_
  refine dwp_seq ?_
  refine dwp_cond rfl (fun c1 => ?_) (fun c1 => ?_)
  · try simp only [decide_eq_true_eq, decide_eq_false_iff_not, beq_iff_eq, bne_iff_ne, beq_eq_false_iff_ne, bne_eq_false_iff_eq, Bool.not_eq_true', Bool.not_eq_false', Bool.and_eq_true, Bool.or_eq_true, Bool.or_eq_false_iff, ne_eq, Decidable.not_not, Int.not_lt, Int.not_le] at c1
    refine dwp_skip ?_
    refine dwp_seq ?_
    refine dwp_block ?_
    refine dwp_seq ?_
    have hkl : k < s.length := by omega
    refine dwp_region ?_
    refine walk_r rfl rfl rfl (op_move (.inl rfl) (ev1 rfl)) ?_
    refine walk_r rfl rfl rfl (op_move (.inr rfl) (ev1 rfl)) ?_
    refine walk_nil ?_
    refine dwp_seq ?_
    refine dwp_seq ?_
    refine dwp_region ?_
    refine walk_r rfl rfl rfl (op_move (.inl rfl) (ev1 rfl)) ?_
    refine walk_r rfl rfl rfl (op_move (.inl rfl) (ev1 rfl)) ?_
    refine walk_r rfl rfl rfl (op_ixn (k) (hl) rfl un9 (ev1 rfl) (ev1 rfl) (fun _ => by omega) (fun _ => by omega)) ?_
    refine walk_r rfl rfl rfl (op_lss rfl (ev1 rfl) (ev1 rfl)) ?_
    refine walk_r rfl rfl rfl (op_move (.inl rfl) (ev1 rfl)) ?_
    refine walk_gr (gd_f rfl rfl rfl) rfl rfl rfl (op_move (.inl rfl) (ev1 rfl)) ?_
    refine walk_gr (gd_f rfl rfl rfl) rfl rfl rfl (op_move (.inl rfl) (ev1 rfl)) ?_
    refine walk_gr (gd_f rfl rfl rfl) rfl rfl rfl (op_ixn (k) (hl) rfl un9 (ev2 rfl) (ev2 rfl) (fun _ => by omega) (fun _ => by omega)) ?_
    refine walk_gr (gd_f rfl rfl rfl) rfl rfl rfl (op_gtr rfl (ev2 rfl) (ev1 rfl)) ?_
    refine walk_r rfl rfl rfl (op_or rfl (ev1 rfl) (ev3 rfl id)) ?_
    refine walk_nil ?_
    refine dwp_cond rfl (fun c20 => ?_) (fun c20 => ?_)
    · have hno : isDg (s.getD k 0) = false := by
        rw [Bool.or_eq_true] at c20
        unfold isDg
        refine decide_eq_false (fun h => ?_)
        rcases c20 with g | g
        · have := of_decide_eq_true g; omega
        · have := of_decide_eq_true g; omega
      refine dwp_seq ?_
      refine dwp_region ?_
      refine walk_r rfl rfl rfl (op_move (.inr rfl) (ev1 rfl)) ?_
      refine walk_r rfl rfl rfl (op_move (.inr rfl) (ev1 rfl)) ?_
      refine walk_nil ?_
      refine dwp_ret ?_
      refine kend0 (rs2 rfl (rv_t rfl) (rv_t rfl)) rfl ?_
      rw [part_no hkl hno]; rfl
    · have hyes : isDg (s.getD k 0) = true := by
        rw [Bool.or_eq_false_iff] at c20
        have g1 := of_decide_eq_false c20.1
        have g2 := of_decide_eq_false c20.2
        unfold isDg
        exact decide_eq_true (by omega)
      have hall := all_take hkl ha hyes
      have hdg := of_decide_eq_true hyes
      refine dwp_skip ?_
      refine dwp_seq ?_
      refine dwp_region ?_
      refine walk_r rfl rfl rfl (op_move (.inl rfl) (ev1 rfl)) ?_
      refine walk_r rfl rfl rfl (op_lss rfl (ev1 rfl) (ev1 rfl)) ?_
      refine walk_nil ?_
      refine dwp_cond rfl (fun c3 => ?_) (fun c3 => ?_)
      · try simp only [decide_eq_true_eq, decide_eq_false_iff_not, beq_iff_eq, bne_iff_ne, beq_eq_false_iff_ne, bne_eq_false_iff_eq, Bool.not_eq_true', Bool.not_eq_false', Bool.and_eq_true, Bool.or_eq_true, Bool.or_eq_false_iff, ne_eq, Decidable.not_not, Int.not_lt, Int.not_le] at c3
        have hbd := val_bd (k := k) (s := s) (by omega) ha
        rw [show min k 19 = k by omega]
        refine dwp_region ?_
        refine walk_r rfl rfl rfl (op_move (.inl rfl) (ev1 rfl)) ?_
        refine walk_r rfl rfl rfl (op_mul' rfl (ev1 rfl) (ev1 rfl) (fun _ => IntWalk.u64_in _ (by omega))) ?_
        refine walk_r rfl rfl rfl (op_move (.inl rfl) (ev1 rfl)) ?_
        refine walk_r rfl rfl rfl (op_move (.inl rfl) (ev1 rfl)) ?_
        refine walk_r rfl rfl rfl (op_ixn (k) (hl) rfl un9 (ev1 rfl) (ev1 rfl) (fun _ => by omega) (fun _ => by omega)) ?_
        refine walk_r rfl rfl rfl (op_sub' rfl (ev1 rfl) (ev1 rfl) (fun _ => IntWalk.u8_in _ (by omega))) ?_
        refine walk_r rfl rfl rfl (op_conv' ty5 kn25 rfl (ev1 rfl) (fun _ => IntWalk.u64_in _ (by omega))) ?_
        refine walk_r rfl rfl rfl (op_add' rfl (ev1 rfl) (ev1 rfl) (fun _ => IntWalk.u64_in _ (by omega))) ?_
        refine walk_r rfl rfl rfl (op_move (.inr rfl) (ev1 rfl)) ?_
        refine walk_nil ?_
        refine dwp_region ?_
        refine walk_r rfl rfl rfl (op_add' rfl (ev1 rfl) (ev1 rfl) (fun _ => IntWalk.i64_in _ (by omega))) ?_
        refine walk_r rfl rfl rfl (op_move (.inl rfl) (ev1 rfl)) ?_
        refine walk_nil ?_
        refine ⟨k + 1, [], ⟨by omega, hall⟩, by simp only []; omega, rfl, ⟨congrArg (fun z => some (D.val (.int .u64 z))) (by rw [show min (k + 1) 19 = k + 1 by omega, take_lo hkl, valN_snoc]; omega), rfl, rfl, rfl, trivial⟩, trivial⟩
      · try simp only [decide_eq_true_eq, decide_eq_false_iff_not, beq_iff_eq, bne_iff_ne, beq_eq_false_iff_ne, bne_eq_false_iff_eq, Bool.not_eq_true', Bool.not_eq_false', Bool.and_eq_true, Bool.or_eq_true, Bool.or_eq_false_iff, ne_eq, Decidable.not_not, Int.not_lt, Int.not_le] at c3
        refine dwp_skip ?_
        refine dwp_region ?_
        refine walk_r rfl rfl rfl (op_add' rfl (ev1 rfl) (ev1 rfl) (fun _ => IntWalk.i64_in _ (by omega))) ?_
        refine walk_r rfl rfl rfl (op_move (.inl rfl) (ev1 rfl)) ?_
        refine walk_nil ?_
        refine ⟨k + 1, [], ⟨by omega, hall⟩, by simp only []; omega, rfl, ⟨by rw [show min (k + 1) 19 = min k 19 by omega]; rfl, rfl, rfl, rfl, trivial⟩, trivial⟩
  · try simp only [decide_eq_true_eq, decide_eq_false_iff_not, beq_iff_eq, bne_iff_ne, beq_eq_false_iff_ne, bne_eq_false_iff_eq, Bool.not_eq_true', Bool.not_eq_false', Bool.and_eq_true, Bool.or_eq_true, Bool.or_eq_false_iff, ne_eq, Decidable.not_not, Int.not_lt, Int.not_le] at c1
    refine dwp_exit ?_
    refine dwp_seq ?_
    obtain rfl : k = s.length := by omega
    rw [List.take_length] at ha
    have hp := part_yes ha
    refine dwp_region ?_
    refine walk_r rfl rfl rfl (op_move (.inl rfl) (ev1 rfl)) ?_
    refine walk_r rfl rfl rfl (op_move (.inl rfl) (ev1 rfl)) ?_
    refine walk_r rfl rfl rfl (op_lenn rfl un9 (ev1 rfl)) ?_
    refine walk_r rfl rfl rfl (op_geq rfl (ev1 rfl) (ev1 rfl)) ?_
    refine walk_r rfl rfl rfl (op_move (.inl rfl) (ev1 rfl)) ?_
    refine walk_gr (gd_t rfl rfl rfl) rfl rfl rfl (op_move (.inl rfl) (ev1 rfl)) ?_
    refine walk_gr (gd_t rfl rfl rfl) rfl rfl rfl (op_lenn rfl un9 (ev2 rfl)) ?_
    refine walk_gr (gd_t rfl rfl rfl) rfl rfl rfl (op_leq rfl (ev2 rfl) (ev1 rfl)) ?_
    refine walk_r rfl rfl rfl (op_and rfl (ev1 rfl) (ev3 rfl id)) ?_
    refine walk_r rfl rfl rfl (op_move (.inr rfl) (ev1 rfl)) ?_
    refine walk_r rfl rfl rfl (op_move (.inr rfl) (ev1 rfl)) ?_
    refine walk_nil ?_
    refine dwp_ret ?_
    refine kend0 (rs2 rfl (rv_t rfl) (rv_t rfl)) rfl ?_
    rw [hp]
    rw [show s.take (min s.length 19) = s.take 19 by rw [Nat.min_comm, ← List.take_take, List.take_length]]
    have e1 : ∀ n : Nat, (decide ((1 : Int) ≤ (n : Int)) && decide ((n : Int) ≤ 19)) = decide (1 ≤ n ∧ n ≤ 19) := fun n => by
      rw [Bool.decide_and]
      congr 1 <;> exact decide_eq_decide.2 (by omega)
    rw [e1]
end Go.Proofs.YtaekkjhpdendoaaDoor

namespace Go.Proofs.YtaekkjhpdendoaaDoor
set_option linter.unusedVariables false
set_option linter.unusedSimpArgs false
open Go.RowKit
/-- parts between points -/
def sp : List Nat → List Nat → List (List Nat)
  | [], cur => [cur]
  | b :: r, cur => if b = 46 then cur :: sp r [] else sp r (cur ++ [b])
theorem sp_dot (r cur : List Nat) : sp (46 :: r) cur = cur :: sp r [] := by rw [sp, if_pos rfl]
theorem sp_num {b : Nat} (h : b ≠ 46) (r cur : List Nat) : sp (b :: r) cur = sp r (cur ++ [b]) := by rw [sp, if_neg h]
theorem sp_mem : ∀ (l cur : List Nat) (p : List Nat), p ∈ sp l cur → (∀ x ∈ p, x ∈ cur ∨ x ∈ l) ∧ p.length ≤ cur.length + l.length
  | [], cur, p, h => by
    have : p = cur := by simpa [sp] using h
    subst this
    exact ⟨fun x hx => .inl hx, by simp⟩
  | b :: r, cur, p, h => by
    by_cases hb : b = 46
    · subst hb
      rw [sp_dot] at h
      rcases List.mem_cons.1 h with rfl | h
      · exact ⟨fun x hx => .inl hx, by simp⟩
      · obtain ⟨h1, h2⟩ := sp_mem r [] p h
        refine ⟨fun x hx => (h1 x hx).elim (fun e => by cases e) (fun e => .inr (List.mem_cons_of_mem _ e)), ?_⟩
        simp at h2 ⊢; omega
    · rw [sp_num hb] at h
      obtain ⟨h1, h2⟩ := sp_mem r (cur ++ [b]) p h
      refine ⟨fun x hx => (h1 x hx).elim (fun e => ?_) (fun e => .inr (List.mem_cons_of_mem _ e)), ?_⟩
      · rcases List.mem_append.1 e with e | e
        · exact .inl e
        · have : x = b := by simpa using e
          exact .inr (by rw [this]; exact List.mem_cons_self ..)
      · simp at h2 ⊢; omega
theorem sp_B {l p : List Nat} (hl : isB l) (h : p ∈ sp l []) : isB p ∧ p.length ≤ l.length := by
  obtain ⟨h1, h2⟩ := sp_mem l [] p h
  exact ⟨fun x hx => (h1 x hx).elim (fun e => by cases e) (hl x), by simpa using h2⟩
def curK (l : List Nat) (f k : Nat) : List Nat := (l.drop f).take (k - f)
theorem curK_succ {l : List Nat} {f k : Nat} (h : f ≤ k) (hk : k < l.length) : curK l f (k + 1) = curK l f k ++ [l.getD k 0] := by
  unfold curK
  rw [show k + 1 - f = (k - f) + 1 by omega, List.take_succ_eq_append_getElem (by rw [List.length_drop]; omega), List.getElem_drop, List.getD_eq_getElem?_getD, List.getElem?_eq_getElem hk]
  simp [show f + (k - f) = k by omega]
theorem curK_0 (l : List Nat) (f : Nat) : curK l f f = [] := by unfold curK; rw [Nat.sub_self]; rfl
/-- parts so far -/
def spInv (l : List Nat) (k f : Nat) (ps : List (List Nat)) : Prop := (k ≤ l.length → ps ++ sp (l.drop k) (curK l f k) = sp l []) ∧ (k = l.length + 1 → ps = sp l [])
theorem spInv_0 (l : List Nat) : spInv l 0 0 [] := ⟨fun _ => by rw [curK_0]; rfl, fun h => by omega⟩
theorem spInv_cut {l : List Nat} {k f : Nat} {ps : List (List Nat)} (hk : k ≤ l.length) (h : spInv l k f ps) (hc : k = l.length ∨ k < l.length ∧ l.getD k 0 = 46) : spInv l (k + 1) (k + 1) (ps ++ [curK l f k]) := by
  have h1 := h.1 hk
  rcases hc with rfl | ⟨hlt, hc⟩
  · rw [List.drop_of_length_le (Nat.le_refl _)] at h1
    exact ⟨fun h => by omega, fun _ => h1⟩
  · refine ⟨fun _ => ?_, fun h => by omega⟩
    rw [drop_at hlt, hc, sp_dot] at h1
    rw [curK_0, List.append_assoc]
    exact h1
theorem spInv_on {l : List Nat} {k f : Nat} {ps : List (List Nat)} (hf : f ≤ k) (hk : k < l.length) (h : spInv l k f ps) (hc : l.getD k 0 ≠ 46) : spInv l (k + 1) f ps := by
  have h1 := h.1 (by omega)
  refine ⟨fun _ => ?_, fun h => by omega⟩
  rw [drop_at hk, sp_num hc] at h1
  rw [curK_succ hf hk]
  exact h1
def st8 (p : List Nat) : List Value := [.string (strN p)]
def idP (p0 p1 p2 : List Nat) : I3 := ⟨((partF p0).1 : Nat), ((partF p1).1 : Nat), ((partF p2).1 : Nat)⟩
def okP (p0 p1 p2 : List Nat) : Prop := ((partF p0).2 = true ∧ (partF p1).2 = true) ∧ (partF p2).2 = true ∧ (partF p1).1 ≤ 8
instance (p0 p1 p2 : List Nat) : Decidable (okP p0 p1 p2) := by unfold okP; infer_instance
/-- what the document reads -/
def refF (l : List Nat) : I3 × Bool := match sp l [] with
  | [p0, p1, p2] => if okP p0 p1 p2 then (idP p0 p1 p2, mayR (idP p0 p1 p2) && decide (tx (idP p0 p1 p2) = l)) else (⟨0, 0, 0⟩, false)
  | _ => (⟨0, 0, 0⟩, false)
theorem refF_no {l : List Nat} (h : (sp l []).length ≠ 3) : refF l = (⟨0, 0, 0⟩, false) := by
  unfold refF
  split
  · rename_i e; rw [e] at h; exact absurd rfl h
  · rfl
theorem refF_3 {l p0 p1 p2 : List Nat} (e : sp l [] = [p0, p1, p2]) : refF l = if okP p0 p1 p2 then (idP p0 p1 p2, mayR (idP p0 p1 p2) && decide (tx (idP p0 p1 p2) = l)) else (⟨0, 0, 0⟩, false) := by
  unfold refF
  rw [e]
theorem idP_rng {p0 p1 p2 : List Nat} (h : okP p0 p1 p2) : (idP p0 p1 p2).rng := by
  have h0 := partF_lt p0
  have h1 := h.2.2
  have h2 := partF_lt p2
  refine ⟨?_, ?_, ?_⟩ <;> (simp only [idP]; omega)
theorem three {l : List (List Nat)} (h : l.length = 3) : ∃ a b c, l = [a, b, c] := by
  match l, h with
  | [a, b, c], _ => exact ⟨a, b, c, rfl⟩
theorem no_okP {p0 p1 p2 : List Nat} (h : ¬ okP p0 p1 p2) : (((!(partF p0).2 || !(partF p1).2) || !(partF p2).2) || decide ((8 : Int) < (((partF p1).1 : Nat) : Int))) = true := by
  cases h0 : (partF p0).2 <;> cases h1 : (partF p1).2 <;> cases h2 : (partF p2).2 <;> simp
  rcases Nat.lt_or_ge 8 (partF p1).1 with h3 | h3
  · omega
  · exact absurd ⟨⟨h0, h1⟩, h2, h3⟩ h
set_option maxRecDepth 4000 in
set_option maxHeartbeats 1000000 in
theorem rread_d (l : List Nat) (hl : isB l) (hll : l.length ≤ 1000000) : DFun Tryd.prog 34 [.val (.string (strN l))] [] (.tup [idD (refF l).1, .val (.bool (refF l).2)]) [] := by
  refine dcalls_go (N := 94) 0 (by kernel_rfl) Tryd.func34 rfl rfl rfl (by simp only [fr0, Nat.zero_add, Nat.reduceAdd]; exact rfl) rfl fun s0 hs0 => ?_
  refine dwp_seq ?_
  refine dwp_holes 1 (by simp only [holes, List.cons_append, List.nil_append]; exact rfl) ?_
  refine dwp_region ?_
  refine walk_w rfl rfl rfl (op_alloc 0 rfl zr27 rfl) (by simp only [upd, List.set_cons_zero, List.set_cons_succ]; exact rfl) ?_
  refine walk_r rfl rfl rfl (op_move (.inr rfl) (ev1 rfl)) ?_
  refine walk_nil ?_
  refine dwp_seq ?_
  refine dwp_region ?_
  refine walk_r rfl rfl rfl (op_move (.inr rfl) (ev1 rfl)) ?_
  refine walk_nil ?_
  refine dwp_seq ?_
  refine dwp_region ?_
  refine walk_r rfl rfl rfl (op_move (.inr rfl) (ev1 rfl)) ?_
  refine walk_nil ?_
  refine dwp_seq ?_
  refine dwp_seq ?_
  refine dwp_region ?_
  refine walk_r rfl rfl rfl (op_move (.inl rfl) (ev1 rfl)) ?_
  refine walk_r rfl rfl rfl (op_lenn rfl un9 (ev1 rfl)) ?_
  refine walk_r rfl rfl rfl (op_add' rfl (ev1 rfl) (ev1 rfl) (fun _ => IntWalk.i64_in _ (by omega))) ?_
  refine walk_r rfl rfl rfl (op_move (.inl rfl) (ev1 rfl)) ?_
  refine walk_nil ?_
  refine dwp_block ?_
  refine dwp_adopt 4 9 1 rfl rfl rfl ?_
  refine dwp_loopS ⟨hs0, rfl⟩ (α := Nat × Nat × List (List Nat)) (fun x => [(5, .val (.int .i64 (x.2.1 : Int))), (17, .val (.int .i64 (x.1 : Int)))]) [(0, _), (2, _), (4, _), (16, _)] (fun x => [(1, .arr 9 1 (x.2.2).length ((x.2.2).flatMap st8))]) [_, .hole] (fun x => x.1 ≤ l.length + 1 ∧ x.2.1 ≤ x.1 ∧ x.2.2.length ≤ x.1 ∧ spInv l x.1 x.2.1 x.2.2) (fun x => l.length + 1 - x.1) (0, 0, []) [0, 1] (⟨Nat.zero_le _, Nat.le_refl _, Nat.le_refl _, spInv_0 l⟩) rfl ⟨rfl, rfl, rfl, rfl, trivial⟩ ⟨rfl, rfl, trivial⟩ ⟨rfl, rfl, trivial⟩ ?_
  intro x hx
  simp only [upd, List.set_cons_zero, List.set_cons_succ, List.cons_append, List.nil_append]
  obtain ⟨k, f, ps⟩ := x
  obtain ⟨hk, hf, hps, hsp⟩ := hx
  dsimp only at hk hf hps hsp ⊢
  refine dwp_seq ?_
  refine dwp_region ?_
  refine walk_r rfl rfl rfl (op_lss rfl (ev1 rfl) (ev1 rfl)) ?_
  refine walk_nil ?_
  refine dwp_seq ?_
  refine dwp_cond rfl (fun c1 => ?_) (fun c1 => ?_)
  · try simp only [decide_eq_true_eq, decide_eq_false_iff_not, beq_iff_eq, bne_iff_ne, beq_eq_false_iff_ne, bne_eq_false_iff_eq, Bool.not_eq_true', Bool.not_eq_false', Bool.and_eq_true, Bool.or_eq_true, Bool.or_eq_false_iff, ne_eq, Decidable.not_not, Int.not_lt, Int.not_le] at c1
    refine dwp_skip ?_
    refine dwp_seq ?_
    refine dwp_block ?_
    refine dwp_seq ?_
    refine dwp_region ?_
    refine walk_r rfl rfl rfl (op_move (.inl rfl) (ev1 rfl)) ?_
    refine walk_r rfl rfl rfl (op_move (.inr rfl) (ev1 rfl)) ?_
    refine walk_nil ?_
    refine dwp_seq ?_
    refine dwp_region ?_
    refine walk_r rfl rfl rfl (op_move (.inl rfl) (ev1 rfl)) ?_
    refine walk_r rfl rfl rfl (op_move (.inl rfl) (ev1 rfl)) ?_
    refine walk_r rfl rfl rfl (op_lenn rfl un9 (ev1 rfl)) ?_
    refine walk_r rfl rfl rfl (op_eql rfl (ev1 rfl) (ev1 rfl)) ?_
    refine walk_r rfl rfl rfl (op_move (.inl rfl) (ev1 rfl)) ?_
    refine walk_gr (gd_f rfl rfl rfl) rfl rfl rfl (op_move (.inl rfl) (ev1 rfl)) ?_
    refine walk_gr (gd_f rfl rfl rfl) rfl rfl rfl (op_move (.inl rfl) (ev1 rfl)) ?_
    refine walk_gr (gd_f rfl rfl rfl) rfl rfl rfl (op_ixn (k) (hl) rfl un9 (ev2 rfl) (ev2 rfl) (fun _ => by omega) (fun hp => by simp at hp; omega)) ?_
    refine walk_gr (gd_f rfl rfl rfl) rfl rfl rfl (op_eql rfl (ev2 rfl) (ev1 rfl)) ?_
    refine walk_r rfl rfl rfl (op_or rfl (ev1 rfl) (ev3 rfl id)) ?_
    refine walk_nil ?_
    refine dwp_cond rfl (fun c29 => ?_) (fun c29 => ?_)
    · have hcut : k = l.length ∨ k < l.length ∧ l.getD k 0 = 46 := by
        rw [Bool.or_eq_true] at c29
        rcases c29 with g | g
        · have := eq_of_beq g; left; omega
        · have := eq_of_beq g
          by_cases e : k = l.length
          · exact .inl e
          · right; omega
      refine dwp_seq ?_
      refine dwp_holes 1 (by simp only [holes, List.cons_append, List.nil_append]; exact rfl) ?_
      refine dwp_region ?_
      refine walk_r rfl rfl rfl (op_move (.inl rfl) (ev1 rfl)) ?_
      refine walk_r rfl rfl rfl (op_move (.inl rfl) (ev1 rfl)) ?_
      refine walk_r rfl rfl rfl (op_move (.inl rfl) (ev1 rfl)) ?_
      refine walk_r rfl rfl rfl (op_move (.inl rfl) (ev1 rfl)) ?_
      refine walk_r rfl rfl rfl (op_slnn (i := f) (j := k) rfl un9 (ev1 rfl) (bd_some (ev1 rfl)) (bd_some (ev1 rfl)) (fun _ => by omega) (fun _ => by omega) (fun _ => by omega)) ?_
      refine walk_r rfl rfl rfl (op_bs (ps := [(0, .tmp 34)]) rfl sl55 zr9 rfl (vc (ev1 rfl) vn) rfl (by decide) (by decide)) ?_
      refine walk_w rfl rfl rfl (op_app (j := 2) rfl sl55 zr9 rfl (ev1 rfl) (ev1 rfl) src_slf rfl rfl (fun _ => rfl) (fun _ => ⟨by omega, by omega⟩)) (by simp only [upd, List.set_cons_zero, List.set_cons_succ]; exact rfl) ?_
      refine walk_r rfl rfl rfl (op_move (.inr rfl) (ev1 rfl)) ?_
      refine walk_nil ?_
      refine dwp_region ?_
      refine walk_r rfl rfl rfl (op_move (.inl rfl) (ev1 rfl)) ?_
      refine walk_r rfl rfl rfl (op_add' rfl (ev1 rfl) (ev1 rfl) (fun _ => IntWalk.i64_in _ (by omega))) ?_
      refine walk_r rfl rfl rfl (op_move (.inr rfl) (ev1 rfl)) ?_
      refine walk_nil ?_
      refine dwp_region ?_
      refine walk_r rfl rfl rfl (op_add' rfl (ev1 rfl) (ev1 rfl) (fun _ => IntWalk.i64_in _ (by omega))) ?_
      refine walk_r rfl rfl rfl (op_move (.inl rfl) (ev1 rfl)) ?_
      refine walk_nil ?_
      refine ⟨(k + 1, k + 1, ps ++ [curK l f k]), [0, 2], ⟨by dsimp only; omega, Nat.le_refl _, by simp; omega, spInv_cut (by omega) hsp hcut⟩, by dsimp only; omega, rfl, ⟨rfl, rfl, rfl, rfl, rfl, rfl, trivial⟩, ⟨rfl, arr_eq (by simp) (by rw [List.flatMap_append]; rfl), trivial⟩⟩
    · have hon : k < l.length ∧ l.getD k 0 ≠ 46 := by
        rw [Bool.or_eq_false_iff] at c29
        have g1 := ne_of_beq_false c29.1
        have g2 := ne_of_beq_false c29.2
        exact ⟨by omega, fun e => g2 (by rw [e]; rfl)⟩
      refine dwp_skip ?_
      refine dwp_region ?_
      refine walk_r rfl rfl rfl (op_add' rfl (ev1 rfl) (ev1 rfl) (fun _ => IntWalk.i64_in _ (by omega))) ?_
      refine walk_r rfl rfl rfl (op_move (.inl rfl) (ev1 rfl)) ?_
      refine walk_nil ?_
      refine ⟨(k + 1, f, ps), [0, 1], ⟨by dsimp only; omega, by dsimp only; omega, by dsimp only; omega, spInv_on hf hon.1 hsp hon.2⟩, by dsimp only; omega, rfl, ⟨rfl, rfl, rfl, rfl, rfl, rfl, trivial⟩, ⟨rfl, rfl, trivial⟩⟩
  · try simp only [decide_eq_true_eq, decide_eq_false_iff_not, beq_iff_eq, bne_iff_ne, beq_eq_false_iff_ne, bne_eq_false_iff_eq, Bool.not_eq_true', Bool.not_eq_false', Bool.and_eq_true, Bool.or_eq_true, Bool.or_eq_false_iff, ne_eq, Decidable.not_not, Int.not_lt, Int.not_le] at c1
    refine dwp_exit ?_
    refine dwp_seq ?_
    refine dwp_seq ?_
    by_cases h3 : (sp l []).length = 3
    · obtain rfl : k = l.length + 1 := by omega
      obtain rfl : ps = sp l [] := hsp.2 rfl
      obtain ⟨p0, p1, p2, e3⟩ := three h3
      have b0 := sp_B hl (show p0 ∈ sp l [] by rw [e3]; simp)
      have b1 := sp_B hl (show p1 ∈ sp l [] by rw [e3]; simp)
      have b2 := sp_B hl (show p2 ∈ sp l [] by rw [e3]; simp)
      rw [refF_3 e3, e3]
      refine dwp_region ?_
      refine walk_r rfl rfl rfl (op_move (.inl rfl) (ev1 rfl)) ?_
      refine walk_r rfl rfl rfl (op_lena rfl sl55 (ev1 rfl) rfl) ?_
      refine walk_r rfl rfl rfl (op_neq rfl (ev1 rfl) (ev1 rfl)) ?_
      refine walk_nil ?_
      refine dwp_if_f rfl (rfl) ?_
      refine dwp_skip ?_
      refine dwp_seq ?_
      refine dwp_region ?_
      refine walk_r rfl rfl rfl (op_move (.inl rfl) (ev1 rfl)) ?_
      refine walk_r rfl rfl rfl (op_ixar (j := 0) rfl sl55 (ev1 rfl) (ev1 rfl) rfl (fun _ => rfl) (fun _ => by simp)) ?_
      refine walk_r rfl rfl rfl (op_lda1 rfl tb9 (ev1 rfl) rfl (fun _ => rfl) (by simp) rfl) ?_
      refine walk_r rfl rfl rfl (dop_call [] [] [] rfl (ev1 rfl) (ec (ev1 rfl) en) rfl rfl (part_d p0 b0.1 (by have := b0.2; omega)) rfl rfl rfl rfl rfl rfl) ?_
      refine walk_r rfl rfl rfl (op_move (.inl rfl) (ev1 rfl)) ?_
      refine walk_r rfl rfl rfl (op_ext rfl (ev1 rfl) rfl) ?_
      refine walk_r rfl rfl rfl (op_ext rfl (ev1 rfl) rfl) ?_
      refine walk_r rfl rfl rfl (op_move (.inr rfl) (ev1 rfl)) ?_
      refine walk_r rfl rfl rfl (op_move (.inr rfl) (ev1 rfl)) ?_
      refine walk_nil ?_
      refine dwp_seq ?_
      refine dwp_region ?_
      refine walk_r rfl rfl rfl (op_move (.inl rfl) (ev1 rfl)) ?_
      refine walk_r rfl rfl rfl (op_ixar (j := 1) rfl sl55 (ev1 rfl) (ev1 rfl) rfl (fun _ => rfl) (fun _ => by simp)) ?_
      refine walk_r rfl rfl rfl (op_lda1 rfl tb9 (ev1 rfl) rfl (fun _ => rfl) (by simp) rfl) ?_
      refine walk_r rfl rfl rfl (dop_call [] [] [] rfl (ev1 rfl) (ec (ev1 rfl) en) rfl rfl (part_d p1 b1.1 (by have := b1.2; omega)) rfl rfl rfl rfl rfl rfl) ?_
      refine walk_r rfl rfl rfl (op_move (.inl rfl) (ev1 rfl)) ?_
      refine walk_r rfl rfl rfl (op_ext rfl (ev1 rfl) rfl) ?_
      refine walk_r rfl rfl rfl (op_ext rfl (ev1 rfl) rfl) ?_
      refine walk_r rfl rfl rfl (op_move (.inr rfl) (ev1 rfl)) ?_
      refine walk_r rfl rfl rfl (op_move (.inr rfl) (ev1 rfl)) ?_
      refine walk_nil ?_
      refine dwp_seq ?_
      refine dwp_region ?_
      refine walk_r rfl rfl rfl (op_move (.inl rfl) (ev1 rfl)) ?_
      refine walk_r rfl rfl rfl (op_ixar (j := 2) rfl sl55 (ev1 rfl) (ev1 rfl) rfl (fun _ => rfl) (fun _ => by simp)) ?_
      refine walk_r rfl rfl rfl (op_lda1 rfl tb9 (ev1 rfl) rfl (fun _ => rfl) (by simp) rfl) ?_
      refine walk_r rfl rfl rfl (dop_call [] [] [] rfl (ev1 rfl) (ec (ev1 rfl) en) rfl rfl (part_d p2 b2.1 (by have := b2.2; omega)) rfl rfl rfl rfl rfl rfl) ?_
      refine walk_r rfl rfl rfl (op_move (.inl rfl) (ev1 rfl)) ?_
      refine walk_r rfl rfl rfl (op_ext rfl (ev1 rfl) rfl) ?_
      refine walk_r rfl rfl rfl (op_ext rfl (ev1 rfl) rfl) ?_
      refine walk_r rfl rfl rfl (op_move (.inr rfl) (ev1 rfl)) ?_
      refine walk_r rfl rfl rfl (op_move (.inr rfl) (ev1 rfl)) ?_
      refine walk_nil ?_
      refine dwp_seq ?_
      refine dwp_seq ?_
      by_cases hg : okP p0 p1 p2
      · rw [if_pos hg]
        have g8 := hg.2.2
        have hrn := idP_rng hg
        refine dwp_region ?_
        refine walk_r rfl rfl rfl (op_move (.inl rfl) (ev1 rfl)) ?_
        refine walk_r rfl rfl rfl (op_not rfl (ev1 rfl)) ?_
        refine walk_r rfl rfl rfl (op_move (.inl rfl) (ev1 rfl)) ?_
        refine walk_gr (gd_f rfl rfl rfl) rfl rfl rfl (op_move (.inl rfl) (ev1 rfl)) ?_
        refine walk_gr (gd_f rfl rfl rfl) rfl rfl rfl (op_not rfl (ev2 rfl)) ?_
        refine walk_r rfl rfl rfl (op_or rfl (ev1 rfl) (ev3 rfl id)) ?_
        refine walk_r rfl rfl rfl (op_move (.inl rfl) (ev1 rfl)) ?_
        refine walk_gr (gd_f rfl rfl rfl) rfl rfl rfl (op_move (.inl rfl) (ev1 rfl)) ?_
        refine walk_gr (gd_f rfl rfl rfl) rfl rfl rfl (op_not rfl (ev2 rfl)) ?_
        refine walk_r rfl rfl rfl (op_or rfl (ev1 rfl) (ev3 rfl id)) ?_
        refine walk_r rfl rfl rfl (op_move (.inl rfl) (ev1 rfl)) ?_
        refine walk_gr (gd_f rfl rfl rfl) rfl rfl rfl (op_move (.inl rfl) (ev1 rfl)) ?_
        refine walk_gr (gd_f rfl rfl rfl) rfl rfl rfl (op_gtr rfl (ev2 rfl) (ev1 rfl)) ?_
        refine walk_r rfl rfl rfl (op_or rfl (ev1 rfl) (ev3 rfl id)) ?_
        refine walk_nil ?_
        refine dwp_if_f rfl (by
        obtain ⟨⟨g1, g2⟩, g3, g4⟩ := hg
        simp only [g1, g2, g3]
        simp
        omega) ?_
        refine dwp_skip ?_
        refine dwp_seq ?_
        refine dwp_holes 1 (by simp only [holes, List.cons_append, List.nil_append]; exact rfl) ?_
        refine dwp_region ?_
        refine walk_r rfl rfl rfl (op_move (.inl rfl) (ev1 rfl)) ?_
        refine walk_r rfl rfl rfl (op_move (.inl rfl) (ev1 rfl)) ?_
        refine walk_r rfl rfl rfl (op_conv' ty25 kn3 rfl (ev1 rfl) (fun _ => IntWalk.i64_in _ (by omega))) ?_
        refine walk_r rfl rfl rfl (op_move (.inl rfl) (ev1 rfl)) ?_
        refine walk_r rfl rfl rfl (op_build (ps := [(0, .tmp 80), (1, .tmp 82), (2, .tmp 83)]) rfl fl27 zr27 (vc (ev1 rfl) (vc (ev1 rfl) (vc (ev1 rfl) vn))) rfl rfl) ?_
        refine walk_w rfl rfl rfl (op_alloc 2 rfl zr27 rfl) (by simp only [upd, List.set_cons_zero, List.set_cons_succ]; exact rfl) ?_
        refine walk_s rfl rfl (op_stwa rfl tb27 (ev1 rfl) (ev1 rfl) rfl rfl rfl rfl) (by simp only [upd, List.set_cons_zero, List.set_cons_succ]; exact rfl) ?_
        refine walk_nil ?_
        refine dwp_seq ?_
        refine dwp_draw [([2], []), ([2], []), ([], []), ([], []), ([2], []), ([], []), ([], []), ([], []), ([], []), ([0], [0]), ([], [])] mixed (by kernel_rfl) ?_
        refine lex_r rfl rfl (op_ldw rfl tb27 (ev1 rfl) rfl rfl) ?_
        refine lex_r rfl rfl (op_ldw rfl tb27 (ev1 rfl) rfl rfl) ?_
        refine lex_r rfl rfl (dop_call [] [] [] rfl (ev1 rfl) (ec (ev1 rfl) en) rfl rfl (refRight_d (idP p0 p1 p2)) rfl rfl rfl rfl rfl rfl) ?_
        refine lex_r rfl rfl (op_move (.inl rfl) (ev1 rfl)) ?_
        refine lex_gr (gd_t rfl rfl rfl) rfl rfl (op_ldw rfl tb27 (ev1 rfl) rfl rfl) ?_
        refine lex_gr (gd_t rfl rfl rfl) rfl rfl (dop_call [] [] [] rfl (ev1 rfl) (ec (ev2 rfl) en) rfl rfl (rtext_d (idP p0 p1 p2) hrn) rfl rfl rfl rfl rfl rfl) ?_
        refine lex_gr (gd_t rfl rfl rfl) rfl rfl (op_move (.inl rfl) (ev1 rfl)) ?_
        refine lex_gr (gd_t rfl rfl rfl) rfl rfl (op_eqn (tx_B _) (hl) rfl (ev2 rfl) (ev2 rfl)) ?_
        refine lex_r rfl rfl (op_and rfl (ev1 rfl) (ev3 rfl id)) ?_
        refine lex_s rfl rfl (op_stwa rfl tb27 (ev1 rfl) (ev1 rfl) rfl rfl rfl rfl) rfl (by simp only [upd, List.set_cons_zero, List.set_cons_succ]; exact rfl) ?_
        refine lex_r rfl rfl (op_move (.inr rfl) (ev1 rfl)) ?_
        refine lex_nil ?_
        refine dwp_ret ?_
        refine kend0 (rs2 rfl (rv_w tb27 rfl rfl rfl) (rv_t rfl)) rfl ?_
        rfl
      · rw [if_neg hg]
        refine dwp_region ?_
        refine walk_r rfl rfl rfl (op_move (.inl rfl) (ev1 rfl)) ?_
        refine walk_r rfl rfl rfl (op_not rfl (ev1 rfl)) ?_
        refine walk_r rfl rfl rfl (op_move (.inl rfl) (ev1 rfl)) ?_
        refine walk_gr (gd_f rfl rfl rfl) rfl rfl rfl (op_move (.inl rfl) (ev1 rfl)) ?_
        refine walk_gr (gd_f rfl rfl rfl) rfl rfl rfl (op_not rfl (ev2 rfl)) ?_
        refine walk_r rfl rfl rfl (op_or rfl (ev1 rfl) (ev3 rfl id)) ?_
        refine walk_r rfl rfl rfl (op_move (.inl rfl) (ev1 rfl)) ?_
        refine walk_gr (gd_f rfl rfl rfl) rfl rfl rfl (op_move (.inl rfl) (ev1 rfl)) ?_
        refine walk_gr (gd_f rfl rfl rfl) rfl rfl rfl (op_not rfl (ev2 rfl)) ?_
        refine walk_r rfl rfl rfl (op_or rfl (ev1 rfl) (ev3 rfl id)) ?_
        refine walk_r rfl rfl rfl (op_move (.inl rfl) (ev1 rfl)) ?_
        refine walk_gr (gd_f rfl rfl rfl) rfl rfl rfl (op_move (.inl rfl) (ev1 rfl)) ?_
        refine walk_gr (gd_f rfl rfl rfl) rfl rfl rfl (op_gtr rfl (ev2 rfl) (ev1 rfl)) ?_
        refine walk_r rfl rfl rfl (op_or rfl (ev1 rfl) (ev3 rfl id)) ?_
        refine walk_nil ?_
        refine dwp_if_t rfl (no_okP hg) ?_
        refine dwp_seq ?_
        refine dwp_region ?_
        refine walk_r rfl rfl rfl (op_build0 rfl fl27 zr27) ?_
        refine walk_s rfl rfl (op_stwa rfl tb27 (ev1 rfl) (ev1 rfl) rfl rfl rfl rfl) (by simp only [upd, List.set_cons_zero, List.set_cons_succ]; exact rfl) ?_
        refine walk_r rfl rfl rfl (op_move (.inr rfl) (ev1 rfl)) ?_
        refine walk_nil ?_
        refine dwp_ret ?_
        refine kend0 (rs2 rfl (rv_w tb27 rfl rfl rfl) (rv_t rfl)) rfl ?_
        rfl
    · obtain rfl : k = l.length + 1 := by omega
      obtain rfl : ps = sp l [] := hsp.2 rfl
      rw [refF_no h3]
      refine dwp_region ?_
      refine walk_r rfl rfl rfl (op_move (.inl rfl) (ev1 rfl)) ?_
      refine walk_r rfl rfl rfl (op_lena rfl sl55 (ev1 rfl) rfl) ?_
      refine walk_r rfl rfl rfl (op_neq rfl (ev1 rfl) (ev1 rfl)) ?_
      refine walk_nil ?_
      refine dwp_if_t rfl (by simp; omega) ?_
      refine dwp_seq ?_
      refine dwp_region ?_
      refine walk_r rfl rfl rfl (op_build0 rfl fl27 zr27) ?_
      refine walk_s rfl rfl (op_stwa rfl tb27 (ev1 rfl) (ev1 rfl) rfl rfl rfl rfl) (by simp only [upd, List.set_cons_zero, List.set_cons_succ]; exact rfl) ?_
      refine walk_r rfl rfl rfl (op_move (.inr rfl) (ev1 rfl)) ?_
      refine walk_nil ?_
      refine dwp_ret ?_
      refine kend0 (rs2 rfl (rv_w tb27 rfl rfl rfl) (rv_t rfl)) rfl ?_
      rfl
end Go.Proofs.YtaekkjhpdendoaaDoor

namespace Go.Proofs.YtaekkjhpdendoaaDoor
set_option linter.unusedVariables false
set_option linter.unusedSimpArgs false
open Go.RowKit
def Cur (n d : Nat) (q : List Nat) : Prop := (d = 0 ∧ n = 0 ∧ q = []) ∨ (0 < d ∧ q = dg n)
theorem Cur.step {n d b : Nat} {q : List Nat} (h : Cur n d q) (g : d = 0 ∨ 0 < n) (h1 : 48 ≤ b) (h2 : b ≤ 57) : Cur (10 * n + (b - 48)) (d + 1) (q ++ [b]) := by
  refine .inr ⟨Nat.succ_pos _, ?_⟩
  rcases h with ⟨_, rfl, rfl⟩ | ⟨h0, rfl⟩
  · rw [dg_lo (by omega)]
    show [b] = _
    congr 1; omega
  · rw [dg_hi (n := 10 * n + (b - 48)) (by omega), show (10 * n + (b - 48)) / 10 = n by omega, show 48 + (10 * n + (b - 48)) % 10 = b by omega]
theorem Cur.cut {n d : Nat} {q : List Nat} (h : Cur n d q) (g : 0 < d) : q = dg n := by
  rcases h with ⟨e, _⟩ | ⟨_, e⟩
  · omega
  · exact e
def Sta (n0 n1 n2 k d : Nat) (pr : List Nat) : Prop := (k = 0 ∧ n1 = 0 ∧ n2 = 0 ∧ Cur n0 d pr) ∨ (k = 1 ∧ n2 = 0 ∧ ∃ q, Cur n1 d q ∧ pr = dg n0 ++ ([46] ++ q)) ∨ (k = 2 ∧ ∃ q, Cur n2 d q ∧ pr = dg n0 ++ ([46] ++ (dg n1 ++ ([46] ++ q))))
theorem mach_sound : ∀ (l : List Nat) (n0 n1 n2 k d : Nat) (pr R : List Nat), Sta n0 n1 n2 k d pr → mach l [n0, n1, n2] k d = some R → ∃ a b c, R = [a, b, c] ∧ pr ++ l = dg a ++ ([46] ++ (dg b ++ ([46] ++ dg c)))
  | [], n0, n1, n2, k, d, pr, R, hs, h => by
    obtain ⟨⟨rfl, hd⟩, rfl⟩ := mach_end h
    refine ⟨_, _, _, rfl, ?_⟩
    rcases hs with ⟨e, _⟩ | ⟨e, _⟩ | ⟨_, q, hc, rfl⟩
    · cases e
    · cases e
    · rw [hc.cut hd, List.append_nil]
  | b :: r, n0, n1, n2, k, d, pr, R, hs, h => by
    by_cases hb : b = 46
    · subst hb
      obtain ⟨⟨hd, hk⟩, h2⟩ := mach_dot h
      have hs' : Sta n0 n1 n2 (k + 1) 0 (pr ++ [46]) := by
        rcases hs with ⟨rfl, h1, h3, hc⟩ | ⟨rfl, h3, q, hc, rfl⟩ | ⟨rfl, _⟩
        · exact .inr (.inl ⟨rfl, h3, [], .inl ⟨rfl, h1, rfl⟩, by rw [hc.cut hd]; simp⟩)
        · exact .inr (.inr ⟨rfl, [], .inl ⟨rfl, h3, rfl⟩, by rw [hc.cut hd]; simp⟩)
        · omega
      obtain ⟨a, b, c, e1, e2⟩ := mach_sound r n0 n1 n2 (k + 1) 0 _ R hs' h2
      exact ⟨a, b, c, e1, by rw [← e2]; simp⟩
    · obtain ⟨⟨g, ⟨h1, h2⟩, _⟩, h3⟩ := mach_num hb h
      have fin : ∀ m0 m1 m2, [n0, n1, n2].set k (10 * [n0, n1, n2].getD k 0 + (b - 48)) = [m0, m1, m2] → Sta m0 m1 m2 k (d + 1) (pr ++ [b]) → ∃ a b' c, R = [a, b', c] ∧ pr ++ b :: r = dg a ++ ([46] ++ (dg b' ++ ([46] ++ dg c))) := fun m0 m1 m2 em hs' => by
        rw [em] at h3
        obtain ⟨a, b', c, e1, e2⟩ := mach_sound r m0 m1 m2 k (d + 1) _ R hs' h3
        exact ⟨a, b', c, e1, by rw [← e2]; simp⟩
      rcases hs with ⟨rfl, q1, q2, hc⟩ | ⟨rfl, q2, q, hc, rfl⟩ | ⟨rfl, q, hc, rfl⟩
      · exact fin _ _ _ rfl (.inl ⟨rfl, q1, q2, hc.step g h1 h2⟩)
      · exact fin _ _ _ rfl (.inr (.inl ⟨rfl, q2, q ++ [b], hc.step g h1 h2, by simp⟩))
      · exact fin _ _ _ rfl (.inr (.inr ⟨rfl, q ++ [b], hc.step g h1 h2, by simp⟩))
theorem mach_one {b : Nat} {r ns : List Nat} {k d : Nat} (hb : b ≠ 46) (g : (d = 0 ∨ 0 < ns.getD k 0) ∧ (48 ≤ b ∧ b ≤ 57) ∧ ns.getD k 0 ≤ (4611686018427387904 - (b - 48)) / 10) : mach (b :: r) ns k d = mach r (ns.set k (10 * ns.getD k 0 + (b - 48))) k (d + 1) := by
  rw [mach, if_neg hb, if_pos g]
theorem mach_pt {r ns : List Nat} {k d : Nat} (g : 0 < d ∧ k < 2) : mach (46 :: r) ns k d = mach r ns (k + 1) 0 := by
  rw [mach, if_pos rfl, if_pos g]
theorem gdset {ns : List Nat} {k x : Nat} (h : k < ns.length) : (ns.set k x).getD k 0 = x := by
  rw [List.getD_eq_getElem?_getD, List.getElem?_set_self h]; rfl
theorem mach_dg : ∀ (n : Nat), n ≤ 4611686018427387904 → ∀ (r ns : List Nat) (k : Nat), k < ns.length → ns.getD k 0 = 0 → mach (dg n ++ r) ns k 0 = mach r (ns.set k n) k (dg n).length := by
  intro n
  induction n using Nat.strongRecOn with
  | _ n ih =>
    intro hn r ns k hk h0
    by_cases h : n < 10
    · rw [dg_lo h]
      show mach ((48 + n) :: r) ns k 0 = _
      rw [mach_one (by omega) ⟨.inl rfl, ⟨by omega, by omega⟩, by rw [h0]; omega⟩, h0, show 10 * 0 + (48 + n - 48) = n by omega]
      rfl
    · rw [dg_hi h, List.append_assoc, ih (n / 10) (by omega) (by omega) _ ns k hk h0]
      show mach ((48 + n % 10) :: r) _ k _ = _
      rw [mach_one (by omega) ⟨.inr (by rw [gdset hk]; omega), ⟨by omega, by omega⟩, by rw [gdset hk]; omega⟩, gdset hk, List.set_set, show 10 * (n / 10) + (48 + n % 10 - 48) = n by omega, List.length_append]
      rfl
theorem may_bd {i : I3} (h : mayR i = true) : (1 ≤ i.t ∧ i.t ≤ 4611686018427387904) ∧ (1 ≤ i.s ∧ i.s ≤ 8) ∧ (1 ≤ i.q ∧ i.q ≤ 4611686018427387904) := by
  simpa [mayR, isNum, isSt] using h
theorem tx_may {i : I3} (h : mayR i = true) : tx i = dg i.t.toNat ++ ([46] ++ (dg i.s.toNat ++ ([46] ++ dg i.q.toNat))) := by
  have hb := may_bd h
  have e : sgn i.s = dg i.s.toNat := if_neg (by omega)
  unfold tx
  rw [e]
  simp only [List.append_assoc]
theorem mach_tx {i : I3} (h : mayR i = true) : mach (tx i) [0, 0, 0] 0 0 = some [i.t.toNat, i.s.toNat, i.q.toNat] := by
  have hb := may_bd h
  rw [tx_may h, mach_dg _ (by omega) _ _ _ (by decide) rfl]
  rw [List.singleton_append, mach_pt ⟨dg_pos _, by decide⟩, mach_dg _ (by omega) _ _ _ (by simp) rfl]
  rw [List.singleton_append, mach_pt ⟨dg_pos _, by decide⟩]
  have := mach_dg i.q.toNat (by omega) [] (([0, 0, 0].set 0 i.t.toNat).set (0 + 1) i.s.toNat) (0 + 1 + 1) (by simp) rfl
  rw [List.append_nil] at this
  rw [this, mach, if_pos ⟨rfl, dg_pos _⟩]
  rfl
theorem i3_eq {i : I3} (h : mayR i = true) : (⟨(i.t.toNat : Int), (i.s.toNat : Int), (i.q.toNat : Int)⟩ : I3) = i := by
  have hb := may_bd h
  obtain ⟨t, s, q⟩ := i
  dsimp only at hb ⊢
  rw [Int.toNat_of_nonneg (by omega), Int.toNat_of_nonneg (by omega), Int.toNat_of_nonneg (by omega)]
theorem readC_tx {i : I3} (h : mayR i = true) : readC (tx i) = some i := by
  unfold readC
  rw [mach_tx h]
  show (if _ then some _ else none) = _
  rw [i3_eq h, if_pos ⟨by have := may_bd h; omega, h⟩]
theorem readC_some {l : List Nat} {i : I3} (h : readC l = some i) : mayR i = true ∧ l = tx i := by
  unfold readC at h
  split at h
  · rename_i a b c hm
    split at h
    · rename_i g
      obtain rfl := Option.some.inj h
      refine ⟨g.2, ?_⟩
      obtain ⟨a', b', c', e1, e2⟩ := mach_sound l 0 0 0 0 0 [] _ (.inl ⟨rfl, rfl, rfl, .inl ⟨rfl, rfl, rfl⟩⟩) hm
      cases e1
      rw [tx_may g.2]
      exact e2
    · cases h
  · cases h
theorem sp_run : ∀ (a r cur : List Nat), (∀ x ∈ a, x ≠ 46) → sp (a ++ r) cur = sp r (cur ++ a)
  | [], r, cur, _ => by simp
  | b :: a, r, cur, h => by
    show sp (b :: (a ++ r)) cur = _
    rw [sp_num (h b (List.mem_cons_self ..)), sp_run a r _ (fun x hx => h x (List.mem_cons_of_mem _ hx))]
    simp
theorem dg_all : ∀ n, (dg n).all isDg = true := by
  intro n
  induction n using Nat.strongRecOn with
  | _ n ih =>
    by_cases h : n < 10
    · rw [dg_lo h]; simp [isDg]; omega
    · rw [dg_hi h, List.all_append, ih (n / 10) (by omega)]; simp [isDg]; omega
theorem dg_46 (n : Nat) : ∀ x ∈ dg n, x ≠ 46 := fun x hx => by
  have := List.all_eq_true.1 (dg_all n) x hx
  unfold isDg at this
  have := of_decide_eq_true this
  omega
theorem val_dg : ∀ n, valN (dg n) = n := by
  intro n
  induction n using Nat.strongRecOn with
  | _ n ih =>
    by_cases h : n < 10
    · rw [dg_lo h]; simp [valN]
    · rw [dg_hi h, valN_snoc, ih (n / 10) (by omega)]; omega
theorem dg_ge : ∀ (k n : Nat), (dg n).length = k + 2 → 10 ^ (k + 1) ≤ n
  | 0, n, hn => by
    rcases Nat.lt_or_ge n 10 with h | h
    · rw [dg_lo h] at hn; cases hn
    · omega
  | k + 1, n, hn => by
    rcases Nat.lt_or_ge n 10 with h | h
    · rw [dg_lo h] at hn; simp at hn
    · rw [dg_hi (by omega), List.length_append] at hn
      have := dg_ge k (n / 10) (by simpa using hn)
      rw [Nat.pow_succ]
      rw [Nat.le_div_iff_mul_le (by decide)] at this
      exact this
theorem dg_19 {n : Nat} (h : n ≤ 4611686018427387904) : (dg n).length ≤ 19 := by
  rcases Nat.lt_or_ge 19 (dg n).length with h1 | h1
  · exfalso
    obtain ⟨k, hk⟩ : ∃ k, (dg n).length = k + 2 := ⟨(dg n).length - 2, by omega⟩
    have h2 := dg_ge k n hk
    have h3 : 10 ^ 19 ≤ 10 ^ (k + 1) := Nat.pow_le_pow_right (by decide) (by omega)
    omega
  · exact h1
theorem partF_dg {n : Nat} (h : n ≤ 4611686018427387904) : partF (dg n) = (n, true) := by
  have h1 := dg_19 h
  rw [part_yes (dg_all n), List.take_of_length_le h1, val_dg, decide_eq_true ⟨dg_pos n, h1⟩]
theorem refF_tx {i : I3} (h : mayR i = true) : refF (tx i) = (i, true) := by
  have hb := may_bd h
  have e : sp (tx i) [] = [dg i.t.toNat, dg i.s.toNat, dg i.q.toNat] := by
    rw [tx_may h, sp_run _ _ _ (dg_46 _)]
    rw [List.singleton_append, sp_dot, sp_run _ _ _ (dg_46 _)]
    rw [List.singleton_append, sp_dot]
    have := sp_run (dg i.q.toNat) [] [] (dg_46 _)
    rw [List.append_nil] at this
    rw [this]; rfl
  have p0 := partF_dg (n := i.t.toNat) (by omega)
  have p1 := partF_dg (n := i.s.toNat) (by omega)
  have p2 := partF_dg (n := i.q.toNat) (by omega)
  have ei : idP (dg i.t.toNat) (dg i.s.toNat) (dg i.q.toNat) = i := by
    unfold idP
    rw [p0, p1, p2]
    exact i3_eq h
  rw [refF_3 e, if_pos ⟨⟨by rw [p0], by rw [p1]⟩, by rw [p2], by rw [p1]; show i.s.toNat ≤ 8; omega⟩, ei, h]
  simp
theorem refF_yes {l : List Nat} (h : (refF l).2 = true) : mayR (refF l).1 = true ∧ l = tx (refF l).1 := by
  unfold refF at h ⊢
  split at h
  · split at h
    · rename_i g
      rw [if_pos g]
      dsimp only at h ⊢
      rw [Bool.and_eq_true] at h
      exact ⟨h.1, (of_decide_eq_true h.2).symm⟩
    · cases h
  · cases h
/-- both read the same -/
theorem read_same (l : List Nat) : (readC l = some (refF l).1 ∧ (refF l).2 = true) ∨ (readC l = none ∧ (refF l).2 = false) := by
  cases h : (refF l).2 with
  | true =>
    obtain ⟨h1, h2⟩ := refF_yes h
    have := readC_tx h1
    rw [← h2] at this
    exact .inl ⟨this, rfl⟩
  | false =>
    cases h2 : readC l with
    | none => exact .inr ⟨rfl, rfl⟩
    | some i =>
      obtain ⟨h3, h4⟩ := readC_some h2
      rw [h4, refF_tx h3] at h
      cases h
end Go.Proofs.YtaekkjhpdendoaaDoor

namespace Go.Proofs.YtaekkjhpdendoaaDoor
set_option linter.unusedVariables false
set_option linter.unusedSimpArgs false
open Go.RowKit
set_option maxRecDepth 4000 in
set_option maxHeartbeats 1000000 in
theorem wakes_d : DFun Tryd.prog 9 [] [] (.val (.bool true)) [] := by
  refine dcalls_go (N := 108) 0 (by kernel_rfl) Tryd.func9 rfl rfl rfl (by simp only [fr0, Nat.zero_add, Nat.reduceAdd]; exact rfl) rfl fun s0 hs0 => ?_
  refine dwp_seq ?_
  refine dwp_region ?_
  refine walk_r rfl rfl rfl (op_move (.inr rfl) (ev1 rfl)) ?_
  refine walk_nil ?_
  refine dwp_seq ?_
  refine dwp_holes 3 (by simp only [holes, List.cons_append, List.nil_append]; exact rfl) ?_
  refine dwp_region ?_
  refine walk_r rfl rfl rfl (op_build (ps := [(0, .const (.int .u64 3)), (1, .const (.int .i64 1)), (2, .const (.int .u64 2))]) rfl fl27 zr27 (vc (ev1 rfl) (vc (ev1 rfl) (vc (ev1 rfl) vn))) rfl rfl) ?_
  refine walk_r rfl rfl rfl (op_build (ps := [(0, .const (.int .u64 2)), (1, .const (.int .i64 2)), (2, .const (.int .u64 1))]) rfl fl27 zr27 (vc (ev1 rfl) (vc (ev1 rfl) (vc (ev1 rfl) vn))) rfl rfl) ?_
  refine walk_r rfl rfl rfl (op_build (ps := [(0, .const (.int .u64 2)), (1, .const (.int .i64 1)), (2, .const (.int .u64 9))]) rfl fl27 zr27 (vc (ev1 rfl) (vc (ev1 rfl) (vc (ev1 rfl) vn))) rfl rfl) ?_
  refine walk_w rfl rfl rfl (op_alloc 0 rfl zr27 rfl) (by simp only [upd, List.set_cons_zero, List.set_cons_succ]; exact rfl) ?_
  refine walk_w rfl rfl rfl (op_alloc 1 rfl zr27 rfl) (by simp only [upd, List.set_cons_zero, List.set_cons_succ]; exact rfl) ?_
  refine walk_w rfl rfl rfl (op_alloc 2 rfl zr27 rfl) (by simp only [upd, List.set_cons_zero, List.set_cons_succ]; exact rfl) ?_
  refine walk_s rfl rfl (op_stwa rfl tb27 (ev1 rfl) (ev1 rfl) rfl rfl rfl rfl) (by simp only [upd, List.set_cons_zero, List.set_cons_succ]; exact rfl) ?_
  refine walk_s rfl rfl (op_stwa rfl tb27 (ev1 rfl) (ev1 rfl) rfl rfl rfl rfl) (by simp only [upd, List.set_cons_zero, List.set_cons_succ]; exact rfl) ?_
  refine walk_s rfl rfl (op_stwa rfl tb27 (ev1 rfl) (ev1 rfl) rfl rfl rfl rfl) (by simp only [upd, List.set_cons_zero, List.set_cons_succ]; exact rfl) ?_
  refine walk_nil ?_
  refine dwp_seq ?_
  refine dwp_holes 2 (by simp only [holes, List.cons_append, List.nil_append]; exact rfl) ?_
  refine dwp_region ?_
  refine walk_r rfl rfl rfl (op_build (ps := [(0, .const (.int .i64 2)), (1, .const (.int .u64 7)), (2, .const (.int .u64 3))]) rfl fl40 zr40 (vc (ev1 rfl) (vc (ev1 rfl) (vc (ev1 rfl) vn))) rfl rfl) ?_
  refine walk_r rfl rfl rfl (dop_call [] [] [] rfl (ev1 rfl) (ec (ev1 rfl) en) rfl rfl (next_d ⟨2, 7, 3⟩ ⟨by decide, by decide⟩) rfl rfl rfl rfl rfl rfl) ?_
  refine walk_r rfl rfl rfl (op_move (.inl rfl) (ev1 rfl)) ?_
  refine walk_r rfl rfl rfl (op_ext rfl (ev1 rfl) rfl) ?_
  refine walk_r rfl rfl rfl (op_ext rfl (ev1 rfl) rfl) ?_
  refine walk_r rfl rfl rfl (op_ext rfl (ev1 rfl) rfl) ?_
  refine walk_w rfl rfl rfl (op_alloc 3 rfl zr40 rfl) (by simp only [upd, List.set_cons_zero, List.set_cons_succ]; exact rfl) ?_
  refine walk_w rfl rfl rfl (op_alloc 4 rfl zr27 rfl) (by simp only [upd, List.set_cons_zero, List.set_cons_succ]; exact rfl) ?_
  refine walk_s rfl rfl (op_stwa rfl tb40 (ev1 rfl) (ev1 rfl) rfl rfl rfl rfl) (by simp only [upd, List.set_cons_zero, List.set_cons_succ]; exact rfl) ?_
  refine walk_s rfl rfl (op_stwa rfl tb27 (ev1 rfl) (ev1 rfl) rfl rfl rfl rfl) (by simp only [upd, List.set_cons_zero, List.set_cons_succ]; exact rfl) ?_
  refine walk_r rfl rfl rfl (op_move (.inr rfl) (ev1 rfl)) ?_
  refine walk_nil ?_
  refine dwp_seq ?_
  refine dwp_region ?_
  refine walk_r rfl rfl rfl (op_ldw rfl tb40 (ev1 rfl) rfl rfl) ?_
  refine walk_r rfl rfl rfl (op_bs (ps := [(0, .const (.int .u64 5)), (1, .const (.int .u64 20))]) rfl sl37 zr25 rfl (vc (ev1 rfl) (vc (ev1 rfl) vn)) rfl (by decide) (by decide)) ?_
  refine walk_r rfl rfl rfl (dop_call [] [] [] rfl (ev1 rfl) (ec (ev1 rfl) (ec (ev1 rfl) en)) rfl rfl (seeC_d _ [5, 20]) rfl rfl rfl rfl rfl rfl) ?_
  refine walk_r rfl rfl rfl (op_move (.inl rfl) (ev1 rfl)) ?_
  refine walk_r rfl rfl rfl (op_ext rfl (ev1 rfl) rfl) ?_
  refine walk_r rfl rfl rfl (op_ext rfl (ev1 rfl) rfl) ?_
  refine walk_s rfl rfl (op_stwa rfl tb40 (ev1 rfl) (ev1 rfl) rfl rfl rfl rfl) (by simp only [upd, List.set_cons_zero, List.set_cons_succ]; exact rfl) ?_
  refine walk_r rfl rfl rfl (op_move (.inr rfl) (ev1 rfl)) ?_
  refine walk_nil ?_
  refine dwp_seq ?_
  refine dwp_holes 2 (by simp only [holes, List.cons_append, List.nil_append]; exact rfl) ?_
  refine dwp_region ?_
  refine walk_r rfl rfl rfl (op_ldw rfl tb40 (ev1 rfl) rfl rfl) ?_
  refine walk_r rfl rfl rfl (dop_call [] [] [] rfl (ev1 rfl) (ec (ev1 rfl) en) rfl rfl (next_d _ ⟨by decide, by decide⟩) rfl rfl rfl rfl rfl rfl) ?_
  refine walk_r rfl rfl rfl (op_move (.inl rfl) (ev1 rfl)) ?_
  refine walk_r rfl rfl rfl (op_ext rfl (ev1 rfl) rfl) ?_
  refine walk_r rfl rfl rfl (op_ext rfl (ev1 rfl) rfl) ?_
  refine walk_r rfl rfl rfl (op_ext rfl (ev1 rfl) rfl) ?_
  refine walk_w rfl rfl rfl (op_alloc 5 rfl zr40 rfl) (by simp only [upd, List.set_cons_zero, List.set_cons_succ]; exact rfl) ?_
  refine walk_w rfl rfl rfl (op_alloc 6 rfl zr27 rfl) (by simp only [upd, List.set_cons_zero, List.set_cons_succ]; exact rfl) ?_
  refine walk_s rfl rfl (op_stwa rfl tb40 (ev1 rfl) (ev1 rfl) rfl rfl rfl rfl) (by simp only [upd, List.set_cons_zero, List.set_cons_succ]; exact rfl) ?_
  refine walk_s rfl rfl (op_stwa rfl tb27 (ev1 rfl) (ev1 rfl) rfl rfl rfl rfl) (by simp only [upd, List.set_cons_zero, List.set_cons_succ]; exact rfl) ?_
  refine walk_r rfl rfl rfl (op_move (.inr rfl) (ev1 rfl)) ?_
  refine walk_nil ?_
  refine dwp_seq ?_
  refine dwp_holes 2 (by simp only [holes, List.cons_append, List.nil_append]; exact rfl) ?_
  refine dwp_region ?_
  refine walk_r rfl rfl rfl (op_build (ps := [(0, .const (.int .i64 1)), (1, .const (.int .u64 4611686018427387904))]) rfl fl40 zr40 (vc (ev1 rfl) (vc (ev1 rfl) vn)) rfl rfl) ?_
  refine walk_r rfl rfl rfl (dop_call [] [] [] rfl (ev1 rfl) (ec (ev1 rfl) en) rfl rfl (next_d ⟨1, 4611686018427387904, 0⟩ ⟨by decide, by decide⟩) rfl rfl rfl rfl rfl rfl) ?_
  refine walk_r rfl rfl rfl (op_move (.inl rfl) (ev1 rfl)) ?_
  refine walk_r rfl rfl rfl (op_ext rfl (ev1 rfl) rfl) ?_
  refine walk_r rfl rfl rfl (op_ext rfl (ev1 rfl) rfl) ?_
  refine walk_r rfl rfl rfl (op_ext rfl (ev1 rfl) rfl) ?_
  refine walk_w rfl rfl rfl (op_alloc 7 rfl zr40 rfl) (by simp only [upd, List.set_cons_zero, List.set_cons_succ]; exact rfl) ?_
  refine walk_w rfl rfl rfl (op_alloc 8 rfl zr27 rfl) (by simp only [upd, List.set_cons_zero, List.set_cons_succ]; exact rfl) ?_
  refine walk_s rfl rfl (op_stwa rfl tb40 (ev1 rfl) (ev1 rfl) rfl rfl rfl rfl) (by simp only [upd, List.set_cons_zero, List.set_cons_succ]; exact rfl) ?_
  refine walk_s rfl rfl (op_stwa rfl tb27 (ev1 rfl) (ev1 rfl) rfl rfl rfl rfl) (by simp only [upd, List.set_cons_zero, List.set_cons_succ]; exact rfl) ?_
  refine walk_r rfl rfl rfl (op_move (.inr rfl) (ev1 rfl)) ?_
  refine walk_nil ?_
  refine dwp_seq ?_
  refine dwp_holes 1 (by simp only [holes, List.cons_append, List.nil_append]; exact rfl) ?_
  refine dwp_region ?_
  refine walk_r rfl rfl rfl (dop_call [] [] [] rfl (ev1 rfl) (ec (ev1 rfl) en) rfl rfl (read_w) rfl rfl rfl rfl rfl rfl) ?_
  refine walk_r rfl rfl rfl (op_move (.inl rfl) (ev1 rfl)) ?_
  refine walk_r rfl rfl rfl (op_ext rfl (ev1 rfl) rfl) ?_
  refine walk_r rfl rfl rfl (op_ext rfl (ev1 rfl) rfl) ?_
  refine walk_w rfl rfl rfl (op_alloc 9 rfl zr27 rfl) (by simp only [upd, List.set_cons_zero, List.set_cons_succ]; exact rfl) ?_
  refine walk_s rfl rfl (op_stwa rfl tb27 (ev1 rfl) (ev1 rfl) rfl rfl rfl rfl) (by simp only [upd, List.set_cons_zero, List.set_cons_succ]; exact rfl) ?_
  refine walk_r rfl rfl rfl (op_move (.inr rfl) (ev1 rfl)) ?_
  refine walk_nil ?_
  refine dwp_seq ?_
  refine dwp_draw [([], []), ([], []), ([], []), ([], []), ([], []), ([], []), ([], []), ([], []), ([], []), ([], []), ([], []), ([], []), ([], []), ([], []), ([], []), ([], []), ([], []), ([], []), ([], []), ([0], []), ([1], []), ([2], []), ([], []), ([], []), ([2], []), ([1], []), ([0], []), ([], []), ([], []), ([], []), ([], []), ([4], []), ([], []), ([], []), ([], []), ([], []), ([6], []), ([], []), ([], []), ([], []), ([], []), ([9], []), ([4], []), ([], []), ([], []), ([], []), ([4], []), ([], []), ([], []), ([], []), ([], []), ([2], []), ([1], []), ([], []), ([], []), ([], []), ([], []), ([], []), ([], []), ([], []), ([], []), ([], [])] mixed (by kernel_rfl) ?_
  refine lex_r rfl rfl (op_move (.inl rfl) (ev1 rfl)) ?_
  refine lex_r rfl rfl (op_eql rfl (ev1 rfl) (ev1 rfl)) ?_
  refine lex_r rfl rfl (op_move (.inl rfl) (ev1 rfl)) ?_
  refine lex_gr (gd_t rfl rfl rfl) rfl rfl (op_move (.inl rfl) (ev1 rfl)) ?_
  refine lex_gr (gd_t rfl rfl rfl) rfl rfl (op_eql rfl (ev2 rfl) (ev1 rfl)) ?_
  refine lex_r rfl rfl (op_and rfl (ev1 rfl) (ev3 rfl id)) ?_
  refine lex_r rfl rfl (op_move (.inl rfl) (ev1 rfl)) ?_
  refine lex_gr (gd_t rfl rfl rfl) rfl rfl (op_move (.inl rfl) (ev1 rfl)) ?_
  refine lex_gr (gd_t rfl rfl rfl) rfl rfl (op_eql rfl (ev2 rfl) (ev1 rfl)) ?_
  refine lex_r rfl rfl (op_and rfl (ev1 rfl) (ev3 rfl id)) ?_
  refine lex_r rfl rfl (op_move (.inl rfl) (ev1 rfl)) ?_
  refine lex_gr (gd_t rfl rfl rfl) rfl rfl (op_move (.inl rfl) (ev1 rfl)) ?_
  refine lex_gr (gd_t rfl rfl rfl) rfl rfl (op_eql rfl (ev2 rfl) (ev1 rfl)) ?_
  refine lex_r rfl rfl (op_and rfl (ev1 rfl) (ev3 rfl id)) ?_
  refine lex_r rfl rfl (op_move (.inl rfl) (ev1 rfl)) ?_
  refine lex_gr (gd_t rfl rfl rfl) rfl rfl (op_move (.inl rfl) (ev1 rfl)) ?_
  refine lex_gr (gd_t rfl rfl rfl) rfl rfl (op_eql rfl (ev2 rfl) (ev1 rfl)) ?_
  refine lex_r rfl rfl (op_and rfl (ev1 rfl) (ev3 rfl id)) ?_
  refine lex_r rfl rfl (op_move (.inl rfl) (ev1 rfl)) ?_
  refine lex_gr (gd_t rfl rfl rfl) rfl rfl (op_ldw rfl tb27 (ev1 rfl) rfl rfl) ?_
  refine lex_gr (gd_t rfl rfl rfl) rfl rfl (op_ldw rfl tb27 (ev1 rfl) rfl rfl) ?_
  refine lex_gr (gd_t rfl rfl rfl) rfl rfl (op_ldw rfl tb27 (ev1 rfl) rfl rfl) ?_
  refine lex_gr (gd_t rfl rfl rfl) rfl rfl (op_bs (ps := [(0, .tmp 66), (1, .tmp 67), (2, .tmp 68)]) rfl sl22 zr27 rfl (vc (ev2 rfl) (vc (ev2 rfl) (vc (ev2 rfl) vn))) rfl (by decide) (by decide)) ?_
  refine lex_gr (gd_t rfl rfl rfl) rfl rfl (dop_call [] [] [] rfl (ev1 rfl) (ec (ev2 rfl) en) rfl rfl (sortedZ_d [⟨3, 1, 2⟩, ⟨2, 2, 1⟩, ⟨2, 1, 9⟩] (by decide)) rfl rfl rfl rfl rfl rfl) ?_
  refine lex_gr (gd_t rfl rfl rfl) rfl rfl (op_ldw rfl tb27 (ev1 rfl) rfl rfl) ?_
  refine lex_gr (gd_t rfl rfl rfl) rfl rfl (op_ldw rfl tb27 (ev1 rfl) rfl rfl) ?_
  refine lex_gr (gd_t rfl rfl rfl) rfl rfl (op_ldw rfl tb27 (ev1 rfl) rfl rfl) ?_
  refine lex_gr (gd_t rfl rfl rfl) rfl rfl (op_bs (ps := [(0, .tmp 71), (1, .tmp 72), (2, .tmp 73)]) rfl sl22 zr27 rfl (vc (ev2 rfl) (vc (ev2 rfl) (vc (ev2 rfl) vn))) rfl (by decide) (by decide)) ?_
  refine lex_gr (gd_t rfl rfl rfl) rfl rfl (dop_call [] [] [] rfl (ev1 rfl) (ec (ev2 rfl) (ec (ev2 rfl) en)) rfl rfl (equalId _ [⟨2, 1, 9⟩, ⟨2, 2, 1⟩, ⟨3, 1, 2⟩]) rfl rfl rfl rfl rfl rfl) ?_
  refine lex_r rfl rfl (op_and rfl (ev1 rfl) (ev3 rfl id)) ?_
  refine lex_r rfl rfl (op_move (.inl rfl) (ev1 rfl)) ?_
  refine lex_gr (gd_t rfl rfl rfl) rfl rfl (op_ldw rfl tb27 (ev1 rfl) rfl rfl) ?_
  refine lex_gr (gd_t rfl rfl rfl) rfl rfl (op_build (ps := [(0, .const (.int .u64 8)), (1, .const (.int .i64 2)), (2, .const (.int .u64 4))]) rfl fl27 zr27 (vc (ev1 rfl) (vc (ev1 rfl) (vc (ev1 rfl) vn))) rfl rfl) ?_
  refine lex_gr (gd_t rfl rfl rfl) rfl rfl (op_eqr eq27 rfl gd27 tb27 (ev2 rfl) (ev2 rfl)) ?_
  refine lex_r rfl rfl (op_and rfl (ev1 rfl) (ev3 rfl id)) ?_
  refine lex_r rfl rfl (op_move (.inl rfl) (ev1 rfl)) ?_
  refine lex_gr (gd_t rfl rfl rfl) rfl rfl (op_ldw rfl tb27 (ev1 rfl) rfl rfl) ?_
  refine lex_gr (gd_t rfl rfl rfl) rfl rfl (op_build (ps := [(0, .const (.int .u64 21)), (1, .const (.int .i64 2)), (2, .const (.int .u64 5))]) rfl fl27 zr27 (vc (ev1 rfl) (vc (ev1 rfl) (vc (ev1 rfl) vn))) rfl rfl) ?_
  refine lex_gr (gd_t rfl rfl rfl) rfl rfl (op_eqr eq27 rfl gd27 tb27 (ev2 rfl) (ev2 rfl)) ?_
  refine lex_r rfl rfl (op_and rfl (ev1 rfl) (ev3 rfl id)) ?_
  refine lex_r rfl rfl (op_move (.inl rfl) (ev1 rfl)) ?_
  refine lex_gr (gd_t rfl rfl rfl) rfl rfl (op_ldw rfl tb27 (ev1 rfl) rfl rfl) ?_
  refine lex_gr (gd_t rfl rfl rfl) rfl rfl (op_ldw rfl tb27 (ev1 rfl) rfl rfl) ?_
  refine lex_gr (gd_t rfl rfl rfl) rfl rfl (op_eqr eq27 rfl gd27 tb27 (ev2 rfl) (ev2 rfl)) ?_
  refine lex_r rfl rfl (op_and rfl (ev1 rfl) (ev3 rfl id)) ?_
  refine lex_r rfl rfl (op_move (.inl rfl) (ev1 rfl)) ?_
  refine lex_gr (gd_t rfl rfl rfl) rfl rfl (op_ldw rfl tb27 (ev1 rfl) rfl rfl) ?_
  refine lex_gr (gd_t rfl rfl rfl) rfl rfl (dop_call [] [] [] rfl (ev1 rfl) (ec (ev2 rfl) en) rfl rfl (text_w) rfl rfl rfl rfl rfl rfl) ?_
  refine lex_gr (gd_t rfl rfl rfl) rfl rfl (op_eqs rfl (ev2 rfl) (ev1 rfl)) ?_
  refine lex_r rfl rfl (op_and rfl (ev1 rfl) (ev3 rfl id)) ?_
  refine lex_r rfl rfl (op_move (.inl rfl) (ev1 rfl)) ?_
  refine lex_gr (gd_t rfl rfl rfl) rfl rfl (op_ldw rfl tb27 (ev1 rfl) rfl rfl) ?_
  refine lex_gr (gd_t rfl rfl rfl) rfl rfl (op_ldw rfl tb27 (ev1 rfl) rfl rfl) ?_
  refine lex_gr (gd_t rfl rfl rfl) rfl rfl (dop_call [] [] [] rfl (ev1 rfl) (ec (ev2 rfl) (ec (ev2 rfl) en)) rfl rfl (compare_d ⟨2, 1, 9⟩ ⟨2, 2, 1⟩) rfl rfl rfl rfl rfl rfl) ?_
  refine lex_gr (gd_t rfl rfl rfl) rfl rfl (op_eql rfl (ev2 rfl) (ev1 rfl)) ?_
  refine lex_r rfl rfl (op_and rfl (ev1 rfl) (ev3 rfl id)) ?_
  refine lex_r rfl rfl (op_move (.inl rfl) (ev1 rfl)) ?_
  refine lex_gr (gd_t rfl rfl rfl) rfl rfl (op_build (ps := [(1, .const (.int .i64 1)), (2, .const (.int .u64 1))]) rfl fl27 zr27 (vc (ev1 rfl) (vc (ev1 rfl) vn)) rfl rfl) ?_
  refine lex_gr (gd_t rfl rfl rfl) rfl rfl (dop_call [] [] [] rfl (ev1 rfl) (ec (ev2 rfl) en) rfl rfl (check_d ⟨0, 1, 1⟩) rfl rfl rfl rfl rfl rfl) ?_
  refine lex_gr (gd_t rfl rfl rfl) rfl rfl (op_eql rfl (ev2 rfl) (ev1 rfl)) ?_
  refine lex_r rfl rfl (op_and rfl (ev1 rfl) (ev3 rfl id)) ?_
  refine lex_r rfl rfl (op_move (.inr rfl) (ev1 rfl)) ?_
  refine lex_nil ?_
  refine dwp_ret ?_
  refine kend0 (rs1 rfl (rv_t rfl)) rfl ?_
  have e : ∀ p : ByteArray, (p.toList == p.toList) = true := fun p => beq_self_eq_true _
  rw [sorted_eq, e]
  rfl
end Go.Proofs.YtaekkjhpdendoaaDoor

namespace Go.Proofs.YtaekkjhpdendoaaDoor
set_option linter.unusedVariables false
set_option linter.unusedSimpArgs false
open Go.RowKit
theorem DOp.glob {P : Program} {pc : Bool} {o : Oper} {F : Fr} {M : List Blk} {fp : List Nat} {d : D} {i g : Nat} {L : List Value} (h : DOp P pc o F M fp d [(i, .glob g L)]) (hM : M[i]? = some (.glob g L)) (hi : i ∈ fp) : DOp P pc o F M fp d [] := by
  intro hp a s hok hops hfp
  have := h hp a s hok hops hfp
  have e : upd s.M [(i, .glob g L)] = upd s.M [] := by
    show s.M.set i _ = s.M
    have h1 : s.M[i]? = some (.glob g L) := by rw [hfp i hi]; exact hM
    obtain ⟨hl, h2⟩ := List.getElem?_eq_some_iff.1 h1
    rw [← h2, List.set_getElem_self]
  rw [e] at this
  exact this
theorem sgn_46 (s : Int) : ∀ x ∈ sgn s, x ≠ 46 := fun x hx => by
  unfold sgn at hx
  split at hx
  · rcases List.mem_cons.1 hx with rfl | h
    · decide
    · exact dg_46 _ x h
  · exact dg_46 _ x hx
theorem sp_tx (i : I3) : sp (tx i) [] = [dg i.t.toNat, sgn i.s, dg i.q.toNat] := by
  unfold tx
  simp only [List.append_assoc]
  rw [sp_run _ _ _ (dg_46 _), List.singleton_append, sp_dot, sp_run _ _ _ (sgn_46 _), List.singleton_append, sp_dot]
  have := sp_run (dg i.q.toNat) [] [] (dg_46 _)
  rw [List.append_nil] at this
  rw [this]; rfl
theorem dg_inj {a b : Nat} (h : dg a = dg b) : a = b := by rw [← val_dg a, h, val_dg]
theorem readC_bad {a : I3} (hr : a.rng) (h : mayR a = false) : readC (tx a) = none := by
  cases h2 : readC (tx a) with
  | none => rfl
  | some i =>
    exfalso
    obtain ⟨h3, h4⟩ := readC_some h2
    have hb := may_bd h3
    have e := sp_tx a
    rw [h4, sp_tx i] at e
    simp only [List.cons.injEq, and_true] at e
    obtain ⟨e1, e2, e3⟩ := e
    have h1 := dg_inj e1
    have h5 := dg_inj e3
    have hs : sgn i.s = dg i.s.toNat := if_neg (by omega)
    rw [hs] at e2
    have hs2 : ¬ a.s < 0 := fun hneg => by
      have : sgn a.s = 45 :: dg (0 - a.s).toNat := if_pos hneg
      rw [this] at e2
      have := List.all_eq_true.1 (dg_all i.s.toNat) 45 (by rw [e2]; exact List.mem_cons_self ..)
      cases this
    have hs3 : sgn a.s = dg a.s.toNat := if_neg hs2
    rw [hs3] at e2
    have h6 := dg_inj e2
    have q1 := hr.1
    have q3 := hr.2.2
    have : a = i := by
      obtain ⟨t, s, q⟩ := a
      obtain ⟨t', s', q'⟩ := i
      dsimp only at *
      congr 1 <;> omega
    rw [this, h3] at h
    cases h
set_option maxRecDepth 4000 in
set_option maxHeartbeats 1000000 in
theorem texts_d (l : List I3) (tt : List (List Nat)) (hl : ∀ i ∈ l, i.rng) (ht : ∀ p ∈ tt, isB p) : DFun Tryd.prog 5 [.slf 3 l.length (l.flatMap idc), .slf 1 tt.length (tt.flatMap st8)] [.glob 0 pow10L] (.val (.bool true)) [.glob 0 pow10L] := by
  refine dcalls_go (N := 77) 1 (by kernel_rfl) Tryd.func5 rfl rfl rfl (by simp only [fr0, Nat.zero_add, Nat.reduceAdd]; exact rfl) rfl fun s0 hs0 => ?_
  refine dwp_len (t := 0) rfl fun hl0 hL0 => ?_
  refine dwp_len (t := 1) rfl fun hl1 hL1 => ?_
  refine dwp_seq ?_
  refine dwp_region ?_
  refine walk_r rfl rfl rfl (op_move (.inr rfl) (ev1 rfl)) ?_
  refine walk_nil ?_
  refine dwp_seq ?_
  refine dwp_seq ?_
  refine dwp_region ?_
  refine walk_r rfl rfl rfl (dop_call [] [] [] rfl (ev1 rfl) en rfl rfl (wakes_d) rfl rfl rfl rfl rfl rfl) ?_
  refine walk_r rfl rfl rfl (op_not rfl (ev1 rfl)) ?_
  refine walk_nil ?_
  refine dwp_if_f rfl (rfl) ?_
  refine dwp_skip ?_
  refine dwp_seq ?_
  refine dwp_seq ?_
  refine dwp_region ?_
  refine walk_r rfl rfl rfl (op_move (.inl rfl) (ev1 rfl)) ?_
  refine walk_r rfl rfl rfl (op_len rfl sl22 (ev1 rfl)) ?_
  refine walk_r rfl rfl rfl (op_move (.inl rfl) (ev1 rfl)) ?_
  refine walk_nil ?_
  refine dwp_block ?_
  refine dwp_loopS ⟨hs0, rfl⟩ (α := Nat) (fun k => [(17, .val (.int .i64 (k : Int)))]) [(1, _), (15, _), (16, _)] (fun k => []) [_] (fun k => k ≤ l.length) (fun k => l.length - k) 0 [0] (by simp) rfl ⟨rfl, rfl, rfl, trivial⟩ ⟨rfl, trivial⟩ ⟨rfl, trivial⟩ ?_
  intro k hx
  simp only [upd, List.set_cons_zero, List.set_cons_succ, List.cons_append, List.nil_append]
  have hk := hx
  refine dwp_seq ?_
  refine dwp_region ?_
  refine walk_r rfl rfl rfl (op_lss rfl (ev1 rfl) (ev1 rfl)) ?_
  refine walk_nil ?_
  refine dwp_seq ?_
  refine dwp_cond rfl (fun c2 => ?_) (fun c2 => ?_)
  · try simp only [decide_eq_true_eq, decide_eq_false_iff_not, beq_iff_eq, bne_iff_ne, beq_eq_false_iff_ne, bne_eq_false_iff_eq, Bool.not_eq_true', Bool.not_eq_false', Bool.and_eq_true, Bool.or_eq_true, Bool.or_eq_false_iff, ne_eq, Decidable.not_not, Int.not_lt, Int.not_le] at c2
    refine dwp_skip ?_
    refine dwp_seq ?_
    refine dwp_block ?_
    refine dwp_seq ?_
    refine dwp_holes 1 (by simp only [holes, List.cons_append, List.nil_append]; exact rfl) ?_
    refine dwp_region ?_
    refine walk_r rfl rfl rfl (op_move (.inl rfl) (ev1 rfl)) ?_
    refine walk_r rfl rfl rfl (op_ixsr (j := k) rfl sl22 (ev1 rfl) (ev1 rfl) (fun _ => rfl) (by decide) (by omega) (by omega)) ?_
    refine walk_r rfl rfl rfl (op_ldwd rfl tb27 (ev1 rfl) rfl) ?_
    refine walk_w rfl rfl rfl (op_alloc 1 rfl zr27 rfl) (by simp only [upd, List.set_cons_zero, List.set_cons_succ]; exact rfl) ?_
    refine walk_r rfl rfl rfl (op_move (.inr rfl) (ev1 rfl)) ?_
    refine walk_s rfl rfl (op_stwa rfl tb27 (ev1 rfl) (ev1 rfl) rfl rfl rfl rfl) (by simp only [upd, List.set_cons_zero, List.set_cons_succ]; exact rfl) ?_
    refine walk_nil ?_
    refine dwp_seq ?_
    refine dwp_draw [([], []), ([], []), ([], []), ([1], []), ([0], []), ([1], []), ([], []), ([], []), ([], [])] mixed (by kernel_rfl) ?_
    refine lex_r rfl rfl (op_move (.inl rfl) (ev1 rfl)) ?_
    refine lex_r rfl rfl (op_lss rfl (ev1 rfl) (ev1 rfl)) ?_
    refine lex_r rfl rfl (op_move (.inl rfl) (ev1 rfl)) ?_
    refine lex_gr (gd_t rfl rfl rfl) rfl rfl (op_ldw rfl tb27 (ev1 rfl) rfl rfl) ?_
    refine lex_gr (gd_t rfl rfl rfl) rfl rfl ((dop_call [0] [] [] rfl (ev1 rfl) (ec (ev2 rfl) en) rfl rfl (text_d l[k] (hl _ (List.getElem_mem _))) rfl rfl rfl rfl rfl rfl).glob rfl (by simp)) ?_
    refine lex_gr (gd_t rfl rfl rfl) rfl rfl (op_ldw rfl tb27 (ev1 rfl) rfl rfl) ?_
    refine lex_gr (gd_t rfl rfl rfl) rfl rfl (dop_call [] [] [] rfl (ev1 rfl) (ec (ev2 rfl) en) rfl rfl (rtext_d l[k] (hl _ (List.getElem_mem _))) rfl rfl rfl rfl rfl rfl) ?_
    refine lex_gr (gd_t rfl rfl rfl) rfl rfl (op_nen (tx_B _) (tx_B _) rfl (ev2 rfl) (ev2 rfl)) ?_
    refine lex_r rfl rfl (op_and rfl (ev1 rfl) (ev3 rfl id)) ?_
    refine lex_nil ?_
    refine dwp_if_f rfl (by simp) ?_
    refine dwp_skip ?_
    refine dwp_region ?_
    refine walk_r rfl rfl rfl (op_add' rfl (ev1 rfl) (ev1 rfl) (fun _ => IntWalk.i64_in _ (by omega))) ?_
    refine walk_r rfl rfl rfl (op_move (.inl rfl) (ev1 rfl)) ?_
    refine walk_nil ?_
    refine ⟨k + 1, [0], by omega, by simp only []; omega, rfl, ⟨rfl, rfl, rfl, rfl, trivial⟩, ⟨rfl, trivial⟩⟩
  · try simp only [decide_eq_true_eq, decide_eq_false_iff_not, beq_iff_eq, bne_iff_ne, beq_eq_false_iff_ne, bne_eq_false_iff_eq, Bool.not_eq_true', Bool.not_eq_false', Bool.and_eq_true, Bool.or_eq_true, Bool.or_eq_false_iff, ne_eq, Decidable.not_not, Int.not_lt, Int.not_le] at c2
    refine dwp_exit ?_
    refine dwp_seq ?_
    refine dwp_seq ?_
    refine dwp_region ?_
    refine walk_r rfl rfl rfl (op_move (.inl rfl) (ev1 rfl)) ?_
    refine walk_r rfl rfl rfl (op_len rfl sl55 (ev1 rfl)) ?_
    refine walk_r rfl rfl rfl (op_move (.inl rfl) (ev1 rfl)) ?_
    refine walk_nil ?_
    refine dwp_block ?_
    refine dwp_loopS ⟨hs0, rfl⟩ (α := Nat) (fun k => [(34, .val (.int .i64 (k : Int)))]) [(32, _), (33, _)] (fun k => []) [_] (fun k => k ≤ tt.length) (fun k => tt.length - k) 0 [0] (by simp) rfl ⟨rfl, rfl, trivial⟩ ⟨rfl, trivial⟩ ⟨rfl, trivial⟩ ?_
    intro k hx
    simp only [upd, List.set_cons_zero, List.set_cons_succ, List.cons_append, List.nil_append]
    have hk := hx
    refine dwp_seq ?_
    refine dwp_region ?_
    refine walk_r rfl rfl rfl (op_lss rfl (ev1 rfl) (ev1 rfl)) ?_
    refine walk_nil ?_
    refine dwp_seq ?_
    refine dwp_cond rfl (fun c4 => ?_) (fun c4 => ?_)
    · try simp only [decide_eq_true_eq, decide_eq_false_iff_not, beq_iff_eq, bne_iff_ne, beq_eq_false_iff_ne, bne_eq_false_iff_eq, Bool.not_eq_true', Bool.not_eq_false', Bool.and_eq_true, Bool.or_eq_true, Bool.or_eq_false_iff, ne_eq, Decidable.not_not, Int.not_lt, Int.not_le] at c4
      refine dwp_skip ?_
      refine dwp_seq ?_
      refine dwp_block ?_
      refine dwp_seq ?_
      refine dwp_region ?_
      refine walk_r rfl rfl rfl (op_move (.inl rfl) (ev1 rfl)) ?_
      refine walk_r rfl rfl rfl (op_ixsr (j := k) rfl sl55 (ev1 rfl) (ev1 rfl) (fun _ => rfl) (by decide) (by omega) (by omega)) ?_
      refine walk_r rfl rfl rfl (op_ldod rfl tb9 (ev1 rfl) rfl) ?_
      refine walk_r rfl rfl rfl (op_move (.inr rfl) (ev1 rfl)) ?_
      refine walk_r rfl rfl rfl (op_move (.inr rfl) (ev1 rfl)) ?_
      refine walk_nil ?_
      refine dwp_seq ?_
      refine dwp_seq ?_
      refine dwp_region ?_
      refine walk_r rfl rfl rfl (op_move (.inl rfl) (ev1 rfl)) ?_
      refine walk_r rfl rfl rfl (op_eql rfl (ev1 rfl) (ev1 rfl)) ?_
      refine walk_nil ?_
      refine dwp_cond rfl (fun c5 => ?_) (fun c5 => ?_)
      · try simp only [decide_eq_true_eq, decide_eq_false_iff_not, beq_iff_eq, bne_iff_ne, beq_eq_false_iff_ne, bne_eq_false_iff_eq, Bool.not_eq_true', Bool.not_eq_false', Bool.and_eq_true, Bool.or_eq_true, Bool.or_eq_false_iff, ne_eq, Decidable.not_not, Int.not_lt, Int.not_le] at c5
        refine dwp_exit ?_
        refine dwp_seq ?_
        refine dwp_region ?_
        refine walk_r rfl rfl rfl (op_move (.inr rfl) (ev1 rfl)) ?_
        refine walk_nil ?_
        refine dwp_ret ?_
        refine kend [0] (rs1 rfl (rv_t rfl)) rfl rfl ?_ ⟨rfl, trivial⟩
        rfl
      · try simp only [decide_eq_true_eq, decide_eq_false_iff_not, beq_iff_eq, bne_iff_ne, beq_eq_false_iff_ne, bne_eq_false_iff_eq, Bool.not_eq_true', Bool.not_eq_false', Bool.and_eq_true, Bool.or_eq_true, Bool.or_eq_false_iff, ne_eq, Decidable.not_not, Int.not_lt, Int.not_le] at c5
        refine dwp_skip ?_
        refine dwp_seq ?_
        refine dwp_region ?_
        refine walk_r rfl rfl rfl (op_move (.inl rfl) (ev1 rfl)) ?_
        refine walk_r rfl rfl rfl (op_move (.inl rfl) (ev1 rfl)) ?_
        refine walk_r rfl rfl rfl (op_lenn rfl un9 (ev1 rfl)) ?_
        refine walk_r rfl rfl rfl (op_min rfl (ev1 rfl) (ev1 rfl)) ?_
        refine walk_r rfl rfl rfl (op_slnn (i := 0) (j := min tt[k].length 70) rfl un9 (ev1 rfl) bd_none (bd_some (ev1 rfl)) (fun _ => by omega) (fun _ => by omega) (fun _ => by omega)) ?_
        refine walk_r rfl rfl rfl (op_move (.inr rfl) (ev1 rfl)) ?_
        refine walk_nil ?_
        refine dwp_seq ?_
        have hkl : k < tt.length := by omega
        obtain ⟨s, hs⟩ : ∃ s, s = (tt[k].drop 0).take (min tt[k].length 70 - 0) := ⟨_, rfl⟩
        have hsB : isB s := fun x hx => by rw [hs] at hx; exact ht _ (List.getElem_mem hkl) x (List.mem_of_mem_drop (List.mem_of_mem_take hx))
        have hsl : s.length ≤ 70 := by rw [hs, List.length_take]; omega
        rw [← hs]
        refine dwp_holes 1 (by simp only [holes, List.cons_append, List.nil_append]; exact rfl) ?_
        refine dwp_region ?_
        refine walk_r rfl rfl rfl (op_move (.inl rfl) (ev1 rfl)) ?_
        refine walk_r rfl rfl rfl (dop_call [] [] [] rfl (ev1 rfl) (ec (ev1 rfl) en) rfl rfl (read_d s hsB (by omega)) rfl rfl rfl rfl rfl rfl) ?_
        refine walk_r rfl rfl rfl (op_move (.inl rfl) (ev1 rfl)) ?_
        refine walk_r rfl rfl rfl (op_ext rfl (ev1 rfl) rfl) ?_
        refine walk_r rfl rfl rfl (op_ext rfl (ev1 rfl) rfl) ?_
        refine walk_w rfl rfl rfl (op_alloc 1 rfl zr27 rfl) (by simp only [upd, List.set_cons_zero, List.set_cons_succ]; exact rfl) ?_
        refine walk_s rfl rfl (op_stwa rfl tb27 (ev1 rfl) (ev1 rfl) rfl rfl rfl rfl) (by simp only [upd, List.set_cons_zero, List.set_cons_succ]; exact rfl) ?_
        refine walk_r rfl rfl rfl (op_move (.inr rfl) (ev1 rfl)) ?_
        refine walk_nil ?_
        refine dwp_seq ?_
        refine dwp_holes 1 (by simp only [holes, List.cons_append, List.nil_append]; exact rfl) ?_
        refine dwp_region ?_
        refine walk_r rfl rfl rfl (op_move (.inl rfl) (ev1 rfl)) ?_
        refine walk_r rfl rfl rfl (dop_call [] [] [] rfl (ev1 rfl) (ec (ev1 rfl) en) rfl rfl (rread_d s hsB (by omega)) rfl rfl rfl rfl rfl rfl) ?_
        refine walk_r rfl rfl rfl (op_move (.inl rfl) (ev1 rfl)) ?_
        refine walk_r rfl rfl rfl (op_ext rfl (ev1 rfl) rfl) ?_
        refine walk_r rfl rfl rfl (op_ext rfl (ev1 rfl) rfl) ?_
        refine walk_w rfl rfl rfl (op_alloc 2 rfl zr27 rfl) (by simp only [upd, List.set_cons_zero, List.set_cons_succ]; exact rfl) ?_
        refine walk_s rfl rfl (op_stwa rfl tb27 (ev1 rfl) (ev1 rfl) rfl rfl rfl rfl) (by simp only [upd, List.set_cons_zero, List.set_cons_succ]; exact rfl) ?_
        refine walk_r rfl rfl rfl (op_move (.inr rfl) (ev1 rfl)) ?_
        refine walk_nil ?_
        refine dwp_seq ?_
        refine dwp_seq ?_
        by_cases hok : (refF s).2 = true
        · have hr := ((read_same s).resolve_right (fun h => by rw [hok] at h; cases h.2)).1
          rw [hr, hok]
          refine dwp_region ?_
          refine walk_r rfl rfl rfl (op_move (.inl rfl) (ev1 rfl)) ?_
          refine walk_r rfl rfl rfl (op_not rfl (ev1 rfl)) ?_
          refine walk_nil ?_
          refine dwp_if_f rfl (rfl) ?_
          refine dwp_skip ?_
          refine dwp_seq ?_
          refine dwp_region ?_
          refine walk_r rfl rfl rfl (op_ldw rfl tb27 (ev1 rfl) rfl rfl) ?_
          refine walk_r rfl rfl rfl (op_ldw rfl tb27 (ev1 rfl) rfl rfl) ?_
          refine walk_r rfl rfl rfl (op_ner eq27 rfl gd27 tb27 (ev1 rfl) (ev1 rfl)) ?_
          refine walk_r rfl rfl rfl (op_move (.inl rfl) (ev1 rfl)) ?_
          refine walk_gr (gd_f rfl rfl rfl) rfl rfl rfl (op_move (.inl rfl) (ev1 rfl)) ?_
          refine walk_gr (gd_f rfl rfl rfl) rfl rfl rfl (op_eql rfl (ev2 rfl) (ev1 rfl)) ?_
          refine walk_gr (gd_f rfl rfl rfl) rfl rfl rfl (op_move (.inl rfl) (ev1 rfl)) ?_
          refine walk_gr (gd_f rfl rfl rfl) rfl rfl rfl (op_neb rfl un4 (ev2 rfl) (ev2 rfl)) ?_
          refine walk_r rfl rfl rfl (op_or rfl (ev1 rfl) (ev3 rfl id)) ?_
          refine walk_r rfl rfl rfl (op_move (.inl rfl) (ev1 rfl)) ?_
          refine walk_gr (gd_f rfl rfl rfl) rfl rfl rfl (op_move (.inl rfl) (ev1 rfl)) ?_
          refine walk_gr (gd_f rfl rfl rfl) rfl rfl rfl (op_not rfl (ev2 rfl)) ?_
          refine walk_gr (gd_f rfl rfl rfl) rfl rfl rfl (op_move (.inl rfl) (ev2 rfl)) ?_
          refine walk_gr (gd_tt rfl rfl rfl) rfl rfl rfl (op_move (.inl rfl) (ev1 rfl)) ?_
          refine walk_gr (gd_tt rfl rfl rfl) rfl rfl rfl (op_neq rfl (ev2 rfl) (ev1 rfl)) ?_
          refine walk_gr (gd_f rfl rfl rfl) rfl rfl rfl (op_and rfl (ev2 rfl) (ev2 rfl)) ?_
          refine walk_r rfl rfl rfl (op_or rfl (ev1 rfl) (ev3 rfl id)) ?_
          refine walk_nil ?_
          refine dwp_if_f rfl (by simp [eqI]) ?_
          refine dwp_skip ?_
          refine dwp_region ?_
          refine walk_r rfl rfl rfl (op_add' rfl (ev1 rfl) (ev1 rfl) (fun _ => IntWalk.i64_in _ (by omega))) ?_
          refine walk_r rfl rfl rfl (op_move (.inl rfl) (ev1 rfl)) ?_
          refine walk_nil ?_
          refine ⟨k + 1, [0], by omega, by simp only []; omega, rfl, ⟨rfl, rfl, rfl, trivial⟩, ⟨rfl, trivial⟩⟩
        · have hok2 := Bool.eq_false_iff.2 hok
          have hr := ((read_same s).resolve_left (fun h => hok h.2)).1
          rw [hr, hok2]
          refine dwp_region ?_
          refine walk_r rfl rfl rfl (op_move (.inl rfl) (ev1 rfl)) ?_
          refine walk_r rfl rfl rfl (op_not rfl (ev1 rfl)) ?_
          refine walk_nil ?_
          refine dwp_if_t rfl (rfl) ?_
          refine dwp_region ?_
          refine walk_r rfl rfl rfl (op_build0 rfl fl27 zr27) ?_
          refine walk_s rfl rfl (op_stwa rfl tb27 (ev1 rfl) (ev1 rfl) rfl rfl rfl rfl) (by simp only [upd, List.set_cons_zero, List.set_cons_succ]; exact rfl) ?_
          refine walk_nil ?_
          refine dwp_seq ?_
          refine dwp_region ?_
          refine walk_r rfl rfl rfl (op_ldw rfl tb27 (ev1 rfl) rfl rfl) ?_
          refine walk_r rfl rfl rfl (op_ldw rfl tb27 (ev1 rfl) rfl rfl) ?_
          refine walk_r rfl rfl rfl (op_ner eq27 rfl gd27 tb27 (ev1 rfl) (ev1 rfl)) ?_
          refine walk_r rfl rfl rfl (op_move (.inl rfl) (ev1 rfl)) ?_
          refine walk_gr (gd_f rfl rfl rfl) rfl rfl rfl (op_move (.inl rfl) (ev1 rfl)) ?_
          refine walk_gr (gd_f rfl rfl rfl) rfl rfl rfl (op_eql rfl (ev2 rfl) (ev1 rfl)) ?_
          refine walk_gr (gd_f rfl rfl rfl) rfl rfl rfl (op_move (.inl rfl) (ev1 rfl)) ?_
          refine walk_gr (gd_f rfl rfl rfl) rfl rfl rfl (op_neb rfl un4 (ev2 rfl) (ev2 rfl)) ?_
          refine walk_r rfl rfl rfl (op_or rfl (ev1 rfl) (ev3 rfl id)) ?_
          refine walk_r rfl rfl rfl (op_move (.inl rfl) (ev1 rfl)) ?_
          refine walk_gr (gd_f rfl rfl rfl) rfl rfl rfl (op_move (.inl rfl) (ev1 rfl)) ?_
          refine walk_gr (gd_f rfl rfl rfl) rfl rfl rfl (op_not rfl (ev2 rfl)) ?_
          refine walk_gr (gd_f rfl rfl rfl) rfl rfl rfl (op_move (.inl rfl) (ev2 rfl)) ?_
          refine walk_gr (gd_tt rfl rfl rfl) rfl rfl rfl (op_move (.inl rfl) (ev1 rfl)) ?_
          refine walk_gr (gd_tt rfl rfl rfl) rfl rfl rfl (op_neq rfl (ev2 rfl) (ev1 rfl)) ?_
          refine walk_gr (gd_f rfl rfl rfl) rfl rfl rfl (op_and rfl (ev2 rfl) (ev2 rfl)) ?_
          refine walk_r rfl rfl rfl (op_or rfl (ev1 rfl) (ev3 rfl id)) ?_
          refine walk_nil ?_
          refine dwp_if_f rfl (by simp [eqI]) ?_
          refine dwp_skip ?_
          refine dwp_region ?_
          refine walk_r rfl rfl rfl (op_add' rfl (ev1 rfl) (ev1 rfl) (fun _ => IntWalk.i64_in _ (by omega))) ?_
          refine walk_r rfl rfl rfl (op_move (.inl rfl) (ev1 rfl)) ?_
          refine walk_nil ?_
          refine ⟨k + 1, [0], by omega, by simp only []; omega, rfl, ⟨rfl, rfl, rfl, trivial⟩, ⟨rfl, trivial⟩⟩
    · try simp only [decide_eq_true_eq, decide_eq_false_iff_not, beq_iff_eq, bne_iff_ne, beq_eq_false_iff_ne, bne_eq_false_iff_eq, Bool.not_eq_true', Bool.not_eq_false', Bool.and_eq_true, Bool.or_eq_true, Bool.or_eq_false_iff, ne_eq, Decidable.not_not, Int.not_lt, Int.not_le] at c4
      refine dwp_exit ?_
      refine dwp_seq ?_
      refine dwp_region ?_
      refine walk_r rfl rfl rfl (op_move (.inr rfl) (ev1 rfl)) ?_
      refine walk_nil ?_
      refine dwp_ret ?_
      refine kend [0] (rs1 rfl (rv_t rfl)) rfl rfl ?_ ⟨rfl, trivial⟩
      rfl
end Go.Proofs.YtaekkjhpdendoaaDoor

namespace Go.Proofs.YtaekkjhpdendoaaDoor
set_option linter.unusedVariables false
set_option linter.unusedSimpArgs false
open Go.RowKit
set_option maxRecDepth 4000 in
set_option maxHeartbeats 1000000 in
theorem back_d (i : I3) (l : List Nat) (hi : i.rng) (hl : isB l) (hll : l.length ≤ 9223372036854775807) : DFun Tryd.prog 8 [idD i, .val (.string (strN l))] [.glob 0 pow10L] (.val (.bool true)) [.glob 0 pow10L] := by
  refine dcalls_go (N := 47) 1 (by kernel_rfl) Tryd.func8 rfl rfl rfl (by simp only [fr0, Nat.zero_add, Nat.reduceAdd]; exact rfl) rfl fun s0 hs0 => ?_
  refine dwp_seq ?_
  refine dwp_holes 1 (by simp only [holes, List.cons_append, List.nil_append]; exact rfl) ?_
  refine dwp_region ?_
  refine walk_w rfl rfl rfl (op_boxa 1 rfl (ev1 rfl) rfl) (by simp only [upd, List.set_cons_zero, List.set_cons_succ]; exact rfl) ?_
  refine walk_r rfl rfl rfl (op_move (.inr rfl) (ev1 rfl)) ?_
  refine walk_nil ?_
  refine dwp_seq ?_
  refine dwp_seq ?_
  refine dwp_region ?_
  refine walk_r rfl rfl rfl (dop_call [] [] [] rfl (ev1 rfl) en rfl rfl (wakes_d) rfl rfl rfl rfl rfl rfl) ?_
  refine walk_r rfl rfl rfl (op_not rfl (ev1 rfl)) ?_
  refine walk_nil ?_
  refine dwp_if_f rfl (rfl) ?_
  refine dwp_skip ?_
  refine dwp_seq ?_
  have htl := tx_len hi
  refine dwp_holes 1 (by simp only [holes, List.cons_append, List.nil_append]; exact rfl) ?_
  refine dwp_region ?_
  refine walk_r rfl rfl rfl (op_ldw rfl tb27 (ev1 rfl) rfl rfl) ?_
  refine walk_w rfl rfl rfl (dop_call [0] [] [] rfl (ev1 rfl) (ec (ev1 rfl) en) rfl rfl (text_d i hi) rfl rfl rfl rfl rfl rfl) (by simp only [upd, List.set_cons_zero, List.set_cons_succ]; exact rfl) ?_
  refine walk_r rfl rfl rfl (dop_call [] [] [] rfl (ev1 rfl) (ec (ev1 rfl) en) rfl rfl (read_d (tx i) (tx_B i) (by omega)) rfl rfl rfl rfl rfl rfl) ?_
  refine walk_r rfl rfl rfl (op_move (.inl rfl) (ev1 rfl)) ?_
  refine walk_r rfl rfl rfl (op_ext rfl (ev1 rfl) rfl) ?_
  refine walk_r rfl rfl rfl (op_ext rfl (ev1 rfl) rfl) ?_
  refine walk_w rfl rfl rfl (op_alloc 2 rfl zr27 rfl) (by simp only [upd, List.set_cons_zero, List.set_cons_succ]; exact rfl) ?_
  refine walk_s rfl rfl (op_stwa rfl tb27 (ev1 rfl) (ev1 rfl) rfl rfl rfl rfl) (by simp only [upd, List.set_cons_zero, List.set_cons_succ]; exact rfl) ?_
  refine walk_r rfl rfl rfl (op_move (.inr rfl) (ev1 rfl)) ?_
  refine walk_nil ?_
  refine dwp_seq ?_
  refine dwp_seq ?_
  by_cases hm : mayR i = true
  · rw [readC_tx hm]
    refine dwp_region ?_
    refine walk_r rfl rfl rfl (op_ldw rfl tb27 (ev1 rfl) rfl rfl) ?_
    refine walk_r rfl rfl rfl (dop_call [] [] [] rfl (ev1 rfl) (ec (ev1 rfl) en) rfl rfl (check_d i) rfl rfl rfl rfl rfl rfl) ?_
    refine walk_r rfl rfl rfl (op_eql rfl (ev1 rfl) (ev1 rfl)) ?_
    refine walk_nil ?_
    refine dwp_if_t rfl (by rw [hm]; rfl) ?_
    refine dwp_seq ?_
    refine dwp_region ?_
    refine walk_r rfl rfl rfl (op_move (.inl rfl) (ev1 rfl)) ?_
    refine walk_r rfl rfl rfl (op_neq rfl (ev1 rfl) (ev1 rfl)) ?_
    refine walk_r rfl rfl rfl (op_move (.inl rfl) (ev1 rfl)) ?_
    refine walk_gr (gd_f rfl rfl rfl) rfl rfl rfl (op_ldw rfl tb27 (ev1 rfl) rfl rfl) ?_
    refine walk_gr (gd_f rfl rfl rfl) rfl rfl rfl (op_ldw rfl tb27 (ev1 rfl) rfl rfl) ?_
    refine walk_gr (gd_f rfl rfl rfl) rfl rfl rfl (op_ner eq27 rfl gd27 tb27 (ev2 rfl) (ev2 rfl)) ?_
    refine walk_r rfl rfl rfl (op_or rfl (ev1 rfl) (ev3 rfl id)) ?_
    refine walk_nil ?_
    refine dwp_if_f rfl (by simp [eqI]) ?_
    refine dwp_skip ?_
    refine dwp_seq ?_
    refine dwp_holes 1 (by simp only [holes, List.cons_append, List.nil_append]; exact rfl) ?_
    refine dwp_region ?_
    refine walk_r rfl rfl rfl (op_move (.inl rfl) (ev1 rfl)) ?_
    refine walk_r rfl rfl rfl (dop_call [] [] [] rfl (ev1 rfl) (ec (ev1 rfl) en) rfl rfl (read_d l hl hll) rfl rfl rfl rfl rfl rfl) ?_
    refine walk_r rfl rfl rfl (op_move (.inl rfl) (ev1 rfl)) ?_
    refine walk_r rfl rfl rfl (op_ext rfl (ev1 rfl) rfl) ?_
    refine walk_r rfl rfl rfl (op_ext rfl (ev1 rfl) rfl) ?_
    refine walk_w rfl rfl rfl (op_alloc 3 rfl zr27 rfl) (by simp only [upd, List.set_cons_zero, List.set_cons_succ]; exact rfl) ?_
    refine walk_s rfl rfl (op_stwa rfl tb27 (ev1 rfl) (ev1 rfl) rfl rfl rfl rfl) (by simp only [upd, List.set_cons_zero, List.set_cons_succ]; exact rfl) ?_
    refine walk_r rfl rfl rfl (op_move (.inr rfl) (ev1 rfl)) ?_
    refine walk_nil ?_
    refine dwp_seq ?_
    refine dwp_seq ?_
    by_cases hr : (readC l).isSome = true
    · obtain ⟨c, hc⟩ := Option.isSome_iff_exists.1 hr
      obtain ⟨hcm, hcl⟩ := readC_some hc
      have hcr : c.rng := by have := may_bd hcm; unfold I3.rng; omega
      rw [hc]
      refine dwp_region ?_
      refine walk_r rfl rfl rfl (op_move (.inl rfl) (ev1 rfl)) ?_
      refine walk_r rfl rfl rfl (op_neq rfl (ev1 rfl) (ev1 rfl)) ?_
      refine walk_nil ?_
      refine dwp_if_f rfl (rfl) ?_
      refine dwp_skip ?_
      refine dwp_seq ?_
      refine dwp_region ?_
      refine walk_r rfl rfl rfl (op_ldw rfl tb27 (ev1 rfl) rfl rfl) ?_
      refine walk_w rfl rfl rfl (dop_call [0] [] [] rfl (ev1 rfl) (ec (ev1 rfl) en) rfl rfl (text_d c hcr) rfl rfl rfl rfl rfl rfl) (by simp only [upd, List.set_cons_zero, List.set_cons_succ]; exact rfl) ?_
      refine walk_r rfl rfl rfl (op_move (.inl rfl) (ev1 rfl)) ?_
      refine walk_r rfl rfl rfl (op_eqn (tx_B _) (hl) rfl (ev1 rfl) (ev1 rfl)) ?_
      refine walk_r rfl rfl rfl (op_move (.inl rfl) (ev1 rfl)) ?_
      refine walk_gr (gd_t rfl rfl rfl) rfl rfl rfl (op_ldw rfl tb27 (ev1 rfl) rfl rfl) ?_
      refine walk_gr (gd_t rfl rfl rfl) rfl rfl rfl (dop_call [] [] [] rfl (ev1 rfl) (ec (ev2 rfl) en) rfl rfl (check_d c) rfl rfl rfl rfl rfl rfl) ?_
      refine walk_gr (gd_t rfl rfl rfl) rfl rfl rfl (op_eql rfl (ev2 rfl) (ev1 rfl)) ?_
      refine walk_r rfl rfl rfl (op_and rfl (ev1 rfl) (ev3 rfl id)) ?_
      refine walk_r rfl rfl rfl (op_move (.inr rfl) (ev1 rfl)) ?_
      refine walk_nil ?_
      refine dwp_ret ?_
      refine kend [0] (rs1 rfl (rv_t rfl)) rfl rfl ?_ ⟨rfl, trivial⟩
      first | (simp [eqI]; done) | (simp [← hcl, hcm, errOr]; done) | simp_all [eqI, errOr]
    · have hrn : readC l = none := by simpa using hr
      rw [hrn]
      refine dwp_region ?_
      refine walk_r rfl rfl rfl (op_move (.inl rfl) (ev1 rfl)) ?_
      refine walk_r rfl rfl rfl (op_neq rfl (ev1 rfl) (ev1 rfl)) ?_
      refine walk_nil ?_
      refine dwp_if_t rfl (rfl) ?_
      refine dwp_seq ?_
      refine dwp_region ?_
      refine walk_r rfl rfl rfl (op_ldw rfl tb27 (ev1 rfl) rfl rfl) ?_
      refine walk_r rfl rfl rfl (op_build0 rfl fl27 zr27) ?_
      refine walk_r rfl rfl rfl (op_eqr eq27 rfl gd27 tb27 (ev1 rfl) (ev1 rfl)) ?_
      refine walk_r rfl rfl rfl (op_move (.inr rfl) (ev1 rfl)) ?_
      refine walk_nil ?_
      refine dwp_ret ?_
      refine kend [0] (rs1 rfl (rv_t rfl)) rfl rfl ?_ ⟨rfl, trivial⟩
      first | (simp [eqI]; done) | (simp [← hcl, hcm, errOr]; done) | simp_all [eqI, errOr]
  · have hm2 := Bool.eq_false_iff.2 hm
    rw [readC_bad hi hm2]
    refine dwp_region ?_
    refine walk_r rfl rfl rfl (op_ldw rfl tb27 (ev1 rfl) rfl rfl) ?_
    refine walk_r rfl rfl rfl (dop_call [] [] [] rfl (ev1 rfl) (ec (ev1 rfl) en) rfl rfl (check_d i) rfl rfl rfl rfl rfl rfl) ?_
    refine walk_r rfl rfl rfl (op_eql rfl (ev1 rfl) (ev1 rfl)) ?_
    refine walk_nil ?_
    refine dwp_if_f rfl (by rw [hm2]; rfl) ?_
    refine dwp_seq ?_
    refine dwp_region ?_
    refine walk_r rfl rfl rfl (op_move (.inl rfl) (ev1 rfl)) ?_
    refine walk_r rfl rfl rfl (op_neq rfl (ev1 rfl) (ev1 rfl)) ?_
    refine walk_nil ?_
    refine dwp_if_f rfl (rfl) ?_
    refine dwp_skip ?_
    refine dwp_seq ?_
    refine dwp_holes 1 (by simp only [holes, List.cons_append, List.nil_append]; exact rfl) ?_
    refine dwp_region ?_
    refine walk_r rfl rfl rfl (op_move (.inl rfl) (ev1 rfl)) ?_
    refine walk_r rfl rfl rfl (dop_call [] [] [] rfl (ev1 rfl) (ec (ev1 rfl) en) rfl rfl (read_d l hl hll) rfl rfl rfl rfl rfl rfl) ?_
    refine walk_r rfl rfl rfl (op_move (.inl rfl) (ev1 rfl)) ?_
    refine walk_r rfl rfl rfl (op_ext rfl (ev1 rfl) rfl) ?_
    refine walk_r rfl rfl rfl (op_ext rfl (ev1 rfl) rfl) ?_
    refine walk_w rfl rfl rfl (op_alloc 3 rfl zr27 rfl) (by simp only [upd, List.set_cons_zero, List.set_cons_succ]; exact rfl) ?_
    refine walk_s rfl rfl (op_stwa rfl tb27 (ev1 rfl) (ev1 rfl) rfl rfl rfl rfl) (by simp only [upd, List.set_cons_zero, List.set_cons_succ]; exact rfl) ?_
    refine walk_r rfl rfl rfl (op_move (.inr rfl) (ev1 rfl)) ?_
    refine walk_nil ?_
    refine dwp_seq ?_
    refine dwp_seq ?_
    by_cases hr : (readC l).isSome = true
    · obtain ⟨c, hc⟩ := Option.isSome_iff_exists.1 hr
      obtain ⟨hcm, hcl⟩ := readC_some hc
      have hcr : c.rng := by have := may_bd hcm; unfold I3.rng; omega
      rw [hc]
      refine dwp_region ?_
      refine walk_r rfl rfl rfl (op_move (.inl rfl) (ev1 rfl)) ?_
      refine walk_r rfl rfl rfl (op_neq rfl (ev1 rfl) (ev1 rfl)) ?_
      refine walk_nil ?_
      refine dwp_if_f rfl (rfl) ?_
      refine dwp_skip ?_
      refine dwp_seq ?_
      refine dwp_region ?_
      refine walk_r rfl rfl rfl (op_ldw rfl tb27 (ev1 rfl) rfl rfl) ?_
      refine walk_w rfl rfl rfl (dop_call [0] [] [] rfl (ev1 rfl) (ec (ev1 rfl) en) rfl rfl (text_d c hcr) rfl rfl rfl rfl rfl rfl) (by simp only [upd, List.set_cons_zero, List.set_cons_succ]; exact rfl) ?_
      refine walk_r rfl rfl rfl (op_move (.inl rfl) (ev1 rfl)) ?_
      refine walk_r rfl rfl rfl (op_eqn (tx_B _) (hl) rfl (ev1 rfl) (ev1 rfl)) ?_
      refine walk_r rfl rfl rfl (op_move (.inl rfl) (ev1 rfl)) ?_
      refine walk_gr (gd_t rfl rfl rfl) rfl rfl rfl (op_ldw rfl tb27 (ev1 rfl) rfl rfl) ?_
      refine walk_gr (gd_t rfl rfl rfl) rfl rfl rfl (dop_call [] [] [] rfl (ev1 rfl) (ec (ev2 rfl) en) rfl rfl (check_d c) rfl rfl rfl rfl rfl rfl) ?_
      refine walk_gr (gd_t rfl rfl rfl) rfl rfl rfl (op_eql rfl (ev2 rfl) (ev1 rfl)) ?_
      refine walk_r rfl rfl rfl (op_and rfl (ev1 rfl) (ev3 rfl id)) ?_
      refine walk_r rfl rfl rfl (op_move (.inr rfl) (ev1 rfl)) ?_
      refine walk_nil ?_
      refine dwp_ret ?_
      refine kend [0] (rs1 rfl (rv_t rfl)) rfl rfl ?_ ⟨rfl, trivial⟩
      first | (simp [eqI]; done) | (simp [← hcl, hcm, errOr]; done) | simp_all [eqI, errOr]
    · have hrn : readC l = none := by simpa using hr
      rw [hrn]
      refine dwp_region ?_
      refine walk_r rfl rfl rfl (op_move (.inl rfl) (ev1 rfl)) ?_
      refine walk_r rfl rfl rfl (op_neq rfl (ev1 rfl) (ev1 rfl)) ?_
      refine walk_nil ?_
      refine dwp_if_t rfl (rfl) ?_
      refine dwp_seq ?_
      refine dwp_region ?_
      refine walk_r rfl rfl rfl (op_ldw rfl tb27 (ev1 rfl) rfl rfl) ?_
      refine walk_r rfl rfl rfl (op_build0 rfl fl27 zr27) ?_
      refine walk_r rfl rfl rfl (op_eqr eq27 rfl gd27 tb27 (ev1 rfl) (ev1 rfl)) ?_
      refine walk_r rfl rfl rfl (op_move (.inr rfl) (ev1 rfl)) ?_
      refine walk_nil ?_
      refine dwp_ret ?_
      refine kend [0] (rs1 rfl (rv_t rfl)) rfl rfl ?_ ⟨rfl, trivial⟩
      first | (simp [eqI]; done) | (simp [← hcl, hcm, errOr]; done) | simp_all [eqI, errOr]
end Go.Proofs.YtaekkjhpdendoaaDoor

namespace Go.Proofs.YtaekkjhpdendoaaDoor
set_option linter.unusedVariables false
set_option linter.unusedSimpArgs false
open Go.RowKit
open Go.ChangeShapes Go.WideShapes Go.ChangeAt Go.Joins Go.Deep
theorem fits_i3r : ∀ cs, fitsP [.int .u64, .int .i64, .int .u64] cs → ∃ i : I3, i.rng ∧ cs = idc i
  | [c0, c1, c2], h => by
    obtain ⟨h0, h1, h2, _⟩ := h
    obtain ⟨x0, rfl, w0⟩ := h0
    obtain ⟨x1, rfl, w1⟩ := h1
    obtain ⟨x2, rfl, w2⟩ := h2
    have r0 : 0 ≤ x0 ∧ x0 ≤ 18446744073709551615 := by simpa [Lit.wf, IntKind.min, IntKind.max, IntKind.signed, IntKind.bits] using w0
    have r1 : -9223372036854775808 ≤ x1 ∧ x1 ≤ 9223372036854775807 := by simpa [Lit.wf, IntKind.min, IntKind.max, IntKind.signed, IntKind.bits] using w1
    have r2 : 0 ≤ x2 ∧ x2 ≤ 18446744073709551615 := by simpa [Lit.wf, IntKind.min, IntKind.max, IntKind.signed, IntKind.bits] using w2
    exact ⟨⟨x0, x1, x2⟩, ⟨r0, r1, r2⟩, rfl⟩
  | [], h => by cases h
  | [_], h => by obtain ⟨_, h⟩ := h; cases h
  | [_, _], h => by obtain ⟨_, _, h⟩ := h; cases h
  | _ :: _ :: _ :: _ :: _, h => by obtain ⟨_, _, _, h⟩ := h; cases h
theorem fits_st8 : ∀ cs, fitsP [.str] cs → ∃ p : List Nat, isB p ∧ cs = st8 p
  | [v], h => by
    obtain ⟨⟨s, rfl, _⟩, _⟩ := h
    exact ⟨bytesOf' s, bytes_isB s, by unfold st8; rw [bytes_str]⟩
  | [], h => by cases h
  | _ :: _ :: _, h => by cases h.2
theorem back_s (i : I3) (s : ByteArray) (hi : i.rng) (hs : s.size ≤ maxLen) : DFun Tryd.prog 8 [idD i, .val (.string s)] [.glob 0 pow10L] (.val (.bool true)) [.glob 0 pow10L] := by
  have h := back_d i (bytesOf' s) hi (bytes_isB s) (by
    have e := congrArg ByteArray.size (bytes_str s)
    rw [strN_size] at e
    rw [e]
    exact Nat.le_trans hs (by decide))
  rw [bytes_str] at h
  exact h
end Go.Proofs.YtaekkjhpdendoaaDoor
