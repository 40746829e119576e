/- numbers laid behind bytes -/
import Derived.Test.YtfdekahbojoodaaOb
namespace Go.Proofs.Ytfdekahbojoodaa
set_option linter.unusedVariables false
set_option linter.unusedSimpArgs false
open Go.RowKit

set_option maxRecDepth 4000 in
set_option maxHeartbeats 1000000 in
theorem told_no : DFun Try.prog 38 [.val .nilIface] [] (.val (.int .i64 0)) [] := by
  refine dcalls_go (N := 13) 0 (by kernel_rfl) Try.func38 rfl rfl rfl (by simp only [fr0, Nat.zero_add, Nat.reduceAdd]; exact rfl) rfl fun s0 hs0 => ?_
  refine dwp_seq ?_
  refine dwp_region ?_
  refine walk_r rfl rfl rfl (op_move (.inr rfl) (ev1 rfl)) ?_
  refine walk_nil ?_
  refine dwp_seq ?_
  refine dwp_seq ?_
  refine dwp_holes 1 (by simp only [holes, List.cons_append, List.nil_append]; exact rfl) ?_
  refine dwp_region ?_
  refine walk_r rfl rfl rfl (op_move (.inl rfl) (ev1 rfl)) ?_
  refine walk_r rfl rfl rfl (op_tan rfl ni72 zv72 (ev1 rfl)) ?_
  refine walk_r rfl rfl rfl (op_move (.inl rfl) (ev1 rfl)) ?_
  refine walk_r rfl rfl rfl (op_ext rfl (ev1 rfl) rfl) ?_
  refine walk_r rfl rfl rfl (op_ext rfl (ev1 rfl) rfl) ?_
  refine walk_w rfl rfl rfl (op_alloc 0 rfl zr72 rfl) (by simp only [upd, List.set_cons_zero, List.set_cons_succ]; exact rfl) ?_
  refine walk_s rfl rfl (op_stwa rfl tb72 (ev1 rfl) (ev1 rfl) rfl rfl rfl rfl) (by simp only [upd, List.set_cons_zero, List.set_cons_succ]; exact rfl) ?_
  refine walk_r rfl rfl rfl (op_move (.inr rfl) (ev1 rfl)) ?_
  refine walk_nil ?_
  refine dwp_seq ?_
  refine dwp_region ?_
  refine walk_r rfl rfl rfl (op_move (.inl rfl) (ev1 rfl)) ?_
  refine walk_nil ?_
  refine dwp_if_f rfl (rfl) ?_
  refine dwp_skip ?_
  refine dwp_seq ?_
  refine dwp_region ?_
  refine walk_r rfl rfl rfl (op_move (.inr rfl) (ev1 rfl)) ?_
  refine walk_nil ?_
  refine dwp_ret ?_
  refine kend0 (rs1 rfl (rv_t rfl)) rfl ?_
  rfl

set_option maxRecDepth 4000 in
set_option maxHeartbeats 1000000 in
theorem told_w (n : Int) : DFun Try.prog 38 [.ifc 72 (.val (.agg #[.int .i64 n]))] [] (.val (.int .i64 n)) [] := by
  refine dcalls_go (N := 13) 0 (by kernel_rfl) Try.func38 rfl rfl rfl (by simp only [fr0, Nat.zero_add, Nat.reduceAdd]; exact rfl) rfl fun s0 hs0 => ?_
  refine dwp_seq ?_
  refine dwp_region ?_
  refine walk_r rfl rfl rfl (op_move (.inr rfl) (ev1 rfl)) ?_
  refine walk_nil ?_
  refine dwp_seq ?_
  refine dwp_seq ?_
  refine dwp_holes 1 (by simp only [holes, List.cons_append, List.nil_append]; exact rfl) ?_
  refine dwp_region ?_
  refine walk_r rfl rfl rfl (op_move (.inl rfl) (ev1 rfl)) ?_
  refine walk_r rfl rfl rfl (op_tay rfl ni72 (ev1 rfl)) ?_
  refine walk_r rfl rfl rfl (op_move (.inl rfl) (ev1 rfl)) ?_
  refine walk_r rfl rfl rfl (op_ext rfl (ev1 rfl) rfl) ?_
  refine walk_r rfl rfl rfl (op_ext rfl (ev1 rfl) rfl) ?_
  refine walk_w rfl rfl rfl (op_alloc 0 rfl zr72 rfl) (by simp only [upd, List.set_cons_zero, List.set_cons_succ]; exact rfl) ?_
  refine walk_s rfl rfl (op_stwa rfl tb72 (ev1 rfl) (ev1 rfl) rfl rfl rfl rfl) (by simp only [upd, List.set_cons_zero, List.set_cons_succ]; exact rfl) ?_
  refine walk_r rfl rfl rfl (op_move (.inr rfl) (ev1 rfl)) ?_
  refine walk_nil ?_
  refine dwp_seq ?_
  refine dwp_region ?_
  refine walk_r rfl rfl rfl (op_move (.inl rfl) (ev1 rfl)) ?_
  refine walk_nil ?_
  refine dwp_if_t rfl (rfl) ?_
  refine dwp_seq ?_
  refine dwp_region ?_
  refine walk_r rfl rfl rfl (op_fa rfl fo72_0 (ev1 rfl)) ?_
  refine walk_r rfl rfl rfl (op_ldo rfl tb29 (ev1 rfl) rfl rfl) ?_
  refine walk_r rfl rfl rfl (op_move (.inr rfl) (ev1 rfl)) ?_
  refine walk_nil ?_
  refine dwp_ret ?_
  refine kend0 (rs1 rfl (rv_t rfl)) rfl ?_
  rfl

set_option maxRecDepth 4000 in
set_option maxHeartbeats 1000000 in
theorem put1_idle (e : Int) : DDef Try.prog 37 [.loc 0 0] [.flat 29 [.int .i64 e]] none none [.flat 29 [.int .i64 0]] := by
  refine ddef_go1 (dr := .tup []) (t := 1) (N := 3) 1 (by kernel_rfl) Try.func37 rfl rfl rfl (by simp only [fr0, Nat.zero_add, Nat.reduceAdd]; exact rfl) rfl rfl rfl rfl rfl fun s0 hs0 => ?_
  refine walk_r rfl rfl rfl (dop_call [] [] [] rfl (ev1 rfl) (ec (ev1 rfl) en) rfl rfl (told_no) rfl rfl rfl rfl rfl rfl) ?_
  refine walk_s rfl rfl (op_stwi rfl tb29 (ev1 rfl) (ev1 rfl) rfl) (by simp only [upd, List.set_cons_zero, List.set_cons_succ]; exact rfl) ?_
  refine walk_nil ?_
  refine kend [0] (res_none rfl) rfl rfl ?_ ⟨rfl, trivial⟩
  rfl

set_option maxRecDepth 4000 in
set_option maxHeartbeats 1000000 in
theorem put1_caught (e n : Int) : DDef Try.prog 37 [.loc 0 0] [.flat 29 [.int .i64 e]] (some (.ifc 72 (.val (.agg #[.int .i64 n])))) none [.flat 29 [.int .i64 n]] := by
  refine ddef_go1 (dr := .tup []) (t := 1) (N := 3) 1 (by kernel_rfl) Try.func37 rfl rfl rfl (by simp only [fr0, Nat.zero_add, Nat.reduceAdd]; exact rfl) rfl rfl rfl rfl rfl fun s0 hs0 => ?_
  refine walk_r rfl rfl rfl (dop_call [] [] [] rfl (ev1 rfl) (ec (ev1 rfl) en) rfl rfl (told_w n) rfl rfl rfl rfl rfl rfl) ?_
  refine walk_s rfl rfl (op_stwi rfl tb29 (ev1 rfl) (ev1 rfl) rfl) (by simp only [upd, List.set_cons_zero, List.set_cons_succ]; exact rfl) ?_
  refine walk_nil ?_
  refine kend [0] (res_none rfl) rfl rfl ?_ ⟨rfl, trivial⟩
  rfl

set_option maxRecDepth 4000 in
set_option maxHeartbeats 1000000 in
theorem put_ok (l : List Int) (w : Nat) (n : Int) (hl : l.length ≤ 90000) (h : 1 ≤ w ∧ w ≤ 8) (hf : fitsN w n = true) : DFun Try.prog 10 [.slf 1 l.length (l.flatMap uc8), .val (.int .i64 (w : Int)), .val (.int .u64 n)] [] (.tup [.slf 1 (l ++ bytesN w n).length ((l ++ bytesN w n).flatMap uc8), .val (.int .i64 0)]) [] := by
  refine dcalls_body (N := 18) 0 (by kernel_rfl) Try.func10 rfl rfl rfl (by simp only [fr0, Nat.zero_add, Nat.reduceAdd]; exact rfl) rfl fun s0 hs0 => ?_
  refine dbody_seq rfl hs0 ?_
  refine dwp_holes 1 (by simp only [holes, List.cons_append, List.nil_append]; exact rfl) ?_
  refine dwp_region ?_
  refine walk_r rfl rfl rfl (op_move (.inr rfl) (ev1 rfl)) ?_
  refine walk_w rfl rfl rfl (op_alloc 0 rfl zr29 rfl) (by simp only [upd, List.set_cons_zero, List.set_cons_succ]; exact rfl) ?_
  refine walk_nil ?_
  refine dbody_defer (l0 := [_]) rfl rfl rfl rfl rfl hs0 ?_
  refine walk_r rfl rfl rfl (op_mkf rfl en (ec (ev1 rfl) en)) ?_
  refine walk_nil ⟨_, _, _, 1, ev1 rfl, Nat.le_trans hs0 (by decide), rfl, ?_⟩
  have hs1 : s0.M.length ≤ 1 := Nat.le_trans hs0 (by decide)
  refine dbody_end rfl hs0 ?_
  refine dwp_seq ?_
  refine dwp_region ?_
  refine walk_r rfl rfl rfl (op_move (.inl rfl) (ev1 rfl)) ?_
  refine walk_r rfl rfl rfl (op_bs (ps := [(0, .tmp 9)]) rfl sl41 zr3 rfl (vc (ev1 rfl) vn) rfl (by decide) (by decide)) ?_
  refine walk_r rfl rfl rfl (dop_call [] [] [] rfl (ev1 rfl) (ec (ev1 rfl) en) rfl rfl (need_ok [(w : Int)] (by simp [isW_iff]; omega)) rfl rfl rfl rfl rfl rfl) ?_
  refine walk_nil ?_
  refine dwp_seq ?_
  refine dwp_region ?_
  refine walk_r rfl rfl rfl (op_move (.inl rfl) (ev1 rfl)) ?_
  refine walk_r rfl rfl rfl (op_move (.inl rfl) (ev1 rfl)) ?_
  refine walk_r rfl rfl rfl (op_move (.inl rfl) (ev1 rfl)) ?_
  refine walk_r rfl rfl rfl (dop_call [] [] [] rfl (ev1 rfl) (ec (ev1 rfl) (ec (ev1 rfl) en)) rfl rfl (nb_ok w h n hf) rfl rfl rfl rfl rfl rfl) ?_
  refine walk_r rfl rfl rfl (op_bsm (ps := [(0, .tmp 12), (1, .tmp 15)]) rfl sl63 zr22 rfl (ec (ev1 rfl) (ec (ev1 rfl) en)) rfl (by decide)) ?_
  refine walk_r rfl rfl rfl (dop_call [] [] [] rfl (ev1 rfl) (ec (ev1 rfl) en) rfl rfl (behind2_d _ _ (by rw [bytesN_len h.2]; omega)) rfl rfl rfl rfl rfl rfl) ?_
  refine walk_r rfl rfl rfl (op_move (.inr rfl) (ev1 rfl)) ?_
  refine walk_s rfl rfl (op_stwi rfl tb29 (ev1 rfl) (ev1 rfl) rfl) (by simp only [upd, List.set_cons_zero, List.set_cons_succ]; exact rfl) ?_
  refine walk_nil ?_
  refine dwp_ret ?_
  refine kdef (dturn_idle [0] [] rfl rfl (put1_idle _) rfl rfl rfl rfl rfl) ?_
  refine kend0 (rs2 rfl (rv_t rfl) (rv_1 tb29 rfl rfl rfl)) rfl ?_
  rfl

set_option maxRecDepth 4000 in
set_option maxHeartbeats 1000000 in
theorem put_w (l : List Int) (w n : Int) (h : isW w = false) : DFun Try.prog 10 [.slf 1 l.length (l.flatMap uc8), .val (.int .i64 w), .val (.int .u64 n)] [] (.tup [.val (.slice none 0 0), .val (.int .i64 111)]) [] := by
  refine dcalls_body (N := 18) 0 (by kernel_rfl) Try.func10 rfl rfl rfl (by simp only [fr0, Nat.zero_add, Nat.reduceAdd]; exact rfl) rfl fun s0 hs0 => ?_
  refine dbody_seq rfl hs0 ?_
  refine dwp_holes 1 (by simp only [holes, List.cons_append, List.nil_append]; exact rfl) ?_
  refine dwp_region ?_
  refine walk_r rfl rfl rfl (op_move (.inr rfl) (ev1 rfl)) ?_
  refine walk_w rfl rfl rfl (op_alloc 0 rfl zr29 rfl) (by simp only [upd, List.set_cons_zero, List.set_cons_succ]; exact rfl) ?_
  refine walk_nil ?_
  refine dbody_defer (l0 := [_]) rfl rfl rfl rfl rfl hs0 ?_
  refine walk_r rfl rfl rfl (op_mkf rfl en (ec (ev1 rfl) en)) ?_
  refine walk_nil ⟨_, _, _, 1, ev1 rfl, Nat.le_trans hs0 (by decide), rfl, ?_⟩
  have hs1 : s0.M.length ≤ 1 := Nat.le_trans hs0 (by decide)
  refine dbody_end rfl hs0 ?_
  refine dwp_seq ?_
  refine dwp_region ?_
  refine walk_r rfl rfl rfl (op_move (.inl rfl) (ev1 rfl)) ?_
  refine walk_r rfl rfl rfl (op_bs (ps := [(0, .tmp 9)]) rfl sl41 zr3 rfl (vc (ev1 rfl) vn) rfl (by decide) (by decide)) ?_
  refine walk_p rfl (dop_callP [] [] [] rfl (ev1 rfl) (ec (ev1 rfl) en) rfl rfl (need_no [w] (by simp [h])) rfl rfl rfl rfl rfl rfl) rfl ?_
  refine kdef (dturn_caught [0] [] rfl rfl rfl (put1_caught _ _) rfl rfl rfl rfl rfl) ?_
  refine kend0 (rs2 rfl (rv_t rfl) (rv_1 tb29 rfl rfl rfl)) rfl ?_
  rfl

set_option maxRecDepth 4000 in
set_option maxHeartbeats 1000000 in
theorem put_big (l : List Int) (w : Nat) (n : Int) (h : 1 ≤ w ∧ w ≤ 8) (hf : fitsN w n = false) : DFun Try.prog 10 [.slf 1 l.length (l.flatMap uc8), .val (.int .i64 (w : Int)), .val (.int .u64 n)] [] (.tup [.val (.slice none 0 0), .val (.int .i64 112)]) [] := by
  refine dcalls_body (N := 18) 0 (by kernel_rfl) Try.func10 rfl rfl rfl (by simp only [fr0, Nat.zero_add, Nat.reduceAdd]; exact rfl) rfl fun s0 hs0 => ?_
  refine dbody_seq rfl hs0 ?_
  refine dwp_holes 1 (by simp only [holes, List.cons_append, List.nil_append]; exact rfl) ?_
  refine dwp_region ?_
  refine walk_r rfl rfl rfl (op_move (.inr rfl) (ev1 rfl)) ?_
  refine walk_w rfl rfl rfl (op_alloc 0 rfl zr29 rfl) (by simp only [upd, List.set_cons_zero, List.set_cons_succ]; exact rfl) ?_
  refine walk_nil ?_
  refine dbody_defer (l0 := [_]) rfl rfl rfl rfl rfl hs0 ?_
  refine walk_r rfl rfl rfl (op_mkf rfl en (ec (ev1 rfl) en)) ?_
  refine walk_nil ⟨_, _, _, 1, ev1 rfl, Nat.le_trans hs0 (by decide), rfl, ?_⟩
  have hs1 : s0.M.length ≤ 1 := Nat.le_trans hs0 (by decide)
  refine dbody_end rfl hs0 ?_
  refine dwp_seq ?_
  refine dwp_region ?_
  refine walk_r rfl rfl rfl (op_move (.inl rfl) (ev1 rfl)) ?_
  refine walk_r rfl rfl rfl (op_bs (ps := [(0, .tmp 9)]) rfl sl41 zr3 rfl (vc (ev1 rfl) vn) rfl (by decide) (by decide)) ?_
  refine walk_r rfl rfl rfl (dop_call [] [] [] rfl (ev1 rfl) (ec (ev1 rfl) en) rfl rfl (need_ok [(w : Int)] (by simp [isW_iff]; omega)) rfl rfl rfl rfl rfl rfl) ?_
  refine walk_nil ?_
  refine dwp_seq ?_
  refine dwp_region ?_
  refine walk_r rfl rfl rfl (op_move (.inl rfl) (ev1 rfl)) ?_
  refine walk_r rfl rfl rfl (op_move (.inl rfl) (ev1 rfl)) ?_
  refine walk_r rfl rfl rfl (op_move (.inl rfl) (ev1 rfl)) ?_
  refine walk_p rfl (dop_callP [] [] [] rfl (ev1 rfl) (ec (ev1 rfl) (ec (ev1 rfl) en)) rfl rfl (nb_no w h n hf) rfl rfl rfl rfl rfl rfl) rfl ?_
  refine kdef (dturn_caught [0] [] rfl rfl rfl (put1_caught _ _) rfl rfl rfl rfl rfl) ?_
  refine kend0 (rs2 rfl (rv_t rfl) (rv_1 tb29 rfl rfl rfl)) rfl ?_
  rfl

end Go.Proofs.Ytfdekahbojoodaa
