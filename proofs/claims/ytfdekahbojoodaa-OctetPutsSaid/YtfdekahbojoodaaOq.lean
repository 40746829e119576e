/- readers read -/
import Derived.Test.YtfdekahbojoodaaOo
namespace Go.Proofs.Ytfdekahbojoodaa
set_option linter.unusedVariables false
set_option linter.unusedSimpArgs false
open Go.RowKit

set_option maxRecDepth 4000 in
set_option maxHeartbeats 1000000 in
theorem num1_d (L : List Int) (hL : L.length ≤ 2000000) (w : Nat) (hw : 1 ≤ w ∧ w ≤ 8) (h : w ≤ L.length) : DFun Try.prog 49 [.loc 0 0, .loc 1 0, .loc 2 0] [.flat 3 [.int .i64 (w : Int)], .mix 56 [.loc 3 0], .flat 26 [.int .u64 0], .mix 77 [.slf 1 (L).length ((L).flatMap uc8), .val (.int .i64 0)]] (.tup []) [.flat 3 [.int .i64 (w : Int)], .mix 56 [.loc 3 0], .flat 26 [.int .u64 (numN w L)], .mix 77 [.slf 1 (L.drop w).length ((L.drop w).flatMap uc8), .val (.int .i64 0)]] := by
  refine dcalls_go (N := 11) 4 (by kernel_rfl) Try.func49 rfl rfl rfl (by simp only [fr0, Nat.zero_add, Nat.reduceAdd]; exact rfl) rfl fun s0 hs0 => ?_
  refine dwp_seq ?_
  refine dwp_region ?_
  refine walk_r rfl rfl rfl (op_ldo rfl tb3 (ev1 rfl) rfl rfl) ?_
  refine walk_r rfl rfl rfl (op_bs (ps := [(0, .tmp 3)]) rfl sl41 zr3 rfl (vc (ev1 rfl) vn) rfl (by decide) (by decide)) ?_
  refine walk_r rfl rfl rfl (dop_call [] [] [] rfl (ev1 rfl) (ec (ev1 rfl) en) rfl rfl (need_ok [(w : Int)] (by simp [isW_iff]; omega)) rfl rfl rfl rfl rfl rfl) ?_
  refine walk_nil ?_
  refine dwp_draw [([1], []), ([], []), ([], []), ([0], []), ([3], [3]), ([2], [2])] mixed (by kernel_rfl) ?_
  refine lex_r rfl rfl (op_ldm rfl tb56 (ev1 rfl) rfl rfl) ?_
  refine lex_r rfl rfl (op_nc rfl (ev1 rfl) (fun s v h => by cases h; exact ⟨_, rfl⟩)) ?_
  refine lex_r rfl rfl (op_fa rfl fo77_0 (ev1 rfl)) ?_
  refine lex_r rfl rfl (op_ldo rfl tb3 (ev1 rfl) rfl rfl) ?_
  refine lex_w rfl rfl (dop_call [3] [] [] rfl (ev1 rfl) (ec (ev1 rfl) (ec (ev1 rfl) en)) rfl rfl (number_d _ L (by omega) 0 w h) rfl rfl rfl rfl rfl rfl) rfl (by simp only [upd, List.set_cons_zero, List.set_cons_succ]; exact rfl) ?_
  refine lex_s rfl rfl (op_stwi rfl tb26 (ev1 rfl) (ev1 rfl) rfl) rfl (by simp only [upd, List.set_cons_zero, List.set_cons_succ]; exact rfl) ?_
  refine lex_nil ?_
  refine kend [0, 1, 2, 3] (res_none rfl) rfl rfl ?_ ⟨rfl, rfl, rfl, rfl, trivial⟩
  rfl

set_option maxRecDepth 4000 in
set_option maxHeartbeats 1000000 in
theorem tryN_ok (L : List Int) (hL : L.length ≤ 2000000) (w : Nat) (hw : 1 ≤ w ∧ w ≤ 8) (h : w ≤ L.length) : DFun Try.prog 48 [.loc 0 0, .fn (.func 49) [] [.loc 1 0, .loc 2 0, .loc 3 0]] [.mix 77 [.slf 1 (L).length ((L).flatMap uc8), .val (.int .i64 0)], .flat 3 [.int .i64 (w : Int)], .mix 56 [.loc 0 0], .flat 26 [.int .u64 0]] (.tup []) [.mix 77 [.slf 1 (L.drop w).length ((L.drop w).flatMap uc8), .val (.int .i64 0)], .flat 3 [.int .i64 (w : Int)], .mix 56 [.loc 0 0], .flat 26 [.int .u64 (numN w L)]] := by
  refine dcalls_body (N := 17) 4 (by kernel_rfl) Try.func48 rfl rfl rfl (by simp only [fr0, Nat.zero_add, Nat.reduceAdd]; exact rfl) rfl fun s0 hs0 => ?_
  refine dbody_seq rfl hs0 ?_
  refine dwp_holes 1 (by simp only [holes, List.cons_append, List.nil_append]; exact rfl) ?_
  refine dwp_region ?_
  refine walk_w rfl rfl rfl (op_boxm 4 rfl (ev1 rfl) (fun s v h => by cases h <;> rfl) rfl) (by simp only [upd, List.set_cons_zero, List.set_cons_succ]; exact rfl) ?_
  refine walk_nil ?_
  refine dbody_seq rfl hs0 ?_
  refine dwp_seq ?_
  refine dwp_region ?_
  refine walk_r rfl rfl rfl (op_ldm rfl tb56 (ev1 rfl) rfl rfl) ?_
  refine walk_r rfl rfl rfl (op_pnil rfl pt56 (ev1 rfl)) ?_
  refine walk_r rfl rfl rfl (op_move (.inl rfl) (ev1 rfl)) ?_
  refine walk_gr (gd_f rfl rfl rfl) rfl rfl rfl (op_ldm rfl tb56 (ev1 rfl) rfl rfl) ?_
  refine walk_gr (gd_f rfl rfl rfl) rfl rfl rfl (op_nc rfl (ev2 rfl) (fun s v h => by cases h; exact ⟨_, rfl⟩)) ?_
  refine walk_gr (gd_f rfl rfl rfl) rfl rfl rfl (op_fa rfl fo77_0 (ev2 rfl)) ?_
  refine walk_gr (gd_f rfl rfl rfl) rfl rfl rfl (op_fa rfl fo74_1 (ev2 rfl)) ?_
  refine walk_gr (gd_f rfl rfl rfl) rfl rfl rfl (op_ldm rfl tb29 (ev2 rfl) rfl rfl) ?_
  refine walk_gr (gd_f rfl rfl rfl) rfl rfl rfl (op_neq rfl (ev2 rfl) (ev1 rfl)) ?_
  refine walk_r rfl rfl rfl (op_or rfl (ev1 rfl) (ev3 rfl id)) ?_
  refine walk_nil ?_
  refine dwp_if_f rfl (rfl) ?_
  refine dwp_skip ?_
  refine dbody_defer (l0 := [_]) rfl rfl rfl rfl rfl hs0 ?_
  refine walk_r rfl rfl rfl (op_mkf rfl en (ec (ev1 rfl) en)) ?_
  refine walk_nil ⟨_, _, _, 5, ev1 rfl, Nat.le_trans hs0 (by decide), rfl, ?_⟩
  have hs1 : s0.M.length ≤ 5 := Nat.le_trans hs0 (by decide)
  refine dbody_end rfl hs0 ?_
  refine dwp_region ?_
  refine walk_r rfl rfl rfl (op_move (.inl rfl) (ev1 rfl)) ?_
  refine walk_w rfl rfl rfl (dop_call [1, 2, 3, 0] [] [] rfl (ev1 rfl) en rfl rfl (num1_d L hL w hw h) rfl rfl rfl rfl rfl rfl) (by simp only [upd, List.set_cons_zero, List.set_cons_succ]; exact rfl) ?_
  refine walk_nil ?_
  refine kdef (dturn_idle [4, 0] [] rfl rfl (try1_idle _ _) rfl rfl rfl rfl rfl) ?_
  refine kend [0, 1, 2, 3] (res_none rfl) rfl rfl ?_ ⟨rfl, rfl, rfl, rfl, trivial⟩
  rfl

set_option maxRecDepth 4000 in
set_option maxHeartbeats 1000000 in
theorem rnumber_d (L : List Int) (hL : L.length ≤ 2000000) (w : Nat) (hw : 1 ≤ w ∧ w ≤ 8) (h : w ≤ L.length) : DFun Try.prog 30 [.loc 0 0, .val (.int .i64 (w : Int))] [.mix 77 [.slf 1 (L).length ((L).flatMap uc8), .val (.int .i64 0)]] (.val (.int .u64 (numN w L))) [.mix 77 [.slf 1 (L.drop w).length ((L.drop w).flatMap uc8), .val (.int .i64 0)]] := by
  refine dcalls_go (N := 9) 1 (by kernel_rfl) Try.func30 rfl rfl rfl (by simp only [fr0, Nat.zero_add, Nat.reduceAdd]; exact rfl) rfl fun s0 hs0 => ?_
  refine dwp_seq ?_
  refine dwp_holes 3 (by simp only [holes, List.cons_append, List.nil_append]; exact rfl) ?_
  refine dwp_region ?_
  refine walk_w rfl rfl rfl (op_boxm 1 rfl (ev1 rfl) (fun s v h => by cases h <;> rfl) rfl) (by simp only [upd, List.set_cons_zero, List.set_cons_succ]; exact rfl) ?_
  refine walk_w rfl rfl rfl (op_boxi 2 rfl (ev1 rfl) rfl) (by simp only [upd, List.set_cons_zero, List.set_cons_succ]; exact rfl) ?_
  refine walk_w rfl rfl rfl (op_alloc 3 rfl zr26 rfl) (by simp only [upd, List.set_cons_zero, List.set_cons_succ]; exact rfl) ?_
  refine walk_nil ?_
  refine dwp_seq ?_
  refine dwp_region ?_
  refine walk_r rfl rfl rfl (op_ldm rfl tb56 (ev1 rfl) rfl rfl) ?_
  refine walk_r rfl rfl rfl (op_mkf rfl en (ec (ev1 rfl) (ec (ev1 rfl) (ec (ev1 rfl) en)))) ?_
  refine walk_w rfl rfl rfl (dop_call [0, 2, 1, 3] [] [] rfl (ev1 rfl) (ec (ev1 rfl) (ec (ev1 rfl) en)) rfl rfl (tryN_ok L hL w hw h) rfl rfl rfl rfl rfl rfl) (by simp only [upd, List.set_cons_zero, List.set_cons_succ]; exact rfl) ?_
  refine walk_nil ?_
  refine dwp_seq ?_
  refine dwp_region ?_
  refine walk_r rfl rfl rfl (op_ldo rfl tb26 (ev1 rfl) rfl rfl) ?_
  refine walk_s rfl rfl (op_stwi rfl tb26 (ev1 rfl) (ev1 rfl) rfl) (by simp only [upd, List.set_cons_zero, List.set_cons_succ]; exact rfl) ?_
  refine walk_nil ?_
  refine dwp_ret ?_
  refine kend [0] (rs1 rfl (rv_1 tb26 rfl rfl rfl)) rfl rfl ?_ ⟨rfl, trivial⟩
  rfl

set_option maxRecDepth 4000 in
set_option maxHeartbeats 1000000 in
theorem rpart_d (L : List Int) (hL : L.length ≤ 2000000) (m : Nat) (hm : numN 2 L = (m : Int)) (h : 2 + m ≤ L.length) : DFun Try.prog 34 [.loc 0 0] [.mix 77 [.slf 1 (L).length ((L).flatMap uc8), .val (.int .i64 0)]] (.slf 1 ((L.drop 2).take m).length (((L.drop 2).take m).flatMap uc8)) [.mix 77 [.slf 1 ((L.drop 2).drop m).length (((L.drop 2).drop m).flatMap uc8), .val (.int .i64 0)]] := by
  refine dcalls_go (N := 7) 1 (by kernel_rfl) Try.func34 rfl rfl rfl (by simp only [fr0, Nat.zero_add, Nat.reduceAdd]; exact rfl) rfl fun s0 hs0 => ?_
  refine dwp_seq ?_
  refine dwp_holes 2 (by simp only [holes, List.cons_append, List.nil_append]; exact rfl) ?_
  refine dwp_region ?_
  refine walk_w rfl rfl rfl (op_boxm 1 rfl (ev1 rfl) (fun s v h => by cases h <;> rfl) rfl) (by simp only [upd, List.set_cons_zero, List.set_cons_succ]; exact rfl) ?_
  refine walk_w rfl rfl rfl (op_alloc 2 rfl zr22 rfl) (by simp only [upd, List.set_cons_zero, List.set_cons_succ]; exact rfl) ?_
  refine walk_nil ?_
  refine dwp_seq ?_
  refine dwp_region ?_
  refine walk_r rfl rfl rfl (op_ldm rfl tb56 (ev1 rfl) rfl rfl) ?_
  refine walk_r rfl rfl rfl (op_mkf rfl en (ec (ev1 rfl) (ec (ev1 rfl) en))) ?_
  refine walk_w rfl rfl rfl (dop_call [0, 1, 2] [] [] rfl (ev1 rfl) (ec (ev1 rfl) (ec (ev1 rfl) en)) rfl rfl (tryP_ok L hL m hm h) rfl rfl rfl rfl rfl rfl) (by simp only [upd, List.set_cons_zero, List.set_cons_succ]; exact rfl) ?_
  refine walk_nil ?_
  refine dwp_seq ?_
  refine dwp_region ?_
  refine walk_r rfl rfl rfl (op_ldm rfl tb22 (ev1 rfl) rfl rfl) ?_
  refine walk_s rfl rfl (op_stm rfl tb22 (ev1 rfl) (ev1 rfl) (fun s v h => by cases h <;> exact ⟨rfl, rfl⟩) rfl (by first | decide | simp)) (by simp only [upd, List.set_cons_zero, List.set_cons_succ]; exact rfl) ?_
  refine walk_nil ?_
  refine dwp_ret ?_
  refine kend [0] (rs1 rfl (rv_m tb22 rfl rfl rfl)) rfl rfl ?_ ⟨rfl, trivial⟩
  rfl

set_option maxRecDepth 4000 in
set_option maxHeartbeats 1000000 in
theorem rpart_no (L : List Int) (h : L.length < 2) : DFun Try.prog 34 [.loc 0 0] [.mix 77 [.slf 1 (L).length ((L).flatMap uc8), .val (.int .i64 0)]] (.val (.slice none 0 0)) [.mix 77 [.slf 1 (L).length ((L).flatMap uc8), .val (.int .i64 110)]] := by
  refine dcalls_go (N := 7) 1 (by kernel_rfl) Try.func34 rfl rfl rfl (by simp only [fr0, Nat.zero_add, Nat.reduceAdd]; exact rfl) rfl fun s0 hs0 => ?_
  refine dwp_seq ?_
  refine dwp_holes 2 (by simp only [holes, List.cons_append, List.nil_append]; exact rfl) ?_
  refine dwp_region ?_
  refine walk_w rfl rfl rfl (op_boxm 1 rfl (ev1 rfl) (fun s v h => by cases h <;> rfl) rfl) (by simp only [upd, List.set_cons_zero, List.set_cons_succ]; exact rfl) ?_
  refine walk_w rfl rfl rfl (op_alloc 2 rfl zr22 rfl) (by simp only [upd, List.set_cons_zero, List.set_cons_succ]; exact rfl) ?_
  refine walk_nil ?_
  refine dwp_seq ?_
  refine dwp_region ?_
  refine walk_r rfl rfl rfl (op_ldm rfl tb56 (ev1 rfl) rfl rfl) ?_
  refine walk_r rfl rfl rfl (op_mkf rfl en (ec (ev1 rfl) (ec (ev1 rfl) en))) ?_
  refine walk_w rfl rfl rfl (dop_call [0, 1, 2] [] [] rfl (ev1 rfl) (ec (ev1 rfl) (ec (ev1 rfl) en)) rfl rfl (tryP_no L h) rfl rfl rfl rfl rfl rfl) (by simp only [upd, List.set_cons_zero, List.set_cons_succ]; exact rfl) ?_
  refine walk_nil ?_
  refine dwp_seq ?_
  refine dwp_region ?_
  refine walk_r rfl rfl rfl (op_ldo rfl tb22 (ev1 rfl) rfl rfl) ?_
  refine walk_s rfl rfl (op_st rfl tb22 (ev1 rfl) (ev1 rfl) rfl rfl rfl rfl (by decide) rfl) (by simp only [upd, List.set_cons_zero, List.set_cons_succ]; exact rfl) ?_
  refine walk_nil ?_
  refine dwp_ret ?_
  refine kend [0] (rs1 rfl (rv_1 tb22 rfl rfl rfl)) rfl rfl ?_ ⟨rfl, trivial⟩
  rfl

set_option maxRecDepth 4000 in
set_option maxHeartbeats 1000000 in
theorem rpart_torn (L : List Int) (hL : L.length ≤ 2000000) (m : Nat) (hm : numN 2 L = (m : Int)) (hb : m ≤ 70000) (h2 : 2 ≤ L.length) (h : L.length < 2 + m) : DFun Try.prog 34 [.loc 0 0] [.mix 77 [.slf 1 (L).length ((L).flatMap uc8), .val (.int .i64 0)]] (.val (.slice none 0 0)) [.mix 77 [.slf 1 (L).length ((L).flatMap uc8), .val (.int .i64 110)]] := by
  refine dcalls_go (N := 7) 1 (by kernel_rfl) Try.func34 rfl rfl rfl (by simp only [fr0, Nat.zero_add, Nat.reduceAdd]; exact rfl) rfl fun s0 hs0 => ?_
  refine dwp_seq ?_
  refine dwp_holes 2 (by simp only [holes, List.cons_append, List.nil_append]; exact rfl) ?_
  refine dwp_region ?_
  refine walk_w rfl rfl rfl (op_boxm 1 rfl (ev1 rfl) (fun s v h => by cases h <;> rfl) rfl) (by simp only [upd, List.set_cons_zero, List.set_cons_succ]; exact rfl) ?_
  refine walk_w rfl rfl rfl (op_alloc 2 rfl zr22 rfl) (by simp only [upd, List.set_cons_zero, List.set_cons_succ]; exact rfl) ?_
  refine walk_nil ?_
  refine dwp_seq ?_
  refine dwp_region ?_
  refine walk_r rfl rfl rfl (op_ldm rfl tb56 (ev1 rfl) rfl rfl) ?_
  refine walk_r rfl rfl rfl (op_mkf rfl en (ec (ev1 rfl) (ec (ev1 rfl) en))) ?_
  refine walk_w rfl rfl rfl (dop_call [0, 1, 2] [] [] rfl (ev1 rfl) (ec (ev1 rfl) (ec (ev1 rfl) en)) rfl rfl (tryP_torn L hL m hm hb h2 h) rfl rfl rfl rfl rfl rfl) (by simp only [upd, List.set_cons_zero, List.set_cons_succ]; exact rfl) ?_
  refine walk_nil ?_
  refine dwp_seq ?_
  refine dwp_region ?_
  refine walk_r rfl rfl rfl (op_ldo rfl tb22 (ev1 rfl) rfl rfl) ?_
  refine walk_s rfl rfl (op_st rfl tb22 (ev1 rfl) (ev1 rfl) rfl rfl rfl rfl (by decide) rfl) (by simp only [upd, List.set_cons_zero, List.set_cons_succ]; exact rfl) ?_
  refine walk_nil ?_
  refine dwp_ret ?_
  refine kend [0] (rs1 rfl (rv_1 tb22 rfl rfl rfl)) rfl rfl ?_ ⟨rfl, trivial⟩
  rfl

set_option maxRecDepth 4000 in
set_option maxHeartbeats 1000000 in
theorem rpart_not (L : List Int) (e : Int) (he : e ≠ 0) : DFun Try.prog 34 [.loc 0 0] [.mix 77 [.slf 1 (L).length ((L).flatMap uc8), .val (.int .i64 e)]] (.val (.slice none 0 0)) [.mix 77 [.slf 1 (L).length ((L).flatMap uc8), .val (.int .i64 e)]] := by
  refine dcalls_go (N := 7) 1 (by kernel_rfl) Try.func34 rfl rfl rfl (by simp only [fr0, Nat.zero_add, Nat.reduceAdd]; exact rfl) rfl fun s0 hs0 => ?_
  refine dwp_seq ?_
  refine dwp_holes 2 (by simp only [holes, List.cons_append, List.nil_append]; exact rfl) ?_
  refine dwp_region ?_
  refine walk_w rfl rfl rfl (op_boxm 1 rfl (ev1 rfl) (fun s v h => by cases h <;> rfl) rfl) (by simp only [upd, List.set_cons_zero, List.set_cons_succ]; exact rfl) ?_
  refine walk_w rfl rfl rfl (op_alloc 2 rfl zr22 rfl) (by simp only [upd, List.set_cons_zero, List.set_cons_succ]; exact rfl) ?_
  refine walk_nil ?_
  refine dwp_seq ?_
  refine dwp_region ?_
  refine walk_r rfl rfl rfl (op_ldm rfl tb56 (ev1 rfl) rfl rfl) ?_
  refine walk_r rfl rfl rfl (op_mkf rfl en (ec (ev1 rfl) (ec (ev1 rfl) en))) ?_
  refine walk_w rfl rfl rfl (dop_call [0, 1, 2] [] [] rfl (ev1 rfl) (ec (ev1 rfl) (ec (ev1 rfl) en)) rfl rfl (tryP_not L e he) rfl rfl rfl rfl rfl rfl) (by simp only [upd, List.set_cons_zero, List.set_cons_succ]; exact rfl) ?_
  refine walk_nil ?_
  refine dwp_seq ?_
  refine dwp_region ?_
  refine walk_r rfl rfl rfl (op_ldo rfl tb22 (ev1 rfl) rfl rfl) ?_
  refine walk_s rfl rfl (op_st rfl tb22 (ev1 rfl) (ev1 rfl) rfl rfl rfl rfl (by decide) rfl) (by simp only [upd, List.set_cons_zero, List.set_cons_succ]; exact rfl) ?_
  refine walk_nil ?_
  refine dwp_ret ?_
  refine kend [0] (rs1 rfl (rv_1 tb22 rfl rfl rfl)) rfl rfl ?_ ⟨rfl, trivial⟩
  rfl

set_option maxRecDepth 4000 in
set_option maxHeartbeats 1000000 in
theorem rerr_d (L : List Int) (e : Int) : DFun Try.prog 35 [.loc 0 0] [.mix 77 [.slf 1 (L).length ((L).flatMap uc8), .val (.int .i64 e)]] (.val (.int .i64 e)) [.mix 77 [.slf 1 (L).length ((L).flatMap uc8), .val (.int .i64 e)]] := by
  refine dcalls_go (N := 10) 1 (by kernel_rfl) Try.func35 rfl rfl rfl (by simp only [fr0, Nat.zero_add, Nat.reduceAdd]; exact rfl) rfl fun s0 hs0 => ?_
  refine dwp_seq ?_
  refine dwp_region ?_
  refine walk_r rfl rfl rfl (op_move (.inr rfl) (ev1 rfl)) ?_
  refine walk_nil ?_
  refine dwp_seq ?_
  refine dwp_seq ?_
  refine dwp_region ?_
  refine walk_r rfl rfl rfl (op_move (.inl rfl) (ev1 rfl)) ?_
  refine walk_r rfl rfl rfl (op_pnil rfl pt56 (ev1 rfl)) ?_
  refine walk_nil ?_
  refine dwp_if_f rfl (rfl) ?_
  refine dwp_skip ?_
  refine dwp_seq ?_
  refine dwp_region ?_
  refine walk_r rfl rfl rfl (op_move (.inl rfl) (ev1 rfl)) ?_
  refine walk_r rfl rfl rfl (op_nc rfl (ev1 rfl) (fun s v h => by cases h; exact ⟨_, rfl⟩)) ?_
  refine walk_r rfl rfl rfl (op_fa rfl fo77_0 (ev1 rfl)) ?_
  refine walk_r rfl rfl rfl (op_fa rfl fo74_1 (ev1 rfl)) ?_
  refine walk_r rfl rfl rfl (op_ldm rfl tb29 (ev1 rfl) rfl rfl) ?_
  refine walk_r rfl rfl rfl (op_move (.inr rfl) (ev1 rfl)) ?_
  refine walk_nil ?_
  refine dwp_ret ?_
  refine kend [0] (rs1 rfl (rv_t rfl)) rfl rfl ?_ ⟨rfl, trivial⟩
  rfl

end Go.Proofs.Ytfdekahbojoodaa
