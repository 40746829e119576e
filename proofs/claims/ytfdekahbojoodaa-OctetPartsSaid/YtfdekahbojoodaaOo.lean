/- readings that are tried -/
import Derived.Test.YtfdekahbojoodaaOk
import Derived.Test.YtfdekahbojoodaaLy
namespace Go.Proofs.Ytfdekahbojoodaa
set_option linter.unusedVariables false
set_option linter.unusedSimpArgs false
open Go.RowKit

set_option maxRecDepth 4000 in
set_option maxHeartbeats 1000000 in
theorem try1_idle (l : List Int) (e : Int) : DDef Try.prog 59 [.loc 0 0] [.mix 56 [.loc 1 0], .mix 77 [.slf 1 (l).length ((l).flatMap uc8), .val (.int .i64 e)]] none none [.mix 56 [.loc 1 0], .mix 77 [.slf 1 (l).length ((l).flatMap uc8), .val (.int .i64 0)]] := by
  refine ddef_any (dr := .tup []) (t := 2) (N := 7) 2 1 [[0, 1, 2, 3, 4, 5, 6], [1, 0, 2, 3, 4, 5, 6], [1, 2, 0, 3, 4, 5, 6]] mixed (by kernel_rfl) Try.func59 rfl rfl rfl (by simp only [fr0, Nat.zero_add, Nat.reduceAdd]; exact rfl) rfl rfl (by kernel_rfl) rfl rfl rfl rfl fun s0 hs0 L hL => ?_
  simp only [List.mem_cons, List.not_mem_nil, or_false] at hL
  rcases hL with rfl | rfl | rfl
  · refine ⟨[0], [2, 3, 4, 5, 6], rfl, ?_⟩
    refine walk_r rfl rfl rfl (op_ldm rfl tb56 (ev1 rfl) rfl rfl) ?_
    refine walk_nil ?_
    refine walk_r rfl rfl rfl (dop_call [] [] [] rfl (ev1 rfl) (ec (ev1 rfl) en) rfl rfl (told_no) rfl rfl rfl rfl rfl rfl) ?_
    refine walk_r rfl rfl rfl (op_nc rfl (ev1 rfl) (fun s v h => by cases h; exact ⟨_, rfl⟩)) ?_
    refine walk_r rfl rfl rfl (op_fa rfl fo77_0 (ev1 rfl)) ?_
    refine walk_r rfl rfl rfl (op_fa rfl fo74_1 (ev1 rfl)) ?_
    refine walk_s rfl rfl (op_stm rfl tb29 (ev1 rfl) (ev1 rfl) (fun s v h => by cases h <;> exact ⟨rfl, rfl⟩) rfl (by first | decide | simp)) (by simp only [upd, List.set_cons_zero, List.set_cons_succ]; exact rfl) ?_
    refine walk_nil ?_
    refine kend [0, 1] (res_none rfl) rfl rfl ?_ ⟨rfl, rfl, trivial⟩
    rfl
  · refine ⟨[], [0, 2, 3, 4, 5, 6], rfl, ?_⟩
    refine walk_nil ?_
    refine walk_r rfl rfl rfl (op_ldm rfl tb56 (ev1 rfl) rfl rfl) ?_
    refine walk_r rfl rfl rfl (dop_call [] [] [] rfl (ev1 rfl) (ec (ev1 rfl) en) rfl rfl (told_no) rfl rfl rfl rfl rfl rfl) ?_
    refine walk_r rfl rfl rfl (op_nc rfl (ev1 rfl) (fun s v h => by cases h; exact ⟨_, rfl⟩)) ?_
    refine walk_r rfl rfl rfl (op_fa rfl fo77_0 (ev1 rfl)) ?_
    refine walk_r rfl rfl rfl (op_fa rfl fo74_1 (ev1 rfl)) ?_
    refine walk_s rfl rfl (op_stm rfl tb29 (ev1 rfl) (ev1 rfl) (fun s v h => by cases h <;> exact ⟨rfl, rfl⟩) rfl (by first | decide | simp)) (by simp only [upd, List.set_cons_zero, List.set_cons_succ]; exact rfl) ?_
    refine walk_nil ?_
    refine kend [0, 1] (res_none rfl) rfl rfl ?_ ⟨rfl, rfl, trivial⟩
    rfl
  · refine ⟨[], [2, 0, 3, 4, 5, 6], rfl, ?_⟩
    refine walk_nil ?_
    refine walk_r rfl rfl rfl (dop_call [] [] [] rfl (ev1 rfl) (ec (ev1 rfl) en) rfl rfl (told_no) rfl rfl rfl rfl rfl rfl) ?_
    refine walk_r rfl rfl rfl (op_ldm rfl tb56 (ev1 rfl) rfl rfl) ?_
    refine walk_r rfl rfl rfl (op_nc rfl (ev1 rfl) (fun s v h => by cases h; exact ⟨_, rfl⟩)) ?_
    refine walk_r rfl rfl rfl (op_fa rfl fo77_0 (ev1 rfl)) ?_
    refine walk_r rfl rfl rfl (op_fa rfl fo74_1 (ev1 rfl)) ?_
    refine walk_s rfl rfl (op_stm rfl tb29 (ev1 rfl) (ev1 rfl) (fun s v h => by cases h <;> exact ⟨rfl, rfl⟩) rfl (by first | decide | simp)) (by simp only [upd, List.set_cons_zero, List.set_cons_succ]; exact rfl) ?_
    refine walk_nil ?_
    refine kend [0, 1] (res_none rfl) rfl rfl ?_ ⟨rfl, rfl, trivial⟩
    rfl

set_option maxRecDepth 4000 in
set_option maxHeartbeats 1000000 in
theorem try1_caught (l : List Int) (e n : Int) : DDef Try.prog 59 [.loc 0 0] [.mix 56 [.loc 1 0], .mix 77 [.slf 1 (l).length ((l).flatMap uc8), .val (.int .i64 e)]] (some (.ifc 72 (.val (.agg #[.int .i64 n])))) none [.mix 56 [.loc 1 0], .mix 77 [.slf 1 (l).length ((l).flatMap uc8), .val (.int .i64 n)]] := by
  refine ddef_any (dr := .tup []) (t := 2) (N := 7) 2 1 [[0, 1, 2, 3, 4, 5, 6], [1, 0, 2, 3, 4, 5, 6], [1, 2, 0, 3, 4, 5, 6]] mixed (by kernel_rfl) Try.func59 rfl rfl rfl (by simp only [fr0, Nat.zero_add, Nat.reduceAdd]; exact rfl) rfl rfl (by kernel_rfl) rfl rfl rfl rfl fun s0 hs0 L hL => ?_
  simp only [List.mem_cons, List.not_mem_nil, or_false] at hL
  rcases hL with rfl | rfl | rfl
  · refine ⟨[0], [2, 3, 4, 5, 6], rfl, ?_⟩
    refine walk_r rfl rfl rfl (op_ldm rfl tb56 (ev1 rfl) rfl rfl) ?_
    refine walk_nil ?_
    refine walk_r rfl rfl rfl (dop_call [] [] [] rfl (ev1 rfl) (ec (ev1 rfl) en) rfl rfl (told_w n) rfl rfl rfl rfl rfl rfl) ?_
    refine walk_r rfl rfl rfl (op_nc rfl (ev1 rfl) (fun s v h => by cases h; exact ⟨_, rfl⟩)) ?_
    refine walk_r rfl rfl rfl (op_fa rfl fo77_0 (ev1 rfl)) ?_
    refine walk_r rfl rfl rfl (op_fa rfl fo74_1 (ev1 rfl)) ?_
    refine walk_s rfl rfl (op_stm rfl tb29 (ev1 rfl) (ev1 rfl) (fun s v h => by cases h <;> exact ⟨rfl, rfl⟩) rfl (by first | decide | simp)) (by simp only [upd, List.set_cons_zero, List.set_cons_succ]; exact rfl) ?_
    refine walk_nil ?_
    refine kend [0, 1] (res_none rfl) rfl rfl ?_ ⟨rfl, rfl, trivial⟩
    rfl
  · refine ⟨[], [0, 2, 3, 4, 5, 6], rfl, ?_⟩
    refine walk_nil ?_
    refine walk_r rfl rfl rfl (op_ldm rfl tb56 (ev1 rfl) rfl rfl) ?_
    refine walk_r rfl rfl rfl (dop_call [] [] [] rfl (ev1 rfl) (ec (ev1 rfl) en) rfl rfl (told_w n) rfl rfl rfl rfl rfl rfl) ?_
    refine walk_r rfl rfl rfl (op_nc rfl (ev1 rfl) (fun s v h => by cases h; exact ⟨_, rfl⟩)) ?_
    refine walk_r rfl rfl rfl (op_fa rfl fo77_0 (ev1 rfl)) ?_
    refine walk_r rfl rfl rfl (op_fa rfl fo74_1 (ev1 rfl)) ?_
    refine walk_s rfl rfl (op_stm rfl tb29 (ev1 rfl) (ev1 rfl) (fun s v h => by cases h <;> exact ⟨rfl, rfl⟩) rfl (by first | decide | simp)) (by simp only [upd, List.set_cons_zero, List.set_cons_succ]; exact rfl) ?_
    refine walk_nil ?_
    refine kend [0, 1] (res_none rfl) rfl rfl ?_ ⟨rfl, rfl, trivial⟩
    rfl
  · refine ⟨[], [2, 0, 3, 4, 5, 6], rfl, ?_⟩
    refine walk_nil ?_
    refine walk_r rfl rfl rfl (dop_call [] [] [] rfl (ev1 rfl) (ec (ev1 rfl) en) rfl rfl (told_w n) rfl rfl rfl rfl rfl rfl) ?_
    refine walk_r rfl rfl rfl (op_ldm rfl tb56 (ev1 rfl) rfl rfl) ?_
    refine walk_r rfl rfl rfl (op_nc rfl (ev1 rfl) (fun s v h => by cases h; exact ⟨_, rfl⟩)) ?_
    refine walk_r rfl rfl rfl (op_fa rfl fo77_0 (ev1 rfl)) ?_
    refine walk_r rfl rfl rfl (op_fa rfl fo74_1 (ev1 rfl)) ?_
    refine walk_s rfl rfl (op_stm rfl tb29 (ev1 rfl) (ev1 rfl) (fun s v h => by cases h <;> exact ⟨rfl, rfl⟩) rfl (by first | decide | simp)) (by simp only [upd, List.set_cons_zero, List.set_cons_succ]; exact rfl) ?_
    refine walk_nil ?_
    refine kend [0, 1] (res_none rfl) rfl rfl ?_ ⟨rfl, rfl, trivial⟩
    rfl

set_option maxRecDepth 4000 in
set_option maxHeartbeats 1000000 in
theorem part1r_no (L : List Int) (h : L.length < 2) : DPan Try.prog 52 [.loc 0 0, .loc 1 0] [.mix 56 [.loc 2 0], .flat 22 [.slice none 0 0], .mix 77 [.slf 1 (L).length ((L).flatMap uc8), .val (.int .i64 0)]] (.ifc 72 (.val (.agg #[.int .i64 110]))) [.mix 56 [.loc 2 0], .flat 22 [.slice none 0 0], .mix 77 [.slf 1 (L).length ((L).flatMap uc8), .val (.int .i64 0)]] := by
  refine dcalls_go (N := 23) 3 (by kernel_rfl) Try.func52 rfl rfl rfl (by simp only [fr0, Nat.zero_add, Nat.reduceAdd]; exact rfl) rfl fun s0 hs0 => ?_
  refine dwp_seq ?_
  refine dwp_region ?_
  refine walk_r rfl rfl rfl (op_ldm rfl tb56 (ev1 rfl) rfl rfl) ?_
  refine walk_r rfl rfl rfl (op_nc rfl (ev1 rfl) (fun s v h => by cases h; exact ⟨_, rfl⟩)) ?_
  refine walk_r rfl rfl rfl (op_fa rfl fo77_0 (ev1 rfl)) ?_
  refine walk_p rfl (dop_callP [2] [] [] rfl (ev1 rfl) (ec (ev1 rfl) (ec (ev1 rfl) en)) rfl rfl (peek_no _ L 0 2 (by omega)) rfl rfl rfl rfl rfl rfl) rfl ?_
  refine kpan [0, 1, 2] rfl rfl ?_ ⟨rfl, rfl, rfl, trivial⟩
  rfl

set_option maxRecDepth 4000 in
set_option maxHeartbeats 1000000 in
theorem part1r_torn (L : List Int) (hL : L.length ≤ 2000000) (m : Nat) (hm : numN 2 L = (m : Int)) (hb : m ≤ 70000) (h2 : 2 ≤ L.length) (h : L.length < 2 + m) : DPan Try.prog 52 [.loc 0 0, .loc 1 0] [.mix 56 [.loc 2 0], .flat 22 [.slice none 0 0], .mix 77 [.slf 1 (L).length ((L).flatMap uc8), .val (.int .i64 0)]] (.ifc 72 (.val (.agg #[.int .i64 110]))) [.mix 56 [.loc 2 0], .flat 22 [.slice none 0 0], .mix 77 [.slf 1 (L).length ((L).flatMap uc8), .val (.int .i64 0)]] := by
  refine dcalls_go (N := 23) 3 (by kernel_rfl) Try.func52 rfl rfl rfl (by simp only [fr0, Nat.zero_add, Nat.reduceAdd]; exact rfl) rfl fun s0 hs0 => ?_
  refine dwp_seq ?_
  refine dwp_region ?_
  refine walk_r rfl rfl rfl (op_ldm rfl tb56 (ev1 rfl) rfl rfl) ?_
  refine walk_r rfl rfl rfl (op_nc rfl (ev1 rfl) (fun s v h => by cases h; exact ⟨_, rfl⟩)) ?_
  refine walk_r rfl rfl rfl (op_fa rfl fo77_0 (ev1 rfl)) ?_
  refine walk_w rfl rfl rfl (dop_call [2] [] [] rfl (ev1 rfl) (ec (ev1 rfl) (ec (ev1 rfl) en)) rfl rfl (peek_d _ L (by omega) 0 2 (by omega)) rfl rfl rfl rfl rfl rfl) (by simp only [upd, List.set_cons_zero, List.set_cons_succ]; exact rfl) ?_
  refine walk_r rfl rfl rfl (op_conv' ty26 kn3 rfl (ev1 rfl) (fun _ => IntWalk.i64_in _ (by rw [hm]; omega))) ?_
  refine walk_r rfl rfl rfl (op_move (.inr rfl) (ev1 rfl)) ?_
  refine walk_nil ?_
  refine dwp_seq ?_
  rw [hm]
  refine dwp_region ?_
  refine walk_r rfl rfl rfl (op_ldm rfl tb56 (ev1 rfl) rfl rfl) ?_
  refine walk_r rfl rfl rfl (op_nc rfl (ev1 rfl) (fun s v h => by cases h; exact ⟨_, rfl⟩)) ?_
  refine walk_r rfl rfl rfl (op_fa rfl fo77_0 (ev1 rfl)) ?_
  refine walk_r rfl rfl rfl (op_move (.inl rfl) (ev1 rfl)) ?_
  refine walk_r rfl rfl rfl (op_add' rfl (ev1 rfl) (ev1 rfl) (fun _ => IntWalk.i64_in _ (by omega))) ?_
  refine walk_p rfl (dop_callP [2] [] [] rfl (ev1 rfl) (ec (ev1 rfl) (ec (ev1 rfl) en)) rfl rfl (need2_no _ L 0 (2 + m) h) rfl rfl rfl rfl rfl rfl) rfl ?_
  refine kpan [0, 1, 2] rfl rfl ?_ ⟨rfl, rfl, rfl, trivial⟩
  rfl

set_option maxRecDepth 4000 in
set_option maxHeartbeats 1000000 in
theorem tryP_ok (L : List Int) (hL : L.length ≤ 2000000) (m : Nat) (hm : numN 2 L = (m : Int)) (h : 2 + m ≤ L.length) : DFun Try.prog 48 [.loc 0 0, .fn (.func 52) [] [.loc 1 0, .loc 2 0]] [.mix 77 [.slf 1 (L).length ((L).flatMap uc8), .val (.int .i64 0)], .mix 56 [.loc 0 0], .flat 22 [.slice none 0 0]] (.tup []) [.mix 77 [.slf 1 ((L.drop 2).drop m).length (((L.drop 2).drop m).flatMap uc8), .val (.int .i64 0)], .mix 56 [.loc 0 0], .mix 22 [.slf 1 ((L.drop 2).take m).length (((L.drop 2).take m).flatMap uc8)]] := by
  refine dcalls_body (N := 17) 3 (by kernel_rfl) Try.func48 rfl rfl rfl (by simp only [fr0, Nat.zero_add, Nat.reduceAdd]; exact rfl) rfl fun s0 hs0 => ?_
  refine dbody_seq rfl hs0 ?_
  refine dwp_holes 1 (by simp only [holes, List.cons_append, List.nil_append]; exact rfl) ?_
  refine dwp_region ?_
  refine walk_w rfl rfl rfl (op_boxm 3 rfl (ev1 rfl) (fun s v h => by cases h <;> rfl) rfl) (by simp only [upd, List.set_cons_zero, List.set_cons_succ]; exact rfl) ?_
  refine walk_nil ?_
  refine dbody_seq rfl hs0 ?_
  refine dwp_seq ?_
  refine dwp_region ?_
  refine walk_r rfl rfl rfl (op_ldm rfl tb56 (ev1 rfl) rfl rfl) ?_
  refine walk_r rfl rfl rfl (op_pnil rfl pt56 (ev1 rfl)) ?_
  refine walk_r rfl rfl rfl (op_move (.inl rfl) (ev1 rfl)) ?_
  refine walk_gr (gd_f rfl rfl rfl) rfl rfl rfl (op_ldm rfl tb56 (ev1 rfl) rfl rfl) ?_
  refine walk_gr (gd_f rfl rfl rfl) rfl rfl rfl (op_nc rfl (ev2 rfl) (fun s v h => by cases h; exact ⟨_, rfl⟩)) ?_
  refine walk_gr (gd_f rfl rfl rfl) rfl rfl rfl (op_fa rfl fo77_0 (ev2 rfl)) ?_
  refine walk_gr (gd_f rfl rfl rfl) rfl rfl rfl (op_fa rfl fo74_1 (ev2 rfl)) ?_
  refine walk_gr (gd_f rfl rfl rfl) rfl rfl rfl (op_ldm rfl tb29 (ev2 rfl) rfl rfl) ?_
  refine walk_gr (gd_f rfl rfl rfl) rfl rfl rfl (op_neq rfl (ev2 rfl) (ev1 rfl)) ?_
  refine walk_r rfl rfl rfl (op_or rfl (ev1 rfl) (ev3 rfl id)) ?_
  refine walk_nil ?_
  refine dwp_if_f rfl (rfl) ?_
  refine dwp_skip ?_
  refine dbody_defer (l0 := [_]) rfl rfl rfl rfl rfl hs0 ?_
  refine walk_r rfl rfl rfl (op_mkf rfl en (ec (ev1 rfl) en)) ?_
  refine walk_nil ⟨_, _, _, 4, ev1 rfl, Nat.le_trans hs0 (by decide), rfl, ?_⟩
  have hs1 : s0.M.length ≤ 4 := Nat.le_trans hs0 (by decide)
  refine dbody_end rfl hs0 ?_
  refine dwp_region ?_
  refine walk_r rfl rfl rfl (op_move (.inl rfl) (ev1 rfl)) ?_
  refine walk_w rfl rfl rfl (dop_call [1, 2, 0] [] [] rfl (ev1 rfl) en rfl rfl (part1r_d L hL m hm h) rfl rfl rfl rfl rfl rfl) (by simp only [upd, List.set_cons_zero, List.set_cons_succ]; exact rfl) ?_
  refine walk_nil ?_
  refine kdef (dturn_idle [3, 0] [] rfl rfl (try1_idle _ _) rfl rfl rfl rfl rfl) ?_
  refine kend [0, 1, 2] (res_none rfl) rfl rfl ?_ ⟨rfl, rfl, rfl, trivial⟩
  rfl

set_option maxRecDepth 4000 in
set_option maxHeartbeats 1000000 in
theorem tryP_no (L : List Int) (h : L.length < 2) : DFun Try.prog 48 [.loc 0 0, .fn (.func 52) [] [.loc 1 0, .loc 2 0]] [.mix 77 [.slf 1 (L).length ((L).flatMap uc8), .val (.int .i64 0)], .mix 56 [.loc 0 0], .flat 22 [.slice none 0 0]] (.tup []) [.mix 77 [.slf 1 (L).length ((L).flatMap uc8), .val (.int .i64 110)], .mix 56 [.loc 0 0], .flat 22 [.slice none 0 0]] := by
  refine dcalls_body (N := 17) 3 (by kernel_rfl) Try.func48 rfl rfl rfl (by simp only [fr0, Nat.zero_add, Nat.reduceAdd]; exact rfl) rfl fun s0 hs0 => ?_
  refine dbody_seq rfl hs0 ?_
  refine dwp_holes 1 (by simp only [holes, List.cons_append, List.nil_append]; exact rfl) ?_
  refine dwp_region ?_
  refine walk_w rfl rfl rfl (op_boxm 3 rfl (ev1 rfl) (fun s v h => by cases h <;> rfl) rfl) (by simp only [upd, List.set_cons_zero, List.set_cons_succ]; exact rfl) ?_
  refine walk_nil ?_
  refine dbody_seq rfl hs0 ?_
  refine dwp_seq ?_
  refine dwp_region ?_
  refine walk_r rfl rfl rfl (op_ldm rfl tb56 (ev1 rfl) rfl rfl) ?_
  refine walk_r rfl rfl rfl (op_pnil rfl pt56 (ev1 rfl)) ?_
  refine walk_r rfl rfl rfl (op_move (.inl rfl) (ev1 rfl)) ?_
  refine walk_gr (gd_f rfl rfl rfl) rfl rfl rfl (op_ldm rfl tb56 (ev1 rfl) rfl rfl) ?_
  refine walk_gr (gd_f rfl rfl rfl) rfl rfl rfl (op_nc rfl (ev2 rfl) (fun s v h => by cases h; exact ⟨_, rfl⟩)) ?_
  refine walk_gr (gd_f rfl rfl rfl) rfl rfl rfl (op_fa rfl fo77_0 (ev2 rfl)) ?_
  refine walk_gr (gd_f rfl rfl rfl) rfl rfl rfl (op_fa rfl fo74_1 (ev2 rfl)) ?_
  refine walk_gr (gd_f rfl rfl rfl) rfl rfl rfl (op_ldm rfl tb29 (ev2 rfl) rfl rfl) ?_
  refine walk_gr (gd_f rfl rfl rfl) rfl rfl rfl (op_neq rfl (ev2 rfl) (ev1 rfl)) ?_
  refine walk_r rfl rfl rfl (op_or rfl (ev1 rfl) (ev3 rfl id)) ?_
  refine walk_nil ?_
  refine dwp_if_f rfl (rfl) ?_
  refine dwp_skip ?_
  refine dbody_defer (l0 := [_]) rfl rfl rfl rfl rfl hs0 ?_
  refine walk_r rfl rfl rfl (op_mkf rfl en (ec (ev1 rfl) en)) ?_
  refine walk_nil ⟨_, _, _, 4, ev1 rfl, Nat.le_trans hs0 (by decide), rfl, ?_⟩
  have hs1 : s0.M.length ≤ 4 := Nat.le_trans hs0 (by decide)
  refine dbody_end rfl hs0 ?_
  refine dwp_region ?_
  refine walk_r rfl rfl rfl (op_move (.inl rfl) (ev1 rfl)) ?_
  refine walk_p rfl (dop_callP [1, 2, 0] [] [] rfl (ev1 rfl) en rfl rfl (part1r_no L h) rfl rfl rfl rfl rfl rfl) rfl ?_
  refine kdef (dturn_caught [3, 0] [] rfl rfl rfl (try1_caught _ _ _) rfl rfl rfl rfl rfl) ?_
  refine kend [0, 1, 2] (res_none rfl) rfl rfl ?_ ⟨rfl, rfl, rfl, trivial⟩
  rfl

set_option maxRecDepth 4000 in
set_option maxHeartbeats 1000000 in
theorem tryP_torn (L : List Int) (hL : L.length ≤ 2000000) (m : Nat) (hm : numN 2 L = (m : Int)) (hb : m ≤ 70000) (h2 : 2 ≤ L.length) (h : L.length < 2 + m) : DFun Try.prog 48 [.loc 0 0, .fn (.func 52) [] [.loc 1 0, .loc 2 0]] [.mix 77 [.slf 1 (L).length ((L).flatMap uc8), .val (.int .i64 0)], .mix 56 [.loc 0 0], .flat 22 [.slice none 0 0]] (.tup []) [.mix 77 [.slf 1 (L).length ((L).flatMap uc8), .val (.int .i64 110)], .mix 56 [.loc 0 0], .flat 22 [.slice none 0 0]] := by
  refine dcalls_body (N := 17) 3 (by kernel_rfl) Try.func48 rfl rfl rfl (by simp only [fr0, Nat.zero_add, Nat.reduceAdd]; exact rfl) rfl fun s0 hs0 => ?_
  refine dbody_seq rfl hs0 ?_
  refine dwp_holes 1 (by simp only [holes, List.cons_append, List.nil_append]; exact rfl) ?_
  refine dwp_region ?_
  refine walk_w rfl rfl rfl (op_boxm 3 rfl (ev1 rfl) (fun s v h => by cases h <;> rfl) rfl) (by simp only [upd, List.set_cons_zero, List.set_cons_succ]; exact rfl) ?_
  refine walk_nil ?_
  refine dbody_seq rfl hs0 ?_
  refine dwp_seq ?_
  refine dwp_region ?_
  refine walk_r rfl rfl rfl (op_ldm rfl tb56 (ev1 rfl) rfl rfl) ?_
  refine walk_r rfl rfl rfl (op_pnil rfl pt56 (ev1 rfl)) ?_
  refine walk_r rfl rfl rfl (op_move (.inl rfl) (ev1 rfl)) ?_
  refine walk_gr (gd_f rfl rfl rfl) rfl rfl rfl (op_ldm rfl tb56 (ev1 rfl) rfl rfl) ?_
  refine walk_gr (gd_f rfl rfl rfl) rfl rfl rfl (op_nc rfl (ev2 rfl) (fun s v h => by cases h; exact ⟨_, rfl⟩)) ?_
  refine walk_gr (gd_f rfl rfl rfl) rfl rfl rfl (op_fa rfl fo77_0 (ev2 rfl)) ?_
  refine walk_gr (gd_f rfl rfl rfl) rfl rfl rfl (op_fa rfl fo74_1 (ev2 rfl)) ?_
  refine walk_gr (gd_f rfl rfl rfl) rfl rfl rfl (op_ldm rfl tb29 (ev2 rfl) rfl rfl) ?_
  refine walk_gr (gd_f rfl rfl rfl) rfl rfl rfl (op_neq rfl (ev2 rfl) (ev1 rfl)) ?_
  refine walk_r rfl rfl rfl (op_or rfl (ev1 rfl) (ev3 rfl id)) ?_
  refine walk_nil ?_
  refine dwp_if_f rfl (rfl) ?_
  refine dwp_skip ?_
  refine dbody_defer (l0 := [_]) rfl rfl rfl rfl rfl hs0 ?_
  refine walk_r rfl rfl rfl (op_mkf rfl en (ec (ev1 rfl) en)) ?_
  refine walk_nil ⟨_, _, _, 4, ev1 rfl, Nat.le_trans hs0 (by decide), rfl, ?_⟩
  have hs1 : s0.M.length ≤ 4 := Nat.le_trans hs0 (by decide)
  refine dbody_end rfl hs0 ?_
  refine dwp_region ?_
  refine walk_r rfl rfl rfl (op_move (.inl rfl) (ev1 rfl)) ?_
  refine walk_p rfl (dop_callP [1, 2, 0] [] [] rfl (ev1 rfl) en rfl rfl (part1r_torn L hL m hm hb h2 h) rfl rfl rfl rfl rfl rfl) rfl ?_
  refine kdef (dturn_caught [3, 0] [] rfl rfl rfl (try1_caught _ _ _) rfl rfl rfl rfl rfl) ?_
  refine kend [0, 1, 2] (res_none rfl) rfl rfl ?_ ⟨rfl, rfl, rfl, trivial⟩
  rfl

set_option maxRecDepth 4000 in
set_option maxHeartbeats 1000000 in
theorem tryP_not (L : List Int) (e : Int) (he : e ≠ 0) : DFun Try.prog 48 [.loc 0 0, .fn (.func 52) [] [.loc 1 0, .loc 2 0]] [.mix 77 [.slf 1 (L).length ((L).flatMap uc8), .val (.int .i64 e)], .mix 56 [.loc 0 0], .flat 22 [.slice none 0 0]] (.tup []) [.mix 77 [.slf 1 (L).length ((L).flatMap uc8), .val (.int .i64 e)], .mix 56 [.loc 0 0], .flat 22 [.slice none 0 0]] := by
  refine dcalls_body (N := 17) 3 (by kernel_rfl) Try.func48 rfl rfl rfl (by simp only [fr0, Nat.zero_add, Nat.reduceAdd]; exact rfl) rfl fun s0 hs0 => ?_
  refine dbody_seq rfl hs0 ?_
  refine dwp_holes 1 (by simp only [holes, List.cons_append, List.nil_append]; exact rfl) ?_
  refine dwp_region ?_
  refine walk_w rfl rfl rfl (op_boxm 3 rfl (ev1 rfl) (fun s v h => by cases h <;> rfl) rfl) (by simp only [upd, List.set_cons_zero, List.set_cons_succ]; exact rfl) ?_
  refine walk_nil ?_
  refine dbody_seq rfl hs0 ?_
  refine dwp_seq ?_
  refine dwp_region ?_
  refine walk_r rfl rfl rfl (op_ldm rfl tb56 (ev1 rfl) rfl rfl) ?_
  refine walk_r rfl rfl rfl (op_pnil rfl pt56 (ev1 rfl)) ?_
  refine walk_r rfl rfl rfl (op_move (.inl rfl) (ev1 rfl)) ?_
  refine walk_gr (gd_f rfl rfl rfl) rfl rfl rfl (op_ldm rfl tb56 (ev1 rfl) rfl rfl) ?_
  refine walk_gr (gd_f rfl rfl rfl) rfl rfl rfl (op_nc rfl (ev2 rfl) (fun s v h => by cases h; exact ⟨_, rfl⟩)) ?_
  refine walk_gr (gd_f rfl rfl rfl) rfl rfl rfl (op_fa rfl fo77_0 (ev2 rfl)) ?_
  refine walk_gr (gd_f rfl rfl rfl) rfl rfl rfl (op_fa rfl fo74_1 (ev2 rfl)) ?_
  refine walk_gr (gd_f rfl rfl rfl) rfl rfl rfl (op_ldm rfl tb29 (ev2 rfl) rfl rfl) ?_
  refine walk_gr (gd_f rfl rfl rfl) rfl rfl rfl (op_neq rfl (ev2 rfl) (ev1 rfl)) ?_
  refine walk_r rfl rfl rfl (op_or rfl (ev1 rfl) (ev3 rfl id)) ?_
  refine walk_nil ?_
  refine dwp_if_t rfl (by simp [he]) ?_
  refine dwp_ret ?_
  refine kend [0, 1, 2] (res_none rfl) rfl rfl ?_ ⟨rfl, rfl, rfl, trivial⟩
  rfl

end Go.Proofs.Ytfdekahbojoodaa
