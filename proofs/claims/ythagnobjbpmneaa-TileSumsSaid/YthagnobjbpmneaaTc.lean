/- pixels moved -/
import Derived.Test.YthagnobjbpmneaaTb
namespace Go.Proofs.Ythagnobjbpmneaa
set_option linter.unusedVariables false
set_option linter.unusedSimpArgs false
open Go.RowKit

set_option maxRecDepth 4000 in
set_option maxHeartbeats 1000000 in
theorem pixels_d (T : TypeId) (t : TL) : DFun Try.prog 39 [.loc 0 0] [.flat T (tc t)] (.fn (.func 49) [] [.loc 1 0]) [.flat T (tc t), .mix 71 [.loc 0 0]] := by
  refine dcalls_go (N := 4) 1 (by kernel_rfl) Try.func39 rfl rfl rfl (by simp only [fr0, Nat.zero_add, Nat.reduceAdd]; exact rfl) rfl fun s0 hs0 => ?_
  refine dwp_seq ?_
  refine dwp_holes 1 (by simp only [holes, List.cons_append, List.nil_append]; exact rfl) ?_
  refine dwp_region ?_
  refine walk_w rfl rfl rfl (op_boxm 1 rfl (ev1 rfl) (fun s v h => by cases h <;> rfl) rfl) (by simp only [upd, List.set_cons_zero, List.set_cons_succ]; exact rfl) ?_
  refine walk_r rfl rfl rfl (op_move (.inr rfl) (ev1 rfl)) ?_
  refine walk_nil ?_
  refine dwp_seq ?_
  refine dwp_region ?_
  refine walk_r rfl rfl rfl (op_mkf rfl en (ec (ev1 rfl) en)) ?_
  refine walk_r rfl rfl rfl (op_move (.inr rfl) (ev1 rfl)) ?_
  refine walk_nil ?_
  refine dwp_ret ?_
  refine kend [0, 1] (rs1 rfl (rv_t rfl)) rfl rfl ?_ ⟨rfl, rfl, trivial⟩
  rfl

noncomputable def mvA : Code := rfA (pth [1, 1, 1, 0, 1, 0] (bodyOf Try.f43))
noncomputable def mvB : Code := rfB (pth [1, 1, 1, 0, 1, 0] (bodyOf Try.f43))

set_option maxRecDepth 4000 in
set_option maxHeartbeats 1000000 in
theorem flip1_d (p : P2) (hp : p.small) : DFun Try.prog 44 [p2D p] [] (p2D (flipP p)) [] := by
  obtain ⟨hp1, hp2⟩ := hp
  refine dcalls_go (N := 9) 0 (by kernel_rfl) Try.func44 rfl rfl rfl (by simp only [fr0, Nat.zero_add, Nat.reduceAdd]; exact rfl) rfl fun s0 hs0 => ?_
  refine dwp_seq ?_
  refine dwp_holes 2 (by simp only [holes, List.cons_append, List.nil_append]; exact rfl) ?_
  refine dwp_region ?_
  refine walk_w rfl rfl rfl (op_boxa 0 rfl (ev1 rfl) rfl) (by simp only [upd, List.set_cons_zero, List.set_cons_succ]; exact rfl) ?_
  refine walk_w rfl rfl rfl (op_alloc 1 rfl zr30 rfl) (by simp only [upd, List.set_cons_zero, List.set_cons_succ]; exact rfl) ?_
  refine walk_nil ?_
  refine dwp_seq ?_
  refine dwp_region ?_
  refine walk_r rfl rfl rfl (op_fa rfl fo30_0 (ev1 rfl)) ?_
  refine walk_r rfl rfl rfl (op_ldo rfl tb3 (ev1 rfl) rfl rfl) ?_
  refine walk_r rfl rfl rfl (op_sub' rfl (ev1 rfl) (ev1 rfl) (fun _ => IntWalk.i64_in _ (by omega))) ?_
  refine walk_r rfl rfl rfl (op_fa rfl fo30_1 (ev1 rfl)) ?_
  refine walk_r rfl rfl rfl (op_ldo rfl tb3 (ev1 rfl) rfl rfl) ?_
  refine walk_r rfl rfl rfl (op_build (ps := [(0, .tmp 5), (1, .tmp 7)]) rfl fl30 zr30 (vc (ev1 rfl) (vc (ev1 rfl) vn)) rfl rfl) ?_
  refine walk_s rfl rfl (op_stwa rfl tb30 (ev1 rfl) (ev1 rfl) rfl rfl rfl rfl) (by simp only [upd, List.set_cons_zero, List.set_cons_succ]; exact rfl) ?_
  refine walk_nil ?_
  refine dwp_ret ?_
  refine kend0 (rs1 rfl (rv_w tb30 rfl rfl rfl)) rfl ?_
  rfl

set_option maxRecDepth 4000 in
set_option maxHeartbeats 1000000 in
theorem mvRound_flip (o : TL) (p : P2) (c : C4) (hp : p.small) : DRound Try.prog 0 [p2D p, c4D c] [.lp 29 [(5, .loc 1 0), (8, .loc 2 0)] #[19, 20] mvA mvB .ready none, .mix 75 [.fn (.func 44) [] []], .mix 66 [.fn (.func 38) [.loc 3 0] []], .flat 65 (tc o)] true [.lp 29 [(5, .loc 1 0), (8, .loc 2 0)] #[19, 20] mvA mvB .ready none, .mix 75 [.fn (.func 44) [] []], .mix 66 [.fn (.func 38) [.loc 3 0] []], .flat 65 (tc (putT o (flipP p) c))] := by
  refine dround_go 4 rfl rfl (by simp) rfl rfl fun s0 hs0 => ?_
  refine dwp_seq ?_
  refine dwp_holes 1 (by simp only [holes, List.cons_append, List.nil_append]; exact rfl) ?_
  refine dwp_region ?_
  refine walk_w rfl rfl rfl (op_alloc 4 rfl zr30 rfl) (by simp only [upd, List.set_cons_zero, List.set_cons_succ]; exact rfl) ?_
  refine walk_s rfl rfl (op_stwa rfl tb30 (ev1 rfl) (ev1 rfl) rfl rfl rfl rfl) (by simp only [upd, List.set_cons_zero, List.set_cons_succ]; exact rfl) ?_
  refine walk_nil ?_
  refine dwp_holes 1 (by simp only [holes, List.cons_append, List.nil_append]; exact rfl) ?_
  refine dwp_region ?_
  refine walk_w rfl rfl rfl (op_alloc 5 rfl zr23 rfl) (by simp only [upd, List.set_cons_zero, List.set_cons_succ]; exact rfl) ?_
  refine walk_s rfl rfl (op_stwa rfl tb23 (ev1 rfl) (ev1 rfl) rfl rfl rfl rfl) (by simp only [upd, List.set_cons_zero, List.set_cons_succ]; exact rfl) ?_
  refine walk_nil ?_
  refine ⟨rfl, ?_⟩
  simp only [List.set_cons_zero, List.set_cons_succ]
  refine dwp_block ?_
  refine dwp_draw [([2], []), ([1], []), ([4], []), ([], []), ([5], []), ([3], [3])] mixed (by kernel_rfl) ?_
  refine lex_r rfl rfl (op_ldm rfl tb66 (ev1 rfl) rfl rfl) ?_
  refine lex_r rfl rfl (op_ldm rfl tb75 (ev1 rfl) rfl rfl) ?_
  refine lex_r rfl rfl (op_ldw rfl tb30 (ev1 rfl) rfl rfl) ?_
  refine lex_r rfl rfl (dop_call [] [] [] rfl (ev1 rfl) (ec (ev1 rfl) en) rfl rfl (flip1_d _ hp) rfl rfl rfl rfl rfl rfl) ?_
  refine lex_r rfl rfl (op_ldw rfl tb23 (ev1 rfl) rfl rfl) ?_
  refine lex_w rfl rfl (dop_call [3] [] [] rfl (ev1 rfl) (ec (ev1 rfl) (ec (ev1 rfl) en)) rfl rfl (put_d _ _ _) rfl rfl rfl rfl rfl rfl) rfl (by simp only [upd, List.set_cons_zero, List.set_cons_succ]; exact rfl) ?_
  refine lex_nil ?_
  refine ⟨by first | rfl | assumption | simp_all, rfl, [0, 1, 2, 3], rfl, ⟨rfl, rfl, rfl, rfl, trivial⟩⟩

set_option maxRecDepth 4000 in
set_option maxHeartbeats 1000000 in
theorem px_flip (t o : TL) : DFun Try.prog 49 [.yld 0, .loc 4 0] [.lp 29 [(5, .loc 1 0), (8, .loc 2 0)] #[19, 20] mvA mvB .ready none, .mix 75 [.fn (.func 44) [] []], .mix 66 [.fn (.func 38) [.loc 3 0] []], .flat 65 (tc o), .mix 71 [.loc 5 0], .flat 65 (tc t)] (.tup []) [.lp 29 [(5, .loc 1 0), (8, .loc 2 0)] #[19, 20] mvA mvB .ready none, .mix 75 [.fn (.func 44) [] []], .mix 66 [.fn (.func 38) [.loc 3 0] []], .flat 65 (tc (mvT t (flipP) o 64)), .mix 71 [.loc 5 0], .flat 65 (tc t)] := by
  refine dcalls_go (N := 22) 6 (by kernel_rfl) Try.func49 rfl rfl rfl (by simp only [fr0, Nat.zero_add, Nat.reduceAdd]; exact rfl) rfl fun s0 hs0 => ?_
  refine dwp_seq ?_
  refine dwp_region ?_
  refine walk_r rfl rfl rfl (op_ldm rfl tb71 (ev1 rfl) rfl rfl) ?_
  refine walk_r rfl rfl rfl (op_move (.inl rfl) (ev1 rfl)) ?_
  refine walk_nil ?_
  refine dwp_block ?_
  refine dwp_loopS ⟨hs0, rfl⟩ (α := Nat) (fun k => [(6, .val (.int .i64 (k : Int)))]) [(0, _), (5, _)] (fun k => [(3, .flat 65 (tc (mvT t (flipP) o k)))]) [_, _, _, .hole, _, _] (fun k => k ≤ 64) (fun k => 64 - k) 0 [0, 1, 2, 3, 4, 5] (by simp) rfl ⟨rfl, rfl, trivial⟩ ⟨rfl, trivial⟩ ⟨rfl, rfl, rfl, rfl, rfl, rfl, trivial⟩ ?_
  intro k hx
  simp only [upd, List.set_cons_zero, List.set_cons_succ, List.cons_append, List.nil_append]
  have hk := hx
  refine dwp_seq ?_
  refine dwp_region ?_
  refine walk_r rfl rfl rfl (op_lss rfl (ev1 rfl) (ev1 rfl)) ?_
  refine walk_nil ?_
  refine dwp_seq ?_
  refine dwp_cond rfl (fun c1 => ?_) (fun c1 => ?_)
  · try simp only [decide_eq_true_eq, decide_eq_false_iff_not, beq_iff_eq, bne_iff_ne, beq_eq_false_iff_ne, bne_eq_false_iff_eq, Bool.not_eq_true', Bool.not_eq_false', Bool.and_eq_true, Bool.or_eq_true, Bool.or_eq_false_iff, ne_eq, Decidable.not_not, Int.not_lt, Int.not_le] at c1
    refine dwp_skip ?_
    refine dwp_seq ?_
    refine dwp_block ?_
    refine dwp_seq ?_
    refine dwp_holes 1 (by simp only [holes, List.cons_append, List.nil_append]; exact rfl) ?_
    refine dwp_draw [([], []), ([], []), ([], []), ([5], []), ([6], [6]), ([], []), ([6], [6])] mixed (by kernel_rfl) ?_
    refine lex_r rfl rfl (op_move (.inl rfl) (ev1 rfl)) ?_
    refine lex_r rfl rfl (op_nc rfl (ev1 rfl) (fun s v h => by cases h; exact ⟨_, rfl⟩)) ?_
    refine lex_r rfl rfl (op_ixfr (j := k) rfl ar25 (ev1 rfl) (ev1 rfl) (fun _ => by omega) (fun _ => by omega)) ?_
    refine lex_r rfl rfl (op_ldfr (zC4) rfl tb23 (ev1 rfl) rfl (fun _ => rfl) (fun _ => by rw [TL.h]; omega)) ?_
    refine lex_w rfl rfl (op_alloc 6 rfl zr23 rfl) rfl (by simp only [upd, List.set_cons_zero, List.set_cons_succ]; exact rfl) ?_
    refine lex_r rfl rfl (op_move (.inr rfl) (ev1 rfl)) ?_
    refine lex_s rfl rfl (op_stwa rfl tb23 (ev1 rfl) (ev1 rfl) rfl rfl rfl rfl) rfl (by simp only [upd, List.set_cons_zero, List.set_cons_succ]; exact rfl) ?_
    refine lex_nil ?_
    refine dwp_seq ?_
    refine dwp_region ?_
    refine walk_r rfl rfl rfl (op_move (.inl rfl) (ev1 rfl)) ?_
    refine walk_r rfl rfl rfl (op_move (.inl rfl) (ev1 rfl)) ?_
    refine walk_r rfl rfl rfl (op_rem' rfl (ev1 rfl) (ev1 rfl) (fun _ => ⟨by omega, by omega⟩)) ?_
    refine walk_r rfl rfl rfl (op_move (.inl rfl) (ev1 rfl)) ?_
    refine walk_r rfl rfl rfl (op_quo' rfl (ev1 rfl) (ev1 rfl) (fun _ => ⟨by omega, by omega, IntWalk.i64_in _ (by omega)⟩)) ?_
    refine walk_r rfl rfl rfl (op_build (ps := [(0, .tmp 14), (1, .tmp 16)]) rfl fl30 zr30 (vc (ev1 rfl) (vc (ev1 rfl) vn)) rfl rfl) ?_
    refine walk_r rfl rfl rfl (op_ldw rfl tb23 (ev1 rfl) rfl rfl) ?_
    refine walk_w rfl rfl rfl (op_y (i := 0) [0, 1, 2, 3] [] [] rfl (ev1 rfl) (ec (ev1 rfl) (ec (ev1 rfl) en)) rfl rfl rfl (mvRound_flip  _ ⟨(k : Int) % 8, (k : Int) / 8⟩ _ (by constructor <;> dsimp only <;> omega)) rfl rfl rfl rfl rfl) (by simp only [upd, List.set_cons_zero, List.set_cons_succ]; exact rfl) ?_
    refine walk_r rfl rfl rfl (op_not rfl (ev1 rfl)) ?_
    refine walk_nil ?_
    refine dwp_if_f rfl (rfl) ?_
    refine dwp_skip ?_
    refine dwp_region ?_
    refine walk_r rfl rfl rfl (op_add' rfl (ev1 rfl) (ev1 rfl) (fun _ => IntWalk.i64_in _ (by omega))) ?_
    refine walk_r rfl rfl rfl (op_move (.inl rfl) (ev1 rfl)) ?_
    refine walk_nil ?_
    refine ⟨k + 1, [0, 1, 2, 3, 4, 5], by omega, by simp only []; omega, rfl, ⟨rfl, rfl, rfl, trivial⟩, ⟨rfl, rfl, rfl, rfl, rfl, rfl, trivial⟩⟩
  · try simp only [decide_eq_true_eq, decide_eq_false_iff_not, beq_iff_eq, bne_iff_ne, beq_eq_false_iff_ne, bne_eq_false_iff_eq, Bool.not_eq_true', Bool.not_eq_false', Bool.and_eq_true, Bool.or_eq_true, Bool.or_eq_false_iff, ne_eq, Decidable.not_not, Int.not_lt, Int.not_le] at c1
    refine dwp_exit ?_
    rw [show k = 64 by omega]
    refine kend [0, 1, 2, 3, 4, 5] (res_none rfl) rfl rfl ?_ ⟨rfl, rfl, rfl, rfl, rfl, rfl, trivial⟩
    rfl

set_option maxRecDepth 4000 in
set_option maxHeartbeats 1000000 in
theorem moved_flip (t : TL) (c : C4) : DFun Try.prog 43 [.loc 0 0, c4D c, .fn (.func 44) [] []] [.flat 65 (tc t)] (tD (mvT t (flipP) (nT c) 64)) [.flat 65 (tc t)] := by
  refine dcalls_go (N := 29) 1 (by kernel_rfl) Try.func43 rfl rfl rfl (by simp only [fr0, Nat.zero_add, Nat.reduceAdd]; exact rfl) rfl fun s0 hs0 => ?_
  refine dwp_seq ?_
  refine dwp_holes 3 (by simp only [holes, List.cons_append, List.nil_append]; exact rfl) ?_
  refine dwp_region ?_
  refine walk_w rfl rfl rfl (op_boxa 1 rfl (ev1 rfl) rfl) (by simp only [upd, List.set_cons_zero, List.set_cons_succ]; exact rfl) ?_
  refine walk_w rfl rfl rfl (op_boxm 2 rfl (ev1 rfl) (fun s v h => by cases h <;> rfl) rfl) (by simp only [upd, List.set_cons_zero, List.set_cons_succ]; exact rfl) ?_
  refine walk_w rfl rfl rfl (op_alloc 3 rfl zr25 rfl) (by simp only [upd, List.set_cons_zero, List.set_cons_succ]; exact rfl) ?_
  refine walk_nil ?_
  refine dwp_seq ?_
  refine dwp_holes 1 (by simp only [holes, List.cons_append, List.nil_append]; exact rfl) ?_
  refine dwp_region ?_
  refine walk_r rfl rfl rfl (op_ldw rfl tb23 (ev1 rfl) rfl rfl) ?_
  refine walk_r rfl rfl rfl (dop_call [] [] [] rfl (ev1 rfl) (ec (ev1 rfl) en) rfl rfl (new_d _) rfl rfl rfl rfl rfl rfl) ?_
  refine walk_r rfl rfl rfl (op_build (ps := [(0, .tmp 12)]) rfl fl65 zr65 (vc (ev1 rfl) vn) (wrapB _) (setL_all ((tc_len _).trans (tc_len _).symm))) ?_
  refine walk_w rfl rfl rfl (op_alloc 4 rfl zr65 rfl) (by simp only [upd, List.set_cons_zero, List.set_cons_succ]; exact rfl) ?_
  refine walk_s rfl rfl (op_stwa rfl tb65 (ev1 rfl) (ev1 rfl) rfl (tc_len _) (tc_oc _) ((tc_len _).trans (tc_len _).symm)) (by simp only [upd, List.set_cons_zero, List.set_cons_succ]; exact rfl) ?_
  refine walk_nil ?_
  refine dwp_seq ?_
  refine dwp_holes 1 (by simp only [holes, List.cons_append, List.nil_append]; exact rfl) ?_
  refine dwp_region ?_
  refine walk_r rfl rfl rfl (op_mkf rfl (ec (ev1 rfl) en) en) ?_
  refine walk_w rfl rfl rfl (op_alloc 5 rfl zr66 rfl) (by simp only [upd, List.set_cons_zero, List.set_cons_succ]; exact rfl) ?_
  refine walk_s rfl rfl (op_stfm rfl tb66 (ev1 rfl) (ev1 rfl) (fun s v h => by cases h <;> exact ⟨rfl, rfl⟩) rfl (by decide)) (by simp only [upd, List.set_cons_zero, List.set_cons_succ]; exact rfl) ?_
  refine walk_nil ?_
  refine dwp_seq ?_
  refine dwp_seq ?_
  refine dwp_holes 1 (by simp only [holes, List.cons_append, List.nil_append]; exact rfl) ?_
  refine dwp_region ?_
  refine walk_r rfl rfl rfl (op_move (.inl rfl) (ev1 rfl)) ?_
  refine walk_r rfl rfl rfl (op_nc rfl (ev1 rfl) (fun s v h => by cases h; exact ⟨_, rfl⟩)) ?_
  refine walk_r rfl rfl rfl (op_fa rfl fo65_0 (ev1 rfl)) ?_
  refine walk_w rfl rfl rfl (dop_call [0] [] [6] rfl (ev1 rfl) (ec (ev1 rfl) en) rfl rfl (pixels_d _ _) rfl rfl rfl rfl rfl rfl) (by simp only [upd, List.set_cons_zero, List.set_cons_succ]; exact rfl) ?_
  refine walk_nil ?_
  refine dwp_block ?_
  refine dwp_hole ?_
  simp only [List.cons_append, List.nil_append]
  refine dwp_rf (FL := [(5, _), (8, _)]) (st := .ready) (pe := none) [7, 2, 5, 4, 6, 0] [] [] 7 rfl rfl (ev1 rfl) rfl (subF_lk ⟨rfl, rfl, trivial⟩) rfl rfl rfl (px_flip  _ _) rfl rfl rfl rfl rfl rfl rfl (by simp) (fun e => ?_) (fun c e => ?_)
  · simp only [upd, List.set_cons_zero, List.set_cons_succ]
    refine dwp_seq ?_
    refine dwp_region ?_
    refine walk_r rfl rfl rfl (op_fa rfl fo65_0 (ev1 rfl)) ?_
    refine walk_r rfl rfl rfl (op_ldw rfl tb25 (ev1 rfl) rfl (tc_len _)) ?_
    refine walk_s rfl rfl (op_stwa rfl tb25 (ev1 rfl) (ev1 rfl) rfl (tc_len _) (tc_oc _) ((tc_len _).trans (tc_len _).symm)) (by simp only [upd, List.set_cons_zero, List.set_cons_succ]; exact rfl) ?_
    refine walk_nil ?_
    refine dwp_ret ?_
    refine kend [0] (rs1 rfl (rv_w tb25 rfl rfl (tc_len _))) rfl rfl ?_ ⟨rfl, trivial⟩
    rfl
  · cases e

set_option maxRecDepth 4000 in
set_option maxHeartbeats 1000000 in
theorem turn1_d (p : P2) (hp : p.small) : DFun Try.prog 45 [p2D p] [] (p2D (turnP p)) [] := by
  obtain ⟨hp1, hp2⟩ := hp
  refine dcalls_go (N := 9) 0 (by kernel_rfl) Try.func45 rfl rfl rfl (by simp only [fr0, Nat.zero_add, Nat.reduceAdd]; exact rfl) rfl fun s0 hs0 => ?_
  refine dwp_seq ?_
  refine dwp_holes 2 (by simp only [holes, List.cons_append, List.nil_append]; exact rfl) ?_
  refine dwp_region ?_
  refine walk_w rfl rfl rfl (op_boxa 0 rfl (ev1 rfl) rfl) (by simp only [upd, List.set_cons_zero, List.set_cons_succ]; exact rfl) ?_
  refine walk_w rfl rfl rfl (op_alloc 1 rfl zr30 rfl) (by simp only [upd, List.set_cons_zero, List.set_cons_succ]; exact rfl) ?_
  refine walk_nil ?_
  refine dwp_seq ?_
  refine dwp_region ?_
  refine walk_r rfl rfl rfl (op_fa rfl fo30_1 (ev1 rfl)) ?_
  refine walk_r rfl rfl rfl (op_ldo rfl tb3 (ev1 rfl) rfl rfl) ?_
  refine walk_r rfl rfl rfl (op_sub' rfl (ev1 rfl) (ev1 rfl) (fun _ => IntWalk.i64_in _ (by omega))) ?_
  refine walk_r rfl rfl rfl (op_fa rfl fo30_0 (ev1 rfl)) ?_
  refine walk_r rfl rfl rfl (op_ldo rfl tb3 (ev1 rfl) rfl rfl) ?_
  refine walk_r rfl rfl rfl (op_build (ps := [(0, .tmp 5), (1, .tmp 7)]) rfl fl30 zr30 (vc (ev1 rfl) (vc (ev1 rfl) vn)) rfl rfl) ?_
  refine walk_s rfl rfl (op_stwa rfl tb30 (ev1 rfl) (ev1 rfl) rfl rfl rfl rfl) (by simp only [upd, List.set_cons_zero, List.set_cons_succ]; exact rfl) ?_
  refine walk_nil ?_
  refine dwp_ret ?_
  refine kend0 (rs1 rfl (rv_w tb30 rfl rfl rfl)) rfl ?_
  rfl

set_option maxRecDepth 4000 in
set_option maxHeartbeats 1000000 in
theorem mvRound_turn (o : TL) (p : P2) (c : C4) (hp : p.small) : DRound Try.prog 0 [p2D p, c4D c] [.lp 29 [(5, .loc 1 0), (8, .loc 2 0)] #[19, 20] mvA mvB .ready none, .mix 75 [.fn (.func 45) [] []], .mix 66 [.fn (.func 38) [.loc 3 0] []], .flat 65 (tc o)] true [.lp 29 [(5, .loc 1 0), (8, .loc 2 0)] #[19, 20] mvA mvB .ready none, .mix 75 [.fn (.func 45) [] []], .mix 66 [.fn (.func 38) [.loc 3 0] []], .flat 65 (tc (putT o (turnP p) c))] := by
  refine dround_go 4 rfl rfl (by simp) rfl rfl fun s0 hs0 => ?_
  refine dwp_seq ?_
  refine dwp_holes 1 (by simp only [holes, List.cons_append, List.nil_append]; exact rfl) ?_
  refine dwp_region ?_
  refine walk_w rfl rfl rfl (op_alloc 4 rfl zr30 rfl) (by simp only [upd, List.set_cons_zero, List.set_cons_succ]; exact rfl) ?_
  refine walk_s rfl rfl (op_stwa rfl tb30 (ev1 rfl) (ev1 rfl) rfl rfl rfl rfl) (by simp only [upd, List.set_cons_zero, List.set_cons_succ]; exact rfl) ?_
  refine walk_nil ?_
  refine dwp_holes 1 (by simp only [holes, List.cons_append, List.nil_append]; exact rfl) ?_
  refine dwp_region ?_
  refine walk_w rfl rfl rfl (op_alloc 5 rfl zr23 rfl) (by simp only [upd, List.set_cons_zero, List.set_cons_succ]; exact rfl) ?_
  refine walk_s rfl rfl (op_stwa rfl tb23 (ev1 rfl) (ev1 rfl) rfl rfl rfl rfl) (by simp only [upd, List.set_cons_zero, List.set_cons_succ]; exact rfl) ?_
  refine walk_nil ?_
  refine ⟨rfl, ?_⟩
  simp only [List.set_cons_zero, List.set_cons_succ]
  refine dwp_block ?_
  refine dwp_draw [([2], []), ([1], []), ([4], []), ([], []), ([5], []), ([3], [3])] mixed (by kernel_rfl) ?_
  refine lex_r rfl rfl (op_ldm rfl tb66 (ev1 rfl) rfl rfl) ?_
  refine lex_r rfl rfl (op_ldm rfl tb75 (ev1 rfl) rfl rfl) ?_
  refine lex_r rfl rfl (op_ldw rfl tb30 (ev1 rfl) rfl rfl) ?_
  refine lex_r rfl rfl (dop_call [] [] [] rfl (ev1 rfl) (ec (ev1 rfl) en) rfl rfl (turn1_d _ hp) rfl rfl rfl rfl rfl rfl) ?_
  refine lex_r rfl rfl (op_ldw rfl tb23 (ev1 rfl) rfl rfl) ?_
  refine lex_w rfl rfl (dop_call [3] [] [] rfl (ev1 rfl) (ec (ev1 rfl) (ec (ev1 rfl) en)) rfl rfl (put_d _ _ _) rfl rfl rfl rfl rfl rfl) rfl (by simp only [upd, List.set_cons_zero, List.set_cons_succ]; exact rfl) ?_
  refine lex_nil ?_
  refine ⟨by first | rfl | assumption | simp_all, rfl, [0, 1, 2, 3], rfl, ⟨rfl, rfl, rfl, rfl, trivial⟩⟩

set_option maxRecDepth 4000 in
set_option maxHeartbeats 1000000 in
theorem px_turn (t o : TL) : DFun Try.prog 49 [.yld 0, .loc 4 0] [.lp 29 [(5, .loc 1 0), (8, .loc 2 0)] #[19, 20] mvA mvB .ready none, .mix 75 [.fn (.func 45) [] []], .mix 66 [.fn (.func 38) [.loc 3 0] []], .flat 65 (tc o), .mix 71 [.loc 5 0], .flat 65 (tc t)] (.tup []) [.lp 29 [(5, .loc 1 0), (8, .loc 2 0)] #[19, 20] mvA mvB .ready none, .mix 75 [.fn (.func 45) [] []], .mix 66 [.fn (.func 38) [.loc 3 0] []], .flat 65 (tc (mvT t (turnP) o 64)), .mix 71 [.loc 5 0], .flat 65 (tc t)] := by
  refine dcalls_go (N := 22) 6 (by kernel_rfl) Try.func49 rfl rfl rfl (by simp only [fr0, Nat.zero_add, Nat.reduceAdd]; exact rfl) rfl fun s0 hs0 => ?_
  refine dwp_seq ?_
  refine dwp_region ?_
  refine walk_r rfl rfl rfl (op_ldm rfl tb71 (ev1 rfl) rfl rfl) ?_
  refine walk_r rfl rfl rfl (op_move (.inl rfl) (ev1 rfl)) ?_
  refine walk_nil ?_
  refine dwp_block ?_
  refine dwp_loopS ⟨hs0, rfl⟩ (α := Nat) (fun k => [(6, .val (.int .i64 (k : Int)))]) [(0, _), (5, _)] (fun k => [(3, .flat 65 (tc (mvT t (turnP) o k)))]) [_, _, _, .hole, _, _] (fun k => k ≤ 64) (fun k => 64 - k) 0 [0, 1, 2, 3, 4, 5] (by simp) rfl ⟨rfl, rfl, trivial⟩ ⟨rfl, trivial⟩ ⟨rfl, rfl, rfl, rfl, rfl, rfl, trivial⟩ ?_
  intro k hx
  simp only [upd, List.set_cons_zero, List.set_cons_succ, List.cons_append, List.nil_append]
  have hk := hx
  refine dwp_seq ?_
  refine dwp_region ?_
  refine walk_r rfl rfl rfl (op_lss rfl (ev1 rfl) (ev1 rfl)) ?_
  refine walk_nil ?_
  refine dwp_seq ?_
  refine dwp_cond rfl (fun c1 => ?_) (fun c1 => ?_)
  · try simp only [decide_eq_true_eq, decide_eq_false_iff_not, beq_iff_eq, bne_iff_ne, beq_eq_false_iff_ne, bne_eq_false_iff_eq, Bool.not_eq_true', Bool.not_eq_false', Bool.and_eq_true, Bool.or_eq_true, Bool.or_eq_false_iff, ne_eq, Decidable.not_not, Int.not_lt, Int.not_le] at c1
    refine dwp_skip ?_
    refine dwp_seq ?_
    refine dwp_block ?_
    refine dwp_seq ?_
    refine dwp_holes 1 (by simp only [holes, List.cons_append, List.nil_append]; exact rfl) ?_
    refine dwp_draw [([], []), ([], []), ([], []), ([5], []), ([6], [6]), ([], []), ([6], [6])] mixed (by kernel_rfl) ?_
    refine lex_r rfl rfl (op_move (.inl rfl) (ev1 rfl)) ?_
    refine lex_r rfl rfl (op_nc rfl (ev1 rfl) (fun s v h => by cases h; exact ⟨_, rfl⟩)) ?_
    refine lex_r rfl rfl (op_ixfr (j := k) rfl ar25 (ev1 rfl) (ev1 rfl) (fun _ => by omega) (fun _ => by omega)) ?_
    refine lex_r rfl rfl (op_ldfr (zC4) rfl tb23 (ev1 rfl) rfl (fun _ => rfl) (fun _ => by rw [TL.h]; omega)) ?_
    refine lex_w rfl rfl (op_alloc 6 rfl zr23 rfl) rfl (by simp only [upd, List.set_cons_zero, List.set_cons_succ]; exact rfl) ?_
    refine lex_r rfl rfl (op_move (.inr rfl) (ev1 rfl)) ?_
    refine lex_s rfl rfl (op_stwa rfl tb23 (ev1 rfl) (ev1 rfl) rfl rfl rfl rfl) rfl (by simp only [upd, List.set_cons_zero, List.set_cons_succ]; exact rfl) ?_
    refine lex_nil ?_
    refine dwp_seq ?_
    refine dwp_region ?_
    refine walk_r rfl rfl rfl (op_move (.inl rfl) (ev1 rfl)) ?_
    refine walk_r rfl rfl rfl (op_move (.inl rfl) (ev1 rfl)) ?_
    refine walk_r rfl rfl rfl (op_rem' rfl (ev1 rfl) (ev1 rfl) (fun _ => ⟨by omega, by omega⟩)) ?_
    refine walk_r rfl rfl rfl (op_move (.inl rfl) (ev1 rfl)) ?_
    refine walk_r rfl rfl rfl (op_quo' rfl (ev1 rfl) (ev1 rfl) (fun _ => ⟨by omega, by omega, IntWalk.i64_in _ (by omega)⟩)) ?_
    refine walk_r rfl rfl rfl (op_build (ps := [(0, .tmp 14), (1, .tmp 16)]) rfl fl30 zr30 (vc (ev1 rfl) (vc (ev1 rfl) vn)) rfl rfl) ?_
    refine walk_r rfl rfl rfl (op_ldw rfl tb23 (ev1 rfl) rfl rfl) ?_
    refine walk_w rfl rfl rfl (op_y (i := 0) [0, 1, 2, 3] [] [] rfl (ev1 rfl) (ec (ev1 rfl) (ec (ev1 rfl) en)) rfl rfl rfl (mvRound_turn  _ ⟨(k : Int) % 8, (k : Int) / 8⟩ _ (by constructor <;> dsimp only <;> omega)) rfl rfl rfl rfl rfl) (by simp only [upd, List.set_cons_zero, List.set_cons_succ]; exact rfl) ?_
    refine walk_r rfl rfl rfl (op_not rfl (ev1 rfl)) ?_
    refine walk_nil ?_
    refine dwp_if_f rfl (rfl) ?_
    refine dwp_skip ?_
    refine dwp_region ?_
    refine walk_r rfl rfl rfl (op_add' rfl (ev1 rfl) (ev1 rfl) (fun _ => IntWalk.i64_in _ (by omega))) ?_
    refine walk_r rfl rfl rfl (op_move (.inl rfl) (ev1 rfl)) ?_
    refine walk_nil ?_
    refine ⟨k + 1, [0, 1, 2, 3, 4, 5], by omega, by simp only []; omega, rfl, ⟨rfl, rfl, rfl, trivial⟩, ⟨rfl, rfl, rfl, rfl, rfl, rfl, trivial⟩⟩
  · try simp only [decide_eq_true_eq, decide_eq_false_iff_not, beq_iff_eq, bne_iff_ne, beq_eq_false_iff_ne, bne_eq_false_iff_eq, Bool.not_eq_true', Bool.not_eq_false', Bool.and_eq_true, Bool.or_eq_true, Bool.or_eq_false_iff, ne_eq, Decidable.not_not, Int.not_lt, Int.not_le] at c1
    refine dwp_exit ?_
    rw [show k = 64 by omega]
    refine kend [0, 1, 2, 3, 4, 5] (res_none rfl) rfl rfl ?_ ⟨rfl, rfl, rfl, rfl, rfl, rfl, trivial⟩
    rfl

set_option maxRecDepth 4000 in
set_option maxHeartbeats 1000000 in
theorem moved_turn (t : TL) (c : C4) : DFun Try.prog 43 [.loc 0 0, c4D c, .fn (.func 45) [] []] [.flat 65 (tc t)] (tD (mvT t (turnP) (nT c) 64)) [.flat 65 (tc t)] := by
  refine dcalls_go (N := 29) 1 (by kernel_rfl) Try.func43 rfl rfl rfl (by simp only [fr0, Nat.zero_add, Nat.reduceAdd]; exact rfl) rfl fun s0 hs0 => ?_
  refine dwp_seq ?_
  refine dwp_holes 3 (by simp only [holes, List.cons_append, List.nil_append]; exact rfl) ?_
  refine dwp_region ?_
  refine walk_w rfl rfl rfl (op_boxa 1 rfl (ev1 rfl) rfl) (by simp only [upd, List.set_cons_zero, List.set_cons_succ]; exact rfl) ?_
  refine walk_w rfl rfl rfl (op_boxm 2 rfl (ev1 rfl) (fun s v h => by cases h <;> rfl) rfl) (by simp only [upd, List.set_cons_zero, List.set_cons_succ]; exact rfl) ?_
  refine walk_w rfl rfl rfl (op_alloc 3 rfl zr25 rfl) (by simp only [upd, List.set_cons_zero, List.set_cons_succ]; exact rfl) ?_
  refine walk_nil ?_
  refine dwp_seq ?_
  refine dwp_holes 1 (by simp only [holes, List.cons_append, List.nil_append]; exact rfl) ?_
  refine dwp_region ?_
  refine walk_r rfl rfl rfl (op_ldw rfl tb23 (ev1 rfl) rfl rfl) ?_
  refine walk_r rfl rfl rfl (dop_call [] [] [] rfl (ev1 rfl) (ec (ev1 rfl) en) rfl rfl (new_d _) rfl rfl rfl rfl rfl rfl) ?_
  refine walk_r rfl rfl rfl (op_build (ps := [(0, .tmp 12)]) rfl fl65 zr65 (vc (ev1 rfl) vn) (wrapB _) (setL_all ((tc_len _).trans (tc_len _).symm))) ?_
  refine walk_w rfl rfl rfl (op_alloc 4 rfl zr65 rfl) (by simp only [upd, List.set_cons_zero, List.set_cons_succ]; exact rfl) ?_
  refine walk_s rfl rfl (op_stwa rfl tb65 (ev1 rfl) (ev1 rfl) rfl (tc_len _) (tc_oc _) ((tc_len _).trans (tc_len _).symm)) (by simp only [upd, List.set_cons_zero, List.set_cons_succ]; exact rfl) ?_
  refine walk_nil ?_
  refine dwp_seq ?_
  refine dwp_holes 1 (by simp only [holes, List.cons_append, List.nil_append]; exact rfl) ?_
  refine dwp_region ?_
  refine walk_r rfl rfl rfl (op_mkf rfl (ec (ev1 rfl) en) en) ?_
  refine walk_w rfl rfl rfl (op_alloc 5 rfl zr66 rfl) (by simp only [upd, List.set_cons_zero, List.set_cons_succ]; exact rfl) ?_
  refine walk_s rfl rfl (op_stfm rfl tb66 (ev1 rfl) (ev1 rfl) (fun s v h => by cases h <;> exact ⟨rfl, rfl⟩) rfl (by decide)) (by simp only [upd, List.set_cons_zero, List.set_cons_succ]; exact rfl) ?_
  refine walk_nil ?_
  refine dwp_seq ?_
  refine dwp_seq ?_
  refine dwp_holes 1 (by simp only [holes, List.cons_append, List.nil_append]; exact rfl) ?_
  refine dwp_region ?_
  refine walk_r rfl rfl rfl (op_move (.inl rfl) (ev1 rfl)) ?_
  refine walk_r rfl rfl rfl (op_nc rfl (ev1 rfl) (fun s v h => by cases h; exact ⟨_, rfl⟩)) ?_
  refine walk_r rfl rfl rfl (op_fa rfl fo65_0 (ev1 rfl)) ?_
  refine walk_w rfl rfl rfl (dop_call [0] [] [6] rfl (ev1 rfl) (ec (ev1 rfl) en) rfl rfl (pixels_d _ _) rfl rfl rfl rfl rfl rfl) (by simp only [upd, List.set_cons_zero, List.set_cons_succ]; exact rfl) ?_
  refine walk_nil ?_
  refine dwp_block ?_
  refine dwp_hole ?_
  simp only [List.cons_append, List.nil_append]
  refine dwp_rf (FL := [(5, _), (8, _)]) (st := .ready) (pe := none) [7, 2, 5, 4, 6, 0] [] [] 7 rfl rfl (ev1 rfl) rfl (subF_lk ⟨rfl, rfl, trivial⟩) rfl rfl rfl (px_turn  _ _) rfl rfl rfl rfl rfl rfl rfl (by simp) (fun e => ?_) (fun c e => ?_)
  · simp only [upd, List.set_cons_zero, List.set_cons_succ]
    refine dwp_seq ?_
    refine dwp_region ?_
    refine walk_r rfl rfl rfl (op_fa rfl fo65_0 (ev1 rfl)) ?_
    refine walk_r rfl rfl rfl (op_ldw rfl tb25 (ev1 rfl) rfl (tc_len _)) ?_
    refine walk_s rfl rfl (op_stwa rfl tb25 (ev1 rfl) (ev1 rfl) rfl (tc_len _) (tc_oc _) ((tc_len _).trans (tc_len _).symm)) (by simp only [upd, List.set_cons_zero, List.set_cons_succ]; exact rfl) ?_
    refine walk_nil ?_
    refine dwp_ret ?_
    refine kend [0] (rs1 rfl (rv_w tb25 rfl rfl (tc_len _))) rfl rfl ?_ ⟨rfl, trivial⟩
    rfl
  · cases e

end Go.Proofs.Ythagnobjbpmneaa
