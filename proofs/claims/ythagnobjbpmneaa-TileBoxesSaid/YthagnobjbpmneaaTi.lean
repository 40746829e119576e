/- the box around what differs -/
import Derived.Test.YthagnobjbpmneaaTh
namespace Go.Proofs.Ythagnobjbpmneaa
set_option linter.unusedVariables false
set_option linter.unusedSimpArgs false
open Go.RowKit

noncomputable def boxA : Code := rfA (pth [1, 0, 1, 1, 1, 0, 1, 0] (bodyOf Try.f26))
noncomputable def boxB : Code := rfB (pth [1, 0, 1, 1, 1, 0, 1, 0] (bodyOf Try.f26))

set_option maxRecDepth 4000 in
set_option maxHeartbeats 1000000 in
theorem boxRound_1 (u : TL) (b : B4) (p : P2) (hp : p.small) (k : Nat) (hk : p.y * 8 + p.x = k) (c : C4) (h : c = u.get k) : DRound Try.prog 0 [p2D p, c4D c] [.lp 54 [(3, .loc 1 0), (6, .loc 2 0), (7, .loc 3 0)] #[17, 18] boxA boxB .ready none, .flat 25 (tc u), .flat 49 (b4 b), .flat 49 (b4 wholeB)] true [.lp 54 [(3, .loc 1 0), (6, .loc 2 0), (7, .loc 3 0)] #[17, 18] boxA boxB .ready none, .flat 25 (tc u), .flat 49 (b4 b), .flat 49 (b4 wholeB)] := by
  obtain ⟨hp1, hp2⟩ := hp
  refine dround_go 4 rfl rfl (by simp) rfl rfl fun s0 hs0 => ?_
  refine dwp_seq ?_
  refine dwp_holes 1 (by simp only [holes, List.cons_append, List.nil_append]; exact rfl) ?_
  refine dwp_region ?_
  refine walk_w rfl rfl rfl (op_alloc 4 rfl zr30 rfl) (by simp only [upd, List.set_cons_zero, List.set_cons_succ]; exact rfl) ?_
  refine walk_s rfl rfl (op_stwa rfl tb30 (ev1 rfl) (ev1 rfl) rfl rfl rfl rfl) (by simp only [upd, List.set_cons_zero, List.set_cons_succ]; exact rfl) ?_
  refine walk_nil ?_
  refine dwp_holes 1 (by simp only [holes, List.cons_append, List.nil_append]; exact rfl) ?_
  refine dwp_region ?_
  refine walk_w rfl rfl rfl (op_alloc 5 rfl zr23 rfl) (by simp only [upd, List.set_cons_zero, List.set_cons_succ]; exact rfl) ?_
  refine walk_s rfl rfl (op_stwa rfl tb23 (ev1 rfl) (ev1 rfl) rfl rfl rfl rfl) (by simp only [upd, List.set_cons_zero, List.set_cons_succ]; exact rfl) ?_
  refine walk_nil ?_
  refine ⟨rfl, ?_⟩
  simp only [List.set_cons_zero, List.set_cons_succ]
  refine dwp_block ?_
  refine dwp_seq ?_
  refine dwp_seq ?_
  refine dwp_draw [([5], []), ([], []), ([4], []), ([], []), ([], []), ([4], []), ([], []), ([], []), ([1], []), ([], [])] mixed (by kernel_rfl) ?_
  refine lex_r rfl rfl (op_ldw rfl tb23 (ev1 rfl) rfl rfl) ?_
  refine lex_r rfl rfl (op_fa rfl fo30_1 (ev1 rfl)) ?_
  refine lex_r rfl rfl (op_ldo rfl tb3 (ev1 rfl) rfl rfl) ?_
  refine lex_r rfl rfl (op_mul' rfl (ev1 rfl) (ev1 rfl) (fun _ => IntWalk.i64_in _ (by omega))) ?_
  refine lex_r rfl rfl (op_fa rfl fo30_0 (ev1 rfl)) ?_
  refine lex_r rfl rfl (op_ldo rfl tb3 (ev1 rfl) rfl rfl) ?_
  refine lex_r rfl rfl (op_add' rfl (ev1 rfl) (ev1 rfl) (fun _ => IntWalk.i64_in _ (by omega))) ?_
  refine lex_r rfl rfl (op_ixfr (j := k) rfl ar25 (ev1 rfl) (ev1 rfl) (fun _ => by omega) (fun _ => by omega)) ?_
  refine lex_r rfl rfl (op_ldfr (zC4) rfl tb23 (ev1 rfl) rfl (fun _ => rfl) (fun _ => by rw [TL.h]; omega)) ?_
  refine lex_r rfl rfl (op_eqr eq23 rfl gd23 tb23 (ev1 rfl) (ev1 rfl)) ?_
  refine lex_nil ?_
  refine dwp_cond rfl (fun c1 => ?_) (fun c1 => ?_)
  · refine dwp_exit ?_
    refine ⟨by first | rfl | assumption | simp_all, rfl, [0, 1, 2, 3], rfl, ⟨rfl, rfl, rfl, rfl, trivial⟩⟩
  · exact absurd h (eqC_no c1)

set_option maxRecDepth 4000 in
set_option maxHeartbeats 1000000 in
theorem boxRound_2 (u : TL) (b : B4) (p : P2) (hp : p.small) (k : Nat) (hk : p.y * 8 + p.x = k) (c : C4) (h : c ≠ u.get k) (h2 : mmB b p ≠ wholeB) : DRound Try.prog 0 [p2D p, c4D c] [.lp 54 [(3, .loc 1 0), (6, .loc 2 0), (7, .loc 3 0)] #[17, 18] boxA boxB .ready none, .flat 25 (tc u), .flat 49 (b4 b), .flat 49 (b4 wholeB)] true [.lp 54 [(3, .loc 1 0), (6, .loc 2 0), (7, .loc 3 0)] #[17, 18] boxA boxB .ready none, .flat 25 (tc u), .flat 49 (b4 (mmB b p)), .flat 49 (b4 wholeB)] := by
  obtain ⟨hp1, hp2⟩ := hp
  refine dround_go 4 rfl rfl (by simp) rfl rfl fun s0 hs0 => ?_
  refine dwp_seq ?_
  refine dwp_holes 1 (by simp only [holes, List.cons_append, List.nil_append]; exact rfl) ?_
  refine dwp_region ?_
  refine walk_w rfl rfl rfl (op_alloc 4 rfl zr30 rfl) (by simp only [upd, List.set_cons_zero, List.set_cons_succ]; exact rfl) ?_
  refine walk_s rfl rfl (op_stwa rfl tb30 (ev1 rfl) (ev1 rfl) rfl rfl rfl rfl) (by simp only [upd, List.set_cons_zero, List.set_cons_succ]; exact rfl) ?_
  refine walk_nil ?_
  refine dwp_holes 1 (by simp only [holes, List.cons_append, List.nil_append]; exact rfl) ?_
  refine dwp_region ?_
  refine walk_w rfl rfl rfl (op_alloc 5 rfl zr23 rfl) (by simp only [upd, List.set_cons_zero, List.set_cons_succ]; exact rfl) ?_
  refine walk_s rfl rfl (op_stwa rfl tb23 (ev1 rfl) (ev1 rfl) rfl rfl rfl rfl) (by simp only [upd, List.set_cons_zero, List.set_cons_succ]; exact rfl) ?_
  refine walk_nil ?_
  refine ⟨rfl, ?_⟩
  simp only [List.set_cons_zero, List.set_cons_succ]
  refine dwp_block ?_
  refine dwp_seq ?_
  refine dwp_seq ?_
  refine dwp_draw [([5], []), ([], []), ([4], []), ([], []), ([], []), ([4], []), ([], []), ([], []), ([1], []), ([], [])] mixed (by kernel_rfl) ?_
  refine lex_r rfl rfl (op_ldw rfl tb23 (ev1 rfl) rfl rfl) ?_
  refine lex_r rfl rfl (op_fa rfl fo30_1 (ev1 rfl)) ?_
  refine lex_r rfl rfl (op_ldo rfl tb3 (ev1 rfl) rfl rfl) ?_
  refine lex_r rfl rfl (op_mul' rfl (ev1 rfl) (ev1 rfl) (fun _ => IntWalk.i64_in _ (by omega))) ?_
  refine lex_r rfl rfl (op_fa rfl fo30_0 (ev1 rfl)) ?_
  refine lex_r rfl rfl (op_ldo rfl tb3 (ev1 rfl) rfl rfl) ?_
  refine lex_r rfl rfl (op_add' rfl (ev1 rfl) (ev1 rfl) (fun _ => IntWalk.i64_in _ (by omega))) ?_
  refine lex_r rfl rfl (op_ixfr (j := k) rfl ar25 (ev1 rfl) (ev1 rfl) (fun _ => by omega) (fun _ => by omega)) ?_
  refine lex_r rfl rfl (op_ldfr (zC4) rfl tb23 (ev1 rfl) rfl (fun _ => rfl) (fun _ => by rw [TL.h]; omega)) ?_
  refine lex_r rfl rfl (op_eqr eq23 rfl gd23 tb23 (ev1 rfl) (ev1 rfl)) ?_
  refine lex_nil ?_
  refine dwp_cond rfl (fun c1 => ?_) (fun c1 => ?_)
  · exact absurd (eqC_yes c1) h
  · refine dwp_skip ?_
    refine dwp_seq ?_
    refine dwp_region ?_
    refine walk_r rfl rfl rfl (op_fa rfl fo49_0 (ev1 rfl)) ?_
    refine walk_r rfl rfl rfl (op_ldo rfl tb3 (ev1 rfl) rfl rfl) ?_
    refine walk_r rfl rfl rfl (op_fa rfl fo30_0 (ev1 rfl)) ?_
    refine walk_r rfl rfl rfl (op_ldo rfl tb3 (ev1 rfl) rfl rfl) ?_
    refine walk_r rfl rfl rfl (op_min rfl (ev1 rfl) (ev1 rfl)) ?_
    refine walk_r rfl rfl rfl (op_fa rfl fo49_1 (ev1 rfl)) ?_
    refine walk_r rfl rfl rfl (op_ldo rfl tb3 (ev1 rfl) rfl rfl) ?_
    refine walk_r rfl rfl rfl (op_fa rfl fo30_1 (ev1 rfl)) ?_
    refine walk_r rfl rfl rfl (op_ldo rfl tb3 (ev1 rfl) rfl rfl) ?_
    refine walk_r rfl rfl rfl (op_min rfl (ev1 rfl) (ev1 rfl)) ?_
    refine walk_r rfl rfl rfl (op_fa rfl fo49_2 (ev1 rfl)) ?_
    refine walk_r rfl rfl rfl (op_ldo rfl tb3 (ev1 rfl) rfl rfl) ?_
    refine walk_r rfl rfl rfl (op_fa rfl fo30_0 (ev1 rfl)) ?_
    refine walk_r rfl rfl rfl (op_ldo rfl tb3 (ev1 rfl) rfl rfl) ?_
    refine walk_r rfl rfl rfl (op_max rfl (ev1 rfl) (ev1 rfl)) ?_
    refine walk_r rfl rfl rfl (op_fa rfl fo49_3 (ev1 rfl)) ?_
    refine walk_r rfl rfl rfl (op_ldo rfl tb3 (ev1 rfl) rfl rfl) ?_
    refine walk_r rfl rfl rfl (op_fa rfl fo30_1 (ev1 rfl)) ?_
    refine walk_r rfl rfl rfl (op_ldo rfl tb3 (ev1 rfl) rfl rfl) ?_
    refine walk_r rfl rfl rfl (op_max rfl (ev1 rfl) (ev1 rfl)) ?_
    refine walk_r rfl rfl rfl (op_build (ps := [(0, .tmp 33), (1, .tmp 38), (2, .tmp 43), (3, .tmp 48)]) rfl fl49 zr49 (vc (ev1 rfl) (vc (ev1 rfl) (vc (ev1 rfl) (vc (ev1 rfl) vn)))) rfl rfl) ?_
    refine walk_s rfl rfl (op_stwa rfl tb49 (ev1 rfl) (ev1 rfl) rfl rfl rfl rfl) (by simp only [upd, List.set_cons_zero, List.set_cons_succ]; exact rfl) ?_
    refine walk_nil ?_
    refine dwp_seq ?_
    refine dwp_region ?_
    refine walk_r rfl rfl rfl (op_ldw rfl tb49 (ev1 rfl) rfl rfl) ?_
    refine walk_r rfl rfl rfl (op_ldw rfl tb49 (ev1 rfl) rfl rfl) ?_
    refine walk_r rfl rfl rfl (op_eqr eq49 rfl gd49 tb49 (ev1 rfl) (ev1 rfl)) ?_
    refine walk_nil ?_
    refine dwp_cond rfl (fun c2 => ?_) (fun c2 => ?_)
    · exact absurd (eqB_yes (a := mmB b p) (b := wholeB) c2) h2
    · refine dwp_skip ?_
      refine ⟨by first | rfl | assumption | simp_all, rfl, [0, 1, 2, 3], rfl, ⟨rfl, rfl, rfl, rfl, trivial⟩⟩

set_option maxRecDepth 4000 in
set_option maxHeartbeats 1000000 in
theorem boxRound_3 (u : TL) (b : B4) (p : P2) (hp : p.small) (k : Nat) (hk : p.y * 8 + p.x = k) (c : C4) (h : c ≠ u.get k) (h2 : mmB b p = wholeB) : DRound Try.prog 0 [p2D p, c4D c] [.lp 54 [(3, .loc 1 0), (6, .loc 2 0), (7, .loc 3 0)] #[17, 18] boxA boxB .ready none, .flat 25 (tc u), .flat 49 (b4 b), .flat 49 (b4 wholeB)] false [.lp 54 [(3, .loc 1 0), (6, .loc 2 0), (7, .loc 3 0)] #[17, 18] boxA boxB .done (some (.exit 0)), .flat 25 (tc u), .flat 49 (b4 (mmB b p)), .flat 49 (b4 wholeB)] := by
  obtain ⟨hp1, hp2⟩ := hp
  refine dround_go 4 rfl rfl (by simp) rfl rfl fun s0 hs0 => ?_
  refine dwp_seq ?_
  refine dwp_holes 1 (by simp only [holes, List.cons_append, List.nil_append]; exact rfl) ?_
  refine dwp_region ?_
  refine walk_w rfl rfl rfl (op_alloc 4 rfl zr30 rfl) (by simp only [upd, List.set_cons_zero, List.set_cons_succ]; exact rfl) ?_
  refine walk_s rfl rfl (op_stwa rfl tb30 (ev1 rfl) (ev1 rfl) rfl rfl rfl rfl) (by simp only [upd, List.set_cons_zero, List.set_cons_succ]; exact rfl) ?_
  refine walk_nil ?_
  refine dwp_holes 1 (by simp only [holes, List.cons_append, List.nil_append]; exact rfl) ?_
  refine dwp_region ?_
  refine walk_w rfl rfl rfl (op_alloc 5 rfl zr23 rfl) (by simp only [upd, List.set_cons_zero, List.set_cons_succ]; exact rfl) ?_
  refine walk_s rfl rfl (op_stwa rfl tb23 (ev1 rfl) (ev1 rfl) rfl rfl rfl rfl) (by simp only [upd, List.set_cons_zero, List.set_cons_succ]; exact rfl) ?_
  refine walk_nil ?_
  refine ⟨rfl, ?_⟩
  simp only [List.set_cons_zero, List.set_cons_succ]
  refine dwp_block ?_
  refine dwp_seq ?_
  refine dwp_seq ?_
  refine dwp_draw [([5], []), ([], []), ([4], []), ([], []), ([], []), ([4], []), ([], []), ([], []), ([1], []), ([], [])] mixed (by kernel_rfl) ?_
  refine lex_r rfl rfl (op_ldw rfl tb23 (ev1 rfl) rfl rfl) ?_
  refine lex_r rfl rfl (op_fa rfl fo30_1 (ev1 rfl)) ?_
  refine lex_r rfl rfl (op_ldo rfl tb3 (ev1 rfl) rfl rfl) ?_
  refine lex_r rfl rfl (op_mul' rfl (ev1 rfl) (ev1 rfl) (fun _ => IntWalk.i64_in _ (by omega))) ?_
  refine lex_r rfl rfl (op_fa rfl fo30_0 (ev1 rfl)) ?_
  refine lex_r rfl rfl (op_ldo rfl tb3 (ev1 rfl) rfl rfl) ?_
  refine lex_r rfl rfl (op_add' rfl (ev1 rfl) (ev1 rfl) (fun _ => IntWalk.i64_in _ (by omega))) ?_
  refine lex_r rfl rfl (op_ixfr (j := k) rfl ar25 (ev1 rfl) (ev1 rfl) (fun _ => by omega) (fun _ => by omega)) ?_
  refine lex_r rfl rfl (op_ldfr (zC4) rfl tb23 (ev1 rfl) rfl (fun _ => rfl) (fun _ => by rw [TL.h]; omega)) ?_
  refine lex_r rfl rfl (op_eqr eq23 rfl gd23 tb23 (ev1 rfl) (ev1 rfl)) ?_
  refine lex_nil ?_
  refine dwp_cond rfl (fun c1 => ?_) (fun c1 => ?_)
  · exact absurd (eqC_yes c1) h
  · refine dwp_skip ?_
    refine dwp_seq ?_
    refine dwp_region ?_
    refine walk_r rfl rfl rfl (op_fa rfl fo49_0 (ev1 rfl)) ?_
    refine walk_r rfl rfl rfl (op_ldo rfl tb3 (ev1 rfl) rfl rfl) ?_
    refine walk_r rfl rfl rfl (op_fa rfl fo30_0 (ev1 rfl)) ?_
    refine walk_r rfl rfl rfl (op_ldo rfl tb3 (ev1 rfl) rfl rfl) ?_
    refine walk_r rfl rfl rfl (op_min rfl (ev1 rfl) (ev1 rfl)) ?_
    refine walk_r rfl rfl rfl (op_fa rfl fo49_1 (ev1 rfl)) ?_
    refine walk_r rfl rfl rfl (op_ldo rfl tb3 (ev1 rfl) rfl rfl) ?_
    refine walk_r rfl rfl rfl (op_fa rfl fo30_1 (ev1 rfl)) ?_
    refine walk_r rfl rfl rfl (op_ldo rfl tb3 (ev1 rfl) rfl rfl) ?_
    refine walk_r rfl rfl rfl (op_min rfl (ev1 rfl) (ev1 rfl)) ?_
    refine walk_r rfl rfl rfl (op_fa rfl fo49_2 (ev1 rfl)) ?_
    refine walk_r rfl rfl rfl (op_ldo rfl tb3 (ev1 rfl) rfl rfl) ?_
    refine walk_r rfl rfl rfl (op_fa rfl fo30_0 (ev1 rfl)) ?_
    refine walk_r rfl rfl rfl (op_ldo rfl tb3 (ev1 rfl) rfl rfl) ?_
    refine walk_r rfl rfl rfl (op_max rfl (ev1 rfl) (ev1 rfl)) ?_
    refine walk_r rfl rfl rfl (op_fa rfl fo49_3 (ev1 rfl)) ?_
    refine walk_r rfl rfl rfl (op_ldo rfl tb3 (ev1 rfl) rfl rfl) ?_
    refine walk_r rfl rfl rfl (op_fa rfl fo30_1 (ev1 rfl)) ?_
    refine walk_r rfl rfl rfl (op_ldo rfl tb3 (ev1 rfl) rfl rfl) ?_
    refine walk_r rfl rfl rfl (op_max rfl (ev1 rfl) (ev1 rfl)) ?_
    refine walk_r rfl rfl rfl (op_build (ps := [(0, .tmp 33), (1, .tmp 38), (2, .tmp 43), (3, .tmp 48)]) rfl fl49 zr49 (vc (ev1 rfl) (vc (ev1 rfl) (vc (ev1 rfl) (vc (ev1 rfl) vn)))) rfl rfl) ?_
    refine walk_s rfl rfl (op_stwa rfl tb49 (ev1 rfl) (ev1 rfl) rfl rfl rfl rfl) (by simp only [upd, List.set_cons_zero, List.set_cons_succ]; exact rfl) ?_
    refine walk_nil ?_
    refine dwp_seq ?_
    refine dwp_region ?_
    refine walk_r rfl rfl rfl (op_ldw rfl tb49 (ev1 rfl) rfl rfl) ?_
    refine walk_r rfl rfl rfl (op_ldw rfl tb49 (ev1 rfl) rfl rfl) ?_
    refine walk_r rfl rfl rfl (op_eqr eq49 rfl gd49 tb49 (ev1 rfl) (ev1 rfl)) ?_
    refine walk_nil ?_
    refine dwp_cond rfl (fun c2 => ?_) (fun c2 => ?_)
    · refine dwp_exit ?_
      refine ⟨by first | rfl | assumption | simp_all, rfl, [0, 1, 2, 3], rfl, ⟨rfl, rfl, rfl, rfl, trivial⟩⟩
    · exact absurd h2 (eqB_no (a := mmB b p) (b := wholeB) c2)

theorem boxRound (u : TL) (b : B4) (p : P2) (hp : p.small) (k : Nat) (hk : p.y * 8 + p.x = k) (c : C4) : DRound Try.prog 0 [p2D p, c4D c] [.lp 54 [(3, .loc 1 0), (6, .loc 2 0), (7, .loc 3 0)] #[17, 18] boxA boxB .ready none, .flat 25 (tc u), .flat 49 (b4 b), .flat 49 (b4 wholeB)] (stopR u k b p c) [.lp 54 [(3, .loc 1 0), (6, .loc 2 0), (7, .loc 3 0)] #[17, 18] boxA boxB (rst (stopR u k b p c)) (rpe (.exit 0) (stopR u k b p c)), .flat 25 (tc u), .flat 49 (b4 (stepC u k b p c)), .flat 49 (b4 wholeB)] := by
  by_cases h : c = u.get k
  · have e : stopR u k b p c = true := by simp [stopR, h]
    rw [e, stepC, if_pos h]
    exact boxRound_1 u b p hp k hk c h
  · rw [stepC, if_neg h]
    by_cases h2 : mmB b p = wholeB
    · have e : stopR u k b p c = false := by simp [stopR, h, h2]
      rw [e]
      exact boxRound_3 u b p hp k hk c h h2
    · have e : stopR u k b p c = true := by simp [stopR, h2]
      rw [e]
      exact boxRound_2 u b p hp k hk c h h2

set_option maxRecDepth 4000 in
set_option maxHeartbeats 1000000 in
theorem px_box (T : TypeId) (t u : TL) : DFun Try.prog 49 [.yld 0, .loc 4 0] [.lp 54 [(3, .loc 1 0), (6, .loc 2 0), (7, .loc 3 0)] #[17, 18] boxA boxB .ready none, .flat 25 (tc u), .flat 49 (b4 startB), .flat 49 (b4 wholeB), .mix 71 [.loc 5 0], .flat T (tc t)] (.tup []) [.lp 54 [(3, .loc 1 0), (6, .loc 2 0), (7, .loc 3 0)] #[17, 18] boxA boxB (rst (goB t u 64)) (rpe (.exit 0) (goB t u 64)), .flat 25 (tc u), .flat 49 (b4 (boxK t u 64)), .flat 49 (b4 wholeB), .mix 71 [.loc 5 0], .flat T (tc t)] := by
  refine dcalls_go (N := 22) 6 (by kernel_rfl) Try.func49 rfl rfl rfl (by simp only [fr0, Nat.zero_add, Nat.reduceAdd]; exact rfl) rfl fun s0 hs0 => ?_
  refine dwp_seq ?_
  refine dwp_region ?_
  refine walk_r rfl rfl rfl (op_ldm rfl tb71 (ev1 rfl) rfl rfl) ?_
  refine walk_r rfl rfl rfl (op_move (.inl rfl) (ev1 rfl)) ?_
  refine walk_nil ?_
  refine dwp_block ?_
  refine dwp_loopS ⟨hs0, rfl⟩ (α := Nat) (fun k => [(6, .val (.int .i64 (k : Int)))]) [(0, _), (5, _)] (fun k => [(2, .flat 49 (b4 (boxK t u k)))]) [_, _, .hole, _, _, _] (fun k => k ≤ 64 ∧ goB t u k = true) (fun k => 64 - k) 0 [0, 1, 2, 3, 4, 5] (⟨by omega, rfl⟩) rfl ⟨rfl, rfl, trivial⟩ ⟨rfl, trivial⟩ ⟨rfl, rfl, rfl, rfl, rfl, rfl, trivial⟩ ?_
  intro k hx
  simp only [upd, List.set_cons_zero, List.set_cons_succ, List.cons_append, List.nil_append]
  obtain ⟨hk, hg⟩ := hx
  refine dwp_seq ?_
  refine dwp_region ?_
  refine walk_r rfl rfl rfl (op_lss rfl (ev1 rfl) (ev1 rfl)) ?_
  refine walk_nil ?_
  refine dwp_seq ?_
  refine dwp_cond rfl (fun c1 => ?_) (fun c1 => ?_)
  · try simp only [decide_eq_true_eq, decide_eq_false_iff_not, beq_iff_eq, bne_iff_ne, beq_eq_false_iff_ne, bne_eq_false_iff_eq, Bool.not_eq_true', Bool.not_eq_false', Bool.and_eq_true, Bool.or_eq_true, Bool.or_eq_false_iff, ne_eq, Decidable.not_not, Int.not_lt, Int.not_le] at c1
    refine dwp_skip ?_
    refine dwp_seq ?_
    refine dwp_block ?_
    refine dwp_seq ?_
    refine dwp_holes 1 (by simp only [holes, List.cons_append, List.nil_append]; exact rfl) ?_
    refine dwp_draw [([], []), ([], []), ([], []), ([5], []), ([6], [6]), ([], []), ([6], [6])] mixed (by kernel_rfl) ?_
    refine lex_r rfl rfl (op_move (.inl rfl) (ev1 rfl)) ?_
    refine lex_r rfl rfl (op_nc rfl (ev1 rfl) (fun s v h => by cases h; exact ⟨_, rfl⟩)) ?_
    refine lex_r rfl rfl (op_ixfr (j := k) rfl ar25 (ev1 rfl) (ev1 rfl) (fun _ => by omega) (fun _ => by omega)) ?_
    refine lex_r rfl rfl (op_ldfr (zC4) rfl tb23 (ev1 rfl) rfl (fun _ => rfl) (fun _ => by rw [TL.h]; omega)) ?_
    refine lex_w rfl rfl (op_alloc 6 rfl zr23 rfl) rfl (by simp only [upd, List.set_cons_zero, List.set_cons_succ]; exact rfl) ?_
    refine lex_r rfl rfl (op_move (.inr rfl) (ev1 rfl)) ?_
    refine lex_s rfl rfl (op_stwa rfl tb23 (ev1 rfl) (ev1 rfl) rfl rfl rfl rfl) rfl (by simp only [upd, List.set_cons_zero, List.set_cons_succ]; exact rfl) ?_
    refine lex_nil ?_
    refine dwp_seq ?_
    refine dwp_region ?_
    refine walk_r rfl rfl rfl (op_move (.inl rfl) (ev1 rfl)) ?_
    refine walk_r rfl rfl rfl (op_move (.inl rfl) (ev1 rfl)) ?_
    refine walk_r rfl rfl rfl (op_rem' rfl (ev1 rfl) (ev1 rfl) (fun _ => ⟨by omega, by omega⟩)) ?_
    refine walk_r rfl rfl rfl (op_move (.inl rfl) (ev1 rfl)) ?_
    refine walk_r rfl rfl rfl (op_quo' rfl (ev1 rfl) (ev1 rfl) (fun _ => ⟨by omega, by omega, IntWalk.i64_in _ (by omega)⟩)) ?_
    refine walk_r rfl rfl rfl (op_build (ps := [(0, .tmp 14), (1, .tmp 16)]) rfl fl30 zr30 (vc (ev1 rfl) (vc (ev1 rfl) vn)) rfl rfl) ?_
    refine walk_r rfl rfl rfl (op_ldw rfl tb23 (ev1 rfl) rfl rfl) ?_
    refine walk_w rfl rfl rfl (op_y (i := 0) [0, 1, 2, 3] [] [] rfl (ev1 rfl) (ec (ev1 rfl) (ec (ev1 rfl) en)) rfl rfl rfl (boxRound u (boxK t u k) ⟨(k : Int) % 8, (k : Int) / 8⟩ (by constructor <;> dsimp only <;> omega) k (by dsimp only; omega) _) rfl rfl rfl rfl rfl) (by simp only [upd, List.set_cons_zero, List.set_cons_succ]; exact rfl) ?_
    refine walk_r rfl rfl rfl (op_not rfl (ev1 rfl)) ?_
    refine walk_nil ?_
    refine dwp_cond rfl (fun c2 => ?_) (fun c2 => ?_)
    · replace c2 := bn_t c2
      refine dwp_ret ?_
      have e1 : goB t u (k + 1) = false := by rw [goB, hg, show t.get k = t.l.getD k zC4 from rfl, c2]; rfl
      have e2 : goB t u 64 = false := by
        have := goB_no e1 (64 - (k + 1))
        rwa [show k + 1 + (64 - (k + 1)) = 64 by omega] at this
      have e3 : boxK t u 64 = boxK t u (k + 1) := by
        have h1 : boxK t u (k + 1) = wholeB := stop_yes c2
        have := boxK_whole h1 (64 - (k + 1)) (by omega)
        rw [show k + 1 + (64 - (k + 1)) = 64 by omega] at this
        rw [this, h1]
      rw [e2, e3, c2]
      refine kend [0, 1, 2, 3, 4, 5] (res_none rfl) rfl rfl ?_ ⟨rfl, rfl, rfl, rfl, rfl, rfl, trivial⟩
      rfl
    · replace c2 := bn_f c2
      refine dwp_skip ?_
      refine dwp_region ?_
      refine walk_r rfl rfl rfl (op_add' rfl (ev1 rfl) (ev1 rfl) (fun _ => IntWalk.i64_in _ (by omega))) ?_
      refine walk_r rfl rfl rfl (op_move (.inl rfl) (ev1 rfl)) ?_
      refine walk_nil ?_
      have e2 : goB t u (k + 1) = true := by rw [goB, hg, show t.get k = t.l.getD k zC4 from rfl, c2]; rfl
      rw [c2]
      refine ⟨k + 1, [0, 1, 2, 3, 4, 5], ⟨by omega, e2⟩, by simp only []; omega, rfl, ⟨rfl, rfl, rfl, trivial⟩, ⟨rfl, rfl, rfl, rfl, rfl, rfl, trivial⟩⟩
  · try simp only [decide_eq_true_eq, decide_eq_false_iff_not, beq_iff_eq, bne_iff_ne, beq_eq_false_iff_ne, bne_eq_false_iff_eq, Bool.not_eq_true', Bool.not_eq_false', Bool.and_eq_true, Bool.or_eq_true, Bool.or_eq_false_iff, ne_eq, Decidable.not_not, Int.not_lt, Int.not_le] at c1
    refine dwp_exit ?_
    obtain rfl : k = 64 := by omega
    rw [hg]
    refine kend [0, 1, 2, 3, 4, 5] (res_none rfl) rfl rfl ?_ ⟨rfl, rfl, rfl, rfl, rfl, rfl, trivial⟩
    rfl

set_option maxRecDepth 4000 in
set_option maxHeartbeats 1000000 in
theorem box_d (t u : TL) : DFun Try.prog 26 [tD t, tD u] [] (.tup [b4D (boxT t u).1, .val (.bool (boxT t u).2)]) [] := by
  refine dcalls_go (N := 54) 0 (by kernel_rfl) Try.func26 rfl rfl rfl (by simp only [fr0, Nat.zero_add, Nat.reduceAdd]; exact rfl) rfl fun s0 hs0 => ?_
  refine dwp_seq ?_
  refine dwp_holes 3 (by simp only [holes, List.cons_append, List.nil_append]; exact rfl) ?_
  refine dwp_region ?_
  refine walk_w rfl rfl rfl (op_boxa 0 rfl (ev1 rfl) rfl) (by simp only [upd, List.set_cons_zero, List.set_cons_succ]; exact rfl) ?_
  refine walk_w rfl rfl rfl (op_boxa 1 rfl (ev1 rfl) rfl) (by simp only [upd, List.set_cons_zero, List.set_cons_succ]; exact rfl) ?_
  refine walk_w rfl rfl rfl (op_alloc 2 rfl zr49 rfl) (by simp only [upd, List.set_cons_zero, List.set_cons_succ]; exact rfl) ?_
  refine walk_r rfl rfl rfl (op_move (.inr rfl) (ev1 rfl)) ?_
  refine walk_nil ?_
  refine dwp_scope ?_
  refine dwp_seq ?_
  refine dwp_seq ?_
  refine dwp_region ?_
  refine walk_r rfl rfl rfl (op_ldw rfl tb25 (ev1 rfl) rfl (tc_len _)) ?_
  refine walk_r rfl rfl rfl (op_ldw rfl tb25 (ev1 rfl) rfl (tc_len _)) ?_
  refine walk_r rfl rfl rfl (op_eqr eq25 rfl gd25 tb25 (ev1 rfl) (ev1 rfl)) ?_
  refine walk_nil ?_
  refine dwp_cond rfl (fun c1 => ?_) (fun c1 => ?_)
  · try simp only [decide_eq_true_eq, decide_eq_false_iff_not, beq_iff_eq, bne_iff_ne, beq_eq_false_iff_ne, bne_eq_false_iff_eq, Bool.not_eq_true', Bool.not_eq_false', Bool.and_eq_true, Bool.or_eq_true, Bool.or_eq_false_iff, ne_eq, Decidable.not_not, Int.not_lt, Int.not_le] at c1
    refine dwp_seq ?_
    refine dwp_region ?_
    refine walk_r rfl rfl rfl (op_build0 rfl fl49 zr49) ?_
    refine walk_s rfl rfl (op_stwa rfl tb49 (ev1 rfl) (ev1 rfl) rfl rfl rfl rfl) (by simp only [upd, List.set_cons_zero, List.set_cons_succ]; exact rfl) ?_
    refine walk_r rfl rfl rfl (op_move (.inr rfl) (ev1 rfl)) ?_
    refine walk_nil ?_
    refine dwp_ret ?_
    refine kend0 (rs2 rfl (rv_w tb49 rfl rfl rfl) (rv_t rfl)) rfl ?_
    rw [boxT, if_pos c1]; rfl
  · try simp only [decide_eq_true_eq, decide_eq_false_iff_not, beq_iff_eq, bne_iff_ne, beq_eq_false_iff_ne, bne_eq_false_iff_eq, Bool.not_eq_true', Bool.not_eq_false', Bool.and_eq_true, Bool.or_eq_true, Bool.or_eq_false_iff, ne_eq, Decidable.not_not, Int.not_lt, Int.not_le] at c1
    refine dwp_skip ?_
    refine dwp_seq ?_
    refine dwp_holes 2 (by simp only [holes, List.cons_append, List.nil_append]; exact rfl) ?_
    refine dwp_region ?_
    refine walk_r rfl rfl rfl (op_build (ps := [(0, .const (.int .i64 7)), (1, .const (.int .i64 7))]) rfl fl49 zr49 (vc (ev1 rfl) (vc (ev1 rfl) vn)) rfl rfl) ?_
    refine walk_r rfl rfl rfl (op_build (ps := [(2, .const (.int .i64 7)), (3, .const (.int .i64 7))]) rfl fl49 zr49 (vc (ev1 rfl) (vc (ev1 rfl) vn)) rfl rfl) ?_
    refine walk_w rfl rfl rfl (op_alloc 3 rfl zr49 rfl) (by simp only [upd, List.set_cons_zero, List.set_cons_succ]; exact rfl) ?_
    refine walk_w rfl rfl rfl (op_alloc 4 rfl zr49 rfl) (by simp only [upd, List.set_cons_zero, List.set_cons_succ]; exact rfl) ?_
    refine walk_s rfl rfl (op_stwa rfl tb49 (ev1 rfl) (ev1 rfl) rfl rfl rfl rfl) (by simp only [upd, List.set_cons_zero, List.set_cons_succ]; exact rfl) ?_
    refine walk_s rfl rfl (op_stwa rfl tb49 (ev1 rfl) (ev1 rfl) rfl rfl rfl rfl) (by simp only [upd, List.set_cons_zero, List.set_cons_succ]; exact rfl) ?_
    refine walk_nil ?_
    refine dwp_seq ?_
    refine dwp_label ?_
    refine dwp_seq ?_
    refine dwp_seq ?_
    refine dwp_holes 1 (by simp only [holes, List.cons_append, List.nil_append]; exact rfl) ?_
    refine dwp_region ?_
    refine walk_w rfl rfl rfl (dop_call [0] [] [5] rfl (ev1 rfl) (ec (ev1 rfl) en) rfl rfl (pixels_d _ _) rfl rfl rfl rfl rfl rfl) (by simp only [upd, List.set_cons_zero, List.set_cons_succ]; exact rfl) ?_
    refine walk_nil ?_
    refine dwp_block ?_
    refine dwp_hole ?_
    simp only [List.cons_append, List.nil_append]
    refine dwp_rf (FL := [(3, _), (6, _), (7, _)]) (st := (rst (goB t u 64))) (pe := (rpe (.exit 0) (goB t u 64))) [6, 1, 3, 4, 5, 0] [] [] 6 rfl rfl (ev1 rfl) rfl (subF_lk ⟨rfl, rfl, rfl, trivial⟩) rfl rfl rfl (px_box _ t u) rfl rfl rfl rfl rfl rfl rfl (rst_busy _) (fun e => ?_) (fun c e => ?_)
    · simp only [upd, List.set_cons_zero, List.set_cons_succ]
      refine dwp_seq ?_
      refine dwp_region ?_
      refine walk_r rfl rfl rfl (op_ldw rfl tb49 (ev1 rfl) rfl rfl) ?_
      refine walk_s rfl rfl (op_stwa rfl tb49 (ev1 rfl) (ev1 rfl) rfl rfl rfl rfl) (by simp only [upd, List.set_cons_zero, List.set_cons_succ]; exact rfl) ?_
      refine walk_r rfl rfl rfl (op_move (.inr rfl) (ev1 rfl)) ?_
      refine walk_nil ?_
      refine dwp_ret ?_
      refine kend0 (rs2 rfl (rv_w tb49 rfl rfl rfl) (rv_t rfl)) rfl ?_
      rw [boxT, if_neg c1]; rfl
    · obtain ⟨e1, rfl⟩ : goB t u 64 = false ∧ c = .exit 0 := by
        cases h : goB t u 64 <;> simp_all [rpe]
      simp only [upd, List.set_cons_zero, List.set_cons_succ]
      refine dwp_exit ?_
      refine dwp_seq ?_
      refine dwp_region ?_
      refine walk_r rfl rfl rfl (op_ldw rfl tb49 (ev1 rfl) rfl rfl) ?_
      refine walk_s rfl rfl (op_stwa rfl tb49 (ev1 rfl) (ev1 rfl) rfl rfl rfl rfl) (by simp only [upd, List.set_cons_zero, List.set_cons_succ]; exact rfl) ?_
      refine walk_r rfl rfl rfl (op_move (.inr rfl) (ev1 rfl)) ?_
      refine walk_nil ?_
      refine dwp_ret ?_
      refine kend0 (rs2 rfl (rv_w tb49 rfl rfl rfl) (rv_t rfl)) rfl ?_
      rw [boxT, if_neg c1]; rfl

end Go.Proofs.Ythagnobjbpmneaa
