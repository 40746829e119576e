/- colours of a tile, told pixel by pixel -/
import Derived.Test.YthagnobjbpmneaaTg
namespace Go.Proofs.Ythagnobjbpmneaa
set_option linter.unusedVariables false
set_option linter.unusedSimpArgs false
open Go.RowKit

noncomputable def colA : Code := rfA (pth [1, 1, 1, 0, 1, 0] (bodyOf Try.f20))
noncomputable def colB : Code := rfB (pth [1, 1, 1, 0, 1, 0] (bodyOf Try.f20))

set_option maxRecDepth 4000 in
set_option maxHeartbeats 1000000 in
theorem colRound_new (m : List (C4 × Int)) (s : List C4) (p : P2) (c : C4) (h0 : getM c m = 0) (hs : s.length ≤ 64) : DRound Try.prog 0 [p2D p, c4D c] [.lp 26 [(3, .loc 1 0), (4, .loc 3 0)] #[9, 10] colA colB .ready none, .mix 67 [.hnd 2], .obj (mapO c4 (m)), .mix 43 [.arr 4], .arr 23 4 (s).length ((s).flatMap c4)] true [.lp 26 [(3, .loc 1 0), (4, .loc 3 0)] #[9, 10] colA colB .ready none, .mix 67 [.hnd 2], .obj (mapO c4 (setM c (getM c m + 1) m)), .mix 43 [.arr 5], .gone, .arr 23 4 (s ++ [c]).length ((s ++ [c]).flatMap c4)] := by
  refine dround_go 5 rfl rfl (by simp) rfl rfl fun s0 hs0 => ?_
  refine dwp_holes 1 (by simp only [holes, List.cons_append, List.nil_append]; exact rfl) ?_
  refine dwp_region ?_
  refine walk_w rfl rfl rfl (op_alloc 5 rfl zr23 rfl) (by simp only [upd, List.set_cons_zero, List.set_cons_succ]; exact rfl) ?_
  refine walk_s rfl rfl (op_stwa rfl tb23 (ev1 rfl) (ev1 rfl) rfl rfl rfl rfl) (by simp only [upd, List.set_cons_zero, List.set_cons_succ]; exact rfl) ?_
  refine walk_nil ?_
  refine ⟨rfl, ?_⟩
  simp only [List.set_cons_zero, List.set_cons_succ]
  refine dwp_block ?_
  refine dwp_seq ?_
  refine dwp_draw2 2 4 [2] [.hole, .hole, .obj (mapO c4 (setM c (getM c (m)) (m)))] [([1], []), ([5], []), ([2], []), ([], []), ([2], [2]), ([], []), ([2], [2])] mixed (by kernel_rfl) ?_
  refine lexS_r rfl rfl rfl (op_ldm rfl tb67 (ev1 rfl) rfl rfl) ?_
  refine lexS_r rfl rfl rfl (op_ldw rfl tb23 (ev1 rfl) rfl rfl) ?_
  refine lexS_i rfl rfl rfl rfl (op_lkp mp67 zv3 keyC rfl (ev1 rfl) (ev1 rfl) rfl) (op_lkp2 mp67 zv3 keyC rfl (ev1 rfl) (ev1 rfl) rfl) ?_
  refine lexS_r rfl rfl rfl (op_add' rfl (ev1 rfl) (ev1 rfl) (fun _ => IntWalk.i64_in _ (by omega))) ?_
  refine lexS_j rfl rfl rfl (op_men2 mp67 zv3 keyC rfl (ev1 rfl) (ev1 rfl) rfl) rfl (by simp only [upd, List.set_cons_zero, List.set_cons_succ]; exact rfl) (by simp only [List.mem_cons, List.not_mem_nil, or_false]; rintro x rfl; rfl) ?_
  refine lexS_r rfl rfl rfl (op_ext rfl (ev1 rfl) rfl) ?_
  refine lexS_s rfl rfl rfl (op_est2 (k := c) rfl (ev1 rfl) (ev1 rfl) (ev1 rfl) rfl) rfl (by simp only [upd, List.set_cons_zero, List.set_cons_succ]; exact rfl) ?_
  refine lexS_nil ?_
  refine dwp_seq ?_
  refine dwp_region ?_
  refine walk_r rfl rfl rfl (op_ldm rfl tb67 (ev1 rfl) rfl rfl) ?_
  refine walk_r rfl rfl rfl (op_ldw rfl tb23 (ev1 rfl) rfl rfl) ?_
  refine walk_r rfl rfl rfl (op_lkp mp67 zv3 keyC rfl (ev1 rfl) (ev1 rfl) rfl) ?_
  refine walk_r rfl rfl rfl (op_eql rfl (ev1 rfl) (ev1 rfl)) ?_
  refine walk_nil ?_
  refine dwp_cond rfl (fun c1 => ?_) (fun c1 => ?_)
  · refine dwp_holes 1 (by simp only [holes, List.cons_append, List.nil_append]; exact rfl) ?_
    refine dwp_region ?_
    refine walk_r rfl rfl rfl (op_ldm rfl tb43 (ev1 rfl) rfl rfl) ?_
    refine walk_r rfl rfl rfl (op_ldw rfl tb23 (ev1 rfl) rfl rfl) ?_
    refine walk_r rfl rfl rfl (op_bs (ps := [(0, .tmp 22)]) rfl sl43 zr23 rfl (vc (ev1 rfl) vn) rfl (by decide) (by decide)) ?_
    refine walk_w rfl rfl rfl (op_app (j := 6) rfl sl43 zr23 rfl (ev1 rfl) (ev1 rfl) src_slf rfl rfl (fun _ => rfl) (fun _ => ⟨by omega, by omega⟩)) (by simp only [upd, List.set_cons_zero, List.set_cons_succ]; exact rfl) ?_
    refine walk_s rfl rfl (op_stm rfl tb43 (ev1 rfl) (ev1 rfl) (fun s v h => by cases h <;> exact ⟨rfl, rfl⟩) rfl (by decide)) (by simp only [upd, List.set_cons_zero, List.set_cons_succ]; exact rfl) ?_
    refine walk_nil ?_
    refine ⟨rfl, rfl, [0, 1, 2, 3, 4, 6], rfl, ⟨rfl, rfl, rfl, rfl, rfl, arr_eq (by simp) (by simp [Value.cells, c4]), trivial⟩⟩
  · exact absurd c1 (by rw [getM_set, if_pos rfl, h0]; decide)

set_option maxRecDepth 4000 in
set_option maxHeartbeats 1000000 in
theorem colRound_old (m : List (C4 × Int)) (s : List C4) (p : P2) (c : C4) (h0 : 0 < getM c m) (h1 : getM c m ≤ 64) : DRound Try.prog 0 [p2D p, c4D c] [.lp 26 [(3, .loc 1 0), (4, .loc 3 0)] #[9, 10] colA colB .ready none, .mix 67 [.hnd 2], .obj (mapO c4 (m)), .mix 43 [.arr 4], .arr 23 4 (s).length ((s).flatMap c4)] true [.lp 26 [(3, .loc 1 0), (4, .loc 3 0)] #[9, 10] colA colB .ready none, .mix 67 [.hnd 2], .obj (mapO c4 (setM c (getM c m + 1) m)), .mix 43 [.arr 4], .arr 23 4 (s).length ((s).flatMap c4)] := by
  refine dround_go 5 rfl rfl (by simp) rfl rfl fun s0 hs0 => ?_
  refine dwp_holes 1 (by simp only [holes, List.cons_append, List.nil_append]; exact rfl) ?_
  refine dwp_region ?_
  refine walk_w rfl rfl rfl (op_alloc 5 rfl zr23 rfl) (by simp only [upd, List.set_cons_zero, List.set_cons_succ]; exact rfl) ?_
  refine walk_s rfl rfl (op_stwa rfl tb23 (ev1 rfl) (ev1 rfl) rfl rfl rfl rfl) (by simp only [upd, List.set_cons_zero, List.set_cons_succ]; exact rfl) ?_
  refine walk_nil ?_
  refine ⟨rfl, ?_⟩
  simp only [List.set_cons_zero, List.set_cons_succ]
  refine dwp_block ?_
  refine dwp_seq ?_
  refine dwp_draw2 2 4 [2] [.hole, .hole, .obj (mapO c4 (setM c (getM c (m)) (m)))] [([1], []), ([5], []), ([2], []), ([], []), ([2], [2]), ([], []), ([2], [2])] mixed (by kernel_rfl) ?_
  refine lexS_r rfl rfl rfl (op_ldm rfl tb67 (ev1 rfl) rfl rfl) ?_
  refine lexS_r rfl rfl rfl (op_ldw rfl tb23 (ev1 rfl) rfl rfl) ?_
  refine lexS_i rfl rfl rfl rfl (op_lkp mp67 zv3 keyC rfl (ev1 rfl) (ev1 rfl) rfl) (op_lkp2 mp67 zv3 keyC rfl (ev1 rfl) (ev1 rfl) rfl) ?_
  refine lexS_r rfl rfl rfl (op_add' rfl (ev1 rfl) (ev1 rfl) (fun _ => IntWalk.i64_in _ (by omega))) ?_
  refine lexS_j rfl rfl rfl (op_men2 mp67 zv3 keyC rfl (ev1 rfl) (ev1 rfl) rfl) rfl (by simp only [upd, List.set_cons_zero, List.set_cons_succ]; exact rfl) (by simp only [List.mem_cons, List.not_mem_nil, or_false]; rintro x rfl; rfl) ?_
  refine lexS_r rfl rfl rfl (op_ext rfl (ev1 rfl) rfl) ?_
  refine lexS_s rfl rfl rfl (op_est2 (k := c) rfl (ev1 rfl) (ev1 rfl) (ev1 rfl) rfl) rfl (by simp only [upd, List.set_cons_zero, List.set_cons_succ]; exact rfl) ?_
  refine lexS_nil ?_
  refine dwp_seq ?_
  refine dwp_region ?_
  refine walk_r rfl rfl rfl (op_ldm rfl tb67 (ev1 rfl) rfl rfl) ?_
  refine walk_r rfl rfl rfl (op_ldw rfl tb23 (ev1 rfl) rfl rfl) ?_
  refine walk_r rfl rfl rfl (op_lkp mp67 zv3 keyC rfl (ev1 rfl) (ev1 rfl) rfl) ?_
  refine walk_r rfl rfl rfl (op_eql rfl (ev1 rfl) (ev1 rfl)) ?_
  refine walk_nil ?_
  refine dwp_cond rfl (fun c1 => ?_) (fun c1 => ?_)
  · exact absurd c1 (by rw [getM_set, if_pos rfl]; simp; omega)
  · refine dwp_skip ?_
    refine ⟨rfl, rfl, [0, 1, 2, 3, 4], rfl, ⟨rfl, rfl, rfl, rfl, rfl, trivial⟩⟩

set_option maxRecDepth 4000 in
set_option maxHeartbeats 1000000 in
theorem px_col (T : TypeId) (t : TL) : DFun Try.prog 49 [.yld 0, .loc 5 0] [.lp 26 [(3, .loc 1 0), (4, .loc 3 0)] #[9, 10] colA colB .ready none, .mix 67 [.hnd 2], .obj (mapO c4 ([])), .mix 43 [.arr 4], .arr 23 4 (([] : List C4)).length ((([] : List C4)).flatMap c4), .mix 71 [.loc 6 0], .flat T (tc t)] (.tup []) [.lp 26 [(3, .loc 1 0), (4, .loc 3 0)] #[9, 10] colA colB .ready none, .mix 67 [.hnd 2], .obj (mapO c4 (metL t.l)), .mix 43 [.arr 7], .gone, .mix 71 [.loc 6 0], .flat T (tc t), .arr 23 4 (colsL t.l).length ((colsL t.l).flatMap c4)] := by
  refine dcalls_go (N := 22) 7 (by kernel_rfl) Try.func49 rfl rfl rfl (by simp only [fr0, Nat.zero_add, Nat.reduceAdd]; exact rfl) rfl fun s0 hs0 => ?_
  refine dwp_seq ?_
  refine dwp_region ?_
  refine walk_r rfl rfl rfl (op_ldm rfl tb71 (ev1 rfl) rfl rfl) ?_
  refine walk_r rfl rfl rfl (op_move (.inl rfl) (ev1 rfl)) ?_
  refine walk_nil ?_
  refine dwp_block ?_
  refine dwp_dloop (dloop_step ?_)
  refine dwp_seq ?_
  refine dwp_region ?_
  refine walk_r rfl rfl rfl (op_lss rfl (ev1 rfl) (ev1 rfl)) ?_
  refine walk_nil ?_
  refine dwp_seq ?_
  refine dwp_if_t rfl (rfl) ?_
  refine dwp_skip ?_
  refine dwp_seq ?_
  refine dwp_block ?_
  refine dwp_seq ?_
  refine dwp_holes 1 (by simp only [holes, List.cons_append, List.nil_append]; exact rfl) ?_
  refine dwp_draw [([], []), ([], []), ([], []), ([6], []), ([7], [7]), ([], []), ([7], [7])] mixed (by kernel_rfl) ?_
  refine lex_r rfl rfl (op_move (.inl rfl) (ev1 rfl)) ?_
  refine lex_r rfl rfl (op_nc rfl (ev1 rfl) (fun s v h => by cases h; exact ⟨_, rfl⟩)) ?_
  refine lex_r rfl rfl (op_ixfr (j := 0) rfl ar25 (ev1 rfl) (ev1 rfl) (fun _ => by omega) (fun _ => by omega)) ?_
  refine lex_r rfl rfl (op_ldfr (zC4) rfl tb23 (ev1 rfl) rfl (fun _ => rfl) (fun _ => by rw [TL.h]; omega)) ?_
  refine lex_w rfl rfl (op_alloc 7 rfl zr23 rfl) rfl (by simp only [upd, List.set_cons_zero, List.set_cons_succ]; exact rfl) ?_
  refine lex_r rfl rfl (op_move (.inr rfl) (ev1 rfl)) ?_
  refine lex_s rfl rfl (op_stwa rfl tb23 (ev1 rfl) (ev1 rfl) rfl rfl rfl rfl) rfl (by simp only [upd, List.set_cons_zero, List.set_cons_succ]; exact rfl) ?_
  refine lex_nil ?_
  refine dwp_seq ?_
  refine dwp_holes 1 (by simp only [holes, List.cons_append, List.nil_append]; exact rfl) ?_
  refine dwp_region ?_
  refine walk_r rfl rfl rfl (op_move (.inl rfl) (ev1 rfl)) ?_
  refine walk_r rfl rfl rfl (op_move (.inl rfl) (ev1 rfl)) ?_
  refine walk_r rfl rfl rfl (op_rem' rfl (ev1 rfl) (ev1 rfl) (fun _ => ⟨by omega, by omega⟩)) ?_
  refine walk_r rfl rfl rfl (op_move (.inl rfl) (ev1 rfl)) ?_
  refine walk_r rfl rfl rfl (op_quo' rfl (ev1 rfl) (ev1 rfl) (fun _ => ⟨by omega, by omega, IntWalk.i64_in _ (by omega)⟩)) ?_
  refine walk_r rfl rfl rfl (op_build (ps := [(0, .tmp 14), (1, .tmp 16)]) rfl fl30 zr30 (vc (ev1 rfl) (vc (ev1 rfl) vn)) rfl rfl) ?_
  refine walk_r rfl rfl rfl (op_ldw rfl tb23 (ev1 rfl) rfl rfl) ?_
  refine walk_w rfl rfl rfl (op_y (i := 0) [0, 1, 2, 3, 4] [] [8] rfl (ev1 rfl) (ec (ev1 rfl) (ec (ev1 rfl) en)) rfl rfl rfl (colRound_new [] [] ⟨(0 : Int) % 8, (0 : Int) / 8⟩ _ rfl (by simp)) rfl rfl rfl rfl rfl) (by simp only [upd, List.set_cons_zero, List.set_cons_succ]; exact rfl) ?_
  refine walk_r rfl rfl rfl (op_not rfl (ev1 rfl)) ?_
  refine walk_nil ?_
  refine dwp_if_f rfl (rfl) ?_
  refine dwp_skip ?_
  refine dwp_region ?_
  refine walk_r rfl rfl rfl (op_add' rfl (ev1 rfl) (ev1 rfl) (fun _ => IntWalk.i64_in _ (by omega))) ?_
  refine walk_r rfl rfl rfl (op_move (.inl rfl) (ev1 rfl)) ?_
  refine walk_nil ?_
  refine dloopS ⟨hs0, rfl⟩ (α := Nat) (fun k => [(6, .val (.int .i64 (k : Int)))]) [(0, _), (5, _)] (fun k => [(2, .obj (mapO c4 (metL (t.l.take k)))), (7, .arr 23 4 (colsL (t.l.take k)).length ((colsL (t.l.take k)).flatMap c4))]) [_, _, .hole, _, _, _, _, .hole] (fun k => 1 ≤ k ∧ k ≤ 64) (fun k => 64 - k) 1 [0, 1, 2, 3, 4, 5, 6, 8] (by simp) rfl ⟨rfl, rfl, trivial⟩ ⟨rfl, trivial⟩ ⟨rfl, rfl, by rw [take1 t]; rfl, rfl, rfl, rfl, rfl, by rw [take1 t]; rfl, trivial⟩ ?_
  intro k hx
  simp only [upd, List.set_cons_zero, List.set_cons_succ, List.cons_append, List.nil_append]
  obtain ⟨hk1, hk⟩ := hx
  have hmc := met_cols (t.l.take k) (t.l.getD k zC4)
  have hcl := cols_len (t.l.take k)
  rw [List.length_take, t.h] at hcl hmc
  refine dwp_seq ?_
  refine dwp_region ?_
  refine walk_r rfl rfl rfl (op_lss rfl (ev1 rfl) (ev1 rfl)) ?_
  refine walk_nil ?_
  refine dwp_seq ?_
  refine dwp_cond rfl (fun c3 => ?_) (fun c3 => ?_)
  · try simp only [decide_eq_true_eq, decide_eq_false_iff_not, beq_iff_eq, bne_iff_ne, beq_eq_false_iff_ne, bne_eq_false_iff_eq, Bool.not_eq_true', Bool.not_eq_false', Bool.and_eq_true, Bool.or_eq_true, Bool.or_eq_false_iff, ne_eq, Decidable.not_not, Int.not_lt, Int.not_le] at c3
    refine dwp_skip ?_
    refine dwp_seq ?_
    refine dwp_block ?_
    refine dwp_seq ?_
    refine dwp_holes 1 (by simp only [holes, List.cons_append, List.nil_append]; exact rfl) ?_
    refine dwp_draw [([], []), ([], []), ([], []), ([6], []), ([8], [8]), ([], []), ([8], [8])] mixed (by kernel_rfl) ?_
    refine lex_r rfl rfl (op_move (.inl rfl) (ev1 rfl)) ?_
    refine lex_r rfl rfl (op_nc rfl (ev1 rfl) (fun s v h => by cases h; exact ⟨_, rfl⟩)) ?_
    refine lex_r rfl rfl (op_ixfr (j := k) rfl ar25 (ev1 rfl) (ev1 rfl) (fun _ => by omega) (fun _ => by omega)) ?_
    refine lex_r rfl rfl (op_ldfr (zC4) rfl tb23 (ev1 rfl) rfl (fun _ => rfl) (fun _ => by rw [TL.h]; omega)) ?_
    refine lex_w rfl rfl (op_alloc 8 rfl zr23 rfl) rfl (by simp only [upd, List.set_cons_zero, List.set_cons_succ]; exact rfl) ?_
    refine lex_r rfl rfl (op_move (.inr rfl) (ev1 rfl)) ?_
    refine lex_s rfl rfl (op_stwa rfl tb23 (ev1 rfl) (ev1 rfl) rfl rfl rfl rfl) rfl (by simp only [upd, List.set_cons_zero, List.set_cons_succ]; exact rfl) ?_
    refine lex_nil ?_
    refine dwp_seq ?_
    by_cases hs : 0 < getM (t.l.getD k zC4) (metL (t.l.take k))
    · refine dwp_region ?_
      refine walk_r rfl rfl rfl (op_move (.inl rfl) (ev1 rfl)) ?_
      refine walk_r rfl rfl rfl (op_move (.inl rfl) (ev1 rfl)) ?_
      refine walk_r rfl rfl rfl (op_rem' rfl (ev1 rfl) (ev1 rfl) (fun _ => ⟨by omega, by omega⟩)) ?_
      refine walk_r rfl rfl rfl (op_move (.inl rfl) (ev1 rfl)) ?_
      refine walk_r rfl rfl rfl (op_quo' rfl (ev1 rfl) (ev1 rfl) (fun _ => ⟨by omega, by omega, IntWalk.i64_in _ (by omega)⟩)) ?_
      refine walk_r rfl rfl rfl (op_build (ps := [(0, .tmp 14), (1, .tmp 16)]) rfl fl30 zr30 (vc (ev1 rfl) (vc (ev1 rfl) vn)) rfl rfl) ?_
      refine walk_r rfl rfl rfl (op_ldw rfl tb23 (ev1 rfl) rfl rfl) ?_
      refine walk_w rfl rfl rfl (op_y (i := 0) [0, 1, 2, 3, 7] [] [] rfl (ev1 rfl) (ec (ev1 rfl) (ec (ev1 rfl) en)) rfl rfl rfl (colRound_old _ _ ⟨(k : Int) % 8, (k : Int) / 8⟩ _ hs (by omega)) rfl rfl rfl rfl rfl) (by simp only [upd, List.set_cons_zero, List.set_cons_succ]; exact rfl) ?_
      refine walk_r rfl rfl rfl (op_not rfl (ev1 rfl)) ?_
      refine walk_nil ?_
      refine dwp_if_f rfl (rfl) ?_
      refine dwp_skip ?_
      refine dwp_region ?_
      refine walk_r rfl rfl rfl (op_add' rfl (ev1 rfl) (ev1 rfl) (fun _ => IntWalk.i64_in _ (by omega))) ?_
      refine walk_r rfl rfl rfl (op_move (.inl rfl) (ev1 rfl)) ?_
      refine walk_nil ?_
      have hkl : k < t.l.length := by rw [t.h]; omega
      have hin : t.l[k] ∈ colsL (t.l.take k) := by rw [← cget hkl]; exact hmc.2.1 hs
      refine ⟨k + 1, [0, 1, 2, 3, 4, 5, 6, 7], by omega, by simp only []; omega, rfl, ⟨rfl, rfl, rfl, trivial⟩, ⟨rfl, rfl, by rw [metL_take hkl, ← cget hkl]; rfl, rfl, rfl, rfl, rfl, by rw [colsL_take hkl, if_pos hin]; rfl, trivial⟩⟩
    · refine dwp_holes 1 (by simp only [holes, List.cons_append, List.nil_append]; exact rfl) ?_
      refine dwp_region ?_
      refine walk_r rfl rfl rfl (op_move (.inl rfl) (ev1 rfl)) ?_
      refine walk_r rfl rfl rfl (op_move (.inl rfl) (ev1 rfl)) ?_
      refine walk_r rfl rfl rfl (op_rem' rfl (ev1 rfl) (ev1 rfl) (fun _ => ⟨by omega, by omega⟩)) ?_
      refine walk_r rfl rfl rfl (op_move (.inl rfl) (ev1 rfl)) ?_
      refine walk_r rfl rfl rfl (op_quo' rfl (ev1 rfl) (ev1 rfl) (fun _ => ⟨by omega, by omega, IntWalk.i64_in _ (by omega)⟩)) ?_
      refine walk_r rfl rfl rfl (op_build (ps := [(0, .tmp 14), (1, .tmp 16)]) rfl fl30 zr30 (vc (ev1 rfl) (vc (ev1 rfl) vn)) rfl rfl) ?_
      refine walk_r rfl rfl rfl (op_ldw rfl tb23 (ev1 rfl) rfl rfl) ?_
      refine walk_w rfl rfl rfl (op_y (i := 0) [0, 1, 2, 3, 7] [] [9] rfl (ev1 rfl) (ec (ev1 rfl) (ec (ev1 rfl) en)) rfl rfl rfl (colRound_new _ _ ⟨(k : Int) % 8, (k : Int) / 8⟩ _ (by omega) (by omega)) rfl rfl rfl rfl rfl) (by simp only [upd, List.set_cons_zero, List.set_cons_succ]; exact rfl) ?_
      refine walk_r rfl rfl rfl (op_not rfl (ev1 rfl)) ?_
      refine walk_nil ?_
      refine dwp_if_f rfl (rfl) ?_
      refine dwp_skip ?_
      refine dwp_region ?_
      refine walk_r rfl rfl rfl (op_add' rfl (ev1 rfl) (ev1 rfl) (fun _ => IntWalk.i64_in _ (by omega))) ?_
      refine walk_r rfl rfl rfl (op_move (.inl rfl) (ev1 rfl)) ?_
      refine walk_nil ?_
      have hkl : k < t.l.length := by rw [t.h]; omega
      have hin : t.l[k] ∉ colsL (t.l.take k) := by rw [← cget hkl]; exact fun h => hs (hmc.2.2 h)
      refine ⟨k + 1, [0, 1, 2, 3, 4, 5, 6, 9], by omega, by simp only []; omega, rfl, ⟨rfl, rfl, rfl, trivial⟩, ⟨rfl, rfl, by rw [metL_take hkl, ← cget hkl]; rfl, rfl, rfl, rfl, rfl, by rw [colsL_take hkl, if_neg hin, ← cget hkl]; rfl, trivial⟩⟩
  · try simp only [decide_eq_true_eq, decide_eq_false_iff_not, beq_iff_eq, bne_iff_ne, beq_eq_false_iff_ne, bne_eq_false_iff_eq, Bool.not_eq_true', Bool.not_eq_false', Bool.and_eq_true, Bool.or_eq_true, Bool.or_eq_false_iff, ne_eq, Decidable.not_not, Int.not_lt, Int.not_le] at c3
    refine dwp_exit ?_
    obtain rfl : k = 64 := by omega
    rw [take64 t]
    refine kend [0, 1, 2, 3, 4, 5, 6, 7] (res_none rfl) rfl rfl ?_ ⟨rfl, rfl, rfl, rfl, rfl, rfl, rfl, rfl, trivial⟩
    rfl

set_option maxRecDepth 4000 in
set_option maxHeartbeats 1000000 in
theorem colors_o (t : TL) : DFun Try.prog 20 [tD t] [] (.arr 0) [.arr 23 4 (colsL t.l).length ((colsL t.l).flatMap c4)] := by
  refine dcalls_go (N := 26) 0 (by kernel_rfl) Try.func20 rfl rfl rfl (by simp only [fr0, Nat.zero_add, Nat.reduceAdd]; exact rfl) rfl fun s0 hs0 => ?_
  refine dwp_seq ?_
  refine dwp_holes 1 (by simp only [holes, List.cons_append, List.nil_append]; exact rfl) ?_
  refine dwp_region ?_
  refine walk_w rfl rfl rfl (op_boxa 0 rfl (ev1 rfl) rfl) (by simp only [upd, List.set_cons_zero, List.set_cons_succ]; exact rfl) ?_
  refine walk_r rfl rfl rfl (op_move (.inr rfl) (ev1 rfl)) ?_
  refine walk_nil ?_
  refine dwp_seq ?_
  refine dwp_holes 2 (by simp only [holes, List.cons_append, List.nil_append]; exact rfl) ?_
  refine dwp_region ?_
  refine walk_w rfl rfl rfl (op_mkm c4 1 rfl rfl) (by simp only [upd, List.set_cons_zero, List.set_cons_succ]; exact rfl) ?_
  refine walk_w rfl rfl rfl (op_alloc 2 rfl zr67 rfl) (by simp only [upd, List.set_cons_zero, List.set_cons_succ]; exact rfl) ?_
  refine walk_s rfl rfl (op_stfh rfl tb67 (ev1 rfl) (ev1 rfl) rfl rfl (by decide)) (by simp only [upd, List.set_cons_zero, List.set_cons_succ]; exact rfl) ?_
  refine walk_nil ?_
  refine dwp_seq ?_
  refine dwp_holes 1 (by simp only [holes, List.cons_append, List.nil_append]; exact rfl) ?_
  refine dwp_region ?_
  refine walk_w rfl rfl rfl (op_alloc 3 rfl zr43 rfl) (by simp only [upd, List.set_cons_zero, List.set_cons_succ]; exact rfl) ?_
  refine walk_nil ?_
  refine dwp_seq ?_
  refine dwp_seq ?_
  refine dwp_holes 1 (by simp only [holes, List.cons_append, List.nil_append]; exact rfl) ?_
  refine dwp_region ?_
  refine walk_w rfl rfl rfl (dop_call [0] [] [4] rfl (ev1 rfl) (ec (ev1 rfl) en) rfl rfl (pixels_d _ _) rfl rfl rfl rfl rfl rfl) (by simp only [upd, List.set_cons_zero, List.set_cons_succ]; exact rfl) ?_
  refine walk_nil ?_
  refine dwp_block ?_
  refine dwp_adoptm 3 23 4 rfl (by simp only [List.cons_append, List.nil_append, List.set_cons_zero, List.set_cons_succ, List.length_cons, List.length_nil, Nat.zero_add, Nat.reduceAdd]; exact rfl) ?_
  refine dwp_hole ?_
  refine dwp_hole ?_
  simp only [List.cons_append, List.nil_append]
  refine dwp_rf (FL := [(3, _), (4, _)]) (st := .ready) (pe := none) [6, 2, 1, 3, 5, 4, 0] [] [7] 6 rfl rfl (ev1 rfl) rfl (subF_lk ⟨rfl, rfl, trivial⟩) rfl rfl rfl (px_col _ _) rfl rfl rfl rfl rfl rfl rfl (by simp) (fun e => ?_) (fun c e => ?_)
  · simp only [upd, List.set_cons_zero, List.set_cons_succ]
    refine dwp_seq ?_
    refine dwp_region ?_
    refine walk_r rfl rfl rfl (op_ldm rfl tb43 (ev1 rfl) rfl rfl) ?_
    refine walk_r rfl rfl rfl (op_move (.inr rfl) (ev1 rfl)) ?_
    refine walk_nil ?_
    refine dwp_ret ?_
    refine kend [7] (rs1 rfl (rv_t rfl)) rfl rfl ?_ ⟨rfl, trivial⟩
    rfl
  · cases e

theorem colors_d (t : TL) : DFun Try.prog 20 [tD t] [] (.slf 4 (colsL t.l).length ((colsL t.l).flatMap c4)) [] := freeze (colors_o t) rfl

theorem refColors_f (t : TL) : DFun Try.prog 21 [tD t] [] (.slf 4 (colsL t.l).length ((colsL t.l).flatMap c4)) [] := freeze (refColors_d t) rfl

end Go.Proofs.Ythagnobjbpmneaa
