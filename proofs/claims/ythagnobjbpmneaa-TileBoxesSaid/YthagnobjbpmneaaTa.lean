/- places, and what is put there -/
import Derived.Test.YthagnobjbpmneaaIt
namespace Go.Proofs.Ythagnobjbpmneaa
set_option linter.unusedVariables false
set_option linter.unusedSimpArgs false
open Go.RowKit

set_option maxRecDepth 4000 in
set_option maxHeartbeats 1000000 in
theorem on_d (p : P2) : DFun Try.prog 35 [p2D p] [] (.val (.bool (onP p))) [] := by
  refine dcalls_go (N := 21) 0 (by kernel_rfl) Try.func35 rfl rfl rfl (by simp only [fr0, Nat.zero_add, Nat.reduceAdd]; exact rfl) rfl fun s0 hs0 => ?_
  refine dwp_seq ?_
  refine dwp_holes 1 (by simp only [holes, List.cons_append, List.nil_append]; exact rfl) ?_
  refine dwp_region ?_
  refine walk_w rfl rfl rfl (op_boxa 0 rfl (ev1 rfl) rfl) (by simp only [upd, List.set_cons_zero, List.set_cons_succ]; exact rfl) ?_
  refine walk_r rfl rfl rfl (op_move (.inr rfl) (ev1 rfl)) ?_
  refine walk_nil ?_
  refine dwp_seq ?_
  refine dwp_region ?_
  refine walk_r rfl rfl rfl (op_fa rfl fo30_0 (ev1 rfl)) ?_
  refine walk_r rfl rfl rfl (op_ldo rfl tb3 (ev1 rfl) rfl rfl) ?_
  refine walk_r rfl rfl rfl (op_geq rfl (ev1 rfl) (ev1 rfl)) ?_
  refine walk_r rfl rfl rfl (op_move (.inl rfl) (ev1 rfl)) ?_
  refine walk_gr (gd_t rfl rfl rfl) rfl rfl rfl (op_fa rfl fo30_0 (ev1 rfl)) ?_
  refine walk_gr (gd_t rfl rfl rfl) rfl rfl rfl (op_ldo rfl tb3 (ev2 rfl) rfl rfl) ?_
  refine walk_gr (gd_t rfl rfl rfl) rfl rfl rfl (op_leq rfl (ev2 rfl) (ev1 rfl)) ?_
  refine walk_r rfl rfl rfl (op_and rfl (ev1 rfl) (ev3 rfl id)) ?_
  refine walk_r rfl rfl rfl (op_move (.inl rfl) (ev1 rfl)) ?_
  refine walk_gr (gd_t rfl rfl rfl) rfl rfl rfl (op_fa rfl fo30_1 (ev1 rfl)) ?_
  refine walk_gr (gd_t rfl rfl rfl) rfl rfl rfl (op_ldo rfl tb3 (ev2 rfl) rfl rfl) ?_
  refine walk_gr (gd_t rfl rfl rfl) rfl rfl rfl (op_geq rfl (ev2 rfl) (ev1 rfl)) ?_
  refine walk_r rfl rfl rfl (op_and rfl (ev1 rfl) (ev3 rfl id)) ?_
  refine walk_r rfl rfl rfl (op_move (.inl rfl) (ev1 rfl)) ?_
  refine walk_gr (gd_t rfl rfl rfl) rfl rfl rfl (op_fa rfl fo30_1 (ev1 rfl)) ?_
  refine walk_gr (gd_t rfl rfl rfl) rfl rfl rfl (op_ldo rfl tb3 (ev2 rfl) rfl rfl) ?_
  refine walk_gr (gd_t rfl rfl rfl) rfl rfl rfl (op_leq rfl (ev2 rfl) (ev1 rfl)) ?_
  refine walk_r rfl rfl rfl (op_and rfl (ev1 rfl) (ev3 rfl id)) ?_
  refine walk_r rfl rfl rfl (op_move (.inr rfl) (ev1 rfl)) ?_
  refine walk_nil ?_
  refine dwp_ret ?_
  refine kend0 (rs1 rfl (rv_t rfl)) rfl ?_
  simp [onP, Bool.and_assoc]

set_option maxRecDepth 4000 in
set_option maxHeartbeats 1000000 in
theorem refIs_d (x y : Int) : DFun Try.prog 12 [.val (.int .i64 x), .val (.int .i64 y)] [] (.val (.bool (onP ⟨x, y⟩))) [] := by
  refine dcalls_go (N := 19) 0 (by kernel_rfl) Try.func12 rfl rfl rfl (by simp only [fr0, Nat.zero_add, Nat.reduceAdd]; exact rfl) rfl fun s0 hs0 => ?_
  refine dwp_seq ?_
  refine dwp_region ?_
  refine walk_r rfl rfl rfl (op_move (.inr rfl) (ev1 rfl)) ?_
  refine walk_nil ?_
  refine dwp_seq ?_
  refine dwp_region ?_
  refine walk_r rfl rfl rfl (op_move (.inl rfl) (ev1 rfl)) ?_
  refine walk_r rfl rfl rfl (op_geq rfl (ev1 rfl) (ev1 rfl)) ?_
  refine walk_r rfl rfl rfl (op_move (.inl rfl) (ev1 rfl)) ?_
  refine walk_gr (gd_t rfl rfl rfl) rfl rfl rfl (op_move (.inl rfl) (ev1 rfl)) ?_
  refine walk_gr (gd_t rfl rfl rfl) rfl rfl rfl (op_lss rfl (ev2 rfl) (ev1 rfl)) ?_
  refine walk_r rfl rfl rfl (op_and rfl (ev1 rfl) (ev3 rfl id)) ?_
  refine walk_r rfl rfl rfl (op_move (.inl rfl) (ev1 rfl)) ?_
  refine walk_gr (gd_t rfl rfl rfl) rfl rfl rfl (op_move (.inl rfl) (ev1 rfl)) ?_
  refine walk_gr (gd_t rfl rfl rfl) rfl rfl rfl (op_geq rfl (ev2 rfl) (ev1 rfl)) ?_
  refine walk_r rfl rfl rfl (op_and rfl (ev1 rfl) (ev3 rfl id)) ?_
  refine walk_r rfl rfl rfl (op_move (.inl rfl) (ev1 rfl)) ?_
  refine walk_gr (gd_t rfl rfl rfl) rfl rfl rfl (op_move (.inl rfl) (ev1 rfl)) ?_
  refine walk_gr (gd_t rfl rfl rfl) rfl rfl rfl (op_lss rfl (ev2 rfl) (ev1 rfl)) ?_
  refine walk_r rfl rfl rfl (op_and rfl (ev1 rfl) (ev3 rfl id)) ?_
  refine walk_r rfl rfl rfl (op_move (.inr rfl) (ev1 rfl)) ?_
  refine walk_nil ?_
  refine dwp_ret ?_
  refine kend0 (rs1 rfl (rv_t rfl)) rfl ?_
  rw [D.val.injEq, Value.bool.injEq, Bool.eq_iff_iff, onP_iff]
  simp
  omega

set_option maxRecDepth 4000 in
set_option maxHeartbeats 1000000 in
theorem new_d (c : C4) : DFun Try.prog 16 [c4D c] [] (tD (nT c)) [] := by
  refine dcalls_go (N := 13) 0 (by kernel_rfl) Try.func16 rfl rfl rfl (by simp only [fr0, Nat.zero_add, Nat.reduceAdd]; exact rfl) rfl fun s0 hs0 => ?_
  refine dwp_seq ?_
  refine dwp_holes 2 (by simp only [holes, List.cons_append, List.nil_append]; exact rfl) ?_
  refine dwp_region ?_
  refine walk_w rfl rfl rfl (op_boxa 0 rfl (ev1 rfl) rfl) (by simp only [upd, List.set_cons_zero, List.set_cons_succ]; exact rfl) ?_
  refine walk_w rfl rfl rfl (op_alloc 1 rfl zr25 rfl) (by simp only [upd, List.set_cons_zero, List.set_cons_succ]; exact rfl) ?_
  refine walk_nil ?_
  refine dwp_seq ?_
  refine dwp_holes 1 (by simp only [holes, List.cons_append, List.nil_append]; exact rfl) ?_
  refine dwp_region ?_
  refine walk_w rfl rfl rfl (op_alloc 2 rfl zr25 rfl) (by simp only [upd, List.set_cons_zero, List.set_cons_succ]; exact rfl) ?_
  refine walk_nil ?_
  refine dwp_seq ?_
  refine dwp_seq ?_
  refine dwp_region ?_
  refine walk_r rfl rfl rfl (op_move (.inl rfl) (ev1 rfl)) ?_
  refine walk_nil ?_
  refine dwp_block ?_
  refine dwp_loopS ⟨hs0, rfl⟩ (α := Nat) (fun k => [(5, .val (.int .i64 (k : Int)))]) [(1, _), (2, _), (3, _)] (fun k => [(2, .flat 25 (tc (newT c k)))]) [_, _, .hole] (fun k => k ≤ 64) (fun k => 64 - k) 0 [0, 1, 2] (by simp) rfl ⟨rfl, rfl, rfl, trivial⟩ ⟨rfl, trivial⟩ ⟨rfl, rfl, rfl, trivial⟩ ?_
  intro k hx
  simp only [upd, List.set_cons_zero, List.set_cons_succ, List.cons_append, List.nil_append]
  have hk := hx
  refine dwp_seq ?_
  refine dwp_region ?_
  refine walk_r rfl rfl rfl (op_lss rfl (ev1 rfl) (ev1 rfl)) ?_
  refine walk_nil ?_
  refine dwp_seq ?_
  refine dwp_cond rfl (fun c1 => ?_) (fun c1 => ?_)
  · try simp only [decide_eq_true_eq, decide_eq_false_iff_not, beq_iff_eq, bne_iff_ne, beq_eq_false_iff_ne, bne_eq_false_iff_eq, Bool.not_eq_true', Bool.not_eq_false', Bool.and_eq_true, Bool.or_eq_true, Bool.or_eq_false_iff, ne_eq, Decidable.not_not, Int.not_lt, Int.not_le] at c1
    refine dwp_skip ?_
    refine dwp_seq ?_
    refine dwp_block ?_
    refine dwp_seq ?_
    refine dwp_region ?_
    refine walk_r rfl rfl rfl (op_move (.inl rfl) (ev1 rfl)) ?_
    refine walk_r rfl rfl rfl (op_move (.inr rfl) (ev1 rfl)) ?_
    refine walk_nil ?_
    refine dwp_region ?_
    refine walk_r rfl rfl rfl (op_move (.inl rfl) (ev1 rfl)) ?_
    refine walk_r rfl rfl rfl (op_ldw rfl tb23 (ev1 rfl) rfl rfl) ?_
    refine walk_r rfl rfl rfl (op_ixfr (j := k) rfl ar25 (ev1 rfl) (ev1 rfl) (fun _ => by omega) (fun _ => by omega)) ?_
    refine walk_s rfl rfl (op_stfr (q := c) rfl tb23 (ev1 rfl) (ev1 rfl) rfl rfl rfl (fun _ => rfl) (fun _ => by rw [TL.h]; omega)) (by simp only [upd, List.set_cons_zero, List.set_cons_succ]; exact rfl) ?_
    refine walk_nil ?_
    refine dwp_region ?_
    refine walk_r rfl rfl rfl (op_add' rfl (ev1 rfl) (ev1 rfl) (fun _ => IntWalk.i64_in _ (by omega))) ?_
    refine walk_r rfl rfl rfl (op_move (.inl rfl) (ev1 rfl)) ?_
    refine walk_nil ?_
    refine ⟨k + 1, [0, 1, 2], by omega, by simp only []; omega, rfl, ⟨rfl, rfl, rfl, rfl, trivial⟩, ⟨rfl, rfl, by rw [newT_succ]; rfl, trivial⟩⟩
  · try simp only [decide_eq_true_eq, decide_eq_false_iff_not, beq_iff_eq, bne_iff_ne, beq_eq_false_iff_ne, bne_eq_false_iff_eq, Bool.not_eq_true', Bool.not_eq_false', Bool.and_eq_true, Bool.or_eq_true, Bool.or_eq_false_iff, ne_eq, Decidable.not_not, Int.not_lt, Int.not_le] at c1
    refine dwp_exit ?_
    refine dwp_seq ?_
    refine dwp_region ?_
    refine walk_r rfl rfl rfl (op_ldw rfl tb25 (ev1 rfl) rfl (tc_len _)) ?_
    refine walk_s rfl rfl (op_stwa rfl tb25 (ev1 rfl) (ev1 rfl) rfl (tc_len _) (tc_oc _) ((tc_len _).trans (tc_len _).symm)) (by simp only [upd, List.set_cons_zero, List.set_cons_succ]; exact rfl) ?_
    refine walk_nil ?_
    refine dwp_ret ?_
    refine kend0 (rs1 rfl (rv_w tb25 rfl rfl (tc_len _))) rfl ?_
    rw [show k = 64 by omega, newT_end]

set_option maxRecDepth 4000 in
set_option maxHeartbeats 1000000 in
theorem refNew_d (c : C4) : DFun Try.prog 17 [c4D c] [] (tD (nT c)) [] := by
  refine dcalls_go (N := 13) 0 (by kernel_rfl) Try.func17 rfl rfl rfl (by simp only [fr0, Nat.zero_add, Nat.reduceAdd]; exact rfl) rfl fun s0 hs0 => ?_
  refine dwp_seq ?_
  refine dwp_holes 2 (by simp only [holes, List.cons_append, List.nil_append]; exact rfl) ?_
  refine dwp_region ?_
  refine walk_w rfl rfl rfl (op_boxa 0 rfl (ev1 rfl) rfl) (by simp only [upd, List.set_cons_zero, List.set_cons_succ]; exact rfl) ?_
  refine walk_w rfl rfl rfl (op_alloc 1 rfl zr25 rfl) (by simp only [upd, List.set_cons_zero, List.set_cons_succ]; exact rfl) ?_
  refine walk_nil ?_
  refine dwp_seq ?_
  refine dwp_holes 1 (by simp only [holes, List.cons_append, List.nil_append]; exact rfl) ?_
  refine dwp_region ?_
  refine walk_w rfl rfl rfl (op_alloc 2 rfl zr25 rfl) (by simp only [upd, List.set_cons_zero, List.set_cons_succ]; exact rfl) ?_
  refine walk_nil ?_
  refine dwp_seq ?_
  refine dwp_seq ?_
  refine dwp_region ?_
  refine walk_r rfl rfl rfl (op_move (.inl rfl) (ev1 rfl)) ?_
  refine walk_nil ?_
  refine dwp_block ?_
  refine dwp_loopS ⟨hs0, rfl⟩ (α := Nat) (fun k => [(5, .val (.int .i64 (k : Int)))]) [(1, _), (2, _), (3, _)] (fun k => [(2, .flat 25 (tc (newT c k)))]) [_, _, .hole] (fun k => k ≤ 64) (fun k => 64 - k) 0 [0, 1, 2] (by simp) rfl ⟨rfl, rfl, rfl, trivial⟩ ⟨rfl, trivial⟩ ⟨rfl, rfl, rfl, trivial⟩ ?_
  intro k hx
  simp only [upd, List.set_cons_zero, List.set_cons_succ, List.cons_append, List.nil_append]
  have hk := hx
  refine dwp_seq ?_
  refine dwp_region ?_
  refine walk_r rfl rfl rfl (op_lss rfl (ev1 rfl) (ev1 rfl)) ?_
  refine walk_nil ?_
  refine dwp_seq ?_
  refine dwp_cond rfl (fun c1 => ?_) (fun c1 => ?_)
  · try simp only [decide_eq_true_eq, decide_eq_false_iff_not, beq_iff_eq, bne_iff_ne, beq_eq_false_iff_ne, bne_eq_false_iff_eq, Bool.not_eq_true', Bool.not_eq_false', Bool.and_eq_true, Bool.or_eq_true, Bool.or_eq_false_iff, ne_eq, Decidable.not_not, Int.not_lt, Int.not_le] at c1
    refine dwp_skip ?_
    refine dwp_seq ?_
    refine dwp_block ?_
    refine dwp_seq ?_
    refine dwp_region ?_
    refine walk_r rfl rfl rfl (op_move (.inl rfl) (ev1 rfl)) ?_
    refine walk_r rfl rfl rfl (op_move (.inr rfl) (ev1 rfl)) ?_
    refine walk_nil ?_
    refine dwp_region ?_
    refine walk_r rfl rfl rfl (op_move (.inl rfl) (ev1 rfl)) ?_
    refine walk_r rfl rfl rfl (op_ldw rfl tb23 (ev1 rfl) rfl rfl) ?_
    refine walk_r rfl rfl rfl (op_ixfr (j := k) rfl ar25 (ev1 rfl) (ev1 rfl) (fun _ => by omega) (fun _ => by omega)) ?_
    refine walk_s rfl rfl (op_stfr (q := c) rfl tb23 (ev1 rfl) (ev1 rfl) rfl rfl rfl (fun _ => rfl) (fun _ => by rw [TL.h]; omega)) (by simp only [upd, List.set_cons_zero, List.set_cons_succ]; exact rfl) ?_
    refine walk_nil ?_
    refine dwp_region ?_
    refine walk_r rfl rfl rfl (op_add' rfl (ev1 rfl) (ev1 rfl) (fun _ => IntWalk.i64_in _ (by omega))) ?_
    refine walk_r rfl rfl rfl (op_move (.inl rfl) (ev1 rfl)) ?_
    refine walk_nil ?_
    refine ⟨k + 1, [0, 1, 2], by omega, by simp only []; omega, rfl, ⟨rfl, rfl, rfl, rfl, trivial⟩, ⟨rfl, rfl, by rw [newT_succ]; rfl, trivial⟩⟩
  · try simp only [decide_eq_true_eq, decide_eq_false_iff_not, beq_iff_eq, bne_iff_ne, beq_eq_false_iff_ne, bne_eq_false_iff_eq, Bool.not_eq_true', Bool.not_eq_false', Bool.and_eq_true, Bool.or_eq_true, Bool.or_eq_false_iff, ne_eq, Decidable.not_not, Int.not_lt, Int.not_le] at c1
    refine dwp_exit ?_
    refine dwp_seq ?_
    refine dwp_region ?_
    refine walk_r rfl rfl rfl (op_ldw rfl tb25 (ev1 rfl) rfl (tc_len _)) ?_
    refine walk_s rfl rfl (op_stwa rfl tb25 (ev1 rfl) (ev1 rfl) rfl (tc_len _) (tc_oc _) ((tc_len _).trans (tc_len _).symm)) (by simp only [upd, List.set_cons_zero, List.set_cons_succ]; exact rfl) ?_
    refine walk_nil ?_
    refine dwp_ret ?_
    refine kend0 (rs1 rfl (rv_w tb25 rfl rfl (tc_len _))) rfl ?_
    rw [show k = 64 by omega, newT_end]

set_option maxRecDepth 4000 in
set_option maxHeartbeats 1000000 in
theorem at_d (t : TL) (x y : Int) : DFun Try.prog 11 [tD t, .val (.int .i64 x), .val (.int .i64 y)] [] (.tup [c4D (if onP ⟨x, y⟩ then t.get (ixP ⟨x, y⟩) else zC4), .val (.int .i64 (errOr (onP ⟨x, y⟩) 140))]) [] := by
  refine dcalls_go (N := 20) 0 (by kernel_rfl) Try.func11 rfl rfl rfl (by simp only [fr0, Nat.zero_add, Nat.reduceAdd]; exact rfl) rfl fun s0 hs0 => ?_
  refine dwp_seq ?_
  refine dwp_holes 2 (by simp only [holes, List.cons_append, List.nil_append]; exact rfl) ?_
  refine dwp_region ?_
  refine walk_w rfl rfl rfl (op_boxa 0 rfl (ev1 rfl) rfl) (by simp only [upd, List.set_cons_zero, List.set_cons_succ]; exact rfl) ?_
  refine walk_w rfl rfl rfl (op_alloc 1 rfl zr23 rfl) (by simp only [upd, List.set_cons_zero, List.set_cons_succ]; exact rfl) ?_
  refine walk_r rfl rfl rfl (op_move (.inr rfl) (ev1 rfl)) ?_
  refine walk_nil ?_
  refine dwp_seq ?_
  refine dwp_seq ?_
  refine dwp_region ?_
  refine walk_r rfl rfl rfl (op_move (.inl rfl) (ev1 rfl)) ?_
  refine walk_r rfl rfl rfl (op_move (.inl rfl) (ev1 rfl)) ?_
  refine walk_r rfl rfl rfl (op_build (ps := [(0, .tmp 8), (1, .tmp 9)]) rfl fl30 zr30 (vc (ev1 rfl) (vc (ev1 rfl) vn)) rfl rfl) ?_
  refine walk_r rfl rfl rfl (dop_call [] [] [] rfl (ev1 rfl) (ec (ev1 rfl) en) rfl rfl (on_d ⟨x, y⟩) rfl rfl rfl rfl rfl rfl) ?_
  refine walk_r rfl rfl rfl (op_not rfl (ev1 rfl)) ?_
  refine walk_nil ?_
  refine dwp_cond rfl (fun c1 => ?_) (fun c1 => ?_)
  · try simp only [decide_eq_true_eq, decide_eq_false_iff_not, beq_iff_eq, bne_iff_ne, beq_eq_false_iff_ne, bne_eq_false_iff_eq, Bool.not_eq_true', Bool.not_eq_false', Bool.and_eq_true, Bool.or_eq_true, Bool.or_eq_false_iff, ne_eq, Decidable.not_not, Int.not_lt, Int.not_le] at c1
    have hon : onP ⟨x, y⟩ = false := by simpa using c1
    refine dwp_seq ?_
    refine dwp_region ?_
    refine walk_r rfl rfl rfl (op_build0 rfl fl23 zr23) ?_
    refine walk_s rfl rfl (op_stwa rfl tb23 (ev1 rfl) (ev1 rfl) rfl rfl rfl rfl) (by simp only [upd, List.set_cons_zero, List.set_cons_succ]; exact rfl) ?_
    refine walk_r rfl rfl rfl (op_move (.inr rfl) (ev1 rfl)) ?_
    refine walk_nil ?_
    refine dwp_ret ?_
    refine kend0 (rs2 rfl (rv_w tb23 rfl rfl rfl) (rv_t rfl)) rfl ?_
    simp [hon, errOr, zC4, c4, TL.get]
  · try simp only [decide_eq_true_eq, decide_eq_false_iff_not, beq_iff_eq, bne_iff_ne, beq_eq_false_iff_ne, bne_eq_false_iff_eq, Bool.not_eq_true', Bool.not_eq_false', Bool.and_eq_true, Bool.or_eq_true, Bool.or_eq_false_iff, ne_eq, Decidable.not_not, Int.not_lt, Int.not_le] at c1
    have hon : onP ⟨x, y⟩ = true := by simpa using c1
    have hxy := onP_iff.1 hon
    obtain ⟨hix, hlt⟩ := ixP_eq hon
    dsimp only at hxy hix
    refine dwp_skip ?_
    refine dwp_seq ?_
    refine dwp_region ?_
    refine walk_r rfl rfl rfl (op_move (.inl rfl) (ev1 rfl)) ?_
    refine walk_r rfl rfl rfl (op_mul' rfl (ev1 rfl) (ev1 rfl) (fun _ => IntWalk.i64_in _ (by omega))) ?_
    refine walk_r rfl rfl rfl (op_move (.inl rfl) (ev1 rfl)) ?_
    refine walk_r rfl rfl rfl (op_add' rfl (ev1 rfl) (ev1 rfl) (fun _ => IntWalk.i64_in _ (by omega))) ?_
    refine walk_r rfl rfl rfl (op_ixfr (j := ixP ⟨x, y⟩) rfl ar25 (ev1 rfl) (ev1 rfl) (fun _ => by omega) (fun _ => by omega)) ?_
    refine walk_r rfl rfl rfl (op_ldfr (zC4) rfl tb23 (ev1 rfl) rfl (fun _ => rfl) (fun _ => by rw [TL.h]; omega)) ?_
    refine walk_s rfl rfl (op_stwa rfl tb23 (ev1 rfl) (ev1 rfl) rfl rfl rfl rfl) (by simp only [upd, List.set_cons_zero, List.set_cons_succ]; exact rfl) ?_
    refine walk_r rfl rfl rfl (op_move (.inr rfl) (ev1 rfl)) ?_
    refine walk_nil ?_
    refine dwp_ret ?_
    refine kend0 (rs2 rfl (rv_w tb23 rfl rfl rfl) (rv_t rfl)) rfl ?_
    simp [hon, errOr, zC4, c4, TL.get]

set_option maxRecDepth 4000 in
set_option maxHeartbeats 1000000 in
theorem refAt_d (t : TL) (x y : Int) (hon : onP ⟨x, y⟩ = true) : DFun Try.prog 13 [tD t, .val (.int .i64 x), .val (.int .i64 y)] [] (c4D (t.get (ixP ⟨x, y⟩))) [] := by
  have hxy := onP_iff.1 hon
  obtain ⟨hix, hlt⟩ := ixP_eq hon
  dsimp only at hxy hix
  refine dcalls_go (N := 13) 0 (by kernel_rfl) Try.func13 rfl rfl rfl (by simp only [fr0, Nat.zero_add, Nat.reduceAdd]; exact rfl) rfl fun s0 hs0 => ?_
  refine dwp_seq ?_
  refine dwp_holes 2 (by simp only [holes, List.cons_append, List.nil_append]; exact rfl) ?_
  refine dwp_region ?_
  refine walk_w rfl rfl rfl (op_boxa 0 rfl (ev1 rfl) rfl) (by simp only [upd, List.set_cons_zero, List.set_cons_succ]; exact rfl) ?_
  refine walk_w rfl rfl rfl (op_alloc 1 rfl zr23 rfl) (by simp only [upd, List.set_cons_zero, List.set_cons_succ]; exact rfl) ?_
  refine walk_nil ?_
  refine dwp_seq ?_
  refine dwp_region ?_
  refine walk_r rfl rfl rfl (op_move (.inl rfl) (ev1 rfl)) ?_
  refine walk_r rfl rfl rfl (op_mul' rfl (ev1 rfl) (ev1 rfl) (fun _ => IntWalk.i64_in _ (by omega))) ?_
  refine walk_r rfl rfl rfl (op_move (.inl rfl) (ev1 rfl)) ?_
  refine walk_r rfl rfl rfl (op_add' rfl (ev1 rfl) (ev1 rfl) (fun _ => IntWalk.i64_in _ (by omega))) ?_
  refine walk_r rfl rfl rfl (op_ixfr (j := ixP ⟨x, y⟩) rfl ar25 (ev1 rfl) (ev1 rfl) (fun _ => by omega) (fun _ => by omega)) ?_
  refine walk_r rfl rfl rfl (op_ldfr (zC4) rfl tb23 (ev1 rfl) rfl (fun _ => rfl) (fun _ => by rw [TL.h]; omega)) ?_
  refine walk_s rfl rfl (op_stwa rfl tb23 (ev1 rfl) (ev1 rfl) rfl rfl rfl rfl) (by simp only [upd, List.set_cons_zero, List.set_cons_succ]; exact rfl) ?_
  refine walk_nil ?_
  refine dwp_ret ?_
  refine kend0 (rs1 rfl (rv_w tb23 rfl rfl rfl)) rfl ?_
  rfl

set_option maxRecDepth 4000 in
set_option maxHeartbeats 1000000 in
theorem put_d (t : TL) (p : P2) (c : C4) : DFun Try.prog 38 [.loc 0 0, p2D p, c4D c] [.flat 65 (tc t)] (.tup []) [.flat 65 (tc (putT t p c))] := by
  refine dcalls_go (N := 19) 1 (by kernel_rfl) Try.func38 rfl rfl rfl (by simp only [fr0, Nat.zero_add, Nat.reduceAdd]; exact rfl) rfl fun s0 hs0 => ?_
  refine dwp_seq ?_
  refine dwp_holes 2 (by simp only [holes, List.cons_append, List.nil_append]; exact rfl) ?_
  refine dwp_region ?_
  refine walk_w rfl rfl rfl (op_boxa 1 rfl (ev1 rfl) rfl) (by simp only [upd, List.set_cons_zero, List.set_cons_succ]; exact rfl) ?_
  refine walk_w rfl rfl rfl (op_boxa 2 rfl (ev1 rfl) rfl) (by simp only [upd, List.set_cons_zero, List.set_cons_succ]; exact rfl) ?_
  refine walk_nil ?_
  refine dwp_seq ?_
  refine dwp_region ?_
  refine walk_r rfl rfl rfl (op_ldw rfl tb30 (ev1 rfl) rfl rfl) ?_
  refine walk_r rfl rfl rfl (dop_call [] [] [] rfl (ev1 rfl) (ec (ev1 rfl) en) rfl rfl (on_d _) rfl rfl rfl rfl rfl rfl) ?_
  refine walk_nil ?_
  refine dwp_cond rfl (fun c1 => ?_) (fun c1 => ?_)
  · try simp only [decide_eq_true_eq, decide_eq_false_iff_not, beq_iff_eq, bne_iff_ne, beq_eq_false_iff_ne, bne_eq_false_iff_eq, Bool.not_eq_true', Bool.not_eq_false', Bool.and_eq_true, Bool.or_eq_true, Bool.or_eq_false_iff, ne_eq, Decidable.not_not, Int.not_lt, Int.not_le] at c1
    have hxy := onP_iff.1 c1
    obtain ⟨hix, hlt⟩ := ixP_eq c1
    refine dwp_draw [([], []), ([], []), ([1], []), ([], []), ([], []), ([1], []), ([], []), ([2], []), ([], []), ([], []), ([], []), ([0], [0])] mixed (by kernel_rfl) ?_
    refine lex_r rfl rfl (op_move (.inl rfl) (ev1 rfl)) ?_
    refine lex_r rfl rfl (op_fa rfl fo30_1 (ev1 rfl)) ?_
    refine lex_r rfl rfl (op_ldo rfl tb3 (ev1 rfl) rfl rfl) ?_
    refine lex_r rfl rfl (op_mul' rfl (ev1 rfl) (ev1 rfl) (fun _ => IntWalk.i64_in _ (by omega))) ?_
    refine lex_r rfl rfl (op_fa rfl fo30_0 (ev1 rfl)) ?_
    refine lex_r rfl rfl (op_ldo rfl tb3 (ev1 rfl) rfl rfl) ?_
    refine lex_r rfl rfl (op_add' rfl (ev1 rfl) (ev1 rfl) (fun _ => IntWalk.i64_in _ (by omega))) ?_
    refine lex_r rfl rfl (op_ldw rfl tb23 (ev1 rfl) rfl rfl) ?_
    refine lex_r rfl rfl (op_nc rfl (ev1 rfl) (fun s v h => by cases h; exact ⟨_, rfl⟩)) ?_
    refine lex_r rfl rfl (op_fa rfl fo65_0 (ev1 rfl)) ?_
    refine lex_r rfl rfl (op_ixfr (j := ixP p) rfl ar25 (ev1 rfl) (ev1 rfl) (fun _ => by omega) (fun _ => by omega)) ?_
    refine lex_s rfl rfl (op_stfr (q := c) rfl tb23 (ev1 rfl) (ev1 rfl) rfl rfl rfl (fun _ => rfl) (fun _ => by rw [TL.h]; omega)) rfl (by simp only [upd, List.set_cons_zero, List.set_cons_succ]; exact rfl) ?_
    refine lex_nil ?_
    have e : putT t p c = t.set (ixP p) c := by rw [putT, if_pos c1]
    rw [e]
    refine kend [0] (res_none rfl) rfl rfl ?_ ⟨rfl, trivial⟩
    rfl
  · try simp only [decide_eq_true_eq, decide_eq_false_iff_not, beq_iff_eq, bne_iff_ne, beq_eq_false_iff_ne, bne_eq_false_iff_eq, Bool.not_eq_true', Bool.not_eq_false', Bool.and_eq_true, Bool.or_eq_true, Bool.or_eq_false_iff, ne_eq, Decidable.not_not, Int.not_lt, Int.not_le] at c1
    refine dwp_skip ?_
    have e : putT t p c = t := by rw [putT, if_neg (by simp [c1])]
    rw [e]
    refine kend [0] (res_none rfl) rfl rfl ?_ ⟨rfl, trivial⟩
    rfl

end Go.Proofs.Ythagnobjbpmneaa
