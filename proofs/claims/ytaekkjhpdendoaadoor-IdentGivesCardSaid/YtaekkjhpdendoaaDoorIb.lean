/- the order; insertion sort -/
import Derived.Test.YtaekkjhpdendoaaDoorIa
namespace Go.Proofs.YtaekkjhpdendoaaDoor
set_option linter.unusedVariables false
set_option linter.unusedSimpArgs false
open Go.RowKit

set_option maxRecDepth 4000 in
set_option maxHeartbeats 1000000 in
theorem compare_d (a b : I3) : DFun Tryd.prog 14 [idD a, idD b] [] (.val (.int .i64 (cmpR a b))) [] := by
  refine dcalls_go (N := 25) 0 (by kernel_rfl) Tryd.func14 rfl rfl rfl (by simp only [fr0, Nat.zero_add, Nat.reduceAdd]; exact rfl) rfl fun s0 hs0 => ?_
  refine dwp_seq ?_
  refine dwp_holes 2 (by simp only [holes, List.cons_append, List.nil_append]; exact rfl) ?_
  refine dwp_region ?_
  refine walk_w rfl rfl rfl (op_boxa 0 rfl (ev1 rfl) rfl) (by simp only [upd, List.set_cons_zero, List.set_cons_succ]; exact rfl) ?_
  refine walk_w rfl rfl rfl (op_boxa 1 rfl (ev1 rfl) rfl) (by simp only [upd, List.set_cons_zero, List.set_cons_succ]; exact rfl) ?_
  refine walk_r rfl rfl rfl (op_move (.inr rfl) (ev1 rfl)) ?_
  refine walk_nil ?_
  refine dwp_seq ?_
  refine dwp_seq ?_
  refine dwp_region ?_
  refine walk_r rfl rfl rfl (op_ldw rfl tb27 (ev1 rfl) rfl rfl) ?_
  refine walk_r rfl rfl rfl (op_ldw rfl tb27 (ev1 rfl) rfl rfl) ?_
  refine walk_r rfl rfl rfl (op_eqr eq27 rfl gd27 tb27 (ev1 rfl) (ev1 rfl)) ?_
  refine walk_nil ?_
  refine dwp_cond rfl (fun c1 => ?_) (fun c1 => ?_)
  · try simp only [decide_eq_true_eq, decide_eq_false_iff_not, beq_iff_eq, bne_iff_ne, beq_eq_false_iff_ne, bne_eq_false_iff_eq, Bool.not_eq_true', Bool.not_eq_false', Bool.and_eq_true, Bool.or_eq_true, Bool.or_eq_false_iff, ne_eq, Decidable.not_not, Int.not_lt, Int.not_le] at c1
    refine dwp_seq ?_
    refine dwp_region ?_
    refine walk_r rfl rfl rfl (op_move (.inr rfl) (ev1 rfl)) ?_
    refine walk_nil ?_
    refine dwp_ret ?_
    refine kend0 (rs1 rfl (rv_t rfl)) rfl ?_
    simp_all [cmpR, eqI]
  · try simp only [decide_eq_true_eq, decide_eq_false_iff_not, beq_iff_eq, bne_iff_ne, beq_eq_false_iff_ne, bne_eq_false_iff_eq, Bool.not_eq_true', Bool.not_eq_false', Bool.and_eq_true, Bool.or_eq_true, Bool.or_eq_false_iff, ne_eq, Decidable.not_not, Int.not_lt, Int.not_le] at c1
    refine dwp_skip ?_
    refine dwp_seq ?_
    refine dwp_draw [([], []), ([0], []), ([], []), ([1], []), ([], []), ([], []), ([0], []), ([], []), ([1], []), ([], []), ([], []), ([0], []), ([], []), ([1], []), ([], []), ([], []), ([], []), ([], [])] mixed (by kernel_rfl) ?_
    refine lex_r rfl rfl (op_fa rfl fo27_0 (ev1 rfl)) ?_
    refine lex_r rfl rfl (op_ldo rfl tb25 (ev1 rfl) rfl rfl) ?_
    refine lex_r rfl rfl (op_fa rfl fo27_0 (ev1 rfl)) ?_
    refine lex_r rfl rfl (op_ldo rfl tb25 (ev1 rfl) rfl rfl) ?_
    refine lex_r rfl rfl (dop_call [] [] [] rfl (ev1 rfl) (ec (ev1 rfl) (ec (ev1 rfl) en)) rfl rfl (cmp_u64 _ _) rfl rfl rfl rfl rfl rfl) ?_
    refine lex_r rfl rfl (op_fa rfl fo27_1 (ev1 rfl)) ?_
    refine lex_r rfl rfl (op_ldo rfl tb3 (ev1 rfl) rfl rfl) ?_
    refine lex_r rfl rfl (op_fa rfl fo27_1 (ev1 rfl)) ?_
    refine lex_r rfl rfl (op_ldo rfl tb3 (ev1 rfl) rfl rfl) ?_
    refine lex_r rfl rfl (dop_call [] [] [] rfl (ev1 rfl) (ec (ev1 rfl) (ec (ev1 rfl) en)) rfl rfl (cmp_i64 _ _) rfl rfl rfl rfl rfl rfl) ?_
    refine lex_r rfl rfl (op_fa rfl fo27_2 (ev1 rfl)) ?_
    refine lex_r rfl rfl (op_ldo rfl tb25 (ev1 rfl) rfl rfl) ?_
    refine lex_r rfl rfl (op_fa rfl fo27_2 (ev1 rfl)) ?_
    refine lex_r rfl rfl (op_ldo rfl tb25 (ev1 rfl) rfl rfl) ?_
    refine lex_r rfl rfl (dop_call [] [] [] rfl (ev1 rfl) (ec (ev1 rfl) (ec (ev1 rfl) en)) rfl rfl (cmp_u64 _ _) rfl rfl rfl rfl rfl rfl) ?_
    refine lex_r rfl rfl (op_bs (ps := [(0, .tmp 12), (1, .tmp 17), (2, .tmp 22)]) rfl sl96 zr3 rfl (vc (ev1 rfl) (vc (ev1 rfl) (vc (ev1 rfl) vn))) rfl (by decide) (by decide)) ?_
    refine lex_r rfl rfl (dop_call [] [] [] rfl (ev1 rfl) (ec (ev1 rfl) en) rfl rfl (or_d [_, _, _]) rfl rfl rfl rfl rfl rfl) ?_
    refine lex_r rfl rfl (op_move (.inr rfl) (ev1 rfl)) ?_
    refine lex_nil ?_
    refine dwp_ret ?_
    refine kend0 (rs1 rfl (rv_t rfl)) rfl ?_
    simp_all [cmpR, eqI]

set_option maxRecDepth 4000 in
set_option maxHeartbeats 1000000 in
theorem lessC_d (a b : I3) : DFun Tryd.prog 15 [idD a, idD b] [] (.val (.bool (lessC a b))) [] := by
  refine dcalls_go (N := 9) 0 (by kernel_rfl) Tryd.func15 rfl rfl rfl (by simp only [fr0, Nat.zero_add, Nat.reduceAdd]; exact rfl) rfl fun s0 hs0 => ?_
  refine dwp_seq ?_
  refine dwp_holes 2 (by simp only [holes, List.cons_append, List.nil_append]; exact rfl) ?_
  refine dwp_region ?_
  refine walk_w rfl rfl rfl (op_boxa 0 rfl (ev1 rfl) rfl) (by simp only [upd, List.set_cons_zero, List.set_cons_succ]; exact rfl) ?_
  refine walk_w rfl rfl rfl (op_boxa 1 rfl (ev1 rfl) rfl) (by simp only [upd, List.set_cons_zero, List.set_cons_succ]; exact rfl) ?_
  refine walk_r rfl rfl rfl (op_move (.inr rfl) (ev1 rfl)) ?_
  refine walk_nil ?_
  refine dwp_seq ?_
  refine dwp_region ?_
  refine walk_r rfl rfl rfl (op_ldw rfl tb27 (ev1 rfl) rfl rfl) ?_
  refine walk_r rfl rfl rfl (op_ldw rfl tb27 (ev1 rfl) rfl rfl) ?_
  refine walk_r rfl rfl rfl (dop_call [] [] [] rfl (ev1 rfl) (ec (ev1 rfl) (ec (ev1 rfl) en)) rfl rfl (compare_d _ _) rfl rfl rfl rfl rfl rfl) ?_
  refine walk_r rfl rfl rfl (op_lss rfl (ev1 rfl) (ev1 rfl)) ?_
  refine walk_r rfl rfl rfl (op_move (.inr rfl) (ev1 rfl)) ?_
  refine walk_nil ?_
  refine dwp_ret ?_
  refine kend0 (rs1 rfl (rv_t rfl)) rfl ?_
  rfl

set_option maxRecDepth 4000 in
set_option maxHeartbeats 1000000 in
theorem sorted1_d (a b : I3) : DFun Tryd.prog 41 [idD a, idD b] [] (.val (.bool (lessC a b))) [] := by
  refine dcalls_go (N := 8) 0 (by kernel_rfl) Tryd.func41 rfl rfl rfl (by simp only [fr0, Nat.zero_add, Nat.reduceAdd]; exact rfl) rfl fun s0 hs0 => ?_
  refine dwp_seq ?_
  refine dwp_holes 2 (by simp only [holes, List.cons_append, List.nil_append]; exact rfl) ?_
  refine dwp_region ?_
  refine walk_w rfl rfl rfl (op_boxa 0 rfl (ev1 rfl) rfl) (by simp only [upd, List.set_cons_zero, List.set_cons_succ]; exact rfl) ?_
  refine walk_w rfl rfl rfl (op_boxa 1 rfl (ev1 rfl) rfl) (by simp only [upd, List.set_cons_zero, List.set_cons_succ]; exact rfl) ?_
  refine walk_r rfl rfl rfl (op_move (.inr rfl) (ev1 rfl)) ?_
  refine walk_nil ?_
  refine dwp_seq ?_
  refine dwp_region ?_
  refine walk_r rfl rfl rfl (op_ldw rfl tb27 (ev1 rfl) rfl rfl) ?_
  refine walk_r rfl rfl rfl (op_ldw rfl tb27 (ev1 rfl) rfl rfl) ?_
  refine walk_r rfl rfl rfl (dop_call [] [] [] rfl (ev1 rfl) (ec (ev1 rfl) (ec (ev1 rfl) en)) rfl rfl (lessC_d _ _) rfl rfl rfl rfl rfl rfl) ?_
  refine walk_r rfl rfl rfl (op_move (.inr rfl) (ev1 rfl)) ?_
  refine walk_nil ?_
  refine dwp_ret ?_
  refine kend0 (rs1 rfl (rv_t rfl)) rfl ?_
  rfl

set_option maxRecDepth 4000 in
set_option maxHeartbeats 1000000 in
theorem sgn_d (a b : I3) : DFun Tryd.prog 57 [idD a, idD b, .dpm [.fn (.func 41) [] []]] [] (.val (.int .i64 (sgnC a b))) [] := by
  refine dcalls_go (N := 16) 0 (by kernel_rfl) Tryd.func57 rfl rfl rfl (by simp only [fr0, Nat.zero_add, Nat.reduceAdd]; exact rfl) rfl fun s0 hs0 => ?_
  refine dwp_seq ?_
  refine dwp_holes 2 (by simp only [holes, List.cons_append, List.nil_append]; exact rfl) ?_
  refine dwp_region ?_
  refine walk_w rfl rfl rfl (op_boxa 0 rfl (ev1 rfl) rfl) (by simp only [upd, List.set_cons_zero, List.set_cons_succ]; exact rfl) ?_
  refine walk_w rfl rfl rfl (op_boxa 1 rfl (ev1 rfl) rfl) (by simp only [upd, List.set_cons_zero, List.set_cons_succ]; exact rfl) ?_
  refine walk_r rfl rfl rfl (op_move (.inr rfl) (ev1 rfl)) ?_
  refine walk_nil ?_
  refine dwp_seq ?_
  refine dwp_block ?_
  refine dwp_seq ?_
  refine dwp_region ?_
  refine walk_r rfl rfl rfl (op_lddm rfl tb31 (ev1 rfl) rfl) ?_
  refine walk_r rfl rfl rfl (op_ldw rfl tb27 (ev1 rfl) rfl rfl) ?_
  refine walk_r rfl rfl rfl (op_ldw rfl tb27 (ev1 rfl) rfl rfl) ?_
  refine walk_r rfl rfl rfl (dop_call [] [] [] rfl (ev1 rfl) (ec (ev1 rfl) (ec (ev1 rfl) en)) rfl rfl (sorted1_d _ _) rfl rfl rfl rfl rfl rfl) ?_
  refine walk_r rfl rfl rfl (op_move (.inr rfl) (ev1 rfl)) ?_
  refine walk_nil ?_
  refine dwp_cond rfl (fun c1 => ?_) (fun c1 => ?_)
  · try simp only [decide_eq_true_eq, decide_eq_false_iff_not, beq_iff_eq, bne_iff_ne, beq_eq_false_iff_ne, bne_eq_false_iff_eq, Bool.not_eq_true', Bool.not_eq_false', Bool.and_eq_true, Bool.or_eq_true, Bool.or_eq_false_iff, ne_eq, Decidable.not_not, Int.not_lt, Int.not_le] at c1
    refine dwp_seq ?_
    refine dwp_region ?_
    refine walk_r rfl rfl rfl (op_move (.inr rfl) (ev1 rfl)) ?_
    refine walk_nil ?_
    refine dwp_ret ?_
    refine kend0 (rs1 rfl (rv_t rfl)) rfl ?_
    simp_all [sgnC]
  · try simp only [decide_eq_true_eq, decide_eq_false_iff_not, beq_iff_eq, bne_iff_ne, beq_eq_false_iff_ne, bne_eq_false_iff_eq, Bool.not_eq_true', Bool.not_eq_false', Bool.and_eq_true, Bool.or_eq_true, Bool.or_eq_false_iff, ne_eq, Decidable.not_not, Int.not_lt, Int.not_le] at c1
    refine dwp_seq ?_
    refine dwp_region ?_
    refine walk_r rfl rfl rfl (op_lddm rfl tb31 (ev1 rfl) rfl) ?_
    refine walk_r rfl rfl rfl (op_ldw rfl tb27 (ev1 rfl) rfl rfl) ?_
    refine walk_r rfl rfl rfl (op_ldw rfl tb27 (ev1 rfl) rfl rfl) ?_
    refine walk_r rfl rfl rfl (dop_call [] [] [] rfl (ev1 rfl) (ec (ev1 rfl) (ec (ev1 rfl) en)) rfl rfl (sorted1_d _ _) rfl rfl rfl rfl rfl rfl) ?_
    refine walk_r rfl rfl rfl (op_move (.inr rfl) (ev1 rfl)) ?_
    refine walk_nil ?_
    refine dwp_cond rfl (fun c2 => ?_) (fun c2 => ?_)
    · try simp only [decide_eq_true_eq, decide_eq_false_iff_not, beq_iff_eq, bne_iff_ne, beq_eq_false_iff_ne, bne_eq_false_iff_eq, Bool.not_eq_true', Bool.not_eq_false', Bool.and_eq_true, Bool.or_eq_true, Bool.or_eq_false_iff, ne_eq, Decidable.not_not, Int.not_lt, Int.not_le] at c2
      refine dwp_seq ?_
      refine dwp_region ?_
      refine walk_r rfl rfl rfl (op_move (.inr rfl) (ev1 rfl)) ?_
      refine walk_nil ?_
      refine dwp_ret ?_
      refine kend0 (rs1 rfl (rv_t rfl)) rfl ?_
      simp_all [sgnC]
    · try simp only [decide_eq_true_eq, decide_eq_false_iff_not, beq_iff_eq, bne_iff_ne, beq_eq_false_iff_ne, bne_eq_false_iff_eq, Bool.not_eq_true', Bool.not_eq_false', Bool.and_eq_true, Bool.or_eq_true, Bool.or_eq_false_iff, ne_eq, Decidable.not_not, Int.not_lt, Int.not_le] at c2
      refine dwp_skip ?_
      refine dwp_seq ?_
      refine dwp_region ?_
      refine walk_r rfl rfl rfl (op_move (.inr rfl) (ev1 rfl)) ?_
      refine walk_nil ?_
      refine dwp_ret ?_
      refine kend0 (rs1 rfl (rv_t rfl)) rfl ?_
      simp_all [sgnC]

set_option maxRecDepth 4000 in
set_option maxHeartbeats 1000000 in
theorem insertion_d (l : List I3) : DFun Tryd.prog 69 [.arr 0, .val (.int .i64 0), .val (.int .i64 (l.length : Int)), .fn (.func 57) [] [.dpm [.fn (.func 41) [] []]]] [.arr 27 3 l.length ((l).flatMap idc)] (.tup []) [.arr 27 3 l.length ((isortC l).flatMap idc)] := by
  refine dcalls_go (N := 53) 1 (by kernel_rfl) Tryd.func69 rfl rfl rfl (by simp only [fr0, Nat.zero_add, Nat.reduceAdd]; exact rfl) rfl fun s0 hs0 => ?_
  refine dwp_lena (i := 0) rfl fun hl0 hL0 => ?_
  refine dwp_seq ?_
  refine dwp_region ?_
  refine walk_r rfl rfl rfl (op_move (.inl rfl) (ev1 rfl)) ?_
  refine walk_r rfl rfl rfl (op_add' rfl (ev1 rfl) (ev1 rfl) (fun _ => rfl)) ?_
  refine walk_r rfl rfl rfl (op_move (.inr rfl) (ev1 rfl)) ?_
  refine walk_nil ?_
  refine dwp_block ?_
  refine dwp_loopS ⟨hs0, rfl⟩ (α := Nat × List I3) (fun x => [(8, .val (.int .i64 (x.1 : Int)))]) [(0, _), (1, _), (2, _), (3, _)] (fun x => [(0, .arr 27 3 l.length ((x.2).flatMap idc))]) [.hole] (fun x => 1 ≤ x.1 ∧ x.2.length = l.length ∧ srt (l.length - x.1) x.1 x.2 = isortC l) (fun x => l.length - x.1) (1, l) [0] (⟨by omega, rfl, rfl⟩) rfl ⟨rfl, rfl, rfl, rfl, trivial⟩ ⟨rfl, trivial⟩ ⟨rfl, trivial⟩ ?_
  intro x hx
  simp only [upd, List.set_cons_zero, List.set_cons_succ, List.cons_append, List.nil_append]
  obtain ⟨i, l1⟩ := x
  obtain ⟨h1, h2, h3⟩ := hx
  dsimp only at h1 h2 h3 ⊢
  refine dwp_seq ?_
  refine dwp_seq ?_
  refine dwp_region ?_
  refine walk_r rfl rfl rfl (op_move (.inl rfl) (ev1 rfl)) ?_
  refine walk_r rfl rfl rfl (op_move (.inl rfl) (ev1 rfl)) ?_
  refine walk_r rfl rfl rfl (op_lss rfl (ev1 rfl) (ev1 rfl)) ?_
  refine walk_nil ?_
  refine dwp_cond rfl (fun c1 => ?_) (fun c1 => ?_)
  · try simp only [decide_eq_true_eq, decide_eq_false_iff_not, beq_iff_eq, bne_iff_ne, beq_eq_false_iff_ne, bne_eq_false_iff_eq, Bool.not_eq_true', Bool.not_eq_false', Bool.and_eq_true, Bool.or_eq_true, Bool.or_eq_false_iff, ne_eq, Decidable.not_not, Int.not_lt, Int.not_le] at c1
    refine dwp_skip ?_
    refine dwp_seq ?_
    refine dwp_block ?_
    refine dwp_seq ?_
    refine dwp_region ?_
    refine walk_r rfl rfl rfl (op_move (.inl rfl) (ev1 rfl)) ?_
    refine walk_r rfl rfl rfl (op_move (.inr rfl) (ev1 rfl)) ?_
    refine walk_nil ?_
    refine dwp_block ?_
    refine dwp_loopS ⟨hs0, rfl⟩ (α := Nat × List I3) (fun y => [(9, .val (.int .i64 (y.1 : Int)))]) [(0, _), (1, _), (2, _), (3, _), (8, _)] (fun y => [(0, .arr 27 3 l.length ((y.2).flatMap idc))]) [.hole] (fun y => y.1 < y.2.length ∧ y.2.length = l.length ∧ sink y.1 y.2 = sink i l1) (fun y => y.1) (i, l1) [0] (⟨by dsimp only; omega, h2, rfl⟩) rfl ⟨rfl, rfl, rfl, rfl, rfl, trivial⟩ ⟨rfl, trivial⟩ ⟨rfl, trivial⟩ ?_
    intro y hx
    simp only [upd, List.set_cons_zero, List.set_cons_succ, List.cons_append, List.nil_append]
    obtain ⟨j, l2⟩ := y
    obtain ⟨g1, g2, g3⟩ := hx
    dsimp only at g1 g2 g3 ⊢
    refine dwp_seq ?_
    refine dwp_seq ?_
    refine dwp_draw [([], []), ([], []), ([], []), ([], []), ([], []), ([], []), ([], []), ([0], []), ([0], []), ([], []), ([], []), ([], []), ([0], []), ([0], []), ([], []), ([], []), ([], [])] mixed (by kernel_rfl) ?_
    refine lex_r rfl rfl (op_move (.inl rfl) (ev1 rfl)) ?_
    refine lex_r rfl rfl (op_move (.inl rfl) (ev1 rfl)) ?_
    refine lex_r rfl rfl (op_gtr rfl (ev1 rfl) (ev1 rfl)) ?_
    refine lex_r rfl rfl (op_move (.inl rfl) (ev1 rfl)) ?_
    refine lex_gr (gd_t rfl rfl rfl) rfl rfl (op_move (.inl rfl) (ev1 rfl)) ?_
    refine lex_gr (gd_t rfl rfl rfl) rfl rfl (op_move (.inl rfl) (ev1 rfl)) ?_
    refine lex_gr (gd_t rfl rfl rfl) rfl rfl (op_move (.inl rfl) (ev1 rfl)) ?_
    refine lex_gr (gd_t rfl rfl rfl) rfl rfl (op_ixar (j := j) rfl sl22 (ev2 rfl) (ev2 rfl) rfl (fun hp => by first | rfl | omega | (simp at hp; omega)) (fun hp => by first | omega | (simp at hp; omega))) ?_
    refine lex_gr (gd_t rfl rfl rfl) rfl rfl (op_ldar rfl tb27 (ev2 rfl) rfl (fun _ => rfl) (by omega)) ?_
    refine lex_gr (gd_t rfl rfl rfl) rfl rfl (op_move (.inl rfl) (ev1 rfl)) ?_
    refine lex_gr (gd_t rfl rfl rfl) rfl rfl (op_move (.inl rfl) (ev1 rfl)) ?_
    refine lex_gr (gd_t rfl rfl rfl) rfl rfl (op_sub' rfl (ev2 rfl) (ev1 rfl) (fun hp => IntWalk.i64_in _ (by first | omega | (simp at hp; omega)))) ?_
    refine lex_gr (gd_t rfl rfl rfl) rfl rfl (op_ixar (j := j - 1) rfl sl22 (ev2 rfl) (ev2 rfl) rfl (fun hp => by first | rfl | omega | (simp at hp; omega)) (fun hp => by first | omega | (simp at hp; omega))) ?_
    refine lex_gr (gd_t rfl rfl rfl) rfl rfl (op_ldar rfl tb27 (ev2 rfl) rfl (fun _ => rfl) (by omega)) ?_
    refine lex_gr (gd_t rfl rfl rfl) rfl rfl (dop_call [] [] [] rfl (ev2 rfl) (ec (ev2 rfl) (ec (ev2 rfl) en)) rfl rfl (sgn_d _ _) rfl rfl rfl rfl rfl rfl) ?_
    refine lex_gr (gd_t rfl rfl rfl) rfl rfl (op_lss rfl (ev2 rfl) (ev1 rfl)) ?_
    refine lex_r rfl rfl (op_and rfl (ev1 rfl) (ev3 rfl id)) ?_
    refine lex_nil ?_
    refine dwp_cond rfl (fun c2 => ?_) (fun c2 => ?_)
    · try simp only [decide_eq_true_eq, decide_eq_false_iff_not, beq_iff_eq, bne_iff_ne, beq_eq_false_iff_ne, bne_eq_false_iff_eq, Bool.not_eq_true', Bool.not_eq_false', Bool.and_eq_true, Bool.or_eq_true, Bool.or_eq_false_iff, ne_eq, Decidable.not_not, Int.not_lt, Int.not_le] at c2
      refine dwp_skip ?_
      refine dwp_seq ?_
      refine dwp_block ?_
      refine dwp_draw [([], []), ([], []), ([], []), ([], []), ([], []), ([], []), ([], []), ([], []), ([0], []), ([0], []), ([], []), ([], []), ([0], []), ([0], []), ([0], []), ([0], [0]), ([0], []), ([0], [0])] mixed (by kernel_rfl) ?_
      refine lex_r rfl rfl (op_move (.inl rfl) (ev1 rfl)) ?_
      refine lex_r rfl rfl (op_move (.inl rfl) (ev1 rfl)) ?_
      refine lex_r rfl rfl (op_move (.inl rfl) (ev1 rfl)) ?_
      refine lex_r rfl rfl (op_move (.inl rfl) (ev1 rfl)) ?_
      refine lex_r rfl rfl (op_sub' rfl (ev1 rfl) (ev1 rfl) (fun _ => IntWalk.i64_in _ (by omega))) ?_
      refine lex_r rfl rfl (op_move (.inl rfl) (ev1 rfl)) ?_
      refine lex_r rfl rfl (op_move (.inl rfl) (ev1 rfl)) ?_
      refine lex_r rfl rfl (op_sub' rfl (ev1 rfl) (ev1 rfl) (fun _ => IntWalk.i64_in _ (by omega))) ?_
      refine lex_r rfl rfl (op_ixar (j := j - 1) rfl sl22 (ev1 rfl) (ev1 rfl) rfl (fun _ => by first | rfl | omega) (fun _ => by omega)) ?_
      refine lex_r rfl rfl (op_ldar rfl tb27 (ev1 rfl) rfl (fun _ => rfl) (by omega)) ?_
      refine lex_r rfl rfl (op_move (.inl rfl) (ev1 rfl)) ?_
      refine lex_r rfl rfl (op_move (.inl rfl) (ev1 rfl)) ?_
      refine lex_r rfl rfl (op_ixar rfl sl22 (ev1 rfl) (ev1 rfl) rfl (fun _ => by first | rfl | omega) (fun _ => by omega)) ?_
      refine lex_r rfl rfl (op_ldar rfl tb27 (ev1 rfl) rfl (fun _ => rfl) (by omega)) ?_
      refine lex_r rfl rfl (op_ixar rfl sl22 (ev1 rfl) (ev1 rfl) rfl (fun _ => by first | rfl | omega) (fun _ => by omega)) ?_
      refine lex_s rfl rfl (op_star rfl tb27 (ev1 rfl) rfl (ev1 rfl) (fun _ => rfl) (by first | omega | (simp only [List.length_set]; omega)) rfl) rfl (by simp only [upd, List.set_cons_zero, List.set_cons_succ]; exact rfl) ?_
      refine lex_r rfl rfl (op_ixar (j := j - 1) rfl sl22 (ev1 rfl) (ev1 rfl) rfl (fun _ => by first | rfl | omega) (fun _ => by omega)) ?_
      refine lex_s rfl rfl (op_star rfl tb27 (ev1 rfl) rfl (ev1 rfl) (fun _ => rfl) (by first | omega | (simp only [List.length_set]; omega)) rfl) rfl (by simp only [upd, List.set_cons_zero, List.set_cons_succ]; exact rfl) ?_
      refine lex_nil ?_
      refine dwp_region ?_
      refine walk_r rfl rfl rfl (op_move (.inl rfl) (ev1 rfl)) ?_
      refine walk_r rfl rfl rfl (op_sub' rfl (ev1 rfl) (ev1 rfl) (fun _ => IntWalk.i64_in _ (by omega))) ?_
      refine walk_r rfl rfl rfl (op_move (.inr rfl) (ev1 rfl)) ?_
      refine walk_nil ?_
      refine ⟨(j - 1, (l2.set j l2[j - 1]).set (j - 1) l2[j]), [0], ⟨by simp; omega, by simp [g2], by rw [← g3, sink_go (by omega) g1 c2.2]⟩, by simp only []; omega, rfl, ⟨by simp only [lk_cons]; simp [vw]; omega, rfl, rfl, rfl, rfl, rfl, trivial⟩, ⟨rfl, trivial⟩⟩
    · try simp only [decide_eq_true_eq, decide_eq_false_iff_not, beq_iff_eq, bne_iff_ne, beq_eq_false_iff_ne, bne_eq_false_iff_eq, Bool.not_eq_true', Bool.not_eq_false', Bool.and_eq_true, Bool.or_eq_true, Bool.or_eq_false_iff, ne_eq, Decidable.not_not, Int.not_lt, Int.not_le] at c2
      have e2 : l2 = sink i l1 := by
        rw [← g3, sink_stop]
        by_cases hj : 0 < j
        · exact .inr ⟨g1, by simp_all⟩
        · exact .inl hj
      subst e2
      refine dwp_exit ?_
      refine dwp_region ?_
      refine walk_r rfl rfl rfl (op_move (.inl rfl) (ev1 rfl)) ?_
      refine walk_r rfl rfl rfl (op_add' rfl (ev1 rfl) (ev1 rfl) (fun _ => IntWalk.i64_in _ (by omega))) ?_
      refine walk_r rfl rfl rfl (op_move (.inr rfl) (ev1 rfl)) ?_
      refine walk_nil ?_
      refine ⟨(i + 1, sink i l1), [0], ⟨by omega, (sink_len i l1).trans h2, by rw [← h3, show l.length - i = (l.length - (i + 1)) + 1 by omega, srt]⟩, by simp only []; omega, rfl, ⟨rfl, rfl, rfl, rfl, rfl, trivial⟩, ⟨rfl, trivial⟩⟩
  · try simp only [decide_eq_true_eq, decide_eq_false_iff_not, beq_iff_eq, bne_iff_ne, beq_eq_false_iff_ne, bne_eq_false_iff_eq, Bool.not_eq_true', Bool.not_eq_false', Bool.and_eq_true, Bool.or_eq_true, Bool.or_eq_false_iff, ne_eq, Decidable.not_not, Int.not_lt, Int.not_le] at c1
    have e1 : l1 = isortC l := by rw [← h3, show l.length - i = 0 by omega, srt]
    subst e1
    refine dwp_exit ?_
    refine kend [0] (res_none rfl) rfl rfl ?_ ⟨rfl, trivial⟩
    rfl

end Go.Proofs.YtaekkjhpdendoaaDoor
