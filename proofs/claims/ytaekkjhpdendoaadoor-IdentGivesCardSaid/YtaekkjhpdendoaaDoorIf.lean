/- what rises, told by a function over which one ranges; rows in the order of the document -/
import Derived.Test.YtaekkjhpdendoaaDoorIe
namespace Go.Proofs.YtaekkjhpdendoaaDoor
set_option linter.unusedVariables false
set_option linter.unusedSimpArgs false
open Go.RowKit

noncomputable def risA : Code := rfA (pth [1, 0, 1, 1, 0, 1, 0] (bodyOf Tryd.f19))
noncomputable def risB : Code := rfB (pth [1, 0, 1, 1, 0, 1, 0] (bodyOf Tryd.f19))

set_option maxRecDepth 4000 in
set_option maxHeartbeats 1000000 in
theorem risRound_true (a b : I3) (h : lessC a b = true) : DRound Tryd.prog 0 [idD a, idD b] [.lp 15 [(3, .loc 1 0)] #[8, 9] risA risB .ready none, .flat 4 [.bool true]] true [.lp 15 [(3, .loc 1 0)] #[8, 9] risA risB .ready none, .flat 4 [.bool true]] := by
  refine dround_go 2 rfl rfl (by simp) rfl rfl fun s0 hs0 => ?_
  refine dwp_seq ?_
  refine dwp_holes 1 (by simp only [holes, List.cons_append, List.nil_append]; exact rfl) ?_
  refine dwp_region ?_
  refine walk_w rfl rfl rfl (op_alloc 2 rfl zr27 rfl) (by simp only [upd, List.set_cons_zero, List.set_cons_succ]; exact rfl) ?_
  refine walk_s rfl rfl (op_stwa rfl tb27 (ev1 rfl) (ev1 rfl) rfl rfl rfl rfl) (by simp only [upd, List.set_cons_zero, List.set_cons_succ]; exact rfl) ?_
  refine walk_nil ?_
  refine dwp_holes 1 (by simp only [holes, List.cons_append, List.nil_append]; exact rfl) ?_
  refine dwp_region ?_
  refine walk_w rfl rfl rfl (op_alloc 3 rfl zr27 rfl) (by simp only [upd, List.set_cons_zero, List.set_cons_succ]; exact rfl) ?_
  refine walk_s rfl rfl (op_stwa rfl tb27 (ev1 rfl) (ev1 rfl) rfl rfl rfl rfl) (by simp only [upd, List.set_cons_zero, List.set_cons_succ]; exact rfl) ?_
  refine walk_nil ?_
  refine ⟨rfl, ?_⟩
  simp only [List.set_cons_zero, List.set_cons_succ]
  refine dwp_block ?_
  refine dwp_seq ?_
  refine dwp_region ?_
  refine walk_r rfl rfl rfl (op_ldw rfl tb27 (ev1 rfl) rfl rfl) ?_
  refine walk_r rfl rfl rfl (op_ldw rfl tb27 (ev1 rfl) rfl rfl) ?_
  refine walk_r rfl rfl rfl (dop_call [] [] [] rfl (ev1 rfl) (ec (ev1 rfl) (ec (ev1 rfl) en)) rfl rfl (lessC_d _ _) rfl rfl rfl rfl rfl rfl) ?_
  refine walk_r rfl rfl rfl (op_not rfl (ev1 rfl)) ?_
  refine walk_nil ?_
  refine dwp_cond rfl (fun c1 => ?_) (fun c1 => ?_)
  · exact absurd (bn_t c1) (by simp [h])
  · refine dwp_skip ?_
    refine ⟨by first | rfl | assumption | simp_all, rfl, [0, 1], rfl, ⟨rfl, rfl, trivial⟩⟩

set_option maxRecDepth 4000 in
set_option maxHeartbeats 1000000 in
theorem risRound_false (a b : I3) (h : lessC a b = false) : DRound Tryd.prog 0 [idD a, idD b] [.lp 15 [(3, .loc 1 0)] #[8, 9] risA risB .ready none, .flat 4 [.bool true]] false [.lp 15 [(3, .loc 1 0)] #[8, 9] risA risB .done (some (.exit 0)), .flat 4 [.bool false]] := by
  refine dround_go 2 rfl rfl (by simp) rfl rfl fun s0 hs0 => ?_
  refine dwp_seq ?_
  refine dwp_holes 1 (by simp only [holes, List.cons_append, List.nil_append]; exact rfl) ?_
  refine dwp_region ?_
  refine walk_w rfl rfl rfl (op_alloc 2 rfl zr27 rfl) (by simp only [upd, List.set_cons_zero, List.set_cons_succ]; exact rfl) ?_
  refine walk_s rfl rfl (op_stwa rfl tb27 (ev1 rfl) (ev1 rfl) rfl rfl rfl rfl) (by simp only [upd, List.set_cons_zero, List.set_cons_succ]; exact rfl) ?_
  refine walk_nil ?_
  refine dwp_holes 1 (by simp only [holes, List.cons_append, List.nil_append]; exact rfl) ?_
  refine dwp_region ?_
  refine walk_w rfl rfl rfl (op_alloc 3 rfl zr27 rfl) (by simp only [upd, List.set_cons_zero, List.set_cons_succ]; exact rfl) ?_
  refine walk_s rfl rfl (op_stwa rfl tb27 (ev1 rfl) (ev1 rfl) rfl rfl rfl rfl) (by simp only [upd, List.set_cons_zero, List.set_cons_succ]; exact rfl) ?_
  refine walk_nil ?_
  refine ⟨rfl, ?_⟩
  simp only [List.set_cons_zero, List.set_cons_succ]
  refine dwp_block ?_
  refine dwp_seq ?_
  refine dwp_region ?_
  refine walk_r rfl rfl rfl (op_ldw rfl tb27 (ev1 rfl) rfl rfl) ?_
  refine walk_r rfl rfl rfl (op_ldw rfl tb27 (ev1 rfl) rfl rfl) ?_
  refine walk_r rfl rfl rfl (dop_call [] [] [] rfl (ev1 rfl) (ec (ev1 rfl) (ec (ev1 rfl) en)) rfl rfl (lessC_d _ _) rfl rfl rfl rfl rfl rfl) ?_
  refine walk_r rfl rfl rfl (op_not rfl (ev1 rfl)) ?_
  refine walk_nil ?_
  refine dwp_cond rfl (fun c1 => ?_) (fun c1 => ?_)
  · refine dwp_seq ?_
    refine dwp_region ?_
    refine walk_s rfl rfl (op_stwb rfl tb4 (ev1 rfl) (ev1 rfl) rfl) (by simp only [upd, List.set_cons_zero, List.set_cons_succ]; exact rfl) ?_
    refine walk_nil ?_
    refine dwp_exit ?_
    refine ⟨by first | rfl | assumption | simp_all, rfl, [0, 1], rfl, ⟨rfl, rfl, trivial⟩⟩
  · exact absurd (bn_f c1) (by simp [h])

theorem risRound (a b : I3) : DRound Tryd.prog 0 [idD a, idD b] [.lp 15 [(3, .loc 1 0)] #[8, 9] risA risB .ready none, .flat 4 [.bool true]] (lessC a b) [.lp 15 [(3, .loc 1 0)] #[8, 9] risA risB (rst (lessC a b)) (rpe (.exit 0) (lessC a b)), .flat 4 [.bool (lessC a b)]] := by
  cases h : lessC a b
  · exact risRound_false a b h
  · exact risRound_true a b h

set_option maxRecDepth 4000 in
set_option maxHeartbeats 1000000 in
theorem pairs_d (l : List I3) : DFun Tryd.prog 42 [rowD l] [] (.fn (.func 58) [] [.dpm [rowD l]]) [] := by
  refine dcalls_go (N := 4) 0 (by kernel_rfl) Tryd.func42 rfl rfl rfl (by simp only [fr0, Nat.zero_add, Nat.reduceAdd]; exact rfl) rfl fun s0 hs0 => ?_
  refine dwp_len (t := 0) rfl fun hl0 hL0 => ?_
  refine dwp_seq ?_
  refine dwp_holes 1 (by simp only [holes, List.cons_append, List.nil_append]; exact rfl) ?_
  refine dwp_region ?_
  refine walk_w rfl rfl rfl (op_boxm 0 rfl (ev1 rfl) (fun s v h => by cases h <;> rfl) rfl) (by simp only [upd, List.set_cons_zero, List.set_cons_succ]; exact rfl) ?_
  refine walk_r rfl rfl rfl (op_move (.inr rfl) (ev1 rfl)) ?_
  refine walk_nil ?_
  refine dwp_seq ?_
  refine dwp_region ?_
  refine walk_r rfl rfl rfl (op_mkf rfl en (ec (ev1 rfl) en)) ?_
  refine walk_r rfl rfl rfl (op_move (.inr rfl) (ev1 rfl)) ?_
  refine walk_nil ?_
  refine dwp_ret ?_
  refine kend0 (rs1 rfl (rv_t rfl)) rfl ?_
  rfl

set_option maxRecDepth 4000 in
set_option maxHeartbeats 1000000 in
theorem pairs1_d (l : List I3) (hl : l.length ≤ 9223372036854775807) : DFun Tryd.prog 58 [.yld 0, .dpm [rowD l]] [.lp 15 [(3, .loc 1 0)] #[8, 9] risA risB .ready none, .flat 4 [.bool true]] (.tup []) [.lp 15 [(3, .loc 1 0)] #[8, 9] risA risB (rst (ris l)) (rpe (.exit 0) (ris l)), .flat 4 [.bool (ris l)]] := by
  refine dcalls_go (N := 22) 2 (by kernel_rfl) Tryd.func58 rfl rfl rfl (by simp only [fr0, Nat.zero_add, Nat.reduceAdd]; exact rfl) rfl fun s0 hs0 => ?_
  refine dwp_seq ?_
  refine dwp_region ?_
  refine walk_r rfl rfl rfl (op_move (.inr rfl) (ev1 rfl)) ?_
  refine walk_nil ?_
  refine dwp_block ?_
  refine dwp_loopS ⟨hs0, rfl⟩ (α := Nat) (fun k => [(3, .val (.int .i64 (k : Int)))]) [(0, _), (1, _)] (fun k => []) [_, _] (fun k => 1 ≤ k ∧ (k ≤ l.length ∨ k = 1) ∧ ris l = ris (l.drop (k - 1))) (fun k => l.length - k) 1 [0, 1] (by simp) rfl ⟨rfl, rfl, trivial⟩ ⟨rfl, trivial⟩ ⟨rfl, rfl, trivial⟩ ?_
  intro k hx
  simp only [upd, List.set_cons_zero, List.set_cons_succ, List.cons_append, List.nil_append]
  obtain ⟨hk, hk2, he⟩ := hx
  refine dwp_seq ?_
  refine dwp_seq ?_
  refine dwp_region ?_
  refine walk_r rfl rfl rfl (op_move (.inl rfl) (ev1 rfl)) ?_
  refine walk_r rfl rfl rfl (op_lddm rfl tb22 (ev1 rfl) rfl) ?_
  refine walk_r rfl rfl rfl (op_len rfl sl22 (ev1 rfl)) ?_
  refine walk_r rfl rfl rfl (op_lss rfl (ev1 rfl) (ev1 rfl)) ?_
  refine walk_nil ?_
  refine dwp_cond rfl (fun c1 => ?_) (fun c1 => ?_)
  · try simp only [decide_eq_true_eq, decide_eq_false_iff_not, beq_iff_eq, bne_iff_ne, beq_eq_false_iff_ne, bne_eq_false_iff_eq, Bool.not_eq_true', Bool.not_eq_false', Bool.and_eq_true, Bool.or_eq_true, Bool.or_eq_false_iff, ne_eq, Decidable.not_not, Int.not_lt, Int.not_le] at c1
    refine dwp_skip ?_
    refine dwp_seq ?_
    refine dwp_block ?_
    refine dwp_seq ?_
    refine dwp_draw [([], []), ([], []), ([], []), ([], []), ([], []), ([], []), ([], []), ([], []), ([], []), ([], []), ([0, 1], [0, 1]), ([], [])] mixed (by kernel_rfl) ?_
    refine lex_r rfl rfl (op_move (.inl rfl) (ev1 rfl)) ?_
    refine lex_r rfl rfl (op_lddm rfl tb22 (ev1 rfl) rfl) ?_
    refine lex_r rfl rfl (op_move (.inl rfl) (ev1 rfl)) ?_
    refine lex_r rfl rfl (op_sub' rfl (ev1 rfl) (ev1 rfl) (fun _ => IntWalk.i64_in _ (by omega))) ?_
    refine lex_r rfl rfl (op_ixsr (j := k - 1) rfl sl22 (ev1 rfl) (ev1 rfl) (fun _ => rfl) (by decide) (by omega) (by omega)) ?_
    refine lex_r rfl rfl (op_ldwd rfl tb27 (ev1 rfl) rfl) ?_
    refine lex_r rfl rfl (op_lddm rfl tb22 (ev1 rfl) rfl) ?_
    refine lex_r rfl rfl (op_move (.inl rfl) (ev1 rfl)) ?_
    refine lex_r rfl rfl (op_ixsr (j := k) rfl sl22 (ev1 rfl) (ev1 rfl) (fun _ => rfl) (by decide) (by omega) (by omega)) ?_
    refine lex_r rfl rfl (op_ldwd rfl tb27 (ev1 rfl) rfl) ?_
    refine lex_w rfl rfl (op_y (i := 0) [0, 1] [] [] rfl (ev1 rfl) (ec (ev1 rfl) (ec (ev1 rfl) en)) rfl rfl rfl (risRound _ _) rfl rfl rfl rfl rfl) rfl (by simp only [upd, List.set_cons_zero, List.set_cons_succ]; exact rfl) ?_
    refine lex_r rfl rfl (op_not rfl (ev1 rfl)) ?_
    refine lex_nil ?_
    refine dwp_cond rfl (fun c2 => ?_) (fun c2 => ?_)
    · try simp only [decide_eq_true_eq, decide_eq_false_iff_not, beq_iff_eq, bne_iff_ne, beq_eq_false_iff_ne, bne_eq_false_iff_eq, Bool.not_eq_true', Bool.not_eq_false', Bool.and_eq_true, Bool.or_eq_true, Bool.or_eq_false_iff, ne_eq, Decidable.not_not, Int.not_lt, Int.not_le] at c2
      refine dwp_ret ?_
      have e2 : ris l = false := by
        rw [he, ris_drop (by omega), ← lessC_eq]
        simp_all [show k - 1 + 1 = k by omega]
      rw [e2, c2]
      refine kend [0, 1] (res_none rfl) rfl rfl ?_ ⟨rfl, rfl, trivial⟩
      rfl
    · try simp only [decide_eq_true_eq, decide_eq_false_iff_not, beq_iff_eq, bne_iff_ne, beq_eq_false_iff_ne, bne_eq_false_iff_eq, Bool.not_eq_true', Bool.not_eq_false', Bool.and_eq_true, Bool.or_eq_true, Bool.or_eq_false_iff, ne_eq, Decidable.not_not, Int.not_lt, Int.not_le] at c2
      refine dwp_skip ?_
      refine dwp_region ?_
      refine walk_r rfl rfl rfl (op_move (.inl rfl) (ev1 rfl)) ?_
      refine walk_r rfl rfl rfl (op_add' rfl (ev1 rfl) (ev1 rfl) (fun _ => IntWalk.i64_in _ (by omega))) ?_
      refine walk_r rfl rfl rfl (op_move (.inr rfl) (ev1 rfl)) ?_
      refine walk_nil ?_
      have e2 : ris l = ris (l.drop k) := by
        rw [he, ris_drop (by omega), ← lessC_eq]
        simp_all [show k - 1 + 1 = k by omega]
      rw [c2]
      refine ⟨k + 1, [0, 1], ⟨by omega, by omega, e2⟩, by simp only []; omega, rfl, ⟨rfl, rfl, rfl, trivial⟩, ⟨rfl, rfl, trivial⟩⟩
  · try simp only [decide_eq_true_eq, decide_eq_false_iff_not, beq_iff_eq, bne_iff_ne, beq_eq_false_iff_ne, bne_eq_false_iff_eq, Bool.not_eq_true', Bool.not_eq_false', Bool.and_eq_true, Bool.or_eq_true, Bool.or_eq_false_iff, ne_eq, Decidable.not_not, Int.not_lt, Int.not_le] at c1
    refine dwp_exit ?_
    rw [he, ris_end (by omega)]
    refine kend [0, 1] (res_none rfl) rfl rfl ?_ ⟨rfl, rfl, trivial⟩
    rfl

set_option maxRecDepth 4000 in
set_option maxHeartbeats 1000000 in
theorem rising_d (l : List I3) : DFun Tryd.prog 19 [rowD l] [] (.val (.bool (ris l))) [] := by
  refine dcalls_go (N := 15) 0 (by kernel_rfl) Tryd.func19 rfl rfl rfl (by simp only [fr0, Nat.zero_add, Nat.reduceAdd]; exact rfl) rfl fun s0 hs0 => ?_
  refine dwp_len (t := 0) rfl fun hl0 hL0 => ?_
  refine dwp_seq ?_
  refine dwp_region ?_
  refine walk_r rfl rfl rfl (op_move (.inr rfl) (ev1 rfl)) ?_
  refine walk_nil ?_
  refine dwp_scope ?_
  refine dwp_seq ?_
  refine dwp_holes 1 (by simp only [holes, List.cons_append, List.nil_append]; exact rfl) ?_
  refine dwp_region ?_
  refine walk_w rfl rfl rfl (op_alloc 0 rfl zr4 rfl) (by simp only [upd, List.set_cons_zero, List.set_cons_succ]; exact rfl) ?_
  refine walk_s rfl rfl (op_stwb rfl tb4 (ev1 rfl) (ev1 rfl) rfl) (by simp only [upd, List.set_cons_zero, List.set_cons_succ]; exact rfl) ?_
  refine walk_nil ?_
  refine dwp_seq ?_
  refine dwp_label ?_
  refine dwp_seq ?_
  refine dwp_seq ?_
  refine dwp_region ?_
  refine walk_r rfl rfl rfl (op_move (.inl rfl) (ev1 rfl)) ?_
  refine walk_r rfl rfl rfl (dop_call [] [] [] rfl (ev1 rfl) (ec (ev1 rfl) en) rfl rfl (pairs_d _) rfl rfl rfl rfl rfl rfl) ?_
  refine walk_nil ?_
  refine dwp_block ?_
  refine dwp_hole ?_
  simp only [List.cons_append, List.nil_append]
  refine dwp_rf (FL := [(3, _)]) (st := (rst (ris l))) (pe := (rpe (.exit 0) (ris l))) [1, 0] [] [] 1 rfl rfl (ev1 rfl) rfl (subF_lk ⟨rfl, trivial⟩) rfl rfl rfl (pairs1_d l hl0) rfl rfl rfl rfl rfl rfl rfl (rst_busy _) (fun e => ?_) (fun c e => ?_)
  · simp only [upd, List.set_cons_zero, List.set_cons_succ]
    refine dwp_seq ?_
    refine dwp_region ?_
    refine walk_r rfl rfl rfl (op_ldo rfl tb4 (ev1 rfl) rfl rfl) ?_
    refine walk_r rfl rfl rfl (op_move (.inr rfl) (ev1 rfl)) ?_
    refine walk_nil ?_
    refine dwp_ret ?_
    refine kend0 (rs1 rfl (rv_t rfl)) rfl ?_
    rfl
  · obtain ⟨e1, rfl⟩ : ris l = false ∧ c = .exit 0 := by
      cases h : ris l <;> simp_all [rpe]
    simp only [upd, List.set_cons_zero, List.set_cons_succ]
    refine dwp_exit ?_
    refine dwp_seq ?_
    refine dwp_region ?_
    refine walk_r rfl rfl rfl (op_ldo rfl tb4 (ev1 rfl) rfl rfl) ?_
    refine walk_r rfl rfl rfl (op_move (.inr rfl) (ev1 rfl)) ?_
    refine walk_nil ?_
    refine dwp_ret ?_
    refine kend0 (rs1 rfl (rv_t rfl)) rfl ?_
    rfl

end Go.Proofs.YtaekkjhpdendoaaDoor
